import PyProof.Rows.All
import Wide.All
import OpenK.AllK
import Wide.FinOn
import HandS.ForMost
import HandS.AnyAll
import HandS.GenList
import HandS.IsInst
import HandS.Zip
import HandS.Deep
import HandS.StrMore
import HandS.Codes
import HandS.FStr
import KE.KDictZip
import HandS.SortOrd
import KE.KMinKey
import KE.LtData
import HandS.NamedTupSort
import HandS.Gcd
import HandS.Flow
import HandS.More
import HandS.Iter
import HandS.Conv
import PyProof.Rows.ChunkLeaf
import HandS.Lambda
import HandS.SortRule
import KE.KSortTup
import HandS.Style
import HandS.EndTab
import PySem.Challenge.RW_runsorts_k04_whole_what_runs_are
set_option Elab.async false
set_option maxRecDepth 100000
set_option maxHeartbeats 4000000
namespace GX
open PySem PySem.Spec PyProof.Rows L2

/-- the table of a def's code objects, whatever has come into it -/
def TabE (P : Addr) : Heap → Prop := fun g =>
  ∃ rs : Array Value, g.get? P = some { cls := .none, data := .fields rs } ∧ TriplesOk rs.toList
def Tab (H : Hp) (P : Addr) : Prop := H P = some (.ext (TabE P))
theorem tabE_stable {P : Addr} : ∀ g1 g2 : Heap, TabE P g1 → (∀ o, g1.get? P = some o → g2.get? P = some o) → TabE P g2 :=
  fun _ _ ⟨rs, e, t⟩ k => ⟨rs, k _ e, t⟩

section
variable {X : Cx} {pins : List (Addr × Obj)} {σ : L2.St} {H : Hp} {s : Shared}

/-- the table has grown; what else stood is kept -/
theorem tab_grown {P : Addr} {rs : Array Value} {g : Heap} {G : Array GenState} {dd : Drawn} {tk : Nat}
    (I : Inv X pins σ H s) (hP : Tab H P)
    (kp : ∀ b o, b ≠ P → s.heap.get? b = some o → g.get? b = some o)
    (at_ : g.get? P = some { cls := .none, data := .fields rs }) (ht : TriplesOk rs.toList) (hG : AllBare G) :
    Inv X pins σ H { s with heap := g, gens := G, drawn := dd, toks := tk } := by
  have free_ne : ∀ b, H b = none → b ≠ P := fun b e z => by
    subst z
    have q : H b = some (.ext (TabE b)) := hP
    rw [q] at e
    cases e
  have own_ne : ∀ b c, H b = some (.own c) → b ≠ P := fun b c e z => by
    subst z
    have q : H b = some (.ext (TabE b)) := hP
    rw [q] at e
    cases e
  refine I.step (g' := G) (d' := dd) (ch := []) (fun b hb => by cases hb) (fun b o _ _ _ e n => kp b o (free_ne b n) e)
    (fun b o _ _ _ e n => ⟨o.slots, kp b o (free_ne b n) e⟩) (fun _ _ _ _ n => n) (fun b o _ e => ?_)
    (fun _ _ e => e) (fun _ _ _ e => e) (fun b qs e => ⟨#[], by rw [e, Array.append_empty]⟩) (fun m hm => ?_) (fun b u e => ?_) hG
  · by_cases z : b = P
    · subst z
      exact ⟨_, at_⟩
    · exact ⟨o, kp b o z e⟩
  · obtain ⟨o, es, ep, ho, r⟩ := hm
    exact ⟨o, es, ep, kp _ o (free_ne _ I.free) ho, r⟩
  · by_cases z : b = P
    · subst z
      have q : H b = some (.ext (TabE b)) := hP
      rw [q] at e
      cases e
      exact ⟨⟨rs, at_, ht⟩, ⟨_, at_⟩, tabE_stable⟩
    · refine (I.hok b u e).stay (fun c o hc q => kp c o ?_ q) (fun _ q => q) (fun _ _ q => q)
      rcases hc with y | y
      · rw [y]
        exact z
      · exact own_ne c b y

/-- the context of a generator expression's element -/
abbrev genCx (X : Cx) (B : Around) (s0 : Shared) (H0 : Hp) (ce : Env) (fp : List Addr) (pn : List (Addr × Obj)) : Cx :=
  { X with A := B, s_0 := s0, H_0 := H0, env := ce, outer := X.stack, stack := ce :: X.stack, ex := fp, fn := fun _ => false, pn := pn, xe := fun _ _ => False }
/-- its environment -/
abbrev gEnv (X : Cx) (sc : Scope) (C : Addr) (cv : Value) : Env :=
  genEnv sc (cloFrom X.env.cells sc.names []) C cv builtinsNs X.env

theorem gen_start {B : Around} {sc : Scope} {own : List (Str × Nat)} {fp : List Addr} {cv : Value} {g : Heap} {go fo : Obj} {m : Str → Option Value} {gs : GenState} {tk : Nat}
    (I : Inv X pins σ H s) (ok : BlkOk X.N X.env.scope sc own) (nocell : ∀ y ∈ sc.names, y.2 ≠ .cell) (hN : X.N.Nodup)
    (hfp : ∀ b ∈ fp, FpOk X pins H b ∧ b < s.heap.objs.size) (hB : X.calm = true → B.handled = none)
    (hF : B.frames = some (gEnv X sc s.heap.objs.size cv :: X.stack))
    (hn : g.Ns s.heap.objs.size m) (hs : Heap.SameBut s.heap.objs.size (s.heap.push fo) g)
    (hgo : ∀ v, go.data ≠ .cell v) (hgp : (g.push go).get? g.objs.size = some go) (hgs : gs.bare = true) :
    Inv (genCx X B s H (gEnv X sc s.heap.objs.size cv) fp [(g.objs.size, go)]) [] (wipe σ (own.map (·.2))) H
      { s with gens := s.gens.push gs, toks := tk, heap := g.push go } := by
  have caught : ∀ y ∈ sc.names, y.2 = .free → ∃ c, X.env.cells.lookup y.1 = some c := fun y hy e =>
    (ok.free y hy e).elim (fun z => I.ok.has _ (.inl z)) (fun z => I.ok.has _ (.inr z))
  have gsz : g.objs.size = s.heap.objs.size + 1 := by rw [hs.1, Heap.size_push]
  have kp1 : ∀ b o, s.heap.get? b = some o → g.get? b = some o := fun b o e =>
    hs.extBut b o (Nat.ne_of_lt (Heap.lt_size e)) (Heap.get?_push_of_some _ e)
  have kp : ∀ b o, s.heap.get? b = some o → (g.push go).get? b = some o := fun b o e => Heap.get?_push_of_some _ (kp1 b o e)
  have down : ∀ {y c}, (gEnv X sc s.heap.objs.size cv).cells.lookup y = some c → X.env.cells.lookup y = some c ∧ c < s.heap.objs.size := fun {y c} e => by
    have e' : (cloFrom X.env.cells sc.names []).lookup y = some c := e
    rcases cloFrom_mem (PySem.mem_of_lookup e') with q | ⟨q1, q2⟩
    · cases q
    · obtain ⟨c', hc'⟩ := caught _ q1 rfl
      have hc2 : X.env.cells.lookup y = some c' := hc'
      rw [hc2] at q2
      have q3 : c = c' := q2
      subst q3
      obtain ⟨v, z⟩ := I.cell _ _ hc2
      exact ⟨hc2, z.lt⟩
  have up : ∀ {y}, sc.names.lookup y = some .free → ∃ c, (gEnv X sc s.heap.objs.size cv).cells.lookup y = some c ∧ X.env.cells.lookup y = some c := fun {y} hl => by
    obtain ⟨c, e⟩ := mem_lookup (cloFrom_has (cells := X.env.cells) (acc := []) (PySem.mem_of_lookup hl))
    exact ⟨c, e, (down e).1⟩
  have young : ∀ b, b < s.heap.objs.size → b ≠ s.heap.objs.size := fun b hb => Nat.ne_of_lt hb
  have okG : (genCx X B s H (gEnv X sc s.heap.objs.size cv) fp [(g.objs.size, go)]).Ok := by
    refine ⟨I.ok.mod, ok.kind, I.ok.glob, rfl, Nat.le_refl _, fun y z c e1 e2 => I.ok.inj y z c (down e1).1 (down e2).1, fun y hy => ?_,
      (fun y c z _ => nomatch z), hB, hF, .inr ⟨rfl, rfl⟩, fun b hb => ⟨young b (hfp b hb).2, fun y c e z => ?_⟩, I.bs, Nat.le_trans I.ok.bsz I.sz,
      fun b o e hb => ?_, fun b hb z => ?_, I.stack, I.stkFree⟩
    · rcases hy with z | z
      · exact absurd rfl (nocell _ (PySem.mem_of_lookup z))
      · obtain ⟨c, e, _⟩ := up z
        exact ⟨c, e⟩
    · exact (hfp b hb).1.2.2.2.2.1 y c (down e).1 z
    · rcases (hfp b hb).1.2.2.2.1 with z | z
      · exact I.ok.noex b o e z
      · exact Nat.lt_irrefl _ (Nat.lt_of_lt_of_le (Heap.lt_size e) (Nat.le_trans I.ok.bsz z))
    · rcases List.mem_cons.mp (I.stkSub b z) with y | y
      · exact (hfp b hb).1.2.1 y
      · exact (hfp b hb).1.2.2.1 y
  refine ⟨okG, rfl, I.bare.push hgs, Un.kept kp, ⟨m, ?_, fun i y av e1 e2 e3 => ?_⟩, fun y c e => ?_, I.hok.fresh (Nat.le_refl _), fun y c e => I.freeC y c (down e).1, fun p hp => ?_, I.hok.kept kp, by rw [wipe_length]; exact I.len⟩
  · exact hn.push _
  · obtain ⟨e2, ne⟩ := wipe_some e2
    have notOwn : ∀ k, sc.names.lookup y = some k → k = .local ∨ k = .cell → False := fun k hk hk' => by
      rcases ok.own _ (PySem.mem_of_lookup hk) hk' with q | q
      · obtain ⟨p, hp, hpy⟩ := List.mem_map.mp q
        have e4 := ok.ix p hp
        have hpy' : p.1 = y := hpy
        rw [hpy'] at e4
        exact ne (List.mem_map.mpr ⟨p, hp, nodup_ix hN e4 e1⟩)
      · exact q (List.mem_of_getElem? e1)
    have hfree : sc.names.lookup y = some .free := by
      rcases e3 with z | z | z
      · exact (notOwn _ z (.inl rfl)).elim
      · exact (notOwn _ z (.inr rfl)).elim
      · exact z
    obtain ⟨m', _, hl⟩ := I.loc
    have q0 := ok.free _ (PySem.mem_of_lookup hfree) rfl
    have hv : Vis X.env.scope y := q0.elim (fun z => .inr (.inl z)) (fun z => .inr (.inr z))
    obtain ⟨u, r, q⟩ := hl i y av e1 e2 hv
    obtain ⟨c, h1, h2⟩ := up hfree
    refine ⟨u, r, .inr ⟨.inr hfree, c, h1, ?_⟩⟩
    rcases q with ⟨k, _⟩ | ⟨_, c', e', z⟩
    · have k' : X.env.scope.names.lookup y = some .local := k
      rcases q0 with z | z
      · have z' : X.env.scope.names.lookup y = some .cell := z
        rw [z'] at k'
        cases k'
      · have z' : X.env.scope.names.lookup y = some .free := z
        rw [z'] at k'
        cases k'
    · rw [h2] at e'
      cases e'
      exact z.keeps kp
  · obtain ⟨v, z⟩ := I.cell y c (down e).1
    exact ⟨v, z.keeps kp⟩
  · have e : p = (g.objs.size, go) := by simpa using hp
    subst e
    refine ⟨hgp, I.hok.fresh (by rw [gsz]; exact Nat.le_succ _), ?_, fun z => ?_, hgo⟩
    · show g.objs.size ≠ s.heap.objs.size
      rw [gsz]
      exact Nat.succ_ne_self _
    · have z' : g.objs.size ∈ frs X.stack := z
      obtain ⟨_, o, ho, _⟩ := I.stack.mem z'
      have q := Heap.lt_size ho
      rw [gsz] at q
      exact absurd q (Nat.not_lt.mpr (Nat.le_succ _))
end
end GX
set_option Elab.async false
set_option maxRecDepth 100000
set_option maxHeartbeats 4000000
namespace GX
open PySem PySem.Spec PyProof.Rows L2

/-- what is known when an element has been handed out: a truth; where it is true, the generator goes on at any state with the same heap -/
def YAll (Y : Cx) (τ : L2.St) (Qf : Hp → Prop) : Protocol := fun _ _ v s kap =>
  ∃ (b : Bool) (H : Hp), v = .bool b ∧ Inv Y [] τ H s ∧ (b = false → Qf H) ∧
    (b = true → ∀ s2 : Shared, s2.heap = s.heap → s2.os = s.os → AllBare s2.gens → kap (.send .none) s2)
abbrev RAll (Y : Cx) (τ : L2.St) (Qt : Hp → Prop) : Nat → Shared → Shared → Prop := fun _ _ s =>
  ∃ H : Hp, Inv Y [] τ H s ∧ Qt H
theorem inv_samehp {Y : Cx} {pins : List (Addr × Obj)} {τ : L2.St} {H : Hp} {s s2 : Shared} (I : Inv Y pins τ H s) (h : s2.heap = s.heap) (ho : s2.os = s.os) (hb : AllBare s2.gens) : Inv Y pins τ H s2 := by
  have J := I.call' (s' := s2) (H' := H) (ch := []) ho (by rw [h]; exact Un.refl) (by rw [h]; exact I.hok) hb (fun b z => by cases z)
  exact J

section
variable {Y : Cx} {B : Around} {elt tg iter : Expr} {sc : Scope} {gpos : Pos} {it : Addr} {fp : List Addr} {tn : Nat → Heap → Prop} {J : It} {g : TG} {te : TE} {vs : List Nat}

/-- one turn of the walk that a generator expression's elements pass -/
def Step (J : It) (g : TG) (te : TE) (vs : List Nat) (τ : L2.St) (Qt Qf : Hp → Prop) (W : Nat → Nat → Hp → Prop) : Prop :=
  ∀ i m H, W i m H → (J.stop i H ∧ Qt H) ∨ (J.go i H ∧ ∀ x H', J.yld i H x H' → g x τ H' fun τ2 H2 => wipe τ2 vs = τ ∧
    te τ2 H2 fun y H3 => ∃ b, y = V.bl b ∧ (b = true → ∃ m', m' < m ∧ W (i + 1) m' H3) ∧ (b = false → Qf H3))

theorem seg_all {τ : L2.St} {Qt Qf : Hp → Prop} {W : Nat → Nat → Hp → Prop}
    (hA : Y.A = B.over (.compLoop (.GeneratorExp elt [⟨tg, iter, [], 0⟩] sc gpos) 0 (.ref it) .none Y.env) [])
    (hc : Y.calm = true) (hco : Y.env.scope.isCoroutine = false) (hfp : ∀ b ∈ fp, b ∈ Y.ex) (hpn : ∀ p ∈ Y.pn, p.1 ∉ fp)
    (xe : Y.xe = fun _ _ => False)
    (pg : PG Y tg g) (pe : PE Y elt te) (T : Turn Y.prog Y.w Y.K tg J fp it tn) (turn : Step J g te vs τ Qt Qf W) (hτ : ∀ τ2, wipe τ2 vs = τ → ∀ (k : Nat) v, τ[k]? = some (some v) → τ2[k]? = some (some v)) :
    ∀ (n i m : Nat) (s0 s : Shared) (H : Hp), m < n → Inv Y [] τ H s → tn i s.heap → (∀ b ∈ fp, H b = none) → W i m H →
      Seg (model Y.prog Y.w) B (fun n s₀ r s₁ => r = .ok .next ∧ RAll Y τ Qt n s₀ s₁) (YAll Y τ Qf) n s0
        (.compLoop (.GeneratorExp elt [⟨tg, iter, [], 0⟩] sc gpos) 0 (.ref it) .none Y.env)
        ((model Y.prog Y.w).den (.compLoop (.GeneratorExp elt [⟨tg, iter, [], 0⟩] sc gpos) 0 (.ref it) .none Y.env)) [] s := by
  intro n
  induction n with
  | zero => intro i m s0 s H hm; exact absurd hm (Nat.not_lt_zero _)
  | succ n ih =>
    intro i m s0 s H hm I st nf w0
    have fpo : ∀ {pins' : List (Addr × Obj)} {τ' : L2.St} {H' : Hp} {s' : Shared}, Inv Y pins' τ' H' s' → (∀ p ∈ pins', p.1 ∉ fp) → (∀ b ∈ fp, H' b = none) → ∀ b ∈ fp, FpOk Y pins' H' b := fun {pins' τ' H' s'} I' hp hn b hb =>
      ⟨hn b hb, (I'.ok.exf b (hfp b hb)).1, I'.ok.exfs b (hfp b hb), .inl (hfp b hb), fun x c e => (I'.ok.exf b (hfp b hb)).2 x c e, fun p q z => by
        rcases List.mem_append.mp q with q | q
        · exact hpn p q (by rw [z]; exact hb)
        · exact hp p q (by rw [z]; exact hb)⟩
    show Seg _ B _ _ _ s0 _ ((compTurn (.GeneratorExp elt [⟨tg, iter, [], 0⟩] sc gpos) 0 (.ref it) .none Y.env).onRaise (leaving Y.env)) [] s
    rw [compTurn_gen, Sem.onRaise_eq_wrap]
    apply seg_bind_wrap
    apply wpAny_standAt
    apply seg_bind_wrap
    rw [← hA]
    rcases turn i m H w0 with ⟨stop, q⟩ | ⟨go, step⟩
    · refine wpAny_mono (T.done Y rfl rfl rfl hc i [] s τ H (fun _ _ => False) I (fpo I (fun _ z => by cases z) nf) st stop) (fun r s1 h1 => ?_) (fun _ _ z => z.elim)
      obtain ⟨hr, I1⟩ := h1
      subst hr
      exact seg_end (.ok .next) ⟨rfl, H, I1, q⟩
    · refine wpAny_mono (T.item Y rfl rfl rfl hc i [] s τ H (fun _ _ => False) I (fpo I (fun _ z => by cases z) nf) st go) (fun r s1 h1 => ?_) (fun _ _ z => z.elim)
      obtain ⟨u, hr, h1⟩ := h1
      subst hr
      apply seg_bind_wrap
      rw [← hA]
      refine wpAny_mono h1 (fun _ s2 h2 => ?_) (fun _ _ z => z.elim)
      obtain ⟨x, H2, I2, r2, y2, st2, n2⟩ := h2
      have I2' := I2.pinned (fpo I2 (fun _ z => by cases z) n2) (T.obj _ _ st2)
      apply seg_bind_wrap
      rw [← hA]
      refine wpAny_mono (pg.run _ s2 τ H2 x u _ I2' r2 (step x H2 y2)) (fun _ s3 h3 => ?_) (fun e s3 z => by rw [xe] at z; exact z.elim)
      obtain ⟨τ3, H3, I3, hw3, q3⟩ := h3
      have hy : ∀ v, yieldOut Y.env v = yieldValue v := fun v => by simp only [yieldOut, hco, Bool.false_eq_true, if_false]
      simp only [List.forIn_nil, pure_bind, if_true, hy]
      rw [Sem.bind_eq_wrap', Sem.bind_eq_wrap', Sem.wrap_wrap, Sem.wrap_wrap]
      apply seg_wrap
      rw [← hA]
      refine wpAny_mono (pe.run _ s3 τ3 H3 _ I3 q3) (fun v s4 h4 => ?_) (fun e s4 z => by rw [xe] at z; exact z.elim)
      obtain ⟨yv, H4, I4, r4, b, rfl, ht, hf⟩ := h4
      have hv : v = .bool b := r4
      subst hv
      have kp : ∀ b' ∈ fp, ∀ o, s2.heap.get? b' = some o → s4.heap.get? b' = some o ∧ H4 b' = none := fun b' hb o e => by
        have z := I4.pin (b', o) (List.mem_append_right _ (List.mem_append_right _ (mem_pinsAt hb e)))
        exact ⟨z.1, z.2.1⟩
      have J4 : Inv Y [] τ H4 s4 := (I4.unpinned (pins := [])).weak (by rw [← hw3, wipe_length]) fun k v e => hτ τ3 hw3 k v e
      refine seg_at (seg_yield rfl rfl rfl ⟨b, H4, rfl, J4, hf, fun hb s5 e5 o5 b5 => ?_⟩)
      obtain ⟨m', hm', w'⟩ := ht hb
      refine seg_again rfl (ih (i + 1) m' s5 s5 H4 (by omega) (inv_samehp J4 e5 o5 b5) ?_ (fun b' hb' => ?_) w')
      · rw [e5]
        exact T.keep _ _ _ st2 fun b' hb' o e => (kp b' hb' o e).1
      · obtain ⟨o, e, _⟩ := T.obj _ _ st2 b' hb'
        exact (kp b' hb' o e).2
end
end GX
set_option Elab.async false
set_option maxRecDepth 100000
set_option maxHeartbeats 4000000
namespace GX
open PySem PySem.Spec PyProof.Rows L2

theorem seg_all_start {P : Program} {w : World} {K : PySem.W.Frag} {B : Around} {R : GenEnd} {Yp : Protocol} {n : Nat} {s0 s : Shared} {elt tg iter : Expr} {sc : Scope} {gpos : Pos} {it : Addr} {fp : List Addr} {tn : Nat → Heap → Prop} {J : It} {ce : Env}
    (T : Turn P w K tg J fp it tn) (st : tn 0 s.heap)
    (loop : Seg (model P w) B R Yp n s0 (.compLoop (.GeneratorExp elt [⟨tg, iter, [], 0⟩] sc gpos) 0 (.ref it) .none ce)
      ((model P w).den (.compLoop (.GeneratorExp elt [⟨tg, iter, [], 0⟩] sc gpos) 0 (.ref it) .none ce)) [] s) :
    Seg (model P w) B R Yp n s0 (.compStart (.GeneratorExp elt [⟨tg, iter, [], 0⟩] sc gpos) 0 (.ref it) .none ce)
      ((model P w).den (.compStart (.GeneratorExp elt [⟨tg, iter, [], 0⟩] sc gpos) 0 (.ref it) .none ce)) [] s := by
  show Seg _ B _ _ _ s0 _ ((compStart (.GeneratorExp elt [⟨tg, iter, [], 0⟩] sc gpos) 0 (.ref it) .none ce).onRaise (leaving ce)) [] s
  unfold compStart
  rw [Sem.onRaise_eq_wrap]
  show Seg _ B _ _ _ s0 _ ((ask >>= _).wrap _ _ _ _) [] s
  apply seg_bind_wrap
  apply wpAny_askSetting
  split
  · exact seg_again rfl loop
  · apply seg_bind_wrap
    apply wpAny_rule
    show Seg _ B _ _ _ s0 _ ((standAt iter.pos >>= _).wrap _ _ _ _) [] s
    apply seg_bind_wrap
    apply wpAny_standAt
    apply seg_bind_wrap
    exact T.self _ 0 s _ _ st (seg_again rfl loop)

section
variable {Y : Cx} {A : Around} {a : Addr} {g : Nat} {go : Obj} {τ : L2.St} {Qt Qf : Hp → Prop}
theorem code_all {R : Result → Shared → Prop} (hh : A.handled = none) (hroom : A.depth < recursionLimit) (hpin : (a, go) ∈ Y.pn) (hgen : ∀ h : Heap, h.get? a = some go → h.IsGen a g)
    (hT : ∀ s H, Inv Y [] τ H s → Qt H → R (.ok (.ret (.bool true))) s) (hF : ∀ s H, Inv Y [] τ H s → Qf H → R (.ok (.ret (.bool false))) s) :
    ∀ (n : Nat) (s : Shared) (gs : GenState), s.heap.IsGen a g → s.heap.NoLimit → AllBare s.gens → s.gens[g]? = some gs →
      (∀ s2 : Shared, s2.heap = s.heap → s2.os = s.os → AllBare s2.gens →
        gs.Goes (model Y.prog Y.w) A.in1.in1 (fun n s₀ r s₁ => r = .ok .next ∧ RAll Y τ Qt n s₀ s₁) (YAll Y τ Qf) n (.send .none) s2) →
      codeAny (model Y.prog Y.w) A (.builtin "all.loop" ⟨[.ref a], []⟩) R s := by
  intro n
  induction n with
  | zero =>
    intro s gs hg hl hb hgs hgo
    refine codeAny_builtin F.entry_all_loop ?_
    rw [Around.under_plainId F.plain_all_loop _]
    show wpAny _ A.in1 (pyNext (.ref a) >>= _) _ _ s
    refine wpAny_bind (GenW.wpAny_gsz (n := g + 1) (Array.getElem?_eq_some_iff.mp hgs).1 (wpAny_pyNext_genexpQ (A := A.in1) (P := RAll Y τ Qt) hh hl hroom hg hgs (hgo _ rfl rfl (allBare_setGen hb rfl)) (fun v s1 gs' hb' hv hsz => ?_) (fun s1 hp h' hk hsz => ?_)))
    · obtain ⟨b, H, rfl, I, hf, ht⟩ := hv
      apply wpAny_bind
      apply wpAny_holding
      apply wpAny_truthy_bool
      apply wpAny_bind
      apply wpAny_letGo
      cases b with
      | true => exact (ht rfl s1 rfl rfl I.bare).elim
      | false =>
        simp only [Bool.false_eq_true, if_false]
        apply wpAny_bind
        apply wpAny_rule
        apply wpAny_pure
        exact hF _ H (inv_samehp I rfl rfl (allBare_setGen I.bare hb')) (hf rfl)
    · obtain ⟨H, I, q⟩ := hp
      apply wpAny_bind
      apply wpAny_rule
      apply wpAny_pure
      have I2 := inv_samehp (s2 := s1.setGen g .finished) I rfl rfl (allBare_setGen I.bare rfl)
      exact hT _ H (I2.kept (t' := (s1.setGen g .finished).toks) hk) q
  | succ n ih =>
    intro s gs hg hl hb hgs hgo
    refine codeAny_builtin F.entry_all_loop ?_
    rw [Around.under_plainId F.plain_all_loop _]
    show wpAny _ A.in1 (pyNext (.ref a) >>= _) _ _ s
    refine wpAny_bind (GenW.wpAny_gsz (n := g + 1) (Array.getElem?_eq_some_iff.mp hgs).1 (wpAny_pyNext_genexpQ (A := A.in1) (P := RAll Y τ Qt) hh hl hroom hg hgs (hgo _ rfl rfl (allBare_setGen hb rfl)) (fun v s1 gs' hb' hv hsz => ?_) (fun s1 hp h' hk hsz => ?_)))
    · obtain ⟨b, H, rfl, I, hf, ht⟩ := hv
      apply wpAny_bind
      apply wpAny_holding
      apply wpAny_truthy_bool
      apply wpAny_bind
      apply wpAny_letGo
      cases b with
      | true =>
        simp only [if_true]
        apply wpAny_pure
        refine ⟨plainId_quiet F.plain_all_loop _, ih _ gs' (hgen _ (I.pin (a, go) (List.mem_append_left _ hpin)).1) I.nolimit (allBare_setGen I.bare hb') (setGen_at ?_) fun s2 e1 e2 e3 => ht rfl s2 e1 e2 e3⟩
        rw [GenW.setGen_size] at hsz
        exact hsz
      | false =>
        simp only [Bool.false_eq_true, if_false]
        apply wpAny_bind
        apply wpAny_rule
        apply wpAny_pure
        exact hF _ H (inv_samehp I rfl rfl (allBare_setGen I.bare hb')) (hf rfl)
    · obtain ⟨H, I, q⟩ := hp
      apply wpAny_bind
      apply wpAny_rule
      apply wpAny_pure
      have I2 := inv_samehp (s2 := s1.setGen g .finished) I rfl rfl (allBare_setGen I.bare rfl)
      exact hT _ H (I2.kept (t' := (s1.setGen g .finished).toks) hk) q
end
end GX
set_option Elab.async false
set_option maxRecDepth 100000
set_option maxHeartbeats 4000000
namespace GX
open PySem PySem.Spec PyProof.Rows L2

section
variable {X : Cx} {pins : List (Addr × Obj)} {σ : L2.St} {H : Hp} {s : Shared}

/-- a generator expression has been made, ready to be walked, in the state s5; what stood ahead of its frame: s4 -/
structure Ready (X : Cx) (pins : List (Addr × Obj)) (σ : L2.St) (own : List (Str × Nat)) (sc : Scope) (elt tg iter : Expr) (gpos : Pos) (J : It) (H1 : Hp) (a : Addr) (s5 : Shared)
    (s4 : Shared) (cv : Value) (g : Nat) (go : Obj) (it : Addr) (fp : List Addr) (tn : Nat → Heap → Prop) : Prop where
  outer : Inv X pins σ H1 s4
  fps : ∀ b ∈ fp, FpOk X pins H1 b ∧ b < s4.heap.objs.size
  turn : Turn X.prog X.w X.K tg J fp it tn
  st : tn 0 s5.heap
  inner : ∀ B : Around, (X.calm = true → B.handled = none) → B.frames = some (gEnv X sc s4.heap.objs.size cv :: X.stack) →
    Inv (genCx X B s4 H1 (gEnv X sc s4.heap.objs.size cv) fp [(a, go)]) [] (wipe σ (own.map (·.2))) H1 s5
  gen : ∀ h : Heap, h.get? a = some go → h.IsGen a g
  at_ : s5.heap.get? a = some go
  old : a ∉ fp
  gs : s5.gens[g]? = some (.fresh (.compStart (.GeneratorExp elt [⟨tg, iter, [], 0⟩] sc gpos) 0 (.ref it) .none (gEnv X sc s4.heap.objs.size cv)))
  lim : s5.heap.NoLimit
  bare : AllBare s5.gens

theorem gx_make {c P : Addr} {own : List (Str × Nat)} {sc : Scope} {elt tg iter : Expr} {gpos : Pos} {wi : TI} {k : Nat} {R : It → Hp → Prop} {Q' : Value → Shared → Prop}
    (hr : Room k X.A) (TB : GxR.TabB X.base X.mg c P) (hcode : X.env.code = .ref c) (hN : X.N.Nodup)
    (ok : BlkOk X.N X.env.scope sc own) (nocell : ∀ y ∈ sc.names, y.2 ≠ .cell) (dot : sc.names.lookup (".0" : Str) = some NameKind.local) (hco : sc.isCoroutine = false)
    (hi : PI X tg iter wi) (hs : ∀ v, genFold iter X.env v = pure v)
    (I : Inv X pins σ H s) (h : wi σ H fun J H1 => Tab H1 P ∧ R J H1)
    (hQ : ∀ J H1 a s5 s4 cv g go it fp tn, R J H1 → Ready X pins σ own sc elt tg iter gpos J H1 a s5 s4 cv g go it fp tn → Q' (.ref a) s5) :
    wpAny (model X.prog X.w) X.A (eval (.GeneratorExp elt [⟨tg, iter, [], 0⟩] sc gpos) X.env) Q' X.xe s := by
  have caught : ∀ y ∈ sc.names, y.2 = .free → ∃ c, X.env.cells.lookup y.1 = some c := fun y hy e =>
    (ok.free y hy e).elim (fun z => I.ok.has _ (.inl z)) (fun z => I.ok.has _ (.inr z))
  refine wpAny_GeneratorExp_make hco (closure_ok caught) nocell dot ok.kind (by have := hr.dp; omega) ?_ hs
  refine thn (hi.run pins s σ H _ I h) fun xv s1 h1 => thn h1 fun itv s2 h2 => ?_
  obtain ⟨it, fp, tn, J, H2, rfl, I2, T, st2, f2, hT, hR⟩ := h2
  obtain ⟨⟨rs, hPs, ht⟩, _, _⟩ := I2.hok P _ hT
  have cd : PySem.W.CodeHd s2.heap c P := TB.code.keeps I2.bk
  refine ⟨I2.nolimit, ?_⟩
  have fsz : ∀ b ∈ fp, b < s2.heap.objs.size := fun b hb => by
    obtain ⟨o, e, _⟩ := T.obj _ _ st2 b hb
    exact Heap.lt_size e
  have neP : ∀ b ∈ fp, b ≠ P := fun b hb z => by
    have q := (f2 b hb).1
    have q2 : H2 P = some (.ext (TabE P)) := hT
    rw [z, q2] at q
    cases q
  have cont : ∀ (cv : Value) (s4 : Shared), Inv X pins σ H2 s4 → (∀ b o, b ≠ P → s2.heap.get? b = some o → s4.heap.get? b = some o) → s2.heap.objs.size ≤ s4.heap.objs.size →
      wpAny (model X.prog X.w) X.A (builtinsFor X.env.globals X.env.builtins) (fun bi s₄ => ∀ h', h'.Ns s₄.heap.objs.size (fun y => if y = ".0" then some (Value.ref it) else none) →
        Heap.SameBut s₄.heap.objs.size (s₄.heap.push { cls := .type "frame", data := .dict #[] }) h' →
          Q' (.ref h'.objs.size) { s₄ with
            gens := s₄.gens.push (.fresh (.compStart (.GeneratorExp elt [⟨tg, iter, [], 0⟩] sc gpos) 0 (.ref it) .none (genEnv sc (cloFrom X.env.cells sc.names []) s₄.heap.objs.size cv bi X.env))),
            toks := s₄.toks + 1 + 1 + 1,
            heap := h'.push { cls := .type "generator", data := .fields #[.int s₄.gens.size 0, .str "<genexpr>" (s₄.toks + 1), .str (X.env.qual ++ "<genexpr>") (s₄.toks + 1 + 1)] } }) X.xe s4 := by
    intro cv s4 I4 kp sz
    obtain ⟨bm, ob, e1, e2, e3, e4, e5, e6, e7, e8⟩ := TB.bm
    refine wpAny_builtinsFor (m := X.mg) (by rw [I4.ok.glob]; exact I4.mod.glob.keeps I4.bk) e1 e2 (I4.bk _ _ e5) e6 e7 e8 ?_
    intro h' hn' hs'
    have hsz : h'.objs.size = s4.heap.objs.size + 1 := by rw [hs'.1, Heap.size_push]
    have kp4 : ∀ b o, s4.heap.get? b = some o → (h'.push { cls := .type "generator", data := .fields #[.int s4.gens.size 0, .str "<genexpr>" (s4.toks + 1), .str (X.env.qual ++ "<genexpr>") (s4.toks + 1 + 1)] }).get? b = some o := fun b o e =>
      Heap.get?_push_of_some _ (hs'.extBut b o (Nat.ne_of_lt (Heap.lt_size e)) (Heap.get?_push_of_some _ e))
    have fok : ∀ b ∈ fp, FpOk X pins H2 b ∧ b < s4.heap.objs.size := fun b hb => ⟨f2 b hb, Nat.lt_of_lt_of_le (fsz b hb) sz⟩
    refine hQ J H2 h'.objs.size _ s4 cv s4.gens.size { cls := .type "generator", data := .fields #[.int s4.gens.size 0, .str "<genexpr>" (s4.toks + 1), .str (X.env.qual ++ "<genexpr>") (s4.toks + 1 + 1)] } it fp tn hR
      ⟨I4, fok, T, ?_, fun B hB hF => gen_start I4 ok nocell hN fok hB hF hn' hs' (fun v z => by cases z) (Heap.get?_push_size _ rfl) rfl, fun h e => ⟨_, _, _, e, rfl, rfl, rfl⟩, Heap.get?_push_size _ rfl, fun z => ?_, Array.getElem?_push_size .., I4.nolimit.keeps kp4, I4.bare.push rfl⟩
    · refine T.keep _ _ _ st2 fun b hb o e => kp4 b o (kp b o (neP b hb) e)
    · have q := (fok _ z).2
      rw [hsz] at q
      exact absurd q (Nat.not_lt.mpr (Nat.le_succ _))
  cases hf : codeAmong gpos rs.toList with
  | none =>
    refine wpAny_genexprCodeX hcode (cd.code hPs ht) (cd.tab hPs) hf fun c' h' tk hx hge hlt hco' _ htab' _ => ?_
    obtain ⟨o1, vs, f1, tf, fl, tg', inF, tx, tt, op, _, _, _, _, _, _, _, _, _, htr, _⟩ := hco'
    exact cont _ { s2 with heap := h', toks := tk } (tab_grown (tk := tk) (dd := s2.drawn) (G := s2.gens) I2 hT (fun b o hb e => hx b o hb e) htab'.2 htr I2.bare) (fun b o hb e => hx b o hb e) (Nat.le_trans hge (Nat.le_of_lt hlt))
  | some cv =>
    refine wpAny_genexprCode_hit hcode (cd.code hPs ht) hf ?_
    exact cont cv s2 I2 (fun b o _ e => e) (Nat.le_refl _)

/-- all(e for x in xs): J what is walked; W by the turn and a measure -/
def tAll (P : Addr) (wi : TI) (g : TG) (te : TE) (vs : List Nat) : TE := fun σ H Q => wi σ H fun J H1 => Tab H1 P ∧
  ∃ W : Nat → Nat → Hp → Prop, (∃ m, W 0 m H1) ∧ Step J g te vs (wipe σ vs) (Q (.bl true)) (Q (.bl false)) W

theorem over_gx {A : Around} {elt tg iter : Expr} {sc : Scope} {gpos : Pos} {it : Addr} {ce : Env} :
    (A.over (.compLoop (.GeneratorExp elt [⟨tg, iter, [], 0⟩] sc gpos) 0 (.ref it) .none ce) []).frames = A.frames.map (ce :: ·) := by
  show pushEnvs [ce] (pushEnvs [] A.frames) = _
  cases A.frames <;> rfl
theorem room_gx {A : Around} {k : Nat} {elt tg iter : Expr} {sc : Scope} {gpos : Pos} {it : Addr} {ce : Env} (r : Room (k + 1) A) :
    Room k (A.in1.in1.over (.compLoop (.GeneratorExp elt [⟨tg, iter, [], 0⟩] sc gpos) 0 (.ref it) .none ce) []) := by
  refine ⟨r.hd, ?_, ?_⟩
  · have := r.dp
    show A.depth + 0 + 1 + 3 * k + 5 < _
    omega
  · have := r.un
    show A.units + 1 + 1 + 0 + 3 + 16 * k + 200 < _
    omega

theorem pe_all {c P : Addr} {own : List (Str × Nat)} {sc : Scope} {elt tg iter : Expr} {p pos gpos : Pos} {wi : TI} {g : TG} {te : TE} {k : Nat}
    (hr : Room (k + 1) X.A) (hg : Gl X "all") (hm : X.mg "all" = none) (TB : GxR.TabB X.base X.mg c P) (hcode : X.env.code = .ref c) (hc : X.calm = true) (hN : X.N.Nodup)
    (ok : BlkOk X.N X.env.scope sc own) (nocell : ∀ y ∈ sc.names, y.2 ≠ .cell) (dot : sc.names.lookup (".0" : Str) = some NameKind.local) (hco : sc.isCoroutine = false)
    (hi : PI X tg iter wi) (pg : ∀ (B : Around) (s0 : Shared) (H0 : Hp) (C : Addr) (cv : Value) (fp : List Addr) (pn : List (Addr × Obj)), PG (genCx X B s0 H0 (gEnv X sc C cv) fp pn) tg g)
    (pe : ∀ (B : Around) (s0 : Shared) (H0 : Hp) (C : Addr) (cv : Value) (fp : List Addr) (pn : List (Addr × Obj)), Room k B → PE (genCx X B s0 H0 (gEnv X sc C cv) fp pn) elt te)
    (hs : ∀ v, genFold iter X.env v = pure v := by intro _; rfl)
    (he : starEach [.GeneratorExp elt [⟨tg, iter, [], 0⟩] sc gpos] X.env = (false, eval (.GeneratorExp elt [⟨tg, iter, [], 0⟩] sc gpos) X.env) :: starEach [] X.env := by rfl) :
    PE X (.Call (.Name "all" p) [.GeneratorExp elt [⟨tg, iter, [], 0⟩] sc gpos] [] pos) (tAll P wi g te (own.map (·.2))) := by
  refine ⟨fun pins s σ H Q I h => ?_⟩
  refine wpAny_Call_Name_kw (ld_blt I hg hm (show bootBuiltins "all" = some (.builtin "all") by decide +kernel) ?_)
  refine PyProof.Rows.callWith_builtin1 ?_ he (by rfl)
  rw [he]
  show wpAny _ _ (spliced ((false, eval (.GeneratorExp elt [⟨tg, iter, [], 0⟩] sc gpos) X.env) :: backTo pos (starEach [] X.env))) _ _ s
  refine Calls.spliced_cons (gx_make (own := own) (R := fun J H1 => ∃ W : Nat → Nat → Hp → Prop, (∃ m, W 0 m H1) ∧ Step J g te (List.map Prod.snd own) (wipe σ (List.map Prod.snd own)) (Q (.bl true)) (Q (.bl false)) W)
    hr TB hcode hN ok nocell dot hco hi hs I h fun J H1 a s5 s4 cv gn go it fp tn hR rd => ?_)
  obtain ⟨W, ⟨m0, w0⟩, step⟩ := hR
  refine Calls.spliced_nil ?_
  refine call_function_tree F.kind_all F.plain_all F.entry_all (F.args_all1 _) ?_
  unfold Builtin.«all»
  apply wpAny_bind (m := oneArg "all" _)
  apply wpAny_pure
  apply wpAny_bind
  refine wpAny_pyIter_gen (rd.gen _ rd.at_) ?_
  apply wpAny_pure
  refine ⟨plainId_quiet F.plain_all_loop _, ?_⟩
  -- the element's context
  have hB : X.calm = true → (X.A.in1.in1.over (.compLoop (.GeneratorExp elt [⟨tg, iter, [], 0⟩] sc gpos) 0 (.ref it) .none (gEnv X sc s4.heap.objs.size cv)) []).handled = none := fun z => I.ok.hd z
  have hF : (X.A.in1.in1.over (.compLoop (.GeneratorExp elt [⟨tg, iter, [], 0⟩] sc gpos) 0 (.ref it) .none (gEnv X sc s4.heap.objs.size cv)) []).frames = some (gEnv X sc s4.heap.objs.size cv :: X.stack) := by
    rw [over_gx]
    show X.A.frames.map _ = _
    rw [I.ok.frames]
    rfl
  have J5 := rd.inner _ hB hF
  have back : ∀ (s6 : Shared) (H6 : Hp), Inv (genCx X (X.A.in1.in1.over (.compLoop (.GeneratorExp elt [⟨tg, iter, [], 0⟩] sc gpos) 0 (.ref it) .none (gEnv X sc s4.heap.objs.size cv)) []) s4 H1 (gEnv X sc s4.heap.objs.size cv) fp [(a, go)]) [] (wipe σ (own.map (·.2))) H6 s6 →
      Inv X pins σ H6 s6 := fun s6 H6 I6 => by
    exact rd.outer.call' (ch := fp) I6.os I6.base I6.hok I6.bare fun b hb => ⟨(rd.fps b hb).1.2.2.2.1, (rd.fps b hb).1.2.1, (rd.fps b hb).1.2.2.2.2.1, (rd.fps b hb).1.2.2.2.2.2⟩
  refine code_all (Y := genCx X (X.A.in1.in1.over (.compLoop (.GeneratorExp elt [⟨tg, iter, [], 0⟩] sc gpos) 0 (.ref it) .none (gEnv X sc s4.heap.objs.size cv)) []) s4 H1 (gEnv X sc s4.heap.objs.size cv) fp [(a, go)])
    (A := X.A) (go := go) (g := gn) (τ := wipe σ (own.map (·.2))) (Qt := Q (.bl true)) (Qf := Q (.bl false)) hr.hd hr.depth (by simp) rd.gen
    (fun s6 H6 I6 q6 => ⟨.bl true, H6, back s6 H6 I6, rfl, q6⟩) (fun s6 H6 I6 q6 => ⟨.bl false, H6, back s6 H6 I6, rfl, q6⟩) (m0 + 1) s5 _ (rd.gen _ rd.at_) rd.lim rd.bare rd.gs (fun s7 e7 o7 b7 => ?_)
  have J7 := inv_samehp J5 e7 o7 b7
  have st7 : tn 0 s7.heap := by
    rw [e7]
    exact rd.st
  refine ⟨rfl, seg_all_start rd.turn st7 ?_⟩
  refine seg_all (Y := genCx X (X.A.in1.in1.over (.compLoop (.GeneratorExp elt [⟨tg, iter, [], 0⟩] sc gpos) 0 (.ref it) .none (gEnv X sc s4.heap.objs.size cv)) []) s4 H1 (gEnv X sc s4.heap.objs.size cv) fp [(a, go)])
    rfl hc hco (fun b hb => hb) (fun q hq => ?_) rfl (pg _ _ _ _ _ _ _) (pe _ _ _ _ _ _ _ (room_gx hr)) rd.turn step (fun τ2 hw k v e => ?_) (m0 + 1) 0 m0 s7 s7 H1 (Nat.lt_succ_self _) J7 st7 (fun b hb => (rd.fps b hb).1.1) w0
  · have e : q = (a, go) := by simpa using hq
    subst e
    exact rd.old
  · rw [← hw] at e
    exact (wipe_some e).1
end
end GX
set_option Elab.async false
set_option maxRecDepth 100000
set_option maxHeartbeats 4000000
namespace GX
open PySem PySem.Spec PyProof.Rows L2

/-- a walk of n turns by a word of its own: the next turn is reached -/
def AllNx (n : Nat) (Pv : Nat → Hp → Prop) (i : Nat) (H : Hp) : Prop := ∃ m', m' < n - i ∧ (m' = n - (i + 1) ∧ i + 1 ≤ n ∧ Pv (i + 1) H)
theorem AllNx.mk {n : Nat} {Pv : Nat → Hp → Prop} {i : Nat} {H : Hp} (hi : i < n) (p : Pv (i + 1) H) : AllNx n Pv i H := ⟨n - (i + 1), by omega, rfl, hi, p⟩
theorem all_by {J : It} {g : TG} {te : TE} {vs : List Nat} {τ : L2.St} {Qt Qf : Hp → Prop} {H1 : Hp} (n : Nat) (Pv : Nat → Hp → Prop) (h0 : Pv 0 H1)
    (turn : ∀ i H, i < n → Pv i H → J.go i H ∧ ∀ x H', J.yld i H x H' → g x τ H' fun τ2 H2 => wipe τ2 vs = τ ∧ te τ2 H2 fun y H3 => ∃ b, y = V.bl b ∧ (b = true → AllNx n Pv i H3) ∧ (b = false → Qf H3))
    (stop : ∀ H, Pv n H → J.stop n H ∧ Qt H) :
    ∃ W : Nat → Nat → Hp → Prop, (∃ m, W 0 m H1) ∧ Step J g te vs τ Qt Qf W := by
  refine ⟨fun i m H => m = n - i ∧ i ≤ n ∧ Pv i H, ⟨n, rfl, Nat.zero_le _, h0⟩, ?_⟩
  rintro i m H ⟨rfl, hi, p⟩
  by_cases hlt : i < n
  · obtain ⟨go, nx⟩ := turn i H hlt p
    exact .inr ⟨go, nx⟩
  · have e : i = n := by omega
    subst e
    exact .inl (stop H p)
theorem bf {b : Bool} (h : ¬ b = true) : b = false := by
  cases b with
  | true => exact absurd rfl h
  | false => rfl
end GX

namespace RS
open PySem PySem.Spec PyProof.Rows L2 GX
/-! ### defs as constants of the module -/
/-- the def st stands as the module's x; c: its code object -/
structure DefAt (K : PySem.W.Frag) (mg : Str → Option Value) (x : Str) (st : Stmt) (c : Addr) : Prop where
  ex : ∃ (f : Addr) (oc : Value) (od : Option Addr) (kV doc pm : Value) (an : Option Addr) (ct : Value) (osl : Array (Option Value)),
    mg x = some (.ref f) ∧ K.lookup f = some ⟨oc, od, .func (PySem.W.fnOf x x (defArgs st) (defBody st) (defScope st) .none kV doc pm an (.ref c) ct), osl⟩ ∧
    PySem.W.codeIn K (.ref c) x = true ∧ PySem.W.keepIn K (.ref f) = true
/-- what a caller needs of a def: its promise -/
structure Cal (P : Program) (w : World) (K : PySem.W.Frag) (mg : Str → Option Value) (base : Heap) (CX : CXT) (k : Nat) (x : Str) (ps : List Str) (sp : Sp) : Prop where
  ex : ∃ (f : Addr) (fd : FuncData), FnOk P w K mg base CX k f fd ps sp ∧ mg x = some (.ref f) ∧ PySem.W.keepIn K (.ref f) = true ∧ Binds K fd ps []
section
variable {P : Program} {w : World} {K : PySem.W.Frag} {mg : Str → Option Value} {base : Heap}
theorem def_ok {CX : CXT} {x : Str} {st : Stmt} {c : Addr} {N ps : List Str} {k : Nat} {sp : Sp} (D : DefAt K mg x st c) (S : FnScope N ps (defScope st)) (len : ∀ vs H Q E, sp vs H Q E → vs.length = ps.length)
    (hb : ∀ (kV doc pm : Value) (an : Option Addr) (cdv ct : Value) (us : List Value), us.length = ps.length → bindArgs (PySem.W.fnOf x x (defArgs st) (defBody st) (defScope st) .none kV doc pm an cdv ct) ⟨us, []⟩ = pure (ps.zip us))
    (hbody : ∀ (f : Addr) (A : Around) (outer : List Env) (s : Shared) (H : Hp) (vs : List V) (Q : VK) (E : XK), Room k (A.deeper (envOfC x (defScope st) s.heap.objs.size f (.ref c))) → sp vs H Q E →
      ∃ t, PSs (cxOf CX P w K mg base N x (defScope st) f (.ref c) A outer s H E) (defBody st) t ∧ t { nx := fun _ H' => Q .non H', rt := Q } (start N vs) H) :
    Cal P w K mg base CX (k + 1) x ps sp := by
  obtain ⟨f, oc, od, kV, doc, pm, an, ct, osl, hm, lk, hcd, kp⟩ := D.ex
  exact ⟨f, _, fn_of lk hcd S len fun A outer s H vs Q E hr hsp => hbody f A outer s H vs Q E hr hsp, hm, kp, .all (hb kV doc pm an (.ref c) ct)⟩
/-- .. that no exception leaves -/
theorem def_ok0 {x : Str} {st : Stmt} {c : Addr} {N ps : List Str} {k : Nat} {sp : Sp} (D : DefAt K mg x st c) (S : FnScope N ps (defScope st)) (len : ∀ vs H Q E, sp vs H Q E → vs.length = ps.length)
    (hb : ∀ (kV doc pm : Value) (an : Option Addr) (cdv ct : Value) (us : List Value), us.length = ps.length → bindArgs (PySem.W.fnOf x x (defArgs st) (defBody st) (defScope st) .none kV doc pm an cdv ct) ⟨us, []⟩ = pure (ps.zip us))
    (hbody : ∀ (f : Addr) (A : Around) (outer : List Env) (s : Shared) (H : Hp) (vs : List V) (Q : VK) (E : XK), Room k (A.deeper (envOfC x (defScope st) s.heap.objs.size f (.ref c))) → sp vs H Q E →
      ∃ t, PSs (cxOf CX0 P w K mg base N x (defScope st) f (.ref c) A outer s H E).nox (defBody st) t ∧ t { nx := fun _ H' => Q .non H', rt := Q } (start N vs) H) :
    Cal P w K mg base CX0 (k + 1) x ps sp :=
  def_ok D S len hb fun f A outer s H vs Q E hr hsp => by
    obtain ⟨t, ht, q⟩ := hbody f A outer s H vs Q E hr hsp
    exact ⟨t, ht.nox, q⟩
end
section
variable {X : Cx} {CX : CXT} {k j : Nat} {ps : List Str} {sp : Sp} {E : XK} {x : Str} {p pos : Pos} {e : Expr} {es : List Expr} {t : TA}
theorem pe_c (c : Cal X.prog X.w X.K X.mg X.base CX k x ps sp) (hr : Room j X.A) (hk : k ≤ j) (hg : Gl X x) (hx : Passes CX X E) (ha : PA X (e :: es) t) (hdb : (x == ("__debug__" : Str)) = false := by decide)
    (he : starEach (e :: es) X.env = (false, eval e X.env) :: starEach es X.env := by rfl) (hpl : (backTo pos (starEach es X.env)).any (·.1) = false := by rfl) :
    PE X (.Call (.Name x p) (e :: es) [] pos) (tCall sp [] E t) := by
  obtain ⟨f, fd, F, hm, kp, hb⟩ := c.ex
  exact pe_call F (hr.mono hk) hg hm kp hb .nil hx ha hdb he hpl
end

/-! ### data -/
theorem sqT_same {K : PySem.W.Frag} {H H' : Hp} {a : Addr} {xs : List V} (e : Same H H') (h : SqT K H a xs) : SqT K H' a xs := by
  rcases h with (h | ⟨o, h⟩) | h
  · exact .inl (.inl (e _ _ h))
  · exact .inl (.inr ⟨o, e _ _ h⟩)
  · exact .inr h
mutual
theorem dp_same {K : PySem.W.Frag} {H H' : Hp} (e : Same H H') : ∀ (d : PyData) {v : V}, Dp K H v d → Dp K H' v d
  | .none, _, .non => .non
  | .bool b, _, .bl _ => .bl b
  | .int i, _, .int _ => .int i
  | .str x, _, .str _ => .str x
  | .list ds, _, .lst h hs => .lst (e.seq h) (dpAll_same e ds hs)
  | .tuple ds, _, .tup h hs => .tup (sqT_same e h) (dpAll_same e ds hs)
  | .dict _, _, h => nomatch h
theorem dpAll_same {K : PySem.W.Frag} {H H' : Hp} (e : Same H H') : ∀ (ds : List PyData) {vs : List V}, DpAll K H vs ds → DpAll K H' vs ds
  | [], _, .nil => .nil
  | d :: ds, _, .cons h hs => .cons (dp_same e d h) (dpAll_same e ds hs)
end
theorem dpLen {K : PySem.W.Frag} {H : Hp} : ∀ {vs : List V} {ds : List PyData}, DpAll K H vs ds → vs.length = ds.length
  | _, _, .nil => rfl
  | _, _, .cons _ t => congrArg (· + 1) (dpLen t)
theorem dpGet {K : PySem.W.Frag} {H : Hp} : ∀ {vs : List V} {ds : List PyData} {i : Nat} {v : V}, DpAll K H vs ds → vs[i]? = some v → ∃ d, ds[i]? = some d ∧ Dp K H v d
  | _, _, _, _, .nil, e => by simp at e
  | _, _, 0, _, .cons h _, e => by
    simp at e
    subst e
    exact ⟨_, rfl, h⟩
  | _, _, i + 1, v, .cons _ t, e => by
    obtain ⟨d, h1, h2⟩ := dpGet (i := i) (v := v) t (by simpa using e)
    exact ⟨d, by simpa using h1, h2⟩
theorem dpGet' {K : PySem.W.Frag} {H : Hp} {vs : List V} {ds : List PyData} {i : Nat} {d : PyData} (h : DpAll K H vs ds) (e : ds[i]? = some d) : ∃ v, vs[i]? = some v ∧ Dp K H v d := by
  have hl := dpLen h
  have hi : i < vs.length := by
    rw [hl]
    exact (List.getElem?_eq_some_iff.mp e).1
  obtain ⟨d', e', h'⟩ := dpGet h (List.getElem?_eq_getElem hi)
  rw [e] at e'
  cases e'
  exact ⟨_, List.getElem?_eq_getElem hi, h'⟩
theorem dpApp {K : PySem.W.Frag} {H : Hp} : ∀ {vs ws : List V} {ds es : List PyData}, DpAll K H vs ds → DpAll K H ws es → DpAll K H (vs ++ ws) (ds ++ es)
  | _, _, _, _, .nil, h => h
  | _, _, _, _, .cons h t, q => .cons h (dpApp t q)

/-- the name of a datum's type -/
def tyN : PyData → String
  | .none => "NoneType"
  | .bool _ => "bool"
  | .int _ => "int"
  | .str _ => "str"
  | .list _ => "list"
  | .tuple _ => "tuple"
  | .dict _ => "dict"
/-- isinstance(d, T), d's type being n -/
def isT (T n : String) : Bool := T == n || (T == "int" && n == "bool")
def isI (T : String) (d : PyData) : Bool := isT T (tyN d)
theorem kit_names : ∀ n ∈ ["NoneType", "bool", "int", "str", "list", "tuple"], ∀ T ∈ ["int", "bool", "str", "list", "tuple"], kitB n T = some (isT T n) := by decide +kernel
theorem dp_ty {K : PySem.W.Frag} {H : Hp} {v : V} {d : PyData} (h : Dp K H v d) : TyX K H v (.type (tyN d)) := by
  cases h with
  | non => exact .base .non
  | bl b => exact .base (.bl b)
  | int i => exact .base (.int i)
  | str x => exact .base (.str x)
  | lst q _ =>
    rcases q with (q | ⟨o, q⟩) | ⟨o, its, n, q, c, _⟩
    · exact .base (.lst q)
    · exact .base (.frz q)
    · exact .kList q c
  | tup q _ =>
    rcases q with (q | ⟨o, q⟩) | ⟨o, its, n, q, c, _⟩
    · exact .base (.tup q)
    · exact .fTuple q
    · exact .kTuple q c
theorem kit_isI {K : PySem.W.Frag} {T : String} (hT : T ∈ ["int", "bool", "str", "list", "tuple"]) {H : Hp} {v : V} {d : PyData} (h : Dp K H v d) : PySem.W.kitOne K (.type (tyN d)) (.type T) = some (isI T d) := by
  refine kit_ty (kit_names _ ?_ _ hT)
  cases h <;> simp [tyN]
theorem isi_at {K : PySem.W.Frag} {H : Hp} {v : V} {d : PyData} {T : String} {Q : VK} (h : Dp K H v d) (q : Q (.bl (isI T d)) H) (hT : T ∈ ["int", "bool", "str", "list", "tuple"] := by simp) : rIsi K [v, .ty T] H Q :=
  ⟨v, .ty T, _, _, isI T d, rfl, .ty T, dp_ty h, kit_isI hT h, q⟩
end RS
set_option Elab.async false
set_option maxRecDepth 100000
set_option maxHeartbeats 4000000
namespace RS
open PySem PySem.Spec PyProof.Rows L2 GX
section
variable {X : Cx}
/-! ### rules whose readings speak of data -/
/-- isinstance(x, T) -/
theorem call_isiD : CallR X (.builtin "isinstance") (fun xs H Q => ∃ x T d, xs = [x, .ty T] ∧ T ∈ ["int", "bool", "str", "list", "tuple"] ∧ Dp X.K H x d ∧ Q (.bl (isI T d)) H) := by
  intro pins s σ H xs us Q I r ⟨x, T, d, e, hT, hd, q⟩
  subst e
  exact call_isi pins s σ H _ us Q I r ⟨x, .ty T, _, _, isI T d, rfl, .ty T, dp_ty hd, kit_isI hT hd, q⟩
/-- how many items -/
def lenD : PyData → Option Nat
  | .list ds => some ds.length
  | .tuple ds => some ds.length
  | .str x => if x.length ≤ sizeLine then some x.length else none
  | _ => none
/-- len(x) of a list, a tuple, a text -/
theorem call_lenD : CallR X (.builtin "len") (fun xs H Q => ∃ x d n, xs = [x] ∧ Dp X.K H x d ∧ lenD d = some n ∧ Q (.int n) H) := by
  intro pins s σ H xs us Q I r ⟨x, d, n, e, hd, hn, q⟩
  subst e
  cases hd with
  | non => cases hn
  | bl _ => cases hn
  | int _ => cases hn
  | str y =>
    simp only [lenD] at hn
    split at hn
    · rename_i hz
      cases hn
      exact call_len_str pins s σ H _ us Q I r ⟨y, rfl, hz, q⟩
    · cases hn
  | @lst a ys ds h hs =>
    cases hn
    rw [← dpLen hs] at q
    exact call_len_seq pins s σ H _ us Q I r ⟨a, ys, rfl, .inl h, q⟩
  | @tup a ys ds h hs =>
    cases hn
    rw [← dpLen hs] at q
    exact call_len_seq pins s σ H _ us Q I r ⟨a, ys, rfl, .inr h, q⟩
/-- the items of a list or tuple -/
def itemsD : PyData → Option (List PyData)
  | .list ds => some ds
  | .tuple ds => some ds
  | _ => none
/-- x[i] of a list or a tuple -/
theorem ixD : IxR X (fun x y H Q => ∃ d ds i d', Dp X.K H x d ∧ itemsD d = some ds ∧ y = .int i ∧ atI ds i = some d' ∧ ∀ v, Dp X.K H v d' → Q v H) := by
  intro value slice pins s σ H x y v u Q I rx ry ⟨d, ds, i, d', hd, hi, ey, ha, q⟩ hs
  have at_ : ∀ {vs : List V}, DpAll X.K H vs ds → ∃ v, atI vs i = some v ∧ Dp X.K H v d' := fun {vs} hv => by
    unfold atI at ha ⊢
    rw [← dpLen hv] at ha
    cases hx : ixN vs.length i with
    | none => rw [hx] at ha; cases ha
    | some j =>
      rw [hx] at ha
      exact dpGet' hv ha
  cases hd with
  | non => cases hi
  | bl _ => cases hi
  | int _ => cases hi
  | str _ => cases hi
  | @lst a ys es h hes =>
    cases hi
    obtain ⟨z, hz, hzd⟩ := at_ hes
    exact ix_list value slice pins s σ H _ y v u Q I rx ry ⟨a, ys, i, z, rfl, ey, h, hz, q z hzd⟩ hs
  | @tup a ys es h hes =>
    cases hi
    obtain ⟨z, hz, hzd⟩ := at_ hes
    exact ix_tup value slice pins s σ H _ y v u Q I rx ry ⟨a, ys, i, z, rfl, ey, h, hz, q z hzd⟩ hs
end
end RS
set_option Elab.async false
set_option maxRecDepth 100000
set_option maxHeartbeats 4000000
namespace RS
open PySem L2
def top (i : Nat) : Stmt := PySem.Challenge.pw_runsorts_k04_whole_what_runs_are.main.body.getD i (.Pass ⟨0, 0, 0, 0⟩)

abbrev s_BadRows_init : Stmt := inClass (top 5) 0
abbrev sIsNumber : Stmt := top 14
abbrev sIsWord : Stmt := top 15
abbrev sIsValue : Stmt := top 16
abbrev sIsRow : Stmt := top 17
abbrev sIsPart : Stmt := top 18
abbrev sCheckKinds : Stmt := top 19
abbrev sCheckOrder : Stmt := top 20
abbrev sCheckRows : Stmt := top 21
abbrev sWorths : Stmt := top 22
abbrev sRank : Stmt := top 23
abbrev sXInit : Stmt := inClass (top 25) 0
abbrev sLetIn : Stmt := inClass (top 25) 1
abbrev sLetOut : Stmt := inClass (top 25) 2
abbrev sIsOver : Stmt := inClass (top 25) 3
abbrev sHolds : Stmt := inClass (top 25) 4
abbrev sNext : Stmt := inClass (top 25) 5
abbrev sCheckSize : Stmt := top 28
abbrev sNumbered : Stmt := top 29
abbrev sFilled : Stmt := top 30
abbrev sExchanged : Stmt := top 31
abbrev sBegun : Stmt := top 33
abbrev sTake : Stmt := top 34
abbrev sKinds : Stmt := top 35
abbrev sOrder : Stmt := top 36
abbrev sValue : Stmt := top 37
abbrev sRows : Stmt := top 38
abbrev sAhead : Stmt := top 39
abbrev sSorted : Stmt := top 40
abbrev sPairs : Stmt := top 41
abbrev sRight : Stmt := top 42
abbrev sLaw : Stmt := top 43

/-- what the module's names hold -/
structure Txt (K : PySem.W.Frag) (mg : Str → Option Value) : Prop where
  isinstance : mg "isinstance" = none
  int_ : mg "int" = none
  bool_ : mg "bool" = none
  str_ : mg "str" = none
  list_ : mg "list" = none
  tuple_ : mg "tuple" = none
  len : mg "len" = none
  all : mg "all" = none
  zip : mg "zip" = none
  enumerate : mg "enumerate" = none
  ord : mg "ord" = none
  range : mg "range" = none
  sorted : mg "sorted" = none
  max : mg "max" = none
  min : mg "min" = none
  columns : ∃ t, mg "MOST_COLUMNS" = some (.int 4 t)
  number : ∃ t, mg "MOST_NUMBER" = some (.int 999 t)
  letters : ∃ t, mg "MOST_LETTERS" = some (.int 6 t)
  rows : ∃ t, mg "MOST_ROWS" = some (.int 120 t)
  room : ∃ t, mg "MOST_ROOM" = some (.int 24 t)
  kinds : ∃ a, mg "KINDS" = some (.ref a) ∧ ∀ H, SqT K H a [.str "number", .str "word"]
  ways : ∃ a, mg "WAYS" = some (.ref a) ∧ ∀ H, SqT K H a [.str "up", .str "down"]
end RS
set_option Elab.async false
set_option maxRecDepth 100000
set_option maxHeartbeats 4000000
namespace RS
open PySem PySem.Spec PyProof.Rows L2 GX

/-! ### the mathematics: what a number, a word, a value, a row is -/
def isNum (d : PyData) : Bool := isI "int" d && !isI "bool" d
def signOk (c : Nat) : Bool := !decide (([c] : List Nat) < [97]) && !decide (([122] : List Nat) < [c])
def isWord (d : PyData) : Bool := match d with
  | .str x => decide ((x.length : Int) ≤ 6) && x.cps.toList.all signOk
  | _ => false
/-- a text has its size -/
def fitD : PyData → Prop
  | .str x => x.length ≤ sizeLine
  | _ => True

section
variable {P : Program} {w : World} {K : PySem.W.Frag} {mg : Str → Option Value} {base : Heap}
theorem scIsNumber : FnScope ["value"] ["value"] (defScope sIsNumber) := ⟨rfl, rfl, rfl, by decide +kernel, rfl, by decide +kernel, by decide +kernel⟩
def spNum (K : PySem.W.Frag) : Sp := fun vs H Q _ => ∃ (v : V) (d : PyData), vs = [v] ∧ Dp K H v d ∧ Q (.bl (isNum d)) H
theorem is_number_ok {c : Addr} (D : DefAt K mg "is_number" sIsNumber c) (T : Txt K mg) : Cal P w K mg base CX0 1 "is_number" ["value"] (spNum K) := by
  have sc := scIsNumber
  refine def_ok0 D sc (fun vs H Q E h => ?_) (fun _ _ _ _ _ _ us hl => match us, hl with | [_], _ => rfl) (fun f A outer s H vs Q E hr h => ?_)
  · obtain ⟨v, d, rfl, _⟩ := h
    rfl
  · obtain ⟨v, d, rfl, hd, k⟩ := h
    refine ⟨_, (pss_one (ps_ret (pe_and (pe_callB call_isiD (by rfl) T.isinstance (by decide +kernel) (pa_cons (pv 0) (pa_cons (pe_bltn (v := V.ty "int") (u := Value.type "int") (by rfl) T.int_ (by decide +kernel) rfl) pa_nil))) (pe_one (pe_not (pe_callB call_isiD (by rfl) T.isinstance (by decide +kernel) (pa_cons (pv 0) (pa_cons (pe_bltn (v := V.ty "bool") (u := Value.type "bool") (by rfl) T.bool_ (by decide +kernel) rfl) pa_nil)))))))), ?_⟩
    refine ⟨_, rfl, _, _, _, rfl, by simp, hd, _, rfl, ?_⟩
    refine ite2 (fun h1 => ?_) (fun h1 => ?_)
    · refine ⟨_, rfl, _, _, _, rfl, by simp, hd, _, rfl, ?_⟩
      have e : isNum d = !isI "bool" d := by unfold isNum; rw [h1, Bool.true_and]
      rw [← e]
      exact k
    · have e : isNum d = false := by unfold isNum; rw [bf h1, Bool.false_and]
      rw [← e]
      exact k

theorem scIsWord : FnScope ["value", "sign"] ["value"] (defScope sIsWord) := ⟨rfl, rfl, rfl, by decide +kernel, rfl, by decide +kernel, by decide +kernel⟩
def spWord (K : PySem.W.Frag) (P : Addr) : Sp := fun vs H Q _ => ∃ (v : V) (d : PyData), vs = [v] ∧ Dp K H v d ∧ fitD d ∧ Tab H P ∧ Q (.bl (isWord d)) H
theorem is_word_ok {c p : Addr} (D : DefAt K mg "is_word" sIsWord c) (T : Txt K mg) (TB : GxR.TabB base mg c p) : Cal P w K mg base CX0 2 "is_word" ["value"] (spWord K p) := by
  have sc := scIsWord
  obtain ⟨tL, hL⟩ := T.letters
  refine def_ok0 D sc (fun vs H Q E h => ?_) (fun _ _ _ _ _ _ us hl => match us, hl with | [_], _ => rfl) (fun f A outer s H vs Q E hr h => ?_)
  · obtain ⟨v, d, rfl, _⟩ := h
    rfl
  · obtain ⟨v, d, rfl, hd, hz, ht, k⟩ := h
    refine ⟨_, (pss_one (ps_ret (pe_and (pe_callB call_isiD (by rfl) T.isinstance (by decide +kernel) (pa_cons (pv 0) (pa_cons (pe_bltn (v := V.ty "str") (u := Value.type "str") (by rfl) T.str_ (by decide +kernel) rfl) pa_nil))) (pe_and (pe_cmpR op_le (pe_callB call_lenD (by rfl) T.len PySem.boot_len (pa_cons (pv 0) pa_nil)) (pe_glob (v := V.int 6) rfl hL ⟨_, rfl⟩) (nomark _))
      (pe_one (pe_all (own := [("sign", 1)]) hr rfl T.all TB rfl rfl sc.nd (blkOk_by (N := ["value", "sign"]) (sc := defScope sIsWord) (own := [("sign", 1)]) (by decide +kernel)) (by decide +kernel) rfl rfl (pi_str (pv 0)) (fun _ _ _ _ _ _ _ => (pg_name (i := 1) sc.nd rfl (Or.inl rfl))) (fun _ _ _ _ _ _ _ hr => pe_chain op_le_str op_le_str pe_str (pv 1) pe_str))))))), ?_⟩
    refine ⟨_, rfl, _, _, _, rfl, by simp, hd, _, rfl, ?_⟩
    refine ite2 (fun h1 => ?_) (fun h1 => ?_)
    · cases hd <;> simp [isI, isT, tyN] at h1
      rename_i x
      refine ⟨_, rfl, _, _, _, rfl, .str x, if_pos hz, _, _, rfl, rfl, _, rfl, ?_⟩
      refine ite2 (fun h2 => ?_) (fun h2 => ?_)
      · refine ⟨_, rfl, _, rfl, ht, ?_⟩
        have full : isWord (.str x) = x.cps.toList.all signOk := by
          show (decide ((x.length : Int) ≤ 6) && x.cps.toList.all signOk) = _
          rw [h2, Bool.true_and]
        rw [full] at k
        refine all_by x.cps.size (fun i H' => H' = H ∧ (x.cps.toList.take i).all signOk = true) ⟨rfl, by simp⟩ (fun i H' hi hp => ?_) (fun H' hp => ?_)
        · obtain ⟨rfl, hp⟩ := hp
          refine ⟨hi, fun y H2 ⟨e, c, hc, ey⟩ => ⟨rfl, ?_⟩⟩
          subst e ey
          have hc2 : x.cps.toList[i]? = some c := by simpa using hc
          have step : signOk c = true → (x.cps.toList.take (i + 1)).all signOk = true := fun h => by
            rw [List.take_add_one, hc2]
            simp only [Option.toList_some, List.all_append, hp, List.all_cons, h, List.all_nil, Bool.and_self]
          have fail : signOk c = false → Q (.bl false) H2 := fun h => by
            have e : x.cps.toList.all signOk = false := by
              rw [Bool.eq_false_iff]
              intro z
              have z2 := List.all_eq_true.mp z c (List.mem_of_getElem? hc2)
              rw [h] at z2
              cases z2
            rw [← e]
            exact k
          have ea : ∀ z : Nat, (!decide ((⟨#[z]⟩ : Str).cps.toList < (Str.ofString "a").cps.toList)) = !decide (([z] : List Nat) < [97]) := fun z => rfl
          have ez : ∀ z : Nat, (!decide ((Str.ofString "z").cps.toList < (⟨#[z]⟩ : Str).cps.toList)) = !decide (([122] : List Nat) < [z]) := fun z => rfl
          refine ⟨_, rfl, _, _, rfl, rfl, _, rfl, ?_⟩
          refine ite2 (fun h3 => ?_) (fun h3 => ?_)
          · refine ⟨_, _, rfl, rfl, _, rfl, fun h4 => .mk hi ⟨rfl, step ?_⟩, fun h4 => fail ?_⟩
            · rw [ea] at h3
              rw [ez] at h4
              unfold signOk
              rw [h3, h4]
              rfl
            · rw [ea] at h3
              rw [ez] at h4
              unfold signOk
              rw [h3, h4]
              rfl
          · refine ⟨_, rfl, fun z => (nomatch z), fun _ => fail ?_⟩
            have h3 := bf h3
            rw [ea] at h3
            unfold signOk
            rw [h3, Bool.false_and]
        · obtain ⟨rfl, hp⟩ := hp
          refine ⟨Nat.le_refl _, ?_⟩
          have e : x.cps.toList.take x.cps.size = x.cps.toList := by rw [List.take_of_length_le (by simp)]
          rw [e] at hp
          show Q (.bl true) H'
          rw [← hp]
          exact k
      · have e : isWord (.str x) = false := by
          show (decide ((x.length : Int) ≤ 6) && x.cps.toList.all signOk) = _
          rw [bf h2, Bool.false_and]
        rw [← e]
        exact k
    · have e : isWord d = false := by
        cases hd <;> first | rfl | (simp [isI, isT, tyN] at h1)
      rw [← e]
      exact k
end
end RS
set_option Elab.async false
set_option maxRecDepth 100000
set_option maxHeartbeats 4000000
namespace RS
open PySem PySem.Spec PyProof.Rows L2 GX

/-! ### kinds, values, rows -/
/-- the name of a kind: true a word's, false a number's -/
def kindS (b : Bool) : Str := if b then "word" else "number"
def kindsD (ks : List Bool) : PyData := .tuple (ks.map fun b => .str (kindS b))
def inBand (d : PyData) : Bool := match d with
  | .int n => decide (-999 ≤ n) && decide (n ≤ 999)
  | _ => false
def isVal (b : Bool) (d : PyData) : Bool := if b then isWord d else isNum d && inBand d
def isRow (ks : List Bool) (d : PyData) : Bool := match d with
  | .tuple ds => decide (ds.length = ks.length) && (ks.zip ds).all fun p => isVal p.1 p.2
  | _ => false
/-- the texts in a row have their size -/
def fitR (d : PyData) : Prop := match d with
  | .tuple ds => ds.length ≤ 1000 ∧ ∀ e ∈ ds, fitD e
  | .list ds => ds.length ≤ 1000
  | d => fitD d

theorem kindS_word (b : Bool) : decide (V.str (kindS b) = V.str "word") = b := by
  cases b
  · decide +kernel
  · decide +kernel
theorem isNum_int {K : PySem.W.Frag} {H : Hp} {v : V} {d : PyData} (h : Dp K H v d) (e : isNum d = true) : ∃ n, d = .int n ∧ v = .int n := by
  cases h <;> first | exact ⟨_, rfl, rfl⟩ | (simp [isNum, isI, isT, tyN] at e)

section
variable {P : Program} {w : World} {K : PySem.W.Frag} {mg : Str → Option Value} {base : Heap}
theorem scIsValue : FnScope ["kind", "value"] ["kind", "value"] (defScope sIsValue) := ⟨rfl, rfl, rfl, by decide +kernel, rfl, by decide +kernel, by decide +kernel⟩
def spValue (K : PySem.W.Frag) (P : Addr) : Sp := fun vs H Q _ => ∃ (b : Bool) (v : V) (d : PyData), vs = [.str (kindS b), v] ∧ Dp K H v d ∧ fitD d ∧ Tab H P ∧ Q (.bl (isVal b d)) H
theorem is_value_ok {c p : Addr} (D : DefAt K mg "is_value" sIsValue c) (T : Txt K mg) (cW : Cal P w K mg base CX0 2 "is_word" ["value"] (spWord K p)) (cN : Cal P w K mg base CX0 1 "is_number" ["value"] (spNum K)) :
    Cal P w K mg base CX0 3 "is_value" ["kind", "value"] (spValue K p) := by
  have sc := scIsValue
  obtain ⟨tN, hN⟩ := T.number
  refine def_ok0 D sc (fun vs H Q E h => ?_) (fun _ _ _ _ _ _ us hl => match us, hl with | [_, _], _ => rfl) (fun f A outer s H vs Q E hr h => ?_)
  · obtain ⟨b, v, d, rfl, _⟩ := h
    rfl
  · obtain ⟨b, v, d, rfl, hd, hz, ht, k⟩ := h
    refine ⟨_, (pss_cons (ps_if (pt_cmpR op_eq (pv 0) pe_str (nomark _)) (pss_one (ps_ret (pe_c cW hr (by decide) (by rfl) pass0 (pa_cons (pv 1) pa_nil)))) pss_nil) (pss_one (ps_ret (pe_and (pe_c cN hr (by decide) (by rfl) pass0 (pa_cons (pv 1) pa_nil)) (pe_one (pe_chain op_le op_le (pe_un un_neg (pe_glob (v := V.int 999) rfl hN ⟨_, rfl⟩)) (pv 1) (pe_glob (v := V.int 999) rfl hN ⟨_, rfl⟩))))))), ?_⟩
    refine ⟨_, rfl, rfl, _, rfl, ?_⟩
    have hb : decide (V.str (kindS b) = V.str (Str.ofString "word")) = b := kindS_word b
    rw [hb]
    cases b with
    | true => exact iteT ⟨_, rfl, v, d, rfl, hd, hz, ht, k⟩
    | false =>
      refine iteF ⟨_, rfl, v, d, rfl, hd, _, rfl, ?_⟩
      refine ite2 (fun h1 => ?_) (fun h1 => ?_)
      · obtain ⟨n, rfl, rfl⟩ := isNum_int hd h1
        have ev : isVal false (.int n) = (decide (-999 ≤ n) && decide (n ≤ 999)) := by
          show (isNum (.int n) && inBand (.int n)) = _
          rw [h1, Bool.true_and]
          rfl
        rw [ev] at k
        refine ⟨_, rfl, _, rfl, _, _, rfl, rfl, _, rfl, ?_⟩
        refine ite2 (fun h2 => ?_) (fun h2 => ?_)
        · rw [h2, Bool.true_and] at k
          exact ⟨_, _, rfl, rfl, k⟩
        · rw [bf h2, Bool.false_and] at k
          exact k
      · have ev : isVal false d = false := by
          show (isNum d && inBand d) = false
          rw [bf h1, Bool.false_and]
        rw [ev] at k
        exact k

theorem scIsRow : FnScope ["kinds", "row", "kind", "value"] ["kinds", "row"] (defScope sIsRow) := ⟨rfl, rfl, rfl, by decide +kernel, rfl, by decide +kernel, by decide +kernel⟩
def spRow (K : PySem.W.Frag) (pW pR : Addr) : Sp := fun vs H Q _ => ∃ (vk vr : V) (ks : List Bool) (d : PyData), vs = [vk, vr] ∧ Dp K H vk (kindsD ks) ∧ Dp K H vr d ∧ ks.length ≤ 1000 ∧ fitR d ∧ Tab H pW ∧ Tab H pR ∧ ∀ H', Same H H' → Q (.bl (isRow ks d)) H'
theorem is_row_ok {c pW pR : Addr} (D : DefAt K mg "is_row" sIsRow c) (T : Txt K mg) (TB : GxR.TabB base mg c pR) (cV : Cal P w K mg base CX0 3 "is_value" ["kind", "value"] (spValue K pW)) :
    Cal P w K mg base CX0 5 "is_row" ["kinds", "row"] (spRow K pW pR) := by
  have sc := scIsRow
  refine def_ok0 D sc (fun vs H Q E h => ?_) (fun _ _ _ _ _ _ us hl => match us, hl with | [_, _], _ => rfl) (fun f A outer s H vs Q E hr h => ?_)
  · obtain ⟨vk, vr, ks, d, rfl, _⟩ := h
    rfl
  · obtain ⟨vk, vr, ks, d, rfl, hk, hd, hlk, hz, hW, hR, k⟩ := h
    refine ⟨_, (pss_cons (ps_if ((pw_or (pt_not (pt_val (pe_callB call_isiD (by rfl) T.isinstance (by decide +kernel) (pa_cons (pv 1) (pa_cons (pe_bltn (v := V.ty "tuple") (u := Value.type "tuple") (by rfl) T.tuple_ (by decide +kernel) rfl) pa_nil))))) (pw_or1 (pt_cmpR op_ne (pe_callB call_lenD (by rfl) T.len PySem.boot_len (pa_cons (pv 1) pa_nil)) (pe_callB call_lenD (by rfl) T.len PySem.boot_len (pa_cons (pv 0) pa_nil)) (nomark _)))).pt) (pss_one (ps_ret pe_bl)) pss_nil) (pss_one (ps_ret (pe_all (own := [("kind", 2), ("value", 3)]) (g := gTup K 2 (gCons (gName 2) (gCons (gName 3) gNil))) hr rfl T.all TB rfl rfl sc.nd (blkOk_by (N := ["kinds", "row", "kind", "value"]) (sc := defScope sIsRow) (own := [("kind", 2), ("value", 3)]) (by decide +kernel)) (by decide +kernel) rfl rfl (RZ.pi_zipA (by rfl) T.zip (pa_cons (pv 0) (pa_cons (pv 1) pa_nil))) (fun _ _ _ _ _ _ _ => (pg_tup (by rfl) (pgs_cons (pg_name (i := 2) sc.nd rfl (Or.inl rfl)) (pgs_cons (pg_name (i := 3) sc.nd rfl (Or.inl rfl)) pgs_nil)))) (fun _ _ _ _ _ _ _ hr => (pe_c cV hr (by decide) (by rfl) pass0 (pa_cons (pv 2) (pa_cons (pv 3) pa_nil)))))))), ?_⟩
    refine ⟨_, rfl, _, _, _, rfl, by simp, hd, _, rfl, ?_⟩
    have nf : isRow ks d = false → Q (.bl false) H := fun e => by
      rw [← e]
      exact k H (Same.refl H)
    cases hd with
    | non => exact iteT (iteT (nf rfl))
    | bl _ => exact iteT (iteT (nf rfl))
    | int _ => exact iteT (iteT (nf rfl))
    | str _ => exact iteT (iteT (nf rfl))
    | lst _ _ => exact iteT (iteT (nf rfl))
    | @tup a xs ds hS hI =>
      refine iteF ⟨_, rfl, _, _, ds.length, rfl, .tup hS hI, rfl, _, rfl, _, _, (ks.map fun b => PyData.str (kindS b)).length, rfl, hk, rfl, rfl, _, rfl, ?_⟩
      rw [List.length_map]
      obtain ⟨hz1, hz2⟩ : ds.length ≤ 1000 ∧ ∀ e ∈ ds, fitD e := hz
      refine ite2 (fun h1 => ?_) (fun h1 => ?_)
      · refine nf ?_
        have e : ¬ ds.length = ks.length := fun z => by
          rw [z] at h1
          simp at h1
        show (decide (ds.length = ks.length) && _) = false
        rw [decide_eq_false e, Bool.false_and]
      · have e : ds.length = ks.length := by
          by_cases z : ds.length = ks.length
          · exact z
          · exact absurd (by simp; omega) h1
        have full : isRow ks (.tuple ds) = (ks.zip ds).all fun p => isVal p.1 p.2 := by
          show (decide (ds.length = ks.length) && _) = _
          rw [decide_eq_true e, Bool.true_and]
        rw [full] at k
        obtain ⟨aK, kv, rfl, hKS, hKI⟩ : ∃ aK kv, vk = .ref aK ∧ SqT K H aK kv ∧ DpAll K H kv (ks.map fun b => PyData.str (kindS b)) := by
          cases hk with
          | tup h1 h2 => exact ⟨_, _, rfl, h1, h2⟩
        have lk : kv.length = ks.length := by rw [dpLen hKI, List.length_map]
        have lx : xs.length = ds.length := dpLen hI
        refine ⟨_, rfl, _, rfl, aK, a, kv, xs, rfl, .inr ⟨hKS, hS, hR, ?_⟩⟩
        refine all_by ks.length (fun i H' => Same H H' ∧ ((ks.zip ds).take i).all (fun p => isVal p.1 p.2) = true) ⟨Same.refl H, by simp⟩ (fun i H' hi hp => ?_) (fun H' hp => ?_)
        · obtain ⟨sm, hp⟩ := hp
          have hiv : i < kv.length := by omega
          have hix : i < xs.length := by omega
          refine ⟨⟨kv, xs, kv[i], xs[i], sqT_same sm hKS, sqT_same sm hS, List.getElem?_eq_getElem hiv, List.getElem?_eq_getElem hix⟩, fun y H2 ⟨TT, x1, y1, ey, hTT, eH, hx, hy⟩ => ?_⟩
          subst ey eH
          have ex := hx kv (sqT_same sm hKS)
          have ey := hy xs (sqT_same sm hS)
          obtain ⟨dk, edk, hdk⟩ := dpGet hKI ex
          obtain ⟨dx, edx, hdx⟩ := dpGet hI ey
          obtain ⟨b, eb, rfl⟩ : ∃ b, ks[i]? = some b ∧ PyData.str (kindS b) = dk := by
            rw [List.getElem?_map] at edk
            cases q : ks[i]? with
            | none => rw [q] at edk; cases edk
            | some b => rw [q] at edk; exact ⟨b, rfl, Option.some.inj edk⟩
          have sm2 : Same H (upd H' TT (.tup [x1, y1])) := fun c o q => by
            rw [upd_ne (ne_of_none (sm c o q) hTT)]
            exact sm c o q
          have ez : (ks.zip ds)[i]? = some (b, dx) := by
            rw [List.getElem?_zip_eq_some]
            exact ⟨eb, edx⟩
          cases hdk
          refine ⟨TT, [_, y1], rfl, SqT.of upd_same, rfl, _, _, rfl, _, _, rfl, rfl, rfl, ?_⟩
          refine ⟨_, rfl, _, rfl, b, y1, dx, rfl, dp_same sm2 _ hdx, hz2 dx (List.mem_of_getElem? edx), sm2 _ _ hW, ?_⟩
          refine ⟨_, rfl, fun h2 => .mk hi ⟨sm2, ?_⟩, fun h2 => ?_⟩
          · rw [List.take_add_one, ez]
            simp only [Option.toList_some, List.all_append, hp, List.all_cons, h2, List.all_nil, Bool.and_self]
          · have e2 : (ks.zip ds).all (fun p => isVal p.1 p.2) = false := by
              rw [Bool.eq_false_iff]
              intro z
              have z2 := List.all_eq_true.mp z _ (List.mem_of_getElem? ez)
              rw [h2] at z2
              cases z2
            rw [← e2]
            exact k _ sm2
        · obtain ⟨sm, hp⟩ := hp
          refine ⟨⟨kv, xs, sqT_same sm hKS, sqT_same sm hS, .inl (by omega)⟩, ?_⟩
          rw [List.take_of_length_le (by rw [List.length_zip]; omega)] at hp
          rw [← hp]
          exact k _ sm
end
end RS
set_option Elab.async false
set_option maxRecDepth 100000
set_option maxHeartbeats 4000000
namespace RS
open PySem PySem.Spec PyProof.Rows L2 GX

/-- many new objects are laid and tracked at once -/
theorem laid_many {X : Cx} {pins : List (Addr × Obj)} {σ : L2.St} {H H2 : Hp} {s : Shared} {g : Heap} {tk : Nat} (I : Inv X pins σ H s) (kp : ∀ b u, s.heap.get? b = some u → g.get? b = some u)
    (old : ∀ b, b < s.heap.objs.size → H2 b = H b) (new : ∀ b o, s.heap.objs.size ≤ b → H2 b = some o → ObjOk X.prog X.w H2 g b o) : Inv X pins σ H2 { s with heap := g, toks := tk } := by
  have up : ∀ b o, H b = some o → H2 b = some o := fun b o e => by rw [old b (I.hok.lt e)]; exact e
  refine I.un (t' := tk) ⟨fun b o e _ _ _ => kp b o e, fun b o e _ _ _ => ⟨o.slots, kp b o e⟩, fun b o e n _ => by rw [old b (Heap.lt_size e)]; exact n, fun b o e _ => ⟨o, kp b o e⟩,
    fun b xs e => up b _ e, fun b o u e => up b _ e, fun b ps e => ⟨#[], by rw [up b _ e, Array.append_empty]⟩⟩ (fun b o e => ?_)
  by_cases hb : b < s.heap.objs.size
  · rw [old b hb] at e
    exact (I.hok b o e).stay (fun c u _ q => kp c u q) (fun c q => up c _ q) (fun c xs q => up c _ q)
  · exact new b o (Nat.le_of_not_lt hb) e

theorem enum_no_len : typeLookup (.type "enumerate") "__len__" = pure none := by rw [typeLookup_type, builtinLookup_eq_fast]; kernel_rfl
theorem enum_no_hint : typeLookup (.type "enumerate") "__length_hint__" = pure none := by rw [typeLookup_type, builtinLookup_eq_fast]; kernel_rfl

/-- the enumeration e over the iterator it of the list l stands ahead of item i -/
def EnumAt (h : Heap) (e it l : Addr) (i : Nat) : Prop :=
  h.IsListIter it l i ∧ ((i = 0 ∧ IsEnum h e it 0 .none) ∨ ∃ (T : Addr) (f : Bool) (x : Value) (o : Obj), IsEnumHeld h e it (i : Int) x T f ∧ h.get? T = some o ∧ T ≠ e ∧ T ≠ it)
/-- the pairs that have been put into acc -/
def Pairs (h : Heap) (lo : Nat) (items : Array Value) (acc : Array Value) : Prop :=
  ∀ j v, acc[j]? = some v → ∃ (T : Addr) (tk : Nat) (x : Value), v = .ref T ∧ lo ≤ T ∧ items[j]? = some x ∧ h.get? T = some { cls := .type "tuple", data := .seq #[.int (j : Nat) tk, x] }
section
variable {prog : Program} {w : World} {A : Around} {s0 : Shared} {S e it l : Addr} {items : Array Value}
theorem enum_next {E : Value → Shared → Prop} {s : Shared} {i : Nat} {x : Value} {Q : Option Value → Shared → Prop} (hs : EnumAt s.heap e it l i) (hl : s.heap.IsList l items) (hx : items[i]? = some x) (hne : e ≠ it)
    (he : e < s.heap.objs.size) (hi : it < s.heap.objs.size)
    (hQ : ∀ g, EnumAt g e it l (i + 1) → g.get? s.heap.objs.size = some { cls := .type "tuple", data := .seq #[.int (i : Nat) s.toks, x] } → (∀ b o, b ≠ e → b ≠ it → s.heap.get? b = some o → g.get? b = some o) →
      Q (some (.ref s.heap.objs.size)) { s with heap := g, toks := s.toks + 1 }) : wpAny (model prog w) A (pyNext (.ref e)) Q E s := by
  obtain ⟨hit, ⟨rfl, h0⟩ | ⟨T, f, y, o, h1, hT, hTe, hTi⟩⟩ := hs
  · refine wpAny_pyNext_enum_item (i := 0) h0 hit hl hx hne fun g a b c _ d => hQ g ⟨b, .inr ⟨_, _, _, _, a, c, Nat.ne_of_gt he, Nat.ne_of_gt hi⟩⟩ c d
  · exact wpAny_pyNext_enum_item_held h1 hT hTe hTi hit hl hx hne fun g a b c _ d => hQ g ⟨b, .inr ⟨T, true, y, o, a, d T o hTe hTi hT, hTe, hTi⟩⟩ c d
theorem enum_stop {E : Value → Shared → Prop} {s : Shared} {i : Nat} {Q : Option Value → Shared → Prop} (hh : A.handled = none) (hs : EnumAt s.heap e it l i) (hl : s.heap.IsList l items) (hx : items[i]? = none)
    (hQ : ∀ g, Heap.ExtBut it s.heap g → Q none { s with heap := g }) : wpAny (model prog w) A (pyNext (.ref e)) Q E s := by
  obtain ⟨hit, ⟨rfl, h0⟩ | ⟨T, f, y, o, h1, hT, hTe, hTi⟩⟩ := hs
  · exact wpAny_pyNext_enum_end hh h0 hit hl hx hQ
  · exact wpAny_pyNext_enum_end_held hh h1 hit hl hx hQ

theorem enum_loop {R : Result → Shared → Prop} {res : Value} (hh : A.handled = none) (hne : e ≠ it) (hSe : S ≠ e) (hSi : S ≠ it) (hSl : S ≠ l) (hle : l ≠ e) (hli : l ≠ it) (lo : Nat) (hz : items.size ≤ sizeLine)
    (hend : ∀ g tk acc c, g.get? S = some (lstObj acc c) → acc.size = items.size → Pairs g lo items acc → (∀ b o, b ≠ e → b ≠ it → b ≠ S → s0.heap.get? b = some o → g.get? b = some o) → R (.ok (.ret res)) { s0 with heap := g, toks := tk }) :
    ∀ (k i : Nat) (g : Heap) (tk : Nat) (acc : Array Value) (c : Nat), items.size - i = k → i ≤ items.size → acc.size = i → g.get? S = some (lstObj acc c) → EnumAt g e it l i → g.IsList l items → lo ≤ g.objs.size → e < lo → it < lo → S < lo →
      Pairs g lo items acc → (∀ b o, b ≠ e → b ≠ it → b ≠ S → s0.heap.get? b = some o → g.get? b = some o) →
      codeAny (model prog w) A (.builtin "list.extend.loop" ⟨[.ref S, .ref e, res], []⟩) R { s0 with heap := g, toks := tk } := by
  intro k
  induction k with
  | zero =>
    intro i g tk acc c hk hi ha hS he hl hlo helo hilo hSlo hp hkp
    have hin : i = items.size := by omega
    refine codeAny_builtin F.entry_extend_loop ?_
    rw [Around.under_plainId F.plain_extend_loop _]
    show wpAny _ A.in1 (pyNext (.ref e) >>= _) _ _ _
    refine wpAny_bind (enum_stop (s := { s0 with heap := g, toks := tk }) hh he hl (by rw [hin]; simp) fun g2 ext => ?_)
    refine wpAny_pure (hend g2 tk acc c (ext S _ hSi hS) (by omega) (fun j v hv => ?_) (fun b o h1 h2 h3 q => ext b o h2 (hkp b o h1 h2 h3 q)))
    obtain ⟨T, tk', x, e1, e2, e3, e4⟩ := hp j v hv
    exact ⟨T, tk', x, e1, e2, e3, ext T _ (Nat.ne_of_gt (Nat.lt_of_lt_of_le hilo e2)) e4⟩
  | succ k ih =>
    intro i g tk acc c hk hi ha hS he hl hlo helo hilo hSlo hp hkp
    have hlt : i < items.size := by omega
    refine codeAny_builtin F.entry_extend_loop ?_
    rw [Around.under_plainId F.plain_extend_loop _]
    show wpAny _ A.in1 (pyNext (.ref e) >>= _) _ _ _
    refine wpAny_bind (enum_next (s := { s0 with heap := g, toks := tk }) he hl (Array.getElem?_eq_getElem hlt) hne (Nat.lt_of_lt_of_le helo hlo) (Nat.lt_of_lt_of_le hilo hlo) fun g2 he2 hT2 hk2 => ?_)
    have hS2 : g2.get? S = some (lstObj acc c) := hk2 S _ hSe hSi hS
    have gT : g.objs.size ≠ S := fun z => Nat.lt_irrefl _ (Nat.lt_of_lt_of_le (by rw [z]; exact hSlo) hlo)
    have gTe : g.objs.size ≠ e := fun z => Nat.lt_irrefl _ (Nat.lt_of_lt_of_le (by rw [z]; exact helo) hlo)
    have gTi : g.objs.size ≠ it := fun z => Nat.lt_irrefl _ (Nat.lt_of_lt_of_le (by rw [z]; exact hilo) hlo)
    show wpAny _ A.in1 (updateSeq S (·.push (.ref g.objs.size)) >>= _) _ _ _
    apply wpAny_bind
    refine wpAny_updateSeq hS2 rfl (wpAny_pure ⟨plainId_quiet F.plain_extend_loop _, ?_⟩) (by omega) (by show (acc.push _).size ≤ sizeLine + 1; rw [Array.size_push]; omega)
    have up : ∀ b o, b ≠ S → g2.get? b = some o → (g2.update S (Obj.mapSeq (·.push (.ref g.objs.size)))).get? b = some o := fun b o hb q => (Heap.get?_update_other _ _ (Ne.symm hb)).trans q
    have lt2 : g.objs.size < g2.objs.size := Heap.lt_size hT2
    refine ih (i + 1) _ _ (acc.push (.ref g.objs.size)) _ (by omega) hlt (by rw [Array.size_push]; omega) (Heap.get?_update_self _ hS2 rfl) ?_ ?_ ?_ helo hilo hSlo (fun j v hv => ?_) (fun b o h1 h2 h3 q => up b o h3 (hk2 b o h1 h2 (hkp b o h1 h2 h3 q)))
    · obtain ⟨⟨oi, hoi, r⟩, hd⟩ := he2
      refine ⟨⟨oi, up it oi (Ne.symm hSi) hoi, r⟩, ?_⟩
      rcases hd with ⟨z, q⟩ | ⟨T, f, x, o, q1, q2, q3, q4⟩
      · exact .inl ⟨z, up e _ (Ne.symm hSe) q⟩
      · by_cases hTS : T = S
        · subst hTS
          exact .inr ⟨T, f, x, _, up e _ (Ne.symm hSe) q1, Heap.get?_update_self _ hS2 rfl, q3, q4⟩
        · exact .inr ⟨T, f, x, o, up e _ (Ne.symm hSe) q1, up T o hTS q2, q3, q4⟩
    · obtain ⟨ol, hol, r⟩ := hl
      exact ⟨ol, up l ol (Ne.symm hSl) (hk2 l ol hle hli hol), r⟩
    · rw [Heap.size_update]
      exact Nat.le_trans hlo (Nat.le_of_lt lt2)
    · rw [Array.getElem?_push] at hv
      split at hv
      · rename_i hj
        cases hv
        have ej : j = i := by omega
        subst ej
        exact ⟨g.objs.size, tk, items[j], rfl, hlo, Array.getElem?_eq_getElem hlt, up _ _ gT hT2⟩
      · obtain ⟨T, tk', x, e1, e2, e3, e4⟩ := hp j v hv
        have nTS : T ≠ S := Nat.ne_of_gt (Nat.lt_of_lt_of_le hSlo e2)
        exact ⟨T, tk', x, e1, e2, e3, up T _ nTS (hk2 T _ (Nat.ne_of_gt (Nat.lt_of_lt_of_le helo e2)) (Nat.ne_of_gt (Nat.lt_of_lt_of_le hilo e2)) e4)⟩
end
end RS
set_option Elab.async false
set_option maxRecDepth 100000
set_option maxHeartbeats 4000000
namespace RS
open PySem PySem.Spec PyProof.Rows L2 GX

/-- list(e), e an enumeration of the list l that has just been made -/
theorem list_of_enum {P : Program} {w : World} {A : Around} {E : Value → Shared → Prop} {s : Shared} {e it l : Addr} {items : Array Value} {Q : Value → Shared → Prop} (hh : A.handled = none) (he : IsEnum s.heap e it 0 .none) (hit : s.heap.IsListIter it l 0) (hl : s.heap.IsList l items)
    (hne : e ≠ it) (hle : l ≠ e) (hli : l ≠ it) (hz : items.size ≤ sizeLine)
    (hQ : ∀ g tk acc c, g.get? s.heap.objs.size = some (lstObj acc c) → acc.size = items.size → Pairs g (s.heap.objs.size + 1) items acc → (∀ b o, b ≠ e → b ≠ it → s.heap.get? b = some o → g.get? b = some o) → Q (.ref s.heap.objs.size) { s with heap := g, toks := tk }) :
    wpAny (model P w) A (call (.type "list") [.ref e]) Q E s := by
  have lte : e < s.heap.objs.size := Heap.lt_size he
  have lti : it < s.heap.objs.size := by obtain ⟨o, ho, _⟩ := hit; exact Heap.lt_size ho
  have ltl : l < s.heap.objs.size := by obtain ⟨o, ho, _⟩ := hl; exact Heap.lt_size ho
  have hSe : s.heap.objs.size ≠ e := Nat.ne_of_gt lte
  have tyE : ∀ {g : Heap}, (∀ b o, s.heap.get? b = some o → g.get? b = some o) → ({ s with heap := g } : Shared).TypeIs (.ref e) "enumerate" := fun {g} q => ⟨_, q _ _ he, rfl⟩
  refine callType_codes (Q₁ := fun obj s₁ => obj = .ref s.heap.objs.size ∧ s₁ = { s with heap := s.heap.push { cls := .type "list", data := .seq #[] } }) PySem.F.called_list (PySem.F.typeCall_list_1 _) PySem.F.entry_list_init
    (code_list_new _ ⟨rfl, rfl⟩) fun obj s₁ h₁ => ?_
  obtain ⟨rfl, rfl⟩ := h₁
  have hS : (s.heap.push { cls := .type "list", data := .seq #[] }).get? s.heap.objs.size = some { cls := .type "list", data := .seq #[] } := Heap.get?_push_size _ rfl
  refine ⟨⟨_, hS, rfl⟩, PySem.F.args_list_init_2 _ _, ?_⟩
  show wpAny _ A.in1.in1 (do
    let old ← Builtin.List.listItems (.ref s.heap.objs.size)
    Builtin.List.listUpdate (.ref s.heap.objs.size) (fun _ => #[])
    letGo old.toList.reverse
    Builtin.List.listExtendWith (.ref s.heap.objs.size) (.ref e) .none) _ _ _
  apply wpAny_bind
  unfold Builtin.List.listItems
  refine wpAny_bind (wpAny_seqItems hS rfl (wpAny_pure ?_))
  show wpAny _ A.in1.in1 (updateSeq s.heap.objs.size (fun _ => #[]) >>= fun _ => letGo (#[] : Array Value).toList.reverse >>= fun _ =>
    Builtin.List.listExtendWith (.ref s.heap.objs.size) (.ref e) .none) _ _ _
  refine wpAny_bind (wpAny_updateSeq hS rfl ?_)
  have hS2 := Heap.get?_update_self (Obj.mapSeq (fun _ => (#[] : Array Value))) hS rfl
  apply wpAny_bind
  apply wpAny_letGo
  unfold Builtin.List.listExtendWith
  have up : ∀ (h : Heap) (f : Obj → Obj), (∀ b o, s.heap.get? b = some o → h.get? b = some o) → ∀ b o, s.heap.get? b = some o → (h.update s.heap.objs.size f).get? b = some o := fun h f q b o y =>
    (Heap.get?_update_other _ _ (Ne.symm (Nat.ne_of_lt (Heap.lt_size y)))).trans (q b o y)
  have k1 : ∀ b o, s.heap.get? b = some o → (s.heap.push { cls := .type "list", data := .seq #[] }).get? b = some o := fun b o y => Heap.get?_push_of_some _ y
  have k2 := up _ (Obj.mapSeq (fun _ => (#[] : Array Value))) k1
  apply wpAny_bind
  refine wpAny_typeOf (tyE k2) ?_
  have h1 : Builtin.List.listSameRef (.ref s.heap.objs.size) (.ref e) = false := by simp [Builtin.List.listSameRef, hSe]
  have h2 : (Value.type "enumerate" == Value.type "list") = false := by decide
  have h3 : (Value.type "enumerate" == Value.type "tuple") = false := by decide
  simp only [h1, h2, h3, Bool.or_false, Bool.false_eq_true, if_false]
  apply wpAny_bind
  refine wpAny_pyIter_enum (s := { s with heap := _ }) (k2 _ _ he) ?_
  apply wpAny_bind
  apply wpAny_holding
  unfold Builtin.List.listLengthHint
  apply wpAny_bind
  refine wpAny_specialOf (tyE k2) enum_no_len ?_
  show wpAny _ A.in1.in1 (specialOf (Value.ref e) (Str.ofString "__length_hint__") >>= _) _ _ _
  apply wpAny_bind
  refine wpAny_specialOf (tyE k2) enum_no_hint ?_
  apply wpAny_pure
  show wpAny _ A.in1.in1 (rule "list.extend.makes-room" >>= fun _ => Builtin.List.listTouch (.ref s.heap.objs.size) >>= fun _ =>
    again (.builtin "list.extend.loop" ⟨[.ref s.heap.objs.size, .ref e, .none], []⟩)) _ _ _
  apply wpAny_bind
  apply wpAny_rule
  apply wpAny_bind
  show wpAny _ A.in1.in1 (updateSeq s.heap.objs.size (·.push .none) >>= fun _ => updateSeq s.heap.objs.size (·.pop)) _ _ _
  refine wpAny_bind (wpAny_updateSeq hS2 rfl ?_)
  have hS3 := Heap.get?_update_self (Obj.mapSeq (·.push Value.none)) hS2 rfl
  refine wpAny_updateSeq (hz := by seq_fits) hS3 rfl ?_
  have hS4 := Heap.get?_update_self (Obj.mapSeq (·.pop)) hS3 rfl
  have k4 := up _ (Obj.mapSeq (·.pop)) (up _ (Obj.mapSeq (·.push Value.none)) k2)
  refine wpAny_pure ⟨plainId_quiet PySem.F.plain_extend_loop _, ?_⟩
  refine enum_loop (s0 := s) (A := A.in1) (S := s.heap.objs.size) hh hne hSe (Nat.ne_of_gt lti) (Nat.ne_of_gt ltl) hle hli (s.heap.objs.size + 1) hz
    (fun g tk acc c q1 q2 q3 q4 => ⟨rfl, hQ g tk acc c q1 q2 q3 fun b o n1 n2 y => q4 b o n1 n2 (Nat.ne_of_lt (Heap.lt_size y)) y⟩) items.size 0 _ s.toks #[] _ (Nat.sub_zero _) (Nat.zero_le _) rfl hS4 ⟨?_, .inl ⟨rfl, k4 _ _ he⟩⟩ ?_ ?_
    (Nat.lt_succ_of_lt lte) (Nat.lt_succ_of_lt lti) (Nat.lt_succ_self _) (fun j v hv => by simp at hv) (fun b o _ _ _ y => k4 b o y)
  · obtain ⟨o, ho, r⟩ := hit
    exact ⟨o, k4 _ _ ho, r⟩
  · obtain ⟨o, ho, r⟩ := hl
    exact ⟨o, k4 _ _ ho, r⟩
  · exact Heap.lt_size hS4

/-- list(enumerate(e)) -/
def tLE (K : PySem.W.Frag) (te : TE) : TE := fun σ H Q => te σ H fun v H1 => ∃ a xs, v = .ref a ∧ SqL K H1 a xs ∧
  ∀ (H2 : Hp) (p : Addr) (ts : List Addr), Same H1 H2 → H1 p = none → H2 p = some (.lst (ts.map V.ref)) → ts.length = xs.length →
    (∀ (i : Nat) (x : V), xs[i]? = some x → ∃ T, ts[i]? = some T ∧ H1 T = none ∧ H2 T = some (.tup [.int i, x])) → Q (.ref p) H2
section
variable {X : Cx} {e : Expr} {te : TE} {p1 p2 q1 q2 : Pos}
theorem pe_le (hc : X.calm = true) (hg : Gl X "list") (hm : X.mg "list" = none) (hg2 : Gl X "enumerate") (hm2 : X.mg "enumerate" = none) (he : PE X e te)
    (hs : starEach [e] X.env = [(false, eval e X.env)] := by rfl)
    (hs2 : starEach [.Call (.Name "enumerate" q1) [e] [] q2] X.env = [(false, eval (.Call (.Name "enumerate" q1) [e] [] q2) X.env)] := by rfl) :
    PE X (.Call (.Name "list" p1) [.Call (.Name "enumerate" q1) [e] [] q2] [] p2) (tLE X.K te) := by
  refine ⟨fun pins s σ H Q I h => ?_⟩
  refine wpAny_Call_Name_kw (ld_blt I hg hm (show bootBuiltins "list" = some (.type "list") by decide +kernel) ?_)
  refine PyProof.Rows.callWith_type1 ?_ hs2 rfl
  rw [hs2]
  show wpAny _ _ (spliced [(false, eval (.Call (.Name "enumerate" q1) [e] [] q2) X.env)]) _ _ s
  refine Calls.spliced_cons ?_
  refine wpAny_Call_Name_kw (ld_blt I hg2 hm2 (show bootBuiltins "enumerate" = some (.type "enumerate") by decide +kernel) ?_)
  refine PyProof.Rows.callWith_type1 ?_ hs rfl
  rw [hs]
  show wpAny _ _ (spliced [(false, eval e X.env)]) _ _ s
  refine Calls.spliced_cons (thn (he.run pins s σ H _ I h) fun u s1 ⟨v, H1, I1, r1, a, xs, ev, hq, q⟩ => ?_)
  subst ev
  cases r1
  obtain ⟨its, rv, pl, hz⟩ := I1.list hq
  have lits : its.toArray.size = xs.length := by rw [List.size_toArray]; exact rv.length.symm
  have lta : a < s1.heap.objs.size := by obtain ⟨o, ho, _⟩ := pl.isList; exact Heap.lt_size ho
  refine Calls.spliced_nil ?_
  refine call_enumerate_list pl.isList fun g hen hit hsz hk => ?_
  refine Calls.spliced_nil ?_
  have I2 : Inv X pins σ H1 { s1 with heap := g } := I1.kept (t' := s1.toks) hk
  have hl2 : g.IsList a its.toArray := by
    obtain ⟨o, ho, r⟩ := pl.isList
    exact ⟨o, hk _ _ ho, r⟩
  refine list_of_enum (s := { s1 with heap := g }) (I1.ok.hd hc) hen hit hl2 (Nat.succ_ne_self _) (Nat.ne_of_lt (Nat.lt_succ_of_lt lta)) (Nat.ne_of_lt lta) (by rw [lits]; exact hz) fun g2 tk acc c hS ha hp hk2 => ?_
  -- what is new
  have szg : g.objs.size = s1.heap.objs.size + 2 := hsz
  have kall : ∀ b o, s1.heap.get? b = some o → g2.get? b = some o := fun b o y => by
    have lt := Heap.lt_size y
    exact hk2 b o (Nat.ne_of_lt (Nat.lt_succ_of_lt lt)) (Nat.ne_of_lt lt) (hk b o y)
  have sym : ∀ (i : Nat) (x : V), xs[i]? = some x → ∃ (T : Addr) (tk' : Nat) (u : Value), acc[i]? = some (.ref T) ∧ g.objs.size + 1 ≤ T ∧ RelV x u ∧ g2.get? T = some { cls := .type "tuple", data := .seq #[.int (i : Nat) tk', u] } := fun i x hx => by
    have hi : i < acc.size := by
      rw [ha, lits]
      exact (List.getElem?_eq_some_iff.mp hx).1
    obtain ⟨T, tk', u, e1, e2, e3, e4⟩ := hp i _ (Array.getElem?_eq_getElem hi)
    obtain ⟨u', hu', ru⟩ := rv.get hx
    have e3' : its[i]? = some u := by simpa using e3
    rw [hu'] at e3'
    cases e3'
    exact ⟨T, tk', u, by rw [Array.getElem?_eq_getElem hi, e1], e2, ru, e4⟩
  let adr : Value → Addr := fun v => match v with | .ref b => b | _ => 0
  have hts : ∀ v ∈ acc.toList, v = .ref (adr v) := fun v hv => by
    obtain ⟨j, hj⟩ := List.getElem?_of_mem hv
    obtain ⟨T, _, _, e1, _⟩ := hp j v (by simpa using hj)
    rw [e1]
  have tlen : (acc.toList.map adr).length = xs.length := by rw [List.length_map, Array.length_toList, ha, lits]
  have tget : ∀ (i : Nat) (x : V), xs[i]? = some x → ∃ (T : Addr) (tk' : Nat) (u : Value), (acc.toList.map adr)[i]? = some T ∧ g.objs.size + 1 ≤ T ∧ RelV x u ∧ g2.get? T = some { cls := .type "tuple", data := .seq #[.int (i : Nat) tk', u] } := fun i x hx => by
    obtain ⟨T, tk', u, e1, e2, e3, e4⟩ := sym i x hx
    refine ⟨T, tk', u, ?_, e2, e3, e4⟩
    rw [List.getElem?_map, Array.getElem?_toList, e1]
    rfl
  -- the new abstract heap
  let mk : Addr → Option HO := fun b => if b = g.objs.size then some (.lst ((acc.toList.map adr).map V.ref)) else
    match (List.range xs.length).find? (fun i => (acc.toList.map adr)[i]? == some b) with
    | some i => (xs[i]?).map fun x => .tup [.int (i : Nat), x]
    | none => none
  let H2 : Hp := fun b => if b < g.objs.size then H1 b else mk b
  have at_T : ∀ (i : Nat) (x : V) (T : Addr), xs[i]? = some x → (acc.toList.map adr)[i]? = some T → H2 T = some (.tup [.int (i : Nat), x]) := fun i x T hx hT => by
    obtain ⟨T', tk', u, f1, f2, _, f4⟩ := tget i x hx
    rw [hT] at f1
    cases f1
    show (if T < g.objs.size then H1 T else if T = g.objs.size then _ else _) = _
    rw [if_neg (Nat.not_lt.mpr (Nat.le_of_succ_le f2)), if_neg (Nat.ne_of_gt f2)]
    cases hf : (List.range xs.length).find? (fun i => (acc.toList.map adr)[i]? == some T) with
    | none =>
      have z := List.find?_eq_none.mp hf i (List.mem_range.mpr (List.getElem?_eq_some_iff.mp hx).1)
      rw [hT] at z
      simp at z
    | some j =>
      have hj := List.find?_some hf
      have hj2 := List.mem_range.mp (List.mem_of_find?_eq_some hf)
      have hj3 : (acc.toList.map adr)[j]? = some T := by simpa using hj
      obtain ⟨T2, tk2, u2, g1, _, g3, g4⟩ := tget j xs[j] (List.getElem?_eq_getElem hj2)
      rw [hj3] at g1
      cases g1
      rw [f4] at g4
      have e0 : (#[Value.int (i : Nat) tk', u] : Array Value) = #[.int (j : Nat) tk2, u2] := by
        injection (Option.some.inj g4) with _ _ d
        injection d
      have e5 : i = j := by
        have z := congrArg (fun a : Array Value => a[0]?) e0
        simp at z
        omega
      subst e5
      show Option.map (fun x => HO.tup [V.int (i : Nat), x]) xs[i]? = _
      rw [hx]
      rfl
  have I3 : Inv X pins σ H2 { s1 with heap := g2, toks := tk } := by
    have I3 := laid_many (H2 := H2) (g := g2) (tk := tk) I1 kall (fun b hb => if_pos (show b < g.objs.size by omega)) (fun b o hb e => ?_)
    · exact I3
    · by_cases h1 : b < g.objs.size
      · have e' : H1 b = some o := (if_pos h1).symm.trans e
        rw [I1.hok.fresh hb] at e'
        cases e'
      · have e' : mk b = some o := (if_neg h1).symm.trans e
        by_cases h2 : b = g.objs.size
        · have e2 : some (HO.lst ((acc.toList.map adr).map V.ref)) = some o := (if_pos h2).symm.trans e'
          cases e2
          subst h2
          refine ⟨by rw [List.length_map, tlen]; exact hz, acc.toList, c, ?_, by rw [Array.toArray_toList]; exact hS⟩
          have vals : ∀ l : List Value, (∀ v ∈ l, v = .ref (adr v)) → Vals ((l.map adr).map V.ref) l := fun l => by
            induction l with
            | nil => intro _; exact .nil
            | cons v r ih => intro hv; exact .cons (hv v List.mem_cons_self) (ih fun u hu => hv u (List.mem_cons_of_mem _ hu))
          exact vals _ hts
        · have e2 : (match (List.range xs.length).find? (fun i => (acc.toList.map adr)[i]? == some b) with
              | some i => (xs[i]?).map fun x => HO.tup [.int (i : Nat), x]
              | none => none) = some o := (if_neg h2).symm.trans e'
          cases hf : (List.range xs.length).find? (fun i => (acc.toList.map adr)[i]? == some b) with
          | none =>
            rw [hf] at e2
            cases e2
          | some j =>
            rw [hf] at e2
            have hj := List.find?_some hf
            have hj2 := List.mem_range.mp (List.mem_of_find?_eq_some hf)
            have hj3 : (acc.toList.map adr)[j]? = some b := by simpa using hj
            have e3 : some (HO.tup [.int (j : Nat), xs[j]]) = some o := by
              rw [← e2]
              show _ = Option.map (fun x => HO.tup [V.int (j : Nat), x]) xs[j]?
              rw [List.getElem?_eq_getElem hj2]
              rfl
            cases e3
            obtain ⟨T2, tk2, u2, g1, _, g3, g4⟩ := tget j xs[j] (List.getElem?_eq_getElem hj2)
            rw [hj3] at g1
            cases g1
            exact ⟨by show 2 ≤ sizeLine; decide, [.int (j : Nat) tk2, u2], .cons ⟨_, rfl⟩ (.cons g3 .nil), ⟨_, g4, rfl, _, rfl⟩⟩
  have same : Same H1 H2 := fun b o y => by
    show (if b < g.objs.size then H1 b else mk b) = some o
    rw [if_pos (show b < g.objs.size from Nat.lt_of_lt_of_le (I1.hok.lt y) (by rw [szg]; exact Nat.le_add_right _ _))]
    exact y
  have Snone : H1 g.objs.size = none := I1.hok.fresh (by omega)
  refine ⟨.ref g.objs.size, H2, I3, rfl, q H2 g.objs.size (acc.toList.map adr) same Snone ?_ tlen fun i x hx => ?_⟩
  · show (if g.objs.size < g.objs.size then H1 _ else mk _) = _
    rw [if_neg (Nat.lt_irrefl _)]
    exact if_pos rfl
  · obtain ⟨T, tk', u, e1, e2, e3, e4⟩ := tget i x hx
    exact ⟨T, e1, I1.hok.fresh (by omega), at_T i x T hx e1⟩
end
end RS
set_option Elab.async false
set_option maxRecDepth 100000
set_option maxHeartbeats 4000000
namespace RS
open PySem PySem.Spec PyProof.Rows L2 GX
/-- a for of n turns by a word of its own: the next turn -/
def ForNx (n : Nat) (Pv : Nat → L2.St → Hp → Prop) (i : Nat) (σ : L2.St) (H : Hp) : Prop := Pv (i + 1) σ H
theorem for_by {J : It} {g : TG} {tb : TS} {D : Ends} {σ : L2.St} {H : Hp} (n : Nat) (Pv : Nat → L2.St → Hp → Prop) (h0 : Pv 0 σ H)
    (turn : ∀ i σ H, i < n → Pv i σ H → J.go i H ∧ ∀ x H', J.yld i H x H' → g x σ H' fun σ2 H2 => tb { D with nx := Pv (i + 1), ct := Pv (i + 1), bk := D.nx } σ2 H2)
    (stop : ∀ σ H, Pv n σ H → J.stop n H ∧ D.nx σ H) :
    ∃ W : Nat → Nat → L2.St → Hp → Prop, (∃ m, W 0 m σ H) ∧ ∀ i m σ H, W i m σ H →
      (J.stop i H ∧ D.nx σ H) ∨ (J.go i H ∧ ∃ N : L2.St → Hp → Prop, (∀ σ' H', N σ' H' → ∃ m', m' < m ∧ W (i + 1) m' σ' H') ∧ ∀ x H', J.yld i H x H' → g x σ H' fun σ2 H2 => tb { D with nx := N, ct := N, bk := D.nx } σ2 H2) := by
  refine ⟨fun i m σ H => m = n - i ∧ i ≤ n ∧ Pv i σ H, ⟨n, rfl, Nat.zero_le _, h0⟩, ?_⟩
  rintro i m σ H ⟨rfl, hi, p⟩
  by_cases hlt : i < n
  · obtain ⟨go, nx⟩ := turn i σ H hlt p
    exact .inr ⟨go, Pv (i + 1), fun σ' H' p' => ⟨n - (i + 1), by omega, rfl, hlt, p'⟩, nx⟩
  · have e : i = n := by omega
    subst e
    exact .inl (stop σ H p)
theorem lc_by {J : It} {g : TG} {tt : TT} {te : TE} {vs : List Nat} {σ : L2.St} {H1 : Hp} {D : Addr} {Qd : Hp → Prop} (n : Nat) (Pv : Nat → Hp → Prop) (h0 : Pv 0 (upd H1 D (.lst [])))
    (turn : ∀ i H, i < n → Pv i H → J.go i H ∧ ∀ x H', J.yld i H x H' → g x (wipe σ vs) H' fun σ2 H2 => wipe σ2 vs = wipe σ vs ∧ tt σ2 H2 fun b H3 =>
      if b = true then te σ2 H3 fun y H4 => ∃ acc, H4 D = some (.lst acc) ∧ acc.length < sizeLine ∧ Pv (i + 1) (upd H4 D (.lst (acc ++ [y]))) else Pv (i + 1) H3)
    (stop : ∀ H, Pv n H → J.stop n H ∧ Qd H) :
    ∃ W : Nat → Nat → Hp → Prop, (∃ m, W 0 m (upd H1 D (.lst []))) ∧ ∀ i m H, W i m H →
      (J.stop i H ∧ Qd H) ∨ (J.go i H ∧ ∃ Nx : Hp → Prop, (∀ H', Nx H' → ∃ m', m' < m ∧ W (i + 1) m' H') ∧ ∀ x H', J.yld i H x H' → g x (wipe σ vs) H' fun σ2 H2 => wipe σ2 vs = wipe σ vs ∧ tt σ2 H2 fun b H3 =>
        if b = true then te σ2 H3 fun y H4 => ∃ acc, H4 D = some (.lst acc) ∧ acc.length < sizeLine ∧ Nx (upd H4 D (.lst (acc ++ [y]))) else Nx H3) := by
  refine ⟨fun i m H => m = n - i ∧ i ≤ n ∧ Pv i H, ⟨n, rfl, Nat.zero_le _, h0⟩, ?_⟩
  rintro i m H ⟨rfl, hi, p⟩
  by_cases hlt : i < n
  · obtain ⟨go, nx⟩ := turn i H hlt p
    exact .inr ⟨go, Pv (i + 1), fun H' p' => ⟨n - (i + 1), by omega, rfl, hlt, p'⟩, nx⟩
  · have e : i = n := by omega
    subst e
    exact .inl (stop H p)

/-! ### numbered things -/
def enumP {α : Type} : Nat → List α → List (Nat × α)
  | _, [] => []
  | k, x :: xs => (k, x) :: enumP (k + 1) xs
theorem enumP_get {α : Type} : ∀ (l : List α) (k i : Nat), (enumP k l)[i]? = l[i]?.map fun x => (k + i, x)
  | [], k, i => by simp [enumP]
  | x :: xs, k, 0 => by simp [enumP]
  | x :: xs, k, i + 1 => by
    show (enumP (k + 1) xs)[i]? = _
    rw [enumP_get xs (k + 1) i]
    have e : k + 1 + i = k + (i + 1) := by omega
    rw [e]
    simp
theorem enumP_length {α : Type} : ∀ (l : List α) (k : Nat), (enumP k l).length = l.length
  | [], _ => rfl
  | _ :: xs, k => congrArg (· + 1) (enumP_length xs (k + 1))
/-- a (number, row) -/
def pairD (q : Nat × List PyData) : PyData := .tuple [.int q.1, .tuple q.2]
def pairsD (l : List (Nat × List PyData)) : PyData := .list (l.map pairD)

/-- data by places -/
theorem dpAll_by {K : PySem.W.Frag} {H : Hp} : ∀ {vs : List V} {ds : List PyData}, vs.length = ds.length → (∀ (i : Nat) (v : V) (d : PyData), vs[i]? = some v → ds[i]? = some d → Dp K H v d) → DpAll K H vs ds
  | [], [], _, _ => .nil
  | [], _ :: _, h, _ => by simp at h
  | _ :: _, [], h, _ => by simp at h
  | v :: vs, d :: ds, h, k => .cons (k 0 v d rfl rfl) (dpAll_by (by simpa using h) fun i v d e1 e2 => k (i + 1) v d (by simpa using e1) (by simpa using e2))
end RS
set_option Elab.async false
set_option maxRecDepth 100000
set_option maxHeartbeats 4000000
namespace RS
open PySem PySem.Spec PyProof.Rows L2 GX

/-! ### orders -/
def wayS (b : Bool) : Str := if b then "down" else "up"
def partD (p : Nat × Bool) : PyData := .tuple [.int p.1, .str (wayS p.2)]
def orderD (os : List (Nat × Bool)) : PyData := .list (os.map partD)
structure OkOrder (n : Nat) (os : List (Nat × Bool)) : Prop where
  some_ : os ≠ []
  col : ∀ p ∈ os, p.1 < n
  nd : (os.map (·.1)).Nodup
def rowsD (rs : List (List PyData)) : PyData := .list (rs.map .tuple)

theorem inV_kind (b : Bool) : inV (.str (kindS b)) [.str "number", .str "word"] = true := by
  cases b
  · decide +kernel
  · decide +kernel
theorem inV_way (b : Bool) : inV (.str (wayS b)) [.str "up", .str "down"] = true := by
  cases b
  · decide +kernel
  · decide +kernel

theorem nodup_nat {l : List Nat} (h : l.Nodup) {i j c : Nat} (a : l[i]? = some c) (b : l[j]? = some c) : i = j := by
  obtain ⟨h1, e1⟩ := List.getElem?_eq_some_iff.mp a
  obtain ⟨h2, e2⟩ := List.getElem?_eq_some_iff.mp b
  exact (List.getElem_inj h).mp (e1.trans e2.symm)
section
variable {P : Program} {w : World} {K : PySem.W.Frag} {mg : Str → Option Value} {base : Heap}
theorem scIsPart : FnScope ["kinds", "part", "column", "way"] ["kinds", "part"] (defScope sIsPart) := ⟨rfl, rfl, rfl, by decide +kernel, rfl, by decide +kernel, by decide +kernel⟩
def spPart (K : PySem.W.Frag) : Sp := fun vs H Q _ => ∃ (vk vp : V) (ks : List Bool) (p : Nat × Bool), vs = [vk, vp] ∧ Dp K H vk (kindsD ks) ∧ Dp K H vp (partD p) ∧ p.1 < ks.length ∧ Q (.bl true) H
theorem is_part_ok {c : Addr} (D : DefAt K mg "is_part" sIsPart c) (T : Txt K mg) (cN : Cal P w K mg base CX0 1 "is_number" ["value"] (spNum K)) : Cal P w K mg base CX0 2 "is_part" ["kinds", "part"] (spPart K) := by
  have sc := scIsPart
  obtain ⟨aW, hW, hWS⟩ := T.ways
  refine def_ok0 D sc (fun vs H Q E h => ?_) (fun _ _ _ _ _ _ us hl => match us, hl with | [_, _], _ => rfl) (fun f A outer s H vs Q E hr h => ?_)
  · obtain ⟨vk, vp, ks, p, rfl, _⟩ := h
    rfl
  · obtain ⟨vk, vp, ks, ⟨c, b⟩, rfl, hk, hp, hc, k⟩ := h
    refine ⟨_, (pss_cons (ps_if ((pw_or (pt_not (pt_val (pe_callB call_isiD (by rfl) T.isinstance (by decide +kernel) (pa_cons (pv 1) (pa_cons (pe_bltn (v := V.ty "tuple") (u := Value.type "tuple") (by rfl) T.tuple_ (by decide +kernel) rfl) pa_nil))))) (pw_or1 (pt_cmpR op_ne (pe_callB call_lenD (by rfl) T.len PySem.boot_len (pa_cons (pv 1) pa_nil)) pe_int (nomark _)))).pt) (pss_one (ps_ret pe_bl)) pss_nil) (pss_cons (ps_asg (pv 1) (pg_tup (by rfl) (pgs_cons (pg_name (i := 2) sc.nd rfl (Or.inl rfl)) (pgs_cons (pg_name (i := 3) sc.nd rfl (Or.inl rfl)) pgs_nil)))) (pss_one (ps_ret (pe_and (pe_c cN hr (by decide) (by rfl) pass0 (pa_cons (pv 2) pa_nil)) (pe_and (pe_chain op_le op_lt pe_int (pv 2) (pe_callB call_lenD (by rfl) T.len PySem.boot_len (pa_cons (pv 0) pa_nil))) (pe_one (pe_cmpR op_in_seq (pv 3) (pe_glob (v := V.ref aW) (by rfl) hW rfl) (by rfl))))))))), ?_⟩
    refine ⟨_, rfl, _, _, _, rfl, by simp, hp, _, rfl, ?_⟩
    refine iteF ⟨_, rfl, _, _, 2, rfl, hp, rfl, rfl, _, rfl, ?_⟩
    refine iteF ⟨_, rfl, ?_⟩
    cases hp with
    | @tup a xs _ hS hI =>
      cases hI with
      | cons h1 hI =>
        cases hI with
        | cons h2 hI =>
          cases hI
          cases h1
          cases h2
          refine ⟨a, _, rfl, hS, rfl, _, _, rfl, _, _, rfl, rfl, ?_⟩
          refine ⟨_, rfl, _, _, rfl, .int (c : Int), _, rfl, ?_⟩
          have hn : isNum (.int (c : Int)) = true := by simp [isNum, isI, isT, tyN]
          rw [hn]
          refine iteT ?_
          refine ⟨_, rfl, _, _, rfl, rfl, _, rfl, ?_⟩
          have h0 : decide ((0 : Int) ≤ (c : Int)) = true := decide_eq_true (Int.natCast_nonneg c)
          rw [h0]
          refine iteT ⟨_, rfl, _, _, (ks.map fun b => PyData.str (kindS b)).length, rfl, hk, rfl, _, _, rfl, rfl, _, rfl, ?_⟩
          have h3 : decide ((c : Int) < ((ks.map fun b => PyData.str (kindS b)).length : Nat)) = true := decide_eq_true (by
            rw [List.length_map]
            exact Int.ofNat_lt.mpr hc)
          rw [h3]
          refine iteT ⟨_, rfl, aW, _, rfl, .inr (hWS _), rfl, rfl, ?_⟩
          show Q (.bl (if false then _ else inV (.str (wayS b)) [.str "up", .str "down"])) H
          rw [inV_way]
          exact k

theorem scCheckKinds : FnScope ["kinds", "kind"] ["kinds"] (defScope sCheckKinds) := ⟨rfl, rfl, rfl, by decide +kernel, rfl, by decide +kernel, by decide +kernel⟩
def spCheckKinds (K : PySem.W.Frag) (p : Addr) : Sp := fun vs H Q _ => ∃ (vk : V) (ks : List Bool), vs = [vk] ∧ Dp K H vk (kindsD ks) ∧ 1 ≤ ks.length ∧ ks.length ≤ 4 ∧ Tab H p ∧ Q .non H
theorem check_kinds_ok {c p : Addr} (D : DefAt K mg "check_kinds" sCheckKinds c) (T : Txt K mg) (TB : GxR.TabB base mg c p) : Cal P w K mg base CX0 2 "check_kinds" ["kinds"] (spCheckKinds K p) := by
  have sc := scCheckKinds
  obtain ⟨aK, hK, hKS⟩ := T.kinds
  obtain ⟨tCol, hC⟩ := T.columns
  refine def_ok0 D sc (fun vs H Q E h => ?_) (fun _ _ _ _ _ _ us hl => match us, hl with | [_], _ => rfl) (fun f A outer s H vs Q E hr h => ?_)
  · obtain ⟨vk, ks, rfl, _⟩ := h
    rfl
  · obtain ⟨vk, ks, rfl, hk, h1, h4, ht, k⟩ := h
    refine ⟨_, (pss_cons (ps_if ((pw_or (pt_not (pt_val (pe_callB call_isiD (by rfl) T.isinstance (by decide +kernel) (pa_cons (pv 0) (pa_cons (pe_bltn (v := V.ty "tuple") (u := Value.type "tuple") (by rfl) T.tuple_ (by decide +kernel) rfl) pa_nil))))) (pw_or1 (pt_not (pt_chain op_le op_le pe_int (pe_callB call_lenD (by rfl) T.len PySem.boot_len (pa_cons (pv 0) pa_nil)) (pe_glob (v := V.int 4) (by rfl) hC ⟨_, rfl⟩))))).pt) pss_never pss_nil) (pss_one (ps_if (pt_not (pt_val (pe_all (own := [("kind", 1)]) (te := tOp (rIn K false) (tVar 1) (tC (.ref aK))) hr rfl T.all TB rfl rfl sc.nd (blkOk_by (N := ["kinds", "kind"]) (sc := defScope sCheckKinds) (own := [("kind", 1)]) (by decide +kernel)) (by decide +kernel) rfl rfl (pi_tup (pv 0)) (fun _ _ _ _ _ _ _ => (pg_name (i := 1) sc.nd rfl (Or.inl rfl))) (fun _ _ _ _ _ _ _ hr => pe_cmpR op_in_seq (pv 1) (pe_glob (v := V.ref aK) (by rfl) hK rfl) (by rfl))))) pss_never pss_nil))), ?_⟩
    refine ⟨_, rfl, _, _, _, rfl, by simp, hk, _, rfl, ?_⟩
    refine iteF ⟨_, rfl, _, _, (ks.map fun b => PyData.str (kindS b)).length, rfl, hk, rfl, _, _, rfl, rfl, _, rfl, ?_⟩
    rw [List.length_map]
    have e1 : decide ((1 : Int) ≤ (ks.length : Nat)) = true := decide_eq_true (by omega)
    have e2 : decide (((ks.length : Nat) : Int) ≤ 4) = true := decide_eq_true (by omega)
    rw [e1]
    refine iteT ⟨_, _, rfl, rfl, _, rfl, ?_⟩
    rw [e2]
    refine iteF ?_
    cases hk with
    | @tup a xs _ hS hI =>
      refine ⟨_, rfl, a, rfl, ⟨xs, hS⟩, ht, ?_⟩
      have lx : xs.length = ks.length := by rw [dpLen hI, List.length_map]
      refine all_by xs.length (fun i H' => H' = H) rfl (fun i H' hi e => ?_) (fun H' e => ?_)
      · subst e
        refine ⟨⟨xs, xs[i], hS, List.getElem?_eq_getElem hi⟩, fun y H2 ⟨e, hy⟩ => ?_⟩
        subst e
        have ey := hy xs hS
        obtain ⟨d, ed, hd⟩ := dpGet hI ey
        obtain ⟨b, rfl⟩ : ∃ b, d = PyData.str (kindS b) := by
          rw [List.getElem?_map] at ed
          cases q : ks[i]? with
          | none => rw [q] at ed; cases ed
          | some b => rw [q] at ed; exact ⟨b, (Option.some.inj ed).symm⟩
        cases hd
        refine ⟨rfl, _, rfl, aK, _, rfl, .inr (hKS _), rfl, rfl, ?_⟩
        refine ⟨true, ?_, fun _ => .mk hi rfl, fun z => nomatch z⟩
        show V.bl (if false then _ else inV (.str (kindS b)) [.str "number", .str "word"]) = _
        rw [inV_kind]
        rfl
      · subst e
        exact ⟨⟨xs, hS, Nat.le_refl _⟩, _, rfl, iteF k⟩

theorem scCheckOrder : FnScope ["kinds", "order", "columns", "part"] ["kinds", "order"] (defScope sCheckOrder) := ⟨rfl, rfl, rfl, by decide +kernel, rfl, by decide +kernel, by decide +kernel⟩
def spCheckOrder (K : PySem.W.Frag) : Sp := fun vs H Q _ => ∃ (vk vo : V) (ks : List Bool) (os : List (Nat × Bool)), vs = [vk, vo] ∧ Dp K H vk (kindsD ks) ∧ Dp K H vo (orderD os) ∧ OkOrder ks.length os ∧ os.length ≤ 1000 ∧ ∀ H', Same H H' → Q .non H'
theorem check_order_ok {c : Addr} (D : DefAt K mg "check_order" sCheckOrder c) (T : Txt K mg) (cP : Cal P w K mg base CX0 2 "is_part" ["kinds", "part"] (spPart K)) : Cal P w K mg base CX0 3 "check_order" ["kinds", "order"] (spCheckOrder K) := by
  have sc := scCheckOrder
  refine def_ok0 D sc (fun vs H Q E h => ?_) (fun _ _ _ _ _ _ us hl => match us, hl with | [_, _], _ => rfl) (fun f A outer s H vs Q E hr h => ?_)
  · obtain ⟨vk, vo, ks, os, rfl, _⟩ := h
    rfl
  · obtain ⟨vk, vo, ks, os, rfl, hk, ho, hok, hz, k⟩ := h
    refine ⟨_, (pss_cons (ps_if ((pw_or (pt_not (pt_val (pe_callB call_isiD (by rfl) T.isinstance (by decide +kernel) (pa_cons (pv 1) (pa_cons (pe_bltn (v := V.ty "list") (u := Value.type "list") (by rfl) T.list_ (by decide +kernel) rfl) pa_nil))))) (pw_or1 (pt_not (pt_truth (pv 1) (by intro _; rfl))))).pt) pss_never pss_nil) (pss_cons (ps_set (i := 2) sc.nd rfl (Or.inl rfl) (pe_lst pa_nil)) (pss_one (ps_for PassesOwn.never rfl (pi_list (pv 1)) (pg_name (i := 3) sc.nd rfl (Or.inl rfl)) (pss_cons (ps_if ((pw_or (pt_not (pt_val (pe_c cP hr (by decide) (by rfl) pass0 (pa_cons (pv 0) (pa_cons (pv 3) pa_nil))))) (pw_or1 (pt_cmpR op_in_seq (pe_ix ixD (pv 3) pe_int (fun _ _ => rfl)) (pv 2) (by rfl)))).pt) pss_never pss_nil) (pss_one (ps_expr (pe_bm PySem.F.plainAttrs_list PySem.F.slot_list_append PySem.F.type_list_append mt_append (pv 2) (pa_cons (pe_ix ixD (pv 3) pe_int (fun _ _ => rfl)) pa_nil))))))))), ?_⟩
    refine ⟨_, rfl, _, _, _, rfl, by simp, ho, _, rfl, ?_⟩
    cases ho with
    | @lst a xs _ hS hI =>
      have lx : xs.length = os.length := by rw [dpLen hI, List.length_map]
      have ne : xs.isEmpty = false := by
        cases xs with
        | nil =>
          have : os.length = 0 := by rw [← lx]; rfl
          exact absurd (List.eq_nil_of_length_eq_zero this) hok.some_
        | cons _ _ => rfl
      refine iteF ⟨_, rfl, !xs.isEmpty, .inl ⟨xs, hS, rfl⟩, ?_⟩
      rw [ne]
      refine iteF ⟨Nat.zero_le _, fun p hp => ?_⟩
      have s0 : Same H (upd H p (.lst [])) := fun b o e => by rw [upd_ne (ne_of_none e hp)]; exact e
      refine ⟨_, rfl, a, rfl, ⟨_, s0.seq hS⟩, for_list (K := K) (a := a) (xs := xs) (fun i σ H' => ∃ v3 : Option V, σ = [some vk, some (.ref a), some (.ref p), v3] ∧ Same H H' ∧ H' p = some (.lst ((os.take i).map fun q => V.int q.1)))
        ⟨none, rfl, s0, upd_same⟩ (fun i σ H' _ ⟨_, _, sm, _⟩ => sm.seq hS) ?_ ?_⟩
      · rintro i y σ H' hi ⟨v3, rfl, sm, hL⟩
        obtain ⟨d, ed, hd⟩ := dpGet hI hi
        obtain ⟨⟨c, b⟩, eq, rfl⟩ : ∃ q, os[i]? = some q ∧ d = partD q := by
          rw [List.getElem?_map] at ed
          cases q : os[i]? with
          | none => rw [q] at ed; cases ed
          | some b => rw [q] at ed; exact ⟨b, rfl, (Option.some.inj ed).symm⟩
        have hm := List.mem_of_getElem? eq
        have hd' := dp_same sm _ hd
        have hi' : i < os.length := (List.getElem?_eq_some_iff.mp eq).1
        refine ⟨_, rfl, _, rfl, vk, y, ks, (c, b), rfl, dp_same sm _ hk, hd', hok.col _ hm, _, rfl, ?_⟩
        refine iteF ⟨_, rfl, _, _, 0, .int c, hd', rfl, rfl, rfl, fun v hv => ?_⟩
        cases hv
        have notin : inV (.int c) ((os.take i).map fun q => V.int q.1) = false := by
          rw [Bool.eq_false_iff]
          intro z
          unfold inV at z
          obtain ⟨u, hu, he⟩ := List.any_eq_true.mp z
          obtain ⟨q, hq, rfl⟩ := List.mem_map.mp hu
          obtain ⟨j, hj⟩ := List.getElem?_of_mem hq
          rw [List.getElem?_take] at hj
          split at hj
          · rename_i hji
            have e1 : q.1 = c := by
              simp [eqV] at he
              omega
            have h1 : (os.map (·.1))[j]? = some c := by rw [List.getElem?_map, hj, ← e1]; rfl
            have h2 : (os.map (·.1))[i]? = some c := by rw [List.getElem?_map, eq]; rfl
            have := nodup_nat hok.nd h1 h2
            omega
          · cases hj
        refine ⟨_, rfl, p, _, rfl, .inl (SqL.of hL), rfl, ?_, ?_⟩
        · rw [List.all_eq_true]
          intro z hz
          obtain ⟨q, _, rfl⟩ := List.mem_map.mp hz
          rfl
        show ∃ k, V.bl (if false then _ else inV (.int c) ((os.take i).map fun q => V.int q.1)) = V.bl k ∧ _
        rw [notin]
        refine ⟨false, rfl, iteF ?_⟩
        refine ⟨_, rfl, .inl ⟨rfl, _, SqL.of hL⟩, _, rfl, _, _, 0, .int c, hd', rfl, rfl, rfl, fun v hv => ?_⟩
        cases hv
        refine ⟨p, _, _, rfl, rfl, hL, small1000 (by rw [List.length_map, List.length_take]; omega), ?_⟩
        refine ⟨_, rfl, fun b' o e => ?_, ?_⟩
        · rw [upd_ne (fun z => by subst z; rw [hp] at e; cases e)]
          exact sm b' o e
        · rw [upd_same, List.take_add_one, eq, List.map_append]
          rfl
      · rintro σ H' ⟨v3, rfl, sm, hL⟩
        exact k _ sm
end
end RS
set_option Elab.async false
set_option maxRecDepth 100000
set_option maxHeartbeats 4000000
namespace RS
open PySem PySem.Spec PyProof.Rows L2 GX

section
variable {P : Program} {w : World} {K : PySem.W.Frag} {mg : Str → Option Value} {base : Heap}
theorem scCheckRows : FnScope ["kinds", "rows", "most", "place", "row"] ["kinds", "rows", "most"] (defScope sCheckRows) := ⟨rfl, rfl, rfl, by decide +kernel, rfl, by decide +kernel, by decide +kernel⟩
def spCheckRows (K : PySem.W.Frag) (pW pR : Addr) : Sp := fun vs H Q _ => ∃ (vk vr : V) (ks : List Bool) (ds : List PyData) (m : Nat), vs = [vk, vr, .int m] ∧ Dp K H vk (kindsD ks) ∧ Dp K H vr (.list ds) ∧ ks.length ≤ 1000 ∧ ds.length ≤ m ∧ (∀ d ∈ ds, isRow ks d = true ∧ fitR d) ∧ Tab H pW ∧ Tab H pR ∧ ∀ H', Same H H' → Q .non H'
theorem check_rows_ok {c pW pR : Addr} (D : DefAt K mg "check_rows" sCheckRows c) (T : Txt K mg) (cR : Cal P w K mg base CX0 5 "is_row" ["kinds", "row"] (spRow K pW pR)) : Cal P w K mg base CX0 6 "check_rows" ["kinds", "rows", "most"] (spCheckRows K pW pR) := by
  have sc := scCheckRows
  refine def_ok0 D sc (fun vs H Q E h => ?_) (fun _ _ _ _ _ _ us hl => match us, hl with | [_, _, _], _ => rfl) (fun f A outer s H vs Q E hr h => ?_)
  · obtain ⟨vk, vr, ks, ds, m, rfl, _⟩ := h
    rfl
  · obtain ⟨vk, vr, ks, ds, m, rfl, hk, hd, hlk, hm, hok, hW, hR, k⟩ := h
    refine ⟨_, (pss_one (ps_for PassesOwn.never rfl (pi_enum (by rfl) T.enumerate (pa_cons (pv 1) pa_nil)) (pg_tup (by rfl) (pgs_cons (pg_name (i := 3) sc.nd rfl (Or.inl rfl)) (pgs_cons (pg_name (i := 4) sc.nd rfl (Or.inl rfl)) pgs_nil))) (pss_one (ps_if ((pw_or (pt_cmpR op_ge (pv 3) (pv 2) (nomark _)) (pw_or1 (pt_not (pt_val (pe_c cR hr (by decide) (by rfl) pass0 (pa_cons (pv 0) (pa_cons (pv 4) pa_nil))))))).pt) pss_never pss_nil)))), ?_⟩
    cases hd with
    | @lst a xs _ hS hI =>
      have lx : xs.length = ds.length := dpLen hI
      refine ⟨_, rfl, a, xs, rfl, hS, for_by xs.length (fun i σ H' => ∃ v3 v4 : Option V, σ = [some vk, some (.ref a), some (.int m), v3, v4] ∧ Same H H') ⟨none, none, rfl, Same.refl H⟩ ?_ ?_⟩
      · rintro i σ H' hi ⟨v3, v4, rfl, sm⟩
        refine ⟨⟨xs, xs[i], sm.seq hS, List.getElem?_eq_getElem hi⟩, fun y H2 ⟨TT, x, ey, hT, eH, hx⟩ => ?_⟩
        subst ey eH
        have ex := hx xs (sm.seq hS)
        obtain ⟨d, ed, hdx⟩ := dpGet hI ex
        obtain ⟨r1, r2⟩ := hok d (List.mem_of_getElem? ed)
        have sm2 : Same H (upd H' TT (.tup [.int (i : Nat), x])) := fun b o e => by
          rw [upd_ne (ne_of_none (sm b o e) hT)]
          exact sm b o e
        refine ⟨TT, _, rfl, SqT.of upd_same, rfl, _, _, rfl, _, _, rfl, rfl, ?_⟩
        refine ⟨_, rfl, _, rfl, _, _, rfl, rfl, _, rfl, ?_⟩
        have e1 : decide (((i : Nat) : Int) ≥ (m : Int)) = false := decide_eq_false (by omega)
        rw [e1]
        refine iteF ⟨_, rfl, _, rfl, vk, x, ks, d, rfl, dp_same sm2 _ hk, dp_same sm2 _ hdx, hlk, r2, sm2 _ _ hW, sm2 _ _ hR, fun H3 s3 => ⟨_, rfl, ?_⟩⟩
        rw [r1]
        exact iteF ⟨_, _, rfl, sm2.trans s3⟩
      · rintro σ H' ⟨v3, v4, rfl, sm⟩
        exact ⟨⟨xs, sm.seq hS, Nat.le_refl _⟩, k _ sm⟩

theorem scCheckSize : FnScope ["size"] ["size"] (defScope sCheckSize) := ⟨rfl, rfl, rfl, by decide +kernel, rfl, by decide +kernel, by decide +kernel⟩
def spCheckSize : Sp := fun vs H Q _ => ∃ (n : Int), vs = [.int n] ∧ 1 ≤ n ∧ n ≤ 24 ∧ Q .non H
theorem check_size_ok {c : Addr} (D : DefAt K mg "check_size" sCheckSize c) (T : Txt K mg) (cN : Cal P w K mg base CX0 1 "is_number" ["value"] (spNum K)) : Cal P w K mg base CX0 2 "check_size" ["size"] spCheckSize := by
  have sc := scCheckSize
  obtain ⟨tR, hR⟩ := T.room
  refine def_ok0 D sc (fun vs H Q E h => ?_) (fun _ _ _ _ _ _ us hl => match us, hl with | [_], _ => rfl) (fun f A outer s H vs Q E hr h => ?_)
  · obtain ⟨n, rfl, _⟩ := h
    rfl
  · obtain ⟨n, rfl, h1, h2, k⟩ := h
    refine ⟨_, (pss_one (ps_if ((pw_or (pt_not (pt_val (pe_c cN hr (by decide) (by rfl) pass0 (pa_cons (pv 0) pa_nil)))) (pw_or1 (pt_not (pt_chain op_le op_le pe_int (pv 0) (pe_glob (v := V.int 24) (by rfl) hR ⟨_, rfl⟩))))).pt) pss_never pss_nil)), ?_⟩
    refine ⟨_, rfl, _, _, rfl, .int n, _, rfl, ?_⟩
    have hn : isNum (.int n) = true := by simp [isNum, isI, isT, tyN]
    rw [hn]
    refine iteF ⟨_, rfl, _, _, rfl, rfl, _, rfl, ?_⟩
    rw [decide_eq_true h1]
    refine iteT ⟨_, _, rfl, rfl, _, rfl, ?_⟩
    rw [decide_eq_true h2]
    exact iteF k

theorem scNumbered : FnScope ["kinds", "order", "size", "rows"] ["kinds", "order", "size", "rows"] (defScope sNumbered) := ⟨rfl, rfl, rfl, by decide +kernel, rfl, by decide +kernel, by decide +kernel⟩
/-- what filled and exchanged are handed -/
structure Handed (K : PySem.W.Frag) (H : Hp) (vk vo vr : V) (ks : List Bool) (os : List (Nat × Bool)) (n : Int) (rs : List (List PyData)) : Prop where
  k : Dp K H vk (kindsD ks)
  o : Dp K H vo (orderD os)
  r : Dp K H vr (rowsD rs)
  k1 : 1 ≤ ks.length
  k4 : ks.length ≤ 4
  ok : OkOrder ks.length os
  oz : os.length ≤ 1000
  n1 : 1 ≤ n
  n24 : n ≤ 24
  rz : rs.length ≤ 120
  row : ∀ r ∈ rs, isRow ks (.tuple r) = true ∧ fitR (.tuple r)
theorem Handed.same {K : PySem.W.Frag} {H H' : Hp} {vk vo vr : V} {ks : List Bool} {os : List (Nat × Bool)} {n : Int} {rs : List (List PyData)} (h : Handed K H vk vo vr ks os n rs) (s : Same H H') : Handed K H' vk vo vr ks os n rs :=
  ⟨dp_same s _ h.k, dp_same s _ h.o, dp_same s _ h.r, h.k1, h.k4, h.ok, h.oz, h.n1, h.n24, h.rz, h.row⟩
structure Tabs3 (H : Hp) (pK pW pR : Addr) : Prop where
  k : Tab H pK
  w : Tab H pW
  r : Tab H pR
theorem Tabs3.same {H H' : Hp} {pK pW pR : Addr} (h : Tabs3 H pK pW pR) (s : Same H H') : Tabs3 H' pK pW pR := ⟨s _ _ h.k, s _ _ h.w, s _ _ h.r⟩
def spNumbered (K : PySem.W.Frag) (pK pW pR : Addr) : Sp := fun vs H Q _ => ∃ (vk vo vr : V) (ks : List Bool) (os : List (Nat × Bool)) (n : Int) (rs : List (List PyData)), vs = [vk, vo, .int n, vr] ∧ Handed K H vk vo vr ks os n rs ∧ Tabs3 H pK pW pR ∧
  ∀ (H' : Hp) (p : Addr) (xs : List V), Same H H' → H p = none → H' p = some (.lst xs) → DpAll K H' xs ((enumP 0 rs).map pairD) → Q (.ref p) H'
theorem numbered_ok {c pK pW pR : Addr} (D : DefAt K mg "numbered" sNumbered c) (T : Txt K mg) (c1 : Cal P w K mg base CX0 2 "check_kinds" ["kinds"] (spCheckKinds K pK)) (c2 : Cal P w K mg base CX0 3 "check_order" ["kinds", "order"] (spCheckOrder K))
    (c3 : Cal P w K mg base CX0 2 "check_size" ["size"] spCheckSize) (c4 : Cal P w K mg base CX0 6 "check_rows" ["kinds", "rows", "most"] (spCheckRows K pW pR)) : Cal P w K mg base CX0 7 "numbered" ["kinds", "order", "size", "rows"] (spNumbered K pK pW pR) := by
  have sc := scNumbered
  obtain ⟨tM, hM⟩ := T.rows
  refine def_ok0 D sc (fun vs H Q E h => ?_) (fun _ _ _ _ _ _ us hl => match us, hl with | [_, _, _, _], _ => rfl) (fun f A outer s H vs Q E hr h => ?_)
  · obtain ⟨vk, vo, vr, ks, os, n, rs, rfl, _⟩ := h
    rfl
  · obtain ⟨vk, vo, vr, ks, os, n, rs, rfl, h, ht, k⟩ := h
    refine ⟨_, (pss_cons (ps_expr (pe_c c1 hr (by decide) (by rfl) pass0 (pa_cons (pv 0) pa_nil))) (pss_cons (ps_expr (pe_c c2 hr (by decide) (by rfl) pass0 (pa_cons (pv 0) (pa_cons (pv 1) pa_nil)))) (pss_cons (ps_expr (pe_c c3 hr (by decide) (by rfl) pass0 (pa_cons (pv 2) pa_nil))) (pss_cons (ps_expr (pe_c c4 hr (by decide) (by rfl) pass0 (pa_cons (pv 0) (pa_cons (pv 3) (pa_cons (pe_glob (v := V.int 120) (by rfl) hM ⟨_, rfl⟩) pa_nil))))) (pss_one (ps_ret (pe_le rfl (by rfl) T.list_ (by rfl) T.enumerate (pv 3)))))))), ?_⟩
    refine ⟨_, rfl, vk, ks, rfl, h.k, h.k1, h.k4, ht.k, ?_⟩
    refine ⟨_, rfl, _, rfl, vk, vo, ks, os, rfl, h.k, h.o, h.ok, h.oz, fun H1 s1 => ?_⟩
    refine ⟨_, rfl, n, rfl, h.n1, h.n24, ?_⟩
    have h1 := h.same s1
    have t1 := ht.same s1
    refine ⟨_, rfl, _, rfl, vk, vr, ks, rs.map .tuple, 120, rfl, h1.k, h1.r, by have := h.k4; omega, by rw [List.length_map]; exact h.rz, fun d hd => ?_, t1.w, t1.r, fun H2 s2 => ?_⟩
    · obtain ⟨r, hr, rfl⟩ := List.mem_map.mp hd
      exact h.row r hr
    · have h2 := h1.same s2
      have hr2 := h2.r
      obtain ⟨a, xs, rfl, hS, hI⟩ : ∃ a xs, vr = .ref a ∧ SqL K H2 a xs ∧ DpAll K H2 xs (rs.map .tuple) := by
        cases hr2 with
        | lst q1 q2 => exact ⟨_, _, rfl, q1, q2⟩
      refine ⟨_, rfl, a, xs, rfl, hS, fun H3 p ts s3 hp hL hlen hat => ?_⟩
      have s13 : Same H H3 := (s1.trans s2).trans s3
      have lx : xs.length = rs.length := by rw [dpLen hI, List.length_map]
      refine k H3 p (ts.map V.ref) s13 ((s1.trans s2).free hp) hL (dpAll_by (by rw [List.length_map, List.length_map, enumP_length, hlen, lx]) fun i v d e1 e2 => ?_)
      have hi : i < xs.length := by
        have := (List.getElem?_eq_some_iff.mp e1).1
        rw [List.length_map] at this
        omega
      obtain ⟨TT, f1, f2, f3⟩ := hat i _ (List.getElem?_eq_getElem hi)
      rw [List.getElem?_map, f1] at e1
      cases e1
      rw [List.getElem?_map, enumP_get] at e2
      obtain ⟨d', g1, g2⟩ := dpGet hI (List.getElem?_eq_getElem hi)
      rw [List.getElem?_map] at g1
      cases q : rs[i]? with
      | none => rw [q] at g1; cases g1
      | some r =>
        rw [q] at g1 e2
        cases g1
        cases e2
        rw [Nat.zero_add]
        exact .tup (SqT.of f3) (.cons (.int (i : Nat)) (.cons (dp_same s3 _ g2) .nil))
end
end RS
set_option Elab.async false
set_option maxRecDepth 100000
set_option maxHeartbeats 4000000
namespace RS
open PySem PySem.Spec PyProof.Rows L2 GX

/-! ### ranks -/
def pad6 (l : List Nat) : List Nat := l ++ List.replicate (6 - l.length) 32
def worthsOf : PyData → List Int
  | .int n => [n]
  | .str x => (pad6 x.cps.toList).map Int.ofNat
  | _ => []
theorem len_cps (x : Str) : x.cps.toList.length = x.length := by simp [Str.length]
theorem isWord_len {x : Str} (h : isWord (.str x) = true) : x.length ≤ 6 := by
  have h' : (decide ((x.length : Int) ≤ 6) && x.cps.toList.all signOk) = true := h
  rw [Bool.and_eq_true] at h'
  have := of_decide_eq_true h'.1
  omega
theorem ljust6 {x : Str} (h : x.length ≤ 6) : (Txt.ljust x 6).cps.toList = pad6 x.cps.toList := by
  unfold Txt.ljust pad6
  split
  · rename_i q
    have e : x.length = 6 := by omega
    rw [len_cps, e]
    simp
  · show (Array.replicate 0 32 ++ x.cps ++ Array.replicate ((6 : Int).toNat - x.length) 32).toList = _
    rw [len_cps]
    simp
theorem pad6_len {l : List Nat} (h : l.length ≤ 6) : (pad6 l).length = 6 := by
  unfold pad6
  rw [List.length_append, List.length_replicate]
  omega
theorem worths_len {b : Bool} {d : PyData} (h : isVal b d = true) : (worthsOf d).length ≤ 6 := by
  cases d with
  | int n => exact (by decide : 1 ≤ 6)
  | str x =>
    show ((pad6 x.cps.toList).map Int.ofNat).length ≤ 6
    rw [List.length_map, pad6_len (by
      rw [len_cps]
      cases b with
      | true => exact isWord_len h
      | false => simp [isVal, isNum, isI, isT, tyN] at h)]
    exact Nat.le_refl _
  | _ => exact Nat.zero_le _
/-- what a column of an order makes of a row -/
def keyP (row : List PyData) (p : Nat × Bool) : List Int := (worthsOf (row.getD p.1 .none)).map fun z => if p.2 then -z else z
def rankOf (os : List (Nat × Bool)) (q : Nat × List PyData) : List Int := os.flatMap (keyP q.2) ++ [(q.1 : Int)]
/-- the row has what the order asks -/
def Fits (os : List (Nat × Bool)) (row : List PyData) : Prop := ∀ p ∈ os, ∃ b d, row[p.1]? = some d ∧ isVal b d = true
theorem key_len {os : List (Nat × Bool)} {row : List PyData} (h : Fits os row) : ∀ p ∈ os, (keyP row p).length ≤ 6 := fun p hp => by
  obtain ⟨b, d, e, v⟩ := h p hp
  unfold keyP
  rw [List.length_map, List.getD_eq_getElem?_getD, e]
  exact worths_len v
theorem flat_len {α β : Type} (f : α → List β) (n : Nat) : ∀ l : List α, (∀ x ∈ l, (f x).length ≤ n) → (l.flatMap f).length ≤ n * l.length
  | [], _ => by simp
  | x :: l, h => by
    rw [List.flatMap_cons, List.length_append, List.length_cons]
    have h1 := h x List.mem_cons_self
    have h2 := flat_len f n l fun y hy => h y (List.mem_cons_of_mem _ hy)
    rw [Nat.mul_add, Nat.mul_one]
    omega

section
variable {P : Program} {w : World} {K : PySem.W.Frag} {mg : Str → Option Value} {base : Heap}
theorem scWorths : FnScope ["value", "sign"] ["value"] (defScope sWorths) := ⟨rfl, rfl, rfl, by decide +kernel, rfl, by decide +kernel, by decide +kernel⟩
def spWorths (K : PySem.W.Frag) : Sp := fun vs H Q _ => ∃ (v : V) (d : PyData) (b : Bool), vs = [v] ∧ Dp K H v d ∧ isVal b d = true ∧
  ∀ (H' : Hp) (p : Addr), Same H H' → H p = none → H' p = some (.lst ((worthsOf d).map V.int)) → Q (.ref p) H'
theorem worths_ok {c : Addr} (D : DefAt K mg "worths" sWorths c) (T : Txt K mg) : Cal P w K mg base CX0 1 "worths" ["value"] (spWorths K) := by
  have sc := scWorths
  obtain ⟨tL, hL⟩ := T.letters
  refine def_ok0 D sc (fun vs H Q E h => ?_) (fun _ _ _ _ _ _ us hl => match us, hl with | [_], _ => rfl) (fun f A outer s H vs Q E hr h => ?_)
  · obtain ⟨v, d, b, rfl, _⟩ := h
    rfl
  · obtain ⟨v, d, b, rfl, hd, hv, k⟩ := h
    refine ⟨_, (pss_cons (ps_if (pt_val (pe_callB call_isiD (by rfl) T.isinstance (by decide +kernel) (pa_cons (pv 0) (pa_cons (pe_bltn (v := V.ty "str") (u := Value.type "str") (by rfl) T.str_ (by decide +kernel) rfl) pa_nil)))) (pss_one (ps_ret (pe_lc (own := [("sign", 1)]) (tt := tYes)  rfl sc.nd (pi_str (pe_bm PySem.F.plainAttrs_str PySem.F.slot_str_ljust PySem.F.type_str_ljust mt_ljust (pv 0) (pa_cons (pe_glob (v := V.int 6) (by rfl) hL ⟨_, rfl⟩) pa_nil))) (blkOk_by (N := ["value", "sign"]) (sc := defScope sWorths) (own := [("sign", 1)]) (by decide +kernel)) (fun _ _ _ _ _ => (pg_name (i := 1) sc.nd rfl (Or.inl rfl))) (fun _ _ _ _ _ => pts_nil) (fun _ _ _ _ _ => (pe_callB call_ord (by rfl) T.ord (by decide +kernel) (pa_cons (pv 1) pa_nil)))))) pss_nil) (pss_one (ps_ret (pe_lst (pa_cons (pv 0) pa_nil))))), ?_⟩
    refine ⟨_, rfl, _, _, _, rfl, by simp, hd, _, rfl, ?_⟩
    cases hd with
    | non => cases b <;> simp [isVal, isNum, isI, isT, tyN, isWord] at hv
    | bl _ => cases b <;> simp [isVal, isNum, isI, isT, tyN, isWord] at hv
    | lst _ _ => cases b <;> simp [isVal, isNum, isI, isT, tyN, isWord] at hv
    | tup _ _ => cases b <;> simp [isVal, isNum, isI, isT, tyN, isWord] at hv
    | int n =>
      have e : isI "str" (.int n) = false := by simp [isI, isT, tyN]
      rw [e]
      refine iteF ⟨_, rfl, by show 1 ≤ sizeLine; decide, fun p hp => ?_⟩
      exact k _ p (fun b' o q => by rw [upd_ne (ne_of_none q hp)]; exact q) hp upd_same
    | str x =>
      have e : isI "str" (.str x) = true := by simp [isI, isT, tyN]
      rw [e]
      have hx : x.length ≤ 6 := by
        cases b with
        | true => exact isWord_len hv
        | false => simp [isVal, isNum, isI, isT, tyN] at hv
      refine iteT ⟨_, rfl, rfl, x, 6, rfl, rfl, by decide +kernel, _, rfl, fun p hp => ?_⟩
      refine lc_by (Txt.ljust x 6).cps.size (fun i H' => Same H H' ∧ H' p = some (.lst (((pad6 x.cps.toList).take i).map fun c => V.int (Int.ofNat c)))) ⟨fun b' o q => by rw [upd_ne (ne_of_none q hp)]; exact q, upd_same⟩ ?_ ?_
      · rintro i H' hi ⟨sm, hl⟩
        refine ⟨hi, fun y H2 ⟨e2, cc, hc, ey⟩ => ?_⟩
        subst e2 ey
        have hc2 : (pad6 x.cps.toList)[i]? = some cc := by
          rw [← ljust6 hx]
          simpa using hc
        have li : i < 6 := by
          rw [← pad6_len (by rw [len_cps]; exact hx)]
          exact (List.getElem?_eq_some_iff.mp hc2).1
        refine ⟨rfl, _, rfl, _, rfl, rfl, _, hl, small1000 (by rw [List.length_map, List.length_take]; omega), ?_, ?_⟩
        · exact fun b' o q => by rw [upd_ne (ne_of_none q hp)]; exact sm b' o q
        · rw [upd_same, List.take_add_one, hc2, List.map_append]
          rfl
      · rintro H' ⟨sm, hl⟩
        refine ⟨Nat.le_refl _, ?_⟩
        have ez : (pad6 x.cps.toList).take (Txt.ljust x 6).cps.size = pad6 x.cps.toList := by
          rw [List.take_of_length_le]
          rw [← ljust6 hx]
          simp
        rw [ez] at hl
        refine k H' p sm hp ?_
        rw [hl]
        show _ = some (HO.lst (((pad6 x.cps.toList).map Int.ofNat).map V.int))
        rw [List.map_map]
        rfl

theorem scRank : FnScope ["order", "told", "number", "row", "ranked", "column", "way", "worth"] ["order", "told"] (defScope sRank) := ⟨rfl, rfl, rfl, by decide +kernel, rfl, by decide +kernel, by decide +kernel⟩
def spRank (K : PySem.W.Frag) : Sp := fun vs H Q _ => ∃ (vo vt : V) (os : List (Nat × Bool)) (q : Nat × List PyData), vs = [vo, vt] ∧ Dp K H vo (orderD os) ∧ Dp K H vt (pairD q) ∧ os.length ≤ 1000 ∧ Fits os q.2 ∧
  ∀ (H' : Hp) (p : Addr), Same H H' → H p = none → H' p = some (.tup ((rankOf os q).map V.int)) → Q (.ref p) H'
theorem rank_ok {c : Addr} (D : DefAt K mg "rank" sRank c) (T : Txt K mg) (cW : Cal P w K mg base CX0 1 "worths" ["value"] (spWorths K)) : Cal P w K mg base CX0 2 "rank" ["order", "told"] (spRank K) := by
  have sc := scRank
  refine def_ok0 D sc (fun vs H Q E h => ?_) (fun _ _ _ _ _ _ us hl => match us, hl with | [_, _], _ => rfl) (fun f A outer s H vs Q E hr h => ?_)
  · obtain ⟨vo, vt, os, q, rfl, _⟩ := h
    rfl
  · obtain ⟨vo, vt, os, ⟨n, row⟩, rfl, ho, hq, hz, hf, k⟩ := h
    refine ⟨_, (pss_cons (ps_asg (pv 1) (pg_tup (by rfl) (pgs_cons (pg_name (i := 2) sc.nd rfl (Or.inl rfl)) (pgs_cons (pg_name (i := 3) sc.nd rfl (Or.inl rfl)) pgs_nil)))) (pss_cons (ps_set (i := 4) sc.nd rfl (Or.inl rfl) (pe_lst pa_nil)) (pss_cons (ps_for PassesOwn.never rfl (pi_list (pv 0)) (pg_tup (by rfl) (pgs_cons (pg_name (i := 5) sc.nd rfl (Or.inl rfl)) (pgs_cons (pg_name (i := 6) sc.nd rfl (Or.inl rfl)) pgs_nil))) (pss_one (ps_if (pt_cmpR op_eq (pv 6) pe_str (nomark _)) (pss_one (ps_expr (pe_bm PySem.F.plainAttrs_list PySem.F.slot_list_extend PySem.F.type_list_extend mt_extend (pv 4) (pa_cons (pe_c cW hr (by decide) (by rfl) pass0 (pa_cons (pe_ix ixD (pv 3) (pv 5) (fun _ _ => rfl)) pa_nil)) pa_nil)))) (pss_one (ps_expr (pe_bm PySem.F.plainAttrs_list PySem.F.slot_list_extend PySem.F.type_list_extend mt_extend (pv 4) (pa_cons (pe_lc (own := [("worth", 7)]) (tt := tYes)  rfl sc.nd (pi_list (pe_c cW hr (by decide) (by rfl) pass0 (pa_cons (pe_ix ixD (pv 3) (pv 5) (fun _ _ => rfl)) pa_nil))) (blkOk_by (N := ["order", "told", "number", "row", "ranked", "column", "way", "worth"]) (sc := defScope sRank) (own := [("worth", 7)]) (by decide +kernel)) (fun _ _ _ _ _ => (pg_name (i := 7) sc.nd rfl (Or.inl rfl))) (fun _ _ _ _ _ => pts_nil) (fun _ _ _ _ _ => pe_un un_neg (pv 7))) pa_nil))))))) (pss_one (ps_ret (pe_callTy call_tuple_of (by rfl) T.tuple_ (by decide +kernel) (pa_cons (pe_op op_cat (pv 4) (pe_lst (pa_cons (pv 2) pa_nil))) pa_nil))))))), ?_⟩
    cases ho with
    | @lst ao xo _ hSo hIo =>
      cases hq with
      | @tup at_ xt _ hSt hIt =>
        cases hIt with
        | cons h1 hIt =>
          cases hIt with
          | cons h2 hIt =>
            cases hIt
            cases h1
            rename_i vr
            have lo : xo.length = os.length := by rw [dpLen hIo, List.length_map]
            refine ⟨_, rfl, at_, _, rfl, hSt, rfl, _, _, rfl, _, _, rfl, rfl, ?_⟩
            refine ⟨Nat.zero_le _, fun pr hp => ?_⟩
            have s0 : Same H (upd H pr (.lst [])) := fun b' o e => by rw [upd_ne (ne_of_none e hp)]; exact e
            refine ⟨_, rfl, ao, rfl, ⟨_, s0.seq hSo⟩, for_list (K := K) (a := ao) (xs := xo) (fun i σ H' => ∃ v5 v6 : Option V, σ = [some (.ref ao), some (.ref at_), some (.int (n : Int)), some vr, some (.ref pr), v5, v6, none] ∧ Same H H' ∧ H' pr = some (.lst (((os.take i).flatMap (keyP row)).map V.int)))
              ⟨none, none, rfl, s0, upd_same⟩ (fun i σ H' _ ⟨_, _, _, sm, _⟩ => sm.seq hSo) ?_ ?_⟩
            · rintro i y σ H' hi ⟨v5, v6, rfl, sm, hL⟩
              obtain ⟨d, ed, hd⟩ := dpGet hIo hi
              obtain ⟨⟨c, b⟩, eq, rfl⟩ : ∃ q, os[i]? = some q ∧ d = partD q := by
                rw [List.getElem?_map] at ed
                cases q : os[i]? with
                | none => rw [q] at ed; cases ed
                | some b => rw [q] at ed; exact ⟨b, rfl, (Option.some.inj ed).symm⟩
              have hm := List.mem_of_getElem? eq
              have hi' : i < os.length := (List.getElem?_eq_some_iff.mp eq).1
              obtain ⟨b', d, er, hv⟩ := hf _ hm
              have er : row[c]? = some d := er
              cases hd with
              | @tup ap xp _ hSp hIp =>
                cases hIp with
                | cons g1 hIp =>
                  cases hIp with
                  | cons g2 hIp =>
                    cases hIp
                    cases g1
                    cases g2
                    have ekey : keyP row (c, b) = (worthsOf d).map fun z => if b then -z else z := by
                      unfold keyP
                      rw [List.getD_eq_getElem?_getD, er]
                      rfl
                    have full : (os.take (i + 1)).flatMap (keyP row) = (os.take i).flatMap (keyP row) ++ keyP row (c, b) := by
                      rw [List.take_add_one, eq, List.flatMap_append]
                      simp
                    have l1 : ((os.take i).flatMap (keyP row)).length ≤ 6000 := by
                      have := flat_len (keyP row) 6 (os.take i) fun x hx => key_len hf x (List.mem_of_mem_take hx)
                      rw [List.length_take] at this
                      omega
                    have l2 : (worthsOf d).length ≤ 6 := worths_len hv
                    have big : (6006 : Nat) ≤ sizeLine := by decide
                    refine ⟨ap, _, rfl, sqT_same sm hSp, rfl, _, _, rfl, _, _, rfl, rfl, ?_⟩
                    refine ⟨_, rfl, rfl, _, rfl, ?_⟩
                    have hw : decide (V.str (wayS b) = V.str (Str.ofString "up")) = !b := by cases b <;> decide +kernel
                    rw [hw]
                    cases b with
                    | false =>
                      refine iteT ⟨_, rfl, .inl ⟨rfl, _, SqL.of hL⟩, _, rfl, _, rfl, _, row, c, d, dp_same sm _ h2, rfl, rfl, atI_nat er, fun v hv' => ?_⟩
                      refine ⟨v, d, b', rfl, hv', hv, fun H2 p2 s2 hp2 hL2 => ?_⟩
                      have ne2 : p2 ≠ pr := fun z => by rw [z, hL] at hp2; cases hp2
                      refine ⟨pr, p2, _, _, rfl, rfl, s2 _ _ hL, hL2, by simp only [List.length_map]; omega, ?_⟩
                      refine ⟨_, _, rfl, fun q o e => ?_, ?_⟩
                      · rw [upd_ne (fun z => by subst z; rw [hp] at e; cases e)]
                        exact s2 _ _ (sm q o e)
                      · rw [upd_same, full, List.map_append, ekey]
                        simp
                    | true =>
                      refine iteF ⟨_, rfl, .inl ⟨rfl, _, SqL.of hL⟩, _, rfl, _, rfl, _, row, c, d, dp_same sm _ h2, rfl, rfl, atI_nat er, fun v hv' => ?_⟩
                      refine ⟨v, d, b', rfl, hv', hv, fun H2 p2 s2 hp2 hL2 => ?_⟩
                      have ne2 : p2 ≠ pr := fun z => by rw [z, hL] at hp2; cases hp2
                      refine ⟨p2, rfl, ⟨_, SqL.of hL2⟩, fun DD hD => ?_⟩
                      have neD : p2 ≠ DD := fun z => by rw [← z, hL2] at hD; cases hD
                      have neD2 : pr ≠ DD := fun z => by rw [← z, s2 _ _ hL] at hD; cases hD
                      refine lc_list (K := K) (a := p2) (xs := (worthsOf d).map V.int) (fun j H3 => Same H2 H3 ∧ H3 DD = some (.lst (((worthsOf d).take j).map fun z => V.int (-z)))) ⟨fun q o e => by rw [upd_ne (ne_of_none e hD)]; exact e, upd_same⟩
                        (fun j H3 _ hp3 => SqL.of (hp3.1 _ _ hL2)) ?_ ?_
                      · rintro j x H3 hx ⟨sm3, hl3⟩
                        obtain ⟨z, ez, rfl⟩ : ∃ z, (worthsOf d)[j]? = some z ∧ x = V.int z := by
                          rw [List.getElem?_map] at hx
                          cases q : (worthsOf d)[j]? with
                          | none => rw [q] at hx; cases hx
                          | some z => rw [q] at hx; exact ⟨z, rfl, (Option.some.inj hx).symm⟩
                        refine ⟨rfl, _, rfl, _, rfl, _, hl3, small1000 (by rw [List.length_map, List.length_take]; omega), fun q o e => ?_, ?_⟩
                        · rw [upd_ne (fun z' => by subst z'; rw [hD] at e; cases e)]
                          exact sm3 q o e
                        · rw [upd_same, List.take_add_one, ez, List.map_append]
                          rfl
                      · rintro H3 ⟨sm3, hl3⟩
                        rw [List.length_map, List.take_length] at hl3
                        refine ⟨pr, DD, _, _, rfl, rfl, sm3 _ _ (s2 _ _ hL), hl3, by simp only [List.length_map]; omega, ?_⟩
                        refine ⟨_, _, rfl, fun q o e => ?_, ?_⟩
                        · rw [upd_ne (fun z => by subst z; rw [hp] at e; cases e)]
                          exact sm3 _ _ (s2 _ _ (sm q o e))
                        · rw [upd_same, full, List.map_append, ekey]
                          simp
            · rintro σ H' ⟨v5, v6, rfl, sm, hL⟩
              rw [lo, List.take_length] at hL
              have l1 : (os.flatMap (keyP row)).length ≤ 6000 := by
                have := flat_len (keyP row) 6 os fun x hx => key_len hf x hx
                omega
              have big : (6006 : Nat) ≤ sizeLine := by decide
              refine ⟨_, rfl, _, rfl, by show 1 ≤ sizeLine; decide, fun p1 hp1 => ?_⟩
              have ne1 : pr ≠ p1 := fun z => by rw [← z, hL] at hp1; cases hp1
              refine ⟨pr, p1, _, _, rfl, rfl, by rw [upd_ne ne1]; exact hL, upd_same, by simp only [List.length_map, List.length_cons, List.length_nil]; omega, fun p2 hp2 => ?_⟩
              refine ⟨p2, _, rfl, .inl ⟨SqL.of upd_same, fun p3 hp3 => ?_⟩⟩
              have s1 : Same H' (upd H' p1 (.lst [V.int (n : Int)])) := fun q o e => by rw [upd_ne (ne_of_none e hp1)]; exact e
              have s2 : Same H' (upd (upd H' p1 (.lst [V.int (n : Int)])) p2 (.lst ((os.flatMap (keyP row)).map V.int ++ [V.int (n : Int)]))) := fun q o e => by rw [upd_ne (ne_of_none (s1 q o e) hp2)]; exact s1 q o e
              refine k _ p3 (fun q o e => ?_) ((sm.trans s2).free hp3) ?_
              · have e2 := s2 q o (sm q o e)
                rw [upd_ne (ne_of_none e2 hp3)]
                exact e2
              · rw [upd_same]
                unfold rankOf
                rw [List.map_append]
                rfl
end
end RS
set_option Elab.async false
set_option maxRecDepth 100000
set_option maxHeartbeats 4000000
/-! heaps over places 0 .. n - 1, f what stands there -/
namespace HQ
section
variable {α : Type} {lt : α → α → Bool}
def par (i : Nat) : Nat := (i - 1) / 2
/-- each thing whose parent stands at k or behind it is no less than that parent -/
def From (lt : α → α → Bool) (n : Nat) (f : Nat → α) (k : Nat) : Prop := ∀ i, 1 ≤ i → i < n → k ≤ par i → lt (f i) (f (par i)) = false
def swp (f : Nat → α) (i j : Nat) : Nat → α := fun k => if k = i then f j else if k = j then f i else f k
inductive Desc (top : Nat) : Nat → Prop
  | refl : Desc top top
  | step {c : Nat} (h : 1 ≤ c) (d : Desc top (par c)) : Desc top c
/-- what lies under pos is no less than what lies over it -/
def Over (lt : α → α → Bool) (n : Nat) (f : Nat → α) (top pos : Nat) : Prop :=
  pos = top ∨ (1 ≤ pos ∧ Desc top (par pos) ∧ ∀ c, 1 ≤ c → c < n → par c = pos → lt (f c) (f (par pos)) = false)
structure Down (lt : α → α → Bool) (n : Nat) (f : Nat → α) (top pos : Nat) : Prop where
  ds : Desc top pos
  ok : ∀ i, 1 ≤ i → i < n → top ≤ par i → par i ≠ pos → i ≠ pos → lt (f i) (f (par i)) = false
  over : Over lt n f top pos
structure Up (lt : α → α → Bool) (n : Nat) (f : Nat → α) (top pos : Nat) : Prop where
  ds : Desc top pos
  ok : ∀ i, 1 ≤ i → i < n → top ≤ par i → i ≠ pos → lt (f i) (f (par i)) = false
  over : Over lt n f top pos
theorem par_lt {i : Nat} (h : 1 ≤ i) : par i < i := by unfold par; omega
theorem Desc.le {top p : Nat} (h : Desc top p) : top ≤ p := by
  induction h with
  | refl => exact Nat.le_refl _
  | step h _ ih => exact Nat.le_trans ih (Nat.le_of_lt (par_lt h))
theorem Desc.zero : ∀ p : Nat, Desc 0 p := fun p => by
  induction p using Nat.strongRecOn with
  | ind p ih =>
    by_cases h : 1 ≤ p
    · exact .step h (ih _ (par_lt h))
    · have e : p = 0 := by omega
      subst e
      exact .refl
theorem Desc.up {top p : Nat} (h : Desc top p) (ne : p ≠ top) : 1 ≤ p ∧ Desc top (par p) := by
  cases h with
  | refl => exact absurd rfl ne
  | step h d => exact ⟨h, d⟩
theorem par_left (i : Nat) : par (2 * i + 1) = i := by unfold par; omega
theorem par_right (i : Nat) : par (2 * i + 2) = i := by unfold par; omega
theorem par_iff {i p : Nat} (h : 1 ≤ i) : par i = p ↔ i = 2 * p + 1 ∨ i = 2 * p + 2 := by unfold par; omega
theorem From.down {n : Nat} {f : Nat → α} {k : Nat} (h : From lt n f (k + 1)) : Down lt n f k k :=
  ⟨.refl, fun i h1 h2 h3 h4 _ => h i h1 h2 (by omega), .inl rfl⟩
theorem Down.leaf {n : Nat} {f : Nat → α} {top pos : Nat} (h : Down lt n f top pos) (hl : ¬ pos < n / 2) : Up lt n f top pos :=
  ⟨h.ds, fun i h1 h2 h3 h4 => h.ok i h1 h2 h3 (fun e => by
    rcases (par_iff h1).mp e with z | z <;> omega) h4, h.over⟩
/-- the lesser child goes up -/
theorem Down.step (O : SrtO.Swo lt) {n : Nat} {f : Nat → α} {top pos c : Nat} (h : Down lt n f top pos) (hc : c < n) (hp : c = 2 * pos + 1 ∨ c = 2 * pos + 2)
    (hm : ∀ d, (d = 2 * pos + 1 ∨ d = 2 * pos + 2) → d < n → lt (f d) (f c) = false) : Down lt n (swp f c pos) top c := by
  have pc : par c = pos := (par_iff (by omega)).mpr hp
  have hle := h.ds.le
  refine ⟨.step (by omega) (by rw [pc]; exact h.ds), fun i h1 h2 h3 h4 h5 => ?_, .inr ⟨by omega, by rw [pc]; exact h.ds, fun d h1 h2 h3 => ?_⟩⟩
  · -- i is not c, its parent is not c
    have si : swp f c pos i = if i = pos then f c else f i := by
      unfold swp
      rw [if_neg h5]
    have sp : swp f c pos (par i) = if par i = pos then f c else f (par i) := by
      unfold swp
      rw [if_neg h4]
    rw [si, sp]
    have nn : ¬ (i = pos ∧ par i = pos) := fun z => by
      have := par_lt h1
      omega
    by_cases e1 : i = pos
    · have e2 : ¬ par i = pos := fun z => nn ⟨e1, z⟩
      rw [if_pos e1, if_neg e2]
      rcases h.over with z | ⟨z1, z2, z3⟩
      · rw [e1] at h3
        have := par_lt (i := pos) (by omega)
        omega
      · rw [e1]
        exact z3 c (by omega) hc pc
    · rw [if_neg e1]
      by_cases e2 : par i = pos
      · rw [if_pos e2]
        exact hm i ((par_iff h1).mp e2) h2
      · rw [if_neg e2]
        exact h.ok i h1 h2 h3 e2 e1
  · -- d under c
    have e1 : d ≠ c := fun z => by
      have := par_lt h1
      omega
    have e2 : d ≠ pos := fun z => by
      have := par_lt h1
      have := par_lt (i := c) (by omega)
      omega
    have s1 : swp f c pos d = f d := by
      unfold swp
      rw [if_neg e1, if_neg e2]
    have s2 : swp f c pos (par c) = f c := by
      unfold swp
      rw [pc, if_neg (by have := par_lt (i := c) (by omega); omega), if_pos rfl]
    rw [s1, s2]
    have := h.ok d h1 h2 (by rw [h3]; omega) (by rw [h3]; have := par_lt (i := c) (by omega); omega) e2
    rw [h3] at this
    exact this
/-- it goes up past its parent -/
theorem Up.step (O : SrtO.Swo lt) {n : Nat} {f : Nat → α} {top pos : Nat} (h : Up lt n f top pos) (hn : pos < n) (ht : top < pos) (hl : lt (f pos) (f (par pos)) = true) : Up lt n (swp f (par pos) pos) top (par pos) := by
  have hpp := par_lt (i := pos) (by omega)
  rcases h.over with z | ⟨z1, z2, z3⟩
  · omega
  refine ⟨z2, fun i h1 h2 h3 h4 => ?_, ?_⟩
  · have si : swp f (par pos) pos i = if i = pos then f (par pos) else f i := by
      unfold swp
      rw [if_neg h4]
    rw [si]
    by_cases e1 : i = pos
    · rw [if_pos e1]
      have sp : swp f (par pos) pos (par i) = f pos := by
        unfold swp
        rw [e1, if_pos rfl]
      rw [sp]
      exact O.asym _ _ hl
    · rw [if_neg e1]
      by_cases e2 : par i = par pos
      · have sp : swp f (par pos) pos (par i) = f pos := by
          unfold swp
          rw [if_pos e2]
        rw [sp]
        have a := h.ok i h1 h2 h3 e1
        rw [e2] at a
        exact O.tr _ _ _ (O.asym _ _ hl) a
      · by_cases e3 : par i = pos
        · have sp : swp f (par pos) pos (par i) = f (par pos) := by
            unfold swp
            rw [if_neg e2, if_pos e3]
          rw [sp]
          exact z3 i h1 h2 e3
        · have sp : swp f (par pos) pos (par i) = f (par i) := by
            unfold swp
            rw [if_neg e2, if_neg e3]
          rw [sp]
          exact h.ok i h1 h2 h3 e1
  · by_cases e : par pos = top
    · exact .inl e
    · obtain ⟨g1, g2⟩ := z2.up e
      refine .inr ⟨g1, g2, fun c c1 c2 c3 => ?_⟩
      have hq := par_lt g1
      have sq : swp f (par pos) pos (par (par pos)) = f (par (par pos)) := by
        unfold swp
        rw [if_neg (by omega), if_neg (by omega)]
      have a : lt (f (par pos)) (f (par (par pos))) = false := h.ok _ g1 (by omega) g2.le (by omega)
      rw [sq]
      have hc := par_lt c1
      by_cases e1 : c = pos
      · have sc : swp f (par pos) pos c = f (par pos) := by
          unfold swp
          rw [if_neg (by omega), if_pos e1]
        rw [sc]
        exact a
      · have sc : swp f (par pos) pos c = f c := by
          unfold swp
          rw [if_neg (by omega), if_neg e1]
        rw [sc]
        have b := h.ok c c1 c2 (by rw [c3]; exact z2.le) e1
        rw [c3] at b
        exact O.tr _ _ _ a b
theorem Up.top {n : Nat} {f : Nat → α} {top pos : Nat} (h : Up lt n f top pos) (hp : ¬ top < pos) : From lt n f top := fun i h1 h2 h3 => h.ok i h1 h2 h3 fun e => by
  have := par_lt h1
  omega
theorem Up.stop {n : Nat} {f : Nat → α} {top pos : Nat} (h : Up lt n f top pos) (hl : lt (f pos) (f (par pos)) = false) : From lt n f top := fun i h1 h2 h3 => by
  by_cases e : i = pos
  · rw [e]; exact hl
  · exact h.ok i h1 h2 h3 e
theorem From.push {n : Nat} {f g : Nat → α} (h : From lt n f 0) (e : ∀ i, i < n → g i = f i) : Up lt (n + 1) g 0 n := by
  refine ⟨.zero _, fun i h1 h2 h3 h4 => ?_, ?_⟩
  · have := par_lt h1
    rw [e i (by omega), e (par i) (by omega)]
    exact h i h1 (by omega) (Nat.zero_le _)
  · by_cases z : n = 0
    · exact .inl z
    · refine .inr ⟨by omega, .zero _, fun c c1 c2 c3 => ?_⟩
      have := par_lt c1
      omega
theorem From.root {n : Nat} {f g : Nat → α} (h : From lt n f 0) (e : ∀ i, 1 ≤ i → i < n → g i = f i) : Down lt n g 0 0 :=
  ⟨.refl, fun i h1 h2 _ h4 _ => by
    have := par_lt h1
    rw [e i h1 h2, e (par i) (by omega) (by omega)]
    exact h i h1 h2 (Nat.zero_le _), .inl rfl⟩
theorem From.less {n m : Nat} {f : Nat → α} {k : Nat} (h : From lt n f k) (hm : m ≤ n) : From lt m f k := fun i h1 h2 h3 => h i h1 (by omega) h3
theorem From.half {n : Nat} {f : Nat → α} : From lt n f (n / 2) := fun i h1 h2 h3 => by
  have : par i = (i - 1) / 2 := rfl
  omega
theorem From.few {n : Nat} {f : Nat → α} (h : n < 2) : From lt n f 0 := fun i h1 h2 _ => by omega
theorem From.least (O : SrtO.Swo lt) {n : Nat} {f : Nat → α} (h : From lt n f 0) : ∀ i, i < n → lt (f i) (f 0) = false := fun i => by
  induction i using Nat.strongRecOn with
  | ind i ih =>
    intro hi
    by_cases h1 : 1 ≤ i
    · have hp := par_lt h1
      exact O.tr _ _ _ (ih _ hp (by omega)) (h i h1 hi (Nat.zero_le _))
    · have e : i = 0 := by omega
      subst e
      exact O.refl _
end
end HQ
set_option Elab.async false
set_option maxRecDepth 100000
set_option maxHeartbeats 4000000
namespace HQ
open PySem PySem.Spec PyProof.Rows L2 RS

/-! ### entries -/
theorem en_sift : entryFor table "_heapq.heapify.sift" = some Builtin.«_heapq.heapify.sift» := entryFor_of_fast (by kernel_rfl)
theorem en_heapify : entryFor table "_heapq.heapify" = some Builtin.«_heapq.heapify» := entryFor_of_fast (by kernel_rfl)
theorem en_push : entryFor table "_heapq.heappush" = some Builtin.«_heapq.heappush» := entryFor_of_fast (by kernel_rfl)
theorem en_pop : entryFor table "_heapq.heappop" = some Builtin.«_heapq.heappop» := entryFor_of_fast (by kernel_rfl)
theorem pl_sift : plainId "_heapq.heapify.sift" = true := by decide +kernel
theorem pl_heapify : plainId "_heapq.heapify" = true := by decide +kernel
theorem pl_push : plainId "_heapq.heappush" = true := by decide +kernel
theorem pl_pop : plainId "_heapq.heappop" = true := by decide +kernel
theorem ki_heapify : builtinKind "_heapq.heapify" = none := by decide +kernel
theorem ki_push : builtinKind "_heapq.heappush" = none := by decide +kernel
theorem ki_pop : builtinKind "_heapq.heappop" = none := by decide +kernel
theorem ar_heapify (a : Value) : argsOk "_heapq.heapify" ⟨[a], []⟩ := by unfold argsOk; kernel_rfl
theorem ar_push (a b : Value) : argsOk "_heapq.heappush" ⟨[a, b], []⟩ := by unfold argsOk; kernel_rfl
theorem ar_pop (a : Value) : argsOk "_heapq.heappop" ⟨[a], []⟩ := by unfold argsOk; kernel_rfl

/-! ### the order of data -/
abbrev Z := V × PyData
def ltz (x y : Z) : Bool := PySem.W.dataLt x.2 y.2
theorem swo_z : SrtO.Swo ltz := by
  refine ⟨fun x y h => ?_, fun x y z h1 h2 => ?_⟩
  · cases q : ltz y x with
    | false => rfl
    | true =>
      have t := (PyProof.Rows.listOrd PyProof.Rows.itemOrd).trans _ _ _ h q
      rw [(PyProof.Rows.listOrd PyProof.Rows.itemOrd).irrefl] at t
      cases t
  · cases q : ltz z x with
    | false => rfl
    | true =>
      rcases (PyProof.Rows.listOrd PyProof.Rows.itemOrd).negTrans _ (PySem.W.keyToks y.2) _ q with t | t
      · exact t.symm.trans h2
      · exact t.symm.trans h1

/-! ### lists as heaps -/
def dz : Z := (.non, .none)
def nth (zs : List Z) (i : Nat) : Z := zs.getD i dz
def sw (zs : List Z) (i j : Nat) : List Z := (zs.set i (nth zs j)).set j (nth zs i)
theorem nth_eq {zs : List Z} {i : Nat} (h : i < zs.length) : nth zs i = zs[i] := by
  unfold nth
  rw [List.getD_eq_getElem?_getD, List.getElem?_eq_getElem h]
  rfl
theorem nth_at {zs : List Z} {i : Nat} (h : i < zs.length) : zs[i]? = some (nth zs i) := by rw [nth_eq h, List.getElem?_eq_getElem h]
theorem nth_mem {zs : List Z} {i : Nat} (h : i < zs.length) : nth zs i ∈ zs := by rw [nth_eq h]; exact List.getElem_mem h
theorem sw_len (zs : List Z) (i j : Nat) : (sw zs i j).length = zs.length := by unfold sw; rw [List.length_set, List.length_set]
theorem sw_perm {zs : List Z} {i j : Nat} (hi : i < zs.length) (hj : j < zs.length) : (sw zs i j).Perm zs := by
  unfold sw
  rw [nth_eq hi, nth_eq hj]
  exact List.set_set_perm hi hj
theorem sw_nth {zs : List Z} {i j : Nat} (hi : i < zs.length) (hj : j < zs.length) (ne : i ≠ j) : nth (sw zs i j) = swp (nth zs) i j := by
  funext k
  unfold swp
  unfold nth sw
  simp only [List.getD_eq_getElem?_getD, List.getElem?_set, List.length_set]
  by_cases e1 : j = k
  · subst e1
    rw [if_pos rfl, if_pos hj, if_neg (Ne.symm ne), if_pos rfl]
    rfl
  · rw [if_neg e1]
    by_cases e2 : i = k
    · subst e2
      rw [if_pos rfl, if_pos hi, if_pos rfl]
      rfl
    · rw [if_neg e2, if_neg (Ne.symm e2), if_neg (Ne.symm e1)]

/-- items that may stand in the heap at a -/
structure Good (K : PySem.W.Frag) (H : Hp) (a : Addr) (zs : List Z) : Prop where
  dp : ∀ z ∈ zs, ∀ u, Dp K (upd H a (.lst u)) z.1 z.2
  nn : ∀ z ∈ zs, z.2 ≠ .none
  dep : ∀ z ∈ zs, z.2.depth ≤ 60
  al : ∀ z ∈ zs, ∀ y ∈ zs, PySem.W.alike z.2 y.2 = true
theorem Good.perm {K : PySem.W.Frag} {H : Hp} {a : Addr} {zs ys : List Z} (G : Good K H a zs) (p : ys.Perm zs) : Good K H a ys :=
  ⟨fun z h => G.dp z (p.mem_iff.mp h), fun z h => G.nn z (p.mem_iff.mp h), fun z h => G.dep z (p.mem_iff.mp h), fun z h y g => G.al z (p.mem_iff.mp h) y (p.mem_iff.mp g)⟩
theorem Good.sub {K : PySem.W.Frag} {H : Hp} {a : Addr} {zs ys : List Z} (G : Good K H a zs) (p : ∀ y ∈ ys, y ∈ zs) : Good K H a ys :=
  ⟨fun z h => G.dp z (p _ h), fun z h => G.nn z (p _ h), fun z h => G.dep z (p _ h), fun z h y g => G.al z (p _ h) y (p _ g)⟩
abbrev hp (H : Hp) (a : Addr) (zs : List Z) : Hp := upd H a (.lst (zs.map (·.1)))
section
variable {X : Cx} {pins : List (Addr × Obj)} {σ : L2.St} {H : Hp} {a : Addr} {zs : List Z} {s : Shared}
theorem less_ {x y : Z} {u v : Value} {E : Value → Shared → Prop} {Q : Value → Shared → Prop} {A : Around} (hu : A.units + 61 < cLine) (G : Good X.K H a zs) (I : Inv X pins σ (hp H a zs) s) (hx : x ∈ zs) (hy : y ∈ zs) (rx : RelV x.1 u) (ry : RelV y.1 v)
    (h : Q (.bool (ltz x y)) s) : wpAny (model X.prog X.w) A (richCompare .Lt u v) Q E s := by
  obtain ⟨as, r1⟩ := Dp.reads I _ _ _ (G.dp x hx _) rx
  obtain ⟨bs, r2⟩ := Dp.reads I _ _ _ (G.dp y hy _) ry
  exact PySem.W.rcLt_alike x.2 y.2 A s u v as bs r1 r2 (G.al x hx y hy) (G.nn x hx) (by have := G.dep x hx; omega) X.prog X.w E Q h
/-- what the sifting does next -/
def Nx (X : Cx) (a : Addr) (after : Int) (res : Value) (R : Result → Shared → Prop) (s : Shared) : Prop :=
  if after < 0 then R (.ok (.ret res)) s else codeAny (model X.prog X.w) X.A (.builtin "_heapq.heapify.sift" ⟨[.ref a, .bool false, .bool true, rawInt (after.toNat : Nat), rawInt (after.toNat : Nat), res, rawInt (after - 1)], []⟩) R s

theorem at_ {M : Model} {A : Around} {xs : Array Value} {i : Nat} {u : Value} {f : Sem Value} {Q : Value → Shared → Prop} {E : Value → Shared → Prop} {s : Shared} (h : xs[i]? = some u) (q : Q u s) :
    wpAny M A (match xs[i]? with | some v => pure v | none => f) Q E s := by
  rw [h]
  exact wpAny_pure q
theorem vals_at {zs : List Z} {its : List Value} (r : Vals (zs.map (·.1)) its) {i : Nat} (h : i < zs.length) : ∃ u, its[i]? = some u ∧ its.toArray[i]? = some u ∧ RelV (nth zs i).1 u := by
  obtain ⟨u, h1, h2⟩ := r.get (i := i) (x := (nth zs i).1) (by rw [List.getElem?_map, nth_at h]; rfl)
  exact ⟨u, h1, by rw [← Array.getElem?_toList]; exact h1, h2⟩
theorem sw_map {zs : List Z} {i j : Nat} {its : List Value} (r : Vals (zs.map (·.1)) its) {u v : Value} (hu : RelV (nth zs i).1 u) (hv : RelV (nth zs j).1 v) :
    Vals ((sw zs i j).map (·.1)) ((its.set i v).set j u) := by
  unfold sw
  rw [List.map_set, List.map_set]
  exact (r.set hv i).set hu j
theorem swap_inv {i j : Nat} {its : List Value} {n : Nat} (I : Inv X pins σ (hp H a zs) s) (r : Vals (zs.map (·.1)) its) (e : s.heap.get? a = some { cls := .type "list", data := .seq its.toArray n }) (z : zs.length ≤ sizeLine) {u v : Value}
    (hu : RelV (nth zs i).1 u) (hv : RelV (nth zs j).1 v) :
    Inv X pins σ (hp H a (sw zs i j)) { s with heap := s.heap.update a (Obj.mapSeq fun xs => (xs.setIfInBounds i v).setIfInBounds j u) } := by
  have q := I.lset (l := a) (its' := (its.set i v).set j u) (f := fun xs => (xs.setIfInBounds i v).setIfInBounds j u) (t' := s.toks) upd_same e (by simp) (sw_map (i := i) (j := j) r hu hv) (by rw [List.length_map, sw_len]; exact z)
  rw [upd_upd] at q
  exact q
theorem up_run (hu : X.A.units + 64 < cLine) {top : Nat} {after : Int} {res : Value} {R : Result → Shared → Prop} (hz : zs.length ≤ sizeLine) (G : Good X.K H a zs)
    (hend : ∀ s' ys, ys.Perm zs → From ltz zs.length (nth ys) top → Inv X pins σ (hp H a ys) s' → Nx X a after res R s') :
    ∀ (m pos : Nat) (ys : List Z) (s : Shared), pos ≤ m → pos < zs.length → ys.Perm zs → Up ltz zs.length (nth ys) top pos → Inv X pins σ (hp H a ys) s →
      codeAny (model X.prog X.w) X.A (.builtin "_heapq.heapify.sift" ⟨[.ref a, .bool false, .bool false, rawInt pos, rawInt top, res, rawInt after], []⟩) R s := by
  intro m
  induction m using Nat.strongRecOn with
  | ind m ih =>
    intro pos ys s hm hp p U I
    obtain ⟨z, its, n, r, hl, e⟩ := I.lstM (l := a) (xs := ys.map (·.1)) upd_same
    rw [List.length_map] at hl z
    have lz := p.length_eq
    refine codeAny_builtin en_sift ?_
    rw [Around.under_plainId pl_sift _]
    show wpAny _ X.A.in1 (_ >>= _) _ _ _
    refine wpAny_bind (wpAny_bind (wpAny_seqItems e rfl (wpAny_pure ?_)))
    show wpAny _ X.A.in1 (if pos > top then _ else _) _ _ _
    have stop : ∀ s' : Shared, Nx X a after res R s' → wpAny (model X.prog X.w) X.A.in1 (if after < 0 then ret res else again (.builtin "_heapq.heapify.sift" ⟨[.ref a, .bool false, .bool true, rawInt (after.toNat : Nat), rawInt (after.toNat : Nat), res, rawInt (after - 1)], []⟩))
        (fun fin s' => match fin with | .done f => R (.ok f) s' | .again c' => c'.quiet = true ∧ codeAny (model X.prog X.w) X.A c' R s') (fun e s' => R (.error e) s') s' := by
      intro s' q
      unfold Nx at q
      by_cases g : after < 0
      · rw [if_pos g] at q ⊢
        exact wpAny_pure q
      · rw [if_neg g] at q ⊢
        exact wpAny_pure ⟨plainId_quiet pl_sift _, q⟩
    by_cases h1 : pos > top
    · rw [if_pos h1]
      have hpp := par_lt (i := pos) (by omega)
      obtain ⟨u, u1, u2, u3⟩ := vals_at r (i := pos) (by omega)
      obtain ⟨v, v1, v2, v3⟩ := vals_at r (i := par pos) (by omega)
      refine wpAny_bind (at_ u2 ?_)
      refine wpAny_bind (at_ v2 ?_)
      show wpAny _ X.A.in1 (_ >>= _) _ _ _
      refine wpAny_bind (wpAny_bind (wpAny_holding (wpAny_bind (less_ (x := nth ys pos) (y := nth ys (par pos)) (by show X.A.units + 1 + 61 < cLine; omega) (G.perm p) I (nth_mem (by omega)) (nth_mem (by omega)) u3 v3 (wpAny_truthy_bool ?_)))))
      refine wpAny_bind (wpAny_bind (wpAny_seqItems e rfl (wpAny_pure ?_)))
      show wpAny _ X.A.in1 (if (its.toArray.size != its.toArray.size) = true then _ else _) _ _ _
      rw [if_neg (by simp)]
      refine wpAny_pure ?_
      show wpAny _ X.A.in1 (if ltz (nth ys pos) (nth ys (par pos)) = true then _ else _) _ _ _
      by_cases h2 : ltz (nth ys pos) (nth ys (par pos)) = true
      · rw [if_pos h2]
        refine wpAny_bind (wpAny_bind (wpAny_bind (wpAny_seqItems e rfl (wpAny_pure ?_))))
        refine wpAny_bind (at_ v2 ?_)
        refine wpAny_bind (at_ u2 ?_)
        refine wpAny_updateSeq e rfl ?_ (by rw [List.size_toArray]; omega) (by simp only [Array.size_setIfInBounds, List.size_toArray]; omega)
        refine wpAny_pure ⟨plainId_quiet pl_sift _, ?_⟩
        have I2 := swap_inv (i := par pos) (j := pos) I r e z v3 u3
        have U2 := U.step swo_z hp h1 h2
        rw [← sw_nth (by omega) (by omega) (by omega)] at U2
        exact ih (par pos) (by omega) (par pos) _ _ (Nat.le_refl _) (by omega) ((sw_perm (by omega) (by omega)).trans p) U2 I2
      · rw [if_neg h2]
        exact stop _ (hend s ys p (U.stop (by
          cases q : ltz (nth ys pos) (nth ys (par pos)) with
          | false => rfl
          | true => exact absurd q h2)) I)
    · rw [if_neg h1]
      exact stop _ (hend s ys p (U.top h1) I)

theorem down_run (hu : X.A.units + 64 < cLine) {top : Nat} {after : Int} {res : Value} {R : Result → Shared → Prop} (hz : zs.length ≤ sizeLine) (G : Good X.K H a zs)
    (hend : ∀ s' ys, ys.Perm zs → From ltz zs.length (nth ys) top → Inv X pins σ (hp H a ys) s' → Nx X a after res R s') :
    ∀ (m pos : Nat) (ys : List Z) (s : Shared), zs.length - pos ≤ m → pos < zs.length → ys.Perm zs → Down ltz zs.length (nth ys) top pos → Inv X pins σ (hp H a ys) s →
      codeAny (model X.prog X.w) X.A (.builtin "_heapq.heapify.sift" ⟨[.ref a, .bool false, .bool true, rawInt pos, rawInt top, res, rawInt after], []⟩) R s := by
  intro m
  induction m using Nat.strongRecOn with
  | ind m ih =>
    intro pos ys s hm hp p D I
    obtain ⟨z, its, n, r, hl, e⟩ := I.lstM (l := a) (xs := ys.map (·.1)) upd_same
    rw [List.length_map] at hl z
    have lz := p.length_eq
    have sz : its.toArray.size = zs.length := by rw [List.size_toArray, ← hl, lz]
    refine codeAny_builtin en_sift ?_
    rw [Around.under_plainId pl_sift _]
    show wpAny _ X.A.in1 (_ >>= _) _ _ _
    refine wpAny_bind (wpAny_bind (wpAny_seqItems e rfl (wpAny_pure ?_)))
    show wpAny _ X.A.in1 (if pos < its.toArray.size / 2 then _ else _) _ _ _
    rw [sz]
    by_cases h1 : pos < zs.length / 2
    · rw [if_pos h1]
      obtain ⟨u, u1, u2, u3⟩ := vals_at r (i := pos) (by omega)
      obtain ⟨l, l1, l2, l3⟩ := vals_at r (i := 2 * pos + 1) (by omega)
      have nxt : ∀ c, (c = 2 * pos + 1 ∨ c = 2 * pos + 2) → c < zs.length → (∀ d, (d = 2 * pos + 1 ∨ d = 2 * pos + 2) → d < zs.length → ltz (nth ys d) (nth ys c) = false) → ∀ w, RelV (nth ys c).1 w →
          codeAny (model X.prog X.w) X.A (.builtin "_heapq.heapify.sift" ⟨[.ref a, .bool false, .bool true, rawInt c, rawInt top, res, rawInt after], []⟩) R { s with heap := s.heap.update a (Obj.mapSeq fun xs => (xs.setIfInBounds c u).setIfInBounds pos w) } := by
        intro c hc hl2 hmin w rw'
        have I2 := swap_inv (i := c) (j := pos) I r e z rw' u3
        have D2 := D.step swo_z hl2 hc hmin
        rw [← sw_nth (by omega) (by omega) (by omega)] at D2
        exact ih (zs.length - c) (by omega) c _ _ (Nat.le_refl _) hl2 ((sw_perm (by omega) (by omega)).trans p) D2 I2
      by_cases h2 : 2 * pos + 1 + 1 < zs.length
      · rw [if_pos (show 2 * (pos : Int).toNat + 1 + 1 < zs.length from h2)]
        obtain ⟨q, q1, q2, q3⟩ := vals_at r (i := 2 * pos + 1 + 1) (by omega)
        refine wpAny_bind (at_ l2 ?_)
        refine wpAny_bind (at_ q2 ?_)
        show wpAny _ X.A.in1 (_ >>= _) _ _ _
        refine wpAny_bind (wpAny_bind (wpAny_holding (wpAny_bind (less_ (x := nth ys (2 * pos + 1)) (y := nth ys (2 * pos + 1 + 1)) (by show X.A.units + 1 + 61 < cLine; omega) (G.perm p) I (nth_mem (by omega)) (nth_mem (by omega)) l3 q3 (wpAny_truthy_bool ?_)))))
        refine wpAny_bind (wpAny_bind (wpAny_seqItems e rfl (wpAny_pure ?_)))
        show wpAny _ X.A.in1 (if (its.toArray.size != zs.length) = true then _ else _) _ _ _
        rw [if_neg (by rw [sz]; simp)]
        refine wpAny_pure ?_
        show wpAny _ X.A.in1 (if (!ltz (nth ys (2 * pos + 1)) (nth ys (2 * pos + 1 + 1))) = true then _ else _) _ _ _
        by_cases h3 : ltz (nth ys (2 * pos + 1)) (nth ys (2 * pos + 1 + 1)) = true
        · rw [if_neg (by rw [h3]; decide)]
          refine wpAny_bind (wpAny_bind (wpAny_bind (wpAny_seqItems e rfl (wpAny_pure ?_))))
          refine wpAny_bind (at_ l2 ?_)
          refine wpAny_bind (at_ u2 ?_)
          refine wpAny_updateSeq e rfl ?_ (by rw [List.size_toArray]; omega) (by simp only [Array.size_setIfInBounds, List.size_toArray]; omega)
          refine wpAny_pure ⟨plainId_quiet pl_sift _, ?_⟩
          exact nxt _ (.inl rfl) (by omega) (fun d hd _ => by
                      rcases hd with e1 | e1
                      · subst e1; exact swo_z.refl _
                      · subst e1; exact swo_z.asym _ _ h3) l l3
        · have h3' : ltz (nth ys (2 * pos + 1)) (nth ys (2 * pos + 1 + 1)) = false := by
            cases q : ltz (nth ys (2 * pos + 1)) (nth ys (2 * pos + 1 + 1)) with
            | false => rfl
            | true => exact absurd q h3
          rw [if_pos (by rw [h3']; decide)]
          refine wpAny_bind (wpAny_bind (wpAny_bind (wpAny_seqItems e rfl (wpAny_pure ?_))))
          refine wpAny_bind (at_ q2 ?_)
          refine wpAny_bind (at_ u2 ?_)
          refine wpAny_updateSeq e rfl ?_ (by rw [List.size_toArray]; omega) (by simp only [Array.size_setIfInBounds, List.size_toArray]; omega)
          refine wpAny_pure ⟨plainId_quiet pl_sift _, ?_⟩
          exact nxt _ (.inr rfl) (by omega) (fun d hd _ => by
                      rcases hd with e1 | e1
                      · subst e1; exact h3'
                      · subst e1; exact swo_z.refl _) q q3
      · rw [if_neg (show ¬ 2 * (pos : Int).toNat + 1 + 1 < zs.length from h2)]
        refine wpAny_bind (wpAny_bind (wpAny_bind (wpAny_seqItems e rfl (wpAny_pure ?_))))
        refine wpAny_bind (at_ l2 ?_)
        refine wpAny_bind (at_ u2 ?_)
        refine wpAny_updateSeq e rfl ?_ (by rw [List.size_toArray]; omega) (by simp only [Array.size_setIfInBounds, List.size_toArray]; omega)
        refine wpAny_pure ⟨plainId_quiet pl_sift _, ?_⟩
        exact nxt _ (.inl rfl) (by omega) (fun d hd hd2 => by
                  rcases hd with e1 | e1
                  · subst e1; exact swo_z.refl _
                  · omega) l l3
    · rw [if_neg h1]
      refine wpAny_pure ⟨plainId_quiet pl_sift _, ?_⟩
      exact up_run hu hz G hend pos pos ys s (Nat.le_refl _) hp p (D.leaf h1) I
end
end HQ
set_option Elab.async false
set_option maxRecDepth 100000
set_option maxHeartbeats 4000000
namespace HQ
open PySem PySem.Spec PyProof.Rows L2 RS
section
variable {X : Cx} {pins : List (Addr × Obj)} {σ : L2.St} {H : Hp} {a : Addr} {zs : List Z} {s : Shared}

theorem heapify_run (hu : X.A.units + 64 < cLine) {res : Value} {R : Result → Shared → Prop} (hz : zs.length ≤ sizeLine) (G : Good X.K H a zs)
    (hend : ∀ s' ys, ys.Perm zs → From ltz zs.length (nth ys) 0 → Inv X pins σ (hp H a ys) s' → R (.ok (.ret res)) s') :
    ∀ (k : Nat) (ys : List Z) (s : Shared), k < zs.length → ys.Perm zs → Down ltz zs.length (nth ys) k k → Inv X pins σ (hp H a ys) s →
      codeAny (model X.prog X.w) X.A (.builtin "_heapq.heapify.sift" ⟨[.ref a, .bool false, .bool true, rawInt k, rawInt k, res, rawInt ((k : Int) - 1)], []⟩) R s := by
  intro k
  induction k with
  | zero =>
    intro ys s hk p D I
    refine down_run hu hz G (fun s' ys' p' F I' => ?_) _ 0 ys s (Nat.le_refl _) hk p D I
    unfold Nx
    rw [if_pos (by decide)]
    exact hend s' ys' p' F I'
  | succ k ih =>
    intro ys s hk p D I
    refine down_run hu hz G (fun s' ys' p' F I' => ?_) _ (k + 1) ys s (Nat.le_refl _) hk p D I
    unfold Nx
    rw [if_neg (by omega)]
    have e : (((k + 1 : Nat) : Int) - 1).toNat = k := by omega
    have e2 : (((k + 1 : Nat) : Int) - 1) - 1 = (k : Int) - 1 := by omega
    rw [e, e2]
    exact ih ys' s' (by omega) p' F.down I'
end
section
variable {X : Cx}
def rHeapify (K : PySem.W.Frag) : List V → Hp → VK → Prop := fun vs H Q => ∃ (a : Addr) (zs : List Z), vs = [.ref a] ∧ H a = some (.lst (zs.map (·.1))) ∧ Good K H a zs ∧ zs.length ≤ 2500 ∧
  ∀ ys : List Z, ys.Perm zs → From ltz ys.length (nth ys) 0 → Q .non (hp H a ys)
theorem hp_self {H : Hp} {a : Addr} {zs : List Z} (h : H a = some (.lst (zs.map (·.1)))) : hp H a zs = H := by
  funext b
  by_cases e : b = a
  · subst e
    exact upd_same.trans h.symm
  · exact upd_ne e
theorem call_heapify (hu : X.A.units + 64 < cLine) : CallR X (.builtin "_heapq.heapify") (rHeapify X.K) := by
  intro pins s σ H xs us Q I r ⟨a, zs, e, hH, G, hl, q⟩
  subst e
  obtain ⟨u, rfl, ru⟩ := r.one
  cases ru
  obtain ⟨z, its, n, r, hl2, e⟩ := I.lstM hH
  rw [List.length_map] at hl2 z
  refine kmk_tree ki_heapify pl_heapify en_heapify (ar_heapify _) ?_
  show wpAny _ X.A.in1 (_ >>= _) _ _ _
  refine wpAny_bind (wpAny_bind (wpAny_pure ?_))
  refine wpAny_bind (wpAny_bind (wpAny_isInstance (T := "list") ⟨_, e, rfl⟩ AutoSeq1.sub_list_list ?_))
  refine wpAny_pure (wpAny_pure ?_)
  show wpAny _ X.A.in1 (_ >>= _) _ _ _
  refine wpAny_bind (wpAny_bind (wpAny_seqItems e rfl (wpAny_pure ?_)))
  have sz : its.toArray.size = zs.length := by rw [List.size_toArray, ← hl2]
  show wpAny _ X.A.in1 (if its.toArray.size > 2500 then _ else _) _ _ _
  rw [sz, if_neg (by omega)]
  show wpAny _ X.A.in1 (if zs.length < 2 then _ else _) _ _ _
  have I0 : Inv X pins σ (hp H a zs) s := by rw [hp_self hH]; exact I
  by_cases h2 : zs.length < 2
  · rw [if_pos h2]
    refine wpAny_pure ?_
    exact ⟨.non, _, I0, rfl, q zs (List.Perm.refl _) (.few h2)⟩
  · rw [if_neg h2]
    refine wpAny_pure ⟨plainId_quiet pl_sift _, ?_⟩
    have e2 : ((zs.length / 2 : Nat) : Int) - 2 = ((zs.length / 2 - 1 : Nat) : Int) - 1 := by omega
    rw [e2]
    have F : From ltz zs.length (nth zs) (zs.length / 2 - 1 + 1) := by
      rw [show zs.length / 2 - 1 + 1 = zs.length / 2 by omega]
      exact .half
    exact heapify_run hu (by omega) G (fun s' ys p F' I' => ⟨.non, _, I', rfl, q ys p (by rw [p.length_eq]; exact F')⟩) (zs.length / 2 - 1) zs s (by omega) (List.Perm.refl _) F.down I0

def rPush (K : PySem.W.Frag) : List V → Hp → VK → Prop := fun vs H Q => ∃ (a : Addr) (zs : List Z) (z : Z), vs = [.ref a, z.1] ∧ H a = some (.lst (zs.map (·.1))) ∧ Good K H a (zs ++ [z]) ∧ zs.length < sizeLine ∧ From ltz zs.length (nth zs) 0 ∧
  ∀ ys : List Z, ys.Perm (zs ++ [z]) → From ltz ys.length (nth ys) 0 → Q .non (hp H a ys)
theorem nth_app {zs ws : List Z} {i : Nat} (h : i < zs.length) : nth (zs ++ ws) i = nth zs i := by
  unfold nth
  rw [List.getD_eq_getElem?_getD, List.getD_eq_getElem?_getD, List.getElem?_append_left h]
theorem call_push (hu : X.A.units + 64 < cLine) : CallR X (.builtin "_heapq.heappush") (rPush X.K) := by
  intro pins s σ H xs us Q I r ⟨a, zs, y, e, hH, G, hl, F, q⟩
  subst e
  obtain ⟨u, v, rfl, ru, rv⟩ := r.two
  cases ru
  obtain ⟨z, its, n, r, hl2, e⟩ := I.lstM hH
  rw [List.length_map] at hl2 z
  refine kmk_tree ki_push pl_push en_push (ar_push _ _) ?_
  show wpAny _ X.A.in1 (_ >>= _) _ _ _
  refine wpAny_bind (wpAny_bind (wpAny_pure ?_))
  refine wpAny_bind (wpAny_of_eq (show checkCount "heappush" 2 2 2 = pure () from rfl) ?_)
  refine wpAny_bind (wpAny_bind (wpAny_isInstance (T := "list") ⟨_, e, rfl⟩ AutoSeq1.sub_list_list ?_))
  refine wpAny_pure (wpAny_pure ?_)
  show wpAny _ X.A.in1 (_ >>= _) _ _ _
  refine wpAny_bind (wpAny_updateSeq e rfl ?_ (by rw [List.size_toArray]; omega) (by rw [Array.size_push, List.size_toArray]; omega))
  have I1 : Inv X pins σ (hp H a (zs ++ [y])) { s with heap := s.heap.update a (Obj.mapSeq fun x => x.push v) } := by
    have q := I.lset (l := a) (ys := (zs ++ [y]).map (·.1)) (its' := its ++ [v]) (f := fun x => x.push v) (t' := s.toks) hH e (by simp) (by rw [List.map_append]; exact r.append (.cons rv .nil)) (by rw [List.length_map, List.length_append, List.length_singleton]; omega)
    exact q
  obtain ⟨_, its2, n2, r2, hl3, e2⟩ := I1.lstM (l := a) (xs := (zs ++ [y]).map (·.1)) upd_same
  rw [List.length_map, List.length_append, List.length_singleton] at hl3
  refine wpAny_bind (wpAny_bind (wpAny_seqItems e2 rfl (wpAny_pure ?_)))
  refine wpAny_pure ⟨plainId_quiet pl_sift _, ?_⟩
  have e3 : its2.toArray.size - 1 = zs.length := by rw [List.size_toArray]; omega
  rw [e3]
  have ln : (zs ++ [y]).length = zs.length + 1 := by rw [List.length_append, List.length_singleton]
  have U : Up ltz (zs ++ [y]).length (nth (zs ++ [y])) 0 zs.length := by
    rw [ln]
    exact F.push fun i hi => nth_app hi
  refine up_run hu (by omega) G (fun s' ys p F' I' => ?_) zs.length zs.length (zs ++ [y]) _ (Nat.le_refl _) (by omega) (List.Perm.refl _) U I1
  unfold Nx
  rw [if_pos (by decide)]
  exact ⟨.non, _, I', rfl, q ys p (by rw [p.length_eq]; exact F')⟩

def rPopH (K : PySem.W.Frag) : List V → Hp → VK → Prop := fun vs H Q => ∃ (a : Addr) (zs : List Z), vs = [.ref a] ∧ H a = some (.lst (zs.map (·.1))) ∧ 0 < zs.length ∧ Good K H a zs ∧ From ltz zs.length (nth zs) 0 ∧
  ∀ (z : Z) (ys : List Z), zs.Perm (z :: ys) → From ltz ys.length (nth ys) 0 → (∀ y ∈ ys, ltz y z = false) → Q z.1 (hp H a ys)
theorem least_all {zs : List Z} {x : Z} {M : List Z} (e : zs = x :: M) (F : From ltz zs.length (nth zs) 0) : ∀ y ∈ zs, ltz y x = false := fun y hy => by
  obtain ⟨i, hi, ei⟩ := List.getElem_of_mem hy
  have q := F.least swo_z i hi
  rw [nth_eq hi, ei] at q
  rw [e] at q
  exact q
theorem snoc_z : ∀ {l : List Z}, 0 < l.length → ∃ M z, l = M ++ [z] := fun h => SrtO.snoc_of h
theorem call_popH (hu : X.A.units + 64 < cLine) : CallR X (.builtin "_heapq.heappop") (rPopH X.K) := by
  intro pins s σ H xs us Q I r ⟨a, zs, e, hH, h0, G, F, q⟩
  subst e
  obtain ⟨u, rfl, ru⟩ := r.one
  cases ru
  obtain ⟨z, its, n, r, hl2, e⟩ := I.lstM hH
  rw [List.length_map] at hl2 z
  obtain ⟨M, y, rfl⟩ := snoc_z h0
  refine kmk_tree ki_pop pl_pop en_pop (ar_pop _) ?_
  show wpAny _ X.A.in1 (_ >>= _) _ _ _
  refine wpAny_bind (wpAny_bind (wpAny_pure ?_))
  refine wpAny_bind (wpAny_bind (wpAny_isInstance (T := "list") ⟨_, e, rfl⟩ AutoSeq1.sub_list_list ?_))
  refine wpAny_pure (wpAny_pure ?_)
  show wpAny _ X.A.in1 (_ >>= _) _ _ _
  refine wpAny_bind (wpAny_bind (wpAny_seqItems e rfl (wpAny_pure ?_)))
  obtain ⟨iM, v, rfl⟩ := SrtO.snoc_of (l := its) (by omega)
  have rM : Vals (M.map (·.1)) iM := by
    have t := r.dropLast
    rw [List.map_append] at t
    simpa using t
  have lM : M.length = iM.length := by simpa using hl2
  have rv : RelV y.1 v := by
    obtain ⟨v', h1, h2⟩ := r.get (i := M.length) (x := y.1) (by simp)
    rw [lM] at h1
    simp at h1
    rw [h1]
    exact h2
  have hb : (iM ++ [v]).toArray.back? = some v := by simp
  rw [hb]
  have zM : (M ++ [y]).length = M.length + 1 := by rw [List.length_append, List.length_singleton]
  have I1 : Inv X pins σ (hp H a M) { s with heap := s.heap.update a (Obj.mapSeq fun x => x.pop) } :=
    I.lset (l := a) (ys := M.map (·.1)) (its' := iM) (f := fun x => x.pop) (t' := s.toks) hH e (by simp) rM (by rw [List.length_map]; omega)
  refine wpAny_bind (wpAny_updateSeq e rfl ?_ (by rw [List.size_toArray]; omega) (by rw [Array.size_pop, List.size_toArray]; omega))
  show wpAny _ X.A.in1 (if ((iM ++ [v]).toArray.size == 1) = true then _ else _) _ _ _
  have sz : (iM ++ [v]).toArray.size = M.length + 1 := by rw [List.size_toArray, ← hl2, zM]
  rw [sz]
  cases M with
  | nil =>
    rw [if_pos (by decide)]
    refine wpAny_pure ?_
    exact ⟨y.1, _, I1, rv, q y [] (List.Perm.refl _) (.few (by decide)) (fun _ h => nomatch h)⟩
  | cons x M =>
    rw [if_neg (by simp)]
    cases rM with
    | cons rx rM' =>
      rename_i u iM'
      have x0 : (u :: iM' ++ [v]).toArray[0]? = some u := rfl
      refine wpAny_bind (at_ (f := pure u) x0 ?_)
      obtain ⟨_, its2, n2, r2, hl3, e2⟩ := I1.lstM (l := a) (xs := (x :: M).map (·.1)) upd_same
      have I2 : Inv X pins σ (hp H a (y :: M)) { s with heap := (s.heap.update a (Obj.mapSeq fun x => x.pop)).update a (Obj.mapSeq fun xs => xs.setIfInBounds 0 v) } := by
        have t := I1.lset (l := a) (ys := (y :: M).map (fun p : Z => p.1)) (its' := its2.set 0 v) (f := fun xs => xs.setIfInBounds 0 v) (t' := s.toks) upd_same e2 (by simp) (show Vals ((y :: M).map (fun p : Z => p.1)) (its2.set 0 v) from r2.set rv 0) (by simp at *; omega)
        rw [upd_upd] at t
        exact t
      have ln : (y :: M).length = (x :: M).length := rfl
      refine wpAny_bind (wpAny_updateSeq e2 rfl ?_ (by rw [List.size_toArray]; simp at *; omega) (by rw [Array.size_setIfInBounds, List.size_toArray]; simp at *; omega))
      refine wpAny_pure ⟨plainId_quiet pl_sift _, ?_⟩
      have pe : (x :: M ++ [y]).Perm (x :: (y :: M)) := (List.perm_append_comm (l₁ := M) (l₂ := [y])).cons x
      have D : Down ltz (y :: M).length (nth (y :: M)) 0 0 := (F.less (m := (y :: M).length) (by simp)).root fun i h1 h2 => by
        cases i with
        | zero => omega
        | succ i => exact (nth_app (zs := x :: M) (ws := [y]) h2).symm
      have Gy : Good X.K H a (y :: M) := G.sub fun t ht => pe.mem_iff.mpr (List.mem_cons_of_mem _ ht)
      refine down_run hu (by simp at *; omega) Gy (fun s' ys p F' I' => ?_) _ 0 (y :: M) _ (Nat.le_refl _) (by simp) (List.Perm.refl _) D I2
      unfold Nx
      rw [if_pos (by decide)]
      exact ⟨x.1, _, I', rx, q x ys (pe.trans ((p.symm).cons x)) (by rw [p.length_eq]; exact F') fun t ht => least_all (zs := x :: M ++ [y]) rfl F t (pe.mem_iff.mpr (List.mem_cons_of_mem _ (p.mem_iff.mp ht)))⟩
end
end HQ
set_option Elab.async false
set_option maxRecDepth 100000
set_option maxHeartbeats 4000000
namespace RS
open PySem PySem.Spec PyProof.Rows L2 GX

/-! ### runs that come of exchanging -/
section
variable {α : Type} {lt : α → α → Bool}
inductive RunTo (lt : α → α → Bool) : List α → List α → List α → List α → List α → Prop
  | done (l : List α) : RunTo lt [] l [] [] l
  | last {g g' r w l : List α} {x : α} (p : g.Perm (x :: g')) (m : ∀ y ∈ g', lt y x = false) (t : RunTo lt g' [] r w l) : RunTo lt g [] (x :: r) w l
  | keep {g g' left r w l : List α} {x e : α} (p : g.Perm (x :: g')) (m : ∀ y ∈ g', lt y x = false) (h : lt e x = false) (t : RunTo lt (e :: g') left r w l) : RunTo lt g (e :: left) (x :: r) w l
  | wait {g g' left r w l : List α} {x e : α} (p : g.Perm (x :: g')) (m : ∀ y ∈ g', lt y x = false) (h : lt e x = true) (t : RunTo lt g' left r w l) : RunTo lt g (e :: left) (x :: r) (e :: w) l
theorem RunTo.perm {g left r w l : List α} (h : RunTo lt g left r w l) : (g ++ left).Perm (r ++ w ++ l) := by
  induction h with
  | done l => exact List.Perm.refl _
  | last p m t ih => exact (p.append_right _).trans (ih.cons _)
  | @keep g g' left r w l x e p m h t ih =>
    refine (p.append_right _).trans ?_
    refine List.Perm.trans ?_ (ih.cons x)
    exact (List.perm_middle (l₁ := g') (a := e) (l₂ := left)).cons x
  | @wait g g' left r w l x e p m h t ih =>
    refine (p.append_right _).trans ?_
    have q : (g' ++ e :: left).Perm (r ++ (e :: w) ++ l) := by
      refine (List.perm_middle (l₁ := g') (a := e) (l₂ := left)).trans ?_
      refine (ih.cons e).trans ?_
      rw [List.append_assoc, List.append_assoc]
      exact (List.perm_middle (l₁ := r) (a := e) (l₂ := w ++ l)).symm
    exact q.cons x
theorem RunTo.len {g left r w l : List α} (h : RunTo lt g left r w l) : l = [] ∨ w.length = g.length := by
  induction h with
  | done l => exact .inr rfl
  | last p m t ih =>
    rcases ih with e | e
    · exact .inl e
    · have h := t.perm.length_eq
      simp only [List.length_append, List.length_nil] at h
      refine .inl (List.length_eq_zero_iff.mp (by omega))
  | keep p m h t ih =>
    rcases ih with e | e
    · exact .inl e
    · right
      rw [e, p.length_eq, List.length_cons, List.length_cons]
  | wait p m h t ih =>
    rcases ih with e | e
    · exact .inl e
    · right
      rw [List.length_cons, e, p.length_eq, List.length_cons]
theorem RunTo.some {g left r w l : List α} (h : RunTo lt g left r w l) (hg : g ≠ []) : 1 ≤ r.length := by
  cases h with
  | done => exact absurd rfl hg
  | last => simp
  | keep => simp
  | wait => simp
theorem perm_head {S : α → Prop} (U : ∀ x y, S x → S y → lt x y = false → lt y x = false → x = y) {g g2 a b : List α} {x y : α} (e : g.Perm g2) (p : g.Perm (x :: a)) (q : g2.Perm (y :: b)) (mx : ∀ z ∈ a, lt z x = false) (my : ∀ z ∈ b, lt z y = false)
    (hS : ∀ z ∈ g, S z) : x = y ∧ a.Perm b := by
  have pq : (x :: a).Perm (y :: b) := p.symm.trans (e.trans q)
  have hx : S x := hS x (p.mem_iff.mpr List.mem_cons_self)
  have hy : S y := hS y (e.mem_iff.mpr (q.mem_iff.mpr List.mem_cons_self))
  have exy : x = y := by
    rcases List.mem_cons.mp (pq.mem_iff.mp (List.mem_cons_self (a := x) (l := a))) with z | z
    · exact z
    · rcases List.mem_cons.mp (pq.mem_iff.mpr (List.mem_cons_self (a := y) (l := b))) with v | v
      · exact v.symm
      · exact U x y hx hy (my x z) (mx y v)
  subst exy
  exact ⟨rfl, List.Perm.cons_inv pq⟩
theorem RunTo.det {S : α → Prop} (U : ∀ x y, S x → S y → lt x y = false → lt y x = false → x = y) {g left r w l : List α} (h : RunTo lt g left r w l) :
    ∀ {g2 r2 w2 l2 : List α}, g.Perm g2 → (∀ z ∈ g, S z) → (∀ z ∈ left, S z) → RunTo lt g2 left r2 w2 l2 → r = r2 ∧ w = w2 ∧ l = l2 := by
  induction h with
  | done l =>
    intro g2 r2 w2 l2 e _ _ h2
    have e2 := e.symm.eq_nil
    subst e2
    cases h2 with
    | done => exact ⟨rfl, rfl, rfl⟩
    | last p => exact absurd p.length_eq (by simp)
    | keep p => exact absurd p.length_eq (by simp)
    | wait p => exact absurd p.length_eq (by simp)
  | last p m t ih =>
    intro g2 r2 w2 l2 e s1 s2 h2
    cases h2 with
    | done => exact absurd (e.symm.trans p).length_eq (by simp)
    | last p2 m2 t2 =>
      obtain ⟨rfl, pa⟩ := perm_head U e p p2 m m2 s1
      obtain ⟨rfl, rfl, rfl⟩ := ih pa (fun z hz => s1 z (p.mem_iff.mpr (List.mem_cons_of_mem _ hz))) s2 t2
      exact ⟨rfl, rfl, rfl⟩
  | keep p m h t ih =>
    intro g2 r2 w2 l2 e s1 s2 h2
    cases h2 with
    | done => exact absurd (e.symm.trans p).length_eq (by simp)
    | keep p2 m2 h2 t2 =>
      obtain ⟨rfl, pa⟩ := perm_head U e p p2 m m2 s1
      obtain ⟨rfl, rfl, rfl⟩ := ih (pa.cons _) (fun z hz => by
        rcases List.mem_cons.mp hz with e | hz
        · rw [e]; exact s2 _ List.mem_cons_self
        · exact s1 z (p.mem_iff.mpr (List.mem_cons_of_mem _ hz))) (fun z hz => s2 z (List.mem_cons_of_mem _ hz)) t2
      exact ⟨rfl, rfl, rfl⟩
    | wait p2 m2 h2 t2 =>
      obtain ⟨rfl, pa⟩ := perm_head U e p p2 m m2 s1
      rw [h] at h2
      cases h2
  | wait p m h t ih =>
    intro g2 r2 w2 l2 e s1 s2 h2
    cases h2 with
    | done => exact absurd (e.symm.trans p).length_eq (by simp)
    | keep p2 m2 h2 t2 =>
      obtain ⟨rfl, pa⟩ := perm_head U e p p2 m m2 s1
      rw [h] at h2
      cases h2
    | wait p2 m2 h2 t2 =>
      obtain ⟨rfl, pa⟩ := perm_head U e p p2 m m2 s1
      obtain ⟨rfl, rfl, rfl⟩ := ih pa (fun z hz => s1 z (p.mem_iff.mpr (List.mem_cons_of_mem _ hz))) (fun z hz => s2 z (List.mem_cons_of_mem _ hz)) t2
      exact ⟨rfl, rfl, rfl⟩
inductive RunsTo (lt : α → α → Bool) : List α → List α → List (List α) → Prop
  | done (left : List α) : RunsTo lt [] left []
  | more {room left r w l : List α} {rs : List (List α)} (hr : room ≠ []) (t : RunTo lt room left r w l) (m : RunsTo lt w l rs) : RunsTo lt room left (r :: rs)
theorem RunsTo.det {S : α → Prop} (U : ∀ x y, S x → S y → lt x y = false → lt y x = false → x = y) {g left : List α} {rs : List (List α)} (h : RunsTo lt g left rs) :
    ∀ {rs2 : List (List α)}, (∀ z ∈ g, S z) → (∀ z ∈ left, S z) → RunsTo lt g left rs2 → rs = rs2 := by
  induction h with
  | done left =>
    intro rs2 _ _ h2
    cases h2 with
    | done => rfl
    | more hr => exact absurd rfl hr
  | @more room left r w l rs hr t m ih =>
    intro rs2 s1 s2 h2
    cases h2 with
    | done => exact absurd rfl hr
    | more hr2 t2 m2 =>
      obtain ⟨rfl, rfl, rfl⟩ := t.det U (List.Perm.refl _) s1 s2 t2
      have all : ∀ z ∈ r ++ w ++ l, S z := fun z hz => by
        rcases List.mem_append.mp (t.perm.mem_iff.mpr hz) with q | q
        · exact s1 z q
        · exact s2 z q
      rw [ih (fun z hz => all z (by simp [hz])) (fun z hz => all z (by simp [hz])) m2]
end

/-! ### which pair goes ahead -/
def before (os : List (Nat × Bool)) (a b : Nat × List PyData) : Bool := HT.lexLt (rankOf os a) (rankOf os b)
theorem swo_before (os : List (Nat × Bool)) : SrtO.Swo (before os) := NtL.swo_lexL (rankOf os)
end RS
set_option Elab.async false
set_option maxRecDepth 100000
set_option maxHeartbeats 4000000
namespace RS
open PySem PySem.Spec PyProof.Rows L2 GX

/-! ### data without lists -/
mutual
def noL : PyData → Bool
  | .list _ => false
  | .dict _ => false
  | .tuple ds => noLs ds
  | _ => true
def noLs : List PyData → Bool
  | [] => true
  | d :: ds => noL d && noLs ds
end
theorem noLs_iff : ∀ {ds : List PyData}, noLs ds = true ↔ ∀ d ∈ ds, noL d = true
  | [] => by simp [noLs]
  | d :: ds => by
    unfold noLs
    rw [Bool.and_eq_true, noLs_iff]
    simp
theorem sqT_upd {K : PySem.W.Frag} {H : Hp} {a b : Addr} {xs u ys : List V} (hH : H a = some (.lst xs)) (h : SqT K H b ys) : SqT K (upd H a (.lst u)) b ys := by
  rcases h with (h | ⟨o, h⟩) | h
  · refine .inl (.inl ?_)
    rw [upd_ne (fun z => by rw [z, hH] at h; cases h)]
    exact h
  · refine .inl (.inr ⟨o, ?_⟩)
    rw [upd_ne (fun z => by rw [z, hH] at h; cases h)]
    exact h
  · exact .inr h
mutual
theorem dp_upd {K : PySem.W.Frag} {H : Hp} {a : Addr} {xs u : List V} (hH : H a = some (.lst xs)) : ∀ (d : PyData) {v : V}, noL d = true → Dp K H v d → Dp K (upd H a (.lst u)) v d
  | .none, _, _, .non => .non
  | .bool b, _, _, .bl _ => .bl b
  | .int i, _, _, .int _ => .int i
  | .str x, _, _, .str _ => .str x
  | .list ds, _, h, _ => by cases h
  | .tuple ds, _, h, .tup q hs => .tup (sqT_upd hH q) (dpAll_upd hH ds h hs)
  | .dict _, _, h, _ => by cases h
theorem dpAll_upd {K : PySem.W.Frag} {H : Hp} {a : Addr} {xs u : List V} (hH : H a = some (.lst xs)) : ∀ (ds : List PyData) {vs : List V}, noLs ds = true → DpAll K H vs ds → DpAll K (upd H a (.lst u)) vs ds
  | [], _, _, .nil => .nil
  | d :: ds, _, h, .cons q hs => by
    unfold noLs at h
    rw [Bool.and_eq_true] at h
    exact .cons (dp_upd hH d h.1 q) (dpAll_upd hH ds h.2 hs)
end
/-- a list is changed that is none of those ahead -/
theorem dp_upd' {K : PySem.W.Frag} {H H' : Hp} {a : Addr} {xs u : List V} (s : Same H H') (hn : H a = none) {d : PyData} {v : V} (q : Dp K H v d) : Dp K (upd H' a (.lst u)) v d :=
  dp_same (fun b o e => by rw [upd_ne (ne_of_none e hn)]; exact s b o e) d q

/-! ### ranks as data -/
def intsD (l : List Int) : PyData := .tuple (l.map .int)
theorem toks_ints : ∀ xs ys : List Int, PyProof.Rows.lexLt PyProof.Rows.itemOrd (PySem.W.keyToksAll (xs.map .int)) (PySem.W.keyToksAll (ys.map .int)) = HT.lexLt xs ys
  | [], [] => by decide
  | [], y :: ys => by
    rw [HT.lexLt_nil_cons]
    exact PyProof.Rows.lex_true.mpr (.inl (by decide))
  | x :: xs, [] => by
    rw [HT.lexLt_cons_nil]
    exact PyProof.Rows.lex_false.mpr ⟨by decide, .inl (by decide)⟩
  | x :: xs, y :: ys => by
    have ih := toks_ints xs ys
    rw [HT.lexLt_cons]
    show PyProof.Rows.lexLt PyProof.Rows.itemOrd (Sum.inl 1 :: Sum.inl x :: PySem.W.keyToksAll (xs.map .int)) (Sum.inl 1 :: Sum.inl y :: PySem.W.keyToksAll (ys.map .int)) = _
    rw [PyProof.Rows.lex_cons, PyProof.Rows.lex_cons]
    show ((decide ((1 : Int) < 1)) || (!(decide ((1 : Int) < 1)) && (decide (x < y) || (!(decide (y < x)) && _)))) = _
    rw [ih]
    by_cases e : x = y
    · subst e
      rw [if_pos rfl]
      simp
    · rw [if_neg e]
      by_cases h : x < y
      · simp [h]
      · have h2 : y < x := by omega
        simp [h, h2]
theorem lt_ints (xs ys : List Int) : PySem.W.dataLt (intsD xs) (intsD ys) = HT.lexLt xs ys := (PySem.W.dataLt_tuple _ _).trans (toks_ints xs ys)
theorem alike_ints : ∀ xs ys : List Int, PySem.W.alikeAll (xs.map .int) (ys.map .int) = true
  | [], _ => by simp [PySem.W.alikeAll]
  | _ :: _, [] => by simp [PySem.W.alikeAll]
  | x :: xs, y :: ys => by simp [PySem.W.alikeAll, PySem.W.alike, alike_ints xs ys]
theorem noL_ints (xs : List Int) : noLs (xs.map .int) = true := noLs_iff.mpr fun d hd => by
  obtain ⟨n, _, rfl⟩ := List.mem_map.mp hd
  rfl
theorem depth0 : ∀ {ds : List PyData}, (∀ d ∈ ds, d.depth = 0) → PyData.depthAll ds = 0
  | [], _ => by simp [PyData.depthAll]
  | d :: ds, h => by
    simp only [PyData.depthAll]
    rw [h d List.mem_cons_self, depth0 fun e he => h e (List.mem_cons_of_mem _ he)]
    rfl
/-- what stands in the heap: the rank and the pair -/
def itemD (os : List (Nat × Bool)) (q : Nat × List PyData) : PyData := .tuple [intsD (rankOf os q), pairD q]
theorem item_le {os : List (Nat × Bool)} {a b : Nat × List PyData} (h : PySem.W.dataLt (itemD os a) (itemD os b) = false) : before os a b = false := by
  have al : PySem.W.alike (intsD (rankOf os a)) (intsD (rankOf os b)) = true := by
    simp [intsD, PySem.W.alike, alike_ints]
  cases e : PyData.eqv (intsD (rankOf os a)) (intsD (rankOf os b)) with
  | true =>
    have t := (PySem.W.toks_eqv _ _ al).1 e
    have q : PySem.W.dataLt (intsD (rankOf os a)) (intsD (rankOf os b)) = false := by
      unfold PySem.W.dataLt
      rw [t]
      exact (PyProof.Rows.listOrd PyProof.Rows.itemOrd).irrefl _
    rw [lt_ints] at q
    exact q
  | false =>
    have t := PySem.W.dataLt_all_no (xs := [pairD a]) (ys := [pairD b]) al e
    rw [lt_ints] at t
    exact t.symm.trans ((PySem.W.dataLt_tuple _ _).symm.trans h)
/-! ### rows that may be compared -/
theorem val_atom {b : Bool} {d : PyData} (h : isVal b d = true) : (b = true ∧ ∃ x, d = .str x) ∨ (b = false ∧ ∃ n, d = .int n) := by
  cases b with
  | true =>
    cases d with
    | str x => exact .inl ⟨rfl, x, rfl⟩
    | _ => simp [isVal, isWord] at h
  | false =>
    cases d with
    | int n => exact .inr ⟨rfl, n, rfl⟩
    | _ => simp [isVal, isNum, isI, isT, tyN] at h
theorem row_alike : ∀ {ks : List Bool} {r r' : List PyData}, (ks.zip r).all (fun p => isVal p.1 p.2) = true → (ks.zip r').all (fun p => isVal p.1 p.2) = true → r.length = ks.length → r'.length = ks.length → PySem.W.alikeAll r r' = true
  | _, [], _, _, _, _, _ => by simp [PySem.W.alikeAll]
  | _, _ :: _, [], _, _, _, _ => by simp [PySem.W.alikeAll]
  | [], _ :: _, _ :: _, _, _, h, _ => by simp at h
  | k :: ks, d :: r, d' :: r', h, h', l, l' => by
    rw [List.zip_cons_cons, List.all_cons, Bool.and_eq_true] at h h'
    have ih := row_alike h.2 h'.2 (by simpa using l) (by simpa using l')
    have q : PySem.W.alike d d' = true := by
      rcases val_atom h.1 with ⟨e, x, rfl⟩ | ⟨e, n, rfl⟩
      · rcases val_atom h'.1 with ⟨_, y, rfl⟩ | ⟨e', _⟩
        · simp [PySem.W.alike]
        · simp only at e e'; rw [e] at e'; cases e'
      · rcases val_atom h'.1 with ⟨e', _⟩ | ⟨_, m, rfl⟩
        · simp only at e e'; rw [e] at e'; cases e'
        · simp [PySem.W.alike]
    simp [PySem.W.alikeAll, q, ih]
theorem isRow_iff {ks : List Bool} {r : List PyData} : isRow ks (.tuple r) = true ↔ r.length = ks.length ∧ (ks.zip r).all (fun p => isVal p.1 p.2) = true := by
  show (decide (r.length = ks.length) && (ks.zip r).all fun p => isVal p.1 p.2) = true ↔ _
  rw [Bool.and_eq_true]
  simp
theorem row_val {ks : List Bool} {r : List PyData} (h : isRow ks (.tuple r) = true) {d : PyData} (hd : d ∈ r) : ∃ b, isVal b d = true := by
  obtain ⟨hl, ha⟩ := isRow_iff.mp h
  obtain ⟨i, hi, rfl⟩ := List.getElem_of_mem hd
  have hi2 : i < ks.length := by omega
  refine ⟨ks[i], List.all_eq_true.mp ha (ks[i], r[i]) ?_⟩
  rw [List.mem_iff_getElem]
  exact ⟨i, by rw [List.length_zip]; omega, by simp⟩
theorem item_alike {ks : List Bool} {os : List (Nat × Bool)} {a b : Nat × List PyData} (ha : isRow ks (.tuple a.2) = true) (hb : isRow ks (.tuple b.2) = true) : PySem.W.alike (itemD os a) (itemD os b) = true := by
  obtain ⟨l1, h1⟩ := isRow_iff.mp ha
  obtain ⟨l2, h2⟩ := isRow_iff.mp hb
  have q := row_alike h1 h2 l1 l2
  simp [itemD, intsD, pairD, PySem.W.alike, PySem.W.alikeAll, alike_ints, q]
theorem pair_noL {ks : List Bool} {a : Nat × List PyData} (ha : isRow ks (.tuple a.2) = true) : noL (pairD a) = true := by
  have q : noLs a.2 = true := noLs_iff.mpr fun d hd => by
    obtain ⟨b, hv⟩ := row_val ha hd
    rcases val_atom hv with ⟨_, x, rfl⟩ | ⟨_, n, rfl⟩ <;> rfl
  simp [pairD, noL, noLs, q]
theorem item_noL {ks : List Bool} {os : List (Nat × Bool)} {a : Nat × List PyData} (ha : isRow ks (.tuple a.2) = true) : noL (itemD os a) = true := by
  have q := pair_noL ha
  simp [itemD, intsD, noL, noLs, q, noL_ints]
theorem item_depth {ks : List Bool} {os : List (Nat × Bool)} {a : Nat × List PyData} (ha : isRow ks (.tuple a.2) = true) : (itemD os a).depth ≤ 60 := by
  have q : PyData.depthAll a.2 = 0 := depth0 fun d hd => by
    obtain ⟨b, hv⟩ := row_val ha hd
    rcases val_atom hv with ⟨_, x, rfl⟩ | ⟨_, n, rfl⟩ <;> simp [PyData.depth]
  have q2 : PyData.depthAll ((rankOf os a).map .int) = 0 := depth0 fun d hd => by
    obtain ⟨n, _, rfl⟩ := List.mem_map.mp hd
    simp [PyData.depth]
  simp [itemD, intsD, pairD, PyData.depth, PyData.depthAll, q, q2]
end RS
set_option Elab.async false
set_option maxRecDepth 100000
set_option maxHeartbeats 4000000
namespace RS
open PySem PySem.Spec PyProof.Rows L2 GX
/-! ### ranks, column by column -/
theorem lex_irr : ∀ l : List Int, HT.lexLt l l = false
  | [] => rfl
  | x :: l => by rw [HT.lexLt_cons, if_pos rfl]; exact lex_irr l
theorem lexLt_app : ∀ (A B X Y : List Int), A.length = B.length → HT.lexLt (A ++ X) (B ++ Y) = if A = B then HT.lexLt X Y else HT.lexLt A B
  | [], [], X, Y, _ => by rw [if_pos rfl]; rfl
  | [], _ :: _, _, _, h => by simp at h
  | _ :: _, [], _, _, h => by simp at h
  | a :: A, b :: B, X, Y, h => by
    rw [List.cons_append, List.cons_append, HT.lexLt_cons, HT.lexLt_cons]
    by_cases e : a = b
    · subst e
      rw [if_pos rfl, if_pos rfl, lexLt_app A B X Y (by simpa using h)]
      by_cases e2 : A = B
      · rw [if_pos e2, if_pos (by rw [e2])]
      · rw [if_neg e2, if_neg (fun z => e2 (List.cons.inj z).2)]
    · rw [if_neg e, if_neg e, if_neg (fun z => e (List.cons.inj z).1)]
def sg (b : Bool) (z : Int) : Int := if b then -z else z
def padL (k : Nat) (l : List Nat) : List Nat := l ++ List.replicate (k - l.length) 32
def padI (b : Bool) (k : Nat) (l : List Nat) : List Int := ((padL k l).map Int.ofNat).map (sg b)
theorem padI_cons (b : Bool) (k : Nat) (x : Nat) (l : List Nat) : padI b (k + 1) (x :: l) = sg b (x : Nat) :: padI b k l := by
  unfold padI padL
  rw [List.length_cons, Nat.add_sub_add_right]
  rfl
theorem padI_nil (b : Bool) (k : Nat) : padI b (k + 1) [] = sg b 32 :: padI b k [] := by
  unfold padI padL
  rfl
theorem sg_lt {b : Bool} {x y : Nat} : decide (sg b (x : Nat) < sg b (y : Nat)) = if b then decide (y < x) else decide (x < y) := by
  cases b
  · show decide ((x : Int) < (y : Int)) = decide (x < y)
    simp
  · show decide (-(x : Int) < -(y : Int)) = decide (y < x)
    congr 1
    simp
theorem sg_inj {b : Bool} {x y : Nat} (h : sg b (x : Nat) = sg b (y : Nat)) : x = y := by
  cases b
  · have h : (x : Int) = (y : Int) := h
    omega
  · have h : -(x : Int) = -(y : Int) := h
    omega
theorem nil_lt (x : Nat) (l : List Nat) : decide (([] : List Nat) < x :: l) = true := by simp
theorem lt_nil (l : List Nat) : decide (l < ([] : List Nat)) = false := by simp
theorem cons_lt (x y : Nat) (l m : List Nat) : decide (x :: l < y :: m) = if x = y then decide (l < m) else decide (x < y) := by
  by_cases e : x = y
  · subst e
    rw [if_pos rfl]
    congr 1
    simp
  · rw [if_neg e]
    congr 1
    rw [List.cons_lt_cons_iff]
    simp [e]
theorem pad_lt (b : Bool) : ∀ (k : Nat) (l m : List Nat), l.length ≤ k → m.length ≤ k → (∀ c ∈ l, 32 < c) → (∀ c ∈ m, 32 < c) → HT.lexLt (padI b k l) (padI b k m) = if b then decide (m < l) else decide (l < m)
  | 0, [], [], _, _, _, _ => by cases b <;> rfl
  | 0, _ :: _, _, h, _, _, _ => by simp at h
  | 0, _, _ :: _, _, h, _, _ => by simp at h
  | k + 1, [], [], _, _, _, _ => by
    rw [lex_irr]
    cases b <;> simp
  | k + 1, [], y :: m, _, _, _, hm => by
    have hy := hm y List.mem_cons_self
    rw [padI_cons, padI_nil, HT.lexLt_cons]
    have ne : ¬ sg b 32 = sg b (y : Nat) := fun z => by
      have := sg_inj (b := b) (x := 32) (y := y) z
      omega
    rw [if_neg ne]
    have := sg_lt (b := b) (x := 32) (y := y)
    rw [nil_lt, lt_nil]
    refine this.trans ?_
    cases b
    · simp [hy]
    · simp
      omega
  | k + 1, x :: l, [], _, _, hl, _ => by
    have hx := hl x List.mem_cons_self
    rw [padI_cons, padI_nil, HT.lexLt_cons]
    have ne : ¬ sg b (x : Nat) = sg b 32 := fun z => by
      have := sg_inj (b := b) (x := x) (y := 32) z
      omega
    rw [if_neg ne]
    have := sg_lt (b := b) (x := x) (y := 32)
    rw [nil_lt, lt_nil]
    refine this.trans ?_
    cases b
    · simp
      omega
    · simp [hx]
  | k + 1, x :: l, y :: m, h1, h2, hl, hm => by
    have ih := pad_lt b k l m (by simpa using h1) (by simpa using h2) (fun c hc => hl c (List.mem_cons_of_mem _ hc)) (fun c hc => hm c (List.mem_cons_of_mem _ hc))
    rw [padI_cons, padI_cons, HT.lexLt_cons, cons_lt, cons_lt]
    by_cases e : x = y
    · subst e
      rw [if_pos rfl, if_pos rfl, if_pos rfl]
      exact ih
    · rw [if_neg (fun z => e (sg_inj z)), if_neg e, if_neg (Ne.symm e)]
      exact sg_lt
theorem lt_total {l m : List Nat} (h : l ≠ m) : l < m ∨ m < l := by
  induction l generalizing m with
  | nil =>
    cases m with
    | nil => exact absurd rfl h
    | cons y m => exact .inl (by simp)
  | cons x l ih =>
    cases m with
    | nil => exact .inr (by simp)
    | cons y m =>
      by_cases e : x = y
      · subst e
        rcases ih (m := m) (fun z => h (by rw [z])) with q | q
        · exact .inl (List.cons_lt_cons_iff.mpr (.inr ⟨rfl, q⟩))
        · exact .inr (List.cons_lt_cons_iff.mpr (.inr ⟨rfl, q⟩))
      · rcases Nat.lt_or_gt_of_ne e with q | q
        · exact .inl (List.cons_lt_cons_iff.mpr (.inl q))
        · exact .inr (List.cons_lt_cons_iff.mpr (.inl q))
theorem pad_ne (b : Bool) {k : Nat} {l m : List Nat} (h1 : l.length ≤ k) (h2 : m.length ≤ k) (hl : ∀ c ∈ l, 32 < c) (hm : ∀ c ∈ m, 32 < c) (ne : l ≠ m) : padI b k l ≠ padI b k m := fun z => by
  have a := pad_lt b k l m h1 h2 hl hm
  have c := pad_lt b k m l h2 h1 hm hl
  rw [z, lex_irr] at a
  rw [z, lex_irr] at c
  rcases lt_total ne with q | q
  · cases b
    · simp [q] at a
    · simp [q] at c
  · cases b
    · simp [q] at c
    · simp [q] at a
end RS
set_option Elab.async false
set_option maxRecDepth 100000
set_option maxHeartbeats 4000000
namespace RS
open PySem PySem.Spec PyProof.Rows L2 GX
section
variable {X : Cx}
/-- a, b, c = x, y, z with plain local names -/
def tPar3 (i j l : Nat) (ta : TA) : TS := fun D σ H => ta σ H fun vs H1 => ∃ v w z, vs = [v, w, z] ∧ D.nx (((σ.set i (some v)).set j (some w)).set l (some z)) H1
theorem ps_par3 {i j l : Nat} {x y z : Str} {a b c : Expr} {ta : TA} {px py pz pt pos : Pos} {kt k2 pt2} (hc : X.calm = true) (hN : X.N.Nodup) (hi : X.N[i]? = some x) (hj : X.N[j]? = some y) (hl : X.N[l]? = some z) (hij : i ≠ j) (hil : i ≠ l) (hjl : j ≠ l)
    (hx : X.env.scope.names.lookup x = some .local) (hy : X.env.scope.names.lookup y = some .local) (hz : X.env.scope.names.lookup z = some .local) (ha : PA X [a, b, c] ta)
    (hw : swappedStores [.Tuple [.Name x px, .Name y py, .Name z pz] kt pt] (.Tuple [a, b, c] k2 pt2) X.env = pure (some [x, y, z]))
    (hs : swapsWithSole [.Tuple [.Name x px, .Name y py, .Name z pz] kt pt] (.Tuple [a, b, c] k2 pt2) pos.line X.env = pure false := by rfl) :
    PS X (.Assign [.Tuple [.Name x px, .Name y py, .Name z pz] kt pt] (.Tuple [a, b, c] k2 pt2) pos) (tPar3 i j l ta) := by
  refine ⟨fun pins s σ H D I h => ?_⟩
  rw [exec_Assign_arm]
  refine wpAny_bind (wpAny_standAt ?_)
  rw [hs]
  refine wpAny_bind (wpAny_pure ?_)
  rw [if_neg (by decide)]
  refine wpAny_bind (Tuple_ (thn (ha.run _ pins s σ H _ I h) fun us s1 ⟨vs, H1, I1, r1, q1⟩ => ?_))
  obtain ⟨v, w, q, e1, q1⟩ := q1
  subst e1
  obtain ⟨u1, u2, u3, rfl, rv, rw', rq⟩ : ∃ u1 u2 u3, us = [u1, u2, u3] ∧ RelV v u1 ∧ RelV w u2 ∧ RelV q u3 := by
    cases r1 with
    | cons p q =>
      cases q with
      | cons p' q' =>
        cases q' with
        | cons p2 q2 =>
          cases q2
          exact ⟨_, _, _, rfl, p, p', p2⟩
  refine wpAny_newObj_type ?_ (by show 3 ≤ sizeLine; decide)
  have I2 : Inv X pins σ H1 { s1 with heap := s1.heap.push { cls := .type "tuple", data := .seq [u1, u2, u3].toArray } } := I1.kept (t' := s1.toks) fun b o e => Heap.get?_push_of_some _ e
  rw [hw]
  refine wpAny_bind (wpAny_pure ?_)
  show wpAny (model X.prog X.w) X.A (do rule "assign.swapped-stores"; let items ← unpackItems (.ref s1.heap.objs.size) 3 none; assignInOrder [fun v => bindName X.env z v, fun v => bindName X.env y v, fun v => bindName X.env x v] items.reverse; pure Flow.next) _ _ _
  refine wpAny_bind (wpAny_rule (wpAny_bind (unpackItems_tuple (items := #[u1, u2, u3]) (I.ok.hd hc) (IsTup.new s1.heap _) fun h' hx' => ?_)))
  have I3 := I2.kept (h' := h') (t' := s1.toks) fun b o e => hx' b o (Nat.ne_of_lt (Heap.lt_size e)) e
  show wpAny _ _ (assignInOrder [fun v => bindName X.env z v, fun v => bindName X.env y v, fun v => bindName X.env x v] [u3, u2, u1] >>= fun _ => pure Flow.next) _ _ _
  refine wpAny_bind (assignInOrder_cons (wpAny_bindName (store_ok I3 hN hl (.inl hz) rq (fun s2 I4 => ?_) (.inr hz))))
  refine assignInOrder_cons (wpAny_bindName (store_ok I4 hN hj (.inl hy) rw' (fun s3 I5 => ?_) (.inr hy)))
  refine assignInOrder_cons (wpAny_bindName (store_ok I5 hN hi (.inl hx) rv (fun s4 I6 => assignInOrder_nil (wpAny_pure ?_)) (.inr hx)))
  rw [List.set_comm _ _ (Ne.symm hij), List.set_comm _ _ (Ne.symm hil), List.set_comm _ _ (Ne.symm hjl)] at I6
  exact ⟨_, H1, I6, q1⟩
end
end RS
set_option Elab.async false
set_option maxRecDepth 100000
set_option maxHeartbeats 4000000
namespace RS
open PySem PySem.Spec PyProof.Rows L2 GX HQ

/-- what the module took of heapq -/
structure TxtQ (mg : Str → Option Value) : Prop where
  heapify : mg "heapify" = some (.builtin "_heapq.heapify")
  push : mg "heappush" = some (.builtin "_heapq.heappush")
  pop : mg "heappop" = some (.builtin "_heapq.heappop")
theorem perm_unmap {α β : Type} {f : α → β} {x m : List β} (p : x.Perm m) : ∀ l : List α, l.map f = x → ∃ l', l.Perm l' ∧ l'.map f = m := by
  induction p with
  | nil => exact fun l e => ⟨l, .refl _, e⟩
  | cons a p ih =>
    intro l e
    cases l with
    | nil => cases e
    | cons b l =>
      rw [List.map_cons] at e
      injection e with e1 e2
      obtain ⟨l', p', e'⟩ := ih l e2
      exact ⟨b :: l', p'.cons b, by rw [List.map_cons, e1, e']⟩
  | swap a b l0 =>
    intro l e
    cases l with
    | nil => cases e
    | cons c l =>
      cases l with
      | nil => cases e
      | cons d l =>
        rw [List.map_cons, List.map_cons] at e
        injection e with e1 e2
        injection e2 with e2 e3
        exact ⟨d :: c :: l, .swap d c l, by rw [List.map_cons, List.map_cons, e1, e2, e3]⟩
  | trans p q ih1 ih2 =>
    intro l e
    obtain ⟨l1, p1, e1⟩ := ih1 l e
    obtain ⟨l2, p2, e2⟩ := ih2 l1 e1
    exact ⟨l2, p1.trans p2, e2⟩
theorem dpAll_ints {K : PySem.W.Frag} {H : Hp} : ∀ {ns : List Int} {xs : List V}, DpAll K H xs (ns.map .int) → xs = ns.map V.int
  | [], _, .nil => rfl
  | n :: ns, _, .cons h t => by
    cases h
    rw [dpAll_ints t]
    rfl
theorem dp_ints {K : PySem.W.Frag} {H : Hp} {v : V} {ns : List Int} (h : Dp K H v (intsD ns)) : ∃ a, v = .ref a ∧ SqT K H a (ns.map V.int) := by
  cases h with
  | tup q hs => exact ⟨_, rfl, by rw [← dpAll_ints hs]; exact q⟩
theorem ints_dp {K : PySem.W.Frag} {H : Hp} {ns : List Int} {a : Addr} (h : SqT K H a (ns.map V.int)) : Dp K H (.ref a) (intsD ns) := by
  refine .tup h ?_
  clear h
  induction ns with
  | nil => exact .nil
  | cons n ns ih => exact .cons (.int n) ih

theorem pairs_noL {ks : List Bool} {l : List (Nat × List PyData)} (h : ∀ q ∈ l, isRow ks (.tuple q.2) = true) : noLs (l.map pairD) = true := noLs_iff.mpr fun d hd => by
  obtain ⟨q, hq, rfl⟩ := List.mem_map.mp hd
  exact pair_noL (h q hq)
def RowsOk (os : List (Nat × Bool)) (ks : List Bool) (l : List (Nat × List PyData)) : Prop := ∀ q ∈ l, Fits os q.2 ∧ isRow ks (.tuple q.2) = true
theorem RunTo.permL {α : Type} {lt : α → α → Bool} {g g2 left r w l : List α} (e : g2.Perm g) (h : RunTo lt g left r w l) : RunTo lt g2 left r w l := by
  cases h with
  | done =>
    have z := e.eq_nil
    subst z
    exact .done _
  | last p m t => exact .last (e.trans p) m t
  | keep p m h t => exact .keep (e.trans p) m h t
  | wait p m h t => exact .wait (e.trans p) m h t
theorem upd_no {H : Hp} {a b : Addr} {o : HO} (e : upd H a o b = none) : H b = none := by
  by_cases z : b = a
  · rw [z, upd_same] at e
    cases e
  · rw [upd_ne z] at e
    exact e
theorem cutV_from {xs : List V} {k : Nat} (h : k ≤ xs.length) : cutV xs (some (k : Nat)) none = xs.drop k := by
  unfold cutV
  rw [HT.sIx_nat, HT.sIx_none, Nat.min_eq_left h, List.take_of_length_le]
  rw [List.length_drop]
  exact Nat.le_refl _
theorem dpAll_drop {K : PySem.W.Frag} {H : Hp} : ∀ {xs : List V} {ds : List PyData}, DpAll K H xs ds → ∀ k : Nat, DpAll K H (xs.drop k) (ds.drop k)
  | _, _, h, 0 => h
  | _, _, .nil, _ + 1 => .nil
  | _, _, .cons _ t, k + 1 => dpAll_drop t k
theorem dpAll_take {K : PySem.W.Frag} {H : Hp} : ∀ {xs : List V} {ds : List PyData}, DpAll K H xs ds → ∀ k : Nat, DpAll K H (xs.take k) (ds.take k)
  | _, _, _, 0 => .nil
  | _, _, .nil, _ + 1 => .nil
  | _, _, .cons h t, k + 1 => .cons h (dpAll_take t k)
theorem zmem {α : Type} {f : α → PyData} {zs : List Z} {l : List α} (e : zs.map (·.2) = l.map f) {z : Z} (hz : z ∈ zs) : ∃ q ∈ l, z.2 = f q := by
  have : z.2 ∈ l.map f := by
    rw [← e]
    exact List.mem_map.mpr ⟨z, hz, rfl⟩
  obtain ⟨q, hq, e⟩ := List.mem_map.mp this
  exact ⟨q, hq, e.symm⟩
theorem good_of {K : PySem.W.Frag} {ks : List Bool} {os : List (Nat × Bool)} {H' : Hp} {G : Addr} {zs : List Z} {xs : List V} {l : List (Nat × List PyData)} (hG : H' G = some (.lst xs)) (e : zs.map (·.2) = l.map (itemD os)) (h : ∀ z ∈ zs, Dp K H' z.1 z.2) (ok : ∀ q ∈ l, isRow ks (.tuple q.2) = true) : Good K H' G zs := by
  refine ⟨fun z hz u => ?_, fun z hz => ?_, fun z hz => ?_, fun z hz y hy => ?_⟩
  · obtain ⟨q', hq', e⟩ := zmem e hz
    refine dp_upd hG _ ?_ (h z hz)
    rw [e]
    exact item_noL (ok q' hq')
  · obtain ⟨q', hq', e⟩ := zmem e hz
    rw [e]
    exact fun q => nomatch q
  · obtain ⟨q', hq', e⟩ := zmem e hz
    rw [e]
    exact item_depth (ok q' hq')
  · obtain ⟨q', hq', e1⟩ := zmem e hz
    obtain ⟨q2, hq2, e2⟩ := zmem e hy
    rw [e1, e2]
    exact item_alike (ok q' hq') (ok q2 hq2)

/-! ### a target that is an attribute -/
def gFld (K : PySem.W.Frag) (to : TE) (f : Str) : TG := fun v σ H Q => to σ H fun x H2 => ∃ a C dx fs, x = .ref a ∧ H2 a = some (.ins C dx fs) ∧ Cls K C ∧ NoAttr K C f ∧ fs.length < 1000 ∧ Q σ (upd H2 a (.ins C dx (putF f v fs)))
theorem pg_fld {X : Cx} {o : Expr} {f : Str} {pos : Pos} {to : TE} (ho : PE X o to) : PG X (.Attribute o f pos) (gFld X.K to f) := by
  refine ⟨fun pins s σ H v u Q I r h => ?_⟩
  rw [arm_assign_Attribute]
  refine wpAny_bind (wpAny_holding (thn (ho.run pins s σ H _ I h) fun ov s1 ⟨x, H1, I1, r1, a, C, dx, fs, ex, ea, c, n, l, q⟩ => ?_))
  subst ex
  obtain rfl : ov = Value.ref a := r1
  refine wpAny_bind (wpAny_standAt (wpAny_bind (wpAny_holding (setattr_ok I1 ea c n l r fun s2 I2 => ?_))))
  exact wpAny_release ⟨σ, _, I2, q⟩
/-! ### methods as constants of a class -/
structure MetC (P : Program) (w : World) (K : PySem.W.Frag) (mg : Str → Option Value) (base : Heap) (CX : CXT) (k : Nat) (C : Addr) (m : Str) (ps : List Str) (sp : Sp) : Prop where
  ex : ∃ (f : Addr) (fd : FuncData), Cls K C ∧ Meth K C m f ∧ FnOk P w K mg base CX k f fd ps sp ∧ Binds K fd ps []
structure MakC (P : Program) (w : World) (K : PySem.W.Frag) (mg : Str → Option Value) (base : Heap) (CX : CXT) (k : Nat) (x : Str) (C : Addr) (ps : List Str) (sp : Sp) : Prop where
  ex : ∃ (f : Addr) (fd : FuncData), Mk K C f ∧ FnOk P w K mg base CX k f fd ps sp ∧ mg x = some (.ref C) ∧ Binds K fd ps []
section
variable {X : Cx} {CX : CXT} {k j : Nat} {C : Addr} {ps : List Str} {sp : Sp} {E : XK} {x m : Str} {p pos apos : Pos} {e o : Expr} {es : List Expr} {ta : TE} {t : TA}
theorem pe_m {pl : Sem Bool} (c : MetC X.prog X.w X.K X.mg X.base CX k C m ps sp) (hr : Room j X.A) (hk : k ≤ j) (hx : Passes CX X E) (he : PE X o ta) (ha : PA X (e :: es) t)
    (hst : starEach (e :: es) X.env = (false, eval e X.env) :: starEach es X.env := by rfl) (hpl : (backTo pos (starEach es X.env)).any (·.1) = false := by rfl)
    (ht : eval (.Call (.Attribute o m apos) (e :: es) [] pos) X.env = (do
      let ov ← eval o X.env
      standAt apos.atName
      let (f, first) ← holding [ov] (getMethod ov m pl)
      callWith pos f first (backTo pos (starEach (e :: es) X.env)) (backToKw pos (keywordEach [] X.env))) := by rfl) :
    PE X (.Call (.Attribute o m apos) (e :: es) [] pos) (tMeth C m sp [] E ta t) := by
  obtain ⟨f, fd, cl, hm, F, hb⟩ := c.ex
  exact pe_meth he cl hm F (hr.mono hk) hb .nil hx ha hst hpl ht
theorem pe_m0 {pl : Sem Bool} (c : MetC X.prog X.w X.K X.mg X.base CX k C m ps sp) (hr : Room j X.A) (hk : k ≤ j) (hx : Passes CX X E) (he : PE X o ta)
    (ht : eval (.Call (.Attribute o m apos) [] [] pos) X.env = (do
      let ov ← eval o X.env
      standAt apos.atName
      let (f, first) ← holding [ov] (getMethod ov m pl)
      callWith pos f first (backTo pos (starEach [] X.env)) (backToKw pos (keywordEach [] X.env))) := by rfl) :
    PE X (.Call (.Attribute o m apos) [] [] pos) (tMeth C m sp [] E ta tNil) := by
  obtain ⟨f, fd, cl, hm, F, hb⟩ := c.ex
  exact pe_meth0 he cl hm F (hr.mono hk) hb .nil hx ht
theorem pe_mk (c : MakC X.prog X.w X.K X.mg X.base CX k x C ps sp) (hr : Room j X.A) (hk : k + 1 ≤ j) (hg : Gl X x) (hx : Passes CX X E) (ha : PA X (e :: es) t) (hdb : (x == ("__debug__" : Str)) = false := by decide)
    (he : starEach (e :: es) X.env = (false, eval e X.env) :: starEach es X.env := by rfl) (hpl : (backTo pos (starEach es X.env)).any (·.1) = false := by rfl) :
    PE X (.Call (.Name x p) (e :: es) [] pos) (tMake C sp [] E t) := by
  obtain ⟨f, fd, M, F, hm, hb⟩ := c.ex
  exact pe_make M F (hr.mono hk) hg hm hb .nil hx ha hdb he hpl
theorem pe_mk0 (c : MakC X.prog X.w X.K X.mg X.base CX k x C ps sp) (hr : Room j X.A) (hk : k + 1 ≤ j) (hg : Gl X x) (hx : Passes CX X E) (hdb : (x == ("__debug__" : Str)) = false := by decide) :
    PE X (.Call (.Name x p) [] [] pos) (tMake C sp [] E tNil) := by
  obtain ⟨f, fd, M, F, hm, hb⟩ := c.ex
  exact pe_make0 M F (hr.mono hk) hg hm hb .nil hx hdb
end
/-! ### attributes in a list -/
theorem putF_eq {f : Str} {v w : V} {r : List (Str × V)} : putF f v ((f, w) :: r) = (f, v) :: r := if_pos rfl
theorem putF_ne {f g : Str} {v w : V} {r : List (Str × V)} (h : ¬ g = f) : putF f v ((g, w) :: r) = (g, w) :: putF f v r := if_neg h
theorem lk_eq {f : Str} {v : V} {r : List (Str × V)} : ((f, v) :: r).lookup f = some v := by simp [List.lookup]
theorem lk_ne {f g : Str} {v : V} {r : List (Str × V)} (h : ¬ f = g) : ((g, v) :: r).lookup f = r.lookup f := by
  have e : (f == g) = false := beq_eq_false_iff_ne.mpr h
  simp [List.lookup, e]
/-! ### all but lists and instances stays -/
def KpS (H H' : Hp) : Prop := ∀ b o, H b = some o → (∀ xs, o ≠ .lst xs) → (∀ C dx fs, o ≠ .ins C dx fs) → H' b = some o
theorem KpS.of {H H' : Hp} (s : Same H H') : KpS H H' := fun b o e _ _ => s b o e
theorem KpS.trans {H H1 H2 : Hp} (a : KpS H H1) (b : KpS H1 H2) : KpS H H2 := fun c o e n1 n2 => b c o (a c o e n1 n2) n1 n2
theorem KpS.lst {H : Hp} {a : Addr} {xs u : List V} (h : H a = some (.lst xs)) : KpS H (upd H a (.lst u)) := fun b o e n _ => by
  rw [upd_ne (fun z => by rw [z, h] at e; exact n _ (Option.some.inj e).symm)]
  exact e
theorem KpS.ins {H : Hp} {a C dx : Addr} {fs : List (Str × V)} {o' : HO} (h : H a = some (.ins C dx fs)) : KpS H (upd H a o') := fun b o e _ n => by
  rw [upd_ne (fun z => by rw [z, h] at e; exact n _ _ _ (Option.some.inj e).symm)]
  exact e
theorem sqT_kp {K : PySem.W.Frag} {H H' : Hp} {a : Addr} {xs : List V} (k : KpS H H') (h : SqT K H a xs) : SqT K H' a xs := by
  rcases h with (h | ⟨o, h⟩) | h
  · exact .inl (.inl (k _ _ h (fun _ z => by cases z) (fun _ _ _ z => by cases z)))
  · exact .inl (.inr ⟨o, k _ _ h (fun _ z => by cases z) (fun _ _ _ z => by cases z)⟩)
  · exact .inr h
mutual
theorem dp_kp {K : PySem.W.Frag} {H H' : Hp} (k : KpS H H') : ∀ (d : PyData) {v : V}, noL d = true → Dp K H v d → Dp K H' v d
  | .none, _, _, .non => .non
  | .bool b, _, _, .bl _ => .bl b
  | .int i, _, _, .int _ => .int i
  | .str x, _, _, .str _ => .str x
  | .list ds, _, h, _ => by cases h
  | .tuple ds, _, h, .tup q hs => .tup (sqT_kp k q) (dpAll_kp k ds h hs)
  | .dict _, _, h, _ => by cases h
theorem dpAll_kp {K : PySem.W.Frag} {H H' : Hp} (k : KpS H H') : ∀ (ds : List PyData) {vs : List V}, noLs ds = true → DpAll K H vs ds → DpAll K H' vs ds
  | [], _, _, .nil => .nil
  | d :: ds, _, h, .cons q hs => by
    unfold noLs at h
    rw [Bool.and_eq_true] at h
    exact .cons (dp_kp k d h.1 q) (dpAll_kp k ds h.2 hs)
end
end RS
set_option Elab.async false
set_option maxRecDepth 100000
set_option maxHeartbeats 4000000
namespace RS
open PySem PySem.Spec PyProof.Rows L2 GX HQ
abbrev Pr := Nat × List PyData
/-! ### the room of an Exchange as it lies in the heap -/
def fldsX (vo : V) (G W : Addr) (vl : V) : List (Str × V) := [("order", vo), ("going", .ref G), ("waiting", .ref W), ("last", vl)]
theorem xog : ¬ (("order" : Str) = "going") := by decide +kernel
theorem xow : ¬ (("order" : Str) = "waiting") := by decide +kernel
theorem xol : ¬ (("order" : Str) = "last") := by decide +kernel
theorem xgo : ¬ (("going" : Str) = "order") := by decide +kernel
theorem xgw : ¬ (("going" : Str) = "waiting") := by decide +kernel
theorem xgl : ¬ (("going" : Str) = "last") := by decide +kernel
theorem xwo : ¬ (("waiting" : Str) = "order") := by decide +kernel
theorem xwg : ¬ (("waiting" : Str) = "going") := by decide +kernel
theorem xwl : ¬ (("waiting" : Str) = "last") := by decide +kernel
theorem xlo : ¬ (("last" : Str) = "order") := by decide +kernel
theorem xlg : ¬ (("last" : Str) = "going") := by decide +kernel
theorem xlw : ¬ (("last" : Str) = "waiting") := by decide +kernel
section
variable {vo vl v : V} {G W G' : Addr}
theorem fx_order : (fldsX vo G W vl).lookup ("order" : Str) = some vo := lk_eq
theorem fx_going : (fldsX vo G W vl).lookup ("going" : Str) = some (.ref G) := (lk_ne xgo).trans lk_eq
theorem fx_waiting : (fldsX vo G W vl).lookup ("waiting" : Str) = some (.ref W) := (lk_ne xwo).trans ((lk_ne xwg).trans lk_eq)
theorem fx_last : (fldsX vo G W vl).lookup ("last" : Str) = some vl := (lk_ne xlo).trans ((lk_ne xlg).trans ((lk_ne xlw).trans lk_eq))
theorem fp_going : putF "going" (.ref G') (fldsX vo G W vl) = fldsX vo G' W vl := by
  unfold fldsX
  rw [putF_ne xog, putF_eq]
theorem fp_waiting : putF "waiting" (.ref G') (fldsX vo G W vl) = fldsX vo G G' vl := by
  unfold fldsX
  rw [putF_ne xow, putF_ne xgw, putF_eq]
theorem fp_last : putF "last" v (fldsX vo G W vl) = fldsX vo G W v := by
  unfold fldsX
  rw [putF_ne xol, putF_ne xgl, putF_ne xwl, putF_eq]
end
theorem lenF1 {f : Str} {v : V} {fs : List (Str × V)} {n : Nat} (h : fs.length ≤ n) : (putF f v fs).length ≤ n + 1 := Nat.le_trans (length_putF f v fs) (Nat.succ_le_succ h)
theorem lenF {f : Str} {v : V} {fs : List (Str × V)} {n : Nat} (h : fs.length ≤ n) (hn : n + 1 < 1000) : (putF f v fs).length < 1000 := Nat.lt_of_le_of_lt (lenF1 h) hn
/-- a list of items -/
structure LstI (K : PySem.W.Frag) (os : List (Nat × Bool)) (H : Hp) (G : Addr) (zs : List Z) (gq : List Pr) : Prop where
  g : H G = some (.lst (zs.map (·.1)))
  gd : zs.map (·.2) = gq.map (itemD os)
  zd : ∀ z ∈ zs, Dp K H z.1 z.2
def LastV (K : PySem.W.Frag) (os : List (Nat × Bool)) (H : Hp) (vl : V) (lq : Option Pr) : Prop := (vl = .non ∧ lq = none) ∨ ∃ l a, lq = some l ∧ vl = .ref a ∧ SqT K H a ((rankOf os l).map V.int)
structure ExAt (K : PySem.W.Frag) (C : Addr) (ks : List Bool) (os : List (Nat × Bool)) (H0 H : Hp) (x G W : Addr) (gq ww : List Pr) (lq : Option Pr) : Prop where
  same : Same H0 H
  x0 : H0 x = none
  g0 : H0 G = none
  w0 : H0 W = none
  gw : G ≠ W
  oz : os.length ≤ 1000
  ob : ∃ dx vo vl, H x = some (.ins C dx (fldsX vo G W vl)) ∧ Dp K H0 vo (orderD os) ∧ LastV K os H vl lq
  g : ∃ zs : List Z, LstI K os H G zs gq ∧ From ltz zs.length (nth zs) 0
  w : ∃ zs : List Z, LstI K os H W zs ww
  gok : RowsOk os ks gq
  wok : RowsOk os ks ww
/-- all but x, G and W stays -/
def Frx (H H' : Hp) (x G W : Addr) : Prop := ∀ b o, H b = some o → b ≠ x → b ≠ G → b ≠ W → H' b = some o
section
variable {K : PySem.W.Frag} {C : Addr} {ks : List Bool} {os : List (Nat × Bool)} {H0 H H2 : Hp} {x G W : Addr} {zs : List Z} {gq ww : List Pr} {lq : Option Pr} {vl : V}
theorem Frx.refl : Frx H H x G W := fun _ _ e _ _ _ => e
theorem Frx.trans {H1 : Hp} (a : Frx H H1 x G W) (b : Frx H1 H2 x G W) : Frx H H2 x G W := fun c o e n1 n2 n3 => b c o (a c o e n1 n2 n3) n1 n2 n3
theorem Frx.of (s : Same H H2) : Frx H H2 x G W := fun c o e _ _ _ => s c o e
theorem Frx.updG {o : HO} : Frx H (upd H G o) x G W := fun c o e _ n _ => (upd_ne n).trans e
theorem Frx.updW {o : HO} : Frx H (upd H W o) x G W := fun c o e _ _ n => (upd_ne n).trans e
theorem Frx.updx {o : HO} : Frx H (upd H x o) x G W := fun c o e n _ _ => (upd_ne n).trans e
theorem LstI.len (h : LstI K os H G zs gq) : zs.length = gq.length := by
  have := congrArg List.length h.gd
  simpa using this
theorem LstI.zq (h : LstI K os H G zs gq) {z : Z} (hz : z ∈ zs) : ∃ q ∈ gq, z.2 = itemD os q := zmem h.gd hz
theorem LstI.move (h : LstI K os H G zs gq) (ok : RowsOk os ks gq) (k : KpS H H2) (e : H2 G = some (.lst (zs.map (·.1)))) : LstI K os H2 G zs gq := ⟨e, h.gd, fun z hz => by
  obtain ⟨q, hq, e'⟩ := h.zq hz
  exact dp_kp k _ (by rw [e']; exact item_noL (ok q hq).2) (h.zd z hz)⟩
theorem LstI.good (h : LstI K os H G zs gq) (ok : RowsOk os ks gq) : HQ.Good K H G zs := good_of h.g h.gd h.zd fun q hq => (ok q hq).2
theorem LstI.put (h : LstI K os H G zs gq) {u : V} {q : Pr} (hu : Dp K H u (itemD os q)) (ok : RowsOk os ks gq) (hq : isRow ks (.tuple q.2) = true) : LstI K os (upd H G (.lst ((zs ++ [(u, itemD os q)]).map (·.1)))) G (zs ++ [(u, itemD os q)]) (gq ++ [q]) := by
  refine ⟨upd_same, by rw [List.map_append, h.gd, List.map_append]; rfl, fun z hz => ?_⟩
  rcases List.mem_append.mp hz with hz | hz
  · obtain ⟨q', hq', e⟩ := h.zq hz
    exact dp_upd h.g _ (by rw [e]; exact item_noL (ok q' hq').2) (h.zd z hz)
  · rw [List.mem_singleton.mp hz]
    exact dp_upd h.g _ (item_noL hq) hu
theorem LastV.move (h : LastV K os H vl lq) (k : KpS H H2) : LastV K os H2 vl lq := by
  rcases h with h | ⟨l, a, e1, e2, h⟩
  · exact .inl h
  · exact .inr ⟨l, a, e1, e2, sqT_kp k h⟩
theorem ExAt.kp (h : ExAt K C ks os H0 H x G W gq ww lq) (f : Frx H H2 x G W) : KpS H H2 := fun b o e n1 n2 => by
  obtain ⟨dx, vo, vl, hx, _⟩ := h.ob
  obtain ⟨zs, hg, _⟩ := h.g
  obtain ⟨zw, hw⟩ := h.w
  exact f b o e (fun z => by rw [z, hx] at e; exact n2 _ _ _ (Option.some.inj e).symm) (fun z => by rw [z, hg.g] at e; exact n1 _ (Option.some.inj e).symm) (fun z => by rw [z, hw.g] at e; exact n1 _ (Option.some.inj e).symm)
theorem ExAt.same2 (h : ExAt K C ks os H0 H x G W gq ww lq) (f : Frx H H2 x G W) : Same H0 H2 := fun b o e => f b o (h.same b o e) (ne_of_none e h.x0) (ne_of_none e h.g0) (ne_of_none e h.w0)
/-- other things come or change -/
theorem ExAt.grow (h : ExAt K C ks os H0 H x G W gq ww lq) (s : Same H H2) : ExAt K C ks os H0 H2 x G W gq ww lq := by
  obtain ⟨dx, vo, vl, hx, ho, hl⟩ := h.ob
  obtain ⟨zs, hg, F⟩ := h.g
  obtain ⟨zw, hw⟩ := h.w
  exact ⟨h.same.trans s, h.x0, h.g0, h.w0, h.gw, h.oz, ⟨dx, vo, vl, s _ _ hx, ho, hl.move (.of s)⟩, ⟨zs, hg.move h.gok (.of s) (s _ _ hg.g), F⟩, ⟨zw, hw.move h.wok (.of s) (s _ _ hw.g)⟩, h.gok, h.wok⟩
theorem ExAt.nex (h : ExAt K C ks os H0 H x G W gq ww lq) {a : Addr} {xs : List V} (e : H a = some (.lst xs)) : a ≠ x := fun z => by
  obtain ⟨dx, vo, vl, hx, _⟩ := h.ob
  rw [z, hx] at e
  cases e
theorem ExAt.upd_ (h : ExAt K C ks os H0 H x G W gq ww lq) {a : Addr} {xs u : List V} (e : H a = some (.lst xs)) (h0 : H0 a = none) (nG : a ≠ G) (nW : a ≠ W) : ExAt K C ks os H0 (upd H a (.lst u)) x G W gq ww lq := by
  obtain ⟨dx, vo, vl, hx, ho, hl⟩ := h.ob
  obtain ⟨zs, hg, F⟩ := h.g
  obtain ⟨zw, hw⟩ := h.w
  have k : KpS H (upd H a (.lst u)) := .lst e
  exact ⟨fun b o q => (upd_ne (ne_of_none q h0)).trans (h.same b o q), h.x0, h.g0, h.w0, h.gw, h.oz, ⟨dx, vo, vl, (upd_ne (Ne.symm (h.nex e))).trans hx, ho, hl.move k⟩, ⟨zs, hg.move h.gok k ((upd_ne (Ne.symm nG)).trans hg.g), F⟩, ⟨zw, hw.move h.wok k ((upd_ne (Ne.symm nW)).trans hw.g)⟩, h.gok, h.wok⟩
/-- a new one -/
theorem ExAt.new {dx : Addr} {vo : V} (s : Same H0 H) (x0 : H0 x = none) (g0 : H0 G = none) (w0 : H0 W = none) (gw : G ≠ W) (oz : os.length ≤ 1000) (ho : Dp K H0 vo (orderD os)) (hx : H x = some (.ins C dx (fldsX vo G W .non))) (hg : H G = some (.lst [])) (hw : H W = some (.lst [])) :
    ExAt K C ks os H0 H x G W [] [] none :=
  ⟨s, x0, g0, w0, gw, oz, ⟨dx, vo, .non, hx, ho, .inl ⟨rfl, rfl⟩⟩, ⟨[], ⟨hg, rfl, fun _ h => nomatch h⟩, .few (by decide)⟩, ⟨[], hw, rfl, fun _ h => nomatch h⟩, (fun _ h => nomatch h), (fun _ h => nomatch h)⟩
end
/-! ### the promises -/
def spXInit (C : Addr) : Sp := fun vs H Q _ => ∃ (x dx : Addr) (vo : V), vs = [.ref x, vo] ∧ H x = some (.ins C dx []) ∧
  ∀ (H' : Hp) (G W : Addr), H G = none → H W = none → G ≠ W → H' x = some (.ins C dx (fldsX vo G W .non)) → H' G = some (.lst []) → H' W = some (.lst []) → (∀ b o, H b = some o → b ≠ x → H' b = some o) → Q .non H'
def Into (lt : Pr → Pr → Bool) (lq : Option Pr) (q : Pr) (gq ww gq' ww' : List Pr) : Prop :=
  (∃ l, lq = some l ∧ lt q l = true ∧ gq' = gq ∧ ww' = ww ++ [q]) ∨ ((∀ l, lq = some l → lt q l = false) ∧ gq'.Perm (q :: gq) ∧ ww' = ww)
def spLetIn (K : PySem.W.Frag) (C : Addr) : Sp := fun vs H Q _ => ∃ (x G W : Addr) (vt : V) (ks : List Bool) (os : List (Nat × Bool)) (H0 : Hp) (gq ww : List Pr) (lq : Option Pr) (q : Pr), vs = [.ref x, vt] ∧ ExAt K C ks os H0 H x G W gq ww lq ∧ Dp K H vt (pairD q) ∧ Fits os q.2 ∧ isRow ks (.tuple q.2) = true ∧ gq.length + ww.length ≤ 900 ∧
  ∀ (H' : Hp) (gq' ww' : List Pr), ExAt K C ks os H0 H' x G W gq' ww' lq → Into (before os) lq q gq ww gq' ww' → Frx H H' x G W → Q .non H'
def spLetOut (K : PySem.W.Frag) (C : Addr) : Sp := fun vs H Q _ => ∃ (x G W : Addr) (ks : List Bool) (os : List (Nat × Bool)) (H0 : Hp) (gq ww : List Pr) (lq : Option Pr), vs = [.ref x] ∧ ExAt K C ks os H0 H x G W gq ww lq ∧ gq ≠ [] ∧
  ∀ (H' : Hp) (v : V) (q : Pr) (gq' : List Pr), ExAt K C ks os H0 H' x G W gq' ww (some q) → gq.Perm (q :: gq') → (∀ y ∈ gq', before os y q = false) → Dp K H' v (pairD q) → Frx H H' x G W → Q v H'
def spIsOver (K : PySem.W.Frag) (C : Addr) : Sp := fun vs H Q _ => ∃ (x G W : Addr) (ks : List Bool) (os : List (Nat × Bool)) (H0 : Hp) (gq ww : List Pr) (lq : Option Pr), vs = [.ref x] ∧ ExAt K C ks os H0 H x G W gq ww lq ∧ Q (.bl gq.isEmpty) H
def spHolds (K : PySem.W.Frag) (C : Addr) : Sp := fun vs H Q _ => ∃ (x G W : Addr) (ks : List Bool) (os : List (Nat × Bool)) (H0 : Hp) (gq ww : List Pr) (lq : Option Pr), vs = [.ref x] ∧ ExAt K C ks os H0 H x G W gq ww lq ∧ Q (.int ((gq.length + ww.length : Nat) : Int)) H
def spNext (K : PySem.W.Frag) (C : Addr) : Sp := fun vs H Q _ => ∃ (x G W : Addr) (ks : List Bool) (os : List (Nat × Bool)) (H0 : Hp) (gq ww : List Pr) (lq : Option Pr), vs = [.ref x] ∧ ExAt K C ks os H0 H x G W gq ww lq ∧ ww.length ≤ 1000 ∧
  ∀ (H' : Hp) (W' : Addr) (gq' : List Pr), ExAt K C ks os H0 H' x W W' gq' [] none → gq'.Perm ww → H W' = none → Frx H H' x G W → Q .non H'
/-- the class as the top has made it -/
structure TxX (K : PySem.W.Frag) (C : Addr) : Prop where
  cl : Cls K C
  nO : NoAttr K C "order"
  nG : NoAttr K C "going"
  nW : NoAttr K C "waiting"
  nL : NoAttr K C "last"
/-- a method as it stands -/
structure MethAt (K : PySem.W.Frag) (C : Addr) (m qual : Str) (st : Stmt) (f : Addr) (fd : FuncData) : Prop where
  me : Meth K C m f
  fn : L2.Fun K m qual st f fd
section
variable {P : Program} {w : World} {K : PySem.W.Frag} {mg : Str → Option Value} {base : Heap}
theorem scXInit : FnScope ["self", "order"] ["self", "order"] (defScope sXInit) := ⟨rfl, rfl, rfl, by decide +kernel, rfl, by decide +kernel, by decide +kernel⟩
theorem xinit_ok {f C : Addr} {fd : FuncData} (M : Mk K C f) (F : L2.Fun K "__init__" "Exchange.__init__" sXInit f fd) (X : TxX K C) (hm : mg "Exchange" = some (.ref C)) : MakC P w K mg base CX0 1 "Exchange" C ["self", "order"] (spXInit C) := by
  have sc := scXInit
  refine ⟨f, fd, M, ?_, hm, F.binds (fun _ _ _ _ _ _ us hl => match us, hl with | [_, _], _ => rfl)⟩
  refine F.ok sc (fun vs H Q E h => ?_) (fun cdv A outer s H vs Q E hr h => ?_)
  · obtain ⟨x, dx, vo, rfl, _⟩ := h
    rfl
  · obtain ⟨x, dx, vo, rfl, hx, k⟩ := h
    refine ⟨_, (pss_cons (ps_fld (pv 0) (pv 1) rfl) (pss_cons (ps_fld (pv 0) (pe_lst pa_nil) rfl) (pss_cons (ps_fld (pv 0) (pe_lst pa_nil) rfl) (pss_one (ps_fld (pv 0) pe_non rfl))))), ?_⟩
    refine ⟨_, rfl, _, rfl, x, C, dx, _, rfl, hx, X.cl, X.nO, by decide, ?_⟩
    refine ⟨Nat.zero_le _, fun G hG => ⟨_, rfl, x, C, dx, putF "order" vo [], rfl, ?_, X.cl, X.nG, (by show 1 < 1000; decide), ?_⟩⟩
    · rw [upd_ne (fun z => by rw [← z, upd_same] at hG; cases hG), upd_same]
    have hG0 := upd_no hG
    have nxG : x ≠ G := ne_of_none hx hG0
    refine ⟨Nat.zero_le _, fun W hW => ⟨_, rfl, x, C, dx, putF "going" (.ref G) (putF "order" vo []), rfl, ?_, X.cl, X.nW, (lenF (n := 1) (by show 1 ≤ 1; decide) (by decide)), ?_⟩⟩
    · rw [upd_ne (fun z => by rw [← z, upd_same] at hW; cases hW), upd_same]
    have hW1 := upd_no hW
    have nGW : G ≠ W := fun z => by rw [← z, upd_same] at hW1; cases hW1
    have hW0 := upd_no (upd_no hW1)
    have nxW : x ≠ W := ne_of_none hx hW0
    refine ⟨_, rfl, x, C, dx, putF "waiting" (.ref W) (putF "going" (.ref G) (putF "order" vo [])), rfl, upd_same, X.cl, X.nL, (lenF (n := 2) (lenF1 (n := 1) (by show 1 ≤ 1; decide)) (by decide)), ?_⟩
    refine k _ G W hG0 hW0 nGW ?_ ?_ ?_ fun b o e nb => ?_
    · rw [upd_same]
      exact congrArg (fun l => some (HO.ins C dx l)) (by
        show putF "last" .non (putF "waiting" (.ref W) (putF "going" (.ref G) [(("order" : Str), vo)])) = _
        rw [putF_ne xog]
        show putF "last" .non (putF "waiting" (.ref W) [(("order" : Str), vo), ("going", .ref G)]) = _
        rw [putF_ne xow, putF_ne xgw]
        show putF "last" .non [(("order" : Str), vo), ("going", .ref G), ("waiting", .ref W)] = _
        rw [putF_ne xol, putF_ne xgl, putF_ne xwl]
        rfl)
    · rw [upd_ne (Ne.symm nxG), upd_ne (Ne.symm nxG), upd_ne nGW, upd_ne (Ne.symm nxG), upd_same]
    · rw [upd_ne (Ne.symm nxW), upd_ne (Ne.symm nxW), upd_same]
    · rw [upd_ne nb, upd_ne nb, upd_ne (ne_of_none e hW0), upd_ne nb, upd_ne (ne_of_none e hG0), upd_ne nb]
      exact e
end
end RS
set_option Elab.async false
set_option maxRecDepth 100000
set_option maxHeartbeats 4000000
namespace RS
open PySem PySem.Spec PyProof.Rows L2 GX HQ
section
variable {P : Program} {w : World} {K : PySem.W.Frag} {mg : Str → Option Value} {base : Heap}
theorem lno {vo vl : V} {G W : Addr} {m : Str} (h1 : ¬ m = "order") (h2 : ¬ m = "going") (h3 : ¬ m = "waiting") (h4 : ¬ m = "last") : (fldsX vo G W vl).lookup m = none :=
  (lk_ne h1).trans ((lk_ne h2).trans ((lk_ne h3).trans ((lk_ne h4).trans rfl)))
theorem l_upd {H : Hp} {a : Addr} {o : HO} {P : HO → Prop} (h : ∀ o', H a = some o' → P o') : True := True.intro
theorem tuple_item {K : PySem.W.Frag} {H : Hp} {u : V} {os : List (Nat × Bool)} {q : Pr} (h : Dp K H u (itemD os q)) : ∃ a vr vt, u = .ref a ∧ SqT K H a [vr, vt] ∧ Dp K H vr (intsD (rankOf os q)) ∧ Dp K H vt (pairD q) := by
  cases h with
  | @tup a xs _ hS hI =>
    cases hI with
    | @cons vR _ _ _ h1 hI =>
      cases hI with
      | @cons vT _ _ _ h2 hI =>
        cases hI
        exact ⟨_, _, _, rfl, hS, h1, h2⟩
theorem scLetIn : FnScope ["self", "told", "entry"] ["self", "told"] (defScope sLetIn) := ⟨rfl, rfl, rfl, by decide +kernel, rfl, by decide +kernel, by decide +kernel⟩
theorem let_in_ok {f C : Addr} {fd : FuncData} (X : TxX K C) (M : MethAt K C "let_in" "Exchange.let_in" sLetIn f fd) (TQ : TxtQ mg) (cR : Cal P w K mg base CX0 2 "rank" ["order", "told"] (spRank K)) : MetC P w K mg base CX0 3 C "let_in" ["self", "told"] (spLetIn K C) := by
  have sc := scLetIn
  refine ⟨f, fd, X.cl, M.me, ?_, M.fn.binds (fun _ _ _ _ _ _ us hl => match us, hl with | [_, _], _ => rfl)⟩
  refine M.fn.ok sc (fun vs H Q E h => ?_) (fun cdv A outer s H vs Q E hr h => ?_)
  · obtain ⟨x, G, W, vt, ks, os, H0, gq, ww, lq, q, rfl, _⟩ := h
    rfl
  · obtain ⟨x, G, W, vt, ks, os, H0, gq, ww, lq, q, rfl, ex, ht, hf, hq, hsz, k⟩ := h
    have hu := hr.units
    have hu0 := hr.units0
    obtain ⟨dx, vo, vl, hx, ho, hl⟩ := ex.ob
    refine ⟨_, (pss_cons (ps_set (i := 2) sc.nd rfl (Or.inl rfl) (pe_tup (pa_cons (pe_c cR hr (by decide) (by rfl) pass0 (pa_cons (pe_fld (pv 0) rfl) (pa_cons (pv 1) pa_nil))) (pa_cons (pv 1) pa_nil)))) (pss_one (ps_if ((pw_and (pt_cmp (pc_notN (pe_fld (pv 0) rfl))) (pw_and1 (pt_cmpR (op_ltT hu0) (pe_ix ix_tup (pv 2) pe_int (fun _ _ => rfl)) (pe_fld (pv 0) rfl) (nomark _)))).pt) (pss_one (ps_expr (pe_bm PySem.F.plainAttrs_list PySem.F.slot_list_append PySem.F.type_list_append mt_append (pe_fld (pv 0) rfl) (pa_cons (pv 2) pa_nil)))) (pss_one (ps_expr (pe_callBfun (call_push hu) (by rfl) TQ.push (pa_cons (pe_fld (pv 0) rfl) (pa_cons (pv 2) pa_nil)))))))), ?_⟩
    refine ⟨_, rfl, x, C, dx, _, _, rfl, hx, X.cl, X.nO, fx_order, _, rfl, vo, vt, os, q, rfl, dp_same ex.same _ ho, ht, ex.oz, hf, fun H1 p1 s1 hp1 hL1 => ?_⟩
    refine ⟨_, rfl, by show 2 ≤ sizeLine; decide, fun p2 hp2 => ?_⟩
    obtain ⟨H2, eH2⟩ : ∃ H2 : Hp, H2 = upd H1 p2 (.tup [.ref p1, vt]) := ⟨_, rfl⟩
    have s2 : Same H H2 := fun b o e => by
      rw [eH2, upd_ne (ne_of_none (s1 _ _ e) hp2)]
      exact s1 _ _ e
    have n12 : p1 ≠ p2 := fun z => by rw [← z, hL1] at hp2; cases hp2
    have gp1 : H2 p1 = some (.tup ((rankOf os q).map V.int)) := by rw [eH2, upd_ne n12]; exact hL1
    have gp2 : H2 p2 = some (.tup [.ref p1, vt]) := by rw [eH2, upd_same]
    have hI : Dp K H2 (.ref p2) (itemD os q) := .tup (SqT.of gp2) (.cons (ints_dp (SqT.of gp1)) (.cons (dp_same s2 _ ht) .nil))
    have ex2 := ex.grow s2
    have hx2 := s2 _ _ hx
    rw [← eH2]
    clear eH2
    refine ⟨_, rfl, x, C, dx, _, _, rfl, hx2, X.cl, X.nL, fx_last, _, rfl, ?_⟩
    have goingWay : (∀ l, lq = some l → before os q l = false) → ∀ σ : L2.St, σ[0]? = some (some (.ref x)) → σ[2]? = some (some (.ref p2)) → True := fun _ _ _ _ => True.intro
    obtain ⟨zs, hg, F⟩ := ex2.g
    obtain ⟨zw, hw⟩ := ex2.w
    have lg := hg.len
    have lw := hw.len
    have push : (∀ l, lq = some l → before os q l = false) → ∀ ys : List Z, ys.Perm (zs ++ [(.ref p2, itemD os q)]) → From ltz ys.length (nth ys) 0 → Q .non (hp H2 G ys) := fun hno ys py F2 => by
      have gd2 : HQ.Good K H2 G (zs ++ [(.ref p2, itemD os q)]) := good_of (l := gq ++ [q]) hg.g (by rw [List.map_append, hg.gd, List.map_append]; rfl) (fun z hz => by
        rcases List.mem_append.mp hz with hz | hz
        · exact hg.zd z hz
        · rw [List.mem_singleton.mp hz]; exact hI) (fun z hz => by
        rcases List.mem_append.mp hz with hz | hz
        · exact (ex.gok z hz).2
        · rw [List.mem_singleton.mp hz]; exact hq)
      have p2' : ((gq ++ [q]).map (itemD os)).Perm (ys.map (·.2)) := by
        rw [List.map_append, ← hg.gd]
        have := (py.map (·.2)).symm
        rw [List.map_append] at this
        exact this
      obtain ⟨gq', pl, el⟩ := perm_unmap p2' (gq ++ [q]) rfl
      have pq : gq'.Perm (q :: gq) := pl.symm.trans (List.perm_append_comm (l₁ := gq) (l₂ := [q]))
      have fr : Frx H2 (hp H2 G ys) x G W := Frx.updG
      have kp := ex2.kp fr
      refine k _ gq' ww ⟨ex2.same2 fr, ex.x0, ex.g0, ex.w0, ex.gw, ex.oz, ⟨dx, vo, vl, ?_, ho, (hl.move (.of s2)).move kp⟩, ⟨ys, ⟨upd_same, el.symm, fun z hz => gd2.dp z (py.mem_iff.mp hz) _⟩, F2⟩, ⟨zw, hw.move ex.wok kp ((upd_ne (Ne.symm ex.gw)).trans hw.g)⟩, fun y hy => ?_, ex.wok⟩ (.inr ⟨hno, pq, rfl⟩) ((Frx.of s2).trans fr)
      · exact (upd_ne (fun z => by rw [z, hg.g] at hx2; cases hx2)).trans hx2
      · rcases List.mem_cons.mp (pq.mem_iff.mp hy) with e | hy
        · rw [e]; exact ⟨hf, hq⟩
        · exact ex.gok y hy
    rcases hl with ⟨rfl, rfl⟩ | ⟨l, aL, rfl, rfl, hLs⟩
    · refine iteF ?_
      refine iteF ?_
      refine ⟨_, rfl, x, C, dx, _, _, rfl, hx2, X.cl, X.nG, fx_going, _, rfl, G, zs, (.ref p2, itemD os q), rfl, hg.g, ?_, small1000 (by omega), F, fun ys py F2 => push (fun l h => nomatch h) ys py F2⟩
      exact good_of (l := gq ++ [q]) hg.g (by rw [List.map_append, hg.gd, List.map_append]; rfl) (fun z hz => by
        rcases List.mem_append.mp hz with hz | hz
        · exact hg.zd z hz
        · rw [List.mem_singleton.mp hz]; exact hI) (fun z hz => by
        rcases List.mem_append.mp hz with hz | hz
        · exact (ex.gok z hz).2
        · rw [List.mem_singleton.mp hz]; exact hq)
    · refine iteT ?_
      refine ⟨_, rfl, p2, _, _, _, rfl, rfl, SqT.of gp2, atI_nat (j := 0) rfl, _, rfl, x, C, dx, _, _, rfl, hx2, X.cl, X.nL, fx_last, p1, aL, _, _, rfl, rfl, SqT.of gp1, sqT_same s2 hLs, _, rfl, ?_⟩
      refine ite2 (fun hb => ?_) (fun hb => ?_)
      · refine ⟨_, rfl, x, C, dx, _, _, rfl, hx2, X.cl, X.nW, fx_waiting, .inl ⟨rfl, _, SqL.of hw.g⟩, _, rfl, W, _, _, rfl, rfl, hw.g, small1000 (by rw [List.length_map]; omega), ?_⟩
        have put := hw.put hI ex.wok hq
        rw [List.map_append] at put
        have fr : Frx H2 (upd H2 W (.lst (zw.map (·.1) ++ [.ref p2]))) x G W := Frx.updW
        have kp := ex2.kp fr
        refine k _ gq (ww ++ [q]) ⟨ex2.same2 fr, ex.x0, ex.g0, ex.w0, ex.gw, ex.oz, ⟨dx, vo, .ref aL, ?_, ho, .inr ⟨l, aL, rfl, rfl, sqT_kp kp (sqT_same s2 hLs)⟩⟩, ⟨zs, hg.move ex.gok kp ((upd_ne ex.gw).trans hg.g), F⟩, ⟨_, put⟩, ex.gok, fun y hy => ?_⟩ (.inl ⟨l, rfl, hb, rfl, rfl⟩) ((Frx.of s2).trans fr)
        · exact (upd_ne (fun z => by rw [z, hw.g] at hx2; cases hx2)).trans hx2
        · rcases List.mem_append.mp hy with hy | hy
          · exact ex.wok y hy
          · rw [List.mem_singleton.mp hy]; exact ⟨hf, hq⟩
      · refine ⟨_, rfl, x, C, dx, _, _, rfl, hx2, X.cl, X.nG, fx_going, _, rfl, G, zs, (.ref p2, itemD os q), rfl, hg.g, ?_, small1000 (by omega), F, fun ys py F2 => push (fun l' h => by
          cases h
          cases e : before os q l with
          | false => rfl
          | true => exact absurd e hb) ys py F2⟩
        exact good_of (l := gq ++ [q]) hg.g (by rw [List.map_append, hg.gd, List.map_append]; rfl) (fun z hz => by
          rcases List.mem_append.mp hz with hz | hz
          · exact hg.zd z hz
          · rw [List.mem_singleton.mp hz]; exact hI) (fun z hz => by
          rcases List.mem_append.mp hz with hz | hz
          · exact (ex.gok z hz).2
          · rw [List.mem_singleton.mp hz]; exact hq)
theorem scLetOut : FnScope ["self", "told"] ["self"] (defScope sLetOut) := ⟨rfl, rfl, rfl, by decide +kernel, rfl, by decide +kernel, by decide +kernel⟩
theorem let_out_ok {f C : Addr} {fd : FuncData} (X : TxX K C) (M : MethAt K C "let_out" "Exchange.let_out" sLetOut f fd) (TQ : TxtQ mg) : MetC P w K mg base CX0 1 C "let_out" ["self"] (spLetOut K C) := by
  have sc := scLetOut
  refine ⟨f, fd, X.cl, M.me, ?_, M.fn.binds (fun _ _ _ _ _ _ us hl => match us, hl with | [_], _ => rfl)⟩
  refine M.fn.ok sc (fun vs H Q E h => ?_) (fun cdv A outer s H vs Q E hr h => ?_)
  · obtain ⟨x, G, W, ks, os, H0, gq, ww, lq, rfl, _⟩ := h
    rfl
  · obtain ⟨x, G, W, ks, os, H0, gq, ww, lq, rfl, ex, hne, k⟩ := h
    have hu := hr.units
    obtain ⟨dx, vo, vl, hx, ho, hl⟩ := ex.ob
    obtain ⟨zs, hg, F⟩ := ex.g
    obtain ⟨zw, hw⟩ := ex.w
    have lg := hg.len
    refine ⟨_, (pss_cons (ps_asg (pe_callBfun (call_popH hu) (by rfl) TQ.pop (pa_cons (pe_fld (pv 0) rfl) pa_nil)) (pg_tup (by rfl) (pgs_cons (pg_fld (pv 0)) (pgs_cons (pg_name (i := 1) sc.nd rfl (Or.inl rfl)) pgs_nil)))) (pss_one (ps_ret (pv 1)))), ?_⟩
    have gd := hg.good ex.gok
    refine ⟨_, rfl, x, C, dx, _, _, rfl, hx, X.cl, X.nG, fx_going, G, zs, rfl, hg.g, ?_, gd, F, fun z ys p F2 m => ?_⟩
    · cases gq with
      | nil => exact absurd rfl hne
      | cons a l => rw [lg]; exact Nat.succ_pos _
    have p2 : (gq.map (itemD os)).Perm (z.2 :: ys.map (·.2)) := by
      rw [← hg.gd]
      exact p.map _
    obtain ⟨l, pl, el⟩ := perm_unmap p2 gq rfl
    cases l with
    | nil => cases el
    | cons q gq' =>
      rw [List.map_cons] at el
      injection el with e1 e2
      have zin : z ∈ zs := p.mem_iff.mpr List.mem_cons_self
      have qin : q ∈ gq := pl.mem_iff.mpr List.mem_cons_self
      have yin : ∀ y ∈ ys, y ∈ zs := fun y hy => p.mem_iff.mpr (List.mem_cons_of_mem _ hy)
      have gin : ∀ y ∈ gq', y ∈ gq := fun y hy => pl.mem_iff.mpr (List.mem_cons_of_mem _ hy)
      have hz1 : Dp K (hp H G ys) z.1 (itemD os q) := by
        rw [e1]
        exact gd.dp z zin _
      obtain ⟨pz, vR, vT, ez, hS, h1, h2⟩ := tuple_item hz1
      obtain ⟨aR, rfl, hSR⟩ := dp_ints h1
      have nxG : x ≠ G := fun z => by rw [z, hg.g] at hx; cases hx
      have hx1 : hp H G ys x = some (.ins C dx (fldsX vo G W vl)) := (upd_ne nxG).trans hx
      refine ⟨pz, _, ez, hS, rfl, _, _, rfl, ?_⟩
      refine ⟨_, rfl, x, C, dx, _, rfl, hx1, X.cl, X.nL, (by show 4 < 1000; decide), ?_⟩
      refine ⟨_, _, rfl, rfl, ?_⟩
      refine ⟨_, rfl, ?_⟩
      rw [fp_last]
      have fr : Frx H (upd (hp H G ys) x (.ins C dx (fldsX vo G W (.ref aR)))) x G W := Frx.updG.trans Frx.updx
      have kp := ex.kp fr
      have kp2 : KpS (hp H G ys) (upd (hp H G ys) x (.ins C dx (fldsX vo G W (.ref aR)))) := .ins hx1
      refine k _ vT q gq' ⟨ex.same2 fr, ex.x0, ex.g0, ex.w0, ex.gw, ex.oz, ⟨dx, vo, .ref aR, upd_same, ho, .inr ⟨q, aR, rfl, rfl, sqT_kp kp2 hSR⟩⟩, ⟨ys, ⟨(upd_ne (Ne.symm nxG)).trans upd_same, e2.symm, fun y hy => ?_⟩, F2⟩, ⟨zw, hw.move ex.wok kp ?_⟩, fun y hy => ex.gok y (gin y hy), ex.wok⟩ pl (fun y hy => ?_) (dp_kp kp2 _ (pair_noL (ex.gok q qin).2) h2) fr
      · have q1 := gd.dp y (yin y hy) (ys.map (·.1))
        obtain ⟨q', hq', e'⟩ := hg.zq (yin y hy)
        exact dp_kp kp2 _ (by rw [e']; exact item_noL (ex.gok q' hq').2) q1
      · have nxW : x ≠ W := fun z => by rw [z, hw.g] at hx; cases hx
        exact (upd_ne (Ne.symm nxW)).trans ((upd_ne (Ne.symm ex.gw)).trans hw.g)
      · have : itemD os y ∈ ys.map (·.2) := by
          rw [← e2]
          exact List.mem_map.mpr ⟨y, hy, rfl⟩
        obtain ⟨t, ht, et⟩ := List.mem_map.mp this
        have q1 := m t ht
        unfold ltz at q1
        have et : t.2 = itemD os y := et
        rw [et, ← e1] at q1
        exact item_le q1
theorem scIsOver : FnScope ["self"] ["self"] (defScope sIsOver) := ⟨rfl, rfl, rfl, by decide +kernel, rfl, by decide +kernel, by decide +kernel⟩
theorem is_over_ok {f C : Addr} {fd : FuncData} (X : TxX K C) (M : MethAt K C "is_over" "Exchange.is_over" sIsOver f fd) : MetC P w K mg base CX0 1 C "is_over" ["self"] (spIsOver K C) := by
  have sc := scIsOver
  refine ⟨f, fd, X.cl, M.me, ?_, M.fn.binds (fun _ _ _ _ _ _ us hl => match us, hl with | [_], _ => rfl)⟩
  refine M.fn.ok sc (fun vs H Q E h => ?_) (fun cdv A outer s H vs Q E hr h => ?_)
  · obtain ⟨x, G, W, ks, os, H0, gq, ww, lq, rfl, _⟩ := h
    rfl
  · obtain ⟨x, G, W, ks, os, H0, gq, ww, lq, rfl, ex, k⟩ := h
    obtain ⟨dx, vo, vl, hx, ho, hl⟩ := ex.ob
    obtain ⟨zs, hg, F⟩ := ex.g
    refine ⟨_, (pss_one (ps_ret (pe_notT (pe_fld (pv 0) rfl)))), ?_⟩
    refine ⟨_, rfl, x, C, dx, _, _, rfl, hx, X.cl, X.nG, fx_going, _, .inl ⟨_, SqL.of hg.g, rfl⟩, ?_⟩
    have e : (!!(zs.map (·.1)).isEmpty) = gq.isEmpty := by
      have := hg.len
      cases zs <;> cases gq <;> simp at this ⊢
    rw [e]
    exact k
theorem scHolds : FnScope ["self"] ["self"] (defScope sHolds) := ⟨rfl, rfl, rfl, by decide +kernel, rfl, by decide +kernel, by decide +kernel⟩
theorem holds_ok {f C : Addr} {fd : FuncData} (X : TxX K C) (M : MethAt K C "holds" "Exchange.holds" sHolds f fd) (T : Txt K mg) : MetC P w K mg base CX0 1 C "holds" ["self"] (spHolds K C) := by
  have sc := scHolds
  refine ⟨f, fd, X.cl, M.me, ?_, M.fn.binds (fun _ _ _ _ _ _ us hl => match us, hl with | [_], _ => rfl)⟩
  refine M.fn.ok sc (fun vs H Q E h => ?_) (fun cdv A outer s H vs Q E hr h => ?_)
  · obtain ⟨x, G, W, ks, os, H0, gq, ww, lq, rfl, _⟩ := h
    rfl
  · obtain ⟨x, G, W, ks, os, H0, gq, ww, lq, rfl, ex, k⟩ := h
    obtain ⟨dx, vo, vl, hx, ho, hl⟩ := ex.ob
    obtain ⟨zs, hg, F⟩ := ex.g
    obtain ⟨zw, hw⟩ := ex.w
    have lg := hg.len
    have lw := hw.len
    refine ⟨_, (pss_one (ps_ret (pe_op op_add (pe_callB call_len_seq (by rfl) T.len PySem.boot_len (pa_cons (pe_fld (pv 0) rfl) pa_nil)) (pe_callB call_len_seq (by rfl) T.len PySem.boot_len (pa_cons (pe_fld (pv 0) rfl) pa_nil))))), ?_⟩
    refine ⟨_, rfl, x, C, dx, _, _, rfl, hx, X.cl, X.nG, fx_going, G, _, rfl, .inl (SqL.of hg.g), _, rfl, x, C, dx, _, _, rfl, hx, X.cl, X.nW, fx_waiting, W, _, rfl, .inl (SqL.of hw.g), _, _, rfl, rfl, ?_⟩
    rw [List.length_map, List.length_map, lg, lw]
    show Q (V.int ((gq.length : Int) + (ww.length : Int))) H
    rw [← Int.natCast_add]
    exact k
theorem scNext : FnScope ["self"] ["self"] (defScope sNext) := ⟨rfl, rfl, rfl, by decide +kernel, rfl, by decide +kernel, by decide +kernel⟩
theorem next_ok {f C : Addr} {fd : FuncData} (X : TxX K C) (M : MethAt K C "begin_next" "Exchange.begin_next" sNext f fd) (TQ : TxtQ mg) : MetC P w K mg base CX0 1 C "begin_next" ["self"] (spNext K C) := by
  have sc := scNext
  refine ⟨f, fd, X.cl, M.me, ?_, M.fn.binds (fun _ _ _ _ _ _ us hl => match us, hl with | [_], _ => rfl)⟩
  refine M.fn.ok sc (fun vs H Q E h => ?_) (fun cdv A outer s H vs Q E hr h => ?_)
  · obtain ⟨x, G, W, ks, os, H0, gq, ww, lq, rfl, _⟩ := h
    rfl
  · obtain ⟨x, G, W, ks, os, H0, gq, ww, lq, rfl, ex, hsz, k⟩ := h
    have hu := hr.units
    obtain ⟨dx, vo, vl, hx, ho, hl⟩ := ex.ob
    obtain ⟨zw, hw⟩ := ex.w
    have lw := hw.len
    have nxW : x ≠ W := fun z => by rw [z, hw.g] at hx; cases hx
    refine ⟨_, (pss_cons (ps_fld (pv 0) (pe_fld (pv 0) rfl) rfl) (pss_cons (ps_expr (pe_callBfun (call_heapify hu) (by rfl) TQ.heapify (pa_cons (pe_fld (pv 0) rfl) pa_nil))) (pss_cons (ps_fld (pv 0) (pe_lst pa_nil) rfl) (pss_one (ps_fld (pv 0) pe_non rfl))))), ?_⟩
    refine ⟨_, rfl, x, C, dx, _, _, rfl, hx, X.cl, X.nW, fx_waiting, _, rfl, x, C, dx, _, rfl, hx, X.cl, X.nG, (by show 4 < 1000; decide), ?_⟩
    rw [fp_going]
    have f1 : Frx H (upd H x (.ins C dx (fldsX vo W W vl))) x G W := Frx.updx
    have hw1 := hw.move ex.wok (ex.kp f1) ((upd_ne (Ne.symm nxW)).trans hw.g)
    have gd := hw1.good ex.wok
    refine ⟨_, rfl, x, C, dx, _, _, rfl, upd_same, X.cl, X.nG, fx_going, W, zw, rfl, hw1.g, gd, by omega, fun ys p F => ?_⟩
    have hx2 : hp (upd H x (.ins C dx (fldsX vo W W vl))) W ys x = some (.ins C dx (fldsX vo W W vl)) := (upd_ne nxW).trans upd_same
    refine ⟨Nat.zero_le _, fun W' hW' => ⟨_, rfl, x, C, dx, _, rfl, (upd_ne (fun z => by rw [← z, hx2] at hW'; cases hW')).trans hx2, X.cl, X.nW, (by show 4 < 1000; decide), ?_⟩⟩
    rw [fp_waiting]
    refine ⟨_, rfl, x, C, dx, _, rfl, upd_same, X.cl, X.nL, (by show 4 < 1000; decide), ?_⟩
    rw [fp_last]
    have hW'1 := upd_no hW'
    have hW'0 := upd_no hW'1
    have nWW : W ≠ W' := fun z => by rw [← z, hw.g] at hW'0; cases hW'0
    have nxW' : x ≠ W' := ne_of_none hx hW'0
    have fr : Frx H (upd (upd (upd (hp (upd H x (.ins C dx (fldsX vo W W vl))) W ys) W' (.lst [])) x (.ins C dx (fldsX vo W W' vl))) x (.ins C dx (fldsX vo W W' .non))) x G W := fun b o e n1 n2 n3 => by
      rw [upd_ne n1, upd_ne n1, upd_ne (ne_of_none e hW'0)]
      exact (upd_ne n3).trans ((upd_ne n1).trans e)
    have kp := ex.kp fr
    obtain ⟨gq', pl, el⟩ := perm_unmap (p.map (·.2)).symm ww hw.gd.symm
    refine k _ W' gq' ⟨ex.same2 fr, ex.x0, ex.w0, ex.same.free hW'0, nWW, ex.oz, ⟨dx, vo, .non, upd_same, ho, .inl ⟨rfl, rfl⟩⟩, ⟨ys, ⟨?_, el.symm, fun y hy => ?_⟩, F⟩, ⟨[], ?_, rfl, fun _ h => nomatch h⟩, fun q hq => ex.wok q (pl.mem_iff.mpr hq), (fun _ h => nomatch h)⟩ pl.symm hW'0 fr
    · rw [upd_ne (Ne.symm nxW), upd_ne (Ne.symm nxW), upd_ne nWW]
      exact upd_same
    · obtain ⟨q', hq', e'⟩ := hw.zq (p.mem_iff.mp hy)
      exact dp_kp kp _ (by rw [e']; exact item_noL (ex.wok q' hq').2) (hw.zd y (p.mem_iff.mp hy))
    · rw [upd_ne (Ne.symm nxW'), upd_ne (Ne.symm nxW'), upd_same]
      rfl
end
end RS
set_option Elab.async false
set_option maxRecDepth 100000
set_option maxHeartbeats 4000000
namespace RS
open PySem PySem.Spec PyProof.Rows L2 GX HQ
theorem cond_by {tc : TT} {σ : L2.St} {H : Hp} {Q : Bool → Hp → Prop} (b : Bool) (N : Hp → Prop) (h1 : ∀ Q' : Bool → Hp → Prop, (∀ H2, N H2 → Q' b H2) → tc σ H Q') (h2 : ∀ H2, N H2 → Q b H2) : tc σ H Q := h1 Q h2
theorem iteT' {b : Bool} {A B : Prop} (e : b = true) (h : A) : if b = true then A else B := by
  rw [if_pos e]
  exact h
theorem iteF' {b : Bool} {A B : Prop} (e : b = false) (h : B) : if b = true then A else B := by
  rw [if_neg (by rw [e]; decide)]
  exact h
/-! ### what is told: new lists of pairs -/
structure Runs (K : PySem.W.Frag) (ks : List Bool) (H H' : Hp) (as : List Addr) (rs : List (List (Nat × List PyData))) : Prop where
  len : as.length = rs.length
  nd : as.Nodup
  fresh : ∀ a ∈ as, H a = none
  at_ : ∀ (i : Nat) (a : Addr) (r : List (Nat × List PyData)), as[i]? = some a → rs[i]? = some r → ∃ x, H' a = some (.lst x) ∧ DpAll K H' x (r.map pairD)
  ok : ∀ r ∈ rs, ∀ q ∈ r, isRow ks (.tuple q.2) = true
section
variable {K : PySem.W.Frag} {ks : List Bool} {H H' : Hp} {as : List Addr} {rs : List (List (Nat × List PyData))}
theorem Runs.nil : Runs K ks H H' [] [] := ⟨rfl, .nil, (fun _ h => nomatch h), fun i a r h => by simp at h, (fun _ h => nomatch h)⟩
theorem Runs.tracked (R : Runs K ks H H' as rs) {a : Addr} (ha : a ∈ as) : ∃ x, H' a = some (.lst x) := by
  obtain ⟨i, hi, e⟩ := List.getElem_of_mem ha
  have hi2 : i < rs.length := by rw [← R.len]; exact hi
  obtain ⟨x, h, _⟩ := R.at_ i a rs[i] (by rw [List.getElem?_eq_getElem hi, e]) (List.getElem?_eq_getElem hi2)
  exact ⟨x, h⟩
theorem Runs.same {H2 : Hp} (R : Runs K ks H H' as rs) (s : Same H' H2) : Runs K ks H H2 as rs := ⟨R.len, R.nd, R.fresh, fun i a r h1 h2 => by
  obtain ⟨x, h, d⟩ := R.at_ i a r h1 h2
  exact ⟨x, s _ _ h, dpAll_same s _ d⟩, R.ok⟩
theorem Runs.upd_ (R : Runs K ks H H' as rs) {b : Addr} {xs u : List V} (hb : H' b = some (.lst xs)) (n : b ∉ as) : Runs K ks H (upd H' b (.lst u)) as rs := ⟨R.len, R.nd, R.fresh, fun i a r h1 h2 => by
  obtain ⟨x, h, d⟩ := R.at_ i a r h1 h2
  exact ⟨x, (upd_ne (fun z => n (by rw [← z]; exact List.mem_of_getElem? h1))).trans h, dpAll_upd hb _ (pairs_noL (R.ok r (List.mem_of_getElem? h2))) d⟩, R.ok⟩
theorem Runs.snoc (R : Runs K ks H H' as rs) {a : Addr} {r : List (Nat × List PyData)} {x : List V} (h : H' a = some (.lst x)) (d : DpAll K H' x (r.map pairD)) (hf : H a = none) (n : a ∉ as) (ok : ∀ q ∈ r, isRow ks (.tuple q.2) = true) : Runs K ks H H' (as ++ [a]) (rs ++ [r]) := by
  refine ⟨by simp [R.len], ?_, fun b hb => ?_, fun i b q h1 h2 => ?_, fun q hq => ?_⟩
  · refine List.nodup_append.mpr ⟨R.nd, by simp, fun x hx y hy => ?_⟩
    rw [List.mem_singleton.mp hy]
    exact fun z => n (by rw [← z]; exact hx)
  · rcases List.mem_append.mp hb with hb | hb
    · exact R.fresh b hb
    · rw [List.mem_singleton.mp hb]; exact hf
  · by_cases hi : i < as.length
    · rw [List.getElem?_append_left hi] at h1
      rw [List.getElem?_append_left (by rw [← R.len]; exact hi)] at h2
      exact R.at_ i b q h1 h2
    · have hi2 : i = as.length := by
        have := (List.getElem?_eq_some_iff.mp h1).1
        rw [List.length_append, List.length_singleton] at this
        omega
      subst hi2
      have e1 : (as ++ [a])[as.length]? = some a := by simp
      have e2 : (rs ++ [r])[as.length]? = some r := by rw [R.len]; simp
      rw [e1] at h1
      rw [e2] at h2
      cases h1
      cases h2
      exact ⟨x, h, d⟩
  · rcases List.mem_append.mp hq with hq | hq
    · exact R.ok q hq
    · rw [List.mem_singleton.mp hq]; exact ok
end
theorem row_fits {ks : List Bool} {os : List (Nat × Bool)} {r : List PyData} (h : isRow ks (.tuple r) = true) (o : OkOrder ks.length os) : Fits os r := fun p hp => by
  obtain ⟨hl, ha⟩ := isRow_iff.mp h
  have h1 := o.col p hp
  have h2 : p.1 < r.length := by omega
  obtain ⟨b, hv⟩ := row_val h (List.getElem_mem h2)
  exact ⟨b, _, List.getElem?_eq_getElem h2, hv⟩
theorem enumP_mem {α : Type} {l : List α} {k : Nat} {q : Nat × α} (h : q ∈ enumP k l) : q.2 ∈ l := by
  obtain ⟨i, hi, e⟩ := List.getElem_of_mem h
  have e2 : (enumP k l)[i]? = some q := by rw [List.getElem?_eq_getElem hi, e]
  rw [enumP_get] at e2
  cases q' : l[i]? with
  | none => rw [q'] at e2; cases e2
  | some x =>
    rw [q'] at e2
    cases e2
    exact List.mem_of_getElem? q'
section
variable {P : Program} {w : World} {K : PySem.W.Frag} {mg : Str → Option Value} {base : Heap}
theorem Handed.rowsOk {H : Hp} {vk vo vr : V} {ks : List Bool} {os : List (Nat × Bool)} {n : Int} {rs : List (List PyData)} (h : Handed K H vk vo vr ks os n rs) : RowsOk os ks (enumP 0 rs) := fun q hq => by
  have := (h.row q.2 (enumP_mem hq)).1
  exact ⟨row_fits this h.ok, this⟩
theorem cutV_upto {xs : List V} {k : Nat} : cutV xs none (some (k : Nat)) = xs.take k := by
  unfold cutV
  rw [HT.sIx_nat, HT.sIx_none, List.drop_zero, Nat.sub_zero]
  by_cases h : k ≤ xs.length
  · rw [Nat.min_eq_left h]
  · rw [Nat.min_eq_right (by omega), List.take_of_length_le (Nat.le_refl _), List.take_of_length_le (by omega)]
theorem cutV_from' {xs : List V} {k : Nat} : cutV xs (some (k : Nat)) none = xs.drop k := by
  by_cases h : k ≤ xs.length
  · exact cutV_from h
  · unfold cutV
    rw [HT.sIx_nat, HT.sIx_none, Nat.min_eq_right (by omega), List.drop_of_length_le (Nat.le_refl _), List.drop_of_length_le (by omega)]
    simp
theorem dpAll_take' {H : Hp} {xs : List V} {ds : List (Nat × List PyData)} (h : DpAll K H xs (ds.map pairD)) (n : Nat) : DpAll K H (xs.take n) ((ds.take n).map pairD) := by
  rw [List.map_take]
  exact dpAll_take h n
theorem dpAll_drop' {H : Hp} {xs : List V} {ds : List (Nat × List PyData)} (h : DpAll K H xs (ds.map pairD)) (n : Nat) : DpAll K H (xs.drop n) ((ds.drop n).map pairD) := by
  rw [List.map_drop]
  exact dpAll_drop h n
theorem scExchanged : FnScope ["kinds", "order", "size", "rows", "coming", "room", "came", "runs", "run"] ["kinds", "order", "size", "rows"] (defScope sExchanged) := ⟨rfl, rfl, rfl, by decide +kernel, rfl, by decide +kernel, by decide +kernel⟩
structure Exch (P : Program) (w : World) (K : PySem.W.Frag) (mg : Str → Option Value) (base : Heap) (C : Addr) : Prop where
  new : MakC P w K mg base CX0 1 "Exchange" C ["self", "order"] (spXInit C)
  inn : MetC P w K mg base CX0 3 C "let_in" ["self", "told"] (spLetIn K C)
  out : MetC P w K mg base CX0 1 C "let_out" ["self"] (spLetOut K C)
  over : MetC P w K mg base CX0 1 C "is_over" ["self"] (spIsOver K C)
  holds : MetC P w K mg base CX0 1 C "holds" ["self"] (spHolds K C)
  next : MetC P w K mg base CX0 1 C "begin_next" ["self"] (spNext K C)
def spExchanged (K : PySem.W.Frag) (pK pW pR : Addr) : Sp := fun vs H Q _ => ∃ (vk vo vr : V) (ks : List Bool) (os : List (Nat × Bool)) (n : Nat) (rs : List (List PyData)), vs = [vk, vo, .int (n : Nat), vr] ∧ Handed K H vk vo vr ks os n rs ∧ Tabs3 H pK pW pR ∧
  ∀ (H' : Hp) (p : Addr) (as : List Addr) (runs : List (List (Nat × List PyData))), Same H H' → H p = none → p ∉ as → H' p = some (.lst (as.map V.ref)) → Runs K ks H H' as runs → RunsTo (before os) ((enumP 0 rs).take n) ((enumP 0 rs).drop n) runs → runs.length ≤ 120 → Q (.ref p) H'
theorem RunsTo.permL {α : Type} {lt : α → α → Bool} {g g2 left : List α} {rs : List (List α)} (e : g2.Perm g) (h : RunsTo lt g left rs) : RunsTo lt g2 left rs := by
  cases h with
  | done =>
    have z := e.eq_nil
    subst z
    exact .done _
  | more hr t m => exact .more (fun z => hr (by rw [z] at e; exact e.symm.eq_nil)) (t.permL e) m
/-- lists of the caller's own beside a room -/
structure Own (K : PySem.W.Frag) (ks : List Bool) (H H' : Hp) (G W RS : Addr) (as : List Addr) (runs : List (List Pr)) : Prop where
  rs : H' RS = some (.lst (as.map V.ref))
  n : RS ∉ as
  g : RS ≠ G
  w : RS ≠ W
  R : Runs K ks H H' as runs
  a : ∀ a ∈ as, a ≠ G ∧ a ≠ W
theorem Runs.kp {ks : List Bool} {H H' H2 : Hp} {as : List Addr} {rs : List (List Pr)} (R : Runs K ks H H' as rs) (k : KpS H' H2) (e : ∀ a ∈ as, H2 a = H' a) : Runs K ks H H2 as rs := ⟨R.len, R.nd, R.fresh, fun i a r h1 h2 => by
  obtain ⟨x, h, d⟩ := R.at_ i a r h1 h2
  exact ⟨x, (e a (List.mem_of_getElem? h1)).trans h, dpAll_kp k _ (pairs_noL (R.ok r (List.mem_of_getElem? h2))) d⟩, R.ok⟩
section
variable {C : Addr} {ks : List Bool} {os : List (Nat × Bool)} {H0 H H' H2 : Hp} {x G W RS : Addr} {gq ww : List Pr} {lq : Option Pr} {as : List Addr} {runs : List (List Pr)}
theorem frx_at (ex : ExAt K C ks os H0 H' x G W gq ww lq) (f : Frx H' H2 x G W) {a : Addr} {xs : List V} (e : H' a = some (.lst xs)) (g : a ≠ G) (w : a ≠ W) : H2 a = some (.lst xs) := f a _ e (ex.nex e) g w
theorem Own.frx (o : Own K ks H H' G W RS as runs) (ex : ExAt K C ks os H0 H' x G W gq ww lq) (f : Frx H' H2 x G W) : Own K ks H H2 G W RS as runs :=
  ⟨frx_at ex f o.rs o.g o.w, o.n, o.g, o.w, o.R.kp (ex.kp f) fun a ha => by
    obtain ⟨y, hy⟩ := o.R.tracked ha
    rw [hy]
    exact frx_at ex f hy (o.a a ha).1 (o.a a ha).2, o.a⟩
theorem Own.same (o : Own K ks H H' G W RS as runs) (s : Same H' H2) : Own K ks H H2 G W RS as runs := ⟨s _ _ o.rs, o.n, o.g, o.w, o.R.same s, o.a⟩
theorem Own.upd_ (o : Own K ks H H' G W RS as runs) {b : Addr} {xs u : List V} (hb : H' b = some (.lst xs)) (n1 : b ≠ RS) (n2 : b ∉ as) : Own K ks H (upd H' b (.lst u)) G W RS as runs :=
  ⟨(upd_ne (Ne.symm n1)).trans o.rs, o.n, o.g, o.w, o.R.upd_ hb n2, o.a⟩
end
theorem exchanged_ok {c pK pW pR C : Addr} (D : DefAt K mg "exchanged" sExchanged c) (T : Txt K mg) (cN : Cal P w K mg base CX0 7 "numbered" ["kinds", "order", "size", "rows"] (spNumbered K pK pW pR)) (ce : Exch P w K mg base C) :
    Cal P w K mg base CX0 8 "exchanged" ["kinds", "order", "size", "rows"] (spExchanged K pK pW pR) := by
  have sc := scExchanged
  refine def_ok0 D sc (fun vs H Q E h => ?_) (fun _ _ _ _ _ _ us hl => match us, hl with | [_, _, _, _], _ => rfl) (fun f A outer s H vs Q E hr h => ?_)
  · obtain ⟨vk, vo, vr, ks, os, n, rs, rfl, _⟩ := h
    rfl
  · obtain ⟨vk, vo, vr, ks, os, n, rs, rfl, h, ht, k⟩ := h
    refine ⟨_, (pss_cons (ps_set (i := 4) sc.nd rfl (Or.inl rfl) (pe_c cN hr (by decide) (by rfl) pass0 (pa_cons (pv 0) (pa_cons (pv 1) (pa_cons (pv 2) (pa_cons (pv 3) pa_nil)))))) (pss_cons (ps_par (i := 5) (j := 6) rfl sc.nd rfl rfl (by decide) rfl rfl (pa_cons (pe_mk ce.new hr (by decide) (by rfl) pass0 (pa_cons (pv 1) pa_nil)) (pa_cons pe_int pa_nil)) (by rfl)) (pss_cons (ps_while PassesOwn.never ((pw_and (pt_cmpR op_lt (pv 6) (pe_callB call_len_seq (by rfl) T.len PySem.boot_len (pa_cons (pv 4) pa_nil)) (nomark _)) (pw_and1 (pt_cmpR op_lt (pv 6) (pv 2) (nomark _)))).pt) (pss_cons (ps_expr (pe_m ce.inn hr (by decide) pass0 (pv 5) (pa_cons (pe_ix ix_list (pv 4) (pv 6) (fun _ _ => rfl)) pa_nil))) (pss_one (ps_aug (i := 6) sc.nd rfl (Or.inl rfl) pe_int ip_add)))) (pss_cons (ps_set (i := 7) sc.nd rfl (Or.inl rfl) (pe_lst pa_nil)) (pss_cons (ps_while PassesOwn.never (pt_cmpR op_gt (pe_m0 ce.holds hr (by decide) pass0 (pv 5)) pe_int (nomark _)) (pss_cons (ps_set (i := 8) sc.nd rfl (Or.inl rfl) (pe_lst pa_nil)) (pss_cons (ps_while PassesOwn.never (pt_not (pt_val (pe_m0 ce.over hr (by decide) pass0 (pv 5)))) (pss_cons (ps_expr (pe_bm PySem.F.plainAttrs_list PySem.F.slot_list_append PySem.F.type_list_append mt_append (pv 8) (pa_cons (pe_m0 ce.out hr (by decide) pass0 (pv 5)) pa_nil))) (pss_one (ps_if (pt_cmpR op_lt (pv 6) (pe_callB call_len_seq (by rfl) T.len PySem.boot_len (pa_cons (pv 4) pa_nil)) (nomark _)) (pss_cons (ps_expr (pe_m ce.inn hr (by decide) pass0 (pv 5) (pa_cons (pe_ix ix_list (pv 4) (pv 6) (fun _ _ => rfl)) pa_nil))) (pss_one (ps_aug (i := 6) sc.nd rfl (Or.inl rfl) pe_int ip_add))) pss_nil)))) (pss_cons (ps_expr (pe_bm PySem.F.plainAttrs_list PySem.F.slot_list_append PySem.F.type_list_append mt_append (pv 7) (pa_cons (pv 8) pa_nil))) (pss_one (ps_expr (pe_m0 ce.next hr (by decide) pass0 (pv 5)))))))) (pss_one (ps_ret (pv 7)))))))), ?_⟩
    refine ⟨_, rfl, _, rfl, _, rfl, _, rfl, vk, vo, vr, ks, os, n, rs, rfl, h, ht, fun H1 C1 xs s1 hC1 hL1 hI1 => ?_⟩
    have okAll := h.rowsOk
    have rz := h.rz
    have le : (enumP 0 rs).length = rs.length := enumP_length _ _
    have lx : xs.length = rs.length := by rw [dpLen hI1, List.length_map, le]
    refine ⟨_, rfl, fun x dx hx0 hdx0 ndx => ?_⟩
    refine ⟨x, dx, vo, rfl, upd_same, fun H2 G W hG hW nGW hx2 hG2 hW2 fr2 => ⟨rfl, ?_⟩⟩
    refine ⟨_, _, rfl, ?_⟩
    have hG1 : H1 G = none := upd_no (upd_no hG)
    have hW1 : H1 W = none := upd_no (upd_no hW)
    have s2 : Same H1 H2 := fun b o e => fr2 b o (by rw [upd_ne (ne_of_none e hx0), upd_ne (ne_of_none e hdx0)]; exact e) (ne_of_none e hx0)
    have ex0 : ExAt K C ks os H1 H2 x G W [] [] none := .new s2 hx0 hG1 hW1 nGW h.oz (dp_same s1 _ h.o) hx2 hG2 hW2
    have item : ∀ {H' : Hp} {i : Nat}, Same H1 H' → i < rs.length → ∃ v q, xs[i]? = some v ∧ (enumP 0 rs)[i]? = some q ∧ Dp K H' v (pairD q) ∧ Fits os q.2 ∧ isRow ks (.tuple q.2) = true := fun {H' i} sm hi => by
      have hi2 : i < (enumP 0 rs).length := by omega
      obtain ⟨v, ev, hv⟩ := dpGet' (i := i) (d := pairD (enumP 0 rs)[i]) hI1 (by rw [List.getElem?_map, List.getElem?_eq_getElem hi2]; rfl)
      have ok := okAll _ (List.getElem_mem hi2)
      exact ⟨v, _, ev, List.getElem?_eq_getElem hi2, dp_same sm _ hv, ok.1, ok.2⟩
    -- the room is filled
    refine ⟨fun m σ H' => ∃ (j : Nat) (gq : List Pr), σ = [some vk, some vo, some (.int (n : Nat)), some vr, some (.ref C1), some (.ref x), some (.int (j : Nat)), none, none] ∧ ExAt K C ks os H1 H' x G W gq [] none ∧ gq.Perm ((enumP 0 rs).take j) ∧ j ≤ rs.length ∧ j ≤ n ∧ m = rs.length - j,
      ⟨_, 0, [], rfl, ex0, .refl _, Nat.zero_le _, Nat.zero_le _, rfl⟩, ?_⟩
    rintro m σ H' ⟨j, gq, rfl, ex, pj, hj, hjn, rfl⟩
    have lgq : gq.length = j := by rw [pj.length_eq, List.length_take]; omega
    refine cond_by (decide (j < rs.length ∧ j < n)) (fun H2 => H2 = H') (fun Q' next => ?_) (fun H2 e2 => ?_)
    · have q := next _ rfl
      refine ⟨_, rfl, _, rfl, C1, xs, rfl, .inl (ex.same.seq (SqL.of hL1)), _, _, rfl, rfl, _, rfl, ?_⟩
      refine ite2 (fun h1 => ?_) (fun h1 => ?_)
      · have h1 := of_decide_eq_true h1
        refine ⟨_, rfl, _, rfl, _, _, rfl, rfl, _, rfl, ?_⟩
        have e : decide (j < rs.length ∧ j < n) = decide (((j : Nat) : Int) < ((n : Nat) : Int)) := by
          rw [decide_eq_decide]
          constructor
          · rintro ⟨_, h⟩; omega
          · intro h; exact ⟨by omega, by omega⟩
        rw [← e]
        exact q
      · have h1 : ¬ ((j : Nat) : Int) < ((xs.length : Nat) : Int) := fun z => h1 (decide_eq_true z)
        have e : decide (j < rs.length ∧ j < n) = false := decide_eq_false (fun z => h1 (by omega))
        rw [e] at q
        exact q
    subst e2
    by_cases hc : j < rs.length ∧ j < n
    · refine iteT' (decide_eq_true hc) ⟨_, fun σ' H2 h => h, ?_⟩
      obtain ⟨v, q, ev, eq, hv, hf, hq⟩ := item ex.same hc.1
      refine ⟨_, rfl, x, ?_⟩
      obtain ⟨dx', vo', vl', hx', _⟩ := ex.ob
      refine ⟨dx', _, rfl, hx', lno (by decide +kernel) (by decide +kernel) (by decide +kernel) (by decide +kernel), ?_⟩
      refine ⟨_, rfl, _, rfl, C1, xs, _, v, rfl, rfl, ex.same.seq (SqL.of hL1), atI_nat ev, ?_⟩
      refine ⟨x, G, W, v, ks, os, H1, gq, [], none, q, rfl, ex, hv, hf, hq, by simp only [List.length_nil]; omega, fun H3 gq' ww' ex3 into fr => ?_⟩
      rcases into with ⟨l, e, _⟩ | ⟨_, pg, rfl⟩
      · cases e
      refine ⟨_, rfl, _, _, rfl, rfl, ?_⟩
      refine ⟨_, ?_, j + 1, gq', rfl, ex3, ?_, hc.1, hc.2, rfl⟩
      · omega
      · refine pg.trans ?_
        rw [List.take_add_one, eq]
        exact ((pj.cons q).trans (List.perm_append_comm (l₁ := [q]) (l₂ := (enumP 0 rs).take j)))
    refine iteF' (decide_eq_false hc) ?_
    have pn : gq.Perm ((enumP 0 rs).take n) := by
      by_cases hn : j = n
      · rw [← hn]; exact pj
      · have e : j = rs.length := by omega
        rw [List.take_of_length_le (by omega)] at pj
        rw [List.take_of_length_le (by omega)]
        exact pj
    have dn : (enumP 0 rs).drop j = (enumP 0 rs).drop n := by
      by_cases hn : j = n
      · rw [hn]
      · rw [List.drop_of_length_le (by omega), List.drop_of_length_le (by omega)]
    refine ⟨Nat.zero_le _, fun RS hRS => ?_⟩
    have exR := ex.grow (H2 := upd H2 RS (.lst [])) fun b o e => (upd_ne (ne_of_none e hRS)).trans e
    have hRS1 : H1 RS = none := ex.same.free hRS
    have hRS0 : H RS = none := s1.free hRS1
    have notR : ∀ {b : Addr} {xs : List V}, H2 b = some (.lst xs) → RS ≠ b := fun e z => by rw [← z, hRS] at e; cases e
    obtain ⟨zs0, hg0, _⟩ := ex.g
    obtain ⟨zw0, hw0⟩ := ex.w
    have own0 : Own K ks H (upd H2 RS (.lst [])) G W RS [] [] := ⟨upd_same, (fun h => nomatch h), notR hg0.g, notR hw0.g, Runs.nil, (fun _ h => nomatch h)⟩
    refine ⟨fun m σ H' => ∃ (j : Nat) (G W : Addr) (gq : List Pr) (as : List Addr) (runs : List (List Pr)) (v8 : Option V), σ = [some vk, some vo, some (.int (n : Nat)), some vr, some (.ref C1), some (.ref x), some (.int (j : Nat)), some (.ref RS), v8] ∧
      ExAt K C ks os H1 H' x G W gq [] none ∧ Own K ks H H' G W RS as runs ∧ j ≤ rs.length ∧ m = gq.length + (rs.length - j) ∧ runs.length + gq.length + (rs.length - j) ≤ 120 ∧ ∀ rest, RunsTo (before os) gq ((enumP 0 rs).drop j) rest → RunsTo (before os) ((enumP 0 rs).take n) ((enumP 0 rs).drop n) (runs ++ rest),
      ⟨_, j, G, W, gq, [], [], none, rfl, exR, own0, hj, rfl, by simp only [List.length_nil]; omega, fun rest t => by rw [dn] at t; exact t.permL pn.symm⟩, ?_⟩
    clear pn dn pj lgq hc exR own0 hg0 hw0 notR ex hjn hj
    rintro m σ H3 ⟨j, G, W, gq, as, runs, v8, rfl, ex, ow, hj, rfl, hsz, fin⟩
    obtain ⟨dx', vo', vl', hx', _⟩ := ex.ob
    refine ⟨_, rfl, x, dx', _, rfl, hx', lno (by decide +kernel) (by decide +kernel) (by decide +kernel) (by decide +kernel), x, G, W, ks, os, H1, gq, [], none, rfl, ex, ?_⟩
    refine ⟨_, _, rfl, rfl, _, rfl, ?_⟩
    refine ite2 (fun hpos => ?_) (fun hpos => ?_)
    · have hpos := of_decide_eq_true hpos
      have hne : gq ≠ [] := fun z => by rw [z] at hpos; simp at hpos
      refine ⟨_, fun σ' H2 h => h, ?_⟩
      refine ⟨Nat.zero_le _, fun R hR => ?_⟩
      have hR1 : H1 R = none := ex.same.free hR
      have hR0 : H R = none := s1.free hR1
      have sR : Same H3 (upd H3 R (.lst [])) := fun b o e => (upd_ne (ne_of_none e hR)).trans e
      have notR : ∀ {b : Addr} {xs : List V}, H3 b = some (.lst xs) → R ≠ b := fun e z => by rw [← z, hR] at e; cases e
      obtain ⟨zs0, hg0, _⟩ := ex.g
      obtain ⟨zw0, hw0⟩ := ex.w
      have nRG := notR hg0.g
      have nRW := notR hw0.g
      have nRS := notR ow.rs
      have nRas : R ∉ as := fun z => by
        obtain ⟨y, hy⟩ := ow.R.tracked z
        exact notR hy rfl
      refine ⟨fun m σ H' => ∃ (i : Nat) (gi wi rr : List Pr) (xr : List V) (lq : Option Pr), σ = [some vk, some vo, some (.int (n : Nat)), some vr, some (.ref C1), some (.ref x), some (.int (i : Nat)), some (.ref RS), some (.ref R)] ∧
        ExAt K C ks os H1 H' x G W gi wi lq ∧ Own K ks H H' G W RS as runs ∧ H' R = some (.lst xr) ∧ DpAll K H' xr (rr.map pairD) ∧ (∀ q ∈ rr, isRow ks (.tuple q.2) = true) ∧ i ≤ rs.length ∧ m = 2 * (rs.length - i) + gi.length ∧ rr.length + wi.length + gi.length + (rs.length - i) = gq.length + (rs.length - j) ∧
        ∀ r' w' l', RunTo (before os) gi ((enumP 0 rs).drop i) r' w' l' → RunTo (before os) gq ((enumP 0 rs).drop j) (rr ++ r') (wi ++ w') l',
        ⟨_, j, gq, [], [], [], none, rfl, ex.grow sR, ow.same sR, upd_same, .nil, (fun _ h => nomatch h), hj, rfl, by simp only [List.length_nil]; omega, fun r' w' l' t => t⟩, ?_⟩
      rintro m σ H4 ⟨i, gi, wi, rr, xr, lq, rfl, ex4, ow4, hR4, dR4, okR, hi, rfl, hcnt, run⟩
      obtain ⟨dx4, vo4, vl4, hx4, _⟩ := ex4.ob
      have lr : xr.length = rr.length := by rw [dpLen dR4, List.length_map]
      refine ⟨_, rfl, x, dx4, _, rfl, hx4, lno (by decide +kernel) (by decide +kernel) (by decide +kernel) (by decide +kernel), x, G, W, ks, os, H1, gi, wi, lq, rfl, ex4, _, rfl, ?_⟩
      by_cases hgi : gi = []
      · subst hgi
        refine iteF ?_
        -- the run is over
        have t := run [] [] _ (.done _)
        rw [List.append_nil, List.append_nil] at t
        refine ⟨_, rfl, .inl ⟨rfl, _, SqL.of ow4.rs⟩, _, rfl, RS, _, _, rfl, rfl, ow4.rs, small1000 (by rw [List.length_map, ow4.R.len]; omega), ?_⟩
        have las := ow4.R.len
        have R5 := ((ow4.R).upd_ (u := as.map V.ref ++ [.ref R]) ow4.rs ow4.n).snoc (a := R) (r := rr) ((upd_ne nRS).trans hR4) (dpAll_upd ow4.rs _ (pairs_noL okR) dR4) hR0 nRas okR
        have ow5 : Own K ks H (upd H4 RS (.lst (as.map V.ref ++ [.ref R]))) G W RS (as ++ [R]) (runs ++ [rr]) := by
          refine ⟨by rw [upd_same, List.map_append]; rfl, fun z => ?_, ow4.g, ow4.w, R5, fun a ha => ?_⟩
          · rcases List.mem_append.mp z with z | z
            · exact ow4.n z
            · exact nRS (List.mem_singleton.mp z).symm
          · rcases List.mem_append.mp ha with ha | ha
            · exact ow4.a a ha
            · rw [List.mem_singleton.mp ha]; exact ⟨nRG, nRW⟩
        have ex5 := ex4.upd_ (u := as.map V.ref ++ [.ref R]) ow4.rs hRS1 ow4.g ow4.w
        obtain ⟨dx5, vo5, vl5, hx5, _⟩ := ex5.ob
        refine ⟨_, rfl, x, dx5, _, rfl, hx5, lno (by decide +kernel) (by decide +kernel) (by decide +kernel) (by decide +kernel), x, G, W, ks, os, H1, [], wi, lq, rfl, ex5, by simp only [List.length_nil] at hcnt; omega, fun H6 W' gq' ex6 pg hW' fr6 => ?_⟩
        have ow6 := ow5.frx ex5 fr6
        have notW : ∀ {b : Addr} {xs : List V}, upd H4 RS (.lst (as.map V.ref ++ [.ref R])) b = some (.lst xs) → b ≠ W' := fun e z => by rw [z, hW'] at e; cases e
        have lq' := pg.length_eq
        have r1 := t.some hne
        simp only [List.length_nil] at hcnt
        refine ⟨_, ?_, i, W, W', gq', as ++ [R], runs ++ [rr], _, rfl, ex6, ⟨ow6.rs, ow6.n, ow6.w, notW ow5.rs, ow6.R, fun a ha => ⟨(ow6.a a ha).2, ?_⟩⟩, hi, rfl, by rw [List.length_append, List.length_singleton]; omega, fun rest tr => ?_⟩
        · omega
        · obtain ⟨y, hy⟩ := ow5.R.tracked ha
          exact notW hy
        · rw [List.append_assoc]
          exact fin _ (.more hne t (tr.permL pg.symm))
      · refine iteT' (by cases gi <;> simp_all) ⟨_, fun σ' H2 h => h, ?_⟩
        refine ⟨_, rfl, .inl ⟨rfl, _, SqL.of hR4⟩, _, rfl, x, dx4, _, rfl, hx4, lno (by decide +kernel) (by decide +kernel) (by decide +kernel) (by decide +kernel), x, G, W, ks, os, H1, gi, wi, lq, rfl, ex4, hgi, fun H5 v q gi' ex5 pq mb hv fr5 => ?_⟩
        have qin : q ∈ gi := pq.mem_iff.mpr List.mem_cons_self
        have qok := (ex4.gok q qin).2
        have hR5 := frx_at ex4 fr5 hR4 nRG nRW
        have dR5 := dpAll_kp (ex4.kp fr5) _ (pairs_noL okR) dR4
        have lgi := pq.length_eq
        rw [List.length_cons] at lgi
        refine ⟨R, xr, _, rfl, rfl, hR5, small1000 (by omega), ?_⟩
        have ex6 := ex5.upd_ (u := xr ++ [v]) hR5 hR1 nRG nRW
        have ow6 := (ow4.frx ex4 fr5).upd_ (u := xr ++ [v]) hR5 nRS nRas
        have okR6 : ∀ y ∈ rr ++ [q], isRow ks (.tuple y.2) = true := fun y hy => by
          rcases List.mem_append.mp hy with hy | hy
          · exact okR y hy
          · rw [List.mem_singleton.mp hy]; exact qok
        have dR6 : DpAll K (upd H5 R (.lst (xr ++ [v]))) (xr ++ [v]) ((rr ++ [q]).map pairD) := by
          rw [List.map_append]
          exact dpAll_upd hR5 _ (by rw [← List.map_append]; exact pairs_noL okR6) (dpApp dR5 (.cons hv .nil))
        refine ⟨_, rfl, _, rfl, C1, xs, rfl, .inl (ex6.same.seq (SqL.of hL1)), _, _, rfl, rfl, _, rfl, ?_⟩
        refine ite2 (fun h1 => ?_) (fun h1 => ?_)
        · have h1 := of_decide_eq_true h1
          have hi2 : i < rs.length := by omega
          obtain ⟨vE, e, evE, eqE, hE, hfE, hqE⟩ := item ex6.same hi2
          obtain ⟨dx6, vo6, vl6, hx6, _⟩ := ex6.ob
          have de : (enumP 0 rs).drop i = e :: (enumP 0 rs).drop (i + 1) := by
            have hi3 : i < (enumP 0 rs).length := by omega
            rw [List.drop_eq_getElem_cons hi3]
            rw [List.getElem?_eq_getElem hi3] at eqE
            rw [Option.some.inj eqE]
          refine ⟨_, rfl, x, dx6, _, rfl, hx6, lno (by decide +kernel) (by decide +kernel) (by decide +kernel) (by decide +kernel), _, rfl, _, rfl, C1, xs, _, vE, rfl, rfl, ex6.same.seq (SqL.of hL1), atI_nat evE, ?_⟩
          refine ⟨x, G, W, vE, ks, os, H1, gi', wi, some q, e, rfl, ex6, hE, hfE, hqE, by omega, fun H7 gi2 wi2 ex7 into fr7 => ?_⟩
          have hR7 := frx_at ex6 fr7 upd_same nRG nRW
          have dR7 := dpAll_kp (ex6.kp fr7) _ (pairs_noL okR6) dR6
          have ow7 := ow6.frx ex6 fr7
          refine ⟨_, rfl, _, _, rfl, rfl, ?_⟩
          rcases into with ⟨l, el, hb, rfl, rfl⟩ | ⟨hb, pg, rfl⟩
          · cases el
            refine ⟨_, ?_, i + 1, gi2, wi ++ [e], rr ++ [q], _, _, rfl, ex7, ow7, hR7, dR7, okR6, hi2, rfl, ?_, fun r' w' l' t => ?_⟩
            · omega
            · simp only [List.length_append, List.length_singleton]
              omega
            · rw [List.append_assoc, List.append_assoc]
              refine run _ _ _ ?_
              rw [de]
              exact .wait pq mb hb t
          · have lg2 := pg.length_eq
            rw [List.length_cons] at lg2
            refine ⟨_, ?_, i + 1, gi2, wi2, rr ++ [q], _, _, rfl, ex7, ow7, hR7, dR7, okR6, hi2, rfl, ?_, fun r' w' l' t => ?_⟩
            · omega
            · simp only [List.length_append, List.length_singleton]
              omega
            · rw [List.append_assoc]
              refine run _ _ _ ?_
              rw [de]
              exact .keep pq mb (hb q rfl) (t.permL pg.symm)
        · have h1 : ¬ ((i : Nat) : Int) < ((xs.length : Nat) : Int) := fun z => h1 (decide_eq_true z)
          have ei : i = rs.length := by omega
          subst ei
          refine ⟨_, ?_, rs.length, gi', wi, rr ++ [q], _, _, rfl, ex6, ow6, upd_same, dR6, okR6, Nat.le_refl _, rfl, ?_, fun r' w' l' t => ?_⟩
          · omega
          · simp only [List.length_append, List.length_singleton]
            omega
          · rw [List.drop_of_length_le (by omega)] at run t
            rw [List.append_assoc]
            exact run _ _ _ (.last pq mb t)
    · have e : gq = [] := by
        cases gq with
        | nil => rfl
        | cons a l => exact absurd (decide_eq_true (by simp only [List.length_cons, List.length_nil]; omega)) hpos
      subst e
      have t := fin [] (.done _)
      rw [List.append_nil] at t
      exact ⟨_, rfl, k _ RS as runs (s1.trans ex.same) hRS0 ow.n ow.rs ow.R t (by omega)⟩
end
end RS
set_option Elab.async false
set_option maxRecDepth 100000
set_option maxHeartbeats 4000000
namespace RS
open PySem PySem.Spec PyProof.Rows L2 GX
/-! ### the drawer -/
structure BoxAt (H : Hp) (B L : Addr) : Prop where
  ne : B ≠ L
  b : ∃ s : Int, H B = some (.lst [.ref L, .int s])
  l : ∃ ms : List Int, H L = some (.lst (ms.map V.int))
/-- all but the drawer stays -/
def SameX (B L : Addr) (H H' : Hp) : Prop := ∀ b o, b ≠ B → b ≠ L → H b = some o → H' b = some o
theorem SameX.refl {B L : Addr} {H : Hp} : SameX B L H H := fun _ _ _ _ e => e
theorem SameX.trans {B L : Addr} {H H1 H2 : Hp} (a : SameX B L H H1) (b : SameX B L H1 H2) : SameX B L H H2 := fun c o h1 h2 e => b c o h1 h2 (a c o h1 h2 e)
theorem SameX.of {B L : Addr} {H H' : Hp} (s : Same H H') : SameX B L H H' := fun b o _ _ e => s b o e
theorem BoxAt.same {H H' : Hp} {B L : Addr} (h : BoxAt H B L) (s : Same H H') : BoxAt H' B L := by
  obtain ⟨n, ⟨x, hb⟩, ⟨ms, hl⟩⟩ := h
  exact ⟨n, ⟨x, s _ _ hb⟩, ⟨ms, s _ _ hl⟩⟩
section
variable {P : Program} {w : World} {K : PySem.W.Frag} {mg : Str → Option Value} {base : Heap}
theorem dpInts {K : PySem.W.Frag} {H : Hp} : ∀ {ns : List Int}, DpAll K H (ns.map V.int) (ns.map .int)
  | [] => .nil
  | n :: _ => .cons (.int n) dpInts
theorem scBegun : FnScope ["_law_script", "_law_stirred", "_law_cell"] ["_law_script"] (defScope sBegun) := ⟨rfl, rfl, rfl, by decide +kernel, rfl, by decide +kernel, by decide +kernel⟩
def spBegun (K : PySem.W.Frag) : Sp := fun vs H Q _ => ∃ (a : Addr) (ns : List Int), vs = [.ref a] ∧ SqL K H a (ns.map V.int) ∧
  ∀ (H' : Hp) (B L : Addr), Same H H' → H B = none → H L = none → BoxAt H' B L → Q (.ref B) H'
theorem begun_ok {c : Addr} (D : DefAt K mg "_law_begun" sBegun c) (T : Txt K mg) : Cal P w K mg base CX0 1 "_law_begun" ["_law_script"] (spBegun K) := by
  have sc := scBegun
  refine def_ok0 D sc (fun vs H Q E h => ?_) (fun _ _ _ _ _ _ us hl => match us, hl with | [_], _ => rfl) (fun f A outer s H vs Q E hr h => ?_)
  · obtain ⟨a, ns, rfl, _⟩ := h
    rfl
  · obtain ⟨a, ns, rfl, hS, k⟩ := h
    refine ⟨_, (pss_cons (ps_set (i := 1) sc.nd rfl (Or.inl rfl) pe_int) (pss_cons (ps_for PassesOwn.never rfl (pi_list (pv 0)) (pg_name (i := 2) sc.nd rfl (Or.inl rfl)) (pss_one (ps_set (i := 1) sc.nd rfl (Or.inl rfl) (pe_op op_mod (pe_op op_add (pe_op op_add (pe_op op_mul (pv 1) pe_int) (pe_op op_mul (pv 2) pe_int)) pe_int) pe_int)))) (pss_one (ps_ret (pe_lst (pa_cons (pe_callTy call_list_of (by rfl) T.list_ (by decide +kernel) (pa_cons (pv 0) pa_nil)) (pa_cons (pe_op op_mul (pv 1) (pe_callTy call_int1 (by rfl) T.int_ (by decide +kernel) (pa_cons (pe_cmpR op_gt (pe_callB call_lenD (by rfl) T.len PySem.boot_len (pa_cons (pv 0) pa_nil)) pe_int (nomark _)) pa_nil))) pa_nil))))))), ?_⟩
    refine ⟨_, rfl, a, rfl, ⟨_, hS⟩, for_list (K := K) (a := a) (xs := ns.map V.int) (fun i σ H' => ∃ (st : Int) (v2 : Option V), σ = [some (.ref a), some (.int st), v2] ∧ 0 ≤ st ∧ st < 2147483647 ∧ H' = H)
      ⟨0, none, rfl, by decide, by decide, rfl⟩ (fun i σ H' _ ⟨_, _, _, _, _, e⟩ => by rw [e]; exact hS) ?_ ?_⟩
    · rintro i x σ H' hx ⟨st, v2, rfl, h0, h1, rfl⟩
      obtain ⟨n, en, rfl⟩ : ∃ n, ns[i]? = some n ∧ x = V.int n := by
        rw [List.getElem?_map] at hx
        cases q : ns[i]? with
        | none => rw [q] at hx; cases hx
        | some b => rw [q] at hx; exact ⟨b, rfl, (Option.some.inj hx).symm⟩
      refine ⟨_, rfl, _, _, rfl, rfl, .inl ⟨by omega, by omega⟩, ?_⟩
      refine ⟨_, rfl, _, _, rfl, rfl, .inr ⟨by omega, by omega⟩, ?_⟩
      refine ⟨_, _, rfl, rfl, _, _, rfl, rfl, _, _, rfl, rfl, (by show (0 : Int) < 2147483647; decide), ?_⟩
      exact ⟨_, _, rfl, Int.emod_nonneg _ (by decide), Int.emod_lt_of_pos _ (by decide), rfl⟩
    · rintro σ H' ⟨st, v2, rfl, h0, h1, rfl⟩
      refine ⟨_, rfl, a, _, rfl, .inl hS, fun L hL => ?_⟩
      have s1 : Same H' (upd H' L (.lst (ns.map V.int))) := fun b o e => by
        rw [upd_ne (ne_of_none e hL)]
        exact e
      refine ⟨_, rfl, _, rfl, .ref a, _, _, rfl, .lst (s1.seq hS) dpInts, rfl, _, _, rfl, rfl, .inr ⟨_, rfl, ?_⟩⟩
      refine ⟨_, _, rfl, rfl, .inl ⟨by omega, by omega⟩, ?_⟩
      refine ⟨by show 2 ≤ sizeLine; decide, fun B hB => ?_⟩
      have n1 : L ≠ B := fun z => by rw [← z, upd_same] at hB; cases hB
      exact k _ B L (fun b o e => by rw [upd_ne (ne_of_none (s1 _ _ e) hB)]; exact s1 _ _ e) (s1.free hB) hL ⟨Ne.symm n1, ⟨_, upd_same⟩, ⟨ns, (upd_ne n1).trans upd_same⟩⟩
end
end RS
set_option Elab.async false
set_option maxRecDepth 100000
set_option maxHeartbeats 4000000
namespace RS
open PySem PySem.Spec PyProof.Rows L2 GX
section
variable {P : Program} {w : World} {K : PySem.W.Frag} {mg : Str → Option Value} {base : Heap}
theorem scTake : FnScope ["_law_box", "_law_many", "_law_number"] ["_law_box", "_law_many"] (defScope sTake) := ⟨rfl, rfl, rfl, by decide +kernel, rfl, by decide +kernel, by decide +kernel⟩
def spTake : Sp := fun vs H Q _ => ∃ (B L : Addr) (m : Int), vs = [.ref B, .int m] ∧ BoxAt H B L ∧ 1 ≤ m ∧ m ≤ 1000000 ∧
  ∀ (H' : Hp) (k : Int), SameX B L H H' → BoxAt H' B L → 0 ≤ k → k < m → Q (.int k) H'
theorem eqv_nil (ds : List PyData) : PyData.eqv (.list ds) (.list []) = ds.isEmpty := by
  cases ds <;> simp [PyData.eqv, PyData.eqvAll]
theorem shaped_ints (ms : List Int) : SeqAt.shaped (.list (ms.map .int)) = true := by
  have h1 : PyData.canLayAll0 (ms.map .int) = true := by
    induction ms with
    | nil => simp [PyData.canLayAll0]
    | cons m ms ih => simp [PyData.canLayAll0, PyData.canLay0, ih]
  have h2 : PyData.depthAll (ms.map .int) = 0 := depth0 fun d hd => by
    obtain ⟨n, _, rfl⟩ := List.mem_map.mp hd
    simp [PyData.depth]
  simp [SeqAt.shaped, PyData.canLay0, PyData.depth, h1, h2]
theorem take_ok {c : Addr} (D : DefAt K mg "_law_take" sTake c) : Cal P w K mg base CX0 1 "_law_take" ["_law_box", "_law_many"] spTake := by
  have sc := scTake
  refine def_ok0 D sc (fun vs H Q E h => ?_) (fun _ _ _ _ _ _ us hl => match us, hl with | [_, _], _ => rfl) (fun f A outer s H vs Q E hr h => ?_)
  · obtain ⟨B, L, m, rfl, _⟩ := h
    rfl
  · obtain ⟨B, L, m, rfl, ⟨nBL, ⟨st, hB⟩, ⟨ms, hL⟩⟩, hm, hm2, k⟩ := h
    have hu := hr.units
    refine ⟨_, (pss_cons (ps_if (pt_cmpR (op_eqD hu) (pe_ix ix_list (pv 0) pe_int (fun _ _ => rfl)) (pe_lst pa_nil) (nomark _)) (pss_cons (ps_asg (pe_op op_mod (pe_op op_mul (pe_ix ix_list (pv 0) pe_int (fun _ _ => rfl)) pe_int) pe_int) (pg_sub (pv 0) pe_int set_list)) (pss_one (ps_ret (pe_op op_mod (pe_op op_fdiv (pe_ix ix_list (pv 0) pe_int (fun _ _ => rfl)) pe_int) (pv 1))))) pss_nil) (pss_cons (ps_set (i := 2) sc.nd rfl (Or.inl rfl) (pe_ix ix_list (pe_ix ix_list (pv 0) pe_int (fun _ _ => rfl)) pe_int (fun _ _ => rfl))) (pss_cons (ps_asg (pe_op op_fdiv (pv 2) (pv 1)) (pg_sub (pe_ix ix_list (pv 0) pe_int (fun _ _ => rfl)) pe_int set_list)) (pss_cons (ps_if ((pw_or (pt_cmpR op_eq (pe_ix ix_list (pe_ix ix_list (pv 0) pe_int (fun _ _ => rfl)) pe_int (fun _ _ => rfl)) pe_int (nomark _)) (pw_or1 (pt_cmpR op_eq (pe_ix ix_list (pe_ix ix_list (pv 0) pe_int (fun _ _ => rfl)) pe_int (fun _ _ => rfl)) (pe_un un_neg pe_int) (nomark _)))).pt) (pss_one (ps_expr (pe_bm PySem.F.plainAttrs_list PySem.F.slot_list_pop PySem.F.type_list_pop mt_popAt (pe_ix ix_list (pv 0) pe_int (fun _ _ => rfl)) (pa_cons pe_int pa_nil)))) pss_nil) (pss_one (ps_ret (pe_op op_mod (pv 2) (pv 1)))))))), ?_⟩
    refine ⟨_, rfl, B, _, _, _, rfl, rfl, SqL.of hB, rfl, Nat.zero_le _, fun e0 he0 => ?_⟩
    have s0 : Same H (upd H e0 (.lst [])) := fun b o e => by
      rw [upd_ne (ne_of_none e he0)]
      exact e
    refine ⟨.list (ms.map .int), .list [], .lst (s0.seq (SqL.of hL)) dpInts, .lst (SqL.of upd_same) .nil, ?_, rfl, _, rfl, ?_⟩
    · exact shaped_ints ms
    rw [eqv_nil]
    have hB0 := s0 _ _ hB
    have hL0 := s0 _ _ hL
    cases ms with
    | nil =>
      refine iteT ⟨_, rfl, B, _, _, _, rfl, rfl, SqL.of hB0, atI_nat (j := 1) rfl, _, _, rfl, rfl, .inr ⟨by decide, by decide⟩, ?_⟩
      refine ⟨_, _, rfl, rfl, (by show (0 : Int) < 2147483647; decide), ?_⟩
      refine ⟨_, rfl, B, _, _, 1, rfl, rfl, hB0, rfl, ?_⟩
      refine ⟨_, rfl, B, _, _, _, rfl, rfl, SqL.of upd_same, atI_nat (j := 1) rfl, ?_⟩
      refine ⟨_, _, rfl, rfl, ⟨by decide, by decide⟩, _, rfl, _, _, rfl, rfl, (by show (0 : Int) < m; omega), ?_⟩
      refine k _ _ (fun b o h1 h2 e => ?_) ⟨nBL, ⟨_, upd_same⟩, ⟨[], (upd_ne (Ne.symm nBL)).trans hL0⟩⟩ (Int.emod_nonneg _ (by omega)) (Int.emod_lt_of_pos _ (by omega))
      rw [upd_ne h1]
      exact s0 _ _ e
    | cons m0 ms =>
      refine iteF ⟨_, rfl, B, _, _, _, rfl, rfl, SqL.of hB0, atI_nat (j := 0) rfl, L, _, _, _, rfl, rfl, SqL.of hL0, atI_nat (j := 0) rfl, ?_⟩
      refine ⟨_, rfl, _, rfl, _, _, rfl, rfl, ⟨by omega, by omega⟩, ?_⟩
      refine ⟨_, rfl, B, _, _, _, rfl, rfl, SqL.of hB0, atI_nat (j := 0) rfl, L, _, _, 0, rfl, rfl, hL0, by simp [ixN], ?_⟩
      have hB1 : upd (upd H e0 (.lst [])) L (.lst (((m0 :: ms).map V.int).set 0 (.int (m0 / m)))) B = some (.lst [.ref L, .int st]) := (upd_ne nBL).trans hB0
      refine ⟨_, rfl, B, _, _, _, rfl, rfl, SqL.of hB1, atI_nat (j := 0) rfl, L, _, _, _, rfl, rfl, SqL.of upd_same, atI_nat (j := 0) rfl, ?_⟩
      have sx : ∀ (u : HO) (b : Addr) (o : HO), b ≠ B → b ≠ L → H b = some o → upd (upd H e0 (.lst [])) L u b = some o := fun u b o h1 h2 e => by
        rw [upd_ne h2]
        exact s0 _ _ e
      have ret : ∀ (H2 : Hp), SameX B L H H2 → BoxAt H2 B L → (∃ v, (some (V.int m0) : Option V) = some v ∧ v = .int m0) → Q (.int (m0 % m)) H2 := fun H2 s2 b2 _ => k H2 _ s2 b2 (Int.emod_nonneg _ (by omega)) (Int.emod_lt_of_pos _ (by omega))
      have box1 : BoxAt (upd (upd H e0 (.lst [])) L (.lst (V.int (m0 / m) :: ms.map V.int))) B L := ⟨nBL, ⟨_, hB1⟩, ⟨m0 / m :: ms, upd_same⟩⟩
      have box2 : BoxAt (upd (upd (upd H e0 (.lst [])) L (.lst (V.int (m0 / m) :: ms.map V.int))) L (.lst (ms.map V.int))) B L := ⟨nBL, ⟨_, (upd_ne nBL).trans hB1⟩, ⟨ms, upd_same⟩⟩
      have sx2 : SameX B L H (upd (upd (upd H e0 (.lst [])) L (.lst (V.int (m0 / m) :: ms.map V.int))) L (.lst (ms.map V.int))) := fun b o h1 h2 e => by
        rw [upd_ne h2]
        exact sx _ b o h1 h2 e
      have sk : seqIndex? 0 (V.int (m0 / m) :: ms.map V.int).length = some 0 := by
        simp [seqIndex?]
      refine ⟨rfl, _, rfl, ?_⟩
      refine ite2 (fun h1 => ?_) (fun h1 => ?_)
      · refine iteT ⟨_, rfl, B, _, _, _, rfl, rfl, SqL.of hB1, atI_nat (j := 0) rfl, .inl ⟨rfl, _, SqL.of upd_same⟩, L, _, 0, 0, _, rfl, rfl, upd_same, by decide, by decide, sk, rfl, ?_⟩
        exact ⟨_, rfl, _, rfl, _, _, rfl, rfl, (by show (0 : Int) < m; omega), ret _ sx2 box2 ⟨_, rfl, rfl⟩⟩
      · refine ⟨_, rfl, B, _, _, _, rfl, rfl, SqL.of hB1, atI_nat (j := 0) rfl, L, _, _, _, rfl, rfl, SqL.of upd_same, atI_nat (j := 0) rfl, ?_⟩
        refine ⟨_, rfl, rfl, _, rfl, ?_⟩
        refine ite2 (fun h1 => ?_) (fun h1 => ?_)
        · refine ⟨_, rfl, B, _, _, _, rfl, rfl, SqL.of hB1, atI_nat (j := 0) rfl, .inl ⟨rfl, _, SqL.of upd_same⟩, L, _, 0, 0, _, rfl, rfl, upd_same, by decide, by decide, sk, rfl, ?_⟩
          exact ⟨_, rfl, _, rfl, _, _, rfl, rfl, (by show (0 : Int) < m; omega), ret _ sx2 box2 ⟨_, rfl, rfl⟩⟩
        · exact ⟨_, rfl, _, rfl, _, _, rfl, rfl, (by show (0 : Int) < m; omega), ret _ (sx _) box1 ⟨_, rfl, rfl⟩⟩
end
end RS
set_option Elab.async false
set_option maxRecDepth 100000
set_option maxHeartbeats 4000000
namespace RS
open PySem PySem.Spec PyProof.Rows L2 GX
theorem BoxAt.nb {H : Hp} {B L a : Addr} (h : BoxAt H B L) (ha : H a = none) : a ≠ B ∧ a ≠ L := by
  obtain ⟨_, ⟨s, hb⟩, ⟨ms, hl⟩⟩ := h
  exact ⟨fun z => (by rw [z, hb] at ha; cases ha), fun z => (by rw [z, hl] at ha; cases ha)⟩
theorem BoxAt.upd_ {H : Hp} {B L a : Addr} {o : HO} (h : BoxAt H B L) (nB : a ≠ B) (nL : a ≠ L) : BoxAt (upd H a o) B L := by
  obtain ⟨n, ⟨s, hb⟩, ⟨ms, hl⟩⟩ := h
  exact ⟨n, ⟨s, (upd_ne (Ne.symm nB)).trans hb⟩, ⟨ms, (upd_ne (Ne.symm nL)).trans hl⟩⟩
theorem SameX.new {B L a : Addr} {H H' : Hp} {o : HO} (s : SameX B L H H') (ha : H a = none) : SameX B L H (upd H' a o) := fun b u h1 h2 e => by
  rw [upd_ne (ne_of_none e ha)]
  exact s b u h1 h2 e
theorem SameX.free {B L a : Addr} {H H' : Hp} (s : SameX B L H H') (_b : BoxAt H B L) (ha : H' a = none) (b' : BoxAt H' B L) : H a = none := by
  cases e : H a with
  | none => rfl
  | some o =>
    obtain ⟨n1, n2⟩ := b'.nb ha
    rw [s a o n1 n2 e] at ha
    cases ha
theorem ix_listC {X : Cx} {K : PySem.W.Frag} (e : X.K = K) : IxR X (rIxL K) := by
  subst e
  exact ix_list
theorem ix_tupC {X : Cx} {K : PySem.W.Frag} (e : X.K = K) : IxR X (rIxT K) := by
  subst e
  exact ix_tup
/-- what has no list of its own stays -/
theorem sqT_x {K : PySem.W.Frag} {H H' : Hp} {B L a : Addr} {xs : List V} (b : BoxAt H B L) (s : SameX B L H H') (h : SqT K H a xs) : SqT K H' a xs := by
  obtain ⟨_, ⟨st, hb⟩, ⟨ms, hl⟩⟩ := b
  rcases h with (h | ⟨o, h⟩) | h
  · exact .inl (.inl (s a _ (fun z => by rw [z, hb] at h; cases h) (fun z => by rw [z, hl] at h; cases h) h))
  · exact .inl (.inr ⟨o, s a _ (fun z => by rw [z, hb] at h; cases h) (fun z => by rw [z, hl] at h; cases h) h⟩)
  · exact .inr h
mutual
theorem dp_x {K : PySem.W.Frag} {H H' : Hp} {B L : Addr} (b : BoxAt H B L) (s : SameX B L H H') : ∀ (d : PyData) {v : V}, noL d = true → Dp K H v d → Dp K H' v d
  | .none, _, _, .non => .non
  | .bool x, _, _, .bl _ => .bl x
  | .int i, _, _, .int _ => .int i
  | .str x, _, _, .str _ => .str x
  | .list ds, _, h, _ => by cases h
  | .tuple ds, _, h, .tup q hs => .tup (sqT_x b s q) (dpAll_x b s ds h hs)
  | .dict _, _, h, _ => by cases h
theorem dpAll_x {K : PySem.W.Frag} {H H' : Hp} {B L : Addr} (b : BoxAt H B L) (s : SameX B L H H') : ∀ (ds : List PyData) {vs : List V}, noLs ds = true → DpAll K H vs ds → DpAll K H' vs ds
  | [], _, _, .nil => .nil
  | d :: ds, _, h, .cons q hs => by
    unfold noLs at h
    rw [Bool.and_eq_true] at h
    exact .cons (dp_x b s d h.1 q) (dpAll_x b s ds h.2 hs)
end
theorem kinds_noL (ks : List Bool) : noL (kindsD ks) = true := noLs_iff.mpr fun d hd => by
  obtain ⟨b, _, rfl⟩ := List.mem_map.mp hd
  rfl
section
variable {P : Program} {w : World} {K : PySem.W.Frag} {mg : Str → Option Value} {base : Heap}
theorem dpKinds {H : Hp} : ∀ ks : List Bool, DpAll K H (ks.map fun b => V.str (kindS b)) (ks.map fun b => .str (kindS b))
  | [] => .nil
  | _ :: ks => .cons (.str _) (dpKinds ks)
theorem scKinds : FnScope ["_law_box", "_law_k"] ["_law_box"] (defScope sKinds) := ⟨rfl, rfl, rfl, by decide +kernel, rfl, by decide +kernel, by decide +kernel⟩
def spKinds (K : PySem.W.Frag) : Sp := fun vs H Q _ => ∃ (B L : Addr), vs = [.ref B] ∧ BoxAt H B L ∧
  ∀ (H' : Hp) (v : V) (ks : List Bool), SameX B L H H' → BoxAt H' B L → 1 ≤ ks.length → ks.length ≤ 4 → Dp K H' v (kindsD ks) → Q v H'
theorem two_at {k : Int} (h0 : 0 ≤ k) (h1 : k < 2) : ∃ b, atI [V.str "number", V.str "word"] k = some (.str (kindS b)) := by
  rcases (by omega : k = 0 ∨ k = 1) with e | e
  · subst e
    exact ⟨false, atI_nat (j := 0) rfl⟩
  · subst e
    exact ⟨true, atI_nat (j := 1) rfl⟩
theorem kinds_ok {c : Addr} (D : DefAt K mg "_law_kinds" sKinds c) (T : Txt K mg) (cT : Cal P w K mg base CX0 1 "_law_take" ["_law_box", "_law_many"] spTake) : Cal P w K mg base CX0 2 "_law_kinds" ["_law_box"] (spKinds K) := by
  have sc := scKinds
  refine def_ok0 D sc (fun vs H Q E h => ?_) (fun _ _ _ _ _ _ us hl => match us, hl with | [_], _ => rfl) (fun f A outer s H vs Q E hr h => ?_)
  · obtain ⟨B, L, rfl, _⟩ := h
    rfl
  · obtain ⟨B, L, rfl, hb, k⟩ := h
    refine ⟨_, (pss_one (ps_ret (pe_callTy call_tuple_of (by rfl) T.tuple_ (by decide +kernel) (pa_cons (pe_lc (own := [("_law_k", 1)]) (tt := tYes)  rfl sc.nd (pi_range1 (by rfl) T.range (pa_cons (pe_op op_add pe_int (pe_c cT hr (by decide) (by rfl) pass0 (pa_cons (pv 0) (pa_cons pe_int pa_nil)))) pa_nil)) (blkOk_by (N := ["_law_box", "_law_k"]) (sc := defScope sKinds) (own := [("_law_k", 1)]) (by decide +kernel)) (fun _ _ _ _ _ => (pg_name (i := 1) sc.nd rfl (Or.inl rfl))) (fun _ _ _ _ _ => pts_nil) (fun _ _ _ _ _ => (pe_ix (ix_listC (K := K) rfl) (pe_lst (pa_cons pe_str (pa_cons pe_str pa_nil))) (pe_c cT hr (by decide) (by rfl) pass0 (pa_cons (pv 0) (pa_cons pe_int pa_nil))) (fun _ _ => rfl)))) pa_nil)))), ?_⟩
    refine ⟨_, rfl, B, L, 4, rfl, hb, by decide, by decide, fun H1 n s1 b1 n0 n1 => ?_⟩
    refine ⟨_, _, rfl, rfl, _, rfl, by omega, by omega, fun DD hD => ?_⟩
    obtain ⟨nB, nL⟩ := b1.nb hD
    have e1 : (1 + n).toNat = n.toNat + 1 := by omega
    rw [e1]
    refine lc_range (fun i H2 => SameX B L H1 H2 ∧ BoxAt H2 B L ∧ ∃ ks : List Bool, ks.length = i ∧ H2 DD = some (.lst (ks.map fun b => V.str (kindS b)))) ⟨SameX.refl.new hD, b1.upd_ nB nL, [], rfl, upd_same⟩ ?_ ?_
    · rintro i H2 hi ⟨s2, b2, ks, lk, hl⟩
      refine ⟨rfl, by show 2 ≤ sizeLine; decide, fun e he => ?_⟩
      obtain ⟨neB, neL⟩ := b2.nb he
      have neD : DD ≠ e := fun z => by rw [← z, hl] at he; cases he
      refine ⟨_, rfl, B, L, 2, rfl, b2.upd_ neB neL, by decide, by decide, fun H3 k' s3 b3 h0 h1 => ?_⟩
      obtain ⟨bb, hbb⟩ := two_at h0 h1
      refine ⟨e, _, k', _, rfl, rfl, SqL.of (s3 e _ neB neL upd_same), hbb, ?_⟩
      refine ⟨_, s3 DD _ nB nL ((upd_ne neD).trans hl), small1000 (by rw [List.length_map]; omega), ?_, b3.upd_ nB nL, ks ++ [bb], by rw [List.length_append, lk]; rfl, ?_⟩
      · exact (s2.trans ((SameX.refl.new he).trans s3)).new hD
      · rw [upd_same, List.map_append]
        rfl
    · rintro H2 ⟨s2, b2, ks, lk, hl⟩
      refine ⟨DD, _, rfl, .inl ⟨SqL.of hl, fun p hp => ?_⟩⟩
      obtain ⟨npB, npL⟩ := b2.nb hp
      have s12 := s1.trans s2
      exact k _ (.ref p) ks (s12.new (s12.free hb hp b2)) (b2.upd_ npB npL) (by omega) (by omega) (.tup (SqT.of upd_same) (dpKinds ks))
end
end RS
set_option Elab.async false
set_option maxRecDepth 100000
set_option maxHeartbeats 4000000
namespace RS
open PySem PySem.Spec PyProof.Rows L2 GX
theorem perm_erase {α : Type} : ∀ {l : List α} {k : Nat} {x : α}, l[k]? = some x → l.Perm (x :: l.eraseIdx k)
  | [], k, x, h => by simp at h
  | y :: l, 0, x, h => by
    simp at h
    subst h
    exact List.Perm.refl _
  | y :: l, k + 1, x, h => by
    have ih := perm_erase (l := l) (k := k) (x := x) (by simpa using h)
    exact (ih.cons y).trans (List.Perm.swap x y _)
theorem map_erase {α β : Type} (f : α → β) : ∀ (l : List α) (k : Nat), (l.map f).eraseIdx k = (l.eraseIdx k).map f
  | [], _ => rfl
  | _ :: _, 0 => rfl
  | x :: l, k + 1 => by
    show f x :: (l.map f).eraseIdx k = f x :: (l.eraseIdx k).map f
    rw [map_erase f l k]
theorem seqIx {k n : Nat} (h : k < n) : seqIndex? (k : Int) n = some k := by
  simp [seqIndex?]
  omega
section
variable {P : Program} {w : World} {K : PySem.W.Frag} {mg : Str → Option Value} {base : Heap}
theorem dpNats {H : Hp} : ∀ ns : List Nat, DpAll K H (ns.map fun c => V.int (c : Nat)) (ns.map fun c => .int (c : Nat))
  | [] => .nil
  | _ :: ns => .cons (.int _) (dpNats ns)
theorem two_ways {k : Int} (h0 : 0 ≤ k) (h1 : k < 2) : ∃ b, atI [V.str "up", V.str "down"] k = some (.str (wayS b)) := by
  rcases (by omega : k = 0 ∨ k = 1) with e | e
  · subst e
    exact ⟨false, atI_nat (j := 0) rfl⟩
  · subst e
    exact ⟨true, atI_nat (j := 1) rfl⟩
theorem parts_noL (os : List (Nat × Bool)) : noLs (os.map partD) = true := noLs_iff.mpr fun d hd => by
  obtain ⟨p, _, rfl⟩ := List.mem_map.mp hd
  rfl
theorem scOrder : FnScope ["_law_box", "_law_kinds_here", "_law_left", "_law_found", "_law_turn"] ["_law_box", "_law_kinds_here"] (defScope sOrder) := ⟨rfl, rfl, rfl, by decide +kernel, rfl, by decide +kernel, by decide +kernel⟩
def spOrder (K : PySem.W.Frag) : Sp := fun vs H Q _ => ∃ (B L : Addr) (vk : V) (ks : List Bool), vs = [.ref B, vk] ∧ BoxAt H B L ∧ Dp K H vk (kindsD ks) ∧ 1 ≤ ks.length ∧ ks.length ≤ 4 ∧
  ∀ (H' : Hp) (a : Addr) (os : List (Nat × Bool)) (xs : List V), SameX B L H H' → BoxAt H' B L → OkOrder ks.length os → os.length ≤ 4 → H a = none → H' a = some (.lst xs) → DpAll K H' xs (os.map partD) → Q (.ref a) H'
theorem order_ok {c : Addr} (D : DefAt K mg "_law_order" sOrder c) (T : Txt K mg) (cT : Cal P w K mg base CX0 1 "_law_take" ["_law_box", "_law_many"] spTake) : Cal P w K mg base CX0 2 "_law_order" ["_law_box", "_law_kinds_here"] (spOrder K) := by
  have sc := scOrder
  refine def_ok0 D sc (fun vs H Q E h => ?_) (fun _ _ _ _ _ _ us hl => match us, hl with | [_, _], _ => rfl) (fun f A outer s H vs Q E hr h => ?_)
  · obtain ⟨B, L, vk, ks, rfl, _⟩ := h
    rfl
  · obtain ⟨B, L, vk, ks, rfl, hb, hk, k1, k4, k⟩ := h
    refine ⟨_, (pss_cons (ps_set (i := 2) sc.nd rfl (Or.inl rfl) (pe_listRg rfl (by rfl) T.list_ (prg_1 (by rfl) T.range (pe_callB call_lenD (by rfl) T.len PySem.boot_len (pa_cons (pv 1) pa_nil))))) (pss_cons (ps_set (i := 3) sc.nd rfl (Or.inl rfl) (pe_lst pa_nil)) (pss_cons (ps_for PassesOwn.never rfl (pi_range1 (by rfl) T.range (pa_cons (pe_op op_add pe_int (pe_c cT hr (by decide) (by rfl) pass0 (pa_cons (pv 0) (pa_cons (pe_callB call_lenD (by rfl) T.len PySem.boot_len (pa_cons (pv 1) pa_nil)) pa_nil)))) pa_nil)) (pg_name (i := 4) sc.nd rfl (Or.inl rfl)) (pss_one (ps_expr (pe_bm PySem.F.plainAttrs_list PySem.F.slot_list_append PySem.F.type_list_append mt_append (pv 3) (pa_cons (pe_tup (pa_cons (pe_bm PySem.F.plainAttrs_list PySem.F.slot_list_pop PySem.F.type_list_pop mt_popAt (pv 2) (pa_cons (pe_c cT hr (by decide) (by rfl) pass0 (pa_cons (pv 0) (pa_cons (pe_callB call_lenD (by rfl) T.len PySem.boot_len (pa_cons (pv 2) pa_nil)) pa_nil))) pa_nil)) (pa_cons (pe_ix ix_list (pe_lst (pa_cons pe_str (pa_cons pe_str pa_nil))) (pe_c cT hr (by decide) (by rfl) pass0 (pa_cons (pv 0) (pa_cons pe_int pa_nil))) (fun _ _ => rfl)) pa_nil))) pa_nil))))) (pss_one (ps_ret (pv 3)))))), ?_⟩
    have lk : (ks.map fun b => PyData.str (kindS b)).length = ks.length := List.length_map _
    refine ⟨_, rfl, vk, _, _, rfl, hk, rfl, _, rfl, .of_le (by decide) (by omega) (by decide) (by omega), fun Lf hLf => ?_⟩
    refine ⟨Nat.zero_le _, fun Fd hFd => ?_⟩
    obtain ⟨nfB, nfL⟩ := hb.nb hLf
    have hFd0 := upd_no hFd
    obtain ⟨ndB, ndL⟩ := hb.nb hFd0
    have nFL : Fd ≠ Lf := fun z => by rw [z, upd_same] at hFd; cases hFd
    have s1 : Same H (upd (upd H Lf (.lst (rgV 0 ((ks.map fun b => PyData.str (kindS b)).length : Nat)))) Fd (.lst [])) := fun b o e => by
      rw [upd_ne (ne_of_none e hFd0), upd_ne (ne_of_none e hLf)]
      exact e
    refine ⟨_, rfl, _, rfl, vk, _, _, rfl, dp_same s1 _ hk, rfl, B, L, _, rfl, hb.same s1, by omega, by omega, fun H1 n s2 b2 n0 n1 => ?_⟩
    refine ⟨_, _, rfl, rfl, _, rfl, by omega, by omega, ?_⟩
    rw [show (1 + n).toNat = n.toNat + 1 by omega]
    have hL1 : H1 Lf = some (.lst ((List.range ks.length).map fun c => V.int (c : Nat))) := by
      rw [s2 Lf (.lst (rgV 0 ((ks.map fun b => PyData.str (kindS b)).length : Nat))) nfB nfL ((upd_ne (Ne.symm nFL)).trans upd_same)]
      simp [rgV]
    have sHX : SameX B L H H1 := (SameX.of s1).trans s2
    have hF1 : H1 Fd = some (.lst []) := s2 Fd _ ndB ndL upd_same
    refine for_range (fun i σ H2 => ∃ (v4 : Option V) (cols : List Nat) (os : List (Nat × Bool)) (xs : List V), σ = [some (.ref B), some vk, some (.ref Lf), some (.ref Fd), v4] ∧ SameX B L H H2 ∧ BoxAt H2 B L ∧
      H2 Lf = some (.lst (cols.map fun c => V.int (c : Nat))) ∧ H2 Fd = some (.lst xs) ∧ DpAll K H2 xs (os.map partD) ∧ os.length = i ∧ cols.length + i = ks.length ∧ (os.map (·.1) ++ cols).Nodup ∧ ∀ c ∈ os.map (·.1) ++ cols, c < ks.length)
      ⟨none, List.range ks.length, [], [], rfl, sHX, b2, hL1, hF1, .nil, rfl, by rw [List.length_range]; rfl, List.nodup_range, fun c hc => List.mem_range.mp hc⟩ ?_ ?_
    · rintro i σ H2 hi ⟨v4, cols, os, xs, rfl, sm, b3, hL, hF, hd, lo, lc, nd, lt⟩
      have lc2 : (cols.map fun c => PyData.int (c : Nat)).length = cols.length := List.length_map _
      refine ⟨_, rfl, .inl ⟨rfl, _, SqL.of hF⟩, _, rfl, .inl ⟨rfl, _, SqL.of hL⟩, _, rfl, _, rfl, .ref Lf, _, _, rfl, .lst (SqL.of hL) (dpNats cols), rfl, B, L, _, rfl, b3, by omega, by omega, fun H3 k1 s4 b4 h0 h1 => ?_⟩
      obtain ⟨kn, rfl⟩ : ∃ kn : Nat, k1 = (kn : Int) := ⟨k1.toNat, by omega⟩
      have hkn : kn < cols.length := by omega
      have hL3 := s4 _ _ nfB nfL hL
      have hF3 := s4 _ _ ndB ndL hF
      refine ⟨Lf, _, (kn : Int), kn, .int (cols[kn] : Nat), rfl, rfl, hL3, by omega, by omega, seqIx (by rw [List.length_map]; exact hkn), by rw [List.getElem?_map, List.getElem?_eq_getElem hkn]; rfl, ?_⟩
      rw [map_erase]
      have b5 := b4.upd_ (o := .lst ((cols.eraseIdx kn).map fun c => V.int (c : Nat))) nfB nfL
      refine ⟨by show 2 ≤ sizeLine; decide, fun e he => ?_⟩
      obtain ⟨neB, neL⟩ := b5.nb he
      refine ⟨_, rfl, B, L, 2, rfl, b5.upd_ neB neL, by decide, by decide, fun H5 k2 s6 b6 g0 g1 => ?_⟩
      obtain ⟨bb, hbb⟩ := two_ways g0 g1
      refine ⟨e, _, k2, _, rfl, rfl, SqL.of (s6 e _ neB neL upd_same), hbb, ?_⟩
      refine ⟨by show 2 ≤ sizeLine; decide, fun p hp => ?_⟩
      obtain ⟨npB, npL⟩ := b6.nb hp
      have hF4 : upd H3 Lf (.lst ((cols.eraseIdx kn).map fun c => V.int (c : Nat))) Fd = some (.lst xs) := (upd_ne nFL).trans hF3
      have neF : Fd ≠ e := fun z => by rw [← z, hF4] at he; cases he
      have neLf : Lf ≠ e := fun z => by rw [← z, upd_same] at he; cases he
      have hF5 : H5 Fd = some (.lst xs) := s6 _ _ ndB ndL ((upd_ne neF).trans hF4)
      have hL5 : H5 Lf = some (.lst ((cols.eraseIdx kn).map fun c => V.int (c : Nat))) := s6 _ _ nfB nfL ((upd_ne neLf).trans upd_same)
      have npF : Fd ≠ p := fun z => by rw [← z, hF5] at hp; cases hp
      have npLf : Lf ≠ p := fun z => by rw [← z, hL5] at hp; cases hp
      have lx : xs.length = os.length := by rw [dpLen hd, List.length_map]
      refine ⟨Fd, xs, _, rfl, rfl, (upd_ne npF).trans hF5, small1000 (by omega), ?_⟩
      have he3 : H3 e = none := upd_no he
      have sH3 : SameX B L H H3 := sm.trans s4
      have hE0 := sH3.free hb he3 b4
      have sH5 : SameX B L H H5 := ((sH3.new hLf).new hE0).trans s6
      have hP0 := sH5.free hb hp b6
      have pn := parts_noL os
      have pn2 := parts_noL (os ++ [(cols[kn], bb)])
      have hd4 := dpAll_upd (u := (cols.eraseIdx kn).map fun c => V.int (c : Nat)) hL3 _ pn (dpAll_x b3 s4 _ pn hd)
      have hd5 : DpAll K H5 xs (os.map partD) := dpAll_x (b5.upd_ neB neL) s6 _ pn (dpAll_same (fun b o q => by rw [upd_ne (ne_of_none q he)]; exact q) _ hd4)
      have hd6 : DpAll K (upd H5 p (.tup [.int (cols[kn] : Nat), .str (wayS bb)])) (xs ++ [.ref p]) ((os ++ [(cols[kn], bb)]).map partD) := by
        rw [List.map_append]
        exact dpApp (dpAll_same (fun b o q => by rw [upd_ne (ne_of_none q hp)]; exact q) _ hd5) (.cons (.tup (SqT.of upd_same) (.cons (.int _) (.cons (.str _) .nil))) .nil)
      have pm := perm_erase (List.getElem?_eq_getElem hkn)
      have pq : ((os ++ [(cols[kn], bb)]).map (·.1) ++ cols.eraseIdx kn).Perm (os.map (·.1) ++ cols) := by
        rw [List.map_append, List.append_assoc]
        exact (pm.symm).append_left _
      have lE : (cols.eraseIdx kn).length + 1 = cols.length := by
        have := pm.length_eq
        rw [List.length_cons] at this
        omega
      refine ⟨_, cols.eraseIdx kn, os ++ [(cols[kn], bb)], _, rfl, (sH5.new hP0).new hFd0, (b6.upd_ npB npL).upd_ ndB ndL, (upd_ne (Ne.symm nFL)).trans ((upd_ne npLf).trans hL5), upd_same, dpAll_upd ((upd_ne npF).trans hF5) _ pn2 hd6, by rw [List.length_append, lo]; rfl, by omega, pq.nodup_iff.mpr nd, fun c hc => lt c (pq.mem_iff.mp hc)⟩
    · rintro σ H2 ⟨v4, cols, os, xs, rfl, sm, b3, hL, hF, hd, lo, lc, nd, lt⟩
      refine ⟨_, rfl, k H2 Fd os xs sm b3 ⟨fun z => ?_, fun p hp => lt _ (List.mem_append_left _ (List.mem_map.mpr ⟨p, hp, rfl⟩)), (List.nodup_append.mp nd).1⟩ (by omega) hFd0 hF hd⟩
      rw [z] at lo
      simp at lo
end
end RS
set_option Elab.async false
set_option maxRecDepth 100000
set_option maxHeartbeats 4000000
namespace RS
open PySem PySem.Spec PyProof.Rows L2 GX
/-- a new object in a heap that differs by the drawer -/
theorem al {B L e : Addr} {H H1 : Hp} {o : HO} (s : SameX B L H H1) (hb : BoxAt H B L) (b : BoxAt H1 B L) (he : H1 e = none) : SameX B L H (upd H1 e o) ∧ BoxAt (upd H1 e o) B L ∧ e ≠ B ∧ e ≠ L := by
  obtain ⟨n1, n2⟩ := b.nb he
  exact ⟨s.new (s.free hb he b), b.upd_ n1 n2, n1, n2⟩
theorem joinL_nil : ∀ ps : List (List Nat), TL.joinL [] ps = ps.flatten
  | [] => rfl
  | [p] => by simp [TL.joinL]
  | p :: q :: r => by
    show p ++ ([] ++ TL.joinL [] (q :: r)) = _
    rw [joinL_nil (q :: r), List.nil_append, List.flatten_cons, List.flatten_cons, List.flatten_cons]
def oneS (c : Nat) : Str := ⟨#[c]⟩
theorem flat_one : ∀ cs : List Nat, (cs.map (TL.tl ∘ oneS)).flatten = cs
  | [] => rfl
  | c :: cs => by
    rw [List.map_cons, List.flatten_cons, flat_one cs]
    rfl
theorem join_signs (cs : List Nat) : (Txt.join (Str.ofString "") (cs.map oneS)).cps.toList = cs := by
  have e := TL.tl_join (Str.ofString "") (cs.map oneS)
  rw [← TL.join_eq] at e
  have e2 : TL.tl (Str.ofString "") = [] := by decide +kernel
  rw [e2, joinL_nil, List.map_map, flat_one] at e
  exact e
theorem sum_ones : ∀ cs : List Nat, ((cs.map oneS).map (·.length)).sum = cs.length
  | [] => rfl
  | c :: cs => by
    rw [List.map_cons, List.map_cons, List.sum_cons, sum_ones cs]
    show 1 + cs.length = cs.length + 1
    omega
section
variable {P : Program} {w : World} {K : PySem.W.Frag} {mg : Str → Option Value} {base : Heap}
theorem scValue : FnScope ["_law_box", "_law_kind", "_law_many", "_law_letters", "_law_k"] ["_law_box", "_law_kind"] (defScope sValue) := ⟨rfl, rfl, rfl, by decide +kernel, rfl, by decide +kernel, by decide +kernel⟩
def spValueL (K : PySem.W.Frag) : Sp := fun vs H Q _ => ∃ (B L : Addr) (b : Bool), vs = [.ref B, .str (kindS b)] ∧ BoxAt H B L ∧
  ∀ (H' : Hp) (v : V) (d : PyData), SameX B L H H' → BoxAt H' B L → isVal b d = true → Dp K H' v d → Q v H'
theorem letters_ok {k : Int} (h0 : 0 ≤ k) (h1 : k < 2) : ∃ z : Str, atI [V.str "abz", V.str "abcdefghijklmnopqrstuvwxyz"] k = some (.str z) ∧ 1 ≤ z.length ∧ z.length ≤ 26 ∧ ∀ c ∈ z.cps.toList, signOk c = true := by
  rcases (by omega : k = 0 ∨ k = 1) with e | e
  · subst e
    exact ⟨_, atI_nat (j := 0) rfl, by decide +kernel, by decide +kernel, by decide +kernel⟩
  · subst e
    exact ⟨_, atI_nat (j := 1) rfl, by decide +kernel, by decide +kernel, by decide +kernel⟩
theorem num_isVal {n : Int} (h1 : -999 ≤ n) (h2 : n ≤ 999) : isVal false (.int n) = true := by
  simp [isVal, isNum, inBand, isI, isT, tyN, h1, h2]
theorem word_isVal {x : Str} (h : x.length ≤ 6) (ok : ∀ c ∈ x.cps.toList, signOk c = true) : isVal true (.str x) = true := by
  show (decide ((x.length : Int) ≤ 6) && x.cps.toList.all signOk) = true
  rw [Bool.and_eq_true]
  exact ⟨decide_eq_true (by omega), List.all_eq_true.mpr ok⟩
theorem value_ok {c : Addr} (D : DefAt K mg "_law_value" sValue c) (T : Txt K mg) (cT : Cal P w K mg base CX0 1 "_law_take" ["_law_box", "_law_many"] spTake) : Cal P w K mg base CX0 2 "_law_value" ["_law_box", "_law_kind"] (spValueL K) := by
  have sc := scValue
  refine def_ok0 D sc (fun vs H Q E h => ?_) (fun _ _ _ _ _ _ us hl => match us, hl with | [_, _], _ => rfl) (fun f A outer s H vs Q E hr h => ?_)
  · obtain ⟨B, L, b, rfl, _⟩ := h
    rfl
  · obtain ⟨B, L, b, rfl, hb, k⟩ := h
    refine ⟨_, (pss_cons (ps_if (pt_cmpR op_eq (pv 1) pe_str (nomark _)) (pss_one (ps_ret (pe_ix ix_list (pe_lst (pa_cons (pe_c cT hr (by decide) (by rfl) pass0 (pa_cons (pv 0) (pa_cons pe_int pa_nil))) (pa_cons (pe_op op_sub (pe_c cT hr (by decide) (by rfl) pass0 (pa_cons (pv 0) (pa_cons pe_int pa_nil))) pe_int) (pa_cons (pe_ix ix_list (pe_lst (pa_cons (pe_un un_neg pe_int) (pa_cons pe_int (pa_cons pe_int pa_nil)))) (pe_c cT hr (by decide) (by rfl) pass0 (pa_cons (pv 0) (pa_cons pe_int pa_nil))) (fun _ _ => rfl)) pa_nil)))) (pe_c cT hr (by decide) (by rfl) pass0 (pa_cons (pv 0) (pa_cons pe_int pa_nil))) (fun _ _ => rfl)))) pss_nil) (pss_cons (ps_set (i := 2) sc.nd rfl (Or.inl rfl) (pe_c cT hr (by decide) (by rfl) pass0 (pa_cons (pv 0) (pa_cons (pe_ix ix_list (pe_lst (pa_cons pe_int (pa_cons pe_int pa_nil))) (pe_c cT hr (by decide) (by rfl) pass0 (pa_cons (pv 0) (pa_cons pe_int pa_nil))) (fun _ _ => rfl)) pa_nil)))) (pss_cons (ps_set (i := 3) sc.nd rfl (Or.inr rfl) (pe_ix ix_list (pe_lst (pa_cons pe_str (pa_cons pe_str pa_nil))) (pe_c cT hr (by decide) (by rfl) pass0 (pa_cons (pv 0) (pa_cons pe_int pa_nil))) (fun _ _ => rfl))) (pss_one (ps_ret (pe_bm PySem.F.plainAttrs_str PySem.F.slot_str_join PySem.F.type_str_join mt_join pe_str (pa_cons (pe_lc (own := [("_law_k", 4)]) (tt := tYes)  rfl sc.nd (pi_range1 (by rfl) T.range (pa_cons (pv 2) pa_nil)) (blkOk_by (N := ["_law_box", "_law_kind", "_law_many", "_law_letters", "_law_k"]) (sc := defScope sValue) (own := [("_law_k", 4)]) (by decide +kernel)) (fun _ _ _ _ _ => (pg_name (i := 4) sc.nd rfl (Or.inl rfl))) (fun _ _ _ _ _ => pts_nil) (fun _ _ _ _ _ => pe_ix ix_str (pv 3) (pe_c cT hr (by decide) (by rfl) pass0 (pa_cons (pv 0) (pa_cons (pe_callB call_len_str (by rfl) T.len PySem.boot_len (pa_cons (pv 3) pa_nil)) pa_nil))) (fun _ _ => rfl))) pa_nil))))))), ?_⟩
    refine ⟨_, rfl, rfl, _, rfl, ?_⟩
    have ek : decide (V.str (kindS b) = V.str "number") = !b := by cases b <;> decide +kernel
    rw [ek]
    cases b with
    | false =>
      refine iteT ⟨_, rfl, B, L, 4, rfl, hb, by decide, by decide, fun H1 n1 s1 b1 a0 a1 => ?_⟩
      refine ⟨_, rfl, B, L, 1999, rfl, b1, by decide, by decide, fun H2 n2 s2 b2 c0 c1 => ?_⟩
      refine ⟨_, _, rfl, rfl, _, rfl, by show 3 ≤ sizeLine; decide, fun e1 he1 => ?_⟩
      have s12 := s1.trans s2
      obtain ⟨s3, b3, ne1, ne2⟩ := al (o := .lst [.int (-999), .int 999, .int 0]) s12 hb b2 he1
      refine ⟨_, rfl, B, L, 3, rfl, b3, by decide, by decide, fun H3 n3 s4 b4 d0 d1 => ?_⟩
      obtain ⟨w3, hw3, lo3, hi3⟩ : ∃ w3 : Int, atI [V.int (-999), V.int 999, V.int 0] n3 = some (.int w3) ∧ -999 ≤ w3 ∧ w3 ≤ 999 := by
        rcases (by omega : n3 = 0 ∨ n3 = 1 ∨ n3 = 2) with e | e | e
        · subst e; exact ⟨_, atI_nat (j := 0) rfl, by decide, by decide⟩
        · subst e; exact ⟨_, atI_nat (j := 1) rfl, by decide, by decide⟩
        · subst e; exact ⟨_, atI_nat (j := 2) rfl, by decide, by decide⟩
      refine ⟨e1, _, n3, _, rfl, rfl, SqL.of (s4 _ _ ne1 ne2 upd_same), hw3, by show 3 ≤ sizeLine; decide, fun e2 he2 => ?_⟩
      obtain ⟨s5, b5, me1, me2⟩ := al (o := .lst [.int n1, .int (n2 - 999), .int w3]) (s3.trans s4) hb b4 he2
      refine ⟨_, rfl, B, L, 3, rfl, b5, by decide, by decide, fun H4 n4 s6 b6 f0 f1 => ?_⟩
      obtain ⟨w4, hw4, lo4, hi4⟩ : ∃ w4 : Int, atI [V.int n1, V.int (n2 - 999), V.int w3] n4 = some (.int w4) ∧ -999 ≤ w4 ∧ w4 ≤ 999 := by
        rcases (by omega : n4 = 0 ∨ n4 = 1 ∨ n4 = 2) with e | e | e
        · subst e; exact ⟨_, atI_nat (j := 0) rfl, by omega, by omega⟩
        · subst e; exact ⟨_, atI_nat (j := 1) rfl, by omega, by omega⟩
        · subst e; exact ⟨_, atI_nat (j := 2) rfl, by omega, by omega⟩
      exact ⟨e2, _, n4, _, rfl, rfl, SqL.of (s6 _ _ me1 me2 upd_same), hw4, k _ _ (.int w4) (s5.trans s6) b6 (num_isVal lo4 hi4) (.int w4)⟩
    | true =>
      refine iteF ⟨_, rfl, by show 2 ≤ sizeLine; decide, fun e1 he1 => ?_⟩
      obtain ⟨s1, b1, ne1, ne2⟩ := al (o := .lst [.int 3, .int 7]) SameX.refl hb hb he1
      refine ⟨_, rfl, B, L, 2, rfl, b1, by decide, by decide, fun H1 n1 s2 b2 a0 a1 => ?_⟩
      obtain ⟨w1, hw1, lo1, hi1⟩ : ∃ w1 : Int, atI [V.int 3, V.int 7] n1 = some (.int w1) ∧ 1 ≤ w1 ∧ w1 ≤ 7 := by
        rcases (by omega : n1 = 0 ∨ n1 = 1) with e | e
        · subst e; exact ⟨_, atI_nat (j := 0) rfl, by decide, by decide⟩
        · subst e; exact ⟨_, atI_nat (j := 1) rfl, by decide, by decide⟩
      refine ⟨e1, _, n1, _, rfl, rfl, SqL.of (s2 _ _ ne1 ne2 upd_same), hw1, B, L, w1, rfl, b2, by omega, by omega, fun H2 n2 s3 b3 c0 c1 => ?_⟩
      have sA := (s1.trans s2).trans s3
      refine ⟨by show 2 ≤ sizeLine; decide, fun e2 he2 => ?_⟩
      obtain ⟨s4, b4, me1, me2⟩ := al (o := .lst [.str "abz", .str "abcdefghijklmnopqrstuvwxyz"]) sA hb b3 he2
      refine ⟨_, rfl, B, L, 2, rfl, b4, by decide, by decide, fun H3 n3 s5 b5 d0 d1 => ?_⟩
      obtain ⟨z, hz, z1, z26, zok⟩ := letters_ok d0 d1
      have big : (26 : Nat) ≤ sizeLine := by decide
      refine ⟨e2, _, n3, _, rfl, rfl, SqL.of (s5 _ _ me1 me2 upd_same), hz, ?_⟩
      have sB := s4.trans s5
      refine ⟨rfl, _, rfl, _, rfl, by omega, by omega, fun DD hD => ?_⟩
      obtain ⟨s6, b6, nDB, nDL⟩ := al (o := .lst []) sB hb b5 hD
      have hD0 := sB.free hb hD b5
      refine lc_range (fun i H' => SameX B L H H' ∧ BoxAt H' B L ∧ ∃ cs : List Nat, cs.length = i ∧ (∀ c ∈ cs, signOk c = true) ∧ H' DD = some (.lst (cs.map fun c => V.str (oneS c)))) ⟨s6, b6, [], rfl, (fun _ h => nomatch h), upd_same⟩ ?_ ?_
      · rintro i H4 hi ⟨s7, b7, cs, lc, okc, hl⟩
        refine ⟨rfl, _, rfl, _, rfl, _, rfl, z, rfl, by omega, B, L, _, rfl, b7, by omega, by omega, fun H5 n5 s8 b8 f0 f1 => ?_⟩
        obtain ⟨kn, rfl⟩ : ∃ kn : Nat, n5 = (kn : Int) := ⟨n5.toNat, by omega⟩
        have hkn : kn < z.cps.toList.length := by rw [len_cps]; omega
        refine ⟨z, _, z.cps.toList[kn], rfl, rfl, by omega, atI_nat (List.getElem?_eq_getElem hkn), ?_⟩
        refine ⟨_, s8 _ _ nDB nDL hl, small1000 (by rw [List.length_map]; omega), (s7.trans s8).new hD0, b8.upd_ nDB nDL, cs ++ [z.cps.toList[kn]], by rw [List.length_append, lc]; rfl, fun c hc => ?_, ?_⟩
        · rcases List.mem_append.mp hc with hc | hc
          · exact okc c hc
          · rw [List.mem_singleton.mp hc]
            exact zok _ (List.getElem_mem hkn)
        · rw [upd_same, List.map_append]
          rfl
      · rintro H4 ⟨s7, b7, cs, lc, okc, hl⟩
        have js := join_signs cs
        refine ⟨_, DD, cs.map oneS, rfl, rfl, .inl (SqL.of (by rw [List.map_map]; exact hl)), ?_, ?_⟩
        · rw [sum_ones, List.length_map]
          have e0 : (Str.ofString "").length = 0 := by decide +kernel
          show cs.length + cs.length * (Str.ofString "").length ≤ 16777216
          rw [e0]
          omega
        · refine k _ _ (.str _) s7 b7 (word_isVal ?_ ?_) (.str _)
          · rw [← len_cps, js]
            omega
          · rw [js]
            exact okc
end
end RS
set_option Elab.async false
set_option maxRecDepth 100000
set_option maxHeartbeats 4000000
namespace RS
open PySem PySem.Spec PyProof.Rows L2 GX
section
variable {P : Program} {w : World} {K : PySem.W.Frag} {mg : Str → Option Value} {base : Heap}
def Vals1 (ks : List Bool) (r : List PyData) : Prop := ∀ (j : Nat) (d : PyData), r[j]? = some d → ∃ b, ks[j]? = some b ∧ isVal b d = true
theorem isRow_get {ks : List Bool} {r : List PyData} : isRow ks (.tuple r) = true ↔ r.length = ks.length ∧ Vals1 ks r := by
  rw [isRow_iff]
  constructor
  · rintro ⟨hl, ha⟩
    refine ⟨hl, fun j d hj => ?_⟩
    have h1 := (List.getElem?_eq_some_iff.mp hj).1
    have h2 : j < ks.length := by omega
    refine ⟨ks[j], List.getElem?_eq_getElem h2, List.all_eq_true.mp ha (ks[j], d) ?_⟩
    rw [List.mem_iff_getElem]
    refine ⟨j, by rw [List.length_zip]; omega, ?_⟩
    rw [List.getElem_zip, (List.getElem?_eq_some_iff.mp hj).2]
  · rintro ⟨hl, ha⟩
    refine ⟨hl, List.all_eq_true.mpr fun p hp => ?_⟩
    obtain ⟨j, hj, e⟩ := List.getElem_of_mem hp
    rw [List.length_zip] at hj
    rw [List.getElem_zip] at e
    obtain ⟨b, h1, h2⟩ := ha j r[j] (List.getElem?_eq_getElem (by omega))
    rw [List.getElem?_eq_getElem (by omega)] at h1
    cases h1
    rw [← e]
    exact h2
theorem vals_noL {ks : List Bool} {r : List PyData} (h : Vals1 ks r) : noLs r = true := noLs_iff.mpr fun d hd => by
  obtain ⟨j, hj, e⟩ := List.getElem_of_mem hd
  obtain ⟨b, _, hv⟩ := h j d (by rw [List.getElem?_eq_getElem hj, e])
  rcases val_atom hv with ⟨_, x, rfl⟩ | ⟨_, n, rfl⟩ <;> rfl
theorem vals_snoc {ks : List Bool} {r : List PyData} {b : Bool} {d : PyData} (h : Vals1 ks r) (hb : ks[r.length]? = some b) (hv : isVal b d = true) : Vals1 ks (r ++ [d]) := fun j e hj => by
  by_cases hlt : j < r.length
  · rw [List.getElem?_append_left hlt] at hj
    exact h j e hj
  · have h1 := (List.getElem?_eq_some_iff.mp hj).1
    rw [List.length_append, List.length_singleton] at h1
    have e1 : j = r.length := by omega
    subst e1
    rw [List.getElem?_append_right (Nat.le_refl _), Nat.sub_self] at hj
    cases hj
    exact ⟨b, hb, hv⟩
theorem vals_set0 {ks : List Bool} {r : List PyData} {d : PyData} (h : Vals1 ks r) (hb : ks[0]? = some false) (hv : isVal false d = true) : Vals1 ks (r.set 0 d) := fun j e hj => by
  cases j with
  | zero =>
    cases r with
    | nil => cases hj
    | cons x r =>
      cases hj
      exact ⟨false, hb, hv⟩
  | succ j =>
    cases r with
    | nil => cases hj
    | cons x r => exact h (j + 1) e hj
theorem dpAll_set0 {K : PySem.W.Frag} {H : Hp} {xs : List V} {ds : List PyData} {v : V} {d : PyData} (h : DpAll K H xs ds) (hv : Dp K H v d) : DpAll K H (xs.set 0 v) (ds.set 0 d) := by
  cases h with
  | nil => exact .nil
  | cons _ t => exact .cons hv t
theorem rowsL_noL {ks : List Bool} {rs : List (List PyData)} (h : ∀ r ∈ rs, isRow ks (.tuple r) = true) : noLs (rs.map .tuple) = true := noLs_iff.mpr fun d hd => by
  obtain ⟨r, hr, rfl⟩ := List.mem_map.mp hd
  exact vals_noL (isRow_get.mp (h r hr)).2
theorem signOk_le {c : Nat} (h : signOk c = true) : c ≤ 122 := by
  unfold signOk at h
  rw [Bool.and_eq_true] at h
  have h2 : ¬ ([122] : List Nat) < [c] := by simpa using h.2
  by_cases q : c ≤ 122
  · exact q
  · exact absurd (List.cons_lt_cons_iff.mpr (.inl (by omega))) h2
theorem sign_strOk {x : Str} (h : isWord (.str x) = true) : PyData.strOk x = true := by
  have h' : (decide ((x.length : Int) ≤ 6) && x.cps.toList.all signOk) = true := h
  rw [Bool.and_eq_true] at h'
  unfold PyData.strOk
  rw [Array.all_eq_true']
  intro c hc
  have := signOk_le (List.all_eq_true.mp h'.2 c (Array.mem_toList_iff.mpr hc))
  exact decide_eq_true (by omega)
theorem val_shape {b : Bool} {d : PyData} (h : isVal b d = true) : d.canLay0 = true ∧ d.depth = 0 := by
  rcases val_atom h with ⟨e, x, rfl⟩ | ⟨e, n, rfl⟩
  · subst e
    exact ⟨by simp only [PyData.canLay0]; exact sign_strOk h, by simp [PyData.depth]⟩
  · exact ⟨by simp [PyData.canLay0], by simp [PyData.depth]⟩
theorem canLayAll {ds : List PyData} (h : ∀ d ∈ ds, d.canLay0 = true) : PyData.canLayAll0 ds = true := by
  induction ds with
  | nil => simp [PyData.canLayAll0]
  | cons d ds ih =>
    simp only [PyData.canLayAll0, Bool.and_eq_true]
    exact ⟨h d List.mem_cons_self, ih fun e he => h e (List.mem_cons_of_mem _ he)⟩
theorem depthLe {n : Nat} : ∀ {ds : List PyData}, (∀ d ∈ ds, d.depth ≤ n) → PyData.depthAll ds ≤ n
  | [], _ => by simp [PyData.depthAll]
  | d :: ds, h => by
    simp only [PyData.depthAll]
    have h1 := h d List.mem_cons_self
    have h2 := depthLe (ds := ds) fun e he => h e (List.mem_cons_of_mem _ he)
    omega
theorem row_shape {ks : List Bool} {r : List PyData} (h : isRow ks (.tuple r) = true) : (PyData.tuple r).canLay0 = true ∧ (PyData.tuple r).depth ≤ 1 := by
  refine ⟨?_, ?_⟩
  · simp only [PyData.canLay0]
    exact canLayAll fun d hd => by
      obtain ⟨b, hv⟩ := row_val h hd
      exact (val_shape hv).1
  · simp only [PyData.depth]
    have := depthLe (n := 0) (ds := r) fun d hd => by
      obtain ⟨b, hv⟩ := row_val h hd
      exact Nat.le_of_eq (val_shape hv).2
    omega
theorem rowsL_shaped {ks : List Bool} {rs : List (List PyData)} (h : ∀ r ∈ rs, isRow ks (.tuple r) = true) : SeqAt.shaped (.list (rs.map .tuple)) = true := by
  unfold SeqAt.shaped
  rw [Bool.and_eq_true]
  refine ⟨?_, decide_eq_true ?_⟩
  · simp only [PyData.canLay0]
    exact canLayAll fun d hd => by
      obtain ⟨r, hr, rfl⟩ := List.mem_map.mp hd
      exact (row_shape (h r hr)).1
  · simp only [PyData.depth]
    have := depthLe (n := 1) (ds := rs.map .tuple) fun d hd => by
      obtain ⟨r, hr, rfl⟩ := List.mem_map.mp hd
      exact (row_shape (h r hr)).2
    omega
theorem via {tc : TT} {ta tb : TS} {D : Ends} {σ : L2.St} {H : Hp} (N : L2.St → Hp → Prop) (h1 : ∀ nx : L2.St → Hp → Prop, (∀ σ' H', N σ' H' → nx σ' H') → tIfS tc ta tb { D with nx := nx } σ H) (h2 : ∀ σ' H', N σ' H' → D.nx σ' H') : tIfS tc ta tb D σ H := h1 D.nx h2
theorem viaS {tc : TT} {ta tb u : TS} {D : Ends} {σ : L2.St} {H : Hp} (N : L2.St → Hp → Prop) (h1 : ∀ nx : L2.St → Hp → Prop, (∀ σ' H', N σ' H' → nx σ' H') → tIfS tc ta tb { D with nx := nx } σ H) (h2 : ∀ σ' H', N σ' H' → u D σ' H') : tSeq (tIfS tc ta tb) u D σ H := h1 (u D) h2
theorem scRows : FnScope ["_law_box", "_law_kinds_here", "_law_most", "_law_found", "_law_way", "_law_turn", "_law_row", "_law_kind"] ["_law_box", "_law_kinds_here", "_law_most"] (defScope sRows) := ⟨rfl, rfl, rfl, by decide +kernel, rfl, by decide +kernel, by decide +kernel⟩
def spRows (K : PySem.W.Frag) : Sp := fun vs H Q _ => ∃ (B L : Addr) (vk : V) (ks : List Bool) (m : Int), vs = [.ref B, vk, .int m] ∧ BoxAt H B L ∧ Dp K H vk (kindsD ks) ∧ 1 ≤ ks.length ∧ ks.length ≤ 4 ∧ 0 ≤ m ∧ m ≤ 120 ∧
  ∀ (H' : Hp) (a : Addr) (rs : List (List PyData)) (xs : List V), SameX B L H H' → BoxAt H' B L → rs.length ≤ 120 → (∀ r ∈ rs, isRow ks (.tuple r) = true) → H a = none → H' a = some (.lst xs) → DpAll K H' xs (rs.map .tuple) → Q (.ref a) H'
theorem rows_ok {c : Addr} (D : DefAt K mg "_law_rows" sRows c) (T : Txt K mg) (cT : Cal P w K mg base CX0 1 "_law_take" ["_law_box", "_law_many"] spTake) (cV : Cal P w K mg base CX0 2 "_law_value" ["_law_box", "_law_kind"] (spValueL K)) :
    Cal P w K mg base CX0 3 "_law_rows" ["_law_box", "_law_kinds_here", "_law_most"] (spRows K) := by
  have sc := scRows
  refine def_ok0 D sc (fun vs H Q E h => ?_) (fun _ _ _ _ _ _ us hl => match us, hl with | [_, _, _], _ => rfl) (fun f A outer s H vs Q E hr h => ?_)
  · obtain ⟨B, L, vk, ks, m, rfl, _⟩ := h
    rfl
  · obtain ⟨B, L, vk, ks, m, rfl, hb, hk, k1, k4, m0, m1, k⟩ := h
    have hu := hr.units
    refine ⟨_, (pss_cons (ps_set (i := 3) sc.nd rfl (Or.inl rfl) (pe_lst pa_nil)) (pss_cons (ps_set (i := 4) sc.nd rfl (Or.inl rfl) (pe_c cT hr (by decide) (by rfl) pass0 (pa_cons (pv 0) (pa_cons pe_int pa_nil)))) (pss_cons (ps_for PassesOwn.never rfl (pi_range1 (by rfl) T.range (pa_cons (pe_c cT hr (by decide) (by rfl) pass0 (pa_cons (pv 0) (pa_cons (pe_op op_add (pv 2) pe_int) pa_nil))) pa_nil)) (pg_name (i := 5) sc.nd rfl (Or.inl rfl)) (pss_cons (ps_setLc (own := [("_law_kind", 7)]) (tt := tYes) rfl sc.nd (i := 6) rfl rfl (by rfl) (pi_tup (pv 1)) (blkOk_by (N := ["_law_box", "_law_kinds_here", "_law_most", "_law_found", "_law_way", "_law_turn", "_law_row", "_law_kind"]) (sc := defScope sRows) (own := [("_law_kind", 7)]) (by decide +kernel)) (fun _ _ _ _ _ => (pg_name (i := 7) sc.nd rfl (Or.inl rfl))) (fun _ _ _ _ _ => pts_nil) (fun _ _ _ _ _ => (pe_c cV hr (by decide) (by rfl) pass0 (pa_cons (pv 0) (pa_cons (pv 7) pa_nil))))) (pss_cons (ps_if ((pw_and (pt_cmpR (op_neD hu) (pv 3) (pe_lst pa_nil) (nomark _)) (pw_and1 (pt_cmpR op_eq (pe_c cT hr (by decide) (by rfl) pass0 (pa_cons (pv 0) (pa_cons pe_int pa_nil))) pe_int (nomark _)))).pt) (pss_one (ps_set (i := 6) sc.nd rfl (Or.inl rfl) (pe_callTy call_list_of (by rfl) T.list_ (by decide +kernel) (pa_cons (pe_ix ixD (pv 3) (pe_c cT hr (by decide) (by rfl) pass0 (pa_cons (pv 0) (pa_cons (pe_callB call_lenD (by rfl) T.len PySem.boot_len (pa_cons (pv 3) pa_nil)) pa_nil))) (fun _ _ => rfl)) pa_nil)))) pss_nil) (pss_cons (ps_if ((pw_and (pt_cmpR (op_neD hu) (pv 3) (pe_lst pa_nil) (nomark _)) (pw_and (pt_cmpR op_lt (pv 4) pe_int (nomark _)) (pw_and1 (pt_cmpR op_eq (pe_ix ix_tup (pv 1) pe_int (fun _ _ => rfl)) pe_str (nomark _))))).pt) (pss_one (ps_asg (pe_callB (call_max2 rfl) (by rfl) T.max boot_max (pa_cons (pe_un un_neg pe_int) (pa_cons (pe_callB (call_min2 rfl) (by rfl) T.min boot_min (pa_cons pe_int (pa_cons (pe_op op_add (pe_ix ixD (pe_ix ixD (pv 3) (pe_un un_neg pe_int) (fun _ _ => rfl)) pe_int (fun _ _ => rfl)) (pe_op op_mul (pe_ix ix_list (pe_lst (pa_cons pe_int (pa_cons (pe_un un_neg pe_int) pa_nil))) (pv 4) (fun _ _ => rfl)) (pe_c cT hr (by decide) (by rfl) pass0 (pa_cons (pv 0) (pa_cons pe_int pa_nil))))) pa_nil))) pa_nil))) (pg_sub (pv 6) pe_int set_list))) pss_nil) (pss_one (ps_expr (pe_bm PySem.F.plainAttrs_list PySem.F.slot_list_append PySem.F.type_list_append mt_append (pv 3) (pa_cons (pe_callTy call_tuple_of (by rfl) T.tuple_ (by decide +kernel) (pa_cons (pv 6) pa_nil)) pa_nil)))))))) (pss_one (ps_ret (pv 3)))))), ?_⟩
    refine ⟨Nat.zero_le _, fun Fd hFd => ?_⟩
    obtain ⟨s1, b1, nFB, nFL⟩ := al (o := .lst []) SameX.refl hb hb hFd
    refine ⟨_, rfl, B, L, 4, rfl, b1, by decide, by decide, fun H1 way s2 b2 w0 w1 => ?_⟩
    refine ⟨_, rfl, _, rfl, _, _, rfl, rfl, B, L, _, rfl, b2, by omega, by omega, fun H2 n s3 b3 n0 n1 => ?_⟩
    refine ⟨_, rfl, by omega, by omega, ?_⟩
    have sA := (s1.trans s2).trans s3
    have hF2 : H2 Fd = some (.lst []) := s3 _ _ nFB nFL (s2 _ _ nFB nFL upd_same)
    refine for_range (fun i σ H2 => ∃ (v5 v6 : Option V) (rs : List (List PyData)) (xs : List V), σ = [some (.ref B), some vk, some (.int m), some (.ref Fd), some (.int way), v5, v6, none] ∧ SameX B L H H2 ∧ BoxAt H2 B L ∧
      H2 Fd = some (.lst xs) ∧ DpAll K H2 xs (rs.map .tuple) ∧ rs.length = i ∧ ∀ r ∈ rs, isRow ks (.tuple r) = true) ⟨none, none, [], [], rfl, sA, b3, hF2, .nil, rfl, (fun _ h => nomatch h)⟩ ?_ ?_
    · rintro i σ H3 hi ⟨v5, v6, rs, xs, rfl, sm, b4, hF, hd, lr, okr⟩
      have hk3 := dp_x hb sm _ (kinds_noL ks) hk
      obtain ⟨ak, xk, rfl, hSk, hIk⟩ : ∃ ak xk, vk = .ref ak ∧ SqT K H3 ak xk ∧ DpAll K H3 xk (ks.map fun b => .str (kindS b)) := by
        cases hk3 with
        | tup q1 q2 => exact ⟨_, _, rfl, q1, q2⟩
      have lk : xk.length = ks.length := by rw [dpLen hIk, List.length_map]
      refine ⟨_, rfl, ak, rfl, ⟨_, hSk⟩, fun DD hD => ?_⟩
      obtain ⟨s5, b5, nDB, nDL⟩ := al (o := .lst []) SameX.refl b4 b4 hD
      have nDF : DD ≠ Fd := fun z => by rw [z, hF] at hD; cases hD
      refine lc_tup (K := K) (a := ak) (xs := xk) (fun j H4 => SameX B L H3 H4 ∧ BoxAt H4 B L ∧ ∃ (ds : List PyData) (ys : List V), ds.length = j ∧ Vals1 ks ds ∧ H4 DD = some (.lst ys) ∧ DpAll K H4 ys ds)
        ⟨s5, b5, [], [], rfl, (fun j d h => by simp at h), upd_same, .nil⟩ (fun j H4 _ h => sqT_x b4 h.1 hSk) ?_ ?_
      · rintro j x H4 hx ⟨s6, b6, ds, ys, ld, hv, hl, hdd⟩
        obtain ⟨dk, ek, hdk⟩ := dpGet hIk hx
        obtain ⟨bk, ebk, rfl⟩ : ∃ b, ks[j]? = some b ∧ dk = .str (kindS b) := by
          rw [List.getElem?_map] at ek
          cases q : ks[j]? with
          | none => rw [q] at ek; cases ek
          | some b => rw [q] at ek; exact ⟨b, rfl, (Option.some.inj ek).symm⟩
        cases hdk
        have hj : j < ks.length := (List.getElem?_eq_some_iff.mp ebk).1
        have ly : ys.length = ds.length := dpLen hdd
        refine ⟨rfl, _, rfl, _, rfl, B, L, bk, rfl, b6, fun H5 v d s7 b7 hv2 hd2 => ?_⟩
        have hl5 := s7 _ _ nDB nDL hl
        have vs2 := vals_snoc hv (by rw [ld]; exact ebk) hv2
        refine ⟨ys, hl5, small1000 (by omega), (s6.trans s7).new hD, b7.upd_ nDB nDL, ds ++ [d], ys ++ [v], by rw [List.length_append, ld]; rfl, vs2, upd_same, ?_⟩
        exact dpAll_upd hl5 _ (vals_noL vs2) (dpApp (dpAll_x b6 s7 _ (vals_noL hv) hdd) (.cons hd2 .nil))
      · rintro H4 ⟨s6, b6, ds, ys, ld, hv, hl, hdd⟩
        dsimp only [gName]
        have hF4 := s6 _ _ nFB nFL hF
        have okn := rowsL_noL okr
        have hd4 := dpAll_x b4 s6 _ okn hd
        have lx : xs.length = rs.length := by rw [dpLen hd, List.length_map]
        have shr := rowsL_shaped okr
        have fX : ∀ HX, SameX B L H3 HX → HX Fd = some (.lst xs) ∧ DpAll K HX xs (rs.map .tuple) := fun HX sX => ⟨sX _ _ nFB nFL hF, dpAll_x b4 sX _ okn hd⟩
        let N : L2.St → Hp → Prop := fun σ' H' => ∃ (Rw : Addr) (ys : List V) (r : List PyData), σ' = [some (.ref B), some (.ref ak), some (.int m), some (.ref Fd), some (.int way), some (.int (0 + (i : Nat))), some (.ref Rw), none] ∧ SameX B L H3 H' ∧ BoxAt H' B L ∧ H3 Rw = none ∧ H' Rw = some (.lst ys) ∧ DpAll K H' ys r ∧ r.length = ks.length ∧ Vals1 ks r
        have nD : ∀ HX, SameX B L H4 HX → BoxAt HX B L → N [some (.ref B), some (.ref ak), some (.int m), some (.ref Fd), some (.int way), some (.int (0 + (i : Nat))), some (.ref DD), none] HX := fun HX sX bX =>
          ⟨DD, ys, ds, rfl, s6.trans sX, bX, hD, sX _ _ nDB nDL hl, dpAll_x b6 sX _ (vals_noL hv) hdd, by omega, hv⟩
        refine viaS N (fun nx next => ?_) ?_
        · refine ⟨_, rfl, Nat.zero_le _, fun e he => ?_⟩
          obtain ⟨s7, b7, ne1, ne2⟩ := al (o := .lst []) SameX.refl b6 b6 he
          obtain ⟨hFe, hde⟩ := fX _ (s6.trans s7)
          refine ⟨.list (rs.map .tuple), .list [], .lst (SqL.of hFe) hde, .lst (SqL.of upd_same) .nil, shr, rfl, _, rfl, ?_⟩
          rw [eqv_nil]
          by_cases hrs : rs = []
          · subst hrs
            exact iteF (iteF (next _ _ (nD _ s7 b7)))
          · have en : (!(rs.map PyData.tuple).isEmpty) = true := by
              cases rs with
              | nil => exact absurd rfl hrs
              | cons _ _ => rfl
            rw [en]
            refine iteT ⟨_, rfl, B, L, 3, rfl, b7, by decide, by decide, fun H5 n5 s8 b8 h0 h1 => ?_⟩
            have s78 := s7.trans s8
            refine ⟨rfl, _, rfl, ?_⟩
            refine ite2 (fun h3 => ?_) (fun h3 => next _ _ (nD _ s78 b8))
            obtain ⟨hF5, hd5⟩ := fX _ (s6.trans s78)
            have lrs : (rs.map PyData.tuple).length = rs.length := List.length_map _
            have rs1 : 1 ≤ rs.length := by
              cases rs with
              | nil => exact absurd rfl hrs
              | cons _ _ => simp
            refine ⟨_, rfl, _, rfl, _, rfl, .ref Fd, _, _, rfl, .lst (SqL.of hF5) hd5, rfl, B, L, _, rfl, b8, by omega, by omega, fun H6 n6 s9 b9 g0 g1 => ?_⟩
            obtain ⟨kn, rfl⟩ : ∃ kn : Nat, n6 = (kn : Int) := ⟨n6.toNat, by omega⟩
            have hkn : kn < rs.length := by omega
            have s79 := s78.trans s9
            obtain ⟨hF6, hd6⟩ := fX _ (s6.trans s79)
            have hrow := isRow_get.mp (okr rs[kn] (List.getElem_mem hkn))
            refine ⟨.list (rs.map .tuple), _, (kn : Int), .tuple rs[kn], .lst (SqL.of hF6) hd6, rfl, rfl, atI_nat (by rw [List.getElem?_map, List.getElem?_eq_getElem hkn]; rfl), fun v hv6 => ?_⟩
            cases hv6 with
            | @tup at_ xt _ hSt hIt =>
              refine ⟨at_, xt, rfl, .inr hSt, fun l hl6 => ?_⟩
              obtain ⟨s10, b10, m1, m2⟩ := al (o := .lst xt) (s6.trans s79) b4 b9 hl6
              exact next _ _ ⟨l, xt, rs[kn], rfl, s10, b10, (s6.trans s79).free b4 hl6 b9, upd_same, dpAll_same (fun b' o e => by rw [upd_ne (ne_of_none e hl6)]; exact e) _ hIt, hrow.1, hrow.2⟩
        · rintro σ' H5 ⟨Rw, ys2, r, rfl, s7, b7, hRw0, hRw, hdr, lr2, vr⟩
          obtain ⟨nRB, nRL⟩ := b4.nb hRw0
          have nRF : Rw ≠ Fd := fun z => by rw [z, hF] at hRw0; cases hRw0
          have nN : ∀ HX, SameX B L H5 HX → BoxAt HX B L → N [some (.ref B), some (.ref ak), some (.int m), some (.ref Fd), some (.int way), some (.int (0 + (i : Nat))), some (.ref Rw), none] HX := fun HX sX bX =>
            ⟨Rw, ys2, r, rfl, s7.trans sX, bX, hRw0, sX _ _ nRB nRL hRw, dpAll_x b7 sX _ (vals_noL vr) hdr, lr2, vr⟩
          refine viaS N (fun nx next => ?_) ?_
          · refine ⟨_, rfl, Nat.zero_le _, fun e he => ?_⟩
            obtain ⟨s8, b8, ne1, ne2⟩ := al (o := .lst []) SameX.refl b7 b7 he
            obtain ⟨hFe, hde⟩ := fX _ (s7.trans s8)
            refine ⟨.list (rs.map .tuple), .list [], .lst (SqL.of hFe) hde, .lst (SqL.of upd_same) .nil, shr, rfl, _, rfl, ?_⟩
            rw [eqv_nil]
            by_cases hrs : rs = []
            · subst hrs
              exact iteF (iteF (next _ _ (nN _ s8 b8)))
            · obtain ⟨M, rl, rfl⟩ := SrtO.snoc_of (l := rs) (by
                cases rs with
                | nil => exact absurd rfl hrs
                | cons _ _ => simp)
              have en : (!((M ++ [rl]).map PyData.tuple).isEmpty) = true := by
                rw [List.map_append]
                cases M <;> rfl
              rw [en]
              refine iteT ⟨_, rfl, _, _, rfl, rfl, _, rfl, ?_⟩
              refine ite2 (fun hw => ?_) (fun hw => iteF (next _ _ (nN _ s8 b8)))
              have hw := of_decide_eq_true hw
              obtain ⟨b0, hb0⟩ : ∃ b0, ks[0]? = some b0 := ⟨_, List.getElem?_eq_getElem (by omega)⟩
              obtain ⟨vk0, evk, hvk⟩ := dpGet' (i := 0) (d := .str (kindS b0)) hIk (by rw [List.getElem?_map, hb0]; rfl)
              cases hvk
              have hSk8 := sqT_x b4 (s7.trans s8) hSk
              refine ⟨_, rfl, ak, xk, _, _, rfl, rfl, hSk8, atI_nat evk, rfl, _, rfl, ?_⟩
              have ek : decide (V.str (kindS b0) = V.str "number") = !b0 := by cases b0 <;> decide +kernel
              rw [ek]
              cases b0 with
              | true => exact iteF (next _ _ (nN _ s8 b8))
              | false =>
                have hrl := isRow_get.mp (okr rl (by simp))
                obtain ⟨d0, hd0⟩ : ∃ d0, rl[0]? = some d0 := ⟨_, List.getElem?_eq_getElem (by omega)⟩
                obtain ⟨b', hb', hv0⟩ := hrl.2 0 d0 hd0
                rw [hb0] at hb'
                cases hb'
                obtain ⟨nn, rfl⟩ : ∃ nn, d0 = .int nn := by
                  rcases val_atom hv0 with ⟨e, _⟩ | ⟨_, q⟩
                  · cases e
                  · exact q
                refine iteT ⟨_, rfl, _, rfl, _, rfl, .list ((M ++ [rl]).map .tuple), _, -1, .tuple rl, .lst (SqL.of hFe) hde, rfl, rfl, by rw [List.map_append]; exact atI_last _ _, fun v hv1 => ?_⟩
                refine ⟨.tuple rl, rl, 0, .int nn, hv1, rfl, rfl, atI_nat (j := 0) hd0, fun v2 hv2 => ?_⟩
                cases hv2
                refine ⟨_, rfl, by show 2 ≤ sizeLine; decide, fun e2 he2 => ?_⟩
                obtain ⟨s9, b9, nf1, nf2⟩ := al (o := .lst [.int 1, .int (-1)]) s8 b7 b8 he2
                obtain ⟨ww, hww, lo, hi'⟩ : ∃ ww : Int, atI [V.int 1, V.int (-1)] way = some (.int ww) ∧ -1 ≤ ww ∧ ww ≤ 1 := by
                  rcases (by omega : way = 0 ∨ way = 1) with e | e
                  · subst e; exact ⟨_, atI_nat (j := 0) rfl, by decide, by decide⟩
                  · subst e; exact ⟨_, atI_nat (j := 1) rfl, by decide, by decide⟩
                refine ⟨_, rfl, e2, _, way, _, rfl, rfl, SqL.of upd_same, hww, _, rfl, B, L, 3, rfl, b9, by decide, by decide, fun H7 n7 s10 b10 h0 h1 => ?_⟩
                refine ⟨_, _, rfl, rfl, .inl ⟨by omega, by omega⟩, _, _, rfl, rfl, _, _, rfl, _, _, rfl, ?_⟩
                have s57 := s9.trans s10
                have hRw7 := s57 _ _ nRB nRL hRw
                have lys : ys2.length = r.length := dpLen hdr
                have hdr7 := dpAll_x b7 s57 _ (vals_noL vr) hdr
                refine ⟨_, rfl, Rw, ys2, 0, 0, rfl, rfl, hRw7, (by unfold ixN; rw [if_pos (by decide), if_pos (by omega)]; rfl), ?_⟩
                generalize hz : (if (if nn + ww * n7 < 999 then nn + ww * n7 else 999) > -999 then (if nn + ww * n7 < 999 then nn + ww * n7 else 999) else -999) = z
                have z1 : -999 ≤ z ∧ z ≤ 999 := by
                  rw [← hz]
                  constructor <;> split <;> split <;> omega
                have vr2 := vals_set0 vr hb0 (num_isVal z1.1 z1.2)
                exact next _ _ ⟨Rw, ys2.set 0 (.int z), r.set 0 (.int z), rfl, (s7.trans s57).new hRw0, b10.upd_ nRB nRL, hRw0, upd_same, dpAll_upd hRw7 _ (vals_noL vr2) (dpAll_set0 hdr7 (.int z)), by rw [List.length_set]; exact lr2, vr2⟩
          · rintro σ' H6 ⟨Rw, ys2, r, rfl, s8, b8, hRw0, hRw, hdr, lr2, vr⟩
            obtain ⟨hF6, hd6⟩ := fX _ s8
            refine ⟨_, rfl, .inl ⟨rfl, _, SqL.of hF6⟩, _, rfl, Rw, ys2, rfl, .inl ⟨SqL.of hRw, fun p hp => ?_⟩⟩
            obtain ⟨s9, b9, np1, np2⟩ := al (o := .tup ys2) s8 b4 b8 hp
            have npF : Fd ≠ p := fun z => by rw [← z, hF6] at hp; cases hp
            refine ⟨Fd, xs, _, rfl, rfl, (upd_ne npF).trans hF6, small1000 (by omega), ?_⟩
            have okr2 : ∀ q ∈ rs ++ [r], isRow ks (.tuple q) = true := fun q hq => by
              rcases List.mem_append.mp hq with hq | hq
              · exact okr q hq
              · rw [List.mem_singleton.mp hq]
                exact isRow_get.mpr ⟨lr2, vr⟩
            have hnew : DpAll K (upd H6 p (.tup ys2)) (xs ++ [.ref p]) ((rs ++ [r]).map .tuple) := by
              rw [List.map_append]
              have sp : Same H6 (upd H6 p (.tup ys2)) := fun b' o e => by
                rw [upd_ne (ne_of_none e hp)]
                exact e
              exact dpApp (dpAll_same sp _ hd6) (.cons (.tup (SqT.of upd_same) (dpAll_same sp _ hdr)) .nil)
            exact ⟨_, _, rs ++ [r], xs ++ [.ref p], rfl, (sm.trans s9).new hFd, b9.upd_ nFB nFL, upd_same, dpAll_upd ((upd_ne npF).trans hF6) _ (rowsL_noL okr2) hnew, by rw [List.length_append, lr]; rfl, okr2⟩
    · rintro σ H3 ⟨v5, v6, rs, xs, rfl, sm, b4, hF, hd, lr, okr⟩
      exact ⟨_, rfl, k H3 Fd rs xs sm b4 (by omega) okr hFd hF hd⟩
end
end RS
set_option Elab.async false
set_option maxRecDepth 100000
set_option maxHeartbeats 4000000
namespace RS
open PySem PySem.Spec PyProof.Rows L2 GX
def colLt (b : Bool) : PyData → PyData → Bool
  | .int x, .int y => if b then decide (y < x) else decide (x < y)
  | .str x, .str y => if b then decide (y.cps.toList < x.cps.toList) else decide (x.cps.toList < y.cps.toList)
  | _, _ => false
def keyD (b : Bool) (d : PyData) : List Int := (worthsOf d).map (sg b)
theorem sign_gt {c : Nat} (h : signOk c = true) : 32 < c := by
  unfold signOk at h
  rw [Bool.and_eq_true] at h
  have h2 : ¬ ([c] : List Nat) < [97] := by simpa using h.1
  by_cases q : 97 ≤ c
  · omega
  · exact absurd (List.cons_lt_cons_iff.mpr (.inl (by omega))) h2
theorem word_parts {x : Str} (h : isWord (.str x) = true) : x.cps.toList.length ≤ 6 ∧ ∀ c ∈ x.cps.toList, 32 < c := by
  have h' : (decide ((x.length : Int) ≤ 6) && x.cps.toList.all signOk) = true := h
  rw [Bool.and_eq_true] at h'
  have h1 := of_decide_eq_true h'.1
  exact ⟨by rw [len_cps]; omega, fun c hc => sign_gt (List.all_eq_true.mp h'.2 c hc)⟩
theorem sg_injI {b : Bool} {x y : Int} (h : sg b x = sg b y) : x = y := by
  cases b
  · exact h
  · have h : -x = -y := h
    omega
theorem key_lt {kb b : Bool} {m t : PyData} (hm : isVal kb m = true) (ht : isVal kb t = true) (ne : m ≠ t) : (keyD b m).length = (keyD b t).length ∧ keyD b m ≠ keyD b t ∧ HT.lexLt (keyD b m) (keyD b t) = colLt b m t := by
  cases kb with
  | false =>
    obtain ⟨x, rfl⟩ : ∃ n, m = .int n := by
      rcases val_atom hm with ⟨e, _⟩ | ⟨_, q⟩
      · cases e
      · exact q
    obtain ⟨y, rfl⟩ : ∃ n, t = .int n := by
      rcases val_atom ht with ⟨e, _⟩ | ⟨_, q⟩
      · cases e
      · exact q
    have nxy : x ≠ y := fun z => ne (by rw [z])
    have n2 : sg b x ≠ sg b y := fun z => nxy (sg_injI z)
    refine ⟨rfl, fun z => n2 (List.cons.inj z).1, ?_⟩
    show HT.lexLt [sg b x] [sg b y] = if b then decide (y < x) else decide (x < y)
    rw [HT.lexLt_cons, if_neg n2]
    cases b
    · rfl
    · show decide (-x < -y) = decide (y < x)
      congr 1
      simp
  | true =>
    obtain ⟨x, rfl⟩ : ∃ n, m = .str n := by
      rcases val_atom hm with ⟨_, q⟩ | ⟨e, _⟩
      · exact q
      · cases e
    obtain ⟨y, rfl⟩ : ∃ n, t = .str n := by
      rcases val_atom ht with ⟨_, q⟩ | ⟨e, _⟩
      · exact q
      · cases e
    obtain ⟨lx, hx⟩ := word_parts hm
    obtain ⟨ly, hy⟩ := word_parts ht
    have nxy : x.cps.toList ≠ y.cps.toList := fun z => ne (by rw [TL.ext_tl (x := x) (y := y) z])
    have e1 : (padL 6 x.cps.toList).length = 6 := pad6_len lx
    have e2 : (padL 6 y.cps.toList).length = 6 := pad6_len ly
    refine ⟨?_, pad_ne b lx ly hx hy nxy, pad_lt b 6 _ _ lx ly hx hy⟩
    show (padI b 6 x.cps.toList).length = (padI b 6 y.cps.toList).length
    unfold padI
    rw [List.length_map, List.length_map, List.length_map, List.length_map, e1, e2]
theorem rank_cons {os : List (Nat × Bool)} {c : Nat} {b : Bool} {p : Nat × List PyData} {m : PyData} (h : p.2[c]? = some m) : rankOf ((c, b) :: os) p = keyD b m ++ rankOf os p := by
  unfold rankOf
  rw [List.flatMap_cons, List.append_assoc]
  unfold keyP
  rw [List.getD_eq_getElem?_getD, h]
  rfl
theorem before_cons {os : List (Nat × Bool)} {c : Nat} {b kb : Bool} {p q : Nat × List PyData} {m t : PyData} (h1 : p.2[c]? = some m) (h2 : q.2[c]? = some t) (v1 : isVal kb m = true) (v2 : isVal kb t = true) :
    (m = t → before ((c, b) :: os) p q = before os p q) ∧ (m ≠ t → before ((c, b) :: os) p q = colLt b m t) := by
  unfold before
  rw [rank_cons h1, rank_cons h2]
  constructor
  · intro e
    subst e
    rw [lexLt_app _ _ _ _ rfl, if_pos rfl]
  · intro e
    obtain ⟨k1, k2, k3⟩ := key_lt (b := b) v1 v2 e
    rw [lexLt_app _ _ _ _ k1, if_neg k2, k3]
theorem before_nil {p q : Nat × List PyData} : before [] p q = decide (p.1 < q.1) := by
  show HT.lexLt [(p.1 : Int)] [(q.1 : Int)] = _
  rw [HT.lexLt_cons]
  by_cases e : (p.1 : Int) = (q.1 : Int)
  · rw [if_pos e]
    have : p.1 = q.1 := by omega
    rw [this]
    simp [HT.lexLt_nil_nil]
  · rw [if_neg e]
    simp
/-- pairs of different numbers: one is ahead -/
theorem rank_ne {os : List (Nat × Bool)} {p q : Nat × List PyData} (h : before os p q = false) (h2 : before os q p = false) : rankOf os p = rankOf os q := by
  have tot : ∀ A B : List Int, HT.lexLt A B = false → HT.lexLt B A = false → A = B := by
    intro A
    induction A with
    | nil =>
      intro B h1 h2
      cases B with
      | nil => rfl
      | cons y B => rw [HT.lexLt_nil_cons] at h1; cases h1
    | cons x A ih =>
      intro B h1 h2
      cases B with
      | nil => rw [HT.lexLt_nil_cons] at h2; cases h2
      | cons y B =>
        rw [HT.lexLt_cons] at h1 h2
        by_cases e : x = y
        · subst e
          rw [if_pos rfl] at h1 h2
          rw [ih B h1 h2]
        · rw [if_neg e] at h1
          rw [if_neg (Ne.symm e)] at h2
          have a := of_decide_eq_false h1
          have b := of_decide_eq_false h2
          omega
  exact tot _ _ h h2
theorem rank_num {os : List (Nat × Bool)} {p q : Nat × List PyData} (h : rankOf os p = rankOf os q) : p.1 = q.1 := by
  have e := congrArg List.getLast? h
  unfold rankOf at e
  rw [List.getLast?_append, List.getLast?_append] at e
  simp at e
  omega
end RS
set_option Elab.async false
set_option maxRecDepth 100000
set_option maxHeartbeats 4000000
namespace RS
open PySem PySem.Spec PyProof.Rows L2 GX
section
variable {P : Program} {w : World} {K : PySem.W.Frag} {mg : Str → Option Value} {base : Heap}
/-- the two have values of one kind in the order's columns -/
def Alike (os : List (Nat × Bool)) (p q : Nat × List PyData) : Prop := ∀ o ∈ os, ∃ kb m t, p.2[o.1]? = some m ∧ q.2[o.1]? = some t ∧ isVal kb m = true ∧ isVal kb t = true
theorem alike_rows {ks : List Bool} {os : List (Nat × Bool)} {p q : Nat × List PyData} (ok : OkOrder ks.length os) (hp : isRow ks (.tuple p.2) = true) (hq : isRow ks (.tuple q.2) = true) : Alike os p q := fun o ho => by
  have h1 := isRow_get.mp hp
  have h2 := isRow_get.mp hq
  have hc := ok.col o ho
  have l1 : o.1 < p.2.length := by omega
  have l2 : o.1 < q.2.length := by omega
  obtain ⟨b, e1, v1⟩ := h1.2 o.1 _ (List.getElem?_eq_getElem l1)
  obtain ⟨b', e2, v2⟩ := h2.2 o.1 _ (List.getElem?_eq_getElem l2)
  rw [e1] at e2
  cases e2
  exact ⟨b, _, _, List.getElem?_eq_getElem l1, List.getElem?_eq_getElem l2, v1, v2⟩
theorem scAhead : FnScope ["_law_order_here", "_law_one", "_law_other", "_law_column", "_law_way", "_law_mine", "_law_theirs"] ["_law_order_here", "_law_one", "_law_other"] (defScope sAhead) := ⟨rfl, rfl, rfl, by decide +kernel, rfl, by decide +kernel, by decide +kernel⟩
def spAhead (K : PySem.W.Frag) : Sp := fun vs H Q _ => ∃ (vo v1 v2 : V) (os : List (Nat × Bool)) (p q : Nat × List PyData), vs = [vo, v1, v2] ∧ Dp K H vo (orderD os) ∧ Dp K H v1 (pairD p) ∧ Dp K H v2 (pairD q) ∧ Alike os p q ∧ Q (.bl (before os p q)) H
theorem ahead_ok {c : Addr} (D : DefAt K mg "_law_ahead" sAhead c) : Cal P w K mg base CX0 1 "_law_ahead" ["_law_order_here", "_law_one", "_law_other"] (spAhead K) := by
  have sc := scAhead
  refine def_ok0 D sc (fun vs H Q E h => ?_) (fun _ _ _ _ _ _ us hl => match us, hl with | [_, _, _], _ => rfl) (fun f A outer s H vs Q E hr h => ?_)
  · obtain ⟨vo, v1, v2, os, p, q, rfl, _⟩ := h
    rfl
  · obtain ⟨vo, v1, v2, os, p, q, rfl, ho, hp, hq, ha, k⟩ := h
    refine ⟨_, (pss_cons (ps_for PassesOwn.never rfl (pi_list (pv 0)) (pg_tup (by rfl) (pgs_cons (pg_name (i := 3) sc.nd rfl (Or.inl rfl)) (pgs_cons (pg_name (i := 4) sc.nd rfl (Or.inl rfl)) pgs_nil))) (pss_cons (ps_par (i := 5) (j := 6) rfl sc.nd rfl rfl (by decide) rfl rfl (pa_cons (pe_ix ixD (pe_ix ixD (pv 1) pe_int (fun _ _ => rfl)) (pv 3) (fun _ _ => rfl)) (pa_cons (pe_ix ixD (pe_ix ixD (pv 2) pe_int (fun _ _ => rfl)) (pv 3) (fun _ _ => rfl)) pa_nil)) (by rfl)) (pss_one (ps_if (pt_cmpR op_ne (pv 5) (pv 6) (nomark _)) (pss_one (ps_ret (pe_ifExp (pt_cmpR op_eq (pv 4) pe_str (nomark _)) (pe_cmpR (op_lt.or op_lt_str) (pv 5) (pv 6) (nomark _)) (pe_cmpR (op_gt.or op_gt_str) (pv 5) (pv 6) (nomark _))))) pss_nil)))) (pss_one (ps_ret (pe_cmpR op_lt (pe_ix ixD (pv 1) pe_int (fun _ _ => rfl)) (pe_ix ixD (pv 2) pe_int (fun _ _ => rfl)) (nomark _))))), ?_⟩
    cases ho with
    | @lst ao xo _ hSo hIo =>
      have lo : xo.length = os.length := by rw [dpLen hIo, List.length_map]
      refine ⟨_, rfl, ao, rfl, ⟨_, hSo⟩, for_list (K := K) (a := ao) (xs := xo) (fun i σ H' => ∃ v3 v4 v5 v6 : Option V, σ = [some (.ref ao), some v1, some v2, v3, v4, v5, v6] ∧ H' = H ∧ before os p q = before (os.drop i) p q)
        ⟨none, none, none, none, rfl, rfl, rfl⟩ (fun i σ H' _ ⟨_, _, _, _, _, e, _⟩ => by rw [e]; exact hSo) ?_ ?_⟩
      · rintro i y σ H' hi ⟨v3, v4, v5, v6, rfl, rfl, hbe⟩
        obtain ⟨d, ed, hd⟩ := dpGet hIo hi
        obtain ⟨⟨c, b⟩, eq, rfl⟩ : ∃ o, os[i]? = some o ∧ d = partD o := by
          rw [List.getElem?_map] at ed
          cases z : os[i]? with
          | none => rw [z] at ed; cases ed
          | some b => rw [z] at ed; exact ⟨b, rfl, (Option.some.inj ed).symm⟩
        have hi' : i < os.length := (List.getElem?_eq_some_iff.mp eq).1
        have dr : os.drop i = (c, b) :: os.drop (i + 1) := by
          rw [List.drop_eq_getElem_cons hi', (List.getElem?_eq_some_iff.mp eq).2]
        obtain ⟨kb, m, t, hm, ht, vm, vt⟩ := ha (c, b) (List.mem_of_getElem? eq)
        obtain ⟨c1, c2⟩ := before_cons (os := os.drop (i + 1)) (b := b) hm ht vm vt
        cases hd with
        | @tup ap xp _ hSp hIp =>
          cases hIp with
          | cons g1 hIp =>
            cases hIp with
            | cons g2 hIp =>
              cases hIp
              cases g1
              cases g2
              refine ⟨ap, _, rfl, hSp, rfl, _, _, rfl, _, _, rfl, rfl, ?_⟩
              refine ⟨_, rfl, pairD p, [.int p.1, .tuple p.2], 1, .tuple p.2, hp, rfl, rfl, atI_nat (j := 1) rfl, fun w1 hw1 => ?_⟩
              refine ⟨_, rfl, .tuple p.2, p.2, (c : Nat), m, hw1, rfl, rfl, atI_nat hm, fun w2 hw2 => ?_⟩
              refine ⟨_, rfl, pairD q, [.int q.1, .tuple q.2], 1, .tuple q.2, hq, rfl, rfl, atI_nat (j := 1) rfl, fun w3 hw3 => ?_⟩
              refine ⟨_, rfl, .tuple q.2, q.2, (c : Nat), t, hw3, rfl, rfl, atI_nat ht, fun w4 hw4 => ?_⟩
              refine ⟨_, _, rfl, _, rfl, _, rfl, ?_⟩
              have hw : decide (V.str (wayS b) = V.str "up") = !b := by cases b <;> decide +kernel
              cases kb with
              | true =>
                obtain ⟨x, rfl⟩ : ∃ n, m = .str n := by
                  rcases val_atom vm with ⟨_, q⟩ | ⟨e, _⟩
                  · exact q
                  · cases e
                obtain ⟨y, rfl⟩ : ∃ n, t = .str n := by
                  rcases val_atom vt with ⟨_, q⟩ | ⟨e, _⟩
                  · exact q
                  · cases e
                cases hw2
                cases hw4
                refine ⟨rfl, _, rfl, ?_⟩
                by_cases e : x = y
                · have ed : (!decide (V.str x = V.str y)) = false := by rw [e]; simp
                  rw [ed]
                  exact iteF ⟨_, _, _, _, rfl, rfl, by rw [hbe, dr]; exact c1 (by rw [e])⟩
                · have ed : (!decide (V.str x = V.str y)) = true := by simp [e]
                  rw [ed]
                  have cc := c2 fun z => e (by cases z; rfl)
                  rw [hbe, dr, cc] at k
                  refine iteT ⟨_, rfl, rfl, _, rfl, ?_⟩
                  rw [hw]
                  cases b with
                  | false => exact iteT ⟨_, rfl, _, rfl, .inr ⟨_, _, rfl, rfl, k⟩⟩
                  | true => exact iteF ⟨_, rfl, _, rfl, .inr ⟨_, _, rfl, rfl, k⟩⟩
              | false =>
                obtain ⟨x, rfl⟩ : ∃ n, m = .int n := by
                  rcases val_atom vm with ⟨e, _⟩ | ⟨_, q⟩
                  · cases e
                  · exact q
                obtain ⟨y, rfl⟩ : ∃ n, t = .int n := by
                  rcases val_atom vt with ⟨e, _⟩ | ⟨_, q⟩
                  · cases e
                  · exact q
                cases hw2
                cases hw4
                refine ⟨rfl, _, rfl, ?_⟩
                by_cases e : x = y
                · have ed : (!decide (V.int x = V.int y)) = false := by rw [e]; simp
                  rw [ed]
                  exact iteF ⟨_, _, _, _, rfl, rfl, by rw [hbe, dr]; exact c1 (by rw [e])⟩
                · have ed : (!decide (V.int x = V.int y)) = true := by simp [e]
                  rw [ed]
                  have cc := c2 fun z => e (by cases z; rfl)
                  rw [hbe, dr, cc] at k
                  refine iteT ⟨_, rfl, rfl, _, rfl, ?_⟩
                  rw [hw]
                  cases b with
                  | false => exact iteT ⟨_, rfl, _, rfl, .inl ⟨_, _, rfl, rfl, k⟩⟩
                  | true => exact iteF ⟨_, rfl, _, rfl, .inl ⟨_, _, rfl, rfl, k⟩⟩
      · rintro σ H' ⟨v3, v4, v5, v6, rfl, rfl, hbe⟩
        rw [lo, List.drop_length, before_nil] at hbe
        refine ⟨_, rfl, pairD p, [.int p.1, .tuple p.2], 0, .int p.1, hp, rfl, rfl, atI_nat (j := 0) rfl, fun w1 hw1 => ?_⟩
        cases hw1
        refine ⟨_, rfl, pairD q, [.int q.1, .tuple q.2], 0, .int q.1, hq, rfl, rfl, atI_nat (j := 0) rfl, fun w2 hw2 => ?_⟩
        cases hw2
        refine ⟨_, _, rfl, rfl, ?_⟩
        rw [hbe] at k
        have e : decide ((p.1 : Int) < (q.1 : Int)) = decide (p.1 < q.1) := by congr 1; simp
        show Q (.bl (decide ((p.1 : Int) < (q.1 : Int)))) H'
        rw [e]
        exact k
end
end RS
set_option Elab.async false
set_option maxRecDepth 100000
set_option maxHeartbeats 4000000
namespace RS
open PySem PySem.Spec PyProof.Rows L2 GX
section
variable {P : Program} {w : World} {K : PySem.W.Frag} {mg : Str → Option Value} {base : Heap}
theorem srtd_get {α : Type} {lt : α → α → Bool} {l : List α} (h : SrtO.Srtd lt l) {i j : Nat} {x y : α} (hij : i < j) (hx : l[i]? = some x) (hy : l[j]? = some y) : lt y x = false := by
  obtain ⟨h1, rfl⟩ := List.getElem?_eq_some_iff.mp hx
  obtain ⟨h2, rfl⟩ := List.getElem?_eq_some_iff.mp hy
  exact List.pairwise_iff_getElem.mp h i j h1 h2 hij
theorem scSorted : FnScope ["_law_order_here", "_law_pairs_here", "_law_found", "_law_pair", "_law_low", "_law_high", "_law_half"] ["_law_order_here", "_law_pairs_here"] (defScope sSorted) := ⟨rfl, rfl, rfl, by decide +kernel, rfl, by decide +kernel, by decide +kernel⟩
def spSorted (K : PySem.W.Frag) : Sp := fun vs H Q _ => ∃ (vo : V) (a : Addr) (xs : List V) (ks : List Bool) (os : List (Nat × Bool)) (ps : List (Nat × List PyData)), vs = [vo, .ref a] ∧ Dp K H vo (orderD os) ∧ SqL K H a xs ∧ DpAll K H xs (ps.map pairD) ∧ OkOrder ks.length os ∧ (∀ p ∈ ps, isRow ks (.tuple p.2) = true) ∧ ps.length ≤ 500 ∧
  ∀ (H' : Hp) (p : Addr) (ys : List V) (qs : List (Nat × List PyData)), Same H H' → H p = none → H' p = some (.lst ys) → DpAll K H' ys (qs.map pairD) → qs.Perm ps → SrtO.Srtd (before os) qs → Q (.ref p) H'
theorem sorted_ok {c : Addr} (D : DefAt K mg "_law_sorted" sSorted c) (T : Txt K mg) (cA : Cal P w K mg base CX0 1 "_law_ahead" ["_law_order_here", "_law_one", "_law_other"] (spAhead K)) : Cal P w K mg base CX0 2 "_law_sorted" ["_law_order_here", "_law_pairs_here"] (spSorted K) := by
  have sc := scSorted
  refine def_ok0 D sc (fun vs H Q E h => ?_) (fun _ _ _ _ _ _ us hl => match us, hl with | [_, _], _ => rfl) (fun f A outer s H vs Q E hr h => ?_)
  · obtain ⟨vo, a, xs, ks, os, ps, rfl, _⟩ := h
    rfl
  · obtain ⟨vo, a, xs, ks, os, ps, rfl, ho, hS, hI, ok, okp, hz, k⟩ := h
    refine ⟨_, (pss_cons (ps_set (i := 2) sc.nd rfl (Or.inl rfl) (pe_lst pa_nil)) (pss_cons (ps_for PassesOwn.never rfl (pi_list (pv 1)) (pg_name (i := 3) sc.nd rfl (Or.inl rfl)) (pss_cons (ps_par (i := 4) (j := 5) rfl sc.nd rfl rfl (by decide) rfl rfl (pa_cons pe_int (pa_cons (pe_callB call_lenD (by rfl) T.len PySem.boot_len (pa_cons (pv 2) pa_nil)) pa_nil)) (by rfl)) (pss_cons (ps_while PassesOwn.never (pt_cmpR op_lt (pv 4) (pv 5) (nomark _)) (pss_cons (ps_set (i := 6) sc.nd rfl (Or.inl rfl) (pe_op op_fdiv (pe_op op_add (pv 4) (pv 5)) pe_int)) (pss_one (ps_if (pt_val (pe_c cA hr (by decide) (by rfl) pass0 (pa_cons (pv 0) (pa_cons (pv 3) (pa_cons (pe_ix ix_list (pv 2) (pv 6) (fun _ _ => rfl)) pa_nil))))) (pss_one (ps_set (i := 5) sc.nd rfl (Or.inl rfl) (pv 6))) (pss_one (ps_set (i := 4) sc.nd rfl (Or.inl rfl) (pe_op op_add (pv 6) pe_int))))))) (pss_one (ps_expr (pe_bm PySem.F.plainAttrs_list PySem.F.slot_list_insert PySem.F.type_list_insert mt_insert (pv 2) (pa_cons (pv 4) (pa_cons (pv 3) pa_nil)))))))) (pss_one (ps_ret (pv 2))))), ?_⟩
    refine ⟨Nat.zero_le _, fun Fd hFd => ?_⟩
    have s1 : Same H (upd H Fd (.lst [])) := fun b o e => by
      rw [upd_ne (ne_of_none e hFd)]
      exact e
    have lx : xs.length = ps.length := by rw [dpLen hI, List.length_map]
    refine ⟨_, rfl, a, rfl, ⟨_, s1.seq hS⟩, for_list (K := K) (a := a) (xs := xs) (fun i σ H' => ∃ (v3 v4 v5 v6 : Option V) (ys : List V) (qs : List (Nat × List PyData)), σ = [some vo, some (.ref a), some (.ref Fd), v3, v4, v5, v6] ∧ Same H H' ∧ H' Fd = some (.lst ys) ∧ DpAll K H' ys (qs.map pairD) ∧ qs.Perm (ps.take i) ∧ SrtO.Srtd (before os) qs)
      ⟨none, none, none, none, [], [], rfl, s1, upd_same, .nil, by simp, .nil⟩ (fun i σ H' _ ⟨_, _, _, _, _, _, _, sm, _⟩ => sm.seq hS) ?_ ?_⟩
    · rintro i x σ H' hx ⟨v3, v4, v5, v6, ys, qs, rfl, sm, hF, hd, pm, srt⟩
      obtain ⟨d, ed, hdx⟩ := dpGet hI hx
      obtain ⟨p, ep, rfl⟩ : ∃ q, ps[i]? = some q ∧ d = pairD q := by
        rw [List.getElem?_map] at ed
        cases e : ps[i]? with
        | none => rw [e] at ed; cases ed
        | some q => rw [e] at ed; exact ⟨q, rfl, (Option.some.inj ed).symm⟩
      have hpm := List.mem_of_getElem? ep
      have hpr := okp p hpm
      have ly : ys.length = qs.length := by rw [dpLen hd, List.length_map]
      have okq : ∀ q ∈ qs, isRow ks (.tuple q.2) = true := fun q hq => okp q (List.mem_of_mem_take (pm.mem_iff.mp hq))
      have lq : qs.length ≤ 500 := by
        have := pm.length_eq
        rw [List.length_take] at this
        omega
      have ho' := dp_same sm _ ho
      have hx' := dp_same sm _ hdx
      refine ⟨_, rfl, .ref Fd, _, _, rfl, .lst (SqL.of hF) hd, rfl, _, _, rfl, ?_⟩
      have lqm : (qs.map pairD).length = qs.length := List.length_map _
      refine ⟨fun m σ' H2 => ∃ (lo hi : Nat) (v6 : Option V), σ' = [some vo, some (.ref a), some (.ref Fd), some x, some (.int (lo : Nat)), some (.int (hi : Nat)), v6] ∧ H2 = H' ∧ m = hi - lo ∧ lo ≤ hi ∧ hi ≤ qs.length ∧ (∀ j q, j < lo → qs[j]? = some q → before os p q = false) ∧ (∀ j q, hi ≤ j → qs[j]? = some q → before os p q = true),
        ⟨_, 0, qs.length, _, by rw [lqm]; rfl, rfl, rfl, Nat.zero_le _, Nat.le_refl _, (fun j q h => by omega), (fun j q h e => by have := (List.getElem?_eq_some_iff.mp e).1; omega)⟩, ?_⟩
      rintro m σ' H2 ⟨lo, hi, v6, rfl, rfl, rfl, hle, hhi, hA, hB⟩
      refine ⟨_, rfl, _, rfl, _, _, rfl, rfl, _, rfl, ?_⟩
      refine ite2 (fun hlt => ?_) (fun hlt => ?_)
      · have hlt := of_decide_eq_true hlt
        refine ⟨_, fun σ' H2 h => h, ?_⟩
        refine ⟨_, rfl, _, rfl, _, _, rfl, rfl, _, _, rfl, rfl, ⟨by decide, by decide⟩, ?_⟩
        have eh : ((lo : Nat) + (hi : Nat) : Int) / 2 = (((lo + hi) / 2 : Nat) : Int) := by omega
        obtain ⟨hf, ehf⟩ : ∃ hf : Nat, hf = (lo + hi) / 2 := ⟨_, rfl⟩
        simp only [eh, ← ehf]
        have hh : hf < qs.length := by omega
        obtain ⟨vh, evh, hvh⟩ := dpGet' (i := hf) (d := pairD qs[hf]) hd (by rw [List.getElem?_map, List.getElem?_eq_getElem hh]; rfl)
        have hqr := okq qs[hf] (List.getElem_mem hh)
        refine ⟨_, rfl, _, rfl, _, rfl, _, rfl, Fd, ys, _, vh, rfl, rfl, SqL.of hF, atI_nat evh, vo, x, vh, os, p, qs[hf], rfl, ho', hx', hvh, alike_rows ok hpr hqr, _, rfl, ?_⟩
        refine ite2 (fun hb => ?_) (fun hb => ?_)
        · refine ⟨_, rfl, _, ?_, lo, hf, _, rfl, rfl, rfl, by omega, by omega, hA, fun j q hj ej => ?_⟩
          · omega
          · by_cases e : j = hf
            · subst e
              rw [List.getElem?_eq_getElem hh] at ej
              cases ej
              exact hb
            · exact (swo_before os).ltle hb (srtd_get srt (by omega) (List.getElem?_eq_getElem hh) ej)
        · refine ⟨_, rfl, _, _, rfl, rfl, _, ?_, hf + 1, hi, _, rfl, rfl, rfl, by omega, by omega, fun j q hj ej => ?_, hB⟩
          · omega
          · have hb' : before os p qs[hf] = false := by
              cases e : before os p qs[hf] with
              | false => rfl
              | true => exact absurd e hb
            by_cases e : j = hf
            · subst e
              rw [List.getElem?_eq_getElem hh] at ej
              cases ej
              exact hb'
            · exact (swo_before os).tr _ _ _ (srtd_get srt (by omega) ej (List.getElem?_eq_getElem hh)) hb'
      · have hlt2 : ¬ ((lo : Nat) : Int) < ((hi : Nat) : Int) := fun z => hlt (decide_eq_true z)
        have e : hi = lo := by omega
        subst e
        refine ⟨_, rfl, .inl ⟨rfl, _, SqL.of hF⟩, _, rfl, _, rfl, Fd, ys, _, x, rfl, rfl, hF, small1000 (by omega), by omega, by omega, ?_⟩
        rw [Int.toNat_natCast]
        have e1 : ps.take (i + 1) = ps.take i ++ [p] := by rw [List.take_add_one, ep]; rfl
        have okn : ∀ q ∈ qs.take hi ++ [p] ++ qs.drop hi, isRow ks (.tuple q.2) = true := fun q hq => by
          rcases List.mem_append.mp hq with hq | hq
          · rcases List.mem_append.mp hq with hq | hq
            · exact okq q (List.mem_of_mem_take hq)
            · rw [List.mem_singleton.mp hq]; exact hpr
          · exact okq q (List.mem_of_mem_drop hq)
        refine ⟨_, _, _, _, ys.take hi ++ [x] ++ ys.drop hi, qs.take hi ++ [p] ++ qs.drop hi, rfl, fun b o e => ?_, upd_same, dpAll_upd hF _ (pairs_noL okn) ?_, ?_, ?_⟩
        · rw [upd_ne (ne_of_none e hFd)]
          exact sm _ _ e
        · rw [List.map_append, List.map_append]
          exact dpApp (dpApp (dpAll_take' hd hi) (.cons hx' .nil)) (dpAll_drop' hd hi)
        · rw [e1]
          have q1 : (qs.take hi ++ [p] ++ qs.drop hi).Perm (qs ++ [p]) := by
            rw [List.append_assoc]
            have q2 : (qs.take hi ++ ([p] ++ qs.drop hi)).Perm (qs.take hi ++ (qs.drop hi ++ [p])) := List.perm_append_comm.append_left _
            rw [← List.append_assoc, ← List.append_assoc, List.take_append_drop] at q2
            rw [← List.append_assoc]
            exact q2
          exact q1.trans (pm.append_right _)
        · have sp : SrtO.Srtd (before os) (qs.take hi ++ qs.drop hi) := by rw [List.take_append_drop]; exact srt
          obtain ⟨t1, t2, t3⟩ := SrtO.srtd_app.mp sp
          refine SrtO.srtd_app.mpr ⟨SrtO.srtd_snoc t1 fun y hy => ?_, t2, fun y hy z hz => ?_⟩
          · obtain ⟨j, hj, ej⟩ := List.getElem_of_mem hy
            rw [List.getElem_take] at ej
            rw [List.length_take] at hj
            exact hA j y (by omega) (by rw [List.getElem?_eq_getElem (by omega), ej])
          · obtain ⟨j, hj, ej⟩ := List.getElem_of_mem hz
            rw [List.getElem_drop] at ej
            rw [List.length_drop] at hj
            rcases List.mem_append.mp hy with hy | hy
            · exact t3 y hy z hz
            · rw [List.mem_singleton.mp hy]
              exact (swo_before os).asym _ _ (hB (hi + j) z (by omega) (by rw [List.getElem?_eq_getElem (by omega), ej]))
    · rintro σ H' ⟨v3, v4, v5, v6, ys, qs, rfl, sm, hF, hd, pm, srt⟩
      rw [lx, List.take_length] at pm
      exact ⟨_, rfl, k H' Fd ys qs sm hFd hF hd pm srt⟩
end
end RS
set_option Elab.async false
set_option maxRecDepth 100000
set_option maxHeartbeats 4000000
namespace RS
open PySem PySem.Spec PyProof.Rows L2 GX
theorem ixDC {X : Cx} {K : PySem.W.Frag} (e : X.K = K) : IxR X (fun x y H Q => ∃ d ds i d', Dp K H x d ∧ itemsD d = some ds ∧ y = .int i ∧ atI ds i = some d' ∧ ∀ v, Dp K H v d' → Q v H) := by
  subst e
  exact ixD
section
variable {P : Program} {w : World} {K : PySem.W.Frag} {mg : Str → Option Value} {base : Heap}
theorem scPairs : FnScope ["_law_rows_here", "_law_k"] ["_law_rows_here"] (defScope sPairs) := ⟨rfl, rfl, rfl, by decide +kernel, rfl, by decide +kernel, by decide +kernel⟩
def spPairs (K : PySem.W.Frag) : Sp := fun vs H Q _ => ∃ (v : V) (ks : List Bool) (rs : List (List PyData)), vs = [v] ∧ Dp K H v (rowsD rs) ∧ rs.length ≤ 500 ∧ (∀ r ∈ rs, isRow ks (.tuple r) = true) ∧
  ∀ (H' : Hp) (p : Addr) (ys : List V), Same H H' → H p = none → H' p = some (.lst ys) → DpAll K H' ys ((enumP 0 rs).map pairD) → Q (.ref p) H'
theorem pairs_ok {c : Addr} (D : DefAt K mg "_law_pairs" sPairs c) (T : Txt K mg) : Cal P w K mg base CX0 1 "_law_pairs" ["_law_rows_here"] (spPairs K) := by
  have sc := scPairs
  refine def_ok0 D sc (fun vs H Q E h => ?_) (fun _ _ _ _ _ _ us hl => match us, hl with | [_], _ => rfl) (fun f A outer s H vs Q E hr h => ?_)
  · obtain ⟨v, ks, rs, rfl, _⟩ := h
    rfl
  · obtain ⟨v, ks, rs, rfl, hd, hz, okr, k⟩ := h
    refine ⟨_, (pss_one (ps_ret (pe_lc (own := [("_law_k", 1)]) (tt := tYes)  rfl sc.nd (pi_range1 (by rfl) T.range (pa_cons (pe_callB call_lenD (by rfl) T.len PySem.boot_len (pa_cons (pv 0) pa_nil)) pa_nil)) (blkOk_by (N := ["_law_rows_here", "_law_k"]) (sc := defScope sPairs) (own := [("_law_k", 1)]) (by decide +kernel)) (fun _ _ _ _ _ => (pg_name (i := 1) sc.nd rfl (Or.inl rfl))) (fun _ _ _ _ _ => pts_nil) (fun _ _ _ _ _ => (pe_tup (pa_cons (pv 1) (pa_cons (pe_ix (ixDC (K := K) rfl) (pv 0) (pv 1) (fun _ _ => rfl)) pa_nil))))))), ?_⟩
    have lm : (rs.map PyData.tuple).length = rs.length := List.length_map _
    refine ⟨_, rfl, v, _, _, rfl, hd, rfl, _, rfl, by omega, by omega, fun DD hD => ?_⟩
    refine lc_range (fun i H1 => Same H H1 ∧ ∃ ys : List V, H1 DD = some (.lst ys) ∧ DpAll K H1 ys (((enumP 0 rs).take i).map pairD)) ⟨fun b o e => by rw [upd_ne (ne_of_none e hD)]; exact e, [], upd_same, .nil⟩ ?_ ?_
    · rintro i H1 hi ⟨sm, ys, hl, hdd⟩
      rw [Int.toNat_natCast, lm] at hi
      have er : rs[i]? = some rs[i] := List.getElem?_eq_getElem hi
      have ep : (enumP 0 rs)[i]? = some (i, rs[i]) := by
        rw [enumP_get, er, Nat.zero_add]
        rfl
      simp only [Int.zero_add]
      refine ⟨rfl, _, rfl, _, rfl, _, rfl, rowsD rs, _, (i : Nat), .tuple rs[i], dp_same sm _ hd, rfl, rfl, atI_nat (by rw [List.getElem?_map, er]; rfl), fun w hw => ?_⟩
      refine ⟨by show 2 ≤ sizeLine; decide, fun p hp => ?_⟩
      have nDp : DD ≠ p := fun z => by rw [← z, hl] at hp; cases hp
      have sp : Same H1 (upd H1 p (.tup [.int (i : Nat), w])) := fun b o e => by
        rw [upd_ne (ne_of_none e hp)]
        exact e
      have ly : ys.length = i := by
        rw [dpLen hdd, List.length_map, List.length_take, enumP_length]
        omega
      refine ⟨ys, (upd_ne nDp).trans hl, small1000 (by omega), fun b o e => ?_, ys ++ [.ref p], upd_same, ?_⟩
      · rw [upd_ne (ne_of_none e hD)]
        exact sp _ _ (sm _ _ e)
      · have okp : ∀ q ∈ (enumP 0 rs).take i ++ [(i, rs[i])], isRow ks (.tuple q.2) = true := fun q hq => by
          rcases List.mem_append.mp hq with hq | hq
          · exact okr _ (enumP_mem (List.mem_of_mem_take hq))
          · rw [List.mem_singleton.mp hq]
            exact okr _ (List.getElem_mem hi)
        have e1 : (enumP 0 rs).take (i + 1) = (enumP 0 rs).take i ++ [(i, rs[i])] := by rw [List.take_add_one, ep]; rfl
        rw [e1]
        refine dpAll_upd ((upd_ne nDp).trans hl) _ (pairs_noL okp) ?_
        rw [List.map_append]
        exact dpApp (dpAll_same sp _ hdd) (.cons (.tup (SqT.of upd_same) (.cons (.int _) (.cons (dp_same sp _ hw) .nil))) .nil)
    · rintro H1 ⟨sm, ys, hl, hdd⟩
      rw [Int.toNat_natCast, lm, List.take_of_length_le (by rw [enumP_length]; exact Nat.le_refl _)] at hdd
      exact k H1 DD ys sm hD hl hdd
end
end RS
set_option Elab.async false
set_option maxRecDepth 100000
set_option maxHeartbeats 4000000
namespace RS
open PySem PySem.Spec PyProof.Rows L2 GX
/-! ### one list of pairs -/
def LsAt (K : PySem.W.Frag) (ks : List Bool) (H : Hp) (a : Addr) (ps : List (Nat × List PyData)) : Prop := ∃ xs, H a = some (.lst xs) ∧ DpAll K H xs (ps.map pairD) ∧ ∀ p ∈ ps, isRow ks (.tuple p.2) = true
section
variable {K : PySem.W.Frag} {ks : List Bool} {H H' : Hp} {a b : Addr} {ps : List (Nat × List PyData)}
theorem LsAt.same (h : LsAt K ks H a ps) (s : Same H H') : LsAt K ks H' a ps := by
  obtain ⟨xs, h1, h2, h3⟩ := h
  exact ⟨xs, s _ _ h1, dpAll_same s _ h2, h3⟩
theorem LsAt.other (h : LsAt K ks H a ps) {ys u : List V} (hb : H b = some (.lst ys)) (ne : a ≠ b) : LsAt K ks (upd H b (.lst u)) a ps := by
  obtain ⟨xs, h1, h2, h3⟩ := h
  exact ⟨xs, (upd_ne ne).trans h1, dpAll_upd hb _ (pairs_noL h3) h2, h3⟩
theorem LsAt.new (h : LsAt K ks H a ps) {o : HO} (hb : H b = none) : LsAt K ks (upd H b o) a ps := h.same fun c u e => by
  rw [upd_ne (ne_of_none e hb)]
  exact e
theorem lsWrite {xs ys : List V} (h : H a = some (.lst ys)) (d : DpAll K H xs (ps.map pairD)) (ok : ∀ p ∈ ps, isRow ks (.tuple p.2) = true) : LsAt K ks (upd H a (.lst xs)) a ps := ⟨xs, upd_same, dpAll_upd h _ (pairs_noL ok) d, ok⟩
theorem lsNil (_h : H b = none) : LsAt K ks (upd H b (.lst [])) b [] := ⟨[], upd_same, .nil, fun _ h => nomatch h⟩
theorem LsAt.len (h : LsAt K ks H a ps) {xs : List V} (e : H a = some (.lst xs)) : xs.length = ps.length := by
  obtain ⟨xs', h1, h2, _⟩ := h
  rw [h1] at e
  cases e
  rw [dpLen h2, List.length_map]
theorem LsAt.dp (h : LsAt K ks H a ps) : Dp K H (.ref a) (.list (ps.map pairD)) := by
  obtain ⟨xs, h1, h2, h3⟩ := h
  exact .lst (SqL.of h1) h2
theorem LsAt.lst (h : LsAt K ks H a ps) : ∃ xs, H a = some (.lst xs) := ⟨_, h.choose_spec.1⟩
theorem pair_shape {p : Nat × List PyData} (h : isRow ks (.tuple p.2) = true) : (pairD p).canLay0 = true ∧ (pairD p).depth ≤ 2 := by
  obtain ⟨h1, h2⟩ := row_shape h
  constructor
  · simp only [pairD, PyData.canLay0, PyData.canLayAll0, Bool.and_eq_true]
    refine ⟨trivial, ?_, trivial⟩
    simpa only [PyData.canLay0] using h1
  · simp only [pairD, PyData.depth, PyData.depthAll] at h2 ⊢
    omega
theorem pairs_shaped (h : ∀ p ∈ ps, isRow ks (.tuple p.2) = true) : SeqAt.shaped (.list (ps.map pairD)) = true := by
  unfold SeqAt.shaped
  rw [Bool.and_eq_true]
  refine ⟨?_, decide_eq_true ?_⟩
  · simp only [PyData.canLay0]
    exact canLayAll fun d hd => by
      obtain ⟨r, hr, rfl⟩ := List.mem_map.mp hd
      exact (pair_shape (h r hr)).1
  · simp only [PyData.depth]
    have := depthLe (n := 2) (ds := ps.map pairD) fun d hd => by
      obtain ⟨r, hr, rfl⟩ := List.mem_map.mp hd
      exact (pair_shape (h r hr)).2
    omega
theorem LsAt.shaped (h : LsAt K ks H a ps) : SeqAt.shaped (.list (ps.map pairD)) = true := pairs_shaped h.choose_spec.2.2
end
/-! ### the law's way of exchanging, step by step -/
section
variable {α : Type} {lt : α → α → Bool}
/-- behind x, with what is there and what is to come -/
def Mid (lt : α → α → Bool) (x : α) (g : List α) : List α → List α → List α → List α → Prop
  | [], r, w, l => RunTo lt g [] r w l
  | e :: left, r, w, l => (lt e x = true ∧ ∃ w0, w = e :: w0 ∧ RunTo lt g left r w0 l) ∨ (lt e x = false ∧ RunTo lt (e :: g) left r w l)
theorem Mid.run {x : α} {g g' left r w l : List α} (p : g.Perm (x :: g')) (m : ∀ y ∈ g', lt y x = false) (h : Mid lt x g' left r w l) : RunTo lt g left (x :: r) w l := by
  cases left with
  | nil => exact .last p m h
  | cons e left =>
    rcases h with ⟨h1, w0, rfl, t⟩ | ⟨h1, t⟩
    · exact .wait p m h1 t
    · exact .keep p m h1 t
/-- what must still come, by the state of the filling -/
inductive Fill (lt : α → α → Bool) (n : Nat) (room left : List α) : List α → List α → List α → List α → Prop
  | start {hs ls : List α} (hz : hs.length ≤ n) (t : ∀ r w l, RunTo lt (hs ++ ls.take (n - hs.length)) (ls.drop (n - hs.length)) r w l → RunTo lt room left r w l) : Fill lt n room left [] hs [] ls
  | mid {rr hs ws ls : List α} {x : α} (hz : ls = [] ∨ hs.length + ws.length + 1 = n) (t : ∀ r w l, Mid lt x hs ls r w l → RunTo lt room left (rr ++ [x] ++ r) (ws ++ w) l) : Fill lt n room left (rr ++ [x]) hs ws ls
  | full {rr hs ws ls : List α} (hz : ls = [] ∨ hs.length + ws.length = n) (t : ∀ r w l, RunTo lt hs ls r w l → RunTo lt room left (rr ++ r) (ws ++ w) l) : Fill lt n room left rr hs ws ls
/-- one more comes in: where it goes -/
theorem Fill.step {n : Nat} {room left rr hs ws ls : List α} {e : α} (F : Fill lt n room left rr hs ws (e :: ls)) (hlt : hs.length + ws.length < n) :
    (rr = [] → Fill lt n room left rr (hs ++ [e]) ws ls) ∧ (∀ r0 x, rr = r0 ++ [x] → (lt e x = true → Fill lt n room left rr hs (ws ++ [e]) ls) ∧ (lt e x = false → Fill lt n room left rr (hs ++ [e]) ws ls)) := by
  cases F with
  | start hz t =>
    refine ⟨fun _ => .start (by rw [List.length_append, List.length_singleton]; simp at hlt; omega) fun r w l h => t r w l ?_, fun r0 x e => by simp at e⟩
    simp only [List.length_nil, Nat.add_zero] at hlt
    obtain ⟨k, hk⟩ : ∃ k, n - hs.length = k + 1 := ⟨n - hs.length - 1, by omega⟩
    have hk2 : n - (hs ++ [e]).length = k := by rw [List.length_append, List.length_singleton]; omega
    rw [hk, List.take_succ_cons, List.drop_succ_cons]
    rw [hk2, List.append_assoc] at h
    exact h
  | @mid rr0 _ _ _ x hz t =>
    refine ⟨fun e => by simp at e, fun r0 y ey => ?_⟩
    have ez : x = y := by
      have := congrArg List.getLast? ey
      simpa using this
    subst ez
    have hz' : hs.length + ws.length + 1 = n := by
      rcases hz with z | z
      · cases z
      · exact z
    refine ⟨fun h1 => .full (.inr (by rw [List.length_append, List.length_singleton]; omega)) fun r w l h => ?_, fun h1 => .full (.inr (by rw [List.length_append, List.length_singleton]; omega)) fun r w l h => ?_⟩
    · have := t r (e :: w) l (.inl ⟨h1, w, rfl, h⟩)
      rw [List.append_assoc ws [e] w]
      exact this
    · exact t r w l (.inr ⟨h1, h.permL (by exact (List.perm_append_comm (l₁ := hs) (l₂ := [e])).symm)⟩)
  | full hz t =>
    rcases hz with z | z
    · cases z
    · omega
/-- no more comes in -/
theorem Fill.stop {n : Nat} {room left rr hs ws ls : List α} (F : Fill lt n room left rr hs ws ls) (h : ls = [] ∨ n ≤ hs.length + ws.length) : (ls = [] ∨ hs.length + ws.length = n) ∧ ∀ r w l, RunTo lt hs ls r w l → RunTo lt room left (rr ++ r) (ws ++ w) l := by
  cases F with
  | start hz t =>
    simp only [List.length_nil, Nat.add_zero] at h ⊢
    refine ⟨by rcases h with h | h; exact .inl h; exact .inr (by omega), fun r w l q => t r w l ?_⟩
    rcases h with h | h
    · subst h
      simpa using q
    · rw [show n - hs.length = 0 by omega, List.take_zero, List.append_nil, List.drop_zero]
      exact q
  | mid hz t =>
    rcases h with h | h
    · subst h
      exact ⟨.inl rfl, fun r w l q => t r w l q⟩
    · rcases hz with z | z
      · subst z
        exact ⟨.inl rfl, fun r w l q => t r w l q⟩
      · omega
  | full hz t => exact ⟨hz, t⟩
theorem Fill.pop {n : Nat} {room left rr hs hs' ws ls : List α} {x : α} (hz : ls = [] ∨ hs.length + ws.length = n) (t : ∀ r w l, RunTo lt hs ls r w l → RunTo lt room left (rr ++ r) (ws ++ w) l) (p : hs.Perm (x :: hs')) (m : ∀ y ∈ hs', lt y x = false) : Fill lt n room left (rr ++ [x]) hs' ws ls := by
  refine .mid (by rcases hz with z | z; exact .inl z; right; rw [p.length_eq, List.length_cons] at z; omega) fun r w l h => ?_
  rw [List.append_assoc]
  exact t _ _ _ (h.run p m)
end
end RS
set_option Elab.async false
set_option maxRecDepth 100000
set_option maxHeartbeats 8000000
namespace RS
open PySem PySem.Spec PyProof.Rows L2 GX
section
variable {P : Program} {w : World} {K : PySem.W.Frag} {mg : Str → Option Value} {base : Heap}
theorem first_ix {α : Type} {P : α → Bool} : ∀ (l : List α) {x : α}, x ∈ l → P x = true → ∃ (j : Nat) (z : α), l[j]? = some z ∧ P z = true ∧ ∀ (m : Nat) (z' : α), m < j → l[m]? = some z' → P z' = false
  | [], _, h, _ => by cases h
  | y :: l, x, h, hx => by
    cases e : P y with
    | true => exact ⟨0, y, rfl, e, fun m z' hm => absurd hm (Nat.not_lt_zero _)⟩
    | false =>
      rcases List.mem_cons.mp h with q | q
      · subst q
        rw [hx] at e
        cases e
      · obtain ⟨j, z, h1, h2, h3⟩ := first_ix l q hx
        refine ⟨j + 1, z, h1, h2, fun m z' hm hz => ?_⟩
        cases m with
        | zero =>
          cases hz
          exact e
        | succ m => exact h3 m z' (by omega) hz
theorem eqv_val {b b' : Bool} {d d' : PyData} (h : isVal b d = true) (h' : isVal b' d' = true) (e : PyData.eqv d d' = true) : d = d' := by
  rcases val_atom h with ⟨_, x, rfl⟩ | ⟨_, n, rfl⟩
  · rcases val_atom h' with ⟨_, y, rfl⟩ | ⟨_, m, rfl⟩
    · simp [PyData.eqv] at e
      rw [e]
    · simp [PyData.eqv] at e
  · rcases val_atom h' with ⟨_, y, rfl⟩ | ⟨_, m, rfl⟩
    · simp [PyData.eqv] at e
    · simp [PyData.eqv] at e
      rw [e]
theorem eqv_vals : ∀ {r r' : List PyData}, (∀ d ∈ r, ∃ b, isVal b d = true) → (∀ d ∈ r', ∃ b, isVal b d = true) → PyData.eqvAll r r' = true → r = r'
  | [], [], _, _, _ => rfl
  | [], _ :: _, _, _, e => by simp [PyData.eqvAll] at e
  | _ :: _, [], _, _, e => by simp [PyData.eqvAll] at e
  | d :: r, d' :: r', h, h', e => by
    simp only [PyData.eqvAll, Bool.and_eq_true] at e
    obtain ⟨b, hv⟩ := h d List.mem_cons_self
    obtain ⟨b', hv'⟩ := h' d' List.mem_cons_self
    rw [eqv_val hv hv' e.1, eqv_vals (fun x hx => h x (List.mem_cons_of_mem _ hx)) (fun x hx => h' x (List.mem_cons_of_mem _ hx)) e.2]
theorem eqv_pair {ks : List Bool} {p q : Nat × List PyData} (hp : isRow ks (.tuple p.2) = true) (hq : isRow ks (.tuple q.2) = true) (e : PyData.eqv (pairD p) (pairD q) = true) : p = q := by
  simp only [pairD, PyData.eqv, PyData.eqvAll, Bool.and_eq_true] at e
  have e1 : p.1 = q.1 := by
    have := e.1
    simp at this
    omega
  have e2 := eqv_vals (fun d hd => row_val hp hd) (fun d hd => row_val hq hd) e.2.1
  obtain ⟨a, b⟩ := p
  obtain ⟨c, d⟩ := q
  simp only at e1 e2
  rw [e1, e2]
theorem pair_shaped {ks : List Bool} {p : Nat × List PyData} (h : isRow ks (.tuple p.2) = true) : SeqAt.shaped (pairD p) = true := by
  obtain ⟨h1, h2⟩ := pair_shape h
  unfold SeqAt.shaped
  rw [Bool.and_eq_true]
  exact ⟨h1, decide_eq_true (by omega)⟩
theorem eqv_vself {b : Bool} {d : PyData} (h : isVal b d = true) : PyData.eqv d d = true := by
  rcases val_atom h with ⟨_, x, rfl⟩ | ⟨_, n, rfl⟩ <;> simp [PyData.eqv]
theorem eqvAll_self : ∀ {r : List PyData}, (∀ d ∈ r, ∃ b, isVal b d = true) → PyData.eqvAll r r = true
  | [], _ => by simp [PyData.eqvAll]
  | d :: r, h => by
    obtain ⟨b, hv⟩ := h d List.mem_cons_self
    simp only [PyData.eqvAll, Bool.and_eq_true]
    exact ⟨eqv_vself hv, eqvAll_self fun x hx => h x (List.mem_cons_of_mem _ hx)⟩
theorem eqv_self {ks : List Bool} {p : Nat × List PyData} (hp : isRow ks (.tuple p.2) = true) : PyData.eqv (pairD p) (pairD p) = true := by
  have q := eqvAll_self (r := p.2) fun d hd => row_val hp hd
  simp [pairD, PyData.eqv, PyData.eqvAll, q]
theorem dpAll_erase {K : PySem.W.Frag} {H : Hp} : ∀ {xs : List V} {ds : List PyData}, DpAll K H xs ds → ∀ k : Nat, DpAll K H (xs.eraseIdx k) (ds.eraseIdx k)
  | _, _, .nil, _ => .nil
  | _, _, .cons _ t, 0 => t
  | _, _, .cons h t, k + 1 => .cons h (dpAll_erase t k)
end
end RS
set_option Elab.async false
set_option maxRecDepth 100000
set_option maxHeartbeats 8000000
namespace RS
open PySem PySem.Spec PyProof.Rows L2 GX
mutual
def few : PyData → Prop
  | .list ds => ds.length ≤ 1000000 ∧ fews ds
  | .tuple ds => ds.length ≤ 1000000 ∧ fews ds
  | .dict _ => False
  | _ => True
def fews : List PyData → Prop
  | [] => True
  | d :: ds => few d ∧ fews ds
end
theorem fews_iff : ∀ {ds : List PyData}, fews ds ↔ ∀ d ∈ ds, few d
  | [] => by simp [fews]
  | d :: ds => by
    unfold fews
    rw [fews_iff]
    simp
theorem depth_mem : ∀ {ds : List PyData} {d : PyData}, d ∈ ds → d.depth ≤ PyData.depthAll ds
  | [], _, h => by cases h
  | e :: ds, d, h => by
    simp only [PyData.depthAll]
    rcases List.mem_cons.mp h with q | q
    · subst q
      omega
    · have := depth_mem q
      omega
end RS
set_option Elab.async false
set_option maxRecDepth 100000
set_option maxHeartbeats 4000000
namespace RS
open PySem PySem.Spec PyProof.Rows L2 GX
mutual
theorem eqv_rf : ∀ d : PyData, few d → PyData.eqv d d = true
  | .none, _ => by simp [PyData.eqv]
  | .bool _, _ => by simp [PyData.eqv]
  | .int _, _ => by simp [PyData.eqv]
  | .str _, _ => by simp [PyData.eqv]
  | .list ds, h => by
    have h : ds.length ≤ 1000000 ∧ fews ds := by simpa only [few] using h
    simp only [PyData.eqv]
    exact eqvs_rf ds h.2
  | .tuple ds, h => by
    have h : ds.length ≤ 1000000 ∧ fews ds := by simpa only [few] using h
    simp only [PyData.eqv]
    exact eqvs_rf ds h.2
  | .dict _, h => by simp [few] at h
theorem eqvs_rf : ∀ ds : List PyData, fews ds → PyData.eqvAll ds ds = true
  | [], _ => by simp [PyData.eqvAll]
  | d :: ds, h => by
    have h : few d ∧ fews ds := by simpa only [fews] using h
    simp only [PyData.eqvAll, Bool.and_eq_true]
    exact ⟨eqv_rf d h.1, eqvs_rf ds h.2⟩
end
theorem few_list {ds : List PyData} (h1 : ds.length ≤ 1000000) (h2 : ∀ d ∈ ds, few d) : few (.list ds) := by
  simp only [few]
  exact ⟨h1, fews_iff.mpr h2⟩
theorem few_tup {ds : List PyData} (h1 : ds.length ≤ 1000000) (h2 : ∀ d ∈ ds, few d) : few (.tuple ds) := by
  simp only [few]
  exact ⟨h1, fews_iff.mpr h2⟩
theorem few_val {b : Bool} {d : PyData} (h : isVal b d = true) : few d := by
  rcases val_atom h with ⟨_, x, rfl⟩ | ⟨_, n, rfl⟩ <;> simp [few]
theorem few_row {ks : List Bool} {r : List PyData} (hk : ks.length ≤ 4) (h : isRow ks (.tuple r) = true) : few (.tuple r) :=
  few_tup (by have := (isRow_get.mp h).1; omega) fun d hd => by
    obtain ⟨b, hv⟩ := row_val h hd
    exact few_val hv
theorem few_pair {ks : List Bool} {p : Nat × List PyData} (hk : ks.length ≤ 4) (h : isRow ks (.tuple p.2) = true) : few (pairD p) :=
  few_tup (by simp) fun d hd => by
    rcases List.mem_cons.mp hd with e | hd
    · rw [e]; simp [few]
    · rw [List.mem_singleton.mp hd]; exact few_row hk h
theorem few_order {os : List (Nat × Bool)} (h : os.length ≤ 1000) : few (orderD os) :=
  few_list (by rw [List.length_map]; omega) fun d hd => by
    obtain ⟨p, _, rfl⟩ := List.mem_map.mp hd
    exact few_tup (by simp) fun d hd => by
      simp at hd
      rcases hd with rfl | rfl <;> simp [few]
theorem few_rows {ks : List Bool} {rs : List (List PyData)} (hk : ks.length ≤ 4) (h1 : rs.length ≤ 1000) (h : ∀ r ∈ rs, isRow ks (.tuple r) = true) : few (rowsD rs) :=
  few_list (by rw [List.length_map]; omega) fun d hd => by
    obtain ⟨r, hr, rfl⟩ := List.mem_map.mp hd
    exact few_row hk (h r hr)
theorem order_shaped {os : List (Nat × Bool)} : (orderD os).canLay0 = true ∧ (orderD os).depth ≤ 2 := by
  constructor
  · simp only [orderD, PyData.canLay0]
    exact canLayAll fun d hd => by
      obtain ⟨p, _, rfl⟩ := List.mem_map.mp hd
      have : PyData.strOk (wayS p.2) = true := by cases p.2 <;> decide +kernel
      simp [partD, PyData.canLay0, PyData.canLayAll0, this]
  · simp only [orderD, PyData.depth]
    have := depthLe (n := 1) (ds := os.map partD) fun d hd => by
      obtain ⟨p, _, rfl⟩ := List.mem_map.mp hd
      simp [partD, PyData.depth, PyData.depthAll]
    omega
theorem handed_shaped {ks : List Bool} {os : List (Nat × Bool)} {rs : List (List PyData)} (h : ∀ r ∈ rs, isRow ks (.tuple r) = true) : SeqAt.shaped (.tuple [orderD os, rowsD rs]) = true := by
  obtain ⟨a1, a2⟩ := order_shaped (os := os)
  have q := rowsL_shaped h
  unfold SeqAt.shaped at q ⊢
  rw [Bool.and_eq_true] at q ⊢
  obtain ⟨b1, b2⟩ := q
  have b2 := of_decide_eq_true b2
  refine ⟨?_, decide_eq_true ?_⟩
  · simp only [PyData.canLay0, PyData.canLayAll0, Bool.and_eq_true]
    exact ⟨a1, b1, trivial⟩
  · have b3 : (rowsD rs).depth ≤ 2 := by
      simp only [rowsD, PyData.depth]
      have := depthLe (n := 1) (ds := rs.map .tuple) fun d hd => by
        obtain ⟨r, hr, rfl⟩ := List.mem_map.mp hd
        exact (row_shape (h r hr)).2
      omega
    simp only [PyData.depth, PyData.depthAll]
    omega
def runsD (runs : List (List (Nat × List PyData))) : PyData := .list (runs.map fun r => .list (r.map pairD))
theorem few_runs {ks : List Bool} {runs : List (List (Nat × List PyData))} (hk : ks.length ≤ 4) (h1 : runs.length ≤ 1000) (h2 : ∀ r ∈ runs, r.length ≤ 1000) (h : ∀ r ∈ runs, ∀ q ∈ r, isRow ks (.tuple q.2) = true) : few (runsD runs) :=
  few_list (by rw [List.length_map]; omega) fun d hd => by
    obtain ⟨r, hr, rfl⟩ := List.mem_map.mp hd
    exact few_list (by rw [List.length_map]; have := h2 r hr; omega) fun d hd => by
      obtain ⟨q, hq, rfl⟩ := List.mem_map.mp hd
      exact few_pair hk (h r hr q hq)
theorem depth_runs {ks : List Bool} {runs : List (List (Nat × List PyData))} (h : ∀ r ∈ runs, ∀ q ∈ r, isRow ks (.tuple q.2) = true) : (runsD runs).depth ≤ 4 := by
  simp only [runsD, PyData.depth]
  have := depthLe (n := 3) (ds := runs.map fun r => .list (r.map pairD)) fun d hd => by
    obtain ⟨r, hr, rfl⟩ := List.mem_map.mp hd
    simp only [PyData.depth]
    have := depthLe (n := 2) (ds := r.map pairD) fun d hd => by
      obtain ⟨q, hq, rfl⟩ := List.mem_map.mp hd
      exact (pair_shape (h r hr q hq)).2
    omega
  omega
theorem RunsTo.len {α : Type} {lt : α → α → Bool} {g left : List α} {runs : List (List α)} (h : RunsTo lt g left runs) : ∀ r ∈ runs, r.length ≤ g.length + left.length := by
  induction h with
  | done => exact fun _ h => by cases h
  | @more room left r w l rs hr t m ih =>
    have pm := t.perm.length_eq
    simp only [List.length_append] at pm
    intro q hq
    rcases List.mem_cons.mp hq with e | hq
    · rw [e]; omega
    · have := ih q hq
      omega
theorem runs_dp {K : PySem.W.Frag} {ks : List Bool} {H H' : Hp} {as : List Addr} {runs : List (List (Nat × List PyData))} (R : Runs K ks H H' as runs) : DpAll K H' (as.map V.ref) (runs.map fun r => .list (r.map pairD)) := by
  refine dpAll_by (by rw [List.length_map, List.length_map, R.len]) fun i v d e1 e2 => ?_
  rw [List.getElem?_map] at e1 e2
  cases q1 : as[i]? with
  | none => rw [q1] at e1; cases e1
  | some a =>
    cases q2 : runs[i]? with
    | none => rw [q2] at e2; cases e2
    | some r =>
      rw [q1] at e1
      rw [q2] at e2
      cases e1
      cases e2
      obtain ⟨x, h1, h2⟩ := R.at_ i a r q1 q2
      exact .lst (SqL.of h1) h2
/-- sorted lists of one kind of things are equal where the order tells them apart -/
theorem srtd_uniq {α : Type} {lt : α → α → Bool} : ∀ {l m : List α}, l.Perm m → SrtO.Srtd lt l → SrtO.Srtd lt m → (∀ x y, x ∈ l → y ∈ l → lt x y = false → lt y x = false → x = y) → l = m
  | [], m, p, _, _, _ => (p.symm.eq_nil).symm
  | x :: l, [], p, _, _, _ => absurd p.length_eq (by simp)
  | x :: l, y :: m, p, h1, h2, U => by
    have hx : x ∈ y :: m := p.mem_iff.mp List.mem_cons_self
    have hy : y ∈ x :: l := p.mem_iff.mpr List.mem_cons_self
    have exy : x = y := by
      rcases List.mem_cons.mp hx with e | hx
      · exact e
      · rcases List.mem_cons.mp hy with e | hy'
        · exact e.symm
        · exact U x y List.mem_cons_self (List.mem_cons_of_mem _ hy') (SrtO.srtd_head h2 x hx) (SrtO.srtd_head h1 y hy')
    subst exy
    rw [srtd_uniq (List.Perm.cons_inv p) (List.pairwise_cons.mp h1).2 (List.pairwise_cons.mp h2).2 fun a b ha hb => U a b (List.mem_cons_of_mem _ ha) (List.mem_cons_of_mem _ hb)]
theorem enumP_num {α : Type} {l : List α} {p q : Nat × α} (hp : p ∈ enumP 0 l) (hq : q ∈ enumP 0 l) (e : p.1 = q.1) : p = q := by
  obtain ⟨i, hi, ei⟩ := List.getElem_of_mem hp
  obtain ⟨j, hj, ej⟩ := List.getElem_of_mem hq
  have e1 : (enumP 0 l)[i]? = some p := by rw [List.getElem?_eq_getElem hi, ei]
  have e2 : (enumP 0 l)[j]? = some q := by rw [List.getElem?_eq_getElem hj, ej]
  rw [enumP_get] at e1 e2
  cases q1 : l[i]? with
  | none => rw [q1] at e1; cases e1
  | some x =>
    cases q2 : l[j]? with
    | none => rw [q2] at e2; cases e2
    | some y =>
      rw [q1] at e1
      rw [q2] at e2
      cases e1
      cases e2
      have ij : i = j := by simpa using e
      subst ij
      rw [q1] at q2
      cases q2
      rfl
theorem before_tot {os : List (Nat × Bool)} {rs : List (List PyData)} : ∀ x y, x ∈ enumP 0 rs → y ∈ enumP 0 rs → before os x y = false → before os y x = false → x = y := fun x y hx hy h1 h2 => enumP_num hx hy (rank_num (rank_ne h1 h2))
end RS
set_option Elab.async false
set_option maxRecDepth 100000
set_option maxHeartbeats 8000000
namespace RS
open PySem PySem.Spec PyProof.Rows L2 GX
section
variable {P : Program} {w : World} {K : PySem.W.Frag} {mg : Str → Option Value} {base : Heap}
/-- how many parts of n there are -/
def cnt (l n : Nat) : Nat := (Builtin.Range.rangeSize 0 l n).toNat
theorem small_all : ∀ l < 121, ∀ n < 25, 1 ≤ n → Builtin.Range.small 0 (l : Nat) (n : Nat) = true := by decide +kernel
theorem cnt_le : ∀ l < 121, ∀ n < 25, 1 ≤ n → cnt l n ≤ 120 := by decide +kernel
theorem rgc {l n : Nat} (hl : l ≤ 120) (h1 : 1 ≤ n) (h2 : n ≤ 24) : RgC 0 (l : Nat) (n : Nat) (cnt l n) := ⟨by omega, by omega, small_all l (by omega) n (by omega) h1, PyProof.Rows.rangeSize_toNat _ _ _⟩
/-- the parts, each in order -/
def FilledTo (os : List (Nat × Bool)) (n : Nat) (l : List (Nat × List PyData)) (runs : List (List (Nat × List PyData))) : Prop :=
  runs.length = cnt l.length n ∧ ∀ (i : Nat) (r : List (Nat × List PyData)), runs[i]? = some r → r.Perm ((l.drop (i * n)).take n) ∧ SrtO.Srtd (before os) r
theorem cutV_mid {xs : List V} {a n : Nat} : cutV xs (some ((a : Nat) : Int)) (some ((a + n : Nat) : Int)) = (xs.drop a).take n := by
  unfold cutV
  rw [HT.sIx_nat, HT.sIx_nat]
  by_cases h : a ≤ xs.length
  · rw [Nat.min_eq_left h]
    by_cases h2 : a + n ≤ xs.length
    · rw [Nat.min_eq_left h2, Nat.add_sub_cancel_left]
    · rw [Nat.min_eq_right (by omega), List.take_of_length_le (by rw [List.length_drop]; exact Nat.le_refl _), List.take_of_length_le (by rw [List.length_drop]; omega)]
  · rw [Nat.min_eq_right (show xs.length ≤ a by omega), Nat.min_eq_right (show xs.length ≤ a + n by omega), List.drop_of_length_le (Nat.le_refl _), List.drop_of_length_le (show xs.length ≤ a by omega)]
    simp
/-- the tables put away -/
def noT (H : Hp) : Hp := fun b => match H b with
  | some (.tbl _) => none
  | o => o
theorem noT_at {H : Hp} {b : Addr} {o : HO} (e : H b = some o) (n : ∀ ps, o ≠ .tbl ps) : noT H b = some o := by
  unfold noT
  rw [e]
  cases o <;> first | rfl | exact absurd rfl (n _)
theorem noT_of {H : Hp} {b : Addr} {o : HO} (e : noT H b = some o) : H b = some o ∧ ∀ ps, o ≠ .tbl ps := by
  unfold noT at e
  cases q : H b with
  | none => rw [q] at e; cases e
  | some u =>
    rw [q] at e
    cases u <;> first
      | exact ⟨e, fun ps z => by cases z; cases e⟩
      | (cases e)
theorem noT_none {H : Hp} {b : Addr} (e : H b = none) : noT H b = none := by
  unfold noT
  rw [e]
theorem noT_same (H : Hp) : Same (noT H) H := fun _ _ e => (noT_of e).1
theorem noT_up {H H' : Hp} (s : Same (noT H) H') : Same (noT H) (noT H') := fun b o e => noT_at (s b o e) (noT_of e).2
theorem noT_ext {H H' : Hp} (s : LamX.ExtN H H') : Same (noT H) H' := fun b o e => s b o (noT_of e).1 (noT_of e).2
theorem noT_mono {H H' : Hp} (s : Same H H') : Same (noT H) (noT H') := noT_up ((noT_same H).trans s)
theorem sqT_noT {K : PySem.W.Frag} {H : Hp} {a : Addr} {xs : List V} (h : SqT K H a xs) : SqT K (noT H) a xs := by
  rcases h with (h | ⟨o, h⟩) | h
  · exact .inl (.inl (noT_at h (fun _ z => by cases z)))
  · exact .inl (.inr ⟨o, noT_at h (fun _ z => by cases z)⟩)
  · exact .inr h
theorem sqL_noT {K : PySem.W.Frag} {H : Hp} {a : Addr} {xs : List V} (h : SqL K H a xs) : SqL K (noT H) a xs := by
  rcases h with (h | ⟨o, h⟩) | h
  · exact .inl (.inl (noT_at h (fun _ z => by cases z)))
  · exact .inl (.inr ⟨o, noT_at h (fun _ z => by cases z)⟩)
  · exact .inr h
mutual
theorem dp_noT {K : PySem.W.Frag} {H : Hp} : ∀ (d : PyData) {v : V}, Dp K H v d → Dp K (noT H) v d
  | .none, _, .non => .non
  | .bool b, _, .bl _ => .bl b
  | .int i, _, .int _ => .int i
  | .str x, _, .str _ => .str x
  | .list ds, _, .lst h hs => .lst (sqL_noT h) (dpAll_noT ds hs)
  | .tuple ds, _, .tup h hs => .tup (sqT_noT h) (dpAll_noT ds hs)
  | .dict _, _, h => nomatch h
theorem dpAll_noT {K : PySem.W.Frag} {H : Hp} : ∀ (ds : List PyData) {vs : List V}, DpAll K H vs ds → DpAll K (noT H) vs ds
  | [], _, .nil => .nil
  | d :: ds, _, .cons h hs => .cons (dp_noT d h) (dpAll_noT ds hs)
end
theorem Handed.noT {K : PySem.W.Frag} {H : Hp} {vk vo vr : V} {ks : List Bool} {os : List (Nat × Bool)} {n : Int} {rs : List (List PyData)} (h : Handed K H vk vo vr ks os n rs) : Handed K (noT H) vk vo vr ks os n rs := { h with k := dp_noT _ h.k, o := dp_noT _ h.o, r := dp_noT _ h.r }
/-- the name of filled's lambda -/
abbrev qF : Str := (envOfC "filled" (defScope sFilled) 0 0 (.ref 0)).qual ++ "<lambda>"
def spFilled (K : PySem.W.Frag) (pK pW pR pF : Addr) : Sp := fun vs H Q _ => ∃ (vk vo vr : V) (ks : List Bool) (os : List (Nat × Bool)) (n : Nat) (rs : List (List PyData)), vs = [vk, vo, .int (n : Nat), vr] ∧ Handed K H vk vo vr ks os n rs ∧ Tabs3 H pK pW pR ∧ LamX.TabS H pF qF ∧
  ∀ (H' : Hp) (p : Addr) (as : List Addr) (runs : List (List (Nat × List PyData))), Same (noT H) H' → LamX.TabS H' pF qF → H p = none → p ∉ as → H' p = some (.lst (as.map V.ref)) → Runs K ks (noT H) H' as runs → FilledTo os n (enumP 0 rs) runs → Q (.ref p) H'
end
end RS
set_option Elab.async false
set_option maxRecDepth 100000
set_option maxHeartbeats 4000000
namespace RS
open PySem PySem.Spec PyProof.Rows L2 GX
section
variable {α : Type} {lt : α → α → Bool}
theorem RunTo.srtd (O : SrtO.Swo lt) {g left r w l : List α} (h : RunTo lt g left r w l) : SrtO.Srtd lt r ∧ ∀ x, (∀ y ∈ g, lt y x = false) → ∀ y ∈ r, lt y x = false := by
  induction h with
  | done l => exact ⟨.nil, fun _ _ _ h => nomatch h⟩
  | @last g g' r w l x p m t ih =>
    refine ⟨List.pairwise_cons.mpr ⟨ih.2 x m, ih.1⟩, fun z hz y hy => ?_⟩
    have hx := hz x (p.mem_iff.mpr List.mem_cons_self)
    rcases List.mem_cons.mp hy with e | hy
    · rw [e]; exact hx
    · exact O.tr z x y hx (ih.2 x m y hy)
  | @keep g g' left r w l x e p m h t ih =>
    have a : ∀ y ∈ e :: g', lt y x = false := fun y hy => by
      rcases List.mem_cons.mp hy with q | hy
      · rw [q]; exact h
      · exact m y hy
    refine ⟨List.pairwise_cons.mpr ⟨ih.2 x a, ih.1⟩, fun z hz y hy => ?_⟩
    have hx := hz x (p.mem_iff.mpr List.mem_cons_self)
    rcases List.mem_cons.mp hy with q | hy
    · rw [q]; exact hx
    · exact O.tr z x y hx (ih.2 x a y hy)
  | @wait g g' left r w l x e p m h t ih =>
    refine ⟨List.pairwise_cons.mpr ⟨ih.2 x m, ih.1⟩, fun z hz y hy => ?_⟩
    have hx := hz x (p.mem_iff.mpr List.mem_cons_self)
    rcases List.mem_cons.mp hy with q | hy
    · rw [q]; exact hx
    · exact O.tr z x y hx (ih.2 x m y hy)
theorem RunTo.ge {g left r w l : List α} (h : RunTo lt g left r w l) : g.length ≤ r.length := by
  induction h with
  | done l => exact Nat.le_refl _
  | last p m t ih => rw [p.length_eq, List.length_cons, List.length_cons]; omega
  | keep p m h t ih => rw [p.length_eq, List.length_cons, List.length_cons]; rw [List.length_cons] at ih; omega
  | wait p m h t ih => rw [p.length_eq, List.length_cons, List.length_cons]; omega
theorem RunTo.no_left {g left r w l : List α} (h : RunTo lt g left r w l) : left = [] → w = [] ∧ l = [] := by
  induction h with
  | done l => exact fun e => ⟨rfl, e⟩
  | last p m t ih => exact fun _ => ih rfl
  | keep p m h t ih => exact fun e => nomatch e
  | wait p m h t ih => exact fun e => nomatch e
/-- what comes in order is never ahead of what went -/
theorem RunTo.rising {g left r w l : List α} (h : RunTo lt g left r w l) : (∀ y ∈ g, ∀ z ∈ left, lt z y = false) → SrtO.Srtd lt left → w = [] ∧ (g ≠ [] → l = []) := by
  induction h with
  | done l => exact fun _ _ => ⟨rfl, fun e => absurd rfl e⟩
  | last p m t ih => exact fun _ _ => ⟨(t.no_left rfl).1, fun _ => (t.no_left rfl).2⟩
  | @keep g g' left r w l x e p m h t ih =>
    intro a s
    obtain ⟨s1, s2⟩ := List.pairwise_cons.mp s
    have q := ih (fun y hy z hz => by
      rcases List.mem_cons.mp hy with q | hy
      · rw [q]; exact s1 z hz
      · exact a y (p.mem_iff.mpr (List.mem_cons_of_mem _ hy)) z (List.mem_cons_of_mem _ hz)) s2
    exact ⟨q.1, fun _ => q.2 (by simp)⟩
  | @wait g g' left r w l x e p m h t ih =>
    intro a s
    have := a x (p.mem_iff.mpr List.mem_cons_self) e List.mem_cons_self
    rw [h] at this
    cases this
/-- what comes turned about always waits -/
theorem RunTo.falling {g left r w l : List α} (h : RunTo lt g left r w l) : (∀ y ∈ g, ∀ z ∈ left, lt z y = true) → left.Pairwise (fun a b => lt b a = true) → r.length = g.length ∧ w ++ l = left := by
  induction h with
  | done l => exact fun _ _ => ⟨rfl, rfl⟩
  | @last g g' r w l x p m t ih =>
    intro _ _
    obtain ⟨h1, h2⟩ := ih (fun _ _ z hz => nomatch hz) .nil
    exact ⟨by rw [p.length_eq, List.length_cons, List.length_cons, h1], h2⟩
  | @keep g g' left r w l x e p m h t ih =>
    intro a _
    have := a x (p.mem_iff.mpr List.mem_cons_self) e List.mem_cons_self
    rw [h] at this
    cases this
  | @wait g g' left r w l x e p m h t ih =>
    intro a s
    obtain ⟨s1, s2⟩ := List.pairwise_cons.mp s
    obtain ⟨h1, h2⟩ := ih (fun y hy z hz => a y (p.mem_iff.mpr (List.mem_cons_of_mem _ hy)) z (List.mem_cons_of_mem _ hz)) s2
    exact ⟨by rw [p.length_eq, List.length_cons, List.length_cons, h1], by rw [List.cons_append, h2]⟩
theorem RunsTo.all {g left : List α} {runs : List (List α)} (h : RunsTo lt g left runs) (hn : g = [] → left = []) : (runs.flatten).Perm (g ++ left) := by
  induction h with
  | done left => rw [hn rfl]; exact .refl _
  | @more room left r w l rs hr t m ih =>
    rw [List.flatten_cons]
    have q := ih fun e => by
      rcases t.len with z | z
      · exact z
      · rw [e] at z
        exact absurd (List.length_eq_zero_iff.mp z.symm) hr
    refine (List.Perm.append_left r q).trans ?_
    rw [← List.append_assoc]
    exact t.perm.symm
theorem RunsTo.run {g left : List α} {runs : List (List α)} (O : SrtO.Swo lt) (h : RunsTo lt g left runs) : ∀ r ∈ runs, r ≠ [] ∧ SrtO.Srtd lt r := by
  induction h with
  | done left => exact fun _ h => nomatch h
  | @more room left r w l rs hr t m ih =>
    intro q hq
    rcases List.mem_cons.mp hq with e | hq
    · rw [e]
      exact ⟨fun z => by have := t.some hr; rw [z] at this; simp at this, (t.srtd O).1⟩
    · exact ih q hq
theorem RunsTo.nil_of {left : List α} {runs : List (List α)} (h : RunsTo lt [] left runs) : runs = [] := by
  cases h with
  | done => rfl
  | more hr => exact absurd rfl hr
/-- all but the last have as many as the room -/
theorem RunsTo.most {g left : List α} {runs : List (List α)} {n : Nat} (h : RunsTo lt g left runs) (hn : left ≠ [] → g.length = n) : ∀ r ∈ runs.dropLast, n ≤ r.length := by
  induction h with
  | done left => exact fun _ h => nomatch h
  | @more room left r w l rs hr t m ih =>
    have hl : l ≠ [] → w.length = n := fun e => by
      have e2 : left ≠ [] := fun z => e (t.no_left z).2
      rcases t.len with z | z
      · exact absurd z e
      · rw [z, hn e2]
    cases rs with
    | nil => exact fun _ h => nomatch h
    | cons r2 rs =>
      intro q hq
      rw [List.dropLast_cons_cons] at hq
      rcases List.mem_cons.mp hq with e | hq
      · rw [e]
        have e2 : left ≠ [] := fun z => by
          have := (t.no_left z).1
          subst this
          exact nomatch m.nil_of
        rw [← hn e2]
        exact t.ge
      · exact ih hl q hq
theorem RunsTo.risen {g left : List α} {runs : List (List α)} (h : RunsTo lt g left runs) (a : ∀ y ∈ g, ∀ z ∈ left, lt z y = false) (s : SrtO.Srtd lt left) : runs.length = if g = [] then 0 else 1 := by
  cases h with
  | done left => rfl
  | @more room left r w l rs hr t m =>
    have q := t.rising a s
    rw [q.1] at m
    rw [m.nil_of, if_neg hr]
    rfl
theorem RunsTo.fallen {g left : List α} {runs : List (List α)} {n : Nat} (h : RunsTo lt g left runs) : (left ≠ [] → g.length = n) → (∀ y ∈ g, ∀ z ∈ left, lt z y = true) → left.Pairwise (fun a b => lt b a = true) → ∀ r ∈ runs.dropLast, r.length = n := by
  induction h with
  | done left => exact fun _ _ _ _ h => nomatch h
  | @more room left r w l rs hr t m ih =>
    intro hn a s
    obtain ⟨h1, h2⟩ := t.falling a s
    have hl : l ≠ [] → w.length = n := fun e => by
      have e2 : left ≠ [] := fun z => e (t.no_left z).2
      rcases t.len with z | z
      · exact absurd z e
      · rw [z, hn e2]
    cases rs with
    | nil => exact fun _ h => nomatch h
    | cons r2 rs =>
      intro q hq
      rw [List.dropLast_cons_cons] at hq
      rcases List.mem_cons.mp hq with e | hq
      · rw [e, h1]
        exact hn fun z => by
          have := (t.no_left z).1
          subst this
          exact nomatch m.nil_of
      · rw [← h2] at s
        obtain ⟨s1, s2, s3⟩ := List.pairwise_append.mp s
        exact ih hl s3 s2 q hq
theorem sum_ge {n : Nat} : ∀ {runs : List (List α)}, (∀ r ∈ runs.dropLast, n ≤ r.length) → (∀ r ∈ runs, r ≠ []) → runs ≠ [] → n * (runs.length - 1) + 1 ≤ runs.flatten.length
  | [], _, _, h => absurd rfl h
  | [r], _, h, _ => by
    have := h r (by simp)
    cases r with
    | nil => exact absurd rfl this
    | cons a r => simp
  | r :: r2 :: rs, h1, h2, _ => by
    have q := sum_ge (runs := r2 :: rs) (fun r' hr => h1 r' (by rw [List.dropLast_cons_cons]; exact List.mem_cons_of_mem _ hr)) (fun r' hr => h2 r' (List.mem_cons_of_mem _ hr)) (by simp)
    have q1 := h1 r (by rw [List.dropLast_cons_cons]; exact List.mem_cons_self)
    rw [List.flatten_cons, List.length_append]
    simp only [List.length_cons, Nat.add_sub_cancel] at q ⊢
    rw [Nat.mul_add, Nat.mul_one]
    omega
/-- the parts of a list -/
theorem parts_flat {l : List α} {n : Nat} : ∀ k : Nat, ((List.range k).map fun i => (l.drop (i * n)).take n).flatten = l.take (k * n)
  | 0 => by simp
  | k + 1 => by
    rw [List.range_succ, List.map_append, List.flatten_append, parts_flat k]
    simp only [List.map_cons, List.map_nil, List.flatten_cons, List.flatten_nil, List.append_nil]
    rw [Nat.add_mul, Nat.one_mul, List.take_add]
theorem perm_flat : ∀ {a b : List (List α)}, a.length = b.length → (∀ (i : Nat) (x y : List α), a[i]? = some x → b[i]? = some y → x.Perm y) → a.flatten.Perm b.flatten
  | [], [], _, _ => .refl _
  | [], _ :: _, h, _ => by simp at h
  | _ :: _, [], h, _ => by simp at h
  | x :: a, y :: b, h, p => by
    rw [List.flatten_cons, List.flatten_cons]
    exact (p 0 x y rfl rfl).append (perm_flat (by simpa using h) fun i u v hu hv => p (i + 1) u v (by simpa using hu) (by simpa using hv))
end
theorem cnt_eq : ∀ l < 121, ∀ n < 25, 1 ≤ n → cnt l n = (l + n - 1) / n := by decide +kernel
theorem cnt_all (l : Nat) (hl : l < 121) (n : Nat) (hn : n < 25) (h1 : 1 ≤ n) : l ≤ cnt l n * n ∧ ∀ i < 120, i < cnt l n → i * n < l ∧ (i + 1 < cnt l n → (i + 1) * n ≤ l) := by
  rw [cnt_eq l hl n hn h1]
  have d := Nat.div_add_mod (l + n - 1) n
  have m := Nat.mod_lt (l + n - 1) (show n > 0 by omega)
  refine ⟨?_, fun i _ hi => ⟨?_, fun hi2 => ?_⟩⟩
  · rw [Nat.mul_comm]
    omega
  · have := (Nat.le_div_iff_mul_le (show 0 < n by omega)).mp hi
    rw [Nat.succ_mul] at this
    omega
  · have := (Nat.le_div_iff_mul_le (show 0 < n by omega)).mp hi2
    rw [Nat.succ_mul] at this
    omega
section
variable {os : List (Nat × Bool)} {n : Nat} {l : List (Nat × List PyData)} {runs : List (List (Nat × List PyData))}
theorem FilledTo.all (h : FilledTo os n l runs) (hl : l.length ≤ 120) (h1 : 1 ≤ n) (h2 : n ≤ 24) : runs.flatten.Perm l := by
  obtain ⟨c1, _⟩ := cnt_all l.length (by omega) n (by omega) h1
  have q : runs.flatten.Perm ((List.range (cnt l.length n)).map fun i => (l.drop (i * n)).take n).flatten := perm_flat (by rw [h.1, List.length_map, List.length_range]) fun i x y hx hy => by
    have hi : i < cnt l.length n := by rw [← h.1]; exact (List.getElem?_eq_some_iff.mp hx).1
    rw [List.getElem?_map, List.getElem?_range hi] at hy
    cases hy
    exact (h.2 i x hx).1
  rw [parts_flat, List.take_of_length_le c1] at q
  exact q
theorem FilledTo.run (h : FilledTo os n l runs) (hl : l.length ≤ 120) (h1 : 1 ≤ n) (h2 : n ≤ 24) : ∀ r ∈ runs, r ≠ [] ∧ SrtO.Srtd (before os) r := fun r hr => by
  obtain ⟨c1, c2⟩ := cnt_all l.length (by omega) n (by omega) h1
  have cb := cnt_le l.length (by omega) n (by omega) h1
  obtain ⟨i, hi, e⟩ := List.getElem_of_mem hr
  obtain ⟨p, s⟩ := h.2 i r (by rw [List.getElem?_eq_getElem hi, e])
  rw [h.1] at hi
  have c3 := (c2 i (by omega) hi).1
  refine ⟨fun z => ?_, s⟩
  have := p.length_eq
  rw [z, List.length_take, List.length_drop, List.length_nil] at this
  omega
theorem FilledTo.most (h : FilledTo os n l runs) (hl : l.length ≤ 120) (h1 : 1 ≤ n) (h2 : n ≤ 24) : ∀ r ∈ runs.dropLast, r.length = n := fun r hr => by
  obtain ⟨c1, c2⟩ := cnt_all l.length (by omega) n (by omega) h1
  have cb := cnt_le l.length (by omega) n (by omega) h1
  obtain ⟨i, hi, e⟩ := List.getElem_of_mem hr
  rw [List.length_dropLast, h.1] at hi
  have e2 : runs[i]? = some r := by
    rw [List.getElem?_eq_getElem (by rw [h.1]; omega)]
    rw [List.getElem_dropLast] at e
    rw [e]
  obtain ⟨p, _⟩ := h.2 i r e2
  have c3 := (c2 i (by omega) (by omega)).2 (by omega)
  rw [p.length_eq, List.length_take, List.length_drop]
  rw [Nat.add_mul, Nat.one_mul] at c3
  omega
/-- by exchanging there are no more runs than by filling -/
theorem fewer {runs2 : List (List (Nat × List PyData))} (h : FilledTo os n l runs) (hl : l.length ≤ 120) (h1 : 1 ≤ n) (h2 : n ≤ 24) (t : RunsTo (before os) (l.take n) (l.drop n) runs2) : runs2.length ≤ runs.length := by
  obtain ⟨c1, _⟩ := cnt_all l.length (by omega) n (by omega) h1
  by_cases e : runs2 = []
  · rw [e]; exact Nat.zero_le _
  have hn : l.drop n ≠ [] → (l.take n).length = n := fun z => by
    have : n < l.length := by
      by_cases q : n < l.length
      · exact q
      · exact absurd (List.drop_of_length_le (by omega)) z
    rw [List.length_take]
    omega
  have q := sum_ge (t.most hn) (fun r hr => (t.run (swo_before os) r hr).1) e
  have pm := (t.all fun z => by
    have : l = [] := by
      cases l with
      | nil => rfl
      | cons a l => cases n with
        | zero => omega
        | succ n => simp at z
    rw [this, List.drop_nil]).length_eq
  rw [List.take_append_drop] at pm
  rw [pm] at q
  rw [h.1]
  have q2 : n * (runs2.length - 1) < n * cnt l.length n := by rw [Nat.mul_comm n (cnt _ _)]; omega
  have := Nat.lt_of_mul_lt_mul_left q2
  omega
end
end RS
set_option Elab.async false
set_option maxRecDepth 100000
set_option maxHeartbeats 4000000
namespace RS
open PySem PySem.Spec PyProof.Rows L2 GX
theorem lex_tot : ∀ A B : List Int, HT.lexLt A B = false → HT.lexLt B A = false → A = B
  | [], [], _, _ => rfl
  | [], y :: B, h1, _ => by rw [HT.lexLt_nil_cons] at h1; cases h1
  | x :: A, [], _, h2 => by rw [HT.lexLt_nil_cons] at h2; cases h2
  | x :: A, y :: B, h1, h2 => by
    rw [HT.lexLt_cons] at h1 h2
    by_cases e : x = y
    · subst e
      rw [if_pos rfl] at h1 h2
      rw [lex_tot A B h1 h2]
    · rw [if_neg e] at h1
      rw [if_neg (Ne.symm e)] at h2
      have a := of_decide_eq_false h1
      have b := of_decide_eq_false h2
      omega
theorem col_tot {kb b : Bool} {m t : PyData} (hm : isVal kb m = true) (ht : isVal kb t = true) (ne : m ≠ t) (h : colLt b m t = false) : colLt b t m = true := by
  obtain ⟨_, k2, k3⟩ := key_lt (b := b) hm ht ne
  obtain ⟨_, _, k4⟩ := key_lt (b := b) ht hm (Ne.symm ne)
  cases e : colLt b t m with
  | true => rfl
  | false =>
    rw [← k3] at h
    rw [← k4] at e
    exact absurd (lex_tot _ _ h e) k2
theorem Alike.symm {os : List (Nat × Bool)} {p q : Nat × List PyData} (A : Alike os p q) : Alike os q p := fun o ho => by
  obtain ⟨kb, m, t, h1, h2, v1, v2⟩ := A o ho
  exact ⟨kb, t, m, h2, h1, v2, v1⟩
/-- rows in order, numbered anew -/
theorem before_rise {p q : Nat × List PyData} {i j : Nat} (hij : i < j) : ∀ {os : List (Nat × Bool)}, Alike os p q → before os q p = false → before os (j, q.2) (i, p.2) = false
  | [], _, _ => by rw [before_nil]; exact decide_eq_false (by show ¬ j < i; omega)
  | (c, b) :: os, A, h => by
    obtain ⟨kb, m, t, h1, h2, v1, v2⟩ := A (c, b) List.mem_cons_self
    have B := before_cons (os := os) (b := b) h2 h1 v2 v1
    have B' := before_cons (os := os) (b := b) (p := (j, q.2)) (q := (i, p.2)) h2 h1 v2 v1
    by_cases e : t = m
    · rw [B'.1 e]
      rw [B.1 e] at h
      exact before_rise hij (fun o ho => A o (List.mem_cons_of_mem _ ho)) h
    · rw [B'.2 e]
      rw [B.2 e] at h
      exact h
/-- rows in order that are unlike, turned about -/
theorem before_fall {p q : Nat × List PyData} {i j : Nat} : ∀ {os : List (Nat × Bool)}, Alike os p q → before os q p = false → (∃ o ∈ os, p.2[o.1]? ≠ q.2[o.1]?) → before os (j, p.2) (i, q.2) = true
  | [], _, _, ⟨_, h, _⟩ => nomatch h
  | (c, b) :: os, A, h, u => by
    obtain ⟨kb, m, t, h1, h2, v1, v2⟩ := A (c, b) List.mem_cons_self
    have B := before_cons (os := os) (b := b) h2 h1 v2 v1
    have B' := before_cons (os := os) (b := b) (p := (j, p.2)) (q := (i, q.2)) h1 h2 v1 v2
    by_cases e : m = t
    · rw [B'.1 e]
      rw [B.1 e.symm] at h
      refine before_fall (fun o ho => A o (List.mem_cons_of_mem _ ho)) h ?_
      obtain ⟨o, ho, ne⟩ := u
      rcases List.mem_cons.mp ho with z | ho
      · rw [z] at ne
        exact absurd (by show p.2[c]? = q.2[c]?; rw [h1, h2, e]) ne
      · exact ⟨o, ho, ne⟩
    · rw [B'.2 e]
      rw [B.2 (Ne.symm e)] at h
      exact col_tot v2 v1 (Ne.symm e) h
theorem rise_all {ks : List Bool} {os : List (Nat × Bool)} (ok : OkOrder ks.length os) {qs : List (Nat × List PyData)} (hq : ∀ q ∈ qs, isRow ks (.tuple q.2) = true) (s : SrtO.Srtd (before os) qs) : SrtO.Srtd (before os) (enumP 0 (qs.map (·.2))) := by
  refine List.pairwise_iff_getElem.mpr fun i j hi hj hij => ?_
  rw [enumP_length, List.length_map] at hi hj
  have g : ∀ k (hk : k < qs.length) (h' : k < (enumP 0 (qs.map (·.2))).length), (enumP 0 (qs.map (·.2)))[k] = (k, (qs[k]).2) := fun k hk h' => by
    have e := enumP_get (l := qs.map (·.2)) (k := 0) (i := k)
    rw [List.getElem?_eq_getElem h', List.getElem?_map, List.getElem?_eq_getElem hk] at e
    have e := Option.some.inj e
    rw [e]
    simp
  rw [g i hi, g j hj]
  exact before_rise hij (alike_rows ok (hq _ (List.getElem_mem hi)) (hq _ (List.getElem_mem hj))) (List.pairwise_iff_getElem.mp s i j hi hj hij)
theorem fall_all {os : List (Nat × Bool)} {fs : List (List PyData)} (s : fs.Pairwise fun a b => ∀ i j, before os (j, b) (i, a) = true) : (enumP 0 fs).Pairwise fun a b => before os b a = true := by
  refine List.pairwise_iff_getElem.mpr fun i j hi hj hij => ?_
  rw [enumP_length] at hi hj
  have g : ∀ k (hk : k < fs.length) (h' : k < (enumP 0 fs).length), (enumP 0 fs)[k] = (k, fs[k]) := fun k hk h' => by
    have e := enumP_get (l := fs) (k := 0) (i := k)
    rw [List.getElem?_eq_getElem h', List.getElem?_eq_getElem hk] at e
    have e := Option.some.inj e
    rw [e]
    simp
  rw [g i hi, g j hj]
  exact List.pairwise_iff_getElem.mp s i j hi hj hij i j
/-- one more that is unlike the last -/
theorem fall_snoc {os : List (Nat × Bool)} {fs : List (List PyData)} {a x : List PyData} (s : (fs ++ [a]).Pairwise fun a b => ∀ i j, before os (j, b) (i, a) = true) (h : ∀ i j, before os (j, x) (i, a) = true) : (fs ++ [a] ++ [x]).Pairwise fun a b => ∀ i j, before os (j, b) (i, a) = true := by
  refine List.pairwise_append.mpr ⟨s, List.pairwise_singleton _ _, fun y hy z hz i j => ?_⟩
  rw [List.mem_singleton.mp hz]
  rcases List.mem_append.mp hy with hy | hy
  · have h1 := (List.pairwise_append.mp s).2.2 y hy a (List.mem_singleton.mpr rfl) i 0
    have h2 := h 0 j
    exact (swo_before os).ltle h2 ((swo_before os).asym _ _ h1)
  · rw [List.mem_singleton.mp hy]
    exact h i j
end RS
set_option Elab.async false
set_option maxRecDepth 100000
set_option maxHeartbeats 4000000
namespace SPn
open PySem PySem.Spec PyProof.Rows L2 SrtO
/-- a pair of a number and an object -/
def IsPr (h : Heap) (v : Value) (n : Int) : Prop := ∃ (a : Addr) (o : Obj) (t : Tok) (y : Addr) (m : Nat), v = .ref a ∧ h.get? a = some o ∧ o.cls = .type "tuple" ∧ o.data = .seq #[.int n t, .ref y] m
theorem IsPr.keeps {h h' : Heap} {v : Value} {n : Int} (p : IsPr h v n) (k : ∀ b o, h.get? b = some o → o.cls = .type "tuple" → h'.get? b = some o) : IsPr h' v n := by
  obtain ⟨a, o, t, y, m, e, ho, hc, hd⟩ := p
  exact ⟨a, o, t, y, m, e, k a o ho hc, hc, hd⟩
section
variable {prog : Program} {w : World} {A : Around} {s : Shared} {E : Value → Shared → Prop}
theorem eqBool_same {a : Addr} {Q : Bool → Shared → Prop} (h : Q true s) : wpAny (model prog w) A (eqBool (.ref a) (.ref a)) Q E s := by
  unfold eqBool
  refine wpAny_holding ?_
  have e : (Value.ref a == Value.ref a) = true := by first | rfl | simp
  rw [if_pos e]
  exact wpAny_bind (wpAny_rule (wpAny_pure h))
theorem pr_cmp {vs : List Value} {k : Value → Int} (hp : ∀ v ∈ vs, IsPr s.heap v (k v)) (inj : ∀ v ∈ vs, ∀ u ∈ vs, k v = k u → v = u) : Cmp prog w A s (tuples' true) (fun p => p.1 ∈ vs) (lt2 fun v u => decide (k v < k u)) := by
  intro p q hm hm'
  have h1 := hp _ hm
  have h2 := hp _ hm'
  show wpAny (model prog w) A (keyLt' (tuples' true) p.1 q.1) (fun r s' => s' = s ∧ r = decide (k p.1 < k q.1)) (fun _ _ => False) s
  by_cases ek : k p.1 = k q.1
  · have epq := inj _ hm _ hm' ek
    rw [← epq]
    obtain ⟨a, o, t, y, n, e, ho, hc, hd⟩ := h1
    rw [e]
    refine PySem.W.kat_lt ho hd ho hd ?_
    show PySem.W.KatLex prog w A true (decide (2 < 2)) _ [(.int _ t, .int _ t), (.ref y, .ref y)] 0 s
    refine PySem.W.kat_cons (SeqAt.EqAt.int_int _ t _ t prog w _ _ ?_)
    refine PySem.W.kat_go (fun _ => ?_) (fun e1 => ?_)
    · refine PySem.W.kat_yes (PySem.W.kat_cons (eqBool_same ?_))
      exact PySem.W.kat_yes (PySem.W.kat_nil ⟨rfl, (decide_eq_false (Int.lt_irrefl _)).symm⟩)
    · simp at e1
  · generalize k p.1 = x at h1 ek ⊢
    generalize k q.1 = x' at h2 ek ⊢
    obtain ⟨a, o, t, y, n, e, ho, hc, hd⟩ := h1
    obtain ⟨a', o', t', y', n', e', ho', hc', hd'⟩ := h2
    rw [e, e']
    refine PySem.W.kat_lt ho hd ho' hd' ?_
    show PySem.W.KatLex prog w A true (decide (2 < 2)) _ [(.int x t, .int x' t'), (.ref y, .ref y')] 0 s
    refine PySem.W.kat_cons (SeqAt.EqAt.int_int x t x' t' prog w _ _ ?_)
    refine PySem.W.kat_go (fun e1 => absurd (by simpa using e1) ek) (fun e1 => ?_)
    exact PySem.W.kat_no (oneLt_int ⟨rfl, rfl⟩)
theorem pr_firsts {h : Heap} : ∀ {vs : List Value}, (∀ v ∈ vs, ∃ n, IsPr h v n) → ∃ fs : List Value, PySem.W.KatTups h vs fs ∧ fs.length = vs.length ∧ ∀ f ∈ fs, ∃ x t, f = Value.int x t
  | [], _ => ⟨[], PySem.W.KatTups.nil, rfl, fun _ hm => by simp at hm⟩
  | v :: vs, hv => by
    obtain ⟨fs, h1, h2, h3⟩ := pr_firsts (vs := vs) fun u hu => hv u (List.mem_cons_of_mem _ hu)
    obtain ⟨n, a, o, t, y, m, rfl, g1, g2, g3⟩ := hv v List.mem_cons_self
    refine ⟨.int n t :: fs, .cons g1 g2 g3 rfl h1, by simp [h2], fun u hu => ?_⟩
    rcases List.mem_cons.mp hu with z | z
    · exact ⟨n, t, z⟩
    · exact h3 u z
theorem pr_sortable {a : Addr} {vs : List Value} {k : Value → Int} (h0 : 0 < vs.length) (hp : ∀ v ∈ vs, IsPr s.heap v (k v)) (inj : ∀ v ∈ vs, ∀ u ∈ vs, k v = k u → v = u) (ha : ∀ o, s.heap.get? a = some o → o.cls ≠ .type "tuple") : SortableO prog w A s a vs fun v u => decide (k v < k u) := by
  intro h' keep
  have hp' : ∀ v ∈ vs, IsPr h' v (k v) := fun v hm => (hp v hm).keeps fun b o e c => keep b o (fun z => by subst z; exact ha o e c) e
  obtain ⟨fs, h1, h2, h3⟩ := pr_firsts fun v hm => ⟨_, hp' v hm⟩
  refine ⟨tuples' true, fun Q E hq => ?_, pr_cmp hp' inj⟩
  refine PySem.W.kat_kind (T := .type "int") h1 (by omega) (fun f hm => ?_) (by rfl) ?_
  · obtain ⟨x, t, rfl⟩ := h3 f hm
    exact PySem.W.Looks.now
  · have e : (Value.type "int" != Value.type "tuple") = true := by first | decide +kernel | rfl | decide
    rw [e]
    exact hq
theorem swo_k (k : Value → Int) : Swo fun v u => decide (k v < k u) := by
  refine ⟨fun x y h => ?_, fun x y z h1 h2 => ?_⟩
  · have a := of_decide_eq_true h
    exact decide_eq_false (by omega)
  · have a := of_decide_eq_false h1
    have b := of_decide_eq_false h2
    exact decide_eq_false (by omega)
end
def nOf (h : Heap) : Value → Int
  | .ref a => (match h.get? a with
    | some o => (match o.data with
      | .seq xs _ => (match (xs[0]? : Option Value) with
        | some (Value.int n _) => n
        | _ => 0)
      | _ => 0)
    | none => 0)
  | _ => 0
theorem nOf_pr {h : Heap} {v : Value} {n : Int} (p : IsPr h v n) : nOf h v = n := by
  obtain ⟨a, o, t, y, m, rfl, h1, _, h3⟩ := p
  simp only [nOf, h1, h3]
  rfl
/-- sorted(xs), xs pairs of a number and an object, no number in two of them -/
def rSortedN (K : PySem.W.Frag) : List V → Hp → VK → Prop := fun vs H Q => ∃ (a : Addr) (xs : List V) (kf : Nat → Int), vs = [V.ref a] ∧ SqL K H a xs ∧ (∀ j x, xs[j]? = some x → ∃ t y, x = V.ref t ∧ SqT K H t [.int (kf j), .ref y]) ∧ (∀ i j, i < xs.length → j < xs.length → kf i = kf j → i = j) ∧
  ∀ is p, (List.range xs.length).Perm is → is.Pairwise (fun i j => kf i ≤ kf j) → H p = none → Q (.ref p) (upd H p (.lst (is.map fun i => xs.getD i .non)))
section
variable {X : Cx}
theorem cr_sortedN : CallR X (.builtin "sorted") (rSortedN X.K) := by
  intro pins s σ H vs us Q I r h
  obtain ⟨a, xs, kf, rfl, hs, hx, inj, q⟩ := h
  obtain ⟨its, rv, hl, hz⟩ := I.list hs
  obtain ⟨u, rfl, ru⟩ := vals1 r
  obtain rfl : u = Value.ref a := ru
  have lx := rv.length
  have hp : ∀ j v, its[j]? = some v → IsPr s.heap v (kf j) := fun j v hv => by
    have hj : j < xs.length := by have := (List.getElem?_eq_some_iff.mp hv).1; omega
    obtain ⟨t, y, e, ht⟩ := hx j _ (List.getElem?_eq_getElem hj)
    obtain ⟨v', h1, h2⟩ := rv.get (i := j) (x := xs[j]) (List.getElem?_eq_getElem hj)
    rw [hv] at h1
    cases h1
    rw [e] at h2
    cases h2
    obtain ⟨its2, r2, ht2, _⟩ := I.tuple ht
    obtain ⟨o, ho, hc, n, hd⟩ := ht2
    obtain ⟨u1, u2, rfl, ri, rj⟩ := vals2 r2
    obtain ⟨t1, rfl⟩ := ri
    cases rj
    exact ⟨t, o, t1, y, n, rfl, ho, hc, hd⟩
  have hp2 : ∀ v ∈ its, IsPr s.heap v (nOf s.heap v) := fun v hv => by
    obtain ⟨j, hj, e⟩ := List.getElem_of_mem hv
    have t := hp j v (by rw [List.getElem?_eq_getElem hj, e])
    rw [nOf_pr t]
    exact t
  have inj' : ∀ v ∈ its, ∀ u ∈ its, nOf s.heap v = nOf s.heap u → v = u := fun v hv u hu e => by
    obtain ⟨i, hi, ei⟩ := List.getElem_of_mem hv
    obtain ⟨j, hj, ej⟩ := List.getElem_of_mem hu
    rw [nOf_pr (hp i v (by rw [List.getElem?_eq_getElem hi, ei])), nOf_pr (hp j u (by rw [List.getElem?_eq_getElem hj, ej]))] at e
    have := inj i j (by omega) (by omega) e
    subst this
    rw [← ei, ← ej]
  refine sorted_ord (swo_k (nOf s.heap)) hl.isList (by rw [← rv.length]; exact hz) (fun h2 h₁ a ha kk => ?_) fun out h1 h2 => ?_
  · refine pr_sortable (s := { s with heap := h₁ }) (by omega) (fun v hm => (hp2 v hm).keeps fun b o e _ => (kk b o e).2) inj' fun o e => ?_
    have e' : some o = some (seqObj "list" its.toArray 0) := e.symm.trans ha
    cases e'
    intro c
    exact absurd (Value.type.inj c) (by decide)
  · have kp : ∀ b o, s.heap.get? b = some o → (sortedAll s.heap its out.toArray).get? b = some o := fun b o e => sortedAll_old e
    obtain ⟨n, hn⟩ := sortedAll_at s.heap its out.toArray
    have ei : its = (List.range its.length).map fun i => its.getD i .none := by
      refine List.ext_getElem? fun i => ?_
      rw [List.getElem?_map]
      by_cases hi : i < its.length
      · rw [List.getElem?_range hi, List.getElem?_eq_getElem hi, Option.map_some, List.getD_eq_getElem?_getD, List.getElem?_eq_getElem hi]
        rfl
      · rw [List.getElem?_eq_none (l := its) (by omega), List.getElem?_eq_none (l := List.range its.length) (by rw [List.length_range]; omega)]
        rfl
    obtain ⟨is, p1, p2⟩ := RS.perm_unmap h2.perm.symm (List.range its.length) ei.symm
    have mem : ∀ i ∈ is, i < its.length := fun i hi => List.mem_range.mp (p1.mem_iff.mpr hi)
    have pw : is.Pairwise fun i j => kf i ≤ kf j := by
      rw [← p2] at h1
      refine List.Pairwise.imp_of_mem (fun {i j} hi hj hij => ?_) (List.pairwise_map.mp h1)
      have a1 := of_decide_eq_false hij
      have g : ∀ i, i < its.length → nOf s.heap (its.getD i .none) = kf i := fun i hi => nOf_pr (hp i _ (by
        rw [List.getD_eq_getElem?_getD, List.getElem?_eq_getElem hi]
        rfl))
      rw [g i (mem i hi), g j (mem j hj)] at a1
      omega
    have vy : Vals (is.map fun i => xs.getD i .non) out := by
      rw [← p2]
      clear p1 p2 pw
      induction is with
      | nil => exact .nil
      | cons i is ih =>
        refine .cons ?_ (ih fun j hj => mem j (List.mem_cons_of_mem _ hj))
        have hi := mem i List.mem_cons_self
        obtain ⟨u, hu, ru⟩ := rv.get (i := i) (x := xs[i]) (List.getElem?_eq_getElem (by omega))
        show RelV (xs.getD i .non) (its.getD i .none)
        have hx : i < xs.length := by omega
        rw [List.getD_eq_getElem?_getD, List.getD_eq_getElem?_getD, hu, List.getElem?_eq_getElem hx]
        exact ru
    refine ⟨.ref (s.heap.objs.size + 1), upd H (s.heap.objs.size + 1) (.lst (is.map fun i => xs.getD i .non)), I.laid (t' := s.toks) kp (Nat.le_succ _) ⟨?_, out, n, vy, hn⟩, rfl, q is _ (by rw [lx]; exact p1) pw (I.hok.fresh (Nat.le_succ _))⟩
    rw [vy.length, h2.perm.length_eq, ← lx]
    exact hz
end
end SPn
set_option Elab.async false
set_option maxRecDepth 100000
set_option maxHeartbeats 4000000
namespace FLs
open PySem PySem.Spec PyProof.Rows L2 PySem.W
/-! ### keys that are tuples of ints -/
def IsTi (h : Heap) (v : Value) (ns : List Int) : Prop := ∃ (a : Addr) (o : Obj) (xs : Array Value) (n : Nat), v = .ref a ∧ h.get? a = some o ∧ o.cls = .type "tuple" ∧ o.data = .seq xs n ∧ IntsAre xs.toList ns
section
variable {prog : Program} {w : World} {A : Around} {E : Value → Shared → Prop} {s : Shared}
theorem kat_ints {b : Bool} {Q : Bool → Shared → Prop} : ∀ {xs ys : List Value} {ns ms : List Int} (i : Nat) (fin : Bool), IntsAre xs ns → IntsAre ys ms → (fin = decide (ns.length < ms.length)) → Q (HT.lexLt ns ms) s → KatLex prog w A b fin Q (xs.zip ys) i s := by
  intro xs
  induction xs with
  | nil =>
    intro ys ns ms i fin hx hy hf q
    cases hx
    refine kat_nil ?_
    cases hy with
    | nil => rw [hf]; exact q
    | cons m t hy => rw [hf]; exact q
  | cons x xs ih =>
    intro ys ns ms i fin hx hy hf q
    cases hx with
    | cons n t hx =>
      cases hy with
      | nil => rw [List.zip_nil_right]; refine kat_nil ?_; rw [hf]; exact q
      | cons m u hy =>
        rw [List.zip_cons_cons]
        refine kat_cons ?_
        rw [HT.lexLt_cons] at q
        refine wpAny_eqBool_int ?_
        by_cases e : n = m
        · subst e
          have z : (n == n) = true := beq_self_eq_true n
          rw [z]
          rw [if_pos rfl] at q
          refine kat_yes (ih (i + 1) fin hx hy ?_ q)
          rw [hf]
          simp
        · have z : (n == m) = false := by simpa using e
          rw [z]
          rw [if_neg e] at q
          refine kat_no ?_
          cases hb : (b && i == 0) with
          | false => exact kat_one _ _ (PyProof.Rows.lt_int q)
          | true =>
            exact oneLt_int q
theorem ti_lt {b : Bool} {x y : Value} {ns ms : List Int} {Q : Bool → Shared → Prop} (hx : IsTi s.heap x ns) (hy : IsTi s.heap y ms) (q : Q (HT.lexLt ns ms) s) : wpAny (model prog w) A (keyLt' (tuples' b) x y) Q E s := by
  obtain ⟨a, o, xs, n, rfl, h1, _, h3, h4⟩ := hx
  obtain ⟨c, p, ys, m, rfl, g1, _, g3, g4⟩ := hy
  refine kat_lt h1 h3 g1 g3 (kat_ints 0 _ h4 g4 ?_ q)
  have l1 := h4.length
  have l2 := g4.length
  rw [Array.length_toList] at l1 l2
  rw [l1, l2]
theorem ti_tups {h : Heap} : ∀ {vs : List Value}, (∀ v ∈ vs, ∃ n ns, IsTi h v (n :: ns)) → ∃ fs, KatTups h vs fs ∧ fs.length = vs.length ∧ ∀ v ∈ fs, ∃ n t, v = .int n t
  | [], _ => ⟨[], .nil, rfl, fun _ h => nomatch h⟩
  | v :: vs, hv => by
    obtain ⟨fs, h1, h2, h3⟩ := ti_tups (vs := vs) fun u hu => hv u (List.mem_cons_of_mem _ hu)
    obtain ⟨n, ns, a, o, xs, k, rfl, g1, g2, g3, g4⟩ := hv v List.mem_cons_self
    obtain ⟨t, r, e⟩ : ∃ t r, xs.toList = .int n t :: r := by
      cases q : xs.toList with
      | nil => rw [q] at g4; cases g4
      | cons y r =>
        rw [q] at g4
        cases g4 with
        | cons _ t _ => exact ⟨t, r, rfl⟩
    refine ⟨.int n t :: fs, .cons g1 g2 g3 (by rw [← Array.getElem?_toList, e]; rfl) h1, by simp [h2], fun u hu => ?_⟩
    rcases List.mem_cons.mp hu with z | z
    · exact ⟨n, t, z⟩
    · exact h3 u z
theorem ti_kind {vs : List Value} {Q : SortKind → Shared → Prop} (hv : ∀ v ∈ vs, ∃ n ns, IsTi s.heap v (n :: ns)) (h0 : 0 < vs.length) (q : Q (tuples' true) s) : wpAny (model prog w) A (keyKind' vs.toArray) Q E s := by
  obtain ⟨fs, h1, h2, h3⟩ := ti_tups hv
  refine kat_kind (T := .type "int") h1 (by omega) (fun v hv => ?_) (by decide) q
  obtain ⟨n, t, rfl⟩ := h3 v hv
  exact .now
end
end FLs
set_option Elab.async false
set_option maxRecDepth 100000
set_option maxHeartbeats 4000000
namespace FLs
open PySem PySem.Spec PyProof.Rows L2 PySem.W RS
section
variable {X : Cx} {pins : List (Addr × Obj)} {σ : L2.St} {H : Hp} {s : Shared}
/-- the keys, one by one: the list's items stand at D no more, the keys at kS -/
theorem keys_run {q D kS : Addr} {its : List Value} {xs : List V} {kf : Nat → List Int} {b : Bool} {e1 : Nat} {R : PySem.Fin → Shared → Prop} {E : Value → Shared → Prop} {A : Around} (I : Inv X pins σ H s) (rv : Vals xs its) (hk : H kS = some (.lst [])) (hz : its.length ≤ 1000)
    (turn : ∀ (i : Nat) (v : V) (u : Value) (s' : Shared) (H' : Hp), (∀ c o, c ≠ kS → H c = some o → H' c = some o) → Inv X pins σ H' s' → xs[i]? = some v → RelV v u →
      wpAny (model X.prog X.w) A (call (.ref q) [u]) (EP X pins σ fun r H'' => Same H' H'' ∧ ∃ p, r = .ref p ∧ H'' p = some (.tup ((kf i).map V.int))) (fun _ _ => False) s')
    (h : ∀ (s' : Shared) (H' : Hp) (ps : List Addr) (kA : Array Value), (∀ c o, c ≠ kS → H c = some o → H' c = some o) → Inv X pins σ H' s' → H' kS = some (.lst (ps.map V.ref)) → ps.length = its.length → (∀ (i : Nat) p, ps[i]? = some p → H' p = some (.tup ((kf i).map V.int))) →
      Vals (ps.map V.ref) kA.toList → (∃ n, s'.heap.get? kS = some { cls := .type "list", data := .seq kA n }) → wpAny (model X.prog X.w) A (ksk_end D b its.toArray e1 (.ref kS) kA) R E s') :
    wpAny (model X.prog X.w) A (ksk_rest D (.ref q) b its.toArray e1 (.ref kS)) R E s := by
  unfold ksk_rest
  refine wpAny_bind (wpAny_rule ?_)
  first
    | rw [List.forIn_toArray]
    | (rw [← Array.forIn_toList]; simp only [List.toList_toArray])
    | rw [← Array.forIn_toList]
  refine wpAny_bind (ksk_fold (fun i s' => ∃ (H' : Hp) (ps : List Addr), (∀ c o, c ≠ kS → H c = some o → H' c = some o) ∧ Inv X pins σ H' s' ∧ H' kS = some (.lst (ps.map V.ref)) ∧ ps.length = i ∧ ∀ (j : Nat) p, ps[j]? = some p → H' p = some (.tup ((kf j).map V.int))) its 0 s
    ⟨H, [], fun c o _ e => e, I, hk, rfl, fun j p h => by simp at h⟩ ?step ?done)
  case step =>
    rintro j x s' hx ⟨H', ps, sm, I', hk', lp, hp⟩
    simp only [Nat.zero_add] at lp ⊢
    have hj : j < its.length := (List.getElem?_eq_some_iff.mp hx).1
    have lx := rv.length
    obtain ⟨u, hu, ru⟩ := rv.get (i := j) (x := xs[j]) (List.getElem?_eq_getElem (by omega))
    rw [hx] at hu
    cases hu
    refine wpAny_bind (wpAny_attempt (wpAny_mono (turn j xs[j] x s' H' sm I' (List.getElem?_eq_getElem (by omega)) ru) (fun v s'' he => ?_) fun _ _ hF => hF.elim))
    obtain ⟨r, H'', I'', rr, s12, p, er, hp''⟩ := he
    subst er
    cases rr
    try dsimp only
    have hk'' := s12 _ _ hk'
    obtain ⟨_, kits, n, kr, kl, ke⟩ := I''.lstM hk''
    have lk : kits.length = ps.length := by rw [← kr.length, List.length_map]
    have n2 : p ≠ kS := fun z => by rw [z, hk''] at hp''; cases hp''
    have z1000 : (1000 : Nat) < sizeLine := by decide
    refine wpAny_bind (listUpdate_at ke rfl ?_ (by rw [List.size_toArray]; omega) (by rw [Array.size_push, List.size_toArray]; omega))
    have I3 : Inv X pins σ (upd H'' kS (.lst ((ps ++ [p]).map V.ref))) { s'' with heap := s''.heap.update kS (Obj.mapSeq fun x => x.push (.ref p)) } :=
      I''.lset (l := kS) (ys := (ps ++ [p]).map V.ref) (its' := kits ++ [.ref p]) (f := fun x => x.push (.ref p)) (t' := s''.toks) hk'' ke (by simp) (by rw [List.map_append]; exact kr.append (.cons rfl .nil)) (by rw [List.length_map, List.length_append, List.length_singleton]; omega)
    refine wpAny_pure ⟨rfl, _, ps ++ [p], fun c o hc e => ?_, I3, upd_same, by rw [List.length_append, lp]; rfl, fun i' p' hi => ?_⟩
    · rw [upd_ne hc]
      exact s12 _ _ (sm c o hc e)
    · have np : ∀ p0, H'' p0 = some (.tup ((kf i').map V.int)) → upd H'' kS (.lst ((ps ++ [p]).map V.ref)) p0 = some (.tup ((kf i').map V.int)) := fun p0 e => by
        rw [upd_ne (fun z => by rw [z, hk''] at e; cases e)]
        exact e
      by_cases hlt : i' < ps.length
      · rw [List.getElem?_append_left hlt] at hi
        exact np p' (s12 _ _ (hp i' p' hi))
      · have h1 := (List.getElem?_eq_some_iff.mp hi).1
        rw [List.length_append, List.length_singleton] at h1
        have e1 : i' = ps.length := by omega
        subst e1
        rw [List.getElem?_append_right (Nat.le_refl _), Nat.sub_self] at hi
        cases hi
        rw [lp] at np ⊢
        exact np p hp''
  case done =>
    rintro s' ⟨H', ps, sm, I', hk', lp, hp⟩
    rw [Nat.zero_add] at lp
    obtain ⟨_, kits, n, kr, kl, ke⟩ := I'.lstM hk'
    try dsimp only
    refine wpAny_bind (listItems_at ke rfl ?_)
    exact h s' H' ps kits.toArray sm I' hk' lp hp (by simpa using kr) ⟨n, ke⟩
end
end FLs
set_option Elab.async false
set_option maxRecDepth 100000
set_option maxHeartbeats 4000000
namespace FLs
open PySem PySem.Spec PyProof.Rows L2 PySem.W RS
def kOf (h : Heap) : Value → List Int
  | .ref a => (match h.get? a with
    | some o => (match o.data with
      | .seq xs _ => xs.toList.map numOf
      | _ => [])
    | none => [])
  | _ => []
theorem kOf_ti {h : Heap} {v : Value} {ns : List Int} (t : IsTi h v ns) : kOf h v = ns := by
  obtain ⟨a, o, xs, n, rfl, h1, _, h3, h4⟩ := t
  simp only [kOf, h1, h3]
  exact h4.nums
def ltk (h : Heap) (p q : Keyed) : Bool := HT.lexLt (kOf h p.1) (kOf h q.1)
theorem swo_ltk (h : Heap) : SrtO.Swo (ltk h) := NtL.swo_lexL (fun p : Keyed => kOf h p.1)
section
variable {prog : Program} {w : World} {A : Around} {s : Shared}
theorem cmp_ltk {b : Bool} : SrtO.Cmp prog w A s (tuples' b) (fun p => ∃ ns, IsTi s.heap p.1 ns) (ltk s.heap) := by
  rintro p q ⟨ns, hp⟩ ⟨ms, hq⟩
  refine ti_lt hp hq ⟨rfl, ?_⟩
  unfold ltk
  rw [kOf_ti hp, kOf_ti hq]
end
/-- the outcome: an order of the places -/
def Outs (kf : Nat → List Int) (n : Nat) (is : List Nat) : Prop := (List.range n).Perm is ∧ SrtO.Srtd (fun i j => HT.lexLt (kf i) (kf j)) is
section
variable {prog : Program} {w : World} {A : Around} {s : Shared} {E : Value → Shared → Prop}
theorem end_run {D kS : Addr} {its : List Value} {kA : Array Value} {kf : Nat → List Int} {e1 n : Nat} {R : PySem.Fin → Shared → Prop} (hz : its.length ≤ 1000) (ne : kS ≠ D) (hl : kA.size = its.length) (hk : ∀ (i : Nat) v, kA[i]? = some v → IsTi s.heap v (kf i) ∧ kf i ≠ [])
    (gk : s.heap.get? kS = some (seqObj "list" kA n)) (gD : s.heap.get? D = some (seqObj "list" #[] e1))
    (h : ∀ is, Outs kf its.length is → R (.done (.ret .none)) { s with heap := (s.heap.update kS (Obj.mapSeq fun _ => #[])).update D (Obj.mapSeq fun _ => (is.map fun i => its.getD i .none).toArray) }) :
    wpAny (model prog w) A (ksk_end D false its.toArray e1 (.ref kS) kA) R E s := by
  have big : (1000 : Nat) < sizeLine := by decide
  have lz : kA.toList.length = its.length := by rw [Array.length_toList]; exact hl
  have ez : (kA.zip its.toArray).toList = (List.range its.length).map fun i => (kA.toList.getD i .none, its.getD i .none) := by
    rw [ksk_zip]
    refine List.ext_getElem? fun i => ?_
    rw [List.getElem?_map]
    by_cases hi : i < its.length
    · rw [List.getElem?_range hi, List.getElem?_eq_getElem (by rw [List.length_zip]; omega), List.getElem_zip]
      have h1 : i < kA.toList.length := by omega
      show _ = some (kA.toList.getD i .none, its.getD i .none)
      rw [List.getD_eq_getElem?_getD, List.getD_eq_getElem?_getD, List.getElem?_eq_getElem h1, List.getElem?_eq_getElem hi]
      rfl
    · rw [List.getElem?_eq_none (by rw [List.length_zip]; omega), List.getElem?_eq_none (by simp; omega)]
      rfl
  -- the tail
  have tail : ∀ st : SortSt, SrtO.Srtd (ltk s.heap) (arrOf st).toList → ((kA.zip its.toArray).toList).Perm (arrOf st).toList → failedOf st = none → wpAny (model prog w) A (ksk_tail D false e1 (.ref kS) st) R E s := by
    intro st hs hp hf
    rw [ez] at hp
    obtain ⟨is, p1, p2⟩ := perm_unmap hp _ rfl
    have mem : ∀ i ∈ is, i < its.length := fun i hi => List.mem_range.mp (p1.mem_iff.mpr hi)
    have hsi : SrtO.Srtd (fun i j => HT.lexLt (kf i) (kf j)) is := by
      rw [← p2] at hs
      have q := List.pairwise_map.mp hs
      refine List.Pairwise.imp_of_mem (fun {x y} hx hy hxy => ?_) q
      have kx : ∀ i, i < its.length → kOf s.heap (kA.toList.getD i .none) = kf i := fun i hi => by
        refine kOf_ti (hk i _ ?_).1
        rw [List.getD_eq_getElem?_getD, ← Array.getElem?_toList, List.getElem?_eq_getElem (by omega)]
        rfl
      unfold ltk at hxy
      simp only at hxy
      rw [kx x (mem x hx), kx y (mem y hy)] at hxy
      exact hxy
    have eo : (arrOf st).map (·.2) = (is.map fun i => its.getD i .none).toArray := by
      apply Array.toList_inj.mp
      rw [Array.toList_map, ← p2, List.map_map]
      rfl
    have lis : is.length = its.length := by rw [← p1.length_eq, List.length_range]
    unfold ksk_tail
    dsimp only
    rw [eo]
    refine wpAny_bind (listUpdate_at gk rfl ?_ (by omega) (Nat.zero_le _))
    refine wpAny_bind (wpAny_letGo ?_)
    have gD1 : (s.heap.update kS (Obj.mapSeq fun _ => (#[] : Array Value))).get? D = some (seqObj "list" #[] e1) := (Heap.get?_update_ne _ _ _ _ (Ne.symm ne)).trans gD
    refine wpAny_bind (seqEpoch_at gD1 rfl ?_)
    refine wpAny_bind (listUpdate_at gD1 rfl ?_ (Nat.zero_le _) (by simp only [Bool.false_eq_true, if_false, List.size_toArray, List.length_map]; omega))
    rw [hf]
    simp only [bne_self_eq_false, Bool.false_eq_true, if_false]
    exact wpAny_pure (h is ⟨p1, hsi⟩)
  unfold ksk_end
  dsimp only
  rw [if_neg (by decide)]
  by_cases h2 : its.toArray.size < 2
  · rw [if_pos h2, if_pos h2]
    refine wpAny_bind (wpAny_pure ?_)
    rw [StateT.run_pure]
    refine wpAny_bind (wpAny_pure ?_)
    rw [List.size_toArray] at h2
    refine tail _ ?_ (List.Perm.refl _) rfl
    have lp : (kA.zip its.toArray).toList.length < 2 := by rw [ksk_zip, List.length_zip]; omega
    show SrtO.Srtd (ltk s.heap) (kA.zip its.toArray).toList
    match (kA.zip its.toArray).toList, lp with
    | [], _ => exact .nil
    | [x], _ => exact List.pairwise_singleton _ _
  · rw [if_neg h2, if_neg h2]
    rw [List.size_toArray] at h2
    have ti : ∀ v ∈ kA.toList, ∃ n ns, IsTi s.heap v (n :: ns) := fun v hv => by
      obtain ⟨i, hi, ei⟩ := List.getElem_of_mem hv
      obtain ⟨t, nn⟩ := hk i v (by rw [← Array.getElem?_toList, List.getElem?_eq_getElem hi, ei])
      cases q : kf i with
      | nil => exact absurd q nn
      | cons n ns =>
        rw [q] at t
        exact ⟨n, ns, t⟩
    refine wpAny_bind ?_
    have ek := ti_kind (prog := prog) (w := w) (A := A) (s := s) (E := E) (Q := fun κ s' => κ = tuples' true ∧ s' = s) ti (by omega) ⟨rfl, rfl⟩
    rw [Array.toArray_toList] at ek
    refine wpAny_mono ek (fun κ s' hκ => ?_) fun _ _ e => e
    obtain ⟨rfl, rfl⟩ := hκ
    refine wpAny_bind (wpAny_mono (SrtO.wpS_sortO (st0 := SortSt.mk' (tuples' true) (if false = true then (kA.zip its.toArray).reverse else kA.zip its.toArray) #[] 7 none)
      (Q := fun _ st' => SrtO.Srtd (ltk s'.heap) (arrOf st').toList ∧ SrtO.Stb (ltk s'.heap) (arrOf st').toList (kA.zip its.toArray).toList ∧ failedOf st' = none) (swo_ltk s'.heap) cmp_ltk rfl (fun p hp => ?_) rfl rfl fun st' a1 a2 a3 => ⟨a1, a2, a3⟩) ?_ fun _ _ e => e)
    · have hp : p ∈ (kA.zip its.toArray).toList := hp
      rw [ksk_zip] at hp
      obtain ⟨n, ns, t⟩ := ti p.1 (List.of_mem_zip hp).1
      exact ⟨_, t⟩
    · rintro ⟨⟨⟩, st'⟩ s2 ⟨rfl, hp1, hp2, hf⟩
      exact tail st' hp1 hp2.perm.symm hf
end
end FLs
set_option Elab.async false
set_option maxRecDepth 100000
set_option maxHeartbeats 4000000
namespace FLs
open PySem PySem.Spec PyProof.Rows L2 PySem.W RS
section
variable {X : Cx} {pins : List (Addr × Obj)} {σ : L2.St} {H : Hp} {s : Shared}
theorem sorted_key {q a : Addr} {xs : List V} {kf : Nat → List Int} {Q : VK} (I : Inv X pins σ H s) (hS : SqL X.K H a xs) (hz : xs.length ≤ 1000) (hkf : ∀ i, i < xs.length → kf i ≠ [])
    (turn : ∀ (i : Nat) (v : V) (u : Value) (s' : Shared) (H' : Hp), Same H H' → Inv X pins σ H' s' → xs[i]? = some v → RelV v u →
      wpAny (model X.prog X.w) X.A.in1.in1 (call (.ref q) [u]) (EP X pins σ fun r H'' => Same H' H'' ∧ ∃ p, r = .ref p ∧ H'' p = some (.tup ((kf i).map V.int))) (fun _ _ => False) s')
    (h : ∀ (H' : Hp) (D : Addr) (is : List Nat), Same H H' → H D = none → Outs kf xs.length is → H' D = some (.lst (is.map fun i => xs.getD i .non)) → Q (.ref D) H') :
    wpAny (model X.prog X.w) X.A (call (.builtin "sorted") [.ref a] [(Str.ofString "key", .ref q)]) (EP X pins σ Q) X.xe s := by
  obtain ⟨its, r, pl, _⟩ := I.list hS
  have lr := r.length
  have big : (1000 : Nat) < sizeLine := by decide
  refine call_function_entry_kw kind_sorted plain_sorted entry_sorted (ksk_s1 _ _) ?_
  unfold Builtin.«sorted»
  refine wpAny_bind (m := checkCount "sorted" 1 1 _) (wpAny_pure ?_)
  refine wpAny_bind (collect_list pl.isList ?_ (by omega))
  refine wpAny_bind (wpAny_newList ?_ (by omega))
  have hsz : ((s.heap.push (seqObj "list" #[] 0)).update s.heap.objs.size (Obj.mapSeq (· ++ its.toArray))).objs.size = s.heap.objs.size + 1 := by
    rw [Heap.size_update, size_push']
  have hoL : (((s.heap.push (seqObj "list" #[] 0)).update s.heap.objs.size (Obj.mapSeq (· ++ its.toArray))).push (seqObj "list" its.toArray 0)).get? (s.heap.objs.size + 1) = some (seqObj "list" its.toArray 0) := by
    rw [← hsz]; exact Heap.get?_push_size _ rfl
  have keep : ∀ b o, s.heap.get? b = some o → (((s.heap.push (seqObj "list" #[] 0)).update s.heap.objs.size (Obj.mapSeq (· ++ its.toArray))).push (seqObj "list" its.toArray 0)).get? b = some o := fun b o q => by
    have hlt : b < s.heap.objs.size := Heap.lt_size q
    rw [Heap.get?_push_ne _ _ _ (by rw [hsz]; exact Nat.ne_of_lt (Nat.lt_succ_of_lt hlt)), Heap.get?_update_ne _ _ _ _ (Nat.ne_of_lt hlt), Heap.get?_push_ne _ _ _ (Nat.ne_of_lt hlt)]
    exact q
  obtain ⟨g, eg⟩ : ∃ g : Heap, g = ((s.heap.push (seqObj "list" #[] 0)).update s.heap.objs.size (Obj.mapSeq (· ++ its.toArray))).push (seqObj "list" its.toArray 0) := ⟨_, rfl⟩
  obtain ⟨D, eD⟩ : ∃ D : Addr, D = s.heap.objs.size + 1 := ⟨_, rfl⟩
  have gsz : g.objs.size = s.heap.objs.size + 2 := by rw [eg, size_push', hsz]
  show wpAny _ _ _ _ _ { s with heap := ((s.heap.push (seqObj "list" #[] 0)).update s.heap.objs.size (Obj.mapSeq (· ++ its.toArray))).push (seqObj "list" its.toArray 0) }
  rw [hsz, ← eD]
  rw [← eg, ← eD] at hoL
  rw [← eg] at keep ⊢
  refine wpAny_bind (wpAny_holding (wpAny_call_entry_kw slot_list_sort ⟨_, hoL, rfl⟩ entry_list_sort ?body (ksk_l1 _ _)))
  case body =>
    show wpAny (model X.prog X.w) X.A.in1.in1 (Builtin.«list.sort» ⟨[.ref D], [(Str.ofString "key", .ref q)]⟩) _ _ _
    rw [ksk_t1]
    obtain ⟨e1, ho1⟩ : ∃ e1, (g.update D (Obj.mapSeq fun _ => (#[] : Array Value))).get? D = some (seqObj "list" #[] e1) := ⟨_, get?_update_seq hoL fun _ => #[]⟩
    unfold ksk_tree
    refine wpAny_bind (listItems_at hoL rfl ?_)
    refine wpAny_bind (listUpdate_at hoL rfl ?_ (by rw [List.size_toArray]; omega) (Nat.zero_le _))
    refine wpAny_bind (seqEpoch_at ho1 rfl ?_)
    refine wpAny_bind (wpAny_newTuple ?_ (by show its.length ≤ _; omega))
    refine wpAny_bind (wpAny_newList ?_ (Nat.zero_le _))
    refine wpAny_holding ?_
    obtain ⟨g5, e5⟩ : ∃ g5 : Heap, g5 = (g.update D (Obj.mapSeq fun _ => (#[] : Array Value))).push (seqObj "tuple" its.toArray 0) := ⟨_, rfl⟩
    show wpAny _ _ (ksk_rest D (.ref q) false its.toArray e1 (.ref ((g.update D (Obj.mapSeq fun _ => (#[] : Array Value))).push (seqObj "tuple" its.toArray 0)).objs.size)) _ _ { s with heap := ((g.update D (Obj.mapSeq fun _ => (#[] : Array Value))).push (seqObj "tuple" its.toArray 0)).push (seqObj "list" #[] 0) }
    rw [← e5]
    obtain ⟨kS, eS⟩ : ∃ kS : Addr, kS = g5.objs.size := ⟨_, rfl⟩
    rw [← eS]
    have sz5 : g5.objs.size = s.heap.objs.size + 3 := by rw [e5, size_push', Heap.size_update, gsz]
    have neKD : kS ≠ D := by rw [eS, eD, sz5]; exact Nat.ne_of_gt (Nat.lt_succ_of_lt (Nat.lt_succ_self _))
    have gD6 : (g5.push (seqObj "list" #[] 0)).get? D = some (seqObj "list" #[] e1) := by
      refine Heap.get?_push_of_some _ ?_
      rw [e5]
      exact Heap.get?_push_of_some _ ho1
    have gS6 : (g5.push (seqObj "list" #[] 0)).get? kS = some (seqObj "list" #[] 0) := by
      rw [eS]
      exact Heap.get?_push_size _ rfl
    have keep6 : ∀ b o, s.heap.get? b = some o → (g5.push (seqObj "list" #[] 0)).get? b = some o := fun b o e => by
      have hlt : b < s.heap.objs.size := Heap.lt_size e
      have nb : b ≠ D := by rw [eD]; exact Nat.ne_of_lt (Nat.lt_succ_of_lt hlt)
      refine Heap.get?_push_of_some _ ?_
      rw [e5]
      exact Heap.get?_push_of_some _ ((Heap.get?_update_ne _ _ _ _ nb).trans (keep b o e))
    have HD0 : H D = none := I.hok.fresh (by rw [eD]; exact Nat.le_succ _)
    have HS0 : H kS = none := I.hok.fresh (by rw [eS, sz5]; exact Nat.le_add_right _ _)
    have I6 : Inv X pins σ (upd (upd H D (.frz (seqObj "list" #[] e1) (.lst []))) kS (.lst [])) { s with heap := g5.push (seqObj "list" #[] 0), toks := s.toks } := by
      refine laid_many I keep6 (fun b hb => ?_) (fun b o hb e => ?_)
      · rw [upd_ne (by rw [eS, sz5]; exact Nat.ne_of_lt (Nat.lt_of_lt_of_le hb (Nat.le_add_right _ _))), upd_ne (by rw [eD]; exact Nat.ne_of_lt (Nat.lt_succ_of_lt hb))]
      · by_cases h1 : b = kS
        · subst h1
          rw [upd_same] at e
          cases e
          exact ⟨Nat.zero_le _, [], 0, .nil, gS6⟩
        · rw [upd_ne h1] at e
          by_cases h2 : b = D
          · subst h2
            rw [upd_same] at e
            cases e
            exact ⟨gD6, Nat.zero_le _, [], e1, .nil, gD6⟩
          · rw [upd_ne h2, I.hok.fresh hb] at e
            cases e
    have up : ∀ H', (∀ c o, c ≠ kS → upd (upd H D (.frz (seqObj "list" #[] e1) (.lst []))) kS (.lst []) c = some o → H' c = some o) → Same H H' := fun H' sm c o e => by
      refine sm c o (ne_of_none e HS0) ?_
      rw [upd_ne (ne_of_none e HS0), upd_ne (ne_of_none e HD0)]
      exact e
    refine keys_run (kf := kf) I6 r upd_same (by omega) (fun i v u s' H' sm I' hx ru => turn i v u s' H' (up H' sm) I' hx ru) (fun s' H' ps kA sm I' hk' lp hp rk gk => ?_)
    have hDf : H' D = some (.frz (seqObj "list" #[] e1) (.lst [])) := sm D _ (Ne.symm neKD) (by rw [upd_ne (Ne.symm neKD), upd_same])
    have gD7 : s'.heap.get? D = some (seqObj "list" #[] e1) := (I'.hok D _ hDf).1
    obtain ⟨n, gk⟩ := gk
    have lk : kA.size = its.length := by
      have := rk.length
      rw [List.length_map] at this
      rw [← Array.length_toList]
      omega
    refine end_run (kf := kf) (by omega) neKD lk (fun i v hv => ?_) gk gD7 (fun is ho => ?_)
    · have hv2 : kA.toList[i]? = some v := by rw [Array.getElem?_toList]; exact hv
      have hi : i < kA.toList.length := (List.getElem?_eq_some_iff.mp hv2).1
      have hi2 : i < ps.length := by
        have := rk.length
        rw [List.length_map] at this
        omega
      obtain ⟨u, hu, ru⟩ := rk.get (i := i) (x := .ref ps[i]) (by rw [List.getElem?_map, List.getElem?_eq_getElem hi2]; rfl)
      rw [hv2] at hu
      cases hu
      cases ru
      obtain ⟨_, its2, rv2, ob, g1, g2, m, g3⟩ := I'.hok _ _ (hp i ps[i] (List.getElem?_eq_getElem hi2))
      exact ⟨⟨ps[i], ob, its2.toArray, m, rfl, g1, g2, g3, Vals.ints rv2⟩, hkf i (by omega)⟩
    · have lps : (ps.map V.ref).length = its.length := by rw [List.length_map, lp]
      have I7 : Inv X pins σ (upd H' kS (.lst [])) { s' with heap := s'.heap.update kS (Obj.mapSeq fun _ => #[]) } :=
        I'.lset (l := kS) (ys := []) (its := kA.toList) (its' := []) (f := fun _ => #[]) (t' := s'.toks) hk' (by rw [Array.toArray_toList]; exact gk) rfl .nil (Nat.zero_le _)
      have hD7 : upd H' kS (.lst []) D = some (.frz (seqObj "list" #[] e1) (.lst [])) := (upd_ne (Ne.symm neKD)).trans hDf
      have I8 := I7.unlock hD7 (fun o' u' e => by
        have q := I.base.frzs D o' u' e
        rw [HD0] at q
        cases q)
      have gD8 : (s'.heap.update kS (Obj.mapSeq fun _ => (#[] : Array Value))).get? D = some (seqObj "list" #[] e1) := (Heap.get?_update_ne _ _ _ _ (Ne.symm neKD)).trans gD7
      have vy : Vals (is.map fun i => xs.getD i .non) (is.map fun i => its.getD i .none) := by
        have mem : ∀ i ∈ is, i < its.length := fun i hi => List.mem_range.mp (ho.1.mem_iff.mpr hi)
        clear ho
        induction is with
        | nil => exact .nil
        | cons i is ih =>
          refine .cons ?_ (ih fun j hj => mem j (List.mem_cons_of_mem _ hj))
          have hi := mem i List.mem_cons_self
          obtain ⟨u, hu, ru⟩ := r.get (i := i) (x := xs[i]) (List.getElem?_eq_getElem (by omega))
          show RelV (xs.getD i .non) (its.getD i .none)
          have hx : i < xs.length := by omega
          rw [List.getD_eq_getElem?_getD, List.getD_eq_getElem?_getD, hu, List.getElem?_eq_getElem hx]
          exact ru
      have lis : is.length = its.length := by rw [← ho.1.length_eq, List.length_range]
      have I9 := I8.lset (l := D) (ys := is.map fun i => xs.getD i .non) (its := []) (its' := is.map fun i => its.getD i .none) (f := fun _ => (is.map fun i => its.getD i .none).toArray) (t' := s'.toks) upd_same gD8 rfl vy (by rw [List.length_map]; omega)
      rw [upd_upd] at I9
      refine ⟨_, rfl, wpAny_pure ⟨_, rfl, ?_⟩⟩
      refine ⟨.ref D, _, I9, rfl, h _ D is (fun c o e => ?_) HD0 (by rw [lr]; exact ho) upd_same⟩
      rw [upd_ne (ne_of_none e HD0), upd_ne (ne_of_none e HS0)]
      exact up H' sm c o e
end
end FLs
set_option Elab.async false
set_option maxRecDepth 100000
set_option maxHeartbeats 4000000
namespace FLs
open PySem PySem.Spec PyProof.Rows L2 PySem.W RS GX
/-- one parameter, no other name of its own -/
structure One (sc scope : Scope) (x : Str) : Prop where
  kind : scope.kind = .function
  par : scope.names.lookup x = some .local
  own : ∀ y ∈ scope.names, y.2 = .local → y.1 = x
  nocell : ∀ y ∈ scope.names, y.2 ≠ .cell
  free : ∀ y ∈ scope.names, y.2 = .free → sc.names.lookup y.1 = some .cell ∨ sc.names.lookup y.1 = some .free
/-- the context of its body -/
abbrev oneCx (X : Cx) (B : Around) (s0 : Shared) (H0 : Hp) (ce : Env) : Cx :=
  { X with A := B, s_0 := s0, H_0 := H0, env := ce, outer := X.stack, stack := ce :: X.stack, ex := [], fn := fun _ => false, pn := [], xe := fun _ _ => False, calm := true }
abbrev oneEnv (X : Cx) (scope : Scope) (L f c' : Addr) : Env := LamX.lamEnv X scope L f c'
section
variable {X : Cx} {pins : List (Addr × Obj)} {σ : L2.St} {H : Hp} {s : Shared}
theorem one_start {B : Around} {scope : Scope} {x : Str} {ix : Nat} {f c' : Addr} {v : V} {u : Value} {h₁ : Heap} {tk : Nat} (I : Inv X pins σ H s) (L : One X.env.scope scope x) (hN : X.N.Nodup) (hix : X.N[ix]? = some x) (hB : B.handled = none)
    (hF : B.frames = some (oneEnv X scope s.heap.objs.size f c' :: X.stack)) (rv : RelV v u) (hns : h₁.Ns s.heap.objs.size fun y => [(x, u)].reverse.lookup y) (kp : ∀ b o, s.heap.get? b = some o → h₁.get? b = some o) :
    Inv (oneCx X B s H (oneEnv X scope s.heap.objs.size f c')) [] (σ.set ix (some v)) H { s with heap := h₁, toks := tk } := by
  have caught : ∀ y ∈ scope.names, y.2 = .free → ∃ c, X.env.cells.lookup y.1 = some c := fun y hy e =>
    (L.free y hy e).elim (fun z => I.ok.has _ (.inl z)) (fun z => I.ok.has _ (.inr z))
  have down : ∀ {y c}, (oneEnv X scope s.heap.objs.size f c').cells.lookup y = some c → X.env.cells.lookup y = some c := fun {y c} e => by
    have e' : (cloFrom X.env.cells scope.names []).lookup y = some c := e
    rcases cloFrom_mem (PySem.mem_of_lookup e') with q | ⟨q1, q2⟩
    · cases q
    · obtain ⟨c', hc'⟩ := caught _ q1 rfl
      have hc2 : X.env.cells.lookup y = some c' := hc'
      rw [hc2] at q2
      have q3 : c = c' := q2
      subst q3
      exact hc2
  have up : ∀ {y}, scope.names.lookup y = some .free → ∃ c, (oneEnv X scope s.heap.objs.size f c').cells.lookup y = some c ∧ X.env.cells.lookup y = some c := fun {y} hl => by
    obtain ⟨c, e⟩ := mem_lookup (cloFrom_has (cells := X.env.cells) (acc := []) (PySem.mem_of_lookup hl))
    exact ⟨c, e, down e⟩
  have okG : (oneCx X B s H (oneEnv X scope s.heap.objs.size f c')).Ok := by
    refine ⟨I.ok.mod, L.kind, rfl, rfl, Nat.le_refl _, fun y z c e1 e2 => I.ok.inj y z c (down e1) (down e2), fun y hy => ?_,
      (fun y c z _ => nomatch z), fun _ => hB, hF, .inr ⟨rfl, rfl⟩, (fun b hb => nomatch hb), I.bs, Nat.le_trans I.ok.bsz I.sz, (fun b o e hb => nomatch hb), (fun b hb => nomatch hb), I.stack, I.stkFree⟩
    rcases hy with z | z
    · exact absurd rfl (L.nocell _ (PySem.mem_of_lookup z))
    · obtain ⟨c, e, _⟩ := up z
      exact ⟨c, e⟩
  refine ⟨okG, rfl, I.bare, Un.kept kp, ⟨_, hns, fun i y av e1 e2 e3 => ?_⟩, fun y c e => ?_, I.hok.fresh (Nat.le_refl _), fun y c e => I.freeC y c (down e), (fun p hp => nomatch (show p ∈ ([] : List (Addr × Obj)) ++ [] from hp)), I.hok.kept kp, by rw [List.length_set]; exact I.len⟩
  · rcases e3 with z | z | z
    · have ey : y = x := L.own _ (PySem.mem_of_lookup z) rfl
      subst ey
      have ei : i = ix := nodup_ix hN e1 hix
      subst ei
      have hl : i < σ.length := by
        have := (List.getElem?_eq_some_iff.mp e2).1
        rwa [List.length_set] at this
      rw [List.getElem?_set_self hl] at e2
      cases e2
      refine ⟨u, rv, .inl ⟨z, ?_⟩⟩
      simp [List.lookup]
    · exact absurd rfl (L.nocell _ (PySem.mem_of_lookup z))
    · have hfree : scope.names.lookup y = some .free := z
      have nyx : y ≠ x := fun q => by
        rw [q, L.par] at hfree
        cases hfree
      have nix : ix ≠ i := fun q => by
        rw [← q] at e1
        have e1' : X.N[ix]? = some y := e1
        rw [hix] at e1'
        exact nyx (Option.some.inj e1').symm
      rw [List.getElem?_set_ne nix] at e2
      obtain ⟨m', _, hl⟩ := I.loc
      have q0 := L.free _ (PySem.mem_of_lookup hfree) rfl
      have hv : Vis X.env.scope y := q0.elim (fun z => .inr (.inl z)) (fun z => .inr (.inr z))
      obtain ⟨u', r, q⟩ := hl i y av e1 e2 hv
      obtain ⟨c, h1, h2⟩ := up hfree
      refine ⟨u', r, .inr ⟨.inr hfree, c, h1, ?_⟩⟩
      rcases q with ⟨k, _⟩ | ⟨_, c2, e', z⟩
      · have k' : X.env.scope.names.lookup y = some .local := k
        rcases q0 with z | z
        · have z' : X.env.scope.names.lookup y = some .cell := z
          rw [z'] at k'
          cases k'
        · have z' : X.env.scope.names.lookup y = some .free := z
          rw [z'] at k'
          cases k'
      · rw [h2] at e'
        cases e'
        obtain ⟨o, ho, hd⟩ := z
        exact ⟨o, kp _ _ ho, hd⟩
  · obtain ⟨w', o, ho, hd⟩ := I.cell y c (down e)
    exact ⟨w', o, kp _ _ ho, hd⟩
end
end FLs
set_option Elab.async false
set_option maxRecDepth 100000
set_option maxHeartbeats 4000000
namespace FLs
open PySem PySem.Spec PyProof.Rows L2 PySem.W RS GX
section
variable {X : Cx} {pins : List (Addr × Obj)} {σ : L2.St} {H : Hp} {s : Shared}
/-- the lambda at f is called with one value -/
theorem one_call {B : Around} {scope : Scope} {params : Arguments} {body : Expr} {x : Str} {ix k : Nat} {f c' : Addr} {pm ctv : Value} {v : V} {u : Value} {oc : Obj} {cvs : Array Value} {t : Tok} {tb : TE} {Q : VK} {nm : Str} (I : Inv X pins σ H s) (L : One X.env.scope scope x) (co : scope.isCoroutine = false) (gen : scope.isGenerator = false) (hN : X.N.Nodup) (hix : X.N[ix]? = some x)
    (hr : Room (k + 1) B) (hF : B.frames = some X.stack) (hf : s.heap.get? f = some (kla_obj "<lambda>" (X.env.qual ++ "<lambda>") params body scope (cloFrom X.env.cells scope.names []) pm c' ctv))
    (hc : s.heap.get? c' = some oc) (hcd : oc.data = .fields cvs) (hcv : cvs[1]? = some (.str (X.env.qual ++ "<lambda>") t))
    (hbind : ∀ u : Value, bindArgs (kla_fn "<lambda>" (X.env.qual ++ "<lambda>") params body scope (cloFrom X.env.cells scope.names []) pm (.ref c') ctv) ⟨[u], []⟩ = pure [(x, u)])
    (hbody : ∀ (B' : Around) (s' : Shared) (H' : Hp), Room k B' → PE (oneCx X B' s' H' (oneEnv X scope s'.heap.objs.size f c')) body tb) (rv : RelV v u) (q : tb (σ.set ix (some v)) H Q) :
    wpAny (model X.prog X.w) B (call (.ref f) [u]) (EP X pins σ Q) (fun _ _ => False) s := by
  refine wpAny_call ?_
  refine kla_callFunE hr.depth hf rfl co gen rfl ⟨c', oc, cvs, t, rfl, hc, hcd, hcv⟩ ?_
  rw [hbind]
  refine wpAny_pure (wpAny_newFunctionEnv (fun y hy => L.nocell y hy) (fun y hy => ?_) (fun h₁ hns hsb => ⟨I.nolimit.fresh _ hsb, ?_⟩) L.kind)
  · have e : y = (x, u) := by simpa using hy
    rw [e]
    exact L.par
  · show codeAny _ _ (.expr body (oneEnv X scope s.heap.objs.size f c')) _ _
    have kp : ∀ b o, s.heap.get? b = some o → h₁.get? b = some o := fun b o e => hsb.extBut b o (Nat.ne_of_lt (Heap.lt_size e)) (Heap.get?_push_of_some _ e)
    have J := one_start (B := B.deeper (oneEnv X scope s.heap.objs.size f c')) (tk := s.toks + ([(x, u)] : List (Str × Value)).length) I L hN hix hr.hd (Around.frames_deeper hF) rv hns kp
    refine kla_codeExpr (wpAny_mono ((hbody _ s H (hr.deeper _)).run [] _ _ H Q J q) (fun w' s' hq => ?_) fun e s' hq => False.elim hq)
    obtain ⟨r, H', J', rr, q'⟩ := hq
    exact ⟨r, H', I.call' (ch := []) J'.os J'.base J'.hok J'.bare (fun b hb => nomatch hb), rr, q'⟩
end
end FLs
set_option Elab.async false
set_option maxRecDepth 100000
set_option maxHeartbeats 4000000
namespace FLs
open PySem PySem.Spec PyProof.Rows L2 PySem.W RS GX
def sortR (K : PySem.W.Frag) (P : Addr) (qn : Str) (ix : Nat) (tb : TE) (σ : L2.St) (Q : VK) : V → Hp → Prop := fun v H1 => ∃ (a : Addr) (xs : List V) (kf : Nat → List Int), v = .ref a ∧ xs.length ≤ 1000 ∧ (∀ i, i < xs.length → kf i ≠ []) ∧ LamX.TabS H1 P qn ∧
  ∀ H2, LamX.ExtN H1 H2 → LamX.TabS H2 P qn → SqL K H2 a xs ∧ (∀ (i : Nat) (w : V) (H3 : Hp), Same H2 H3 → xs[i]? = some w → tb (σ.set ix (some w)) H3 fun r H4 => Same H3 H4 ∧ ∃ p, r = .ref p ∧ H4 p = some (.tup ((kf i).map V.int))) ∧
    ∀ (H' : Hp) (D : Addr) (is : List Nat), Same H2 H' → H2 D = none → Outs kf xs.length is → H' D = some (.lst (is.map fun i => xs.getD i .non)) → Q (.ref D) H'
def tSortLam (K : PySem.W.Frag) (P : Addr) (qn : Str) (ix : Nat) (te tb : TE) : TE := fun σ H Q => te σ H (sortR K P qn ix tb σ Q)
section
variable {X : Cx}
theorem pe_sortLam {c P : Addr} {params : Arguments} {body e : Expr} {scope : Scope} {x : Str} {ix k : Nat} {te tb : TE} {p pos kpos lpos : Pos} (hc : X.calm = true) (hg : Gl X "sorted") (hm : X.mg "sorted" = none) (TB : LamX.TabB X.base X.mg c P) (hcode : X.env.code = .ref c) (hdef : defaultsOf params X.env = ([], []))
    (L : One X.env.scope scope x) (co : scope.isCoroutine = false) (gen : scope.isGenerator = false) (hN : X.N.Nodup) (hix : X.N[ix]? = some x) (hr : Room (k + 3) X.A)
    (hbind : ∀ (pm ctv u : Value) (c' : Addr) (cl : List (Str × Addr)), bindArgs (kla_fn "<lambda>" (X.env.qual ++ "<lambda>") params body scope cl pm (.ref c') ctv) ⟨[u], []⟩ = pure [(x, u)])
    (he : PE X e te) (hbody : ∀ (B' : Around) (s' : Shared) (H' : Hp) (f c' : Addr), Room k B' → PE (oneCx X B' s' H' (oneEnv X scope s'.heap.objs.size f c')) body tb)
    (h0 : starEach [e] X.env = (false, eval e X.env) :: starEach [] X.env := by rfl)
    (h1 : backTo pos (starEach [e] X.env) = (false, eval e X.env) :: backTo pos (starEach [] X.env) := by rfl) (h2 : (backTo pos (starEach [e] X.env)).any (·.1) = false := by rfl) :
    PE X (.Call (.Name "sorted" p) [e] [⟨some "key", .Lambda params body scope lpos, kpos⟩] pos) (tSortLam X.K P (X.env.qual ++ "<lambda>") ix te tb) := by
  refine ⟨fun pins s σ H Q I h => ?_⟩
  have hb : bootBuiltins "sorted" = some (.builtin "sorted") := by decide +kernel
  refine wpAny_Call_Name_kw (ld_blt I hg hm hb ?_ (by decide) (by decide))
  refine callWith_kw ?_ h1 h2 rfl rfl
  refine thn ((pa_cons he pa_nil h0).run pos pins s σ H (fun vs H1 => match vs with | [v] => sortR X.K P (X.env.qual ++ "<lambda>") ix tb σ Q v H1 | _ => False) I ?_) fun us s1 ⟨vs, H1, I1, r1, q1⟩ => ?_
  · exact h
  · obtain ⟨v, rfl⟩ : ∃ v, vs = [v] := by
      match vs, q1 with
      | [v], _ => exact ⟨v, rfl⟩
    obtain ⟨u, rfl, ru⟩ := r1.one
    obtain ⟨a, xs, kf, ev, hz, hkf, hT, q2⟩ := q1
    have ev : v = .ref a := ev
    subst ev
    cases ru
    show wpAny _ _ (evalAll [(do let v ← eval (.Lambda params body scope lpos) X.env; standAt pos; pure v)]) _ _ s1
    refine wpAny_evalAll_cons (wpAny_bind ?_)
    have hfree : ∀ y ∈ scope.names, y.2 = .free → ∃ c, X.env.cells.lookup y.1 = some c := fun y hy e =>
      (L.free y hy e).elim (fun z => I.ok.has _ (.inl z)) (fun z => I.ok.has _ (.inr z))
    refine LamX.lam_make2 (T := [(P, X.env.qual ++ "<lambda>")]) I1 TB hcode (by simp) (fun p hp _ => by rw [List.mem_singleton.mp hp]) (fun p hp => by rw [List.mem_singleton.mp hp]; exact hT) hdef hfree fun f c' pm ctv H2 s2 I2 hx hT2 hf hf0 hfs hcO => ?_
    refine wpAny_bind (wpAny_standAt (wpAny_pure (wpAny_evalAll_nil ?_)))
    show wpAny _ _ (call (.builtin "sorted") [.ref a] [(Str.ofString "key", .ref f)]) _ _ s2
    obtain ⟨hS, hturn, hend⟩ := q2 H2 hx (hT2 (P, X.env.qual ++ "<lambda>") (List.mem_singleton.mpr rfl))
    have nL : f ≠ X.env.locals := fun z => by
      obtain ⟨m, ⟨o, es, ep, ho, hd, _⟩, _⟩ := I2.loc
      rw [← z, hf] at ho
      cases ho
      cases hd
    have nfs : f ∉ X.fs := fun z => hfs (by
      rcases I2.ok.stk with e | ⟨e, _⟩
      · rw [e]; exact z
      · rw [e]
        unfold frs
        rw [List.filterMap_cons]
        split
        · exact z
        · exact List.mem_cons_of_mem _ z)
    have I3 : Inv X ((f, kla_obj "<lambda>" (X.env.qual ++ "<lambda>") params body scope (cloFrom X.env.cells scope.names []) pm c' ctv) :: pins) σ H2 s2 := I2.pins_of fun p hp => by
      rcases List.mem_cons.mp hp with e | hp
      · rw [e]
        exact ⟨hf, hf0, nL, nfs, fun v z => by cases z⟩
      · exact I2.pin p (List.mem_append_right _ hp)
    refine wpAny_mono (sorted_key (kf := kf) (q := f) I3 hS hz hkf (fun i w u s' H' sm I' hxi rw' => ?_) hend) (fun r s' hq => ?_) fun _ _ e => e
    · obtain ⟨⟨oc, cvs, t, g1, g2, g3⟩, _, _⟩ := I'.hok c' _ (sm _ _ hcO)
      have hf' := (I'.pin (f, kla_obj "<lambda>" (X.env.qual ++ "<lambda>") params body scope (cloFrom X.env.cells scope.names []) pm c' ctv) (List.mem_append_right _ List.mem_cons_self)).1
      exact one_call (nm := "<lambda>") (k := k) I' L co gen hN hix hr.in1.in1 I'.ok.frames hf' g1 g2 g3 (fun u => hbind pm ctv u c' _) (fun B' s'' H'' hB => hbody B' s'' H'' f c' hB) rw' (hturn i w H' sm hxi)
    · obtain ⟨w, H', J, rr, qq⟩ := hq
      exact ⟨w, H', J.pins_of fun p hp => J.pin p (List.mem_append_right _ (List.mem_cons_of_mem _ hp)), rr, qq⟩
end
end FLs
set_option Elab.async false
set_option maxRecDepth 100000
set_option maxHeartbeats 4000000
namespace RS
open PySem PySem.Spec PyProof.Rows L2 GX FLs
section
variable {P : Program} {w : World} {K : PySem.W.Frag} {mg : Str → Option Value} {base : Heap}
theorem scFilled : FnScope ["kinds", "order", "size", "rows", "coming", "parts", "begin", "part", "told"] ["kinds", "order", "size", "rows"] (defScope sFilled) := ⟨rfl, rfl, rfl, by decide +kernel, rfl, by decide +kernel, by decide +kernel⟩
theorem sl_listC {X : Cx} {K : PySem.W.Frag} (e : X.K = K) : SlR X (rSlL K) := by
  subst e
  exact sl_list
theorem Runs.noT2 {K : PySem.W.Frag} {ks : List Bool} {H H' : Hp} {as : List Addr} {rs : List (List Pr)} (R : Runs K ks H H' as rs) : Runs K ks H (noT H') as rs := ⟨R.len, R.nd, R.fresh, fun i a r h1 h2 => by
  obtain ⟨x, h, d⟩ := R.at_ i a r h1 h2
  exact ⟨x, noT_at h (fun _ z => by cases z), dpAll_noT _ d⟩, R.ok⟩
/-- a list is changed: the tables stay -/
theorem tabS_upd {H : Hp} {P a : Addr} {q : Str} {xs u : List V} (t : LamX.TabS H P q) (h : H a = some (.lst xs)) : LamX.TabS (upd H a (.lst u)) P q := by
  obtain ⟨ps, h1, h2, h3⟩ := t
  refine ⟨ps, (upd_ne (fun z => by rw [z, h] at h1; cases h1)).trans h1, h2, fun pos cv hc => ?_⟩
  obtain ⟨c, e1, e2⟩ := h3 pos cv hc
  refine ⟨c, e1, (upd_ne (fun z => ?_)).trans e2⟩
  rw [z, h] at e2
  unfold LamX.CodeO at e2
  cases e2
theorem freeL {y : Str × NameKind} {a b c : Str} (hy : y ∈ [(a, NameKind.local), (b, NameKind.free), (c, NameKind.globalImplicit)]) (e : y.2 = .free) : y.1 = b := by
  simp only [List.mem_cons, List.not_mem_nil, or_false] at hy
  rcases hy with rfl | rfl | rfl
  · cases e
  · rfl
  · cases e
theorem filled_ok {c pK pW pR pF : Addr} (D : DefAt K mg "filled" sFilled c) (T : Txt K mg) (TB : LamX.TabB base mg c pF) (cN : Cal P w K mg base CX0 7 "numbered" ["kinds", "order", "size", "rows"] (spNumbered K pK pW pR)) (cR : Cal P w K mg base CX0 2 "rank" ["order", "told"] (spRank K)) :
    Cal P w K mg base CX0 10 "filled" ["kinds", "order", "size", "rows"] (spFilled K pK pW pR pF) := by
  have sc := scFilled
  refine def_ok0 D sc (fun vs H Q E h => ?_) (fun _ _ _ _ _ _ us hl => match us, hl with | [_, _, _, _], _ => rfl) (fun f A outer s H vs Q E hr h => ?_)
  · obtain ⟨vk, vo, vr, ks, os, n, rs, rfl, _⟩ := h
    rfl
  · obtain ⟨vk, vo, vr, ks, os, n, rs, rfl, h, ht, hT, k⟩ := h
    refine ⟨_, (pss_cons (ps_set (i := 4) sc.nd rfl (Or.inr rfl) (pe_c cN hr (by decide) (by rfl) pass0 (pa_cons (pv 0) (pa_cons (pv 1) (pa_cons (pv 2) (pa_cons (pv 3) pa_nil)))))) (pss_cons (ps_setLc (own := [("begin", 6)]) (tt := tYes) rfl sc.nd (i := 5) rfl rfl (by rfl) (pi_range3 (by rfl) T.range (pa_cons pe_int (pa_cons (pe_callB call_len_seq (by rfl) T.len PySem.boot_len (pa_cons (pv 4) pa_nil)) (pa_cons (pv 2) pa_nil)))) (blkOk_by (N := ["kinds", "order", "size", "rows", "coming", "parts", "begin", "part", "told"]) (sc := defScope sFilled) (own := [("begin", 6)]) (by decide +kernel)) (fun _ _ _ _ _ => (pg_name (i := 6) sc.nd rfl (Or.inl rfl))) (fun _ _ _ _ _ => pts_nil) (fun _ _ _ _ _ => pe_slice (sl_listC (K := K) rfl) (pv 4) (po_some (pv 6)) (po_some (pe_op op_add (pv 6) (pv 2))))) (pss_one (ps_ret (pe_lc (own := [("part", 7)]) (g := gName 7) (tt := tYes) (te := tSortLam K pF qF 8 (tVar 7) (tCall (spRank K) [] E0 (tCons (tVar 1) (tCons (tVar 8) tNil)))) rfl sc.nd (pi_list (pv 5)) (blkOk_by (N := ["kinds", "order", "size", "rows", "coming", "parts", "begin", "part", "told"]) (sc := defScope sFilled) (own := [("part", 7)]) (by decide +kernel)) (fun _ _ _ _ _ => (pg_name (i := 7) sc.nd rfl (Or.inl rfl))) (fun _ _ _ _ _ => pts_nil) (fun _ _ _ _ _ =>
        pe_sortLam (P := pF) (x := "told") (ix := 8) (k := 6) rfl (by rfl) T.sorted TB rfl rfl ⟨rfl, rfl, by decide +kernel, by decide +kernel, fun y hy e => (by rw [freeL hy e]; first | exact Or.inl rfl | exact Or.inr rfl)⟩ rfl rfl sc.nd rfl hr (fun _ _ _ _ _ => rfl) (pv 7) (fun B' s' H' f c' hB => pe_c cR hB (by decide) (by rfl) pass0 (pa_cons (pv 1) (pa_cons (pv 8) pa_nil))))))))), ?_⟩
    refine ⟨_, rfl, _, rfl, _, rfl, _, rfl, vk, vo, vr, ks, os, n, rs, rfl, h, ht, fun H1 C1 xs s1 hC1 hL1 hI1 => ?_⟩
    have okAll := h.rowsOk
    have rz := h.rz
    have n1 : 1 ≤ n := by have := h.n1; omega
    have n24 : n ≤ 24 := by have := h.n24; omega
    have le : (enumP 0 rs).length = rs.length := enumP_length _ _
    have lx : xs.length = rs.length := by rw [dpLen hI1, List.length_map, le]
    have cb := cnt_le rs.length (by omega) n (by omega) n1
    refine ⟨_, rfl, C1, xs, rfl, .inl (SqL.of hL1), _, rfl, ?_⟩
    rw [lx]
    refine ⟨0, _, (n : Nat), cnt rs.length n, rfl, rgc rz n1 n24, fun PT hPT => ?_⟩
    refine lc_by (cnt rs.length n) (fun j H' => Same H1 H' ∧ ∃ ps : List Addr, H' PT = some (.lst (ps.map V.ref)) ∧ ps.length = j ∧ PT ∉ ps ∧ ∀ (i : Nat) (a : Addr), ps[i]? = some a → H' a = some (.lst ((xs.drop (i * n)).take n)))
      ⟨fun b o e => (upd_ne (ne_of_none e hPT)).trans e, [], upd_same, rfl, (fun h => nomatch h), fun i a h => by simp at h⟩ ?_ ?_
    · rintro j H' hj ⟨sm, ps, hP, lp, nP, hat⟩
      refine ⟨hj, fun y H2 ⟨e2, ey⟩ => ?_⟩
      subst e2 ey
      refine ⟨rfl, _, rfl, ?_⟩
      refine ⟨_, rfl, _, rfl, _, rfl, _, rfl, _, _, rfl, rfl, _, rfl, C1, xs, rfl, sm.seq (SqL.of hL1), fun p hp => ?_⟩
      have hcut : cutV xs (some (0 + (j : Nat) * (n : Nat))) (some (0 + (j : Nat) * (n : Nat) + (n : Nat))) = (xs.drop (j * n)).take n := by
        have e1 : (0 + (j : Nat) * (n : Nat) : Int) = ((j * n : Nat) : Int) := by rw [Int.zero_add, Int.natCast_mul]
        have e2 : ((j * n : Nat) : Int) + (n : Nat) = ((j * n + n : Nat) : Int) := by rw [Int.natCast_add]
        rw [e1, e2]
        exact cutV_mid
      rw [hcut]
      have nPp : PT ≠ p := fun z => by rw [← z, hP] at hp; cases hp
      have s2 : Same H2 (upd H2 p (.lst ((xs.drop (j * n)).take n))) := fun b o e => (upd_ne (ne_of_none e hp)).trans e
      refine ⟨_, s2 _ _ hP, small1000 (by rw [List.length_map]; omega), fun b o e => ?_, ps ++ [p], ?_, by rw [List.length_append, lp]; rfl, ?_, fun i a hi => ?_⟩
      · rw [upd_ne (ne_of_none e hPT)]
        exact s2 _ _ (sm _ _ e)
      · rw [upd_same, List.map_append]
        rfl
      · intro z
        rcases List.mem_append.mp z with z | z
        · exact nP z
        · exact nPp (List.mem_singleton.mp z)
      · by_cases hi2 : i < ps.length
        · rw [List.getElem?_append_left hi2] at hi
          have ha := hat i a hi
          rw [upd_ne (fun z => nP (by rw [← z]; exact List.mem_of_getElem? hi))]
          exact s2 _ _ ha
        · have h1 := (List.getElem?_eq_some_iff.mp hi).1
          rw [List.length_append, List.length_singleton] at h1
          have e1 : i = ps.length := by omega
          rw [e1, List.getElem?_append_right (Nat.le_refl _), Nat.sub_self] at hi
          cases hi
          rw [upd_ne (Ne.symm nPp), upd_same, e1, lp]
    · rintro H2 ⟨sm, ps, hP, lp, nP, hat⟩
      refine ⟨Nat.le_refl _, ?_⟩
      have sH2 : Same H H2 := s1.trans sm
      refine ⟨_, rfl, PT, rfl, ⟨_, SqL.of hP⟩, fun DD hDD => ?_⟩
      have hDD0 : H DD = none := sH2.free hDD
      have hN : noT H2 DD = none := noT_none hDD
      have part : ∀ j, DpAll K (noT H2) ((xs.drop (j * n)).take n) ((((enumP 0 rs).drop (j * n)).take n).map pairD) := fun j => dpAll_take' (dpAll_drop' (dpAll_noT _ (dpAll_same sm _ hI1)) (j * n)) n
      refine lc_list (K := K) (a := PT) (xs := ps.map V.ref) (fun j H' => ∃ (as : List Addr) (runs : List (List Pr)), Same (noT H2) H' ∧ LamX.TabS H' pF qF ∧ H' DD = some (.lst (as.map V.ref)) ∧ DD ∉ as ∧ Runs K ks (noT H2) H' as runs ∧ runs.length = j ∧
        ∀ (i : Nat) (r : List Pr), runs[i]? = some r → r.Perm (((enumP 0 rs).drop (i * n)).take n) ∧ SrtO.Srtd (before os) r)
        ⟨[], [], fun b o e => (upd_ne (ne_of_none e hN)).trans (noT_same _ _ _ e), ?_, upd_same, (fun h => nomatch h), Runs.nil, rfl, (fun i r h => by simp at h)⟩ (fun j H' _ ⟨_, _, s, _⟩ => s.seq (sqL_noT (SqL.of hP))) ?_ ?_
      · exact (hT.ext sH2).ext fun b o e => (upd_ne (ne_of_none e hDD)).trans e
      · rintro j x H3 hx ⟨as, runs, s3, t3, hD3, nD, R, lr, hch⟩
        obtain ⟨aj, eaj, rfl⟩ : ∃ aj, ps[j]? = some aj ∧ x = V.ref aj := by
          rw [List.getElem?_map] at hx
          cases q : ps[j]? with
          | none => rw [q] at hx; cases hx
          | some b => rw [q] at hx; exact ⟨b, rfl, (Option.some.inj hx).symm⟩
        have hj : j < cnt rs.length n := by
          have := (List.getElem?_eq_some_iff.mp eaj).1
          omega
        have haj : noT H2 aj = some (.lst ((xs.drop (j * n)).take n)) := noT_at (hat j aj eaj) (fun _ z => by cases z)
        obtain ⟨xj, exj⟩ : ∃ xj, xj = (xs.drop (j * n)).take n := ⟨_, rfl⟩
        obtain ⟨qj, eqj⟩ : ∃ qj, qj = ((enumP 0 rs).drop (j * n)).take n := ⟨_, rfl⟩
        have pj := part j
        rw [← exj] at haj pj
        rw [← eqj] at pj
        have ljx : xj.length = qj.length := by rw [dpLen pj, List.length_map]
        have ljz : qj.length ≤ 120 := by rw [eqj, List.length_take, List.length_drop]; omega
        have okj : ∀ q ∈ qj, Fits os q.2 ∧ isRow ks (.tuple q.2) = true := fun q hq => okAll q (by rw [eqj] at hq; exact List.mem_of_mem_drop (List.mem_of_mem_take hq))
        refine ⟨rfl, _, rfl, aj, xj, fun i => rankOf os (qj.getD i (0, [])), rfl, by omega, fun i _ => by simp [rankOf], t3, fun H4 e4 t4 => ?_⟩
        have s4 : Same (noT H2) H4 := fun b o e => e4 b o (s3 b o e) (noT_of e).2
        refine ⟨s4.seq (SqL.of haj), fun i w H5 s5 hw => ?_, fun H5 D is s5 hD hout hD5 => ?_⟩
        · obtain ⟨d, ed, hwd⟩ := dpGet pj hw
          obtain ⟨q, eq, rfl⟩ : ∃ q, qj[i]? = some q ∧ d = pairD q := by
            rw [List.getElem?_map] at ed
            cases e : qj[i]? with
            | none => rw [e] at ed; cases ed
            | some q => rw [e] at ed; exact ⟨q, rfl, (Option.some.inj ed).symm⟩
          have s25 := s4.trans s5
          refine ⟨_, rfl, _, rfl, vo, w, os, q, rfl, dp_same s25 _ (dp_noT _ (dp_same sH2 _ h.o)), dp_same s25 _ hwd, h.oz, (okj q (List.mem_of_getElem? eq)).1, fun H6 p s6 hp6 hL6 => ⟨s6, p, rfl, ?_⟩⟩
          rw [hL6]
          show _ = some (HO.tup ((rankOf os (qj.getD i (0, []))).map V.int))
          rw [List.getD_eq_getElem?_getD, eq]
          rfl
        · have s25 := s4.trans s5
          have hD4 := e4 _ _ hD3 (fun _ z => by cases z)
          have hD5' := s5 _ _ hD4
          have nDD : D ≠ DD := fun z => by rw [z, hD4] at hD; cases hD
          have mem : ∀ i ∈ is, i < qj.length := fun i hi => by
            have := List.mem_range.mp (hout.1.mem_iff.mpr hi)
            omega
          have pr : (is.map fun i => qj.getD i (0, [])).Perm qj := by
            have h1 := (hout.1.map fun i => qj.getD i ((0, []) : Pr)).symm
            refine h1.trans ?_
            rw [ljx]
            refine List.Perm.of_eq (List.ext_getElem? fun i => ?_)
            rw [List.getElem?_map]
            by_cases hi : i < qj.length
            · rw [List.getElem?_range hi, Option.map_some, List.getD_eq_getElem?_getD, List.getElem?_eq_getElem hi]
              rfl
            · rw [List.getElem?_eq_none (l := List.range qj.length) (by rw [List.length_range]; omega), List.getElem?_eq_none (l := qj) (by omega)]
              rfl
          have sr : SrtO.Srtd (before os) (is.map fun i => qj.getD i (0, [])) := List.pairwise_map.mpr hout.2
          have okr : ∀ q ∈ is.map fun i => qj.getD i (0, []), isRow ks (.tuple q.2) = true := fun q hq => (okj q (pr.mem_iff.mp hq)).2
          have dr : DpAll K H5 (is.map fun i => xj.getD i .non) ((is.map fun i => qj.getD i (0, [])).map pairD) := by
            have pj5 := dpAll_same s25 _ pj
            clear hout pr sr okr hD5
            induction is with
            | nil => exact .nil
            | cons i is ih =>
              have hi := mem i List.mem_cons_self
              refine .cons ?_ (ih fun a ha => mem a (List.mem_cons_of_mem _ ha))
              obtain ⟨v, ev, hv⟩ := dpGet' (i := i) (d := pairD qj[i]) pj5 (by rw [List.getElem?_map, List.getElem?_eq_getElem hi]; rfl)
              show Dp K H5 (xj.getD i .non) (pairD (qj.getD i (0, [])))
              rw [List.getD_eq_getElem?_getD, List.getD_eq_getElem?_getD, ev, List.getElem?_eq_getElem hi]
              exact hv
          have R5 : Runs K ks (noT H2) H5 as runs := (R.noT2.same (noT_ext e4)).same s5
          have nDas : D ∉ as := fun z => by
            obtain ⟨y, hy⟩ := (R.noT2.same (noT_ext e4)).tracked z
            rw [hy] at hD
            cases hD
          have okR : ∀ r ∈ runs, ∀ q ∈ r, isRow ks (.tuple q.2) = true := R.ok
          have hDn : noT H2 D = none := s4.free hD
          have R6 := (R5.upd_ (u := as.map V.ref ++ [.ref D]) hD5' nD).snoc (a := D) (r := is.map fun i => qj.getD i (0, [])) ((upd_ne nDD).trans hD5) (dpAll_upd hD5' _ (pairs_noL okr) dr) hDn nDas okr
          have las := R.len
          refine ⟨_, hD5', small1000 (by rw [List.length_map]; omega), as ++ [D], runs ++ [is.map fun i => qj.getD i (0, [])], fun b o e => ?_, ?_, by rw [upd_same, List.map_append]; rfl, fun z => ?_, R6, by rw [List.length_append, lr]; rfl, fun i r hr => ?_⟩
          · rw [upd_ne (ne_of_none e hN)]
            exact s25 _ _ e
          · exact tabS_upd (t4.ext s5) hD5'
          · rcases List.mem_append.mp z with z | z
            · exact nD z
            · exact nDD (List.mem_singleton.mp z).symm
          · by_cases hi2 : i < runs.length
            · rw [List.getElem?_append_left hi2] at hr
              exact hch i r hr
            · have h1 := (List.getElem?_eq_some_iff.mp hr).1
              rw [List.length_append, List.length_singleton] at h1
              have e1 : i = j := by omega
              subst e1
              rw [← lr, List.getElem?_append_right (Nat.le_refl _), Nat.sub_self] at hr
              cases hr
              exact ⟨eqj ▸ pr, sr⟩
      · rintro H3 ⟨as, runs, s3, t3, hD3, nD, R, lr, hch⟩
        rw [List.length_map, lp] at lr
        refine k H3 DD as runs ((noT_mono sH2).trans s3) t3 hDD0 nD hD3 ⟨R.len, R.nd, fun a ha => (noT_mono sH2).free (R.fresh a ha), R.at_, R.ok⟩ ⟨by rw [le]; exact lr, hch⟩
end
end RS
set_option Elab.async false
set_option maxRecDepth 100000
set_option maxHeartbeats 4000000
namespace RS
open PySem PySem.Spec PyProof.Rows L2 GX
section
variable {P : Program} {w : World} {K : PySem.W.Frag} {mg : Str → Option Value} {base : Heap}
/-- lists of pairs as they lie -/
def RunsAt (K : PySem.W.Frag) (H : Hp) (as : List Addr) (runs : List (List Pr)) : Prop := as.length = runs.length ∧ ∀ (i : Nat) (a : Addr) (r : List Pr), as[i]? = some a → runs[i]? = some r → ∃ x, H a = some (.lst x) ∧ DpAll K H x (r.map pairD)
theorem RunsAt.same {H H' : Hp} {as : List Addr} {runs : List (List Pr)} (R : RunsAt K H as runs) (s : Same H H') : RunsAt K H' as runs := ⟨R.1, fun i a r h1 h2 => by
  obtain ⟨x, h, d⟩ := R.2 i a r h1 h2
  exact ⟨x, s _ _ h, dpAll_same s _ d⟩⟩
theorem before_adj {os : List (Nat × Bool)} {rs : List (List PyData)} {r : List Pr} (s : SrtO.Srtd (before os) r) (nd : r.Nodup) (m : ∀ q ∈ r, q ∈ enumP 0 rs) {i j : Nat} {p q : Pr} (hij : i < j) (hp : r[i]? = some p) (hq : r[j]? = some q) : before os p q = true := by
  have h1 := srtd_get s hij hp hq
  cases e : before os p q with
  | true => rfl
  | false =>
    have := before_tot p q (m p (List.mem_of_getElem? hp)) (m q (List.mem_of_getElem? hq)) e h1
    subst this
    obtain ⟨hi, ei⟩ := List.getElem?_eq_some_iff.mp hp
    obtain ⟨hj, ej⟩ := List.getElem?_eq_some_iff.mp hq
    exact absurd (ei.trans ej.symm) (List.pairwise_iff_getElem.mp nd i j hi hj hij)
theorem enumP_nodup {α : Type} : ∀ (l : List α) (k : Nat), (enumP k l).Nodup ∧ ∀ q ∈ enumP k l, k ≤ q.1
  | [], k => ⟨.nil, (fun _ h => nomatch h)⟩
  | x :: l, k => by
    obtain ⟨h1, h2⟩ := enumP_nodup l (k + 1)
    refine ⟨List.nodup_cons.mpr ⟨fun h => ?_, h1⟩, fun q hq => ?_⟩
    · have := h2 _ h
      simp only at this
      omega
    · rcases List.mem_cons.mp hq with e | hq
      · rw [e]; exact Nat.le_refl _
      · have := h2 q hq
        omega
/-- pairs by their numbers: just one list -/
theorem enumP_sorted {α : Type} {l : List α} {ps : List (Nat × α)} (p : ps.Perm (enumP 0 l)) (s : ps.Pairwise fun a b => a.1 ≤ b.1) : ps = enumP 0 l := by
  refine p.eq_of_pairwise (le := fun a b => a.1 ≤ b.1) (fun a b ha hb h1 h2 => enumP_num (p.mem_iff.mp ha) (hb) (by omega)) s ?_
  refine List.pairwise_iff_getElem.mpr fun i j hi hj hij => ?_
  have g : ∀ k (h' : k < (enumP 0 l).length), ((enumP 0 l)[k]).1 = k := fun k h' => by
    have e := enumP_get l 0 k
    rw [List.getElem?_eq_getElem h'] at e
    cases q : l[k]? with
    | none => rw [q] at e; cases e
    | some x =>
      rw [q] at e
      have e := Option.some.inj e
      rw [e]
      simp
  rw [g, g]
  omega
theorem dpAll_pick {K : PySem.W.Frag} {H : Hp} {xs : List V} {l : List Pr} (h : DpAll K H xs (l.map pairD)) : ∀ {is : List Nat}, (∀ i ∈ is, i < l.length) → DpAll K H (is.map fun i => xs.getD i .non) ((is.map fun i => l.getD i (0, [])).map pairD)
  | [], _ => .nil
  | i :: is, m => by
    have hi := m i List.mem_cons_self
    refine .cons ?_ (dpAll_pick h fun a ha => m a (List.mem_cons_of_mem _ ha))
    obtain ⟨v, ev, hv⟩ := dpGet' (i := i) (d := pairD l[i]) h (by rw [List.getElem?_map, List.getElem?_eq_getElem hi]; rfl)
    show Dp K H (xs.getD i .non) (pairD (l.getD i (0, [])))
    rw [List.getD_eq_getElem?_getD, List.getD_eq_getElem?_getD, ev, List.getElem?_eq_getElem hi]
    exact hv
theorem scRight : FnScope ["_law_order_here", "_law_rows_here", "_law_runs", "_law_every", "_law_run", "_law_k"] ["_law_order_here", "_law_rows_here", "_law_runs"] (defScope sRight) := ⟨rfl, rfl, rfl, by decide +kernel, rfl, by decide +kernel, by decide +kernel⟩
def spRight (K : PySem.W.Frag) : Sp := fun vs H Q _ => ∃ (vo vr : V) (p : Addr) (ks : List Bool) (os : List (Nat × Bool)) (rs : List (List PyData)) (as : List Addr) (runs : List (List Pr)), vs = [vo, vr, .ref p] ∧ Dp K H vo (orderD os) ∧ Dp K H vr (rowsD rs) ∧ OkOrder ks.length os ∧ ks.length ≤ 4 ∧ (∀ r ∈ rs, isRow ks (.tuple r) = true) ∧ rs.length ≤ 120 ∧
  H p = some (.lst (as.map V.ref)) ∧ RunsAt K H as runs ∧ runs.length ≤ 120 ∧ (∀ r ∈ runs, r ≠ [] ∧ SrtO.Srtd (before os) r) ∧ runs.flatten.Perm (enumP 0 rs) ∧ ∀ H', Same H H' → Q (.bl true) H'
theorem right_ok {c : Addr} (D : DefAt K mg "_law_right" sRight c) (T : Txt K mg) (cA : Cal P w K mg base CX0 1 "_law_ahead" ["_law_order_here", "_law_one", "_law_other"] (spAhead K)) (cP : Cal P w K mg base CX0 1 "_law_pairs" ["_law_rows_here"] (spPairs K)) :
    Cal P w K mg base CX0 2 "_law_right" ["_law_order_here", "_law_rows_here", "_law_runs"] (spRight K) := by
  have sc := scRight
  refine def_ok0 D sc (fun vs H Q E h => ?_) (fun _ _ _ _ _ _ us hl => match us, hl with | [_, _, _], _ => rfl) (fun f A outer s H vs Q E hr h => ?_)
  · obtain ⟨vo, vr, p, ks, os, rs, as, runs, rfl, _⟩ := h
    rfl
  · obtain ⟨vo, vr, p, ks, os, rs, as, runs, rfl, ho, hrs, ok, k4, okr, hz, hp, R, hz2, good, pm, k⟩ := h
    have hu := hr.units
    refine ⟨_, (pss_cons (ps_set (i := 3) sc.nd rfl (Or.inl rfl) (pe_lst pa_nil)) (pss_cons (ps_for PassesOwn.never rfl (pi_list (pv 2)) (pg_name (i := 4) sc.nd rfl (Or.inl rfl)) (pss_cons (ps_if (pt_cmpR (op_eqD hu) (pv 4) (pe_lst pa_nil) (nomark _)) (pss_one (ps_ret pe_bl)) pss_nil) (pss_cons (ps_for PassesOwn.never rfl (pi_range2 (by rfl) T.range (pa_cons pe_int (pa_cons (pe_callB call_len_seq (by rfl) T.len PySem.boot_len (pa_cons (pv 4) pa_nil)) pa_nil))) (pg_name (i := 5) sc.nd rfl (Or.inl rfl)) (pss_one (ps_if (pt_not (pt_val (pe_c cA hr (by decide) (by rfl) pass0 (pa_cons (pv 0) (pa_cons (pe_ix ix_list (pv 4) (pe_op op_sub (pv 5) pe_int) (fun _ _ => rfl)) (pa_cons (pe_ix ix_list (pv 4) (pv 5) (fun _ _ => rfl)) pa_nil)))))) (pss_one (ps_ret pe_bl)) pss_nil))) (pss_one (ps_expr (pe_bm PySem.F.plainAttrs_list PySem.F.slot_list_extend PySem.F.type_list_extend mt_extend (pv 3) (pa_cons (pv 4) pa_nil))))))) (pss_one (ps_ret (pe_cmpR (op_eqD hu) (pe_callB SPn.cr_sortedN (by rfl) T.sorted (by decide +kernel) (pa_cons (pv 3) pa_nil)) (pe_c cP hr (by decide) (by rfl) pass0 (pa_cons (pv 1) pa_nil)) (nomark _)))))), ?_⟩
    have lE : (enumP 0 rs).length = rs.length := enumP_length _ _
    have okE : ∀ q ∈ enumP 0 rs, isRow ks (.tuple q.2) = true := fun q hq => okr _ (enumP_mem hq)
    have memR : ∀ r ∈ runs, ∀ q ∈ r, q ∈ enumP 0 rs := fun r hr q hq => pm.mem_iff.mp (List.mem_flatten.mpr ⟨r, hr, hq⟩)
    have ndF : runs.flatten.Nodup := pm.nodup_iff.mpr (enumP_nodup rs 0).1
    have lF : runs.flatten.length = rs.length := by rw [pm.length_eq, lE]
    refine ⟨Nat.zero_le _, fun Ev hEv => ?_⟩
    have s1 : Same H (upd H Ev (.lst [])) := fun b o e => (upd_ne (ne_of_none e hEv)).trans e
    refine ⟨_, rfl, p, rfl, ⟨_, SqL.of (s1 _ _ hp)⟩, for_list (K := K) (a := p) (xs := as.map V.ref) (fun i σ H' => ∃ (v4 v5 : Option V) (ys : List V), σ = [some vo, some vr, some (.ref p), some (.ref Ev), v4, v5] ∧ Same H H' ∧ H' Ev = some (.lst ys) ∧ DpAll K H' ys ((runs.take i).flatten.map pairD))
      ⟨none, none, [], rfl, s1, upd_same, .nil⟩ (fun i σ H' _ ⟨_, _, _, _, sm, _⟩ => sm.seq (SqL.of hp)) ?_ ?_⟩
    · rintro i x σ H' hx ⟨v4, v5, ys, rfl, sm, hE, dE⟩
      obtain ⟨a, ea, rfl⟩ : ∃ a, as[i]? = some a ∧ x = V.ref a := by
        rw [List.getElem?_map] at hx
        cases q : as[i]? with
        | none => rw [q] at hx; cases hx
        | some b => rw [q] at hx; exact ⟨b, rfl, (Option.some.inj hx).symm⟩
      have hi : i < runs.length := by
        have := (List.getElem?_eq_some_iff.mp ea).1
        have := R.1
        omega
      obtain ⟨r, er⟩ : ∃ r, runs[i]? = some r := ⟨_, List.getElem?_eq_getElem hi⟩
      have hr' := List.mem_of_getElem? er
      obtain ⟨z, hz0, dz0⟩ := R.2 i a r ea er
      obtain ⟨g1, g2⟩ := good r hr'
      have lz : z.length = r.length := by rw [dpLen dz0, List.length_map]
      have rlen : r.length ≤ rs.length := by
        rw [← lF]
        exact (List.sublist_flatten_of_mem hr').length_le
      have ndr : r.Nodup := (List.sublist_flatten_of_mem hr').nodup ndF
      have okz : ∀ q ∈ r, isRow ks (.tuple q.2) = true := fun q hq => okE q (memR r hr' q hq)
      refine ⟨_, rfl, Nat.zero_le _, fun e1 he1 => ?_⟩
      have s2 : Same H (upd H' e1 (.lst [])) := fun b o e => (upd_ne (ne_of_none (sm _ _ e) he1)).trans (sm _ _ e)
      have nE1 : Ev ≠ e1 := fun z => by rw [← z, hE] at he1; cases he1
      refine ⟨.list (r.map pairD), .list [], .lst (SqL.of (s2 _ _ hz0)) (dpAll_same s2 _ dz0), .lst (SqL.of upd_same) .nil, pairs_shaped okz, rfl, _, rfl, ?_⟩
      rw [eqv_nil]
      refine iteF' (by cases r <;> simp_all) ?_
      have s12 : Same H' (upd H' e1 (.lst [])) := fun b o e => (upd_ne (ne_of_none e he1)).trans e
      have hE2 : upd H' e1 (.lst []) Ev = some (.lst ys) := (upd_ne nE1).trans hE
      have dE2 := dpAll_same s12 _ dE
      have big : (121 : Int) < 2 ^ 62 := by decide
      refine ⟨_, rfl, a, z, rfl, .inl (SqL.of (s2 _ _ hz0)), 1, _, rfl, ⟨by decide, by decide, by omega, by omega⟩, ?_⟩
      refine for_range (fun j σ H2 => ∃ v5 : Option V, σ = [some vo, some vr, some (.ref p), some (.ref Ev), some (.ref a), v5] ∧ H2 = upd H' e1 (.lst [])) ⟨v5, rfl, rfl⟩ ?_ ?_
      · rintro j σ H2 hj ⟨v5, rfl, rfl⟩
        have hj1 : j + 1 < r.length := by omega
        have ej1 : (1 + (j : Nat) : Int) - 1 = ((j : Nat) : Int) := by omega
        have ej2 : (1 + (j : Nat) : Int) = ((j + 1 : Nat) : Int) := by omega
        obtain ⟨vp, evp, hvp⟩ := dpGet' (i := j) (d := pairD r[j]) (dpAll_same s2 _ dz0) (by rw [List.getElem?_map, List.getElem?_eq_getElem (by omega)]; rfl)
        obtain ⟨vq, evq, hvq⟩ := dpGet' (i := j + 1) (d := pairD r[j + 1]) (dpAll_same s2 _ dz0) (by rw [List.getElem?_map, List.getElem?_eq_getElem hj1]; rfl)
        have adj := before_adj g2 ndr (memR r hr') (Nat.lt_succ_self j) (List.getElem?_eq_getElem (show j < r.length by omega)) (List.getElem?_eq_getElem hj1)
        refine ⟨_, rfl, _, rfl, _, rfl, _, _, rfl, rfl, a, z, _, vp, rfl, rfl, SqL.of (s2 _ _ hz0), by rw [ej1]; exact atI_nat evp, _, rfl, _, rfl, a, z, _, vq, rfl, rfl, SqL.of (s2 _ _ hz0), by rw [ej2]; exact atI_nat evq, ?_⟩
        refine ⟨vo, vp, vq, os, r[j], r[j + 1], rfl, dp_same s2 _ ho, hvp, hvq, alike_rows ok (okz _ (List.getElem_mem _)) (okz _ (List.getElem_mem _)), _, rfl, ?_⟩
        rw [adj]
        exact iteF ⟨_, rfl, rfl⟩
      · rintro σ H2 ⟨v5, rfl, rfl⟩
        have ly : ys.length = (runs.take i).flatten.length := by rw [dpLen dE, List.length_map]
        have lt1 : (runs.take i).flatten.length ≤ rs.length := by
          rw [← lF]
          have : runs.flatten.length = ((runs.take i).flatten ++ (runs.drop i).flatten).length := by rw [← List.flatten_append, List.take_append_drop]
          rw [List.length_append] at this
          omega
        have big2 : (1000 : Nat) ≤ sizeLine := by decide
        refine ⟨_, rfl, .inl ⟨rfl, _, SqL.of hE2⟩, _, rfl, Ev, a, ys, z, rfl, rfl, hE2, s2 _ _ hz0, by omega, ?_⟩
        refine ⟨_, _, ys ++ z, rfl, fun b o e => ?_, upd_same, ?_⟩
        · rw [upd_ne (ne_of_none e hEv)]
          exact s2 _ _ e
        · rw [List.take_add_one, er]
          show DpAll K _ _ ((runs.take i ++ [r]).flatten.map pairD)
          rw [List.flatten_append, List.flatten_singleton, List.map_append]
          have okT : ∀ q ∈ (runs.take i).flatten, isRow ks (.tuple q.2) = true := fun q hq => by
            obtain ⟨r', hr1, hq⟩ := List.mem_flatten.mp hq
            exact okE q (memR r' (List.mem_of_mem_take hr1) q hq)
          exact dpApp (dpAll_upd hE2 _ (pairs_noL okT) dE2) (dpAll_upd hE2 _ (pairs_noL okz) (dpAll_same s2 _ dz0))
    · rintro σ H' ⟨v4, v5, ys, rfl, sm, hE, dE⟩
      rw [List.length_map, R.1, List.take_length] at dE
      have lys : ys.length = runs.flatten.length := by rw [dpLen dE, List.length_map]
      obtain ⟨fl, efl⟩ : ∃ fl, fl = runs.flatten := ⟨_, rfl⟩
      rw [← efl] at dE lys pm ndF lF
      have pairAt : ∀ j x, ys[j]? = some x → ∃ q, fl[j]? = some q ∧ Dp K H' x (pairD q) := fun j x hx => by
        obtain ⟨d, ed, hd⟩ := dpGet dE hx
        rw [List.getElem?_map] at ed
        rcases e : fl[j]? with _ | q
        · rw [e] at ed; cases ed
        · rw [e] at ed; cases ed; exact ⟨q, e, hd⟩
      refine ⟨_, rfl, Ev, ys, fun j => ((fl.getD j (0, [])).1 : Int), rfl, SqL.of hE, fun j x hx => ?_, fun i j hi hj e => ?_, fun is p2 pis pw hp2 => ?_⟩
      · obtain ⟨q, eq, hd⟩ := pairAt j x hx
        show ∃ t y, x = V.ref t ∧ SqT K H' t [.int ((fl.getD j (0, [])).1 : Int), .ref y]
        rw [List.getD_eq_getElem?_getD, eq]
        cases hd with
        | tup hS hI =>
          cases hI with
          | cons h1 hI =>
            cases hI with
            | cons h2 hI =>
              cases hI
              cases h1
              cases h2 with
              | tup hS2 _ => exact ⟨_, _, rfl, hS⟩
      · have e : ((fl.getD i (0, [])).1 : Int) = ((fl.getD j (0, [])).1 : Int) := e
        rw [List.getD_eq_getElem?_getD, List.getD_eq_getElem?_getD, List.getElem?_eq_getElem (show i < fl.length by omega), List.getElem?_eq_getElem (show j < fl.length by omega)] at e
        have e2 : fl[i] = fl[j] := enumP_num (pm.mem_iff.mp (List.getElem_mem _)) (pm.mem_iff.mp (List.getElem_mem _)) (by
          have e : ((fl[i]).1 : Int) = ((fl[j]).1 : Int) := e
          omega)
        rcases Nat.lt_trichotomy i j with z | z | z
        · exact absurd e2 (List.pairwise_iff_getElem.mp ndF i j (by omega) (by omega) z)
        · exact z
        · exact absurd e2.symm (List.pairwise_iff_getElem.mp ndF j i (by omega) (by omega) z)
      · have mem : ∀ i ∈ is, i < fl.length := fun i hi => by
          have := List.mem_range.mp (pis.mem_iff.mpr hi)
          omega
        have eqs : (is.map fun i => fl.getD i (0, [])) = enumP 0 rs := by
          refine enumP_sorted ?_ (List.pairwise_map.mpr (pw.imp fun {a b} h => by
            have h : ((fl.getD a (0, [])).1 : Int) ≤ ((fl.getD b (0, [])).1 : Int) := h
            omega))
          refine List.Perm.trans ?_ pm
          have h1 := (pis.map fun i => fl.getD i ((0, []) : Pr)).symm
          refine h1.trans (List.Perm.of_eq (List.ext_getElem? fun i => ?_))
          rw [List.getElem?_map]
          by_cases hi : i < fl.length
          · rw [List.getElem?_range (by omega), Option.map_some, List.getD_eq_getElem?_getD, List.getElem?_eq_getElem hi]
            rfl
          · rw [List.getElem?_eq_none (l := List.range ys.length) (by rw [List.length_range]; omega), List.getElem?_eq_none (l := fl) (by omega)]
            rfl
        have sP : Same H' (upd H' p2 (.lst (is.map fun i => ys.getD i .non))) := fun b o e => (upd_ne (ne_of_none e hp2)).trans e
        have dP : DpAll K (upd H' p2 (.lst (is.map fun i => ys.getD i .non))) (is.map fun i => ys.getD i .non) ((enumP 0 rs).map pairD) := by
          rw [← eqs]
          exact dpAll_pick (dpAll_same sP _ dE) mem
        refine ⟨_, rfl, vr, ks, rs, rfl, dp_same (sm.trans sP) _ hrs, by omega, okr, fun H3 Pp yp s3 hPp hP3 dP3 => ?_⟩
        refine ⟨.list ((enumP 0 rs).map pairD), .list ((enumP 0 rs).map pairD), .lst (SqL.of (s3 _ _ upd_same)) (dpAll_same s3 _ dP), .lst (SqL.of hP3) dP3, pairs_shaped okE, pairs_shaped okE, ?_⟩
        rw [eqv_rf _ (few_list (by rw [List.length_map, lE]; omega) fun d hd => by
          obtain ⟨q, hq, rfl⟩ := List.mem_map.mp hd
          exact few_pair k4 (okE q hq))]
        exact k _ ((sm.trans sP).trans s3)
end
end RS
set_option Elab.async false
set_option maxRecDepth 100000
set_option maxHeartbeats 8000000
namespace RS
open PySem PySem.Spec PyProof.Rows L2 GX
section
variable {P : Program} {w : World} {K : PySem.W.Frag} {mg : Str → Option Value} {base : Heap}
theorem row_fit {ks : List Bool} {r : List PyData} (hk : ks.length ≤ 4) (h : isRow ks (.tuple r) = true) : fitR (.tuple r) := by
  have big : (6 : Nat) ≤ sizeLine := by decide
  refine ⟨by have := (isRow_get.mp h).1; omega, fun d hd => ?_⟩
  obtain ⟨b, hv⟩ := row_val h hd
  rcases val_atom hv with ⟨e, x, rfl⟩ | ⟨e, m, rfl⟩
  · subst e
    have := isWord_len hv
    show x.length ≤ sizeLine
    omega
  · trivial
theorem filled_uniq {os : List (Nat × Bool)} {n : Nat} {rs : List (List PyData)} {a b : List (List (Nat × List PyData))} (h : FilledTo os n (enumP 0 rs) a) (h' : FilledTo os n (enumP 0 rs) b) : a = b := by
  refine List.ext_getElem? fun i => ?_
  by_cases hi : i < a.length
  · have hi2 : i < b.length := by rw [h'.1, ← h.1]; exact hi
    obtain ⟨p1, s1⟩ := h.2 i _ (List.getElem?_eq_getElem hi)
    obtain ⟨p2, s2⟩ := h'.2 i _ (List.getElem?_eq_getElem hi2)
    rw [List.getElem?_eq_getElem hi, List.getElem?_eq_getElem hi2]
    congr 1
    refine srtd_uniq (p1.trans p2.symm) s1 s2 fun x y hx hy => before_tot (rs := rs) x y ?_ ?_
    · exact List.mem_of_mem_drop (List.mem_of_mem_take (p1.mem_iff.mp hx))
    · exact List.mem_of_mem_drop (List.mem_of_mem_take (p1.mem_iff.mp hy))
  · have hi2 : ¬ i < b.length := by rw [h'.1, ← h.1]; exact hi
    rw [List.getElem?_eq_none (by omega), List.getElem?_eq_none (by omega)]
theorem tabS_x {H H' : Hp} {B L P : Addr} {q : Str} (b : BoxAt H B L) (s : SameX B L H H') (t : LamX.TabS H P q) : LamX.TabS H' P q := by
  obtain ⟨_, ⟨st, hb'⟩, ⟨ms, hl'⟩⟩ := b
  obtain ⟨ps, h1, h2, h3⟩ := t
  refine ⟨ps, s _ _ (fun z => by rw [z, hb'] at h1; cases h1) (fun z => by rw [z, hl'] at h1; cases h1) h1, h2, fun pos cv hc => ?_⟩
  obtain ⟨c, e1, e2⟩ := h3 pos cv hc
  refine ⟨c, e1, s _ _ (fun z => ?_) (fun z => ?_) e2⟩
  · rw [z, hb'] at e2
    unfold LamX.CodeO at e2
    cases e2
  · rw [z, hl'] at e2
    unfold LamX.CodeO at e2
    cases e2
theorem box_noT {H : Hp} {B L : Addr} (b : BoxAt H B L) : BoxAt (noT H) B L := by
  obtain ⟨n, ⟨st, hb'⟩, ⟨ms, hl'⟩⟩ := b
  exact ⟨n, ⟨st, noT_at hb' (fun _ z => by cases z)⟩, ⟨ms, noT_at hl' (fun _ z => by cases z)⟩⟩
theorem fn_of0 {f c : Addr} {oc kV doc pm ct : Value} {od an : Option Addr} {osl : Array (Option Value)} {x : Str} {st : Stmt} {N ps : List Str} {k : Nat} {sp : Sp}
    (lk : K.lookup f = some ⟨oc, od, .func (PySem.W.fnOf x x (defArgs st) (defBody st) (defScope st) .none kV doc pm an (.ref c) ct), osl⟩) (hcd : PySem.W.codeIn K (.ref c) x = true) (S : FnScope N ps (defScope st)) (len : ∀ vs H Q E, sp vs H Q E → vs.length = ps.length)
    (hbody : ∀ (f : Addr) (A : Around) (outer : List Env) (s : Shared) (H : Hp) (vs : List V) (Q : VK) (E : XK), Room k (A.deeper (envOfC x (defScope st) s.heap.objs.size f (.ref c))) → sp vs H Q E →
      ∃ t, PSs (cxOf CX0 P w K mg base N x (defScope st) f (.ref c) A outer s H E).nox (defBody st) t ∧ t { nx := fun _ H' => Q .non H', rt := Q } (start N vs) H) :
    FnOk P w K mg base CX0 (k + 1) f (PySem.W.fnOf x x (defArgs st) (defBody st) (defScope st) .none kV doc pm an (.ref c) ct) ps sp :=
  fn_of lk hcd S len fun A outer s H vs Q E hr hsp => by
    obtain ⟨t, ht, q⟩ := hbody f A outer s H vs Q E hr hsp
    exact ⟨t, ht.nox, q⟩
end
end RS
set_option Elab.async false
set_option maxRecDepth 100000
set_option maxHeartbeats 8000000
namespace RS
open PySem PySem.Spec PyProof.Rows L2 GX
section
variable {X : Cx} {K : PySem.W.Frag}
theorem call_len_seqC (e : X.K = K) : CallR X (.builtin "len") (fun xs H Q => ∃ p ys, xs = [.ref p] ∧ (SqL K H p ys ∨ SqT K H p ys) ∧ Q (.int ys.length) H) := by
  subst e
  exact call_len_seq
theorem op_eqDC (hu : X.A.units + 64 < cLine) (e : X.K = K) : OpR X (compareOp .Eq) (rEqD K) := by
  subst e
  exact op_eqD hu
theorem op_neDC (hu : X.A.units + 64 < cLine) (e : X.K = K) : OpR X (compareOp .NotEq) (rNeD K) := by
  subst e
  exact op_neD hu
end
section
variable {P : Program} {w : World} {K : PySem.W.Frag} {mg : Str → Option Value} {base : Heap}
theorem cutV_last {xs : List V} : cutV xs none (some (-1)) = xs.dropLast := by
  unfold cutV
  rw [HT.sIx_none]
  show (xs.drop 0).take ((if (-1 : Int) < 0 then (-1 + (xs.length : Int)).toNat else min (-1 : Int).toNat xs.length) - 0) = _
  rw [if_pos (by decide), List.drop_zero, Nat.sub_zero, List.dropLast_eq_take]
  congr 1
  omega
theorem row_noL {ks : List Bool} {r : List PyData} (h : isRow ks (.tuple r) = true) : noL (.tuple r) = true := by
  have := rowsL_noL (ks := ks) (rs := [r]) fun r' hr => by rw [List.mem_singleton.mp hr]; exact h
  simpa [noLs] using this
theorem viaA {te : TE} {g : TG} {u : TS} {D : Ends} {σ : L2.St} {H : Hp} (N : V → Hp → Prop) (h1 : ∀ Q' : VK, (∀ x H2, N x H2 → Q' x H2) → te σ H Q') (h2 : ∀ x H2, N x H2 → g x σ H2 fun σ' H' => u D σ' H') : tSeq (tAsg te g) u D σ H := h1 _ h2
theorem dp_tupI {K : PySem.W.Frag} {H : Hp} {v : V} {ds : List PyData} (h : Dp K H v (.tuple ds)) : ∃ a xs, v = .ref a ∧ SqT K H a xs ∧ DpAll K H xs ds := by
  cases h with
  | tup h1 h2 => exact ⟨_, _, rfl, h1, h2⟩
theorem eqv_ne {b : Bool} {m t : PyData} (hm : isVal b m = true) (ht : isVal b t = true) (ne : m ≠ t) : PyData.eqv m t = false := by
  cases e : PyData.eqv m t with
  | false => rfl
  | true => exact absurd (eqv_val hm ht e) ne
theorem val_shaped {b : Bool} {d : PyData} (h : isVal b d = true) : SeqAt.shaped d = true := by
  obtain ⟨a1, a2⟩ := val_shape h
  unfold SeqAt.shaped
  rw [a1, a2]
  rfl
theorem row_shaped {ks : List Bool} {r : List PyData} (h : isRow ks (.tuple r) = true) : SeqAt.shaped (.tuple r) = true := by
  obtain ⟨a1, a2⟩ := row_shape h
  unfold SeqAt.shaped
  rw [a1, Bool.true_and]
  exact decide_eq_true (by omega)
theorem few_enum {ks : List Bool} {rs : List (List PyData)} (okr : ∀ r ∈ rs, isRow ks (.tuple r) = true) : ∀ q ∈ enumP 0 rs, isRow ks (.tuple q.2) = true := fun q hq => okr _ (enumP_mem hq)
theorem runs_at {K : PySem.W.Frag} {ks : List Bool} {H H' : Hp} {as : List Addr} {rs : List (List Pr)} (R : Runs K ks H H' as rs) : RunsAt K H' as rs := ⟨R.len, R.at_⟩
abbrev NL : List Str := ["_law_script", "_law_box", "_law_turn", "_law_kinds_here", "_law_order_here", "_law_rows_here", "_law_size", "_law_one", "_law_other", "_law_rising", "_law_falling", "_law_row", "_law_ahead_here", "_law_unlike", "_law_run", "_law_number", "_law_column", "_law_way"]
theorem scLaw : FnScope NL ["_law_script"] (defScope sLaw) := ⟨rfl, rfl, rfl, by decide +kernel, rfl, by decide +kernel, by decide +kernel⟩
structure Parts (P : Program) (w : World) (K : PySem.W.Frag) (mg : Str → Option Value) (base : Heap) (pK pW pR pF : Addr) : Prop where
  begun : Cal P w K mg base CX0 1 "_law_begun" ["_law_script"] (spBegun K)
  take : Cal P w K mg base CX0 1 "_law_take" ["_law_box", "_law_many"] spTake
  kinds : Cal P w K mg base CX0 2 "_law_kinds" ["_law_box"] (spKinds K)
  order : Cal P w K mg base CX0 2 "_law_order" ["_law_box", "_law_kinds_here"] (spOrder K)
  rows : Cal P w K mg base CX0 3 "_law_rows" ["_law_box", "_law_kinds_here", "_law_most"] (spRows K)
  sorted : Cal P w K mg base CX0 2 "_law_sorted" ["_law_order_here", "_law_pairs_here"] (spSorted K)
  pairs : Cal P w K mg base CX0 1 "_law_pairs" ["_law_rows_here"] (spPairs K)
  right : Cal P w K mg base CX0 2 "_law_right" ["_law_order_here", "_law_rows_here", "_law_runs"] (spRight K)
  exchanged : Cal P w K mg base CX0 8 "exchanged" ["kinds", "order", "size", "rows"] (spExchanged K pK pW pR)
  filled : Cal P w K mg base CX0 10 "filled" ["kinds", "order", "size", "rows"] (spFilled K pK pW pR pF)
def spLaw (K : PySem.W.Frag) (pK pW pR pF : Addr) : Sp := fun vs H Q _ => ∃ (a : Addr) (ns : List Int), vs = [.ref a] ∧ SqL K H a (ns.map V.int) ∧ Tabs3 H pK pW pR ∧ LamX.TabS H pF qF ∧ ∀ H', Tabs3 H' pK pW pR → Q (.bl true) H'
theorem law_fn {f c pK pW pR pF : Addr} {oc kV doc pm ct : Value} {od an : Option Addr} {osl : Array (Option Value)} (lk : K.lookup f = some ⟨oc, od, .func (PySem.W.fnOf "law" "law" (defArgs sLaw) (defBody sLaw) (defScope sLaw) .none kV doc pm an (.ref c) ct), osl⟩) (hcd : PySem.W.codeIn K (.ref c) "law" = true)
    (T : Txt K mg) (C : Parts P w K mg base pK pW pR pF) : FnOk P w K mg base CX0 11 f (PySem.W.fnOf "law" "law" (defArgs sLaw) (defBody sLaw) (defScope sLaw) .none kV doc pm an (.ref c) ct) ["_law_script"] (spLaw K pK pW pR pF) := by
  have sc := scLaw
  refine fn_of0 lk hcd sc (fun vs H Q E h => ?_) (fun f A outer s H vs Q E hr h => ?_)
  · obtain ⟨a, ns, rfl, _⟩ := h
    rfl
  · obtain ⟨a, ns, rfl, hS, ht, hp, k⟩ := h
    have hu := hr.units
    refine ⟨_, (pss_cons (ps_set (i := 1) sc.nd rfl (Or.inl rfl) (pe_c C.begun hr (by decide) (by rfl) pass0 (pa_cons (pv 0) pa_nil))) (pss_cons (ps_for PassesOwn.never rfl (pi_range1 (by rfl) T.range (pa_cons pe_int pa_nil)) (pg_name (i := 2) sc.nd rfl (Or.inl rfl)) (pss_cons (ps_set (i := 3) sc.nd rfl (Or.inl rfl) (pe_c C.kinds hr (by decide) (by rfl) pass0 (pa_cons (pv 1) pa_nil))) (pss_cons (ps_set (i := 4) sc.nd rfl (Or.inl rfl) (pe_c C.order hr (by decide) (by rfl) pass0 (pa_cons (pv 1) (pa_cons (pv 3) pa_nil)))) (pss_cons (ps_set (i := 5) sc.nd rfl (Or.inl rfl) (pe_c C.rows hr (by decide) (by rfl) pass0 (pa_cons (pv 1) (pa_cons (pv 3) (pa_cons pe_int pa_nil))))) (pss_cons (ps_set (i := 6) sc.nd rfl (Or.inr rfl) (pe_op op_add pe_int (pe_c C.take hr (by decide) (by rfl) pass0 (pa_cons (pv 1) (pa_cons pe_int pa_nil))))) (pss_cons (ps_par (i := 7) (j := 8) rfl sc.nd rfl rfl (by decide) rfl rfl (pa_cons (pe_c C.filled hr (by decide) (by rfl) pass0 (pa_cons (pv 3) (pa_cons (pv 4) (pa_cons (pv 6) (pa_cons (pv 5) pa_nil))))) (pa_cons (pe_c C.exchanged hr (by decide) (by rfl) pass0 (pa_cons (pv 3) (pa_cons (pv 4) (pa_cons (pv 6) (pa_cons (pv 5) pa_nil))))) pa_nil)) (by rfl)) (pss_cons (ps_if ((pw_or (pt_not (pt_val (pe_c C.right hr (by decide) (by rfl) pass0 (pa_cons (pv 4) (pa_cons (pv 5) (pa_cons (pv 7) pa_nil)))))) (pw_or (pt_not (pt_val (pe_c C.right hr (by decide) (by rfl) pass0 (pa_cons (pv 4) (pa_cons (pv 5) (pa_cons (pv 8) pa_nil)))))) (pw_or1 (pt_cmpR op_gt (pe_callB call_len_seq (by rfl) T.len PySem.boot_len (pa_cons (pv 8) pa_nil)) (pe_callB call_len_seq (by rfl) T.len PySem.boot_len (pa_cons (pv 7) pa_nil)) (nomark _))))).pt) (pss_one (ps_ret pe_bl)) pss_nil) (pss_cons (ps_if (pt_cmpR (op_neD hu) (pe_lc (own := [("_law_run", 14)]) (tt := _) rfl sc.nd (pi_list (pe_slice sl_list (pv 7) po_none (po_some (pe_un un_neg pe_int)))) (blkOk_by (N := NL) (sc := defScope sLaw) (own := [("_law_run", 14)]) (by decide +kernel)) (fun _ _ _ _ _ => (pg_name (i := 14) sc.nd rfl (Or.inl rfl))) (fun _ _ _ _ _ => pts_one (pt_cmpR op_ne (pe_callB (call_len_seqC (K := K) rfl) (by rfl) T.len PySem.boot_len (pa_cons (pv 14) pa_nil)) (pv 6) (nomark _))) (fun _ _ _ _ _ => pv 14)) (pe_lst pa_nil) (nomark _)) (pss_one (ps_ret pe_bl)) pss_nil) (pss_cons (ps_if (pt_cmpR (op_neD hu) (pe_lc (own := [("_law_run", 14)]) (tt := _) rfl sc.nd (pi_list (pe_slice sl_list (pv 8) po_none (po_some (pe_un un_neg pe_int)))) (blkOk_by (N := NL) (sc := defScope sLaw) (own := [("_law_run", 14)]) (by decide +kernel)) (fun _ _ _ _ _ => (pg_name (i := 14) sc.nd rfl (Or.inl rfl))) (fun _ _ _ _ _ => pts_one (pt_cmpR op_lt (pe_callB (call_len_seqC (K := K) rfl) (by rfl) T.len PySem.boot_len (pa_cons (pv 14) pa_nil)) (pv 6) (nomark _))) (fun _ _ _ _ _ => pv 14)) (pe_lst pa_nil) (nomark _)) (pss_one (ps_ret pe_bl)) pss_nil) (pss_cons (ps_setLc (own := [("_law_number", 15), ("_law_row", 11)]) (g := gTup K 2 (gCons (gName 15) (gCons (gName 11) gNil))) (tt := tYes) rfl sc.nd (i := 9) rfl rfl (by rfl) (pi_list (pe_c C.sorted hr (by decide) (by rfl) pass0 (pa_cons (pv 4) (pa_cons (pe_c C.pairs hr (by decide) (by rfl) pass0 (pa_cons (pv 5) pa_nil)) pa_nil)))) (blkOk_by (N := NL) (sc := defScope sLaw) (own := [("_law_number", 15), ("_law_row", 11)]) (by decide +kernel)) (fun _ _ _ _ _ => (pg_tup (by rfl) (pgs_cons (pg_name (i := 15) sc.nd rfl (Or.inl rfl)) (pgs_cons (pg_name (i := 11) sc.nd rfl (Or.inl rfl)) pgs_nil)))) (fun _ _ _ _ _ => pts_nil) (fun _ _ _ _ _ => pv 11)) (pss_cons (ps_if (pt_cmpR op_ne (pe_callB call_len_seq (by rfl) T.len PySem.boot_len (pa_cons (pe_c C.exchanged hr (by decide) (by rfl) pass0 (pa_cons (pv 3) (pa_cons (pv 4) (pa_cons (pv 6) (pa_cons (pv 9) pa_nil))))) pa_nil)) (pe_callTy call_int1 (by rfl) T.int_ (by decide +kernel) (pa_cons (pe_cmpR (op_neD hu) (pv 5) (pe_lst pa_nil) (nomark _)) pa_nil)) (nomark _)) (pss_one (ps_ret pe_bl)) pss_nil) (pss_cons (ps_set (i := 10) sc.nd rfl (Or.inl rfl) (pe_lst pa_nil)) (pss_cons (ps_for PassesOwn.never rfl (pi_list (pe_revL (pv 9))) (pg_name (i := 11) sc.nd rfl (Or.inr rfl)) (pss_cons (ps_set (i := 12) sc.nd rfl (Or.inr rfl) (pe_ifExp (pt_cmpR (op_neD hu) (pv 10) (pe_lst pa_nil) (nomark _)) (pe_ix ix_list (pv 10) (pe_un un_neg pe_int) (fun _ _ => rfl)) (pe_tup pa_nil))) (pss_cons (ps_setLc (own := [("_law_column", 16), ("_law_way", 17)]) (g := gTup K 2 (gCons (gName 16) (gCons (gName 17) gNil))) (tt := _) rfl sc.nd (i := 13) rfl rfl (by rfl) (pi_list (pv 4)) (blkOk_by (N := NL) (sc := defScope sLaw) (own := [("_law_column", 16), ("_law_way", 17)]) (by decide +kernel)) (fun _ _ _ _ _ => (pg_tup (by rfl) (pgs_cons (pg_name (i := 16) sc.nd rfl (Or.inl rfl)) (pgs_cons (pg_name (i := 17) sc.nd rfl (Or.inl rfl)) pgs_nil)))) (fun _ _ _ _ _ => pts_one (pw_or (pt_cmpR (op_eqDC (K := K) hu rfl) (pv 12) (pe_tup pa_nil) (nomark _)) (pw_or1 (pt_cmpR (op_neDC (K := K) hu rfl) (pe_ix (ix_tupC (K := K) rfl) (pv 11) (pv 16) (fun _ _ => rfl)) (pe_ix (ix_tupC (K := K) rfl) (pv 12) (pv 16) (fun _ _ => rfl)) (nomark _)))).pt) (fun _ _ _ _ _ => pv 16)) (pss_one (ps_if (pt_cmpR (op_neD hu) (pv 13) (pe_lst pa_nil) (nomark _)) (pss_one (ps_expr (pe_bm PySem.F.plainAttrs_list PySem.F.slot_list_append PySem.F.type_list_append mt_append (pv 10) (pa_cons (pv 11) pa_nil)))) pss_nil))))) (pss_one (ps_if (pt_cmpR (op_neD hu) (pe_lc (own := [("_law_run", 14)]) (tt := _) rfl sc.nd (pi_list (pe_slice sl_list (pe_c C.exchanged hr (by decide) (by rfl) pass0 (pa_cons (pv 3) (pa_cons (pv 4) (pa_cons (pv 6) (pa_cons (pv 10) pa_nil))))) po_none (po_some (pe_un un_neg pe_int)))) (blkOk_by (N := NL) (sc := defScope sLaw) (own := [("_law_run", 14)]) (by decide +kernel)) (fun _ _ _ _ _ => (pg_name (i := 14) sc.nd rfl (Or.inl rfl))) (fun _ _ _ _ _ => pts_one (pt_cmpR op_ne (pe_callB (call_len_seqC (K := K) rfl) (by rfl) T.len PySem.boot_len (pa_cons (pv 14) pa_nil)) (pv 6) (nomark _))) (fun _ _ _ _ _ => pv 14)) (pe_lst pa_nil) (nomark _)) (pss_one (ps_ret pe_bl)) pss_nil))))))))))))))) (pss_one (ps_ret pe_bl)))), ?_⟩
    refine ⟨_, rfl, a, ns, rfl, hS, fun H1 B L s1 hB0 hL0 hb => ?_⟩
    refine ⟨_, rfl, by decide, by decide, ?_⟩
    refine for_range (fun i σ H' => ∃ v2 v3 v4 v5 v6 v7 v8 v9 v10 v11 v12 v13 v14 v15 v16 v17 : Option V, σ = [some (.ref a), some (.ref B), v2, v3, v4, v5, v6, v7, v8, v9, v10, v11, v12, v13, v14, v15, v16, v17] ∧ BoxAt H' B L ∧ Tabs3 H' pK pW pR ∧ LamX.TabS H' pF qF)
      ⟨none, none, none, none, none, none, none, none, none, none, none, none, none, none, none, none, rfl, hb, ht.same s1, hp.ext s1⟩ ?_ ?_
    · rintro i σ H2 hi ⟨v2, v3, v4, v5, v6, v7, v8, v9, v10, v11, v12, v13, v14, v15, v16, v17, rfl, b2, t2, f2⟩
      refine ⟨_, rfl, B, L, rfl, b2, fun H3 vk ks s3 b3 k1 k4 dk3 => ?_⟩
      refine ⟨_, rfl, _, rfl, B, L, vk, ks, rfl, b3, dk3, k1, k4, fun H4 O os xo s4 b4 ok oz hO0 hO4 dO4 => ?_⟩
      obtain ⟨nOB, nOL⟩ := b3.nb hO0
      have dk4 := dp_x b3 s4 _ (kinds_noL ks) dk3
      refine ⟨_, rfl, _, rfl, B, L, vk, ks, 120, rfl, b4, dk4, k1, k4, by decide, by decide, fun H5 Rw rs xr s5 b5 lrs okr hR0 hR5 dR5 => ?_⟩
      obtain ⟨nRB, nRL⟩ := b4.nb hR0
      refine ⟨_, rfl, B, L, 24, rfl, b5, by decide, by decide, fun H6 c6 s6 b6 c60 c61 => ?_⟩
      obtain ⟨n, en, nlo, nhi⟩ : ∃ n : Nat, (1 + c6 : Int) = (n : Nat) ∧ 1 ≤ n ∧ n ≤ 24 := ⟨(1 + c6).toNat, by rw [Int.toNat_of_nonneg (by omega)], by omega, by omega⟩
      refine ⟨_, _, rfl, rfl, ?_⟩
      have ev : (fun i j => V.int (i + j)) 1 c6 = V.int (n : Nat) := congrArg V.int en
      rw [ev]
      have s56 : SameX B L H4 H6 := s5.trans s6
      have s26 : SameX B L H2 H6 := (s3.trans s4).trans s56
      have hO : H6 O = some (.lst xo) := s56 _ _ nOB nOL hO4
      have dO : DpAll K H6 xo (os.map partD) := dpAll_x b4 s56 _ (parts_noL os) dO4
      have hR : H6 Rw = some (.lst xr) := s6 _ _ nRB nRL hR5
      have dR : DpAll K H6 xr (rs.map .tuple) := dpAll_x b5 s6 _ (rowsL_noL okr) dR5
      have dk : Dp K H6 vk (kindsD ks) := dp_x b4 s56 _ (kinds_noL ks) dk4
      have ext6 : ∀ q φ, H2 q = some (.ext φ) → H6 q = some (.ext φ) := fun q φ e => by
        obtain ⟨_, ⟨st, hb'⟩, ⟨ms, hl'⟩⟩ := b2
        exact s26 q _ (fun z => by rw [z, hb'] at e; cases e) (fun z => by rw [z, hl'] at e; cases e) e
      have t6 : Tabs3 H6 pK pW pR := ⟨ext6 _ _ t2.k, ext6 _ _ t2.w, ext6 _ _ t2.r⟩
      have f6 : LamX.TabS H6 pF qF := tabS_x b2 s26 f2
      clear s3 s4 s5 s6 s26 s56 b3 b4 b5 dk3 dk4 dO4 hO4 dR5 hR5 ext6 ev en
      have lE : (enumP 0 rs).length = rs.length := enumP_length _ _
      have okE : ∀ q ∈ enumP 0 rs, isRow ks (.tuple q.2) = true := few_enum okr
      have hand : Handed K H6 vk (.ref O) (.ref Rw) ks os (n : Nat) rs := ⟨dk, .lst (SqL.of hO) dO, .lst (SqL.of hR) dR, k1, k4, ok, by omega, by omega, by omega, lrs, fun r hr => ⟨okr r hr, row_fit k4 (okr r hr)⟩⟩
      refine ⟨_, rfl, _, rfl, _, rfl, _, rfl, vk, .ref O, .ref Rw, ks, os, n, rs, rfl, hand, t6, f6, fun H7 p1 as1 runs1 s7 f7 p10 np1 gp1 R1 F1 => ?_⟩
      replace hand := hand.noT
      replace t6 : Tabs3 (noT H6) pK pW pR := ⟨noT_at t6.k (fun _ z => by cases z), noT_at t6.w (fun _ z => by cases z), noT_at t6.r (fun _ z => by cases z)⟩
      replace hO := noT_at hO (fun _ z => by cases z)
      replace hR := noT_at hR (fun _ z => by cases z)
      replace dO := dpAll_noT _ dO
      replace dR := dpAll_noT _ dR
      replace dk := dp_noT _ dk
      replace b6 := box_noT b6
      obtain ⟨N, eN⟩ : ∃ N, N = noT H6 := ⟨_, rfl⟩
      rw [← eN] at hand t6 hO hR dO dR dk b6 s7 R1
      refine ⟨_, rfl, _, rfl, _, rfl, _, rfl, vk, .ref O, .ref Rw, ks, os, n, rs, rfl, hand.same s7, t6.same s7, fun H8 p2 as2 runs2 s8 p20 np2 gp2 R2 T2 l120 => ⟨_, _, rfl, ?_⟩⟩
      have s68 := s7.trans s8
      have f8 := f7.ext s8
      have gp1' := s8 _ _ gp1
      have R1' := R1.same s8
      have la1 := R1.len
      have la2 := R2.len
      have lr1 : runs1.length ≤ 120 := by
        have := cnt_le rs.length (by omega) n (by omega) nlo
        have h1 := F1.1
        rw [lE] at h1
        omega
      have dOr : ∀ {H' : Hp}, Same N H' → Dp K H' (.ref O) (orderD os) := fun s => .lst (s.seq (SqL.of hO)) (dpAll_same s _ dO)
      have dRr : ∀ {H' : Hp}, Same N H' → Dp K H' (.ref Rw) (rowsD rs) := fun s => .lst (s.seq (SqL.of hR)) (dpAll_same s _ dR)
      have hroom : (enumP 0 rs).drop n ≠ [] → ((enumP 0 rs).take n).length = n := fun z => by
        have : n < (enumP 0 rs).length := by
          by_cases q : n < (enumP 0 rs).length
          · exact q
          · exact absurd (List.drop_of_length_le (by omega)) z
        rw [List.length_take]
        omega
      have hnil : (enumP 0 rs).take n = [] → (enumP 0 rs).drop n = [] := fun z => by
        have : (enumP 0 rs).length = 0 := by
          have := congrArg List.length z
          rw [List.length_take, List.length_nil] at this
          omega
        rw [List.length_eq_zero_iff.mp this, List.drop_nil]
      have all2 : runs2.flatten.Perm (enumP 0 rs) := by
        have := T2.all hnil
        rw [List.take_append_drop] at this
        exact this
      refine ⟨_, rfl, _, rfl, _, rfl, .ref O, .ref Rw, p1, ks, os, rs, as1, runs1, rfl, dOr s68, dRr s68, ok, k4, okr, lrs, gp1', runs_at R1', lr1, F1.run (by omega) nlo nhi, F1.all (by omega) nlo nhi, fun H9 s9 => ⟨_, rfl, iteF ?_⟩⟩
      have s69 := s68.trans s9
      refine ⟨_, rfl, _, rfl, _, rfl, .ref O, .ref Rw, p2, ks, os, rs, as2, runs2, rfl, dOr s69, dRr s69, ok, k4, okr, lrs, s9 _ _ gp2, runs_at (R2.same s9), l120, T2.run (swo_before os), all2, fun H10 s10 => ⟨_, rfl, iteF ?_⟩⟩
      have s6A := s69.trans s10
      have s8A := s9.trans s10
      have fA := f8.ext s8A
      have few2 := fewer F1 (by omega) nlo nhi T2
      refine ⟨_, rfl, p2, _, rfl, .inl (SqL.of (s8A _ _ gp2)), _, rfl, p1, _, rfl, .inl (SqL.of (s8A _ _ gp1')), _, _, rfl, rfl, _, rfl, ?_⟩
      refine iteF' (decide_eq_false (by rw [List.length_map, List.length_map]; omega)) ?_
      have few_at : ∀ {H' : Hp} {ks' : List Bool} {H0 : Hp} {as : List Addr} {runs : List (List Pr)}, Runs K ks' H0 H' as runs → ∀ (j : Nat) (x : V), (as.map V.ref).dropLast[j]? = some x → ∃ a r y, x = .ref a ∧ r ∈ runs.dropLast ∧ H' a = some (.lst y) ∧ y.length = r.length := fun {H' ks' H0 as runs} R j x hx => by
        have hj := (List.getElem?_eq_some_iff.mp hx).1
        rw [List.length_dropLast, List.length_map] at hj
        rw [List.getElem?_dropLast, if_pos (by rw [List.length_map]; exact hj), List.getElem?_map] at hx
        have la := R.len
        rw [List.getElem?_eq_getElem (by omega)] at hx
        cases hx
        obtain ⟨y, hy, dy⟩ := R.at_ j _ (runs[j]'(by omega)) (List.getElem?_eq_getElem (by omega)) (List.getElem?_eq_getElem (by omega))
        refine ⟨_, _, y, rfl, ?_, hy, by rw [dpLen dy, List.length_map]⟩
        refine List.mem_of_getElem? (i := j) ?_
        rw [List.getElem?_dropLast, if_pos (by omega), List.getElem?_eq_getElem (by omega)]
      refine ⟨_, rfl, _, rfl, _, rfl, p1, _, rfl, SqL.of (s8A _ _ gp1'), fun pS hpS => ?_⟩
      rw [cutV_last]
      have sS1 : Same H10 (upd H10 pS (.lst (as1.map V.ref).dropLast)) := fun b o e => (upd_ne (ne_of_none e hpS)).trans e
      refine ⟨pS, rfl, ⟨_, SqL.of upd_same⟩, fun D1 hD1 => ?_⟩
      refine lc_list (K := K) (a := pS) (xs := (as1.map V.ref).dropLast) (fun j H' => Same (upd H10 pS (.lst (as1.map V.ref).dropLast)) H' ∧ H' D1 = some (.lst [])) ⟨fun b o e => (upd_ne (ne_of_none e hD1)).trans e, upd_same⟩ (fun j H' _ h => h.1.seq (SqL.of upd_same)) ?_ ?_
      · rintro j x H' hx ⟨sm, hD⟩
        obtain ⟨aj, r, y, rfl, hr, hy, ly⟩ := few_at (R1'.same (s8A.trans (sS1.trans sm))) j x hx
        have lr := F1.most (by omega) nlo nhi r hr
        refine ⟨rfl, _, rfl, aj, y, rfl, .inl (SqL.of hy), _, rfl, rfl, _, rfl, ?_⟩
        exact iteF' (by simp [ly, lr]) ⟨sm, hD⟩
      rintro H11 ⟨sm11, hD11⟩
      refine ⟨Nat.zero_le _, fun e1 he1 => ?_⟩
      have sB : Same H11 (upd H11 e1 (.lst [])) := fun b o e => (upd_ne (ne_of_none e he1)).trans e
      refine ⟨.list [], .list [], .lst (SqL.of (sB _ _ hD11)) .nil, .lst (SqL.of upd_same) .nil, rfl, rfl, _, rfl, ?_⟩
      rw [eqv_nil]
      refine iteF ?_
      have s8B := s8A.trans ((sS1.trans sm11).trans sB)
      have fB := fA.ext ((sS1.trans sm11).trans sB)
      obtain ⟨HB, eHB⟩ : ∃ HB, HB = upd H11 e1 (.lst []) := ⟨_, rfl⟩
      rw [← eHB] at s8B fB ⊢
      clear sB sm11 hD11 hD1 hpS sS1 he1 eHB
      -- by exchanging: no fewer
      refine ⟨_, rfl, _, rfl, _, rfl, p2, _, rfl, SqL.of (s8B _ _ gp2), fun pS hpS => ?_⟩
      rw [cutV_last]
      have sS1 : Same HB (upd HB pS (.lst (as2.map V.ref).dropLast)) := fun b o e => (upd_ne (ne_of_none e hpS)).trans e
      refine ⟨pS, rfl, ⟨_, SqL.of upd_same⟩, fun D1 hD1 => ?_⟩
      refine lc_list (K := K) (a := pS) (xs := (as2.map V.ref).dropLast) (fun j H' => Same (upd HB pS (.lst (as2.map V.ref).dropLast)) H' ∧ H' D1 = some (.lst [])) ⟨fun b o e => (upd_ne (ne_of_none e hD1)).trans e, upd_same⟩ (fun j H' _ h => h.1.seq (SqL.of upd_same)) ?_ ?_
      · rintro j x H' hx ⟨sm, hD⟩
        obtain ⟨aj, r, y, rfl, hr, hy, ly⟩ := few_at (R2.same (s8B.trans (sS1.trans sm))) j x hx
        have lr := T2.most hroom r hr
        refine ⟨rfl, _, rfl, aj, y, rfl, .inl (SqL.of hy), _, rfl, _, _, rfl, rfl, _, rfl, ?_⟩
        exact iteF' (decide_eq_false (by omega)) ⟨sm, hD⟩
      rintro H12 ⟨sm12, hD12⟩
      refine ⟨Nat.zero_le _, fun e1 he1 => ?_⟩
      have sB : Same H12 (upd H12 e1 (.lst [])) := fun b o e => (upd_ne (ne_of_none e he1)).trans e
      refine ⟨.list [], .list [], .lst (SqL.of (sB _ _ hD12)) .nil, .lst (SqL.of upd_same) .nil, rfl, rfl, _, rfl, ?_⟩
      rw [eqv_nil]
      refine iteF ?_
      have s8C := s8B.trans ((sS1.trans sm12).trans sB)
      have fC := fB.ext ((sS1.trans sm12).trans sB)
      obtain ⟨HC, eHC⟩ : ∃ HC, HC = upd H12 e1 (.lst []) := ⟨_, rfl⟩
      rw [← eHC] at s8C fC ⊢
      clear sB sm12 hD12 hD1 hpS sS1 he1 eHC s8B fB s8A fA
      have sC := s68.trans s8C
      -- the rows in order
      refine ⟨_, rfl, _, rfl, .ref Rw, ks, rs, rfl, dRr sC, by omega, okr, fun H13 Pp yp s13 hP0 hP dP => ?_⟩
      refine ⟨.ref O, Pp, yp, ks, os, enumP 0 rs, rfl, dOr (sC.trans s13), SqL.of hP, dP, ok, okE, by omega, fun H14 Sp ys qs s14 hS0 hSp dS pm srt => ?_⟩
      have sE := sC.trans (s13.trans s14)
      have fE := fC.ext (s13.trans s14)
      have lqs : qs.length = rs.length := by rw [pm.length_eq, lE]
      have lys : ys.length = qs.length := by rw [dpLen dS, List.length_map]
      have okq : ∀ q ∈ qs, isRow ks (.tuple q.2) = true := fun q hq => okE q (pm.mem_iff.mp hq)
      refine ⟨Sp, rfl, ⟨_, SqL.of hSp⟩, fun D2 hD2 => ?_⟩
      refine lc_list (K := K) (a := Sp) (xs := ys) (fun j H' => Same H14 H' ∧ ∃ zs, H' D2 = some (.lst zs) ∧ DpAll K H' zs (((qs.map (·.2)).take j).map .tuple)) ⟨fun b o e => (upd_ne (ne_of_none e hD2)).trans e, [], upd_same, .nil⟩ (fun j H' _ h => h.1.seq (SqL.of hSp)) ?_ ?_
      · rintro j x H' hx ⟨sm, zs, hD, dZ⟩
        obtain ⟨d, ed, hdx⟩ := dpGet dS hx
        obtain ⟨q, eq, rfl⟩ : ∃ q, qs[j]? = some q ∧ d = pairD q := by
          rw [List.getElem?_map] at ed
          cases e : qs[j]? with
          | none => rw [e] at ed; cases ed
          | some q => rw [e] at ed; exact ⟨q, rfl, (Option.some.inj ed).symm⟩
        have hj := (List.getElem?_eq_some_iff.mp eq).1
        have hdx := dp_same sm _ hdx
        have lz : zs.length = j := by rw [dpLen dZ, List.length_map, List.length_take, List.length_map]; omega
        cases hdx with
        | tup hSx hIx =>
          cases hIx with
          | cons g1 hIx =>
            cases hIx with
            | cons g2 hIx =>
              cases hIx
              refine ⟨_, _, rfl, hSx, rfl, _, _, rfl, _, _, rfl, rfl, rfl, _, rfl, zs, hD, small1000 (by omega), fun b o e => ?_, _, upd_same, ?_⟩
              · rw [upd_ne (ne_of_none e hD2)]
                exact sm _ _ e
              · rw [List.take_add_one, List.getElem?_map, eq, List.map_append]
                have okZ : ∀ r ∈ (qs.map (·.2)).take j, isRow ks (.tuple r) = true := fun r hr => by
                  obtain ⟨q', hq', rfl⟩ := List.mem_map.mp (List.mem_of_mem_take hr)
                  exact okq q' hq'
                exact dpApp (dpAll_upd hD _ (rowsL_noL okZ) dZ) (.cons (dp_upd hD _ (row_noL (okq q (List.mem_of_getElem? eq))) g2) .nil)
      rintro H15 ⟨s15, zs, hD15, dZ⟩
      have lrs2 : (qs.map (·.2)).length = rs.length := by rw [List.length_map, lqs]
      rw [lys, ← List.length_map (f := fun q : Pr => q.2), List.take_length] at dZ
      have sF := sE.trans s15
      have fF := fE.ext s15
      have okr2 : ∀ r ∈ qs.map (·.2), isRow ks (.tuple r) = true := fun r hr => by
        obtain ⟨q', hq', rfl⟩ := List.mem_map.mp hr
        exact okq q' hq'
      have hand2 : Handed K H15 vk (.ref O) (.ref D2) ks os (n : Nat) (qs.map (·.2)) := ⟨dp_same sF _ dk, dOr sF, .lst (SqL.of hD15) dZ, k1, k4, ok, by omega, by omega, by omega, by omega, fun r hr => ⟨okr2 r hr, row_fit k4 (okr2 r hr)⟩⟩
      refine ⟨_, rfl, _, rfl, _, rfl, _, rfl, vk, .ref O, .ref D2, ks, os, n, qs.map (·.2), rfl, hand2, t6.same sF, fun H16 p3 as3 runs3 s16 p30 np3 gp3 R3 T3 l3 => ?_⟩
      have sG := sF.trans s16
      refine ⟨p3, _, rfl, .inl (SqL.of gp3), ?_⟩
      refine ⟨_, rfl, Nat.zero_le _, fun e1 he1 => ?_⟩
      have sB : Same H16 (upd H16 e1 (.lst [])) := fun b o e => (upd_ne (ne_of_none e he1)).trans e
      refine ⟨rowsD rs, .list [], dRr (sG.trans sB), .lst (SqL.of upd_same) .nil, rowsL_shaped okr, rfl, .inr ⟨_, rfl, ?_⟩⟩
      refine ⟨rfl, _, rfl, ?_⟩
      have rise := rise_all ok okq srt
      have rl : runs3.length = if rs = [] then 0 else 1 := by
        have a1 := List.pairwise_append.mp (show ((enumP 0 (qs.map (·.2))).take n ++ (enumP 0 (qs.map (·.2))).drop n).Pairwise _ by rw [List.take_append_drop]; exact rise)
        rw [T3.risen a1.2.2 a1.2.1]
        have e1 : (enumP 0 (qs.map (·.2))).take n = [] ↔ rs = [] := by
          constructor
          · intro z
            have := congrArg List.length z
            rw [List.length_take, enumP_length, lrs2, List.length_nil] at this
            exact List.length_eq_zero_iff.mp (by omega)
          · intro z
            refine List.length_eq_zero_iff.mp ?_
            rw [List.length_take, enumP_length, lrs2, z]
            exact Nat.min_zero _
        by_cases z : rs = []
        · rw [if_pos z, if_pos (e1.mpr z)]
        · rw [if_neg z, if_neg (fun y => z (e1.mp y))]
      refine iteF' ?_ ?_
      · have e2 : PyData.eqv (rowsD rs) (.list []) = rs.isEmpty := by
          rw [show rowsD rs = .list (rs.map .tuple) from rfl, eqv_nil]
          cases rs <;> rfl
        rw [List.length_map, R3.len, rl, e2]
        cases rs <;> simp
      have sH := sG.trans sB
      have fH := (fF.ext s16).ext sB
      obtain ⟨HD, eHD⟩ : ∃ HD, HD = upd H16 e1 (.lst []) := ⟨_, rfl⟩
      have hDD := (s16.trans sB) _ _ hD15
      have dZD := dpAll_same (s16.trans sB) _ dZ
      rw [← eHD] at sH fH hDD dZD ⊢
      clear sB he1 eHD sG sF fF hand2 rl rise
      refine ⟨Nat.zero_le _, fun Fa hFa => ?_⟩
      have sI : Same HD (upd HD Fa (.lst [])) := fun b o e => (upd_ne (ne_of_none e hFa)).trans e
      refine ⟨_, rfl, D2, zs, rfl, SqL.of (sI _ _ hDD), fun Rv hRv => ?_⟩
      have nFR : Fa ≠ Rv := fun z => by rw [← z, upd_same] at hRv; cases hRv
      have hRv0 : HD Rv = none := upd_no hRv
      have lzs : zs.length = qs.length := by rw [dpLen dZD, List.length_map, List.length_map]
      refine ⟨Rv, rfl, ⟨_, SqL.of upd_same⟩, for_list (K := K) (a := Rv) (xs := zs.reverse) (fun j σ H' => ∃ (u11 u12 u13 u14 u15 u16 u17 : Option V) (ws : List V) (fq : List Pr), σ = [some (.ref a), some (.ref B), some (.int (0 + (i : Nat))), some vk, some (.ref O), some (.ref Rw), some (.int (n : Nat)), some (.ref p1), some (.ref p2), some (.ref D2), some (.ref Fa), u11, u12, u13, u14, u15, u16, u17] ∧
        Same HD H' ∧ H' Rv = some (.lst zs.reverse) ∧ H' Fa = some (.lst ws) ∧ DpAll K H' ws ((fq.map (·.2)).map .tuple) ∧ fq.length ≤ j ∧ (fq.map (·.2)).Pairwise (fun a b => ∀ i j, before os (j, b) (i, a) = true) ∧ ∀ q ∈ fq, ∃ k, k < j ∧ qs.reverse[k]? = some q)
        ⟨_, _, _, _, _, _, _, [], [], rfl, fun b o e => (upd_ne (ne_of_none e hRv0)).trans (sI _ _ e), upd_same, (upd_ne nFR).trans upd_same, .nil, Nat.zero_le _, .nil, (fun _ h => nomatch h)⟩ (fun j σ H' _ ⟨_, _, _, _, _, _, _, _, _, _, _, g, _⟩ => SqL.of g) ?_ ?_⟩
      · rintro j x σ H' hx ⟨u11, u12, u13, u14, u15, u16, u17, ws, fq, rfl, sm, gRv, gFa, dW, lfq, chain, mem⟩
        have hj : j < qs.length := by
          have := (List.getElem?_eq_some_iff.mp hx).1
          rw [List.length_reverse] at this
          omega
        obtain ⟨q, eq⟩ : ∃ q, qs.reverse[j]? = some q := ⟨_, List.getElem?_eq_getElem (by rw [List.length_reverse]; exact hj)⟩
        have qin : q ∈ qs := List.mem_reverse.mp (List.mem_of_getElem? eq)
        have hq := okq q qin
        have hdx : Dp K HD x (.tuple q.2) := by
          rw [List.getElem?_reverse (by omega)] at hx eq
          obtain ⟨d, ed, hd⟩ := dpGet dZD hx
          rw [List.getElem?_map, List.getElem?_map, lzs, eq] at ed
          cases ed
          exact hd
        have okF : ∀ p ∈ fq, isRow ks (.tuple p.2) = true := fun p hp => by
          obtain ⟨k', _, e⟩ := mem p hp
          exact okq p (List.mem_reverse.mp (List.mem_of_getElem? e))
        have okFr : ∀ r ∈ fq.map (·.2), isRow ks (.tuple r) = true := fun r hr => by
          obtain ⟨p, hp, rfl⟩ := List.mem_map.mp hr
          exact okF p hp
        have lws : ws.length = fq.length := by rw [dpLen dW, List.length_map, List.length_map]
        refine viaA (fun v H1 => Same H' H1 ∧ ∃ da, Dp K H1 v da ∧ SeqAt.shaped da = true ∧ ((fq = [] ∧ da = .tuple []) ∨ ∃ M a0, fq = M ++ [a0] ∧ da = .tuple a0.2)) (fun Q' next => ?_) (fun v H1 hN => ?_)
        · refine ⟨_, rfl, Nat.zero_le _, fun e1 he1 => ?_⟩
          have s1' : Same H' (upd H' e1 (.lst [])) := fun b o e => (upd_ne (ne_of_none e he1)).trans e
          refine ⟨.list ((fq.map fun q : Pr => q.2).map .tuple), .list [], .lst (SqL.of (s1' _ _ gFa)) (dpAll_same s1' _ dW), .lst (SqL.of upd_same) .nil, rowsL_shaped okFr, rfl, _, rfl, ?_⟩
          rw [eqv_nil]
          rcases List.eq_nil_or_concat fq with e | ⟨M, a0, e⟩
          · subst e
            refine iteF ⟨Nat.zero_le _, fun e2 he2 => next _ _ ⟨fun b o e => (upd_ne (ne_of_none (s1' _ _ e) he2)).trans (s1' _ _ e), .tuple [], .tup (SqT.of upd_same) .nil, rfl, .inl ⟨rfl, rfl⟩⟩⟩
          · rw [List.concat_eq_append] at e
            subst e
            have ne : ws ≠ [] := fun z => by rw [z] at lws; simp at lws
            obtain ⟨Mw, vw, rfl⟩ := SrtO.snoc_of (l := ws) (by cases ws <;> simp_all)
            have hvw : Dp K H' vw (.tuple a0.2) := by
              rw [List.length_append, List.length_append] at lws
              obtain ⟨d, ed, hd⟩ := dpGet dW (i := Mw.length) (v := vw) (by simp)
              have lM : Mw.length = M.length := by simpa using lws
              rw [List.map_append, List.map_append, lM] at ed
              simp at ed
              rw [ed]
              exact hd
            refine iteT' (by simp) ⟨_, rfl, _, rfl, Fa, _, -1, vw, rfl, rfl, SqL.of (s1' _ _ gFa), atI_last _ _, next _ _ ⟨s1', .tuple a0.2, dp_same s1' _ hvw, row_shaped (okF a0 (by simp)), .inr ⟨M, a0, rfl, rfl⟩⟩⟩
        · obtain ⟨sN, da, hda, sha, hcase⟩ := hN
          have smN := sm.trans sN
          have hxN := dp_same smN _ hdx
          obtain ⟨ax, xsx, rfl, hSx, hIx⟩ := dp_tupI hxN
          obtain ⟨av, xsv, rfl, hSv, hIv⟩ : ∃ a xs, v = .ref a ∧ SqT K H1 a xs ∧ ∀ M a0, fq = M ++ [a0] → DpAll K H1 xs a0.2 := by
            rcases hcase with ⟨e, rfl⟩ | ⟨M, a0, e, rfl⟩
            · obtain ⟨a, xs, h1, h2, _⟩ := dp_tupI hda
              exact ⟨a, xs, h1, h2, fun M a0 e' => by rw [e] at e'; simp at e'⟩
            · obtain ⟨a, xs, h1, h2, h3⟩ := dp_tupI hda
              refine ⟨a, xs, h1, h2, fun M' a0' e' => ?_⟩
              rw [e] at e'
              have := List.append_inj' e' rfl
              cases this.2
              exact h3
          refine ⟨_, rfl, O, rfl, ⟨_, SqL.of ((sH.trans smN) _ _ hO)⟩, fun D3 hD3 => ?_⟩
          refine lc_list (K := K) (a := O) (xs := xo) (fun c H2 => Same H1 H2 ∧ ∃ cs : List Int, H2 D3 = some (.lst (cs.map V.int)) ∧ cs.length ≤ c ∧ (cs = [] ↔ ∀ o ∈ os.take c, ∃ M a0, fq = M ++ [a0] ∧ q.2[o.1]? = a0.2[o.1]?))
            ⟨fun b o e => (upd_ne (ne_of_none e hD3)).trans e, [], upd_same, Nat.le_refl _, ⟨fun _ o h => by simp at h, fun _ => rfl⟩⟩ (fun c H2 _ h => SqL.of (h.1 _ _ ((sH.trans smN) _ _ hO))) ?_ ?_
          · rintro c y H2 hy ⟨s2, cs, hD, lcs, iff⟩
            obtain ⟨d, ed, hd⟩ := dpGet dO hy
            obtain ⟨⟨col, wb⟩, eo, rfl⟩ : ∃ o, os[c]? = some o ∧ d = partD o := by
              rw [List.getElem?_map] at ed
              cases z : os[c]? with
              | none => rw [z] at ed; cases ed
              | some b => rw [z] at ed; exact ⟨b, rfl, (Option.some.inj ed).symm⟩
            have hc : c < os.length := (List.getElem?_eq_some_iff.mp eo).1
            have hd := dp_same ((sH.trans smN).trans s2) _ hd
            have tk : os.take (c + 1) = os.take c ++ [(col, wb)] := by rw [List.take_add_one, eo]; rfl
            have put : ∀ H3, Same H2 H3 → (¬ ∃ M a0, fq = M ++ [a0] ∧ q.2[col]? = a0.2[col]?) → ∃ acc, H3 D3 = some (.lst acc) ∧ acc.length < sizeLine ∧ Same H1 (upd H3 D3 (.lst (acc ++ [V.int (col : Nat)]))) ∧ ∃ cs : List Int, upd H3 D3 (.lst (acc ++ [V.int (col : Nat)])) D3 = some (.lst (cs.map V.int)) ∧ cs.length ≤ c + 1 ∧ (cs = [] ↔ ∀ o ∈ os.take (c + 1), ∃ M a0, fq = M ++ [a0] ∧ q.2[o.1]? = a0.2[o.1]?) := fun H3 s3 hno => by
              refine ⟨_, s3 _ _ hD, small1000 (by rw [List.length_map]; omega), fun b o e => (upd_ne (ne_of_none e hD3)).trans (s3 _ _ (s2 _ _ e)), cs ++ [(col : Int)], by rw [upd_same, List.map_append]; rfl, by rw [List.length_append, List.length_singleton]; omega, ⟨fun z => by simp at z, fun z => ?_⟩⟩
              exact absurd (z (col, wb) (by rw [tk]; simp)) hno
            obtain ⟨ap, xp, rfl, hSp, hIp⟩ := dp_tupI hd
            cases hIp with
            | cons g1 hIp =>
              cases hIp with
              | cons g2 hIp =>
                cases hIp
                cases g1
                cases g2
                refine ⟨ap, _, rfl, hSp, rfl, _, _, rfl, _, _, rfl, rfl, rfl, ?_⟩
                refine ⟨_, rfl, Nat.zero_le _, fun e3 he3 => ?_⟩
                have s3 : Same H2 (upd H2 e3 (.tup [])) := fun b o e => (upd_ne (ne_of_none e he3)).trans e
                have s13 := s2.trans s3
                refine ⟨da, .tuple [], dp_same s13 _ hda, .tup (SqT.of upd_same) .nil, sha, rfl, _, rfl, ?_⟩
                rcases hcase with ⟨e, rfl⟩ | ⟨M, a0, e, rfl⟩
                · refine iteT' (by simp [PyData.eqv, PyData.eqvAll]) (iteT ⟨_, rfl, ?_⟩)
                  exact put _ s3 fun ⟨M, a0, e', _⟩ => by rw [e] at e'; simp at e'
                · have ha0 := okF a0 (by rw [e]; simp)
                  have na0 : a0.2 ≠ [] := fun z => by
                    have := (isRow_get.mp ha0).1
                    rw [z, List.length_nil] at this
                    omega
                  refine iteF' (by cases h : a0.2 with | nil => exact absurd h na0 | cons _ _ => simp [PyData.eqv, PyData.eqvAll]) ?_
                  obtain ⟨kb, m, t, hm, ht', vm, vt⟩ := alike_rows ok hq ha0 (col, wb) (List.mem_of_getElem? eo)
                  obtain ⟨w1, ew1, hw1⟩ := dpGet' hIx hm
                  obtain ⟨w2, ew2, hw2⟩ := dpGet' (hIv M a0 e) ht'
                  refine ⟨_, rfl, _, rfl, ax, xsx, _, w1, rfl, rfl, sqT_same s13 hSx, atI_nat ew1, _, rfl, _, rfl, av, xsv, _, w2, rfl, rfl, sqT_same s13 hSv, atI_nat ew2, ?_⟩
                  refine ⟨m, t, dp_same s13 _ hw1, dp_same s13 _ hw2, val_shaped vm, val_shaped vt, _, rfl, ?_⟩
                  by_cases emt : m = t
                  · subst emt
                    refine iteF' (by rw [eqv_vself vm]; rfl) ⟨s13, cs, s3 _ _ hD, by omega, ?_⟩
                    rw [iff, tk]
                    constructor
                    · intro z o ho
                      rcases List.mem_append.mp ho with ho | ho
                      · exact z o ho
                      · rw [List.mem_singleton.mp ho]
                        exact ⟨M, a0, e, hm.trans ht'.symm⟩
                    · exact fun z o ho => z o (List.mem_append_left _ ho)
                  · refine iteT' (by rw [eqv_ne vm vt emt]; rfl) ⟨_, rfl, ?_⟩
                    refine put _ s3 fun ⟨M', a0', e', z⟩ => ?_
                    rw [e] at e'
                    have := (List.append_inj' e' rfl).2
                    cases this
                    have z : q.2[col]? = a0.2[col]? := z
                    have hm : q.2[col]? = some m := hm
                    have ht' : a0.2[col]? = some t := ht'
                    rw [hm, ht'] at z
                    exact emt (Option.some.inj z)
          · rintro H3 ⟨s3, cs, hD, lcs, iff⟩
            have lxo : xo.length = os.length := by rw [dpLen dO, List.length_map]
            rw [lxo, List.take_length] at iff
            have smN3 := smN.trans s3
            refine ⟨_, rfl, Nat.zero_le _, fun e4 he4 => ?_⟩
            have s4 : Same H3 (upd H3 e4 (.lst [])) := fun b o e => (upd_ne (ne_of_none e he4)).trans e
            refine ⟨.list (cs.map .int), .list [], .lst (SqL.of (s4 _ _ hD)) (dpAll_by (by rw [List.length_map, List.length_map]) fun k' v' d' e1 e2 => ?_), .lst (SqL.of upd_same) .nil, shaped_ints cs, rfl, _, rfl, ?_⟩
            · rw [List.getElem?_map] at e1 e2
              cases z : cs[k']? with
              | none => rw [z] at e1; cases e1
              | some n' => rw [z] at e1 e2; cases e1; cases e2; exact .int n'
            rw [eqv_nil]
            have s14 := (sN.trans s3).trans s4
            have gFa4 := s14 _ _ gFa
            by_cases ecs : cs = []
            · subst ecs
              refine iteF' (by simp) ?_
              refine ⟨_, _, _, _, _, _, _, ws, fq, rfl, smN3.trans s4, s14 _ _ gRv, gFa4, dpAll_same s14 _ dW, by omega, chain, fun p hp => ?_⟩
              obtain ⟨k', h1, h2⟩ := mem p hp
              exact ⟨k', by omega, h2⟩
            · refine iteT' (by cases cs <;> simp_all) ?_
              refine ⟨_, rfl, .inl ⟨rfl, _, SqL.of gFa4⟩, _, rfl, Fa, _, _, rfl, rfl, gFa4, small1000 (by omega), ?_⟩
              have pwr : qs.reverse.Pairwise fun a b => before os a b = false := List.pairwise_reverse.mpr srt
              have hxN4 := dp_same (s3.trans s4) _ hxN
              refine ⟨_, _, _, _, _, _, _, ws ++ [.ref ax], fq ++ [q], rfl, fun b o e => ?_, (upd_ne (Ne.symm nFR)).trans (s14 _ _ gRv), upd_same, ?_, by rw [List.length_append, List.length_singleton]; omega, ?_, fun p hp => ?_⟩
              · rw [upd_ne (ne_of_none e hFa)]
                exact (smN3.trans s4) _ _ e
              · rw [List.map_append, List.map_append]
                exact dpApp (dpAll_upd gFa4 _ (rowsL_noL okFr) (dpAll_same s14 _ dW)) (.cons (dp_upd gFa4 _ (row_noL hq) hxN4) .nil)
              · rw [List.map_append]
                rcases hcase with ⟨e, rfl⟩ | ⟨M, a0, e, rfl⟩
                · rw [e]
                  exact List.pairwise_singleton _ _
                · have unl : ∃ o ∈ os, q.2[o.1]? ≠ a0.2[o.1]? := Classical.byContradiction fun no => ecs (iff.mpr fun o ho => ⟨M, a0, e, Classical.byContradiction fun z => no ⟨o, ho, z⟩⟩)
                  obtain ⟨k', hk, ek⟩ := mem a0 (by rw [e]; simp)
                  have hb : before os a0 q = false := by
                    obtain ⟨h1, e1⟩ := List.getElem?_eq_some_iff.mp ek
                    obtain ⟨h2, e2⟩ := List.getElem?_eq_some_iff.mp eq
                    have := List.pairwise_iff_getElem.mp pwr k' j h1 h2 hk
                    rw [e1, e2] at this
                    exact this
                  rw [e, List.map_append] at chain ⊢
                  exact fall_snoc chain fun i j => before_fall (alike_rows ok hq (okF a0 (by rw [e]; simp))) hb unl
              · rcases List.mem_append.mp hp with hp | hp
                · obtain ⟨k', h1, h2⟩ := mem p hp
                  exact ⟨k', by omega, h2⟩
                · rw [List.mem_singleton.mp hp]
                  exact ⟨j, Nat.lt_succ_self j, eq⟩
      · rintro σ H17 ⟨u11, u12, u13, u14, u15, u16, u17, ws, fq, rfl, s17, gRv, gFa, dW, lfq, chain, mem⟩
        rw [List.length_reverse, lzs] at lfq mem
        have okF : ∀ p ∈ fq, isRow ks (.tuple p.2) = true := fun p hp => by
          obtain ⟨k', _, e⟩ := mem p hp
          exact okq p (List.mem_reverse.mp (List.mem_of_getElem? e))
        have okFr : ∀ r ∈ fq.map (fun q : Pr => q.2), isRow ks (.tuple r) = true := fun r hr => by
          obtain ⟨p, hp, rfl⟩ := List.mem_map.mp hr
          exact okF p hp
        have lfr : (fq.map (fun q : Pr => q.2)).length ≤ 120 := by rw [List.length_map]; omega
        have sJ := sH.trans s17
        have fJ : LamX.TabS H17 pF qF := fH.ext s17
        have hand3 : Handed K H17 vk (.ref O) (.ref Fa) ks os (n : Nat) (fq.map (fun q : Pr => q.2)) := ⟨dp_same sJ _ dk, dOr sJ, .lst (SqL.of gFa) dW, k1, k4, ok, by omega, by omega, by omega, lfr, fun r hr => ⟨okFr r hr, row_fit k4 (okFr r hr)⟩⟩
        refine ⟨_, rfl, _, rfl, _, rfl, _, rfl, vk, .ref O, .ref Fa, ks, os, n, fq.map (fun q : Pr => q.2), rfl, hand3, t6.same sJ, fun H18 p4 as4 runs4 s18 p40 np4 gp4 R4 T4 l4 => ?_⟩
        refine ⟨_, rfl, _, rfl, p4, _, rfl, SqL.of gp4, fun pS hpS => ?_⟩
        rw [cutV_last]
        have sS1 : Same H18 (upd H18 pS (.lst (as4.map V.ref).dropLast)) := fun b o e => (upd_ne (ne_of_none e hpS)).trans e
        refine ⟨pS, rfl, ⟨_, SqL.of upd_same⟩, fun D1 hD1 => ?_⟩
        have fl := fall_all chain
        have fallen := T4.fallen (n := n) (fun z => by
          have : n < (enumP 0 (fq.map (fun q : Pr => q.2))).length := by
            by_cases q : n < (enumP 0 (fq.map (fun q : Pr => q.2))).length
            · exact q
            · exact absurd (List.drop_of_length_le (by omega)) z
          rw [List.length_take]
          omega) (List.pairwise_append.mp (show ((enumP 0 (fq.map (fun q : Pr => q.2))).take n ++ (enumP 0 (fq.map (fun q : Pr => q.2))).drop n).Pairwise (fun a b => before os b a = true) by rw [List.take_append_drop]; exact fl)).2.2 (List.pairwise_append.mp (show ((enumP 0 (fq.map (fun q : Pr => q.2))).take n ++ (enumP 0 (fq.map (fun q : Pr => q.2))).drop n).Pairwise (fun a b => before os b a = true) by rw [List.take_append_drop]; exact fl)).2.1
        refine lc_list (K := K) (a := pS) (xs := (as4.map V.ref).dropLast) (fun j H' => Same (upd H18 pS (.lst (as4.map V.ref).dropLast)) H' ∧ H' D1 = some (.lst [])) ⟨fun b o e => (upd_ne (ne_of_none e hD1)).trans e, upd_same⟩ (fun j H' _ h => h.1.seq (SqL.of upd_same)) ?_ ?_
        · rintro j x H' hx ⟨sm, hD⟩
          obtain ⟨aj, r, y, rfl, hr, hy, ly⟩ := few_at (R4.same (sS1.trans sm)) j x hx
          have lr := fallen r hr
          refine ⟨rfl, _, rfl, aj, y, rfl, .inl (SqL.of hy), _, rfl, rfl, _, rfl, ?_⟩
          exact iteF' (by simp [ly, lr]) ⟨sm, hD⟩
        rintro H19 ⟨sm19, hD19⟩
        refine ⟨Nat.zero_le _, fun e1 he1 => ?_⟩
        have sB : Same H19 (upd H19 e1 (.lst [])) := fun b o e => (upd_ne (ne_of_none e he1)).trans e
        refine ⟨.list [], .list [], .lst (SqL.of (sB _ _ hD19)) .nil, .lst (SqL.of upd_same) .nil, rfl, rfl, _, rfl, ?_⟩
        rw [eqv_nil]
        refine iteF ?_
        have sEnd := s18.trans ((sS1.trans sm19).trans sB)
        exact ⟨_, _, _, _, _, _, _, _, _, _, _, _, _, _, _, _, rfl, b6.same (sJ.trans sEnd), t6.same (sJ.trans sEnd), fJ.ext sEnd⟩
    · rintro σ H2 ⟨v2, v3, v4, v5, v6, v7, v8, v9, v10, v11, v12, v13, v14, v15, v16, v17, rfl, b2, t2, f2⟩
      exact k H2 t2
end
end RS
set_option Elab.async false
set_option maxRecDepth 100000
set_option maxHeartbeats 4000000
namespace RS
open PySem PySem.Spec PyProof.Rows L2 GX
/-! ### tables that are empty at the entry, as tables of any size -/
def extOf (T : List Addr) (H : Hp) : Hp := fun b => if b ∈ T then some (.ext (TabE b)) else H b
def tabAt (h : Heap) (b : Addr) : Array Value := match h.get? b with
  | some o => (match o.data with
    | .fields rs => rs
    | _ => #[])
  | none => #[]
def tblOf (T : List Addr) (h : Heap) (H : Hp) : Hp := fun b => if b ∈ T then some (.tbl (tabAt h b)) else H b
/-- a promise that speaks of tables of any size, asked where they are empty -/
def spT (T : List Addr) (sp : Sp) : Sp := fun vs H Q E => (∀ b ∈ T, H b = some (.tbl #[])) ∧ sp vs (extOf T H) (fun v H' => (∀ b ∈ T, Tab H' b) ∧ ∀ H2, Q v H2) E
theorem ext_in {T : List Addr} {H : Hp} {b : Addr} (h : b ∈ T) : extOf T H b = some (.ext (TabE b)) := if_pos h
theorem ext_out {T : List Addr} {H : Hp} {b : Addr} (h : b ∉ T) : extOf T H b = H b := if_neg h
theorem tbl_in {T : List Addr} {g : Heap} {H : Hp} {b : Addr} (h : b ∈ T) : tblOf T g H b = some (.tbl (tabAt g b)) := if_pos h
theorem tbl_out {T : List Addr} {g : Heap} {H : Hp} {b : Addr} (h : b ∉ T) : tblOf T g H b = H b := if_neg h
theorem FnOk.tables {P : Program} {w : World} {K : PySem.W.Frag} {mg : Str → Option Value} {base : Heap} {k : Nat} {f : Addr} {fd : FuncData} {ps : List Str} {sp : Sp} {T : List Addr} (F : FnOk P w K mg base CX0 k f fd ps sp) : FnOk P w K mg base CX0 k f fd ps (spT T sp) := by
  refine ⟨fun vs H Q E h => F.len _ _ _ _ h.2, fun A outer s H args us vs Q E hr e0 hb hv ⟨hT, hs⟩ => ?_⟩
  have nT : ∀ b, H b = none → b ∉ T := fun b e hb => by
    rw [hT b hb] at e
    cases e
  have nT2 : ∀ b o, H b = some o → (∀ ps, o ≠ .tbl ps) → b ∉ T := fun b o e n hb => by
    rw [hT b hb] at e
    exact n #[] (Option.some.inj e).symm
  have e2 : Env0 P w K mg base A outer s (extOf T H) := by
    refine ⟨e0.frames, e0.mod, fun b o e => ⟨(e0.bs b o e).1, by rw [ext_out (nT b (e0.bs b o e).2)]; exact (e0.bs b o e).2⟩, e0.bsz, e0.funs, fun b hb => by rw [ext_out (nT b (e0.frf b hb))]; exact e0.frf b hb, fun b o e => ?_, e0.bare⟩
    by_cases hb : b ∈ T
    · rw [ext_in hb] at e
      cases e
      have q := e0.hok b _ (hT b hb)
      exact ⟨⟨#[], q, trivial⟩, ⟨_, q⟩, tabE_stable⟩
    · rw [ext_out hb] at e
      refine (e0.hok b o e).stay (fun c u _ q => q) (fun c q => ?_) (fun c xs q => ?_)
      · rw [ext_out (nT2 c _ q (fun ps z => by cases z))]
        exact q
      · rw [ext_out (nT2 c _ q (fun ps z => by cases z))]
        exact q
  refine codeAny_mono (F.run A outer s (extOf T H) args us vs _ E hr e2 hb hv hs) fun r s' hq => ?_
  cases r with
  | error e => exact hq
  | ok fl =>
    cases fl with
    | next => exact hq
    | brk => exact hq
    | cont => exact hq
    | ret u =>
      obtain ⟨v, H', os, bare, un, hok', r', hT', q⟩ := hq
      refine ⟨v, tblOf T s'.heap H', os, bare, ⟨fun b o e n => un.keep b o e (by rw [ext_out (nT b n)]; exact n), fun b o e n => un.slot b o e (by rw [ext_out (nT b n)]; exact n), fun b o e n hx => ?_, un.there, fun b xs e => ?_, fun b o u e => ?_, fun b ps e => ?_⟩, fun b o e => ?_, r', q _⟩
      · rw [tbl_out (nT b n)]
        exact un.free b o e (by rw [ext_out (nT b n)]; exact n) hx
      · have hb := nT2 b _ e (fun ps z => by cases z)
        rw [tbl_out hb]
        exact un.tups b xs (by rw [ext_out hb]; exact e)
      · have hb := nT2 b _ e (fun ps z => by cases z)
        rw [tbl_out hb]
        exact un.frzs b o u (by rw [ext_out hb]; exact e)
      · by_cases hb : b ∈ T
        · rw [hT b hb] at e
          cases e
          exact ⟨tabAt s'.heap b, by rw [tbl_in hb, Array.empty_append]⟩
        · rw [tbl_out hb]
          exact un.tbls b ps (by rw [ext_out hb]; exact e)
      · have inT : ∀ c, c ∈ T → ∃ rs : Array Value, s'.heap.get? c = some { cls := .none, data := .fields rs } := fun c hc => by
          obtain ⟨⟨rs, h1, _⟩, _⟩ := hok' c _ (hT' c hc)
          exact ⟨rs, h1⟩
        by_cases hb : b ∈ T
        · rw [tbl_in hb] at e
          cases e
          obtain ⟨rs, h1⟩ := inT b hb
          have e2 : tabAt s'.heap b = rs := by
            unfold tabAt
            rw [h1]
          show s'.heap.get? b = some { cls := .none, data := .fields (tabAt s'.heap b) }
          rw [e2]
          exact h1
        · rw [tbl_out hb] at e
          have nT3 : ∀ c o, H' c = some o → (∀ φ, o ≠ .ext φ) → c ∉ T := fun c o e n hc => by
            have z : H' c = some (.ext (TabE c)) := hT' c hc
            rw [e] at z
            exact n _ (Option.some.inj z)
          refine (hok' b o e).stay (fun c u _ q => q) (fun c q => ?_) (fun c xs q => ?_)
          · rw [tbl_out (nT3 c _ q (fun φ z => by cases z))]
            exact q
          · rw [tbl_out (nT3 c _ q (fun φ z => by cases z))]
            exact q
end RS
set_option Elab.async false
set_option maxRecDepth 100000
set_option maxHeartbeats 4000000
namespace RS
open PySem PySem.Spec PyProof.Rows L2 GX
/-- the end: the tables of the defs are empty at the law's entry -/
theorem walk_tabs {l : PySem.W.OpenLaw} {n k : Nat} {q : Program} {loose : List Str} {XP : (Str → Option Value) → Heap → Prop} {YP : World → Heap → Prop} {d : DefRec} {K : Params → PySem.W.Frag} {x : Str}
    (hn : l.most = some n) (hn2 : n ≤ sizeLine) (hdf : d.params.defaults = []) (hr : Room k callerA) (hY : ∀ (w : World) (h : Heap), YP w h → (K w.params).In h)
    (F : ∀ (w : World) (mg : Str → Option Value) (fa : Addr) (h : Heap), (K w.params).In h → h.Ns mainGlobals mg → mg d.name = some (.ref fa) →
      (∀ (y : Str) (d' : DefRec) (c P : Addr), (recsOf q).find? (fun e => e.name == y) = some d' → PySem.W.tabIn (K w.params) y = some (c, P) → PySem.W.CodeHd h c P ∧ h.get? P = some { cls := .none, data := .fields #[] }) →
      LamX.LawAtS l w (K w.params) CX0 k n x mg fa h) :
    PySem.W.WalkO q loose XP YP l.row.toRowW d [] (fun f vs => PySem.call f vs) := by
  refine Att.attach_callB hn hdf fun w s₀ s₁ mg mb fa o pm cd doc a vs ns G Y ho hd hcd hmg hobj hints hlen hbits hg => ?_
  have KX := hY w _ Y
  obtain ⟨fd, cs, sp, hT, nT, C, hb, hsp, hF⟩ := F w mg fa _ KX G.T.g hmg fun y d' c P e1 e2 => PySem.W.tab_of G.T KX e1 e2
  exact LamX.law_callTs KX G.T.g G.T.b G.T.builtins G.T.nolimit hg hT nT C G.T.bmain hobj hints (Nat.le_trans hlen hn2) hr hF hb (fun H hH hS => hsp H a ns hlen hbits hH hS) fun H e s' z => z
end RS
set_option Elab.async false
set_option maxRecDepth 100000
set_option maxHeartbeats 8000000
namespace RS
open PySem PySem.Spec PyProof.Rows L2 GX
theorem def_at {K : PySem.W.Frag} {h : Heap} {mg : Str → Option Value} {x : Str} {st : Stmt} {f c : Addr} {oc kV doc pm ct : Value} {od an : Option Addr} {osl : Array (Option Value)} (X : K.In h) (G : h.Ns mainGlobals mg) (a : PySem.W.nsIn K mainGlobals x = some (some (.ref f)))
    (l : K.lookup f = some ⟨oc, od, .func (PySem.W.fnOf x x (defArgs st) (defBody st) (defScope st) .none kV doc pm an (.ref c) ct), osl⟩) (e : PySem.W.codeIn K (.ref c) x = true) (k : PySem.W.keepIn K (.ref f) = true) : DefAt K mg x st c :=
  ⟨f, oc, od, kV, doc, pm, an, ct, osl, PySem.W.mg_of X G a, l, e, k⟩
theorem two_in {K : PySem.W.Frag} {a : Addr} {x y : Str} {t u : Tok} {od : Option Addr} {n : Nat} {sl : Array (Option Value)} (h : K.lookup a = some ⟨.type "tuple", od, .seq #[.str x t, .str y u] n, sl⟩) : ∀ H, SqT K H a [.str x, .str y] :=
  fun _ => .inr ⟨_, #[.str x t, .str y u], n, h, rfl, rfl, by show 2 ≤ sizeLine; decide, .cons ⟨t, rfl⟩ (.cons ⟨u, rfl⟩ .nil)⟩
theorem tabB_of {base : Heap} {mg : Str → Option Value} {c P : Addr} (h : LamX.TabB base mg c P) : GxR.TabB base mg c P := ⟨h.code, h.bm, h.gP⟩
theorem tab_in {K : PySem.W.Frag} {x : Str} {st : Stmt} {f c P : Addr} {oc kV doc pm ct e : Value} {od an dd : Option Addr} {osl sl : Array (Option Value)} {vs : Array Value} (a : PySem.W.nsIn K mainGlobals x = some (some (.ref f)))
    (l : K.lookup f = some ⟨oc, od, .func (PySem.W.fnOf x x (defArgs st) (defBody st) (defScope st) .none kV doc pm an (.ref c) ct), osl⟩) (h1 : K.lookup c = some ⟨e, dd, .fields vs, sl⟩) (h2 : vs[11]? = some (.ref P)) : PySem.W.tabIn K x = some (c, P) := by
  unfold PySem.W.tabIn
  rw [a]
  dsimp only
  rw [l]
  show (match K.lookup c with
    | some ⟨_, _, .fields vs, _⟩ => (match (vs[11]? : Option Value) with
      | some (.ref P) => some (c, P)
      | _ => none)
    | _ => none) = some (c, P)
  rw [h1]
  dsimp only
  rw [h2]
theorem all_mk {l : PySem.W.OpenLaw} {w : World} {K : PySem.W.Frag} {h : Heap} {mg : Str → Option Value} {fa pW pR pK pF aK aW : Addr} {q : Program} {dW dR dK dF : DefRec} {eW eR eK eF : Value} {ddW ddR ddK ddF : Option Addr} {vsW vsR vsK vsF : Array Value} {stW stR stK stF : Array (Option Value)} (tabs : ∀ (y : Str) (d' : DefRec) (c P : Addr), (recsOf q).find? (fun e => e.name == y) = some d' → PySem.W.tabIn K y = some (c, P) → PySem.W.CodeHd h c P ∧ h.get? P = some { cls := .none, data := .fields #[] }) (X : K.In h) (G : h.Ns mainGlobals mg) (hfa : mg "law" = some (.ref fa))
    {f0 c0 : Addr} {oc0 kV0 dc0 pm0 ct0 : Value} {od0 an0 : Option Addr} {sl0 : Array (Option Value)}
    {f1 c1 : Addr} {oc1 kV1 dc1 pm1 ct1 : Value} {od1 an1 : Option Addr} {sl1 : Array (Option Value)}
    {f2 c2 : Addr} {oc2 kV2 dc2 pm2 ct2 : Value} {od2 an2 : Option Addr} {sl2 : Array (Option Value)}
    {f3 c3 : Addr} {oc3 kV3 dc3 pm3 ct3 : Value} {od3 an3 : Option Addr} {sl3 : Array (Option Value)}
    {f4 c4 : Addr} {oc4 kV4 dc4 pm4 ct4 : Value} {od4 an4 : Option Addr} {sl4 : Array (Option Value)}
    {f5 c5 : Addr} {oc5 kV5 dc5 pm5 ct5 : Value} {od5 an5 : Option Addr} {sl5 : Array (Option Value)}
    {f6 c6 : Addr} {oc6 kV6 dc6 pm6 ct6 : Value} {od6 an6 : Option Addr} {sl6 : Array (Option Value)}
    {f7 c7 : Addr} {oc7 kV7 dc7 pm7 ct7 : Value} {od7 an7 : Option Addr} {sl7 : Array (Option Value)}
    {f8 c8 : Addr} {oc8 kV8 dc8 pm8 ct8 : Value} {od8 an8 : Option Addr} {sl8 : Array (Option Value)}
    {f9 c9 : Addr} {oc9 kV9 dc9 pm9 ct9 : Value} {od9 an9 : Option Addr} {sl9 : Array (Option Value)}
    {f10 c10 : Addr} {oc10 kV10 dc10 pm10 ct10 : Value} {od10 an10 : Option Addr} {sl10 : Array (Option Value)}
    {f11 c11 : Addr} {oc11 kV11 dc11 pm11 ct11 : Value} {od11 an11 : Option Addr} {sl11 : Array (Option Value)}
    {f12 c12 : Addr} {oc12 kV12 dc12 pm12 ct12 : Value} {od12 an12 : Option Addr} {sl12 : Array (Option Value)}
    {f13 c13 : Addr} {oc13 kV13 dc13 pm13 ct13 : Value} {od13 an13 : Option Addr} {sl13 : Array (Option Value)}
    {f14 c14 : Addr} {oc14 kV14 dc14 pm14 ct14 : Value} {od14 an14 : Option Addr} {sl14 : Array (Option Value)}
    {f15 c15 : Addr} {oc15 kV15 dc15 pm15 ct15 : Value} {od15 an15 : Option Addr} {sl15 : Array (Option Value)}
    {f16 c16 : Addr} {oc16 kV16 dc16 pm16 ct16 : Value} {od16 an16 : Option Addr} {sl16 : Array (Option Value)}
    {f17 c17 : Addr} {oc17 kV17 dc17 pm17 ct17 : Value} {od17 an17 : Option Addr} {sl17 : Array (Option Value)}
    {f18 c18 : Addr} {oc18 kV18 dc18 pm18 ct18 : Value} {od18 an18 : Option Addr} {sl18 : Array (Option Value)}
    {f19 c19 : Addr} {oc19 kV19 dc19 pm19 ct19 : Value} {od19 an19 : Option Addr} {sl19 : Array (Option Value)}
    {f20 c20 : Addr} {oc20 kV20 dc20 pm20 ct20 : Value} {od20 an20 : Option Addr} {sl20 : Array (Option Value)}
    {f21 c21 : Addr} {oc21 kV21 dc21 pm21 ct21 : Value} {od21 an21 : Option Addr} {sl21 : Array (Option Value)}
    {f22 c22 : Addr} {oc22 kV22 dc22 pm22 ct22 : Value} {od22 an22 : Option Addr} {sl22 : Array (Option Value)}
    {f23 c23 : Addr} {oc23 kV23 dc23 pm23 ct23 : Value} {od23 an23 : Option Addr} {sl23 : Array (Option Value)}
    {f24 c24 : Addr} {oc24 kV24 dc24 pm24 ct24 : Value} {od24 an24 : Option Addr} {sl24 : Array (Option Value)}
    {t1 t2 t3 t4 t5 u1 u2 u3 u4 : Tok} {odK odW : Option Addr} {nK nW : Nat} {slK slW : Array (Option Value)}
    {CX : Addr}
    {mf0 : Addr} {moc0 mkV0 mdc0 mpm0 mct0 mcd0 : Value} {mod0 man0 : Option Addr} {msl0 : Array (Option Value)}
    {mf1 : Addr} {moc1 mkV1 mdc1 mpm1 mct1 mcd1 : Value} {mod1 man1 : Option Addr} {msl1 : Array (Option Value)}
    {mf2 : Addr} {moc2 mkV2 mdc2 mpm2 mct2 mcd2 : Value} {mod2 man2 : Option Addr} {msl2 : Array (Option Value)}
    {mf3 : Addr} {moc3 mkV3 mdc3 mpm3 mct3 mcd3 : Value} {mod3 man3 : Option Addr} {msl3 : Array (Option Value)}
    {mf4 : Addr} {moc4 mkV4 mdc4 mpm4 mct4 mcd4 : Value} {mod4 man4 : Option Addr} {msl4 : Array (Option Value)}
    {mf5 : Addr} {moc5 mkV5 mdc5 mpm5 mct5 mcd5 : Value} {mod5 man5 : Option Addr} {msl5 : Array (Option Value)}
    (xC : PySem.W.nsIn K mainGlobals "Exchange" = some (some (.ref CX))) (xpg : PySem.W.plainGet K CX Str.empty = true) (xhd : PySem.W.hasDictIn K CX = true) (xpo : PySem.W.plainOver K CX = true) (xsa : PySem.W.findIn K (.ref CX) "__setattr__" = some (some (.builtin "object.__setattr__"))) (xmk : PySem.W.makesIn K CX = true) (xkc : PySem.W.keepIn K (.ref CX) = true)
    (xnO : PySem.W.findIn K (.ref CX) "order" = some none) (xnG : PySem.W.findIn K (.ref CX) "going" = some none) (xnW : PySem.W.findIn K (.ref CX) "waiting" = some none) (xnL : PySem.W.findIn K (.ref CX) "last" = some none)
    (ma0 : PySem.W.findIn K (.ref CX) "__init__" = some (some (.ref mf0))) (mi0 : PySem.W.isFn K (.ref mf0) = true) (ml0 : K.lookup mf0 = some ⟨moc0, mod0, .func (PySem.W.fnOf "__init__" "Exchange.__init__" (defArgs sXInit) (defBody sXInit) (defScope sXInit) .none mkV0 mdc0 mpm0 man0 mcd0 mct0), msl0⟩) (mc0 : PySem.W.codeIn K mcd0 "Exchange.__init__" = true) (mk0 : PySem.W.keepIn K (.ref mf0) = true)
    (ma1 : PySem.W.findIn K (.ref CX) "let_in" = some (some (.ref mf1))) (mi1 : PySem.W.isFn K (.ref mf1) = true) (ml1 : K.lookup mf1 = some ⟨moc1, mod1, .func (PySem.W.fnOf "let_in" "Exchange.let_in" (defArgs sLetIn) (defBody sLetIn) (defScope sLetIn) .none mkV1 mdc1 mpm1 man1 mcd1 mct1), msl1⟩) (mc1 : PySem.W.codeIn K mcd1 "Exchange.let_in" = true) (mk1 : PySem.W.keepIn K (.ref mf1) = true)
    (ma2 : PySem.W.findIn K (.ref CX) "let_out" = some (some (.ref mf2))) (mi2 : PySem.W.isFn K (.ref mf2) = true) (ml2 : K.lookup mf2 = some ⟨moc2, mod2, .func (PySem.W.fnOf "let_out" "Exchange.let_out" (defArgs sLetOut) (defBody sLetOut) (defScope sLetOut) .none mkV2 mdc2 mpm2 man2 mcd2 mct2), msl2⟩) (mc2 : PySem.W.codeIn K mcd2 "Exchange.let_out" = true) (mk2 : PySem.W.keepIn K (.ref mf2) = true)
    (ma3 : PySem.W.findIn K (.ref CX) "is_over" = some (some (.ref mf3))) (mi3 : PySem.W.isFn K (.ref mf3) = true) (ml3 : K.lookup mf3 = some ⟨moc3, mod3, .func (PySem.W.fnOf "is_over" "Exchange.is_over" (defArgs sIsOver) (defBody sIsOver) (defScope sIsOver) .none mkV3 mdc3 mpm3 man3 mcd3 mct3), msl3⟩) (mc3 : PySem.W.codeIn K mcd3 "Exchange.is_over" = true) (mk3 : PySem.W.keepIn K (.ref mf3) = true)
    (ma4 : PySem.W.findIn K (.ref CX) "holds" = some (some (.ref mf4))) (mi4 : PySem.W.isFn K (.ref mf4) = true) (ml4 : K.lookup mf4 = some ⟨moc4, mod4, .func (PySem.W.fnOf "holds" "Exchange.holds" (defArgs sHolds) (defBody sHolds) (defScope sHolds) .none mkV4 mdc4 mpm4 man4 mcd4 mct4), msl4⟩) (mc4 : PySem.W.codeIn K mcd4 "Exchange.holds" = true) (mk4 : PySem.W.keepIn K (.ref mf4) = true)
    (ma5 : PySem.W.findIn K (.ref CX) "begin_next" = some (some (.ref mf5))) (mi5 : PySem.W.isFn K (.ref mf5) = true) (ml5 : K.lookup mf5 = some ⟨moc5, mod5, .func (PySem.W.fnOf "begin_next" "Exchange.begin_next" (defArgs sNext) (defBody sNext) (defScope sNext) .none mkV5 mdc5 mpm5 man5 mcd5 mct5), msl5⟩) (mc5 : PySem.W.codeIn K mcd5 "Exchange.begin_next" = true) (mk5 : PySem.W.keepIn K (.ref mf5) = true)
    (a0 : PySem.W.nsIn K mainGlobals "is_number" = some (some (.ref f0))) (l0 : K.lookup f0 = some ⟨oc0, od0, .func (PySem.W.fnOf "is_number" "is_number" (defArgs sIsNumber) (defBody sIsNumber) (defScope sIsNumber) .none kV0 dc0 pm0 an0 (.ref c0) ct0), sl0⟩) (e0 : PySem.W.codeIn K (.ref c0) "is_number" = true) (k0 : PySem.W.keepIn K (.ref f0) = true)
    (a1 : PySem.W.nsIn K mainGlobals "is_word" = some (some (.ref f1))) (l1 : K.lookup f1 = some ⟨oc1, od1, .func (PySem.W.fnOf "is_word" "is_word" (defArgs sIsWord) (defBody sIsWord) (defScope sIsWord) .none kV1 dc1 pm1 an1 (.ref c1) ct1), sl1⟩) (e1 : PySem.W.codeIn K (.ref c1) "is_word" = true) (k1 : PySem.W.keepIn K (.ref f1) = true)
    (a2 : PySem.W.nsIn K mainGlobals "is_value" = some (some (.ref f2))) (l2 : K.lookup f2 = some ⟨oc2, od2, .func (PySem.W.fnOf "is_value" "is_value" (defArgs sIsValue) (defBody sIsValue) (defScope sIsValue) .none kV2 dc2 pm2 an2 (.ref c2) ct2), sl2⟩) (e2 : PySem.W.codeIn K (.ref c2) "is_value" = true) (k2 : PySem.W.keepIn K (.ref f2) = true)
    (a3 : PySem.W.nsIn K mainGlobals "is_row" = some (some (.ref f3))) (l3 : K.lookup f3 = some ⟨oc3, od3, .func (PySem.W.fnOf "is_row" "is_row" (defArgs sIsRow) (defBody sIsRow) (defScope sIsRow) .none kV3 dc3 pm3 an3 (.ref c3) ct3), sl3⟩) (e3 : PySem.W.codeIn K (.ref c3) "is_row" = true) (k3 : PySem.W.keepIn K (.ref f3) = true)
    (a4 : PySem.W.nsIn K mainGlobals "is_part" = some (some (.ref f4))) (l4 : K.lookup f4 = some ⟨oc4, od4, .func (PySem.W.fnOf "is_part" "is_part" (defArgs sIsPart) (defBody sIsPart) (defScope sIsPart) .none kV4 dc4 pm4 an4 (.ref c4) ct4), sl4⟩) (e4 : PySem.W.codeIn K (.ref c4) "is_part" = true) (k4 : PySem.W.keepIn K (.ref f4) = true)
    (a5 : PySem.W.nsIn K mainGlobals "check_kinds" = some (some (.ref f5))) (l5 : K.lookup f5 = some ⟨oc5, od5, .func (PySem.W.fnOf "check_kinds" "check_kinds" (defArgs sCheckKinds) (defBody sCheckKinds) (defScope sCheckKinds) .none kV5 dc5 pm5 an5 (.ref c5) ct5), sl5⟩) (e5 : PySem.W.codeIn K (.ref c5) "check_kinds" = true) (k5 : PySem.W.keepIn K (.ref f5) = true)
    (a6 : PySem.W.nsIn K mainGlobals "check_order" = some (some (.ref f6))) (l6 : K.lookup f6 = some ⟨oc6, od6, .func (PySem.W.fnOf "check_order" "check_order" (defArgs sCheckOrder) (defBody sCheckOrder) (defScope sCheckOrder) .none kV6 dc6 pm6 an6 (.ref c6) ct6), sl6⟩) (e6 : PySem.W.codeIn K (.ref c6) "check_order" = true) (k6 : PySem.W.keepIn K (.ref f6) = true)
    (a7 : PySem.W.nsIn K mainGlobals "check_rows" = some (some (.ref f7))) (l7 : K.lookup f7 = some ⟨oc7, od7, .func (PySem.W.fnOf "check_rows" "check_rows" (defArgs sCheckRows) (defBody sCheckRows) (defScope sCheckRows) .none kV7 dc7 pm7 an7 (.ref c7) ct7), sl7⟩) (e7 : PySem.W.codeIn K (.ref c7) "check_rows" = true) (k7 : PySem.W.keepIn K (.ref f7) = true)
    (a8 : PySem.W.nsIn K mainGlobals "worths" = some (some (.ref f8))) (l8 : K.lookup f8 = some ⟨oc8, od8, .func (PySem.W.fnOf "worths" "worths" (defArgs sWorths) (defBody sWorths) (defScope sWorths) .none kV8 dc8 pm8 an8 (.ref c8) ct8), sl8⟩) (e8 : PySem.W.codeIn K (.ref c8) "worths" = true) (k8 : PySem.W.keepIn K (.ref f8) = true)
    (a9 : PySem.W.nsIn K mainGlobals "rank" = some (some (.ref f9))) (l9 : K.lookup f9 = some ⟨oc9, od9, .func (PySem.W.fnOf "rank" "rank" (defArgs sRank) (defBody sRank) (defScope sRank) .none kV9 dc9 pm9 an9 (.ref c9) ct9), sl9⟩) (e9 : PySem.W.codeIn K (.ref c9) "rank" = true) (k9 : PySem.W.keepIn K (.ref f9) = true)
    (a10 : PySem.W.nsIn K mainGlobals "check_size" = some (some (.ref f10))) (l10 : K.lookup f10 = some ⟨oc10, od10, .func (PySem.W.fnOf "check_size" "check_size" (defArgs sCheckSize) (defBody sCheckSize) (defScope sCheckSize) .none kV10 dc10 pm10 an10 (.ref c10) ct10), sl10⟩) (e10 : PySem.W.codeIn K (.ref c10) "check_size" = true) (k10 : PySem.W.keepIn K (.ref f10) = true)
    (a11 : PySem.W.nsIn K mainGlobals "numbered" = some (some (.ref f11))) (l11 : K.lookup f11 = some ⟨oc11, od11, .func (PySem.W.fnOf "numbered" "numbered" (defArgs sNumbered) (defBody sNumbered) (defScope sNumbered) .none kV11 dc11 pm11 an11 (.ref c11) ct11), sl11⟩) (e11 : PySem.W.codeIn K (.ref c11) "numbered" = true) (k11 : PySem.W.keepIn K (.ref f11) = true)
    (a12 : PySem.W.nsIn K mainGlobals "filled" = some (some (.ref f12))) (l12 : K.lookup f12 = some ⟨oc12, od12, .func (PySem.W.fnOf "filled" "filled" (defArgs sFilled) (defBody sFilled) (defScope sFilled) .none kV12 dc12 pm12 an12 (.ref c12) ct12), sl12⟩) (e12 : PySem.W.codeIn K (.ref c12) "filled" = true) (k12 : PySem.W.keepIn K (.ref f12) = true)
    (a13 : PySem.W.nsIn K mainGlobals "exchanged" = some (some (.ref f13))) (l13 : K.lookup f13 = some ⟨oc13, od13, .func (PySem.W.fnOf "exchanged" "exchanged" (defArgs sExchanged) (defBody sExchanged) (defScope sExchanged) .none kV13 dc13 pm13 an13 (.ref c13) ct13), sl13⟩) (e13 : PySem.W.codeIn K (.ref c13) "exchanged" = true) (k13 : PySem.W.keepIn K (.ref f13) = true)
    (a14 : PySem.W.nsIn K mainGlobals "_law_begun" = some (some (.ref f14))) (l14 : K.lookup f14 = some ⟨oc14, od14, .func (PySem.W.fnOf "_law_begun" "_law_begun" (defArgs sBegun) (defBody sBegun) (defScope sBegun) .none kV14 dc14 pm14 an14 (.ref c14) ct14), sl14⟩) (e14 : PySem.W.codeIn K (.ref c14) "_law_begun" = true) (k14 : PySem.W.keepIn K (.ref f14) = true)
    (a15 : PySem.W.nsIn K mainGlobals "_law_take" = some (some (.ref f15))) (l15 : K.lookup f15 = some ⟨oc15, od15, .func (PySem.W.fnOf "_law_take" "_law_take" (defArgs sTake) (defBody sTake) (defScope sTake) .none kV15 dc15 pm15 an15 (.ref c15) ct15), sl15⟩) (e15 : PySem.W.codeIn K (.ref c15) "_law_take" = true) (k15 : PySem.W.keepIn K (.ref f15) = true)
    (a16 : PySem.W.nsIn K mainGlobals "_law_kinds" = some (some (.ref f16))) (l16 : K.lookup f16 = some ⟨oc16, od16, .func (PySem.W.fnOf "_law_kinds" "_law_kinds" (defArgs sKinds) (defBody sKinds) (defScope sKinds) .none kV16 dc16 pm16 an16 (.ref c16) ct16), sl16⟩) (e16 : PySem.W.codeIn K (.ref c16) "_law_kinds" = true) (k16 : PySem.W.keepIn K (.ref f16) = true)
    (a17 : PySem.W.nsIn K mainGlobals "_law_order" = some (some (.ref f17))) (l17 : K.lookup f17 = some ⟨oc17, od17, .func (PySem.W.fnOf "_law_order" "_law_order" (defArgs sOrder) (defBody sOrder) (defScope sOrder) .none kV17 dc17 pm17 an17 (.ref c17) ct17), sl17⟩) (e17 : PySem.W.codeIn K (.ref c17) "_law_order" = true) (k17 : PySem.W.keepIn K (.ref f17) = true)
    (a18 : PySem.W.nsIn K mainGlobals "_law_value" = some (some (.ref f18))) (l18 : K.lookup f18 = some ⟨oc18, od18, .func (PySem.W.fnOf "_law_value" "_law_value" (defArgs sValue) (defBody sValue) (defScope sValue) .none kV18 dc18 pm18 an18 (.ref c18) ct18), sl18⟩) (e18 : PySem.W.codeIn K (.ref c18) "_law_value" = true) (k18 : PySem.W.keepIn K (.ref f18) = true)
    (a19 : PySem.W.nsIn K mainGlobals "_law_rows" = some (some (.ref f19))) (l19 : K.lookup f19 = some ⟨oc19, od19, .func (PySem.W.fnOf "_law_rows" "_law_rows" (defArgs sRows) (defBody sRows) (defScope sRows) .none kV19 dc19 pm19 an19 (.ref c19) ct19), sl19⟩) (e19 : PySem.W.codeIn K (.ref c19) "_law_rows" = true) (k19 : PySem.W.keepIn K (.ref f19) = true)
    (a20 : PySem.W.nsIn K mainGlobals "_law_ahead" = some (some (.ref f20))) (l20 : K.lookup f20 = some ⟨oc20, od20, .func (PySem.W.fnOf "_law_ahead" "_law_ahead" (defArgs sAhead) (defBody sAhead) (defScope sAhead) .none kV20 dc20 pm20 an20 (.ref c20) ct20), sl20⟩) (e20 : PySem.W.codeIn K (.ref c20) "_law_ahead" = true) (k20 : PySem.W.keepIn K (.ref f20) = true)
    (a21 : PySem.W.nsIn K mainGlobals "_law_sorted" = some (some (.ref f21))) (l21 : K.lookup f21 = some ⟨oc21, od21, .func (PySem.W.fnOf "_law_sorted" "_law_sorted" (defArgs sSorted) (defBody sSorted) (defScope sSorted) .none kV21 dc21 pm21 an21 (.ref c21) ct21), sl21⟩) (e21 : PySem.W.codeIn K (.ref c21) "_law_sorted" = true) (k21 : PySem.W.keepIn K (.ref f21) = true)
    (a22 : PySem.W.nsIn K mainGlobals "_law_pairs" = some (some (.ref f22))) (l22 : K.lookup f22 = some ⟨oc22, od22, .func (PySem.W.fnOf "_law_pairs" "_law_pairs" (defArgs sPairs) (defBody sPairs) (defScope sPairs) .none kV22 dc22 pm22 an22 (.ref c22) ct22), sl22⟩) (e22 : PySem.W.codeIn K (.ref c22) "_law_pairs" = true) (k22 : PySem.W.keepIn K (.ref f22) = true)
    (a23 : PySem.W.nsIn K mainGlobals "_law_right" = some (some (.ref f23))) (l23 : K.lookup f23 = some ⟨oc23, od23, .func (PySem.W.fnOf "_law_right" "_law_right" (defArgs sRight) (defBody sRight) (defScope sRight) .none kV23 dc23 pm23 an23 (.ref c23) ct23), sl23⟩) (e23 : PySem.W.codeIn K (.ref c23) "_law_right" = true) (k23 : PySem.W.keepIn K (.ref f23) = true)
    (a24 : PySem.W.nsIn K mainGlobals "law" = some (some (.ref f24))) (l24 : K.lookup f24 = some ⟨oc24, od24, .func (PySem.W.fnOf "law" "law" (defArgs sLaw) (defBody sLaw) (defScope sLaw) .none kV24 dc24 pm24 an24 (.ref c24) ct24), sl24⟩) (e24 : PySem.W.codeIn K (.ref c24) "law" = true) (k24 : PySem.W.keepIn K (.ref f24) = true)
    (z0 : PySem.W.nsIn K mainGlobals "isinstance" = some none)
    (z1 : PySem.W.nsIn K mainGlobals "int" = some none)
    (z2 : PySem.W.nsIn K mainGlobals "bool" = some none)
    (z3 : PySem.W.nsIn K mainGlobals "str" = some none)
    (z4 : PySem.W.nsIn K mainGlobals "list" = some none)
    (z5 : PySem.W.nsIn K mainGlobals "tuple" = some none)
    (z6 : PySem.W.nsIn K mainGlobals "len" = some none)
    (z7 : PySem.W.nsIn K mainGlobals "all" = some none)
    (z8 : PySem.W.nsIn K mainGlobals "zip" = some none)
    (z9 : PySem.W.nsIn K mainGlobals "enumerate" = some none)
    (z10 : PySem.W.nsIn K mainGlobals "ord" = some none)
    (z11 : PySem.W.nsIn K mainGlobals "range" = some none)
    (z12 : PySem.W.nsIn K mainGlobals "sorted" = some none)
    (z13 : PySem.W.nsIn K mainGlobals "max" = some none)
    (z14 : PySem.W.nsIn K mainGlobals "min" = some none)
    (y0 : PySem.W.nsIn K mainGlobals "MOST_COLUMNS" = some (some (.int 4 t1)))
    (y1 : PySem.W.nsIn K mainGlobals "MOST_NUMBER" = some (some (.int 999 t2)))
    (y2 : PySem.W.nsIn K mainGlobals "MOST_LETTERS" = some (some (.int 6 t3)))
    (y3 : PySem.W.nsIn K mainGlobals "MOST_ROWS" = some (some (.int 120 t4)))
    (y4 : PySem.W.nsIn K mainGlobals "MOST_ROOM" = some (some (.int 24 t5)))
    (ak : PySem.W.nsIn K mainGlobals "KINDS" = some (some (.ref aK))) (lk : K.lookup aK = some ⟨.type "tuple", odK, .seq #[.str "number" u1, .str "word" u2] nK, slK⟩)
    (aw : PySem.W.nsIn K mainGlobals "WAYS" = some (some (.ref aW))) (lw : K.lookup aW = some ⟨.type "tuple", odW, .seq #[.str "up" u3, .str "down" u4] nW, slW⟩)
    (q1 : PySem.W.nsIn K mainGlobals "heapify" = some (some (.builtin "_heapq.heapify"))) (q2 : PySem.W.nsIn K mainGlobals "heappush" = some (some (.builtin "_heapq.heappush"))) (q3 : PySem.W.nsIn K mainGlobals "heappop" = some (some (.builtin "_heapq.heappop")))
    (rW : (recsOf q).find? (fun e => e.name == ("is_word" : Str)) = some dW) (hW : K.lookup c1 = some ⟨eW, ddW, .fields vsW, stW⟩) (iW : vsW[11]? = some (.ref pW)) (nW' : K.lookup pW = none)
    (rR : (recsOf q).find? (fun e => e.name == ("is_row" : Str)) = some dR) (hR : K.lookup c3 = some ⟨eR, ddR, .fields vsR, stR⟩) (iR : vsR[11]? = some (.ref pR)) (nR' : K.lookup pR = none)
    (rK : (recsOf q).find? (fun e => e.name == ("check_kinds" : Str)) = some dK) (hK : K.lookup c5 = some ⟨eK, ddK, .fields vsK, stK⟩) (iK : vsK[11]? = some (.ref pK)) (nK' : K.lookup pK = none)
    (rF : (recsOf q).find? (fun e => e.name == ("filled" : Str)) = some dF) (hF : K.lookup c12 = some ⟨eF, ddF, .fields vsF, stF⟩) (iF : vsF[11]? = some (.ref pF)) (nF' : K.lookup pF = none)
    (d1 : pF ≠ pK) (d2 : pF ≠ pW) (d3 : pF ≠ pR) :
    LamX.LawAtS l w K CX0 11 63 "_law_script" mg fa h := by
  have efa := hfa.symm.trans (PySem.W.mg_of X G a24)
  cases efa
  have gW := tabs "is_word" dW c1 pW rW (tab_in (st := sIsWord) a1 l1 hW iW)
  have gR := tabs "is_row" dR c3 pR rR (tab_in (st := sIsRow) a3 l3 hR iR)
  have gK := tabs "check_kinds" dK c5 pK rK (tab_in (st := sCheckKinds) a5 l5 hK iK)
  have gF := tabs "filled" dF c12 pF rF (tab_in (st := sFilled) a12 l12 hF iF)
  have T : Txt K mg := ⟨PySem.W.mg_none_of X G z0, PySem.W.mg_none_of X G z1, PySem.W.mg_none_of X G z2, PySem.W.mg_none_of X G z3, PySem.W.mg_none_of X G z4, PySem.W.mg_none_of X G z5, PySem.W.mg_none_of X G z6, PySem.W.mg_none_of X G z7, PySem.W.mg_none_of X G z8, PySem.W.mg_none_of X G z9, PySem.W.mg_none_of X G z10, PySem.W.mg_none_of X G z11, PySem.W.mg_none_of X G z12, PySem.W.mg_none_of X G z13, PySem.W.mg_none_of X G z14, ⟨t1, PySem.W.mg_of X G y0⟩, ⟨t2, PySem.W.mg_of X G y1⟩, ⟨t3, PySem.W.mg_of X G y2⟩, ⟨t4, PySem.W.mg_of X G y3⟩, ⟨t5, PySem.W.mg_of X G y4⟩, ⟨aK, PySem.W.mg_of X G ak, two_in lk⟩, ⟨aW, PySem.W.mg_of X G aw, two_in lw⟩⟩
  have TQ : TxtQ mg := ⟨PySem.W.mg_of X G q1, PySem.W.mg_of X G q2, PySem.W.mg_of X G q3⟩
  have D0 := def_at (st := sIsNumber) X G a0 l0 e0 k0
  have D1 := def_at (st := sIsWord) X G a1 l1 e1 k1
  have D2 := def_at (st := sIsValue) X G a2 l2 e2 k2
  have D3 := def_at (st := sIsRow) X G a3 l3 e3 k3
  have D4 := def_at (st := sIsPart) X G a4 l4 e4 k4
  have D5 := def_at (st := sCheckKinds) X G a5 l5 e5 k5
  have D6 := def_at (st := sCheckOrder) X G a6 l6 e6 k6
  have D7 := def_at (st := sCheckRows) X G a7 l7 e7 k7
  have D8 := def_at (st := sWorths) X G a8 l8 e8 k8
  have D9 := def_at (st := sRank) X G a9 l9 e9 k9
  have D10 := def_at (st := sCheckSize) X G a10 l10 e10 k10
  have D11 := def_at (st := sNumbered) X G a11 l11 e11 k11
  have D12 := def_at (st := sFilled) X G a12 l12 e12 k12
  have D13 := def_at (st := sExchanged) X G a13 l13 e13 k13
  have D14 := def_at (st := sBegun) X G a14 l14 e14 k14
  have D15 := def_at (st := sTake) X G a15 l15 e15 k15
  have D16 := def_at (st := sKinds) X G a16 l16 e16 k16
  have D17 := def_at (st := sOrder) X G a17 l17 e17 k17
  have D18 := def_at (st := sValue) X G a18 l18 e18 k18
  have D19 := def_at (st := sRows) X G a19 l19 e19 k19
  have D20 := def_at (st := sAhead) X G a20 l20 e20 k20
  have D21 := def_at (st := sSorted) X G a21 l21 e21 k21
  have D22 := def_at (st := sPairs) X G a22 l22 e22 k22
  have D23 := def_at (st := sRight) X G a23 l23 e23 k23
  have D24 := def_at (st := sLaw) X G a24 l24 e24 k24
  refine ⟨PySem.W.fnOf "law" "law" (defArgs sLaw) (defBody sLaw) (defScope sLaw) .none kV24 dc24 pm24 an24 (.ref c24) ct24, [(c1, pW), (c3, pR), (c5, pK), (c12, pF)], spT [pW, pR, pK] (spLaw K pK pW pR pF), ?_, ?_, ?_, fun s v => .of_eq rfl, ?_, fun base KB GB TB => ?_⟩
  · intro p hp
    simp only [List.mem_cons, List.not_mem_nil, or_false] at hp
    rcases hp with rfl | rfl | rfl | rfl
    · exact gW.2
    · exact gR.2
    · exact gK.2
    · exact gF.2
  · intro p hp
    simp only [List.mem_cons, List.not_mem_nil, or_false] at hp
    rcases hp with rfl | rfl | rfl | rfl
    · exact nW'
    · exact nR'
    · exact nK'
    · exact nF'
  · intro p hp
    simp only [List.mem_cons, List.not_mem_nil, or_false] at hp
    rcases hp with rfl | rfl | rfl | rfl
    · exact gW.1
    · exact gR.1
    · exact gK.1
    · exact gF.1
  · intro H a ns hl hb hT hS
    have hT2 : ∀ b ∈ [pW, pR, pK], H b = some (.tbl #[]) := fun b hb => by
      simp only [List.mem_cons, List.not_mem_nil, or_false] at hb
      rcases hb with rfl | rfl | rfl
      · exact hT (c1, b) (by simp)
      · exact hT (c3, b) (by simp)
      · exact hT (c5, b) (by simp)
    have hF2 : H pF = some (.tbl #[]) := hT (c12, pF) (by simp)
    refine ⟨hT2, a, ns, rfl, ?_, ⟨ext_in (by simp), ext_in (by simp), ext_in (by simp)⟩, .nil ((ext_out (by simp [d1, d2, d3])).trans hF2), fun H' t3 => ⟨fun b hb => ?_, fun _ => rfl⟩⟩
    · rcases hS with (hS | ⟨o, hS⟩) | hS
      · refine .inl (.inl ?_)
        rw [ext_out fun hb => by rw [hT2 a hb] at hS; cases hS]
        exact hS
      · refine .inl (.inr ⟨o, ?_⟩)
        rw [ext_out fun hb => by rw [hT2 a hb] at hS; cases hS]
        exact hS
      · exact .inr hS
    · simp only [List.mem_cons, List.not_mem_nil, or_false] at hb
      rcases hb with rfl | rfl | rfl
      · exact t3.w
      · exact t3.r
      · exact t3.k
  · have bW := TB (c1, pW) (by simp)
    have bR := TB (c3, pR) (by simp)
    have bK := TB (c5, pK) (by simp)
    have bF := TB (c12, pF) (by simp)
    have P0 : Cal l.prog w K mg base CX0 1 "is_number" ["value"] (spNum K) := is_number_ok D0 T
    have P1 : Cal l.prog w K mg base CX0 2 "is_word" ["value"] (spWord K pW) := is_word_ok D1 T (tabB_of bW)
    have P2 : Cal l.prog w K mg base CX0 3 "is_value" ["kind", "value"] (spValue K pW) := is_value_ok D2 T P1 P0
    have P3 : Cal l.prog w K mg base CX0 5 "is_row" ["kinds", "row"] (spRow K pW pR) := is_row_ok D3 T (tabB_of bR) P2
    have P4 : Cal l.prog w K mg base CX0 2 "is_part" ["kinds", "part"] (spPart K) := is_part_ok D4 T P0
    have P5 : Cal l.prog w K mg base CX0 2 "check_kinds" ["kinds"] (spCheckKinds K pK) := check_kinds_ok D5 T (tabB_of bK)
    have P6 : Cal l.prog w K mg base CX0 3 "check_order" ["kinds", "order"] (spCheckOrder K) := check_order_ok D6 T P4
    have P7 : Cal l.prog w K mg base CX0 6 "check_rows" ["kinds", "rows", "most"] (spCheckRows K pW pR) := check_rows_ok D7 T P3
    have P8 : Cal l.prog w K mg base CX0 1 "worths" ["value"] (spWorths K) := worths_ok D8 T
    have P9 : Cal l.prog w K mg base CX0 2 "rank" ["order", "told"] (spRank K) := rank_ok D9 T P8
    have P10 : Cal l.prog w K mg base CX0 2 "check_size" ["size"] (spCheckSize) := check_size_ok D10 T P0
    have P11 : Cal l.prog w K mg base CX0 7 "numbered" ["kinds", "order", "size", "rows"] (spNumbered K pK pW pR) := numbered_ok D11 T P5 P6 P10 P7
    have P12 : Cal l.prog w K mg base CX0 10 "filled" ["kinds", "order", "size", "rows"] (spFilled K pK pW pR pF) := filled_ok D12 T bF P11 P9
    have X0 : TxX K CX := ⟨⟨xpg, xhd, xpo, xsa⟩, xnO, xnG, xnW, xnL⟩
    have E0 : Exch l.prog w K mg base CX := ⟨xinit_ok ⟨xmk, ma0, mi0, xkc⟩ (fun_mk ml0 mc0 mk0) X0 (PySem.W.mg_of X G xC), let_in_ok X0 ⟨⟨ma1, mi1, mk1⟩, fun_mk ml1 mc1 mk1⟩ TQ P9, let_out_ok X0 ⟨⟨ma2, mi2, mk2⟩, fun_mk ml2 mc2 mk2⟩ TQ, is_over_ok X0 ⟨⟨ma3, mi3, mk3⟩, fun_mk ml3 mc3 mk3⟩, holds_ok X0 ⟨⟨ma4, mi4, mk4⟩, fun_mk ml4 mc4 mk4⟩ T, next_ok X0 ⟨⟨ma5, mi5, mk5⟩, fun_mk ml5 mc5 mk5⟩ TQ⟩
    have P13 : Cal l.prog w K mg base CX0 8 "exchanged" ["kinds", "order", "size", "rows"] (spExchanged K pK pW pR) := exchanged_ok D13 T P11 E0
    have P14 : Cal l.prog w K mg base CX0 1 "_law_begun" ["_law_script"] (spBegun K) := begun_ok D14 T
    have P15 : Cal l.prog w K mg base CX0 1 "_law_take" ["_law_box", "_law_many"] (spTake) := take_ok D15
    have P16 : Cal l.prog w K mg base CX0 2 "_law_kinds" ["_law_box"] (spKinds K) := kinds_ok D16 T P15
    have P17 : Cal l.prog w K mg base CX0 2 "_law_order" ["_law_box", "_law_kinds_here"] (spOrder K) := order_ok D17 T P15
    have P18 : Cal l.prog w K mg base CX0 2 "_law_value" ["_law_box", "_law_kind"] (spValueL K) := value_ok D18 T P15
    have P19 : Cal l.prog w K mg base CX0 3 "_law_rows" ["_law_box", "_law_kinds_here", "_law_most"] (spRows K) := rows_ok D19 T P15 P18
    have P20 : Cal l.prog w K mg base CX0 1 "_law_ahead" ["_law_order_here", "_law_one", "_law_other"] (spAhead K) := ahead_ok D20
    have P21 : Cal l.prog w K mg base CX0 2 "_law_sorted" ["_law_order_here", "_law_pairs_here"] (spSorted K) := sorted_ok D21 T P20
    have P22 : Cal l.prog w K mg base CX0 1 "_law_pairs" ["_law_rows_here"] (spPairs K) := pairs_ok D22 T
    have P23 : Cal l.prog w K mg base CX0 2 "_law_right" ["_law_order_here", "_law_rows_here", "_law_runs"] (spRight K) := right_ok D23 T P20 P22
    exact FnOk.tables (law_fn l24 e24 T ⟨P14, P15, P16, P17, P19, P21, P22, P23, P13, P12⟩)
end RS
set_option Elab.async false
open PySem PySem.W PyProof.Rows in
set_option maxRecDepth 100000 in
set_option maxHeartbeats 0 in
theorem PySem.Challenge.cw_runsorts_k04_whole_what_runs_are_holds : PySem.Challenge.rw_runsorts_k04_whole_what_runs_are.Holds := by
  w_on; o_law; k_head; (case hw => w_witness2)
  k_fill
  refine RS.walk_tabs (l := PySem.Challenge.rw_runsorts_k04_whole_what_runs_are) (n := 63) (k := 11) (x := "_law_script") rfl (by decide) rfl ⟨rfl, by decide, by decide⟩ (fun w h Y => PySem.W.km_in_of Y) ?F
  case F =>
    intro w mg fa h KX G hmg tabs
    refine' RS.all_mk tabs KX G hmg ?xC ?xpg ?xhd ?xpo ?xsa ?xmk ?xkc ?xnO ?xnG ?xnW ?xnL ?ma0 ?mi0 ?ml0 ?mc0 ?mk0 ?ma1 ?mi1 ?ml1 ?mc1 ?mk1 ?ma2 ?mi2 ?ml2 ?mc2 ?mk2 ?ma3 ?mi3 ?ml3 ?mc3 ?mk3 ?ma4 ?mi4 ?ml4 ?mc4 ?mk4 ?ma5 ?mi5 ?ml5 ?mc5 ?mk5 ?a0 ?l0 ?e0 ?k0 ?a1 ?l1 ?e1 ?k1 ?a2 ?l2 ?e2 ?k2 ?a3 ?l3 ?e3 ?k3 ?a4 ?l4 ?e4 ?k4 ?a5 ?l5 ?e5 ?k5 ?a6 ?l6 ?e6 ?k6 ?a7 ?l7 ?e7 ?k7 ?a8 ?l8 ?e8 ?k8 ?a9 ?l9 ?e9 ?k9 ?a10 ?l10 ?e10 ?k10 ?a11 ?l11 ?e11 ?k11 ?a12 ?l12 ?e12 ?k12 ?a13 ?l13 ?e13 ?k13 ?a14 ?l14 ?e14 ?k14 ?a15 ?l15 ?e15 ?k15 ?a16 ?l16 ?e16 ?k16 ?a17 ?l17 ?e17 ?k17 ?a18 ?l18 ?e18 ?k18 ?a19 ?l19 ?e19 ?k19 ?a20 ?l20 ?e20 ?k20 ?a21 ?l21 ?e21 ?k21 ?a22 ?l22 ?e22 ?k22 ?a23 ?l23 ?e23 ?k23 ?a24 ?l24 ?e24 ?k24 ?z0 ?z1 ?z2 ?z3 ?z4 ?z5 ?z6 ?z7 ?z8 ?z9 ?z10 ?z11 ?z12 ?z13 ?z14 ?y0 ?y1 ?y2 ?y3 ?y4 ?ak ?lk ?aw ?lw ?q1 ?q2 ?q3 ?rW ?hW ?iW ?nW2 ?rR ?hR ?iR ?nR2 ?rK ?hK ?iK ?nK2 ?rF ?hF ?iF ?nF2 ?d1 ?d2 ?d3
    (case xC => k_is)
    (case xpg => k_is)
    (case xhd => k_is)
    (case xpo => k_is)
    (case xsa => k_is)
    (case xmk => k_is)
    (case xkc => k_is)
    (case xnO => k_is)
    (case xnG => k_is)
    (case xnW => k_is)
    (case xnL => k_is)
    (case ma0 => k_is)
    (case mi0 => k_is)
    (case ml0 => k_is)
    (case mc0 => k_is)
    (case mk0 => k_is)
    (case ma1 => k_is)
    (case mi1 => k_is)
    (case ml1 => k_is)
    (case mc1 => k_is)
    (case mk1 => k_is)
    (case ma2 => k_is)
    (case mi2 => k_is)
    (case ml2 => k_is)
    (case mc2 => k_is)
    (case mk2 => k_is)
    (case ma3 => k_is)
    (case mi3 => k_is)
    (case ml3 => k_is)
    (case mc3 => k_is)
    (case mk3 => k_is)
    (case ma4 => k_is)
    (case mi4 => k_is)
    (case ml4 => k_is)
    (case mc4 => k_is)
    (case mk4 => k_is)
    (case ma5 => k_is)
    (case mi5 => k_is)
    (case ml5 => k_is)
    (case mc5 => k_is)
    (case mk5 => k_is)
    (case a0 => k_is)
    (case l0 => k_is)
    (case e0 => k_is)
    (case k0 => k_is)
    (case a1 => k_is)
    (case l1 => k_is)
    (case e1 => k_is)
    (case k1 => k_is)
    (case a2 => k_is)
    (case l2 => k_is)
    (case e2 => k_is)
    (case k2 => k_is)
    (case a3 => k_is)
    (case l3 => k_is)
    (case e3 => k_is)
    (case k3 => k_is)
    (case a4 => k_is)
    (case l4 => k_is)
    (case e4 => k_is)
    (case k4 => k_is)
    (case a5 => k_is)
    (case l5 => k_is)
    (case e5 => k_is)
    (case k5 => k_is)
    (case a6 => k_is)
    (case l6 => k_is)
    (case e6 => k_is)
    (case k6 => k_is)
    (case a7 => k_is)
    (case l7 => k_is)
    (case e7 => k_is)
    (case k7 => k_is)
    (case a8 => k_is)
    (case l8 => k_is)
    (case e8 => k_is)
    (case k8 => k_is)
    (case a9 => k_is)
    (case l9 => k_is)
    (case e9 => k_is)
    (case k9 => k_is)
    (case a10 => k_is)
    (case l10 => k_is)
    (case e10 => k_is)
    (case k10 => k_is)
    (case a11 => k_is)
    (case l11 => k_is)
    (case e11 => k_is)
    (case k11 => k_is)
    (case a12 => k_is)
    (case l12 => k_is)
    (case e12 => k_is)
    (case k12 => k_is)
    (case a13 => k_is)
    (case l13 => k_is)
    (case e13 => k_is)
    (case k13 => k_is)
    (case a14 => k_is)
    (case l14 => k_is)
    (case e14 => k_is)
    (case k14 => k_is)
    (case a15 => k_is)
    (case l15 => k_is)
    (case e15 => k_is)
    (case k15 => k_is)
    (case a16 => k_is)
    (case l16 => k_is)
    (case e16 => k_is)
    (case k16 => k_is)
    (case a17 => k_is)
    (case l17 => k_is)
    (case e17 => k_is)
    (case k17 => k_is)
    (case a18 => k_is)
    (case l18 => k_is)
    (case e18 => k_is)
    (case k18 => k_is)
    (case a19 => k_is)
    (case l19 => k_is)
    (case e19 => k_is)
    (case k19 => k_is)
    (case a20 => k_is)
    (case l20 => k_is)
    (case e20 => k_is)
    (case k20 => k_is)
    (case a21 => k_is)
    (case l21 => k_is)
    (case e21 => k_is)
    (case k21 => k_is)
    (case a22 => k_is)
    (case l22 => k_is)
    (case e22 => k_is)
    (case k22 => k_is)
    (case a23 => k_is)
    (case l23 => k_is)
    (case e23 => k_is)
    (case k23 => k_is)
    (case a24 => k_is)
    (case l24 => k_is)
    (case e24 => k_is)
    (case k24 => k_is)
    (case z0 => k_is)
    (case z1 => k_is)
    (case z2 => k_is)
    (case z3 => k_is)
    (case z4 => k_is)
    (case z5 => k_is)
    (case z6 => k_is)
    (case z7 => k_is)
    (case z8 => k_is)
    (case z9 => k_is)
    (case z10 => k_is)
    (case z11 => k_is)
    (case z12 => k_is)
    (case z13 => k_is)
    (case z14 => k_is)
    (case y0 => k_is)
    (case y1 => k_is)
    (case y2 => k_is)
    (case y3 => k_is)
    (case y4 => k_is)
    (case ak => k_is)
    (case lk => k_is)
    (case aw => k_is)
    (case lw => k_is)
    (case q1 => k_is)
    (case q2 => k_is)
    (case q3 => k_is)
    (case rW => rfl)
    (case hW => k_is)
    (case iW => rfl)
    (case nW2 => first | kernel_rfl | rfl)
    (case rR => rfl)
    (case hR => k_is)
    (case iR => rfl)
    (case nR2 => first | kernel_rfl | rfl)
    (case rK => rfl)
    (case hK => k_is)
    (case iK => rfl)
    (case nK2 => first | kernel_rfl | rfl)
    (case rF => rfl)
    (case hF => k_is)
    (case iF => rfl)
    (case nF2 => first | kernel_rfl | rfl)
    (case d1 => decide)
    (case d2 => decide)
    (case d3 => decide)
