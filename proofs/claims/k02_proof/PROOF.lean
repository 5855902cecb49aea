import PyProof.Rows.All
import Wide.All
import OpenK.AllK
import Wide.FinOn
import HandS.ForMost
import HandS.AnyAll
import HandS.GenList
import HandS.IsInst
import HandS.Zip
import HandS.Deep
import HandS.StrMore
import HandS.Codes
import HandS.FStr
import HandS.Head0
import HandS.Head1
import HandS.Head2
import HandS.Head3
import KE.KDictZip
import HandS.Lambda
import HandS.ExcOwn
import HandS.HotCalls
import HandS.ExcIs
import HandS.ExcField
import KE.KExcIs
import HandS.More
import HandS.Wide
import KE.KDflt
import HandS.ExcInit
import HandS.ClsMeth
import HandS.WordsExc
import HandS.TupAny
import HandS.Iter
import HandS.Conv
import HandS.SortOrd
import KE.LtData
import KE.KMinKey
import HandS.NamedTupSort
import HandS.Gcd
import HandS.TupMul
import PyProof.Rows.ChunkLeaf
import HandS.Flow
import KE.KSortTup
import HandS.EndTab
import PySem.Challenge.RW_runsorts_k02_refused
set_option Elab.async false
set_option maxRecDepth 100000
set_option maxHeartbeats 4000000
namespace GX
open PySem PySem.Spec PyProof.Rows L2

/-- the table of a def's code objects, whatever has come into it -/
def TabE (P : Addr) : Heap → Prop := fun g =>
  ∃ rs : Array Value, g.get? P = some { cls := .none, data := .fields rs } ∧ TriplesOk rs.toList
def Tab (H : Hp) (P : Addr) : Prop := H P = some (.ext (TabE P))
theorem tabE_stable {P : Addr} : ∀ g1 g2 : Heap, TabE P g1 → (∀ o, g1.get? P = some o → g2.get? P = some o) → TabE P g2 :=
  fun _ _ ⟨rs, e, t⟩ k => ⟨rs, k _ e, t⟩

section
variable {X : Cx} {pins : List (Addr × Obj)} {σ : L2.St} {H : Hp} {s : Shared}

/-- the table has grown; what else stood is kept -/
theorem tab_grown {P : Addr} {rs : Array Value} {g : Heap} {G : Array GenState} {dd : Drawn} {tk : Nat}
    (I : Inv X pins σ H s) (hP : Tab H P)
    (kp : ∀ b o, b ≠ P → s.heap.get? b = some o → g.get? b = some o)
    (at_ : g.get? P = some { cls := .none, data := .fields rs }) (ht : TriplesOk rs.toList) (hG : AllBare G) :
    Inv X pins σ H { s with heap := g, gens := G, drawn := dd, toks := tk } := by
  have free_ne : ∀ b, H b = none → b ≠ P := fun b e z => by
    subst z
    have q : H b = some (.ext (TabE b)) := hP
    rw [q] at e
    cases e
  have own_ne : ∀ b c, H b = some (.own c) → b ≠ P := fun b c e z => by
    subst z
    have q : H b = some (.ext (TabE b)) := hP
    rw [q] at e
    cases e
  refine I.step (g' := G) (d' := dd) (ch := []) (fun b hb => by cases hb) (fun b o _ _ _ e n => kp b o (free_ne b n) e)
    (fun b o _ _ _ e n => ⟨o.slots, kp b o (free_ne b n) e⟩) (fun _ _ _ _ n => n) (fun b o _ e => ?_)
    (fun _ _ e => e) (fun _ _ _ e => e) (fun b qs e => ⟨#[], by rw [e, Array.append_empty]⟩) (fun m hm => ?_) (fun b u e => ?_) hG
  · by_cases z : b = P
    · subst z
      exact ⟨_, at_⟩
    · exact ⟨o, kp b o z e⟩
  · obtain ⟨o, es, ep, ho, r⟩ := hm
    exact ⟨o, es, ep, kp _ o (free_ne _ I.free) ho, r⟩
  · by_cases z : b = P
    · subst z
      have q : H b = some (.ext (TabE b)) := hP
      rw [q] at e
      cases e
      exact ⟨⟨rs, at_, ht⟩, ⟨_, at_⟩, tabE_stable⟩
    · refine (I.hok b u e).stay (fun c o hc q => kp c o ?_ q) (fun _ q => q) (fun _ _ q => q)
      rcases hc with y | y
      · rw [y]
        exact z
      · exact own_ne c b y

/-- the context of a generator expression's element -/
abbrev genCx (X : Cx) (B : Around) (s0 : Shared) (H0 : Hp) (ce : Env) (fp : List Addr) (pn : List (Addr × Obj)) : Cx :=
  { X with A := B, s_0 := s0, H_0 := H0, env := ce, outer := X.stack, stack := ce :: X.stack, ex := fp, fn := fun _ => false, pn := pn, xe := fun _ _ => False }
/-- its environment -/
abbrev gEnv (X : Cx) (sc : Scope) (C : Addr) (cv : Value) : Env :=
  genEnv sc (cloFrom X.env.cells sc.names []) C cv builtinsNs X.env

theorem gen_start {B : Around} {sc : Scope} {own : List (Str × Nat)} {fp : List Addr} {cv : Value} {g : Heap} {go fo : Obj} {m : Str → Option Value} {gs : GenState} {tk : Nat}
    (I : Inv X pins σ H s) (ok : BlkOk X.N X.env.scope sc own) (nocell : ∀ y ∈ sc.names, y.2 ≠ .cell) (hN : X.N.Nodup)
    (hfp : ∀ b ∈ fp, FpOk X pins H b ∧ b < s.heap.objs.size) (hB : X.calm = true → B.handled = none)
    (hF : B.frames = some (gEnv X sc s.heap.objs.size cv :: X.stack))
    (hn : g.Ns s.heap.objs.size m) (hs : Heap.SameBut s.heap.objs.size (s.heap.push fo) g)
    (hgo : ∀ v, go.data ≠ .cell v) (hgp : (g.push go).get? g.objs.size = some go) (hgs : gs.bare = true) :
    Inv (genCx X B s H (gEnv X sc s.heap.objs.size cv) fp [(g.objs.size, go)]) [] (wipe σ (own.map (·.2))) H
      { s with gens := s.gens.push gs, toks := tk, heap := g.push go } := by
  have caught : ∀ y ∈ sc.names, y.2 = .free → ∃ c, X.env.cells.lookup y.1 = some c := fun y hy e =>
    (ok.free y hy e).elim (fun z => I.ok.has _ (.inl z)) (fun z => I.ok.has _ (.inr z))
  have gsz : g.objs.size = s.heap.objs.size + 1 := by rw [hs.1, Heap.size_push]
  have kp1 : ∀ b o, s.heap.get? b = some o → g.get? b = some o := fun b o e =>
    hs.extBut b o (Nat.ne_of_lt (Heap.lt_size e)) (Heap.get?_push_of_some _ e)
  have kp : ∀ b o, s.heap.get? b = some o → (g.push go).get? b = some o := fun b o e => Heap.get?_push_of_some _ (kp1 b o e)
  have down : ∀ {y c}, (gEnv X sc s.heap.objs.size cv).cells.lookup y = some c → X.env.cells.lookup y = some c ∧ c < s.heap.objs.size := fun {y c} e => by
    have e' : (cloFrom X.env.cells sc.names []).lookup y = some c := e
    rcases cloFrom_mem (PySem.mem_of_lookup e') with q | ⟨q1, q2⟩
    · cases q
    · obtain ⟨c', hc'⟩ := caught _ q1 rfl
      have hc2 : X.env.cells.lookup y = some c' := hc'
      rw [hc2] at q2
      have q3 : c = c' := q2
      subst q3
      obtain ⟨v, z⟩ := I.cell _ _ hc2
      exact ⟨hc2, z.lt⟩
  have up : ∀ {y}, sc.names.lookup y = some .free → ∃ c, (gEnv X sc s.heap.objs.size cv).cells.lookup y = some c ∧ X.env.cells.lookup y = some c := fun {y} hl => by
    obtain ⟨c, e⟩ := mem_lookup (cloFrom_has (cells := X.env.cells) (acc := []) (PySem.mem_of_lookup hl))
    exact ⟨c, e, (down e).1⟩
  have young : ∀ b, b < s.heap.objs.size → b ≠ s.heap.objs.size := fun b hb => Nat.ne_of_lt hb
  have okG : (genCx X B s H (gEnv X sc s.heap.objs.size cv) fp [(g.objs.size, go)]).Ok := by
    refine ⟨I.ok.mod, ok.kind, I.ok.glob, rfl, Nat.le_refl _, fun y z c e1 e2 => I.ok.inj y z c (down e1).1 (down e2).1, fun y hy => ?_,
      (fun y c z _ => nomatch z), hB, hF, .inr ⟨rfl, rfl⟩, fun b hb => ⟨young b (hfp b hb).2, fun y c e z => ?_⟩, I.bs, Nat.le_trans I.ok.bsz I.sz,
      fun b o e hb => ?_, fun b hb z => ?_, I.stack, I.stkFree⟩
    · rcases hy with z | z
      · exact absurd rfl (nocell _ (PySem.mem_of_lookup z))
      · obtain ⟨c, e, _⟩ := up z
        exact ⟨c, e⟩
    · exact (hfp b hb).1.2.2.2.2.1 y c (down e).1 z
    · rcases (hfp b hb).1.2.2.2.1 with z | z
      · exact I.ok.noex b o e z
      · exact Nat.lt_irrefl _ (Nat.lt_of_lt_of_le (Heap.lt_size e) (Nat.le_trans I.ok.bsz z))
    · rcases List.mem_cons.mp (I.stkSub b z) with y | y
      · exact (hfp b hb).1.2.1 y
      · exact (hfp b hb).1.2.2.1 y
  refine ⟨okG, rfl, I.bare.push hgs, Un.kept kp, ⟨m, ?_, fun i y av e1 e2 e3 => ?_⟩, fun y c e => ?_, I.hok.fresh (Nat.le_refl _), fun y c e => I.freeC y c (down e).1, fun p hp => ?_, I.hok.kept kp, by rw [wipe_length]; exact I.len⟩
  · exact hn.push _
  · obtain ⟨e2, ne⟩ := wipe_some e2
    have notOwn : ∀ k, sc.names.lookup y = some k → k = .local ∨ k = .cell → False := fun k hk hk' => by
      rcases ok.own _ (PySem.mem_of_lookup hk) hk' with q | q
      · obtain ⟨p, hp, hpy⟩ := List.mem_map.mp q
        have e4 := ok.ix p hp
        have hpy' : p.1 = y := hpy
        rw [hpy'] at e4
        exact ne (List.mem_map.mpr ⟨p, hp, nodup_ix hN e4 e1⟩)
      · exact q (List.mem_of_getElem? e1)
    have hfree : sc.names.lookup y = some .free := by
      rcases e3 with z | z | z
      · exact (notOwn _ z (.inl rfl)).elim
      · exact (notOwn _ z (.inr rfl)).elim
      · exact z
    obtain ⟨m', _, hl⟩ := I.loc
    have q0 := ok.free _ (PySem.mem_of_lookup hfree) rfl
    have hv : Vis X.env.scope y := q0.elim (fun z => .inr (.inl z)) (fun z => .inr (.inr z))
    obtain ⟨u, r, q⟩ := hl i y av e1 e2 hv
    obtain ⟨c, h1, h2⟩ := up hfree
    refine ⟨u, r, .inr ⟨.inr hfree, c, h1, ?_⟩⟩
    rcases q with ⟨k, _⟩ | ⟨_, c', e', z⟩
    · have k' : X.env.scope.names.lookup y = some .local := k
      rcases q0 with z | z
      · have z' : X.env.scope.names.lookup y = some .cell := z
        rw [z'] at k'
        cases k'
      · have z' : X.env.scope.names.lookup y = some .free := z
        rw [z'] at k'
        cases k'
    · rw [h2] at e'
      cases e'
      exact z.keeps kp
  · obtain ⟨v, z⟩ := I.cell y c (down e).1
    exact ⟨v, z.keeps kp⟩
  · have e : p = (g.objs.size, go) := by simpa using hp
    subst e
    refine ⟨hgp, I.hok.fresh (by rw [gsz]; exact Nat.le_succ _), ?_, fun z => ?_, hgo⟩
    · show g.objs.size ≠ s.heap.objs.size
      rw [gsz]
      exact Nat.succ_ne_self _
    · have z' : g.objs.size ∈ frs X.stack := z
      obtain ⟨_, o, ho, _⟩ := I.stack.mem z'
      have q := Heap.lt_size ho
      rw [gsz] at q
      exact absurd q (Nat.not_lt.mpr (Nat.le_succ _))
end
end GX
set_option Elab.async false
set_option maxRecDepth 100000
set_option maxHeartbeats 4000000
namespace GX
open PySem PySem.Spec PyProof.Rows L2

/-- what is known when an element has been handed out: a truth; where it is true, the generator goes on at any state with the same heap -/
def YAll (Y : Cx) (τ : L2.St) (Qf : Hp → Prop) : Protocol := fun _ _ v s kap =>
  ∃ (b : Bool) (H : Hp), v = .bool b ∧ Inv Y [] τ H s ∧ (b = false → Qf H) ∧
    (b = true → ∀ s2 : Shared, s2.heap = s.heap → s2.os = s.os → AllBare s2.gens → kap (.send .none) s2)
abbrev RAll (Y : Cx) (τ : L2.St) (Qt : Hp → Prop) : Nat → Shared → Shared → Prop := fun _ _ s =>
  ∃ H : Hp, Inv Y [] τ H s ∧ Qt H
theorem inv_samehp {Y : Cx} {pins : List (Addr × Obj)} {τ : L2.St} {H : Hp} {s s2 : Shared} (I : Inv Y pins τ H s) (h : s2.heap = s.heap) (ho : s2.os = s.os) (hb : AllBare s2.gens) : Inv Y pins τ H s2 := by
  have J := I.call' (s' := s2) (H' := H) (ch := []) ho (by rw [h]; exact Un.refl) (by rw [h]; exact I.hok) hb (fun b z => by cases z)
  exact J

section
variable {Y : Cx} {B : Around} {elt tg iter : Expr} {sc : Scope} {gpos : Pos} {it : Addr} {fp : List Addr} {tn : Nat → Heap → Prop} {J : It} {g : TG} {te : TE} {vs : List Nat}

/-- one turn of the walk that a generator expression's elements pass -/
def Step (J : It) (g : TG) (te : TE) (vs : List Nat) (τ : L2.St) (Qt Qf : Hp → Prop) (W : Nat → Nat → Hp → Prop) : Prop :=
  ∀ i m H, W i m H → (J.stop i H ∧ Qt H) ∨ (J.go i H ∧ ∀ x H', J.yld i H x H' → g x τ H' fun τ2 H2 => wipe τ2 vs = τ ∧
    te τ2 H2 fun y H3 => ∃ b, y = V.bl b ∧ (b = true → ∃ m', m' < m ∧ W (i + 1) m' H3) ∧ (b = false → Qf H3))

theorem seg_all {τ : L2.St} {Qt Qf : Hp → Prop} {W : Nat → Nat → Hp → Prop}
    (hA : Y.A = B.over (.compLoop (.GeneratorExp elt [⟨tg, iter, [], 0⟩] sc gpos) 0 (.ref it) .none Y.env) [])
    (hc : Y.calm = true) (hco : Y.env.scope.isCoroutine = false) (hfp : ∀ b ∈ fp, b ∈ Y.ex) (hpn : ∀ p ∈ Y.pn, p.1 ∉ fp)
    (xe : Y.xe = fun _ _ => False)
    (pg : PG Y tg g) (pe : PE Y elt te) (T : Turn Y.prog Y.w Y.K tg J fp it tn) (turn : Step J g te vs τ Qt Qf W) (hτ : ∀ τ2, wipe τ2 vs = τ → ∀ (k : Nat) v, τ[k]? = some (some v) → τ2[k]? = some (some v)) :
    ∀ (n i m : Nat) (s0 s : Shared) (H : Hp), m < n → Inv Y [] τ H s → tn i s.heap → (∀ b ∈ fp, H b = none) → W i m H →
      Seg (model Y.prog Y.w) B (fun n s₀ r s₁ => r = .ok .next ∧ RAll Y τ Qt n s₀ s₁) (YAll Y τ Qf) n s0
        (.compLoop (.GeneratorExp elt [⟨tg, iter, [], 0⟩] sc gpos) 0 (.ref it) .none Y.env)
        ((model Y.prog Y.w).den (.compLoop (.GeneratorExp elt [⟨tg, iter, [], 0⟩] sc gpos) 0 (.ref it) .none Y.env)) [] s := by
  intro n
  induction n with
  | zero => intro i m s0 s H hm; exact absurd hm (Nat.not_lt_zero _)
  | succ n ih =>
    intro i m s0 s H hm I st nf w0
    have fpo : ∀ {pins' : List (Addr × Obj)} {τ' : L2.St} {H' : Hp} {s' : Shared}, Inv Y pins' τ' H' s' → (∀ p ∈ pins', p.1 ∉ fp) → (∀ b ∈ fp, H' b = none) → ∀ b ∈ fp, FpOk Y pins' H' b := fun {pins' τ' H' s'} I' hp hn b hb =>
      ⟨hn b hb, (I'.ok.exf b (hfp b hb)).1, I'.ok.exfs b (hfp b hb), .inl (hfp b hb), fun x c e => (I'.ok.exf b (hfp b hb)).2 x c e, fun p q z => by
        rcases List.mem_append.mp q with q | q
        · exact hpn p q (by rw [z]; exact hb)
        · exact hp p q (by rw [z]; exact hb)⟩
    show Seg _ B _ _ _ s0 _ ((compTurn (.GeneratorExp elt [⟨tg, iter, [], 0⟩] sc gpos) 0 (.ref it) .none Y.env).onRaise (leaving Y.env)) [] s
    rw [compTurn_gen, Sem.onRaise_eq_wrap]
    apply seg_bind_wrap
    apply wpAny_standAt
    apply seg_bind_wrap
    rw [← hA]
    rcases turn i m H w0 with ⟨stop, q⟩ | ⟨go, step⟩
    · refine wpAny_mono (T.done Y rfl rfl rfl hc i [] s τ H (fun _ _ => False) I (fpo I (fun _ z => by cases z) nf) st stop) (fun r s1 h1 => ?_) (fun _ _ z => z.elim)
      obtain ⟨hr, I1⟩ := h1
      subst hr
      exact seg_end (.ok .next) ⟨rfl, H, I1, q⟩
    · refine wpAny_mono (T.item Y rfl rfl rfl hc i [] s τ H (fun _ _ => False) I (fpo I (fun _ z => by cases z) nf) st go) (fun r s1 h1 => ?_) (fun _ _ z => z.elim)
      obtain ⟨u, hr, h1⟩ := h1
      subst hr
      apply seg_bind_wrap
      rw [← hA]
      refine wpAny_mono h1 (fun _ s2 h2 => ?_) (fun _ _ z => z.elim)
      obtain ⟨x, H2, I2, r2, y2, st2, n2⟩ := h2
      have I2' := I2.pinned (fpo I2 (fun _ z => by cases z) n2) (T.obj _ _ st2)
      apply seg_bind_wrap
      rw [← hA]
      refine wpAny_mono (pg.run _ s2 τ H2 x u _ I2' r2 (step x H2 y2)) (fun _ s3 h3 => ?_) (fun e s3 z => by rw [xe] at z; exact z.elim)
      obtain ⟨τ3, H3, I3, hw3, q3⟩ := h3
      have hy : ∀ v, yieldOut Y.env v = yieldValue v := fun v => by simp only [yieldOut, hco, Bool.false_eq_true, if_false]
      simp only [List.forIn_nil, pure_bind, if_true, hy]
      rw [Sem.bind_eq_wrap', Sem.bind_eq_wrap', Sem.wrap_wrap, Sem.wrap_wrap]
      apply seg_wrap
      rw [← hA]
      refine wpAny_mono (pe.run _ s3 τ3 H3 _ I3 q3) (fun v s4 h4 => ?_) (fun e s4 z => by rw [xe] at z; exact z.elim)
      obtain ⟨yv, H4, I4, r4, b, rfl, ht, hf⟩ := h4
      have hv : v = .bool b := r4
      subst hv
      have kp : ∀ b' ∈ fp, ∀ o, s2.heap.get? b' = some o → s4.heap.get? b' = some o ∧ H4 b' = none := fun b' hb o e => by
        have z := I4.pin (b', o) (List.mem_append_right _ (List.mem_append_right _ (mem_pinsAt hb e)))
        exact ⟨z.1, z.2.1⟩
      have J4 : Inv Y [] τ H4 s4 := (I4.unpinned (pins := [])).weak (by rw [← hw3, wipe_length]) fun k v e => hτ τ3 hw3 k v e
      refine seg_at (seg_yield rfl rfl rfl ⟨b, H4, rfl, J4, hf, fun hb s5 e5 o5 b5 => ?_⟩)
      obtain ⟨m', hm', w'⟩ := ht hb
      refine seg_again rfl (ih (i + 1) m' s5 s5 H4 (by omega) (inv_samehp J4 e5 o5 b5) ?_ (fun b' hb' => ?_) w')
      · rw [e5]
        exact T.keep _ _ _ st2 fun b' hb' o e => (kp b' hb' o e).1
      · obtain ⟨o, e, _⟩ := T.obj _ _ st2 b' hb'
        exact (kp b' hb' o e).2
end
end GX
set_option Elab.async false
set_option maxRecDepth 100000
set_option maxHeartbeats 4000000
namespace GX
open PySem PySem.Spec PyProof.Rows L2

theorem seg_all_start {P : Program} {w : World} {K : PySem.W.Frag} {B : Around} {R : GenEnd} {Yp : Protocol} {n : Nat} {s0 s : Shared} {elt tg iter : Expr} {sc : Scope} {gpos : Pos} {it : Addr} {fp : List Addr} {tn : Nat → Heap → Prop} {J : It} {ce : Env}
    (T : Turn P w K tg J fp it tn) (st : tn 0 s.heap)
    (loop : Seg (model P w) B R Yp n s0 (.compLoop (.GeneratorExp elt [⟨tg, iter, [], 0⟩] sc gpos) 0 (.ref it) .none ce)
      ((model P w).den (.compLoop (.GeneratorExp elt [⟨tg, iter, [], 0⟩] sc gpos) 0 (.ref it) .none ce)) [] s) :
    Seg (model P w) B R Yp n s0 (.compStart (.GeneratorExp elt [⟨tg, iter, [], 0⟩] sc gpos) 0 (.ref it) .none ce)
      ((model P w).den (.compStart (.GeneratorExp elt [⟨tg, iter, [], 0⟩] sc gpos) 0 (.ref it) .none ce)) [] s := by
  show Seg _ B _ _ _ s0 _ ((compStart (.GeneratorExp elt [⟨tg, iter, [], 0⟩] sc gpos) 0 (.ref it) .none ce).onRaise (leaving ce)) [] s
  unfold compStart
  rw [Sem.onRaise_eq_wrap]
  show Seg _ B _ _ _ s0 _ ((ask >>= _).wrap _ _ _ _) [] s
  apply seg_bind_wrap
  apply wpAny_askSetting
  split
  · exact seg_again rfl loop
  · apply seg_bind_wrap
    apply wpAny_rule
    show Seg _ B _ _ _ s0 _ ((standAt iter.pos >>= _).wrap _ _ _ _) [] s
    apply seg_bind_wrap
    apply wpAny_standAt
    apply seg_bind_wrap
    exact T.self _ 0 s _ _ st (seg_again rfl loop)

section
variable {Y : Cx} {A : Around} {a : Addr} {g : Nat} {go : Obj} {τ : L2.St} {Qt Qf : Hp → Prop}
theorem code_all {R : Result → Shared → Prop} (hh : A.handled = none) (hroom : A.depth < recursionLimit) (hpin : (a, go) ∈ Y.pn) (hgen : ∀ h : Heap, h.get? a = some go → h.IsGen a g)
    (hT : ∀ s H, Inv Y [] τ H s → Qt H → R (.ok (.ret (.bool true))) s) (hF : ∀ s H, Inv Y [] τ H s → Qf H → R (.ok (.ret (.bool false))) s) :
    ∀ (n : Nat) (s : Shared) (gs : GenState), s.heap.IsGen a g → s.heap.NoLimit → AllBare s.gens → s.gens[g]? = some gs →
      (∀ s2 : Shared, s2.heap = s.heap → s2.os = s.os → AllBare s2.gens →
        gs.Goes (model Y.prog Y.w) A.in1.in1 (fun n s₀ r s₁ => r = .ok .next ∧ RAll Y τ Qt n s₀ s₁) (YAll Y τ Qf) n (.send .none) s2) →
      codeAny (model Y.prog Y.w) A (.builtin "all.loop" ⟨[.ref a], []⟩) R s := by
  intro n
  induction n with
  | zero =>
    intro s gs hg hl hb hgs hgo
    refine codeAny_builtin F.entry_all_loop ?_
    rw [Around.under_plainId F.plain_all_loop _]
    show wpAny _ A.in1 (pyNext (.ref a) >>= _) _ _ s
    refine wpAny_bind (GenW.wpAny_gsz (n := g + 1) (Array.getElem?_eq_some_iff.mp hgs).1 (wpAny_pyNext_genexpQ (A := A.in1) (P := RAll Y τ Qt) hh hl hroom hg hgs (hgo _ rfl rfl (allBare_setGen hb rfl)) (fun v s1 gs' hb' hv hsz => ?_) (fun s1 hp h' hk hsz => ?_)))
    · obtain ⟨b, H, rfl, I, hf, ht⟩ := hv
      apply wpAny_bind
      apply wpAny_holding
      apply wpAny_truthy_bool
      apply wpAny_bind
      apply wpAny_letGo
      cases b with
      | true => exact (ht rfl s1 rfl rfl I.bare).elim
      | false =>
        simp only [Bool.false_eq_true, if_false]
        apply wpAny_bind
        apply wpAny_rule
        apply wpAny_pure
        exact hF _ H (inv_samehp I rfl rfl (allBare_setGen I.bare hb')) (hf rfl)
    · obtain ⟨H, I, q⟩ := hp
      apply wpAny_bind
      apply wpAny_rule
      apply wpAny_pure
      have I2 := inv_samehp (s2 := s1.setGen g .finished) I rfl rfl (allBare_setGen I.bare rfl)
      exact hT _ H (I2.kept (t' := (s1.setGen g .finished).toks) hk) q
  | succ n ih =>
    intro s gs hg hl hb hgs hgo
    refine codeAny_builtin F.entry_all_loop ?_
    rw [Around.under_plainId F.plain_all_loop _]
    show wpAny _ A.in1 (pyNext (.ref a) >>= _) _ _ s
    refine wpAny_bind (GenW.wpAny_gsz (n := g + 1) (Array.getElem?_eq_some_iff.mp hgs).1 (wpAny_pyNext_genexpQ (A := A.in1) (P := RAll Y τ Qt) hh hl hroom hg hgs (hgo _ rfl rfl (allBare_setGen hb rfl)) (fun v s1 gs' hb' hv hsz => ?_) (fun s1 hp h' hk hsz => ?_)))
    · obtain ⟨b, H, rfl, I, hf, ht⟩ := hv
      apply wpAny_bind
      apply wpAny_holding
      apply wpAny_truthy_bool
      apply wpAny_bind
      apply wpAny_letGo
      cases b with
      | true =>
        simp only [if_true]
        apply wpAny_pure
        refine ⟨plainId_quiet F.plain_all_loop _, ih _ gs' (hgen _ (I.pin (a, go) (List.mem_append_left _ hpin)).1) I.nolimit (allBare_setGen I.bare hb') (setGen_at ?_) fun s2 e1 e2 e3 => ht rfl s2 e1 e2 e3⟩
        rw [GenW.setGen_size] at hsz
        exact hsz
      | false =>
        simp only [Bool.false_eq_true, if_false]
        apply wpAny_bind
        apply wpAny_rule
        apply wpAny_pure
        exact hF _ H (inv_samehp I rfl rfl (allBare_setGen I.bare hb')) (hf rfl)
    · obtain ⟨H, I, q⟩ := hp
      apply wpAny_bind
      apply wpAny_rule
      apply wpAny_pure
      have I2 := inv_samehp (s2 := s1.setGen g .finished) I rfl rfl (allBare_setGen I.bare rfl)
      exact hT _ H (I2.kept (t' := (s1.setGen g .finished).toks) hk) q
end
end GX
set_option Elab.async false
set_option maxRecDepth 100000
set_option maxHeartbeats 4000000
namespace GX
open PySem PySem.Spec PyProof.Rows L2

section
variable {X : Cx} {pins : List (Addr × Obj)} {σ : L2.St} {H : Hp} {s : Shared}

/-- a generator expression has been made, ready to be walked, in the state s5; what stood ahead of its frame: s4 -/
structure Ready (X : Cx) (pins : List (Addr × Obj)) (σ : L2.St) (own : List (Str × Nat)) (sc : Scope) (elt tg iter : Expr) (gpos : Pos) (J : It) (H1 : Hp) (a : Addr) (s5 : Shared)
    (s4 : Shared) (cv : Value) (g : Nat) (go : Obj) (it : Addr) (fp : List Addr) (tn : Nat → Heap → Prop) : Prop where
  outer : Inv X pins σ H1 s4
  fps : ∀ b ∈ fp, FpOk X pins H1 b ∧ b < s4.heap.objs.size
  turn : Turn X.prog X.w X.K tg J fp it tn
  st : tn 0 s5.heap
  inner : ∀ B : Around, (X.calm = true → B.handled = none) → B.frames = some (gEnv X sc s4.heap.objs.size cv :: X.stack) →
    Inv (genCx X B s4 H1 (gEnv X sc s4.heap.objs.size cv) fp [(a, go)]) [] (wipe σ (own.map (·.2))) H1 s5
  gen : ∀ h : Heap, h.get? a = some go → h.IsGen a g
  at_ : s5.heap.get? a = some go
  old : a ∉ fp
  gs : s5.gens[g]? = some (.fresh (.compStart (.GeneratorExp elt [⟨tg, iter, [], 0⟩] sc gpos) 0 (.ref it) .none (gEnv X sc s4.heap.objs.size cv)))
  lim : s5.heap.NoLimit
  bare : AllBare s5.gens

theorem gx_make {c P : Addr} {own : List (Str × Nat)} {sc : Scope} {elt tg iter : Expr} {gpos : Pos} {wi : TI} {k : Nat} {R : It → Hp → Prop} {Q' : Value → Shared → Prop}
    (hr : Room k X.A) (TB : GxR.TabB X.base X.mg c P) (hcode : X.env.code = .ref c) (hN : X.N.Nodup)
    (ok : BlkOk X.N X.env.scope sc own) (nocell : ∀ y ∈ sc.names, y.2 ≠ .cell) (dot : sc.names.lookup (".0" : Str) = some NameKind.local) (hco : sc.isCoroutine = false)
    (hi : PI X tg iter wi) (hs : ∀ v, genFold iter X.env v = pure v)
    (I : Inv X pins σ H s) (h : wi σ H fun J H1 => Tab H1 P ∧ R J H1)
    (hQ : ∀ J H1 a s5 s4 cv g go it fp tn, R J H1 → Ready X pins σ own sc elt tg iter gpos J H1 a s5 s4 cv g go it fp tn → Q' (.ref a) s5) :
    wpAny (model X.prog X.w) X.A (eval (.GeneratorExp elt [⟨tg, iter, [], 0⟩] sc gpos) X.env) Q' X.xe s := by
  have caught : ∀ y ∈ sc.names, y.2 = .free → ∃ c, X.env.cells.lookup y.1 = some c := fun y hy e =>
    (ok.free y hy e).elim (fun z => I.ok.has _ (.inl z)) (fun z => I.ok.has _ (.inr z))
  refine wpAny_GeneratorExp_make hco (closure_ok caught) nocell dot ok.kind (by have := hr.dp; omega) ?_ hs
  refine thn (hi.run pins s σ H _ I h) fun xv s1 h1 => thn h1 fun itv s2 h2 => ?_
  obtain ⟨it, fp, tn, J, H2, rfl, I2, T, st2, f2, hT, hR⟩ := h2
  obtain ⟨⟨rs, hPs, ht⟩, _, _⟩ := I2.hok P _ hT
  have cd : PySem.W.CodeHd s2.heap c P := TB.code.keeps I2.bk
  refine ⟨I2.nolimit, ?_⟩
  have fsz : ∀ b ∈ fp, b < s2.heap.objs.size := fun b hb => by
    obtain ⟨o, e, _⟩ := T.obj _ _ st2 b hb
    exact Heap.lt_size e
  have neP : ∀ b ∈ fp, b ≠ P := fun b hb z => by
    have q := (f2 b hb).1
    have q2 : H2 P = some (.ext (TabE P)) := hT
    rw [z, q2] at q
    cases q
  have cont : ∀ (cv : Value) (s4 : Shared), Inv X pins σ H2 s4 → (∀ b o, b ≠ P → s2.heap.get? b = some o → s4.heap.get? b = some o) → s2.heap.objs.size ≤ s4.heap.objs.size →
      wpAny (model X.prog X.w) X.A (builtinsFor X.env.globals X.env.builtins) (fun bi s₄ => ∀ h', h'.Ns s₄.heap.objs.size (fun y => if y = ".0" then some (Value.ref it) else none) →
        Heap.SameBut s₄.heap.objs.size (s₄.heap.push { cls := .type "frame", data := .dict #[] }) h' →
          Q' (.ref h'.objs.size) { s₄ with
            gens := s₄.gens.push (.fresh (.compStart (.GeneratorExp elt [⟨tg, iter, [], 0⟩] sc gpos) 0 (.ref it) .none (genEnv sc (cloFrom X.env.cells sc.names []) s₄.heap.objs.size cv bi X.env))),
            toks := s₄.toks + 1 + 1 + 1,
            heap := h'.push { cls := .type "generator", data := .fields #[.int s₄.gens.size 0, .str "<genexpr>" (s₄.toks + 1), .str (X.env.qual ++ "<genexpr>") (s₄.toks + 1 + 1)] } }) X.xe s4 := by
    intro cv s4 I4 kp sz
    obtain ⟨bm, ob, e1, e2, e3, e4, e5, e6, e7, e8⟩ := TB.bm
    refine wpAny_builtinsFor (m := X.mg) (by rw [I4.ok.glob]; exact I4.mod.glob.keeps I4.bk) e1 e2 (I4.bk _ _ e5) e6 e7 e8 ?_
    intro h' hn' hs'
    have hsz : h'.objs.size = s4.heap.objs.size + 1 := by rw [hs'.1, Heap.size_push]
    have kp4 : ∀ b o, s4.heap.get? b = some o → (h'.push { cls := .type "generator", data := .fields #[.int s4.gens.size 0, .str "<genexpr>" (s4.toks + 1), .str (X.env.qual ++ "<genexpr>") (s4.toks + 1 + 1)] }).get? b = some o := fun b o e =>
      Heap.get?_push_of_some _ (hs'.extBut b o (Nat.ne_of_lt (Heap.lt_size e)) (Heap.get?_push_of_some _ e))
    have fok : ∀ b ∈ fp, FpOk X pins H2 b ∧ b < s4.heap.objs.size := fun b hb => ⟨f2 b hb, Nat.lt_of_lt_of_le (fsz b hb) sz⟩
    refine hQ J H2 h'.objs.size _ s4 cv s4.gens.size { cls := .type "generator", data := .fields #[.int s4.gens.size 0, .str "<genexpr>" (s4.toks + 1), .str (X.env.qual ++ "<genexpr>") (s4.toks + 1 + 1)] } it fp tn hR
      ⟨I4, fok, T, ?_, fun B hB hF => gen_start I4 ok nocell hN fok hB hF hn' hs' (fun v z => by cases z) (Heap.get?_push_size _ rfl) rfl, fun h e => ⟨_, _, _, e, rfl, rfl, rfl⟩, Heap.get?_push_size _ rfl, fun z => ?_, Array.getElem?_push_size .., I4.nolimit.keeps kp4, I4.bare.push rfl⟩
    · refine T.keep _ _ _ st2 fun b hb o e => kp4 b o (kp b o (neP b hb) e)
    · have q := (fok _ z).2
      rw [hsz] at q
      exact absurd q (Nat.not_lt.mpr (Nat.le_succ _))
  cases hf : codeAmong gpos rs.toList with
  | none =>
    refine wpAny_genexprCodeX hcode (cd.code hPs ht) (cd.tab hPs) hf fun c' h' tk hx hge hlt hco' _ htab' _ => ?_
    obtain ⟨o1, vs, f1, tf, fl, tg', inF, tx, tt, op, _, _, _, _, _, _, _, _, _, htr, _⟩ := hco'
    exact cont _ { s2 with heap := h', toks := tk } (tab_grown (tk := tk) (dd := s2.drawn) (G := s2.gens) I2 hT (fun b o hb e => hx b o hb e) htab'.2 htr I2.bare) (fun b o hb e => hx b o hb e) (Nat.le_trans hge (Nat.le_of_lt hlt))
  | some cv =>
    refine wpAny_genexprCode_hit hcode (cd.code hPs ht) hf ?_
    exact cont cv s2 I2 (fun b o _ e => e) (Nat.le_refl _)

/-- all(e for x in xs): J what is walked; W by the turn and a measure -/
def tAll (P : Addr) (wi : TI) (g : TG) (te : TE) (vs : List Nat) : TE := fun σ H Q => wi σ H fun J H1 => Tab H1 P ∧
  ∃ W : Nat → Nat → Hp → Prop, (∃ m, W 0 m H1) ∧ Step J g te vs (wipe σ vs) (Q (.bl true)) (Q (.bl false)) W

theorem over_gx {A : Around} {elt tg iter : Expr} {sc : Scope} {gpos : Pos} {it : Addr} {ce : Env} :
    (A.over (.compLoop (.GeneratorExp elt [⟨tg, iter, [], 0⟩] sc gpos) 0 (.ref it) .none ce) []).frames = A.frames.map (ce :: ·) := by
  show pushEnvs [ce] (pushEnvs [] A.frames) = _
  cases A.frames <;> rfl
theorem room_gx {A : Around} {k : Nat} {elt tg iter : Expr} {sc : Scope} {gpos : Pos} {it : Addr} {ce : Env} (r : Room (k + 1) A) :
    Room k (A.in1.in1.over (.compLoop (.GeneratorExp elt [⟨tg, iter, [], 0⟩] sc gpos) 0 (.ref it) .none ce) []) := by
  refine ⟨r.hd, ?_, ?_⟩
  · have := r.dp
    show A.depth + 0 + 1 + 3 * k + 5 < _
    omega
  · have := r.un
    show A.units + 1 + 1 + 0 + 3 + 16 * k + 200 < _
    omega

theorem pe_all {c P : Addr} {own : List (Str × Nat)} {sc : Scope} {elt tg iter : Expr} {p pos gpos : Pos} {wi : TI} {g : TG} {te : TE} {k : Nat}
    (hr : Room (k + 1) X.A) (hg : Gl X "all") (hm : X.mg "all" = none) (TB : GxR.TabB X.base X.mg c P) (hcode : X.env.code = .ref c) (hc : X.calm = true) (hN : X.N.Nodup)
    (ok : BlkOk X.N X.env.scope sc own) (nocell : ∀ y ∈ sc.names, y.2 ≠ .cell) (dot : sc.names.lookup (".0" : Str) = some NameKind.local) (hco : sc.isCoroutine = false)
    (hi : PI X tg iter wi) (pg : ∀ (B : Around) (s0 : Shared) (H0 : Hp) (C : Addr) (cv : Value) (fp : List Addr) (pn : List (Addr × Obj)), PG (genCx X B s0 H0 (gEnv X sc C cv) fp pn) tg g)
    (pe : ∀ (B : Around) (s0 : Shared) (H0 : Hp) (C : Addr) (cv : Value) (fp : List Addr) (pn : List (Addr × Obj)), Room k B → PE (genCx X B s0 H0 (gEnv X sc C cv) fp pn) elt te)
    (hs : ∀ v, genFold iter X.env v = pure v := by intro _; rfl)
    (he : starEach [.GeneratorExp elt [⟨tg, iter, [], 0⟩] sc gpos] X.env = (false, eval (.GeneratorExp elt [⟨tg, iter, [], 0⟩] sc gpos) X.env) :: starEach [] X.env := by rfl) :
    PE X (.Call (.Name "all" p) [.GeneratorExp elt [⟨tg, iter, [], 0⟩] sc gpos] [] pos) (tAll P wi g te (own.map (·.2))) := by
  refine ⟨fun pins s σ H Q I h => ?_⟩
  refine wpAny_Call_Name_kw (ld_blt I hg hm (show bootBuiltins "all" = some (.builtin "all") by decide +kernel) ?_)
  refine PyProof.Rows.callWith_builtin1 ?_ he (by rfl)
  rw [he]
  show wpAny _ _ (spliced ((false, eval (.GeneratorExp elt [⟨tg, iter, [], 0⟩] sc gpos) X.env) :: backTo pos (starEach [] X.env))) _ _ s
  refine Calls.spliced_cons (gx_make (own := own) (R := fun J H1 => ∃ W : Nat → Nat → Hp → Prop, (∃ m, W 0 m H1) ∧ Step J g te (List.map Prod.snd own) (wipe σ (List.map Prod.snd own)) (Q (.bl true)) (Q (.bl false)) W)
    hr TB hcode hN ok nocell dot hco hi hs I h fun J H1 a s5 s4 cv gn go it fp tn hR rd => ?_)
  obtain ⟨W, ⟨m0, w0⟩, step⟩ := hR
  refine Calls.spliced_nil ?_
  refine call_function_tree F.kind_all F.plain_all F.entry_all (F.args_all1 _) ?_
  unfold Builtin.«all»
  apply wpAny_bind (m := oneArg "all" _)
  apply wpAny_pure
  apply wpAny_bind
  refine wpAny_pyIter_gen (rd.gen _ rd.at_) ?_
  apply wpAny_pure
  refine ⟨plainId_quiet F.plain_all_loop _, ?_⟩
  -- the element's context
  have hB : X.calm = true → (X.A.in1.in1.over (.compLoop (.GeneratorExp elt [⟨tg, iter, [], 0⟩] sc gpos) 0 (.ref it) .none (gEnv X sc s4.heap.objs.size cv)) []).handled = none := fun z => I.ok.hd z
  have hF : (X.A.in1.in1.over (.compLoop (.GeneratorExp elt [⟨tg, iter, [], 0⟩] sc gpos) 0 (.ref it) .none (gEnv X sc s4.heap.objs.size cv)) []).frames = some (gEnv X sc s4.heap.objs.size cv :: X.stack) := by
    rw [over_gx]
    show X.A.frames.map _ = _
    rw [I.ok.frames]
    rfl
  have J5 := rd.inner _ hB hF
  have back : ∀ (s6 : Shared) (H6 : Hp), Inv (genCx X (X.A.in1.in1.over (.compLoop (.GeneratorExp elt [⟨tg, iter, [], 0⟩] sc gpos) 0 (.ref it) .none (gEnv X sc s4.heap.objs.size cv)) []) s4 H1 (gEnv X sc s4.heap.objs.size cv) fp [(a, go)]) [] (wipe σ (own.map (·.2))) H6 s6 →
      Inv X pins σ H6 s6 := fun s6 H6 I6 => by
    exact rd.outer.call' (ch := fp) I6.os I6.base I6.hok I6.bare fun b hb => ⟨(rd.fps b hb).1.2.2.2.1, (rd.fps b hb).1.2.1, (rd.fps b hb).1.2.2.2.2.1, (rd.fps b hb).1.2.2.2.2.2⟩
  refine code_all (Y := genCx X (X.A.in1.in1.over (.compLoop (.GeneratorExp elt [⟨tg, iter, [], 0⟩] sc gpos) 0 (.ref it) .none (gEnv X sc s4.heap.objs.size cv)) []) s4 H1 (gEnv X sc s4.heap.objs.size cv) fp [(a, go)])
    (A := X.A) (go := go) (g := gn) (τ := wipe σ (own.map (·.2))) (Qt := Q (.bl true)) (Qf := Q (.bl false)) hr.hd hr.depth (by simp) rd.gen
    (fun s6 H6 I6 q6 => ⟨.bl true, H6, back s6 H6 I6, rfl, q6⟩) (fun s6 H6 I6 q6 => ⟨.bl false, H6, back s6 H6 I6, rfl, q6⟩) (m0 + 1) s5 _ (rd.gen _ rd.at_) rd.lim rd.bare rd.gs (fun s7 e7 o7 b7 => ?_)
  have J7 := inv_samehp J5 e7 o7 b7
  have st7 : tn 0 s7.heap := by
    rw [e7]
    exact rd.st
  refine ⟨rfl, seg_all_start rd.turn st7 ?_⟩
  refine seg_all (Y := genCx X (X.A.in1.in1.over (.compLoop (.GeneratorExp elt [⟨tg, iter, [], 0⟩] sc gpos) 0 (.ref it) .none (gEnv X sc s4.heap.objs.size cv)) []) s4 H1 (gEnv X sc s4.heap.objs.size cv) fp [(a, go)])
    rfl hc hco (fun b hb => hb) (fun q hq => ?_) rfl (pg _ _ _ _ _ _ _) (pe _ _ _ _ _ _ _ (room_gx hr)) rd.turn step (fun τ2 hw k v e => ?_) (m0 + 1) 0 m0 s7 s7 H1 (Nat.lt_succ_self _) J7 st7 (fun b hb => (rd.fps b hb).1.1) w0
  · have e : q = (a, go) := by simpa using hq
    subst e
    exact rd.old
  · rw [← hw] at e
    exact (wipe_some e).1
end
end GX
set_option Elab.async false
set_option maxRecDepth 100000
set_option maxHeartbeats 4000000
namespace GX
open PySem PySem.Spec PyProof.Rows L2

/-- a walk of n turns by a word of its own: the next turn is reached -/
def AllNx (n : Nat) (Pv : Nat → Hp → Prop) (i : Nat) (H : Hp) : Prop := ∃ m', m' < n - i ∧ (m' = n - (i + 1) ∧ i + 1 ≤ n ∧ Pv (i + 1) H)
theorem AllNx.mk {n : Nat} {Pv : Nat → Hp → Prop} {i : Nat} {H : Hp} (hi : i < n) (p : Pv (i + 1) H) : AllNx n Pv i H := ⟨n - (i + 1), by omega, rfl, hi, p⟩
theorem all_by {J : It} {g : TG} {te : TE} {vs : List Nat} {τ : L2.St} {Qt Qf : Hp → Prop} {H1 : Hp} (n : Nat) (Pv : Nat → Hp → Prop) (h0 : Pv 0 H1)
    (turn : ∀ i H, i < n → Pv i H → J.go i H ∧ ∀ x H', J.yld i H x H' → g x τ H' fun τ2 H2 => wipe τ2 vs = τ ∧ te τ2 H2 fun y H3 => ∃ b, y = V.bl b ∧ (b = true → AllNx n Pv i H3) ∧ (b = false → Qf H3))
    (stop : ∀ H, Pv n H → J.stop n H ∧ Qt H) :
    ∃ W : Nat → Nat → Hp → Prop, (∃ m, W 0 m H1) ∧ Step J g te vs τ Qt Qf W := by
  refine ⟨fun i m H => m = n - i ∧ i ≤ n ∧ Pv i H, ⟨n, rfl, Nat.zero_le _, h0⟩, ?_⟩
  rintro i m H ⟨rfl, hi, p⟩
  by_cases hlt : i < n
  · obtain ⟨go, nx⟩ := turn i H hlt p
    exact .inr ⟨go, nx⟩
  · have e : i = n := by omega
    subst e
    exact .inl (stop H p)
theorem bf {b : Bool} (h : ¬ b = true) : b = false := by
  cases b with
  | true => exact absurd rfl h
  | false => rfl
end GX

namespace RS
open PySem PySem.Spec PyProof.Rows L2 GX
/-! ### defs as constants of the module -/
/-- the def st stands as the module's x; c: its code object -/
structure DefAt (K : PySem.W.Frag) (mg : Str → Option Value) (x : Str) (st : Stmt) (c : Addr) : Prop where
  ex : ∃ (f : Addr) (oc : Value) (od : Option Addr) (kV doc pm : Value) (an : Option Addr) (ct : Value) (osl : Array (Option Value)),
    mg x = some (.ref f) ∧ K.lookup f = some ⟨oc, od, .func (PySem.W.fnOf x x (defArgs st) (defBody st) (defScope st) .none kV doc pm an (.ref c) ct), osl⟩ ∧
    PySem.W.codeIn K (.ref c) x = true ∧ PySem.W.keepIn K (.ref f) = true
/-- what a caller needs of a def: its promise -/
structure Cal (P : Program) (w : World) (K : PySem.W.Frag) (mg : Str → Option Value) (base : Heap) (CX : CXT) (k : Nat) (x : Str) (ps : List Str) (sp : Sp) : Prop where
  ex : ∃ (f : Addr) (fd : FuncData), FnOk P w K mg base CX k f fd ps sp ∧ mg x = some (.ref f) ∧ PySem.W.keepIn K (.ref f) = true ∧ Binds K fd ps []
section
variable {P : Program} {w : World} {K : PySem.W.Frag} {mg : Str → Option Value} {base : Heap}
theorem def_ok {CX : CXT} {x : Str} {st : Stmt} {c : Addr} {N ps : List Str} {k : Nat} {sp : Sp} (D : DefAt K mg x st c) (S : FnScope N ps (defScope st)) (len : ∀ vs H Q E, sp vs H Q E → vs.length = ps.length)
    (hb : ∀ (kV doc pm : Value) (an : Option Addr) (cdv ct : Value) (us : List Value), us.length = ps.length → bindArgs (PySem.W.fnOf x x (defArgs st) (defBody st) (defScope st) .none kV doc pm an cdv ct) ⟨us, []⟩ = pure (ps.zip us))
    (hbody : ∀ (f : Addr) (A : Around) (outer : List Env) (s : Shared) (H : Hp) (vs : List V) (Q : VK) (E : XK), Room k (A.deeper (envOfC x (defScope st) s.heap.objs.size f (.ref c))) → sp vs H Q E →
      ∃ t, PSs (cxOf CX P w K mg base N x (defScope st) f (.ref c) A outer s H E) (defBody st) t ∧ t { nx := fun _ H' => Q .non H', rt := Q } (start N vs) H) :
    Cal P w K mg base CX (k + 1) x ps sp := by
  obtain ⟨f, oc, od, kV, doc, pm, an, ct, osl, hm, lk, hcd, kp⟩ := D.ex
  exact ⟨f, _, fn_of lk hcd S len fun A outer s H vs Q E hr hsp => hbody f A outer s H vs Q E hr hsp, hm, kp, .all (hb kV doc pm an (.ref c) ct)⟩
/-- .. that no exception leaves -/
theorem def_ok0 {x : Str} {st : Stmt} {c : Addr} {N ps : List Str} {k : Nat} {sp : Sp} (D : DefAt K mg x st c) (S : FnScope N ps (defScope st)) (len : ∀ vs H Q E, sp vs H Q E → vs.length = ps.length)
    (hb : ∀ (kV doc pm : Value) (an : Option Addr) (cdv ct : Value) (us : List Value), us.length = ps.length → bindArgs (PySem.W.fnOf x x (defArgs st) (defBody st) (defScope st) .none kV doc pm an cdv ct) ⟨us, []⟩ = pure (ps.zip us))
    (hbody : ∀ (f : Addr) (A : Around) (outer : List Env) (s : Shared) (H : Hp) (vs : List V) (Q : VK) (E : XK), Room k (A.deeper (envOfC x (defScope st) s.heap.objs.size f (.ref c))) → sp vs H Q E →
      ∃ t, PSs (cxOf CX0 P w K mg base N x (defScope st) f (.ref c) A outer s H E).nox (defBody st) t ∧ t { nx := fun _ H' => Q .non H', rt := Q } (start N vs) H) :
    Cal P w K mg base CX0 (k + 1) x ps sp :=
  def_ok D S len hb fun f A outer s H vs Q E hr hsp => by
    obtain ⟨t, ht, q⟩ := hbody f A outer s H vs Q E hr hsp
    exact ⟨t, ht.nox, q⟩
end
section
variable {X : Cx} {CX : CXT} {k j : Nat} {ps : List Str} {sp : Sp} {E : XK} {x : Str} {p pos : Pos} {e : Expr} {es : List Expr} {t : TA}
theorem pe_c (c : Cal X.prog X.w X.K X.mg X.base CX k x ps sp) (hr : Room j X.A) (hk : k ≤ j) (hg : Gl X x) (hx : Passes CX X E) (ha : PA X (e :: es) t) (hdb : (x == ("__debug__" : Str)) = false := by decide)
    (he : starEach (e :: es) X.env = (false, eval e X.env) :: starEach es X.env := by rfl) (hpl : (backTo pos (starEach es X.env)).any (·.1) = false := by rfl) :
    PE X (.Call (.Name x p) (e :: es) [] pos) (tCall sp [] E t) := by
  obtain ⟨f, fd, F, hm, kp, hb⟩ := c.ex
  exact pe_call F (hr.mono hk) hg hm kp hb .nil hx ha hdb he hpl
end

/-! ### data -/
theorem sqT_same {K : PySem.W.Frag} {H H' : Hp} {a : Addr} {xs : List V} (e : Same H H') (h : SqT K H a xs) : SqT K H' a xs := by
  rcases h with (h | ⟨o, h⟩) | h
  · exact .inl (.inl (e _ _ h))
  · exact .inl (.inr ⟨o, e _ _ h⟩)
  · exact .inr h
mutual
theorem dp_same {K : PySem.W.Frag} {H H' : Hp} (e : Same H H') : ∀ (d : PyData) {v : V}, Dp K H v d → Dp K H' v d
  | .none, _, .non => .non
  | .bool b, _, .bl _ => .bl b
  | .int i, _, .int _ => .int i
  | .str x, _, .str _ => .str x
  | .list ds, _, .lst h hs => .lst (e.seq h) (dpAll_same e ds hs)
  | .tuple ds, _, .tup h hs => .tup (sqT_same e h) (dpAll_same e ds hs)
  | .dict _, _, h => nomatch h
theorem dpAll_same {K : PySem.W.Frag} {H H' : Hp} (e : Same H H') : ∀ (ds : List PyData) {vs : List V}, DpAll K H vs ds → DpAll K H' vs ds
  | [], _, .nil => .nil
  | d :: ds, _, .cons h hs => .cons (dp_same e d h) (dpAll_same e ds hs)
end
theorem dpLen {K : PySem.W.Frag} {H : Hp} : ∀ {vs : List V} {ds : List PyData}, DpAll K H vs ds → vs.length = ds.length
  | _, _, .nil => rfl
  | _, _, .cons _ t => congrArg (· + 1) (dpLen t)
theorem dpGet {K : PySem.W.Frag} {H : Hp} : ∀ {vs : List V} {ds : List PyData} {i : Nat} {v : V}, DpAll K H vs ds → vs[i]? = some v → ∃ d, ds[i]? = some d ∧ Dp K H v d
  | _, _, _, _, .nil, e => by simp at e
  | _, _, 0, _, .cons h _, e => by
    simp at e
    subst e
    exact ⟨_, rfl, h⟩
  | _, _, i + 1, v, .cons _ t, e => by
    obtain ⟨d, h1, h2⟩ := dpGet (i := i) (v := v) t (by simpa using e)
    exact ⟨d, by simpa using h1, h2⟩
theorem dpGet' {K : PySem.W.Frag} {H : Hp} {vs : List V} {ds : List PyData} {i : Nat} {d : PyData} (h : DpAll K H vs ds) (e : ds[i]? = some d) : ∃ v, vs[i]? = some v ∧ Dp K H v d := by
  have hl := dpLen h
  have hi : i < vs.length := by
    rw [hl]
    exact (List.getElem?_eq_some_iff.mp e).1
  obtain ⟨d', e', h'⟩ := dpGet h (List.getElem?_eq_getElem hi)
  rw [e] at e'
  cases e'
  exact ⟨_, List.getElem?_eq_getElem hi, h'⟩
theorem dpApp {K : PySem.W.Frag} {H : Hp} : ∀ {vs ws : List V} {ds es : List PyData}, DpAll K H vs ds → DpAll K H ws es → DpAll K H (vs ++ ws) (ds ++ es)
  | _, _, _, _, .nil, h => h
  | _, _, _, _, .cons h t, q => .cons h (dpApp t q)

/-- the name of a datum's type -/
def tyN : PyData → String
  | .none => "NoneType"
  | .bool _ => "bool"
  | .int _ => "int"
  | .str _ => "str"
  | .list _ => "list"
  | .tuple _ => "tuple"
  | .dict _ => "dict"
/-- isinstance(d, T), d's type being n -/
def isT (T n : String) : Bool := T == n || (T == "int" && n == "bool")
def isI (T : String) (d : PyData) : Bool := isT T (tyN d)
theorem kit_names : ∀ n ∈ ["NoneType", "bool", "int", "str", "list", "tuple"], ∀ T ∈ ["int", "bool", "str", "list", "tuple"], kitB n T = some (isT T n) := by decide +kernel
theorem dp_ty {K : PySem.W.Frag} {H : Hp} {v : V} {d : PyData} (h : Dp K H v d) : TyX K H v (.type (tyN d)) := by
  cases h with
  | non => exact .base .non
  | bl b => exact .base (.bl b)
  | int i => exact .base (.int i)
  | str x => exact .base (.str x)
  | lst q _ =>
    rcases q with (q | ⟨o, q⟩) | ⟨o, its, n, q, c, _⟩
    · exact .base (.lst q)
    · exact .base (.frz q)
    · exact .kList q c
  | tup q _ =>
    rcases q with (q | ⟨o, q⟩) | ⟨o, its, n, q, c, _⟩
    · exact .base (.tup q)
    · exact .fTuple q
    · exact .kTuple q c
theorem kit_isI {K : PySem.W.Frag} {T : String} (hT : T ∈ ["int", "bool", "str", "list", "tuple"]) {H : Hp} {v : V} {d : PyData} (h : Dp K H v d) : PySem.W.kitOne K (.type (tyN d)) (.type T) = some (isI T d) := by
  refine kit_ty (kit_names _ ?_ _ hT)
  cases h <;> simp [tyN]
theorem isi_at {K : PySem.W.Frag} {H : Hp} {v : V} {d : PyData} {T : String} {Q : VK} (h : Dp K H v d) (q : Q (.bl (isI T d)) H) (hT : T ∈ ["int", "bool", "str", "list", "tuple"] := by simp) : rIsi K [v, .ty T] H Q :=
  ⟨v, .ty T, _, _, isI T d, rfl, .ty T, dp_ty h, kit_isI hT h, q⟩
end RS
set_option Elab.async false
set_option maxRecDepth 100000
set_option maxHeartbeats 4000000
namespace RS
open PySem PySem.Spec PyProof.Rows L2 GX
section
variable {X : Cx}
/-! ### rules whose readings speak of data -/
/-- isinstance(x, T) -/
theorem call_isiD : CallR X (.builtin "isinstance") (fun xs H Q => ∃ x T d, xs = [x, .ty T] ∧ T ∈ ["int", "bool", "str", "list", "tuple"] ∧ Dp X.K H x d ∧ Q (.bl (isI T d)) H) := by
  intro pins s σ H xs us Q I r ⟨x, T, d, e, hT, hd, q⟩
  subst e
  exact call_isi pins s σ H _ us Q I r ⟨x, .ty T, _, _, isI T d, rfl, .ty T, dp_ty hd, kit_isI hT hd, q⟩
/-- how many items -/
def lenD : PyData → Option Nat
  | .list ds => some ds.length
  | .tuple ds => some ds.length
  | .str x => if x.length ≤ sizeLine then some x.length else none
  | _ => none
/-- len(x) of a list, a tuple, a text -/
theorem call_lenD : CallR X (.builtin "len") (fun xs H Q => ∃ x d n, xs = [x] ∧ Dp X.K H x d ∧ lenD d = some n ∧ Q (.int n) H) := by
  intro pins s σ H xs us Q I r ⟨x, d, n, e, hd, hn, q⟩
  subst e
  cases hd with
  | non => cases hn
  | bl _ => cases hn
  | int _ => cases hn
  | str y =>
    simp only [lenD] at hn
    split at hn
    · rename_i hz
      cases hn
      exact call_len_str pins s σ H _ us Q I r ⟨y, rfl, hz, q⟩
    · cases hn
  | @lst a ys ds h hs =>
    cases hn
    rw [← dpLen hs] at q
    exact call_len_seq pins s σ H _ us Q I r ⟨a, ys, rfl, .inl h, q⟩
  | @tup a ys ds h hs =>
    cases hn
    rw [← dpLen hs] at q
    exact call_len_seq pins s σ H _ us Q I r ⟨a, ys, rfl, .inr h, q⟩
/-- the items of a list or tuple -/
def itemsD : PyData → Option (List PyData)
  | .list ds => some ds
  | .tuple ds => some ds
  | _ => none
/-- x[i] of a list or a tuple -/
theorem ixD : IxR X (fun x y H Q => ∃ d ds i d', Dp X.K H x d ∧ itemsD d = some ds ∧ y = .int i ∧ atI ds i = some d' ∧ ∀ v, Dp X.K H v d' → Q v H) := by
  intro value slice pins s σ H x y v u Q I rx ry ⟨d, ds, i, d', hd, hi, ey, ha, q⟩ hs
  have at_ : ∀ {vs : List V}, DpAll X.K H vs ds → ∃ v, atI vs i = some v ∧ Dp X.K H v d' := fun {vs} hv => by
    unfold atI at ha ⊢
    rw [← dpLen hv] at ha
    cases hx : ixN vs.length i with
    | none => rw [hx] at ha; cases ha
    | some j =>
      rw [hx] at ha
      exact dpGet' hv ha
  cases hd with
  | non => cases hi
  | bl _ => cases hi
  | int _ => cases hi
  | str _ => cases hi
  | @lst a ys es h hes =>
    cases hi
    obtain ⟨z, hz, hzd⟩ := at_ hes
    exact ix_list value slice pins s σ H _ y v u Q I rx ry ⟨a, ys, i, z, rfl, ey, h, hz, q z hzd⟩ hs
  | @tup a ys es h hes =>
    cases hi
    obtain ⟨z, hz, hzd⟩ := at_ hes
    exact ix_tup value slice pins s σ H _ y v u Q I rx ry ⟨a, ys, i, z, rfl, ey, h, hz, q z hzd⟩ hs
end
end RS
set_option Elab.async false
set_option maxRecDepth 100000
set_option maxHeartbeats 4000000
namespace RS
open PySem L2
def top (i : Nat) : Stmt := PySem.Challenge.pw_runsorts_k02_refused.main.body.getD i (.Pass ⟨0, 0, 0, 0⟩)

abbrev s__wall : Stmt := top 1
abbrev s_BadRows_init : Stmt := inClass (top 6) 0
abbrev s_BadRuns_init : Stmt := inClass (top 7) 0
abbrev s_BadText_init : Stmt := inClass (top 18) 0
abbrev sIsNumber : Stmt := top 26
abbrev sIsWord : Stmt := top 27
abbrev sIsValue : Stmt := top 28
abbrev sIsRow : Stmt := top 29
abbrev sIsPart : Stmt := top 30
abbrev sCheckKinds : Stmt := top 31
abbrev sCheckOrder : Stmt := top 32
abbrev sCheckRows : Stmt := top 33
abbrev sWorths : Stmt := top 34
abbrev sRank : Stmt := top 35
abbrev s_goes_ahead : Stmt := top 36
abbrev sXInit : Stmt := inClass (top 38) 0
abbrev sLetIn : Stmt := inClass (top 38) 1
abbrev sLetOut : Stmt := inClass (top 38) 2
abbrev sIsOver : Stmt := inClass (top 38) 3
abbrev sHolds : Stmt := inClass (top 38) 4
abbrev sNext : Stmt := inClass (top 38) 5
abbrev sCheckSize : Stmt := top 41
abbrev sNumbered : Stmt := top 42
abbrev sFilled : Stmt := top 43
abbrev sExchanged : Stmt := top 44
abbrev s_check_block : Stmt := top 48
abbrev s_check_weight : Stmt := top 49
abbrev s_Disk_init : Stmt := inClass (top 50) 0
abbrev s_Disk_write : Stmt := inClass (top 50) 1
abbrev s_Disk_settle : Stmt := inClass (top 50) 2
abbrev s_Disk_read : Stmt := inClass (top 50) 3
abbrev s_Disk_arm : Stmt := inClass (top 50) 4
abbrev s_Disk_stop : Stmt := inClass (top 50) 5
abbrev s_Disk_again : Stmt := inClass (top 50) 6
abbrev s_Disk_blocks : Stmt := inClass (top 50) 7
abbrev s_Disk_let_go : Stmt := inClass (top 50) 8
abbrev s_Disk_do_deed : Stmt := inClass (top 50) 9
abbrev s_Disk_check_runs : Stmt := inClass (top 50) 10
abbrev s_is_told : Stmt := top 53
abbrev s_is_run : Stmt := top 54
abbrev s_check_runs : Stmt := top 55
abbrev s_merged : Stmt := top 56
abbrev s_merged_pair : Stmt := top 57
abbrev s_written_order : Stmt := top 59
abbrev s_read_order : Stmt := top 60
abbrev s_is_figures : Stmt := top 61
abbrev s_Sieve_init : Stmt := inClass (top 63) 0
abbrev s_Sieve_put : Stmt := inClass (top 63) 1
abbrev s_Sieve_take : Stmt := inClass (top 63) 2
abbrev s_Sieve_remains : Stmt := inClass (top 63) 3
abbrev s_Join_init : Stmt := inClass (top 65) 0
abbrev s_Join_is_over : Stmt := inClass (top 65) 1
abbrev s_Join_take : Stmt := inClass (top 65) 2
abbrev s_Join_head : Stmt := inClass (top 65) 3
abbrev s_Join_go_on : Stmt := inClass (top 65) 4
abbrev s_State_init : Stmt := inClass (top 70) 0
abbrev s_State_told : Stmt := inClass (top 70) 1
abbrev s_State_twin : Stmt := inClass (top 70) 2
abbrev s_State_is_made : Stmt := inClass (top 70) 3
abbrev s_State_is_done : Stmt := inClass (top 70) 4
abbrev s_State_many_merged : Stmt := inClass (top 70) 5
abbrev s_State_shortest : Stmt := inClass (top 70) 6
abbrev s_State_add_made : Stmt := inClass (top 70) 7
abbrev s_State_end_merge : Stmt := inClass (top 70) 8
abbrev s_Store_init : Stmt := inClass (top 71) 0
abbrev s_Store_take_found : Stmt := inClass (top 71) 1
abbrev s_Store_is_needed : Stmt := inClass (top 71) 2
abbrev s_Store_lay : Stmt := inClass (top 71) 3
abbrev s_Store_look : Stmt := inClass (top 71) 4
abbrev s_Store_look_at_came : Stmt := inClass (top 71) 5
abbrev s_Store_has_all : Stmt := inClass (top 71) 6
abbrev s_Store_numbers_made : Stmt := inClass (top 71) 7
abbrev s_Store_commit : Stmt := inClass (top 71) 8
abbrev s_Store_sweep : Stmt := inClass (top 71) 9
abbrev s_check_sizes : Stmt := top 78
abbrev s_Sorter_init : Stmt := inClass (top 79) 0
abbrev s_Sorter_put : Stmt := inClass (top 79) 1
abbrev s_Sorter_shut : Stmt := inClass (top 79) 2
abbrev s_Sorter_step : Stmt := inClass (top 79) 3
abbrev s_Sorter_is_done : Stmt := inClass (top 79) 4
abbrev s_Sorter_rows : Stmt := inClass (top 79) 5
abbrev s_Sorter_told_runs : Stmt := inClass (top 79) 6
abbrev s_Sorter_under_way : Stmt := inClass (top 79) 7
abbrev s_Sorter_first : Stmt := inClass (top 79) 8
abbrev s_Sorter_counts : Stmt := inClass (top 79) 9
abbrev s_Sorter_most_rows : Stmt := inClass (top 79) 10
abbrev s_Sorter_free : Stmt := inClass (top 79) 11
abbrev s_Sorter_begin_deed : Stmt := inClass (top 79) 12
abbrev s_Sorter_end_deed : Stmt := inClass (top 79) 13
abbrev s_Sorter_note_rows : Stmt := inClass (top 79) 14
abbrev s_Sorter_lay_came : Stmt := inClass (top 79) 15
abbrev s_Sorter_make_page : Stmt := inClass (top 79) 16
abbrev s_Sorter_merge_page : Stmt := inClass (top 79) 17
abbrev s_Sorter_join_to_merge : Stmt := inClass (top 79) 18
abbrev s_Sorter_join_of_all : Stmt := inClass (top 79) 19
abbrev sBegun : Stmt := top 81
abbrev sTake : Stmt := top 82
abbrev sAlike : Stmt := top 83
abbrev sClass : Stmt := top 84
abbrev sTold : Stmt := top 85
abbrev sAll : Stmt := top 86
abbrev sKinds : Stmt := top 87
abbrev sOrder : Stmt := top 88
abbrev sValue : Stmt := top 89
abbrev sRows : Stmt := top 90
abbrev sAhead : Stmt := top 91
abbrev sSorted : Stmt := top 92
abbrev sPairs : Stmt := top 93
abbrev sBadRow : Stmt := top 94
abbrev s__law_bad_rows : Stmt := top 95
abbrev s__law_bad_kinds : Stmt := top 96
abbrev s__law_bad_order : Stmt := top 97
abbrev s__law_heads_right : Stmt := top 98
abbrev sLaw : Stmt := top 99

abbrev nKinds : Str := "_law_kinds_here"

/-- what the module's names hold -/
structure Txt (K : PySem.W.Frag) (mg : Str → Option Value) : Prop where
  isinstance : mg "isinstance" = none
  int_ : mg "int" = none
  bool_ : mg "bool" = none
  str_ : mg "str" = none
  list_ : mg "list" = none
  tuple_ : mg "tuple" = none
  len : mg "len" = none
  all : mg "all" = none
  zip : mg "zip" = none
  enumerate : mg "enumerate" = none
  ord : mg "ord" = none
  range : mg "range" = none
  sorted : mg "sorted" = none
  max : mg "max" = none
  min : mg "min" = none
  columns : ∃ t, mg "MOST_COLUMNS" = some (.int 4 t)
  number : ∃ t, mg "MOST_NUMBER" = some (.int 999 t)
  letters : ∃ t, mg "MOST_LETTERS" = some (.int 6 t)
  rows : ∃ t, mg "MOST_ROWS" = some (.int 120 t)
  room : ∃ t, mg "MOST_ROOM" = some (.int 24 t)
  leastw : ∃ t, mg "LEAST_WAYS" = some (.int 2 t)
  mostw : ∃ t, mg "MOST_WAYS" = some (.int 5 t)
  kinds : ∃ a, mg "KINDS" = some (.ref a) ∧ ∀ H, SqT K H a [.str "number", .str "word"]
  ways : ∃ a, mg "WAYS" = some (.ref a) ∧ ∀ H, SqT K H a [.str "up", .str "down"]
end RS
set_option Elab.async false
set_option maxRecDepth 100000
set_option maxHeartbeats 0
namespace RS
open PySem PySem.W PySem.Calls PyProof.Rows
def loo0 : List PySem.Str := ["_wall", "SortError", "BadKinds", "BadOrder", "BadRows", "BadRuns", "BadRoom", "BadLengths", "BadPlan", "BadPaper", "BadCount", "BadBlock", "Stopped", "Shut", "NotYet", "Empty", "BadText", "MOST_COLUMNS", "KINDS", "WAYS"]
def loo1 : List PySem.Str := ["MOST_NUMBER", "MOST_LETTERS", "MOST_ROWS", "is_number", "is_value", "is_part", "check_order", "check_rows", "worths", "rank", "goes_ahead", "Exchange", "MOST_ROOM", "check_size", "numbered", "exchanged", "MANY_BLOCKS", "MOST_WEIGHT", "check_block", "check_weight"]
def loo2 : List PySem.Str := ["Disk", "MOST_RUNS", "is_told", "is_run", "check_runs", "merged", "merged_pair", "written_order", "read_order", "is_figures", "Sieve", "Join", "ROOT", "CAME", "NEW", "State", "Store", "MOST_PAGE", "LEAST_WAYS", "MOST_WAYS"]
def loo3 : List PySem.Str := ["MOST_PUT", "MOST_FIRST", "check_sizes", "Sorter", "_law_begun", "_law_take", "_law_alike", "_law_class", "_law_told", "_law_all", "_law_kinds", "_law_order", "_law_value", "_law_rows", "_law_ahead", "_law_sorted", "_law_pairs", "_law_bad_row", "_law_bad_rows", "_law_bad_kinds"]
def loo4 : List PySem.Str := ["_law_bad_order"]
def loo : List PySem.Str := loo0 ++ loo1 ++ loo2 ++ loo3 ++ loo4
def qv : Program := view (PySem.W.OpenLaw.row PySem.Challenge.rw_runsorts_k02_refused).prog [0, 27, 29, 31, 43, 98, 99]
def mapT (s : SharedT) : List Addr → List (Option Obj)
  | [] => []
  | a :: r => HandSHeadRun.getT s a :: mapT s r
theorem mapT_eq (s : SharedT) : ∀ l : List Addr, mapT s l = l.map s.abs.heap.get?
  | [] => rfl
  | a :: r => by
    show HandSHeadRun.getT s a :: mapT s r = s.abs.heap.get? a :: r.map s.abs.heap.get?
    rw [HandSHeadRun.getT_eq, mapT_eq s r]
def obT (as ts : List Addr) (s : SharedT) : List (Option Obj) × List (Option Obj) := (mapT s as, mapT s ts)
def RunK (r : OpenRow) (q : Program) (K : Params → Frag) (as ts : List Addr) (e : ∀ P, as = (K P).map (·.1)) (M : Nat) (loose : List PySem.Str) (w : World) : Prop :=
  (HandSHeadRun.wholeF (fun p => HandSHeadRun.stepQ (HandSHeadRun.denQ HandSHeadRun.tabQ) p w) HandSHeadRun.fenceQ M r.prog).map (fun x => (HandSHeadRun.looksF r.prog x.1.heap x.2.abs, HandSHeadRun.seenQ q loose (importedModules r.prog.main.body) (fun s => xlAt q [] s && recOk r.toRowW.records s) x.2.abs, obT as ts x.2)) = some (true, openGood q loose, (kmHook K as e ts).val w)
theorem head_km {r : OpenRow} {q : Program} {K : Params → Frag} {as ts : List Addr} {e : ∀ P, as = (K P).map (·.1)} {M : Nat} {loose : List PySem.Str} {d : DefRec} {kwd : List (PySem.Str × PySem.Expr)}
    (run : ∀ w : World, RunK r q K as ts e M loose w)
    (hdef : defOf q r.name = some (d, kwd)) (hp : r.prog.theDef r.name = some (d.params, d.body, d.scope)) (hk : kwWritten? d.params.kwonlyargs d.params.kw_defaults = some kwd)
    (hwr : (!r.writes || r.records.isEmpty) = true) (k1 : r.wellSaid = true) (ok : (chainsOk q && opensWell r.prog && (frees r.toRowW && r.within.isEmpty)) = true) (hb : r.prog.bare) (hw : r.toRowW.promised)
    (call : WalkO q loose (XL q []) (kmHook K as e ts).says r.toRowW d kwd fun f vs => PySem.call f vs) : r.Holds := by
  refine HandSHeadRun.head_imp (H := kmHook K as e ts) (ob := obT as ts) (fun s => ?_) run hdef hp hk hwr k1 ok hb hw call
  show obT as ts s = (as.map s.abs.heap.get?, ts.map s.abs.heap.get?)
  unfold obT
  rw [mapT_eq, mapT_eq]
def asK0 : List Addr := [2, 3, 43, 45, 46, 48, 49, 50, 57, 58, 59, 60, 63, 70, 71, 72, 75, 82, 83, 84, 87, 94, 96, 97, 99, 100, 101, 102, 103, 106, 113, 115, 116, 118, 119, 120, 121, 122, 125, 132]
def asK1 : List Addr := [133, 134, 137, 144, 145, 146, 149, 156, 157, 158, 161, 168, 169, 170, 173, 180, 181, 182, 185, 192, 193, 194, 197, 204, 205, 206, 209, 216, 217, 218, 221, 228, 229, 230, 233, 240, 241, 242, 245, 252]
def asK2 : List Addr := [254, 255, 257, 258, 259, 260, 261, 264, 265, 266, 268, 269, 271, 272, 273, 275, 276, 278, 279, 280, 282, 283, 285, 286, 287, 289, 290, 292, 293, 294, 296, 297, 299, 300, 301, 303, 304, 306, 307, 308]
def asK3 : List Addr := [310, 311, 313, 314, 315, 317, 318, 320, 321, 322, 325, 326, 327, 330, 331, 332, 334, 335, 337, 338, 346, 348, 349, 351, 352, 353, 355, 356, 358, 359, 360, 362, 363, 365, 366, 367, 369, 370, 372, 373]
def asK4 : List Addr := [374, 376, 377, 379, 380, 381, 383, 384, 386, 387, 388, 389, 390, 391, 392, 395, 397, 398, 400, 401, 402, 404, 405, 407, 408, 409, 412, 413, 414, 416, 417, 419, 420, 421, 423, 424, 426, 427, 428, 430]
def asK5 : List Addr := [431, 433, 434, 442, 444, 445, 447, 448, 449, 451, 452, 454, 455, 456, 458, 459, 461, 462, 463, 465, 466, 468, 469, 470, 472, 473, 475, 476, 477, 479, 480, 482, 483, 484, 486, 487, 489, 490, 491, 493]
def asK6 : List Addr := [494, 496, 497, 498, 500, 501, 503, 504, 505, 507, 508, 510, 511, 512, 514, 515, 517, 518, 519, 520, 521, 522, 523, 526, 528, 529, 531, 532, 533, 535, 536, 538, 539, 540, 542, 543, 545, 546, 547, 550]
def asK7 : List Addr := [551, 552, 554, 555, 557, 558, 559, 562, 563, 564, 566, 567, 569, 570, 571, 573, 574, 576, 577, 585, 587, 588, 590, 591, 592, 594, 595, 597, 598, 599, 601, 602, 604, 605, 606, 608, 609, 611, 612, 613]
def asK8 : List Addr := [614, 615, 616, 617, 627, 630, 631, 632, 634, 635, 637, 638, 639, 641, 642, 644, 645, 646, 648, 649, 651, 652, 653, 655, 656, 658, 659, 660, 661, 662, 663, 664, 667, 668, 669, 677, 680, 681, 682, 684]
def asK9 : List Addr := [685, 687, 688, 689, 692, 693, 694, 696, 697, 699, 700, 701, 703, 704, 706, 707, 708, 710, 711, 713, 714, 715, 717, 718, 720, 721, 722, 724, 725, 727, 728, 729, 731, 732, 734, 735, 736, 737, 738, 739]
def asK10 : List Addr := [740, 750, 752, 753, 755, 756, 757, 759, 760, 762, 763, 764, 766, 767, 769, 770, 771, 773, 774, 776, 777, 778, 780, 781, 783, 784, 785, 787, 788, 790, 791, 792, 794, 795, 797, 798, 799, 801, 802, 804]
def asK11 : List Addr := [805, 806, 808, 809, 811, 812, 813, 816, 817, 818, 819, 820, 821, 822, 825, 828, 829, 837, 839, 840, 842, 843, 844, 846, 847, 849, 850, 851, 853, 854, 856, 857, 858, 860, 861, 863, 864, 865, 867, 868]
def asK12 : List Addr := [870, 871, 872, 874, 875, 877, 878, 879, 881, 882, 884, 885, 886, 888, 889, 891, 892, 893, 895, 896, 898, 899, 900, 902, 903, 905, 906, 907, 909, 910, 912, 913, 914, 916, 917, 919, 920, 921, 923, 924]
def asK13 : List Addr := [926, 927, 928, 930, 931, 933, 934, 935, 937, 938, 940, 941, 942, 945, 946, 947, 949, 950, 952, 953, 954, 956, 957, 959, 960, 961, 963, 964, 966, 967, 968, 971, 972, 973, 974, 975, 976, 977, 980, 982]
def asK14 : List Addr := [983, 985, 986, 987, 989, 990, 992, 993, 994, 996, 997, 999, 1000, 1001, 1003, 1004, 1006, 1007, 1008, 1010, 1011, 1013, 1014, 1015, 1018, 1019, 1020, 1023, 1024, 1025, 1027, 1028, 1030, 1031, 1032, 1035, 1036, 1037, 1040, 1041]
def asK15 : List Addr := [1061, 1063, 1064, 1066, 1067, 1068, 1071, 1072, 1073, 1075, 1076, 1078, 1079, 1080, 1082, 1083, 1085, 1086, 1087, 1089, 1090, 1092, 1093, 1094, 1097, 1098]
def asK : List Addr := asK0 ++ (asK1 ++ (asK2 ++ (asK3 ++ (asK4 ++ (asK5 ++ (asK6 ++ (asK7 ++ (asK8 ++ (asK9 ++ (asK10 ++ (asK11 ++ (asK12 ++ (asK13 ++ (asK14 ++ (asK15)))))))))))))))
def tsK : List Addr := [1088, 410, 1095]
end RS
section
local macro_rules | `(tactic| o_head $_) => `(tactic| assumption)
open PySem PySem.W PySem.Calls PyProof.Rows in
theorem RS.pre (hh : (OpenLaw.row PySem.Challenge.rw_runsorts_k02_refused).Holds) : PySem.Challenge.rw_runsorts_k02_refused.Holds := by
  w_on; o_law; k_head
end
namespace RS
open PySem PySem.W PySem.Calls PyProof.Rows
theorem eK : ∀ P, asK = (RS.pre.heap_39 P).map (·.1) := fun _ => by kernel_rfl
theorem runK (w : World) : RunK (PySem.W.OpenLaw.row PySem.Challenge.rw_runsorts_k02_refused) qv RS.pre.heap_39 asK tsK eK 40000 loo w := by
  show _ = _
  kernel_rfl
end RS
set_option Elab.async false
set_option maxRecDepth 100000
set_option maxHeartbeats 4000000
namespace RS
open PySem PySem.Spec PyProof.Rows L2 GX

/-! ### the mathematics: what a number, a word, a value, a row is -/
def isNum (d : PyData) : Bool := isI "int" d && !isI "bool" d

section
variable {P : Program} {w : World} {K : PySem.W.Frag} {mg : Str → Option Value} {base : Heap}
theorem scIsNumber : FnScope ["value"] ["value"] (defScope sIsNumber) := ⟨rfl, rfl, rfl, by decide +kernel, rfl, by decide +kernel, by decide +kernel⟩
def spNum (K : PySem.W.Frag) : Sp := fun vs H Q _ => ∃ (v : V) (d : PyData), vs = [v] ∧ Dp K H v d ∧ Q (.bl (isNum d)) H
theorem is_number_ok {c : Addr} (D : DefAt K mg "is_number" sIsNumber c) (T : Txt K mg) : Cal P w K mg base CX0 1 "is_number" ["value"] (spNum K) := by
  have sc := scIsNumber
  refine def_ok0 D sc (fun vs H Q E h => ?_) (fun _ _ _ _ _ _ us hl => match us, hl with | [_], _ => rfl) (fun f A outer s H vs Q E hr h => ?_)
  · obtain ⟨v, d, rfl, _⟩ := h
    rfl
  · obtain ⟨v, d, rfl, hd, k⟩ := h
    refine ⟨_, (pss_one (ps_ret (pe_and (pe_callB call_isiD (by rfl) T.isinstance (by decide +kernel) (pa_cons (pv 0) (pa_cons (pe_bltn (v := V.ty "int") (u := Value.type "int") (by rfl) T.int_ (by decide +kernel) rfl) pa_nil))) (pe_one (pe_not (pe_callB call_isiD (by rfl) T.isinstance (by decide +kernel) (pa_cons (pv 0) (pa_cons (pe_bltn (v := V.ty "bool") (u := Value.type "bool") (by rfl) T.bool_ (by decide +kernel) rfl) pa_nil)))))))), ?_⟩
    refine ⟨_, rfl, _, _, _, rfl, by simp, hd, _, rfl, ?_⟩
    refine ite2 (fun h1 => ?_) (fun h1 => ?_)
    · refine ⟨_, rfl, _, _, _, rfl, by simp, hd, _, rfl, ?_⟩
      have e : isNum d = !isI "bool" d := by unfold isNum; rw [h1, Bool.true_and]
      rw [← e]
      exact k
    · have e : isNum d = false := by unfold isNum; rw [bf h1, Bool.false_and]
      rw [← e]
      exact k

end
end RS
set_option Elab.async false
set_option maxRecDepth 100000
set_option maxHeartbeats 4000000
namespace RS
open PySem PySem.Spec PyProof.Rows L2 GX

/-! ### kinds, values, rows -/
/-- the name of a kind: true a word's, false a number's -/
def kindS (b : Bool) : Str := if b then "word" else "number"
def kindsD (ks : List Bool) : PyData := .tuple (ks.map fun b => .str (kindS b))
theorem kindS_word (b : Bool) : decide (V.str (kindS b) = V.str "word") = b := by
  cases b
  · decide +kernel
  · decide +kernel
theorem isNum_int {K : PySem.W.Frag} {H : Hp} {v : V} {d : PyData} (h : Dp K H v d) (e : isNum d = true) : ∃ n, d = .int n ∧ v = .int n := by
  cases h <;> first | exact ⟨_, rfl, rfl⟩ | (simp [isNum, isI, isT, tyN] at e)

end RS
set_option Elab.async false
set_option maxRecDepth 100000
set_option maxHeartbeats 4000000
namespace RS
open PySem PySem.Spec PyProof.Rows L2 GX

/-- many new objects are laid and tracked at once -/
theorem laid_many {X : Cx} {pins : List (Addr × Obj)} {σ : L2.St} {H H2 : Hp} {s : Shared} {g : Heap} {tk : Nat} (I : Inv X pins σ H s) (kp : ∀ b u, s.heap.get? b = some u → g.get? b = some u)
    (old : ∀ b, b < s.heap.objs.size → H2 b = H b) (new : ∀ b o, s.heap.objs.size ≤ b → H2 b = some o → ObjOk X.prog X.w H2 g b o) : Inv X pins σ H2 { s with heap := g, toks := tk } := by
  have up : ∀ b o, H b = some o → H2 b = some o := fun b o e => by rw [old b (I.hok.lt e)]; exact e
  refine I.un (t' := tk) ⟨fun b o e _ _ _ => kp b o e, fun b o e _ _ _ => ⟨o.slots, kp b o e⟩, fun b o e n _ => by rw [old b (Heap.lt_size e)]; exact n, fun b o e _ => ⟨o, kp b o e⟩,
    fun b xs e => up b _ e, fun b o u e => up b _ e, fun b ps e => ⟨#[], by rw [up b _ e, Array.append_empty]⟩⟩ (fun b o e => ?_)
  by_cases hb : b < s.heap.objs.size
  · rw [old b hb] at e
    exact (I.hok b o e).stay (fun c u _ q => kp c u q) (fun c q => up c _ q) (fun c xs q => up c _ q)
  · exact new b o (Nat.le_of_not_lt hb) e

theorem enum_no_len : typeLookup (.type "enumerate") "__len__" = pure none := by rw [typeLookup_type, builtinLookup_eq_fast]; kernel_rfl
theorem enum_no_hint : typeLookup (.type "enumerate") "__length_hint__" = pure none := by rw [typeLookup_type, builtinLookup_eq_fast]; kernel_rfl

/-- the enumeration e over the iterator it of the list l stands ahead of item i -/
def EnumAt (h : Heap) (e it l : Addr) (i : Nat) : Prop :=
  h.IsListIter it l i ∧ ((i = 0 ∧ IsEnum h e it 0 .none) ∨ ∃ (T : Addr) (f : Bool) (x : Value) (o : Obj), IsEnumHeld h e it (i : Int) x T f ∧ h.get? T = some o ∧ T ≠ e ∧ T ≠ it)
/-- the pairs that have been put into acc -/
def Pairs (h : Heap) (lo : Nat) (items : Array Value) (acc : Array Value) : Prop :=
  ∀ j v, acc[j]? = some v → ∃ (T : Addr) (tk : Nat) (x : Value), v = .ref T ∧ lo ≤ T ∧ items[j]? = some x ∧ h.get? T = some { cls := .type "tuple", data := .seq #[.int (j : Nat) tk, x] }
section
variable {prog : Program} {w : World} {A : Around} {s0 : Shared} {S e it l : Addr} {items : Array Value}
theorem enum_next {E : Value → Shared → Prop} {s : Shared} {i : Nat} {x : Value} {Q : Option Value → Shared → Prop} (hs : EnumAt s.heap e it l i) (hl : s.heap.IsList l items) (hx : items[i]? = some x) (hne : e ≠ it)
    (he : e < s.heap.objs.size) (hi : it < s.heap.objs.size)
    (hQ : ∀ g, EnumAt g e it l (i + 1) → g.get? s.heap.objs.size = some { cls := .type "tuple", data := .seq #[.int (i : Nat) s.toks, x] } → (∀ b o, b ≠ e → b ≠ it → s.heap.get? b = some o → g.get? b = some o) →
      Q (some (.ref s.heap.objs.size)) { s with heap := g, toks := s.toks + 1 }) : wpAny (model prog w) A (pyNext (.ref e)) Q E s := by
  obtain ⟨hit, ⟨rfl, h0⟩ | ⟨T, f, y, o, h1, hT, hTe, hTi⟩⟩ := hs
  · refine wpAny_pyNext_enum_item (i := 0) h0 hit hl hx hne fun g a b c _ d => hQ g ⟨b, .inr ⟨_, _, _, _, a, c, Nat.ne_of_gt he, Nat.ne_of_gt hi⟩⟩ c d
  · exact wpAny_pyNext_enum_item_held h1 hT hTe hTi hit hl hx hne fun g a b c _ d => hQ g ⟨b, .inr ⟨T, true, y, o, a, d T o hTe hTi hT, hTe, hTi⟩⟩ c d
theorem enum_stop {E : Value → Shared → Prop} {s : Shared} {i : Nat} {Q : Option Value → Shared → Prop} (hh : A.handled = none) (hs : EnumAt s.heap e it l i) (hl : s.heap.IsList l items) (hx : items[i]? = none)
    (hQ : ∀ g, Heap.ExtBut it s.heap g → Q none { s with heap := g }) : wpAny (model prog w) A (pyNext (.ref e)) Q E s := by
  obtain ⟨hit, ⟨rfl, h0⟩ | ⟨T, f, y, o, h1, hT, hTe, hTi⟩⟩ := hs
  · exact wpAny_pyNext_enum_end hh h0 hit hl hx hQ
  · exact wpAny_pyNext_enum_end_held hh h1 hit hl hx hQ

theorem enum_loop {R : Result → Shared → Prop} {res : Value} (hh : A.handled = none) (hne : e ≠ it) (hSe : S ≠ e) (hSi : S ≠ it) (hSl : S ≠ l) (hle : l ≠ e) (hli : l ≠ it) (lo : Nat) (hz : items.size ≤ sizeLine)
    (hend : ∀ g tk acc c, g.get? S = some (lstObj acc c) → acc.size = items.size → Pairs g lo items acc → (∀ b o, b ≠ e → b ≠ it → b ≠ S → s0.heap.get? b = some o → g.get? b = some o) → R (.ok (.ret res)) { s0 with heap := g, toks := tk }) :
    ∀ (k i : Nat) (g : Heap) (tk : Nat) (acc : Array Value) (c : Nat), items.size - i = k → i ≤ items.size → acc.size = i → g.get? S = some (lstObj acc c) → EnumAt g e it l i → g.IsList l items → lo ≤ g.objs.size → e < lo → it < lo → S < lo →
      Pairs g lo items acc → (∀ b o, b ≠ e → b ≠ it → b ≠ S → s0.heap.get? b = some o → g.get? b = some o) →
      codeAny (model prog w) A (.builtin "list.extend.loop" ⟨[.ref S, .ref e, res], []⟩) R { s0 with heap := g, toks := tk } := by
  intro k
  induction k with
  | zero =>
    intro i g tk acc c hk hi ha hS he hl hlo helo hilo hSlo hp hkp
    have hin : i = items.size := by omega
    refine codeAny_builtin F.entry_extend_loop ?_
    rw [Around.under_plainId F.plain_extend_loop _]
    show wpAny _ A.in1 (pyNext (.ref e) >>= _) _ _ _
    refine wpAny_bind (enum_stop (s := { s0 with heap := g, toks := tk }) hh he hl (by rw [hin]; simp) fun g2 ext => ?_)
    refine wpAny_pure (hend g2 tk acc c (ext S _ hSi hS) (by omega) (fun j v hv => ?_) (fun b o h1 h2 h3 q => ext b o h2 (hkp b o h1 h2 h3 q)))
    obtain ⟨T, tk', x, e1, e2, e3, e4⟩ := hp j v hv
    exact ⟨T, tk', x, e1, e2, e3, ext T _ (Nat.ne_of_gt (Nat.lt_of_lt_of_le hilo e2)) e4⟩
  | succ k ih =>
    intro i g tk acc c hk hi ha hS he hl hlo helo hilo hSlo hp hkp
    have hlt : i < items.size := by omega
    refine codeAny_builtin F.entry_extend_loop ?_
    rw [Around.under_plainId F.plain_extend_loop _]
    show wpAny _ A.in1 (pyNext (.ref e) >>= _) _ _ _
    refine wpAny_bind (enum_next (s := { s0 with heap := g, toks := tk }) he hl (Array.getElem?_eq_getElem hlt) hne (Nat.lt_of_lt_of_le helo hlo) (Nat.lt_of_lt_of_le hilo hlo) fun g2 he2 hT2 hk2 => ?_)
    have hS2 : g2.get? S = some (lstObj acc c) := hk2 S _ hSe hSi hS
    have gT : g.objs.size ≠ S := fun z => Nat.lt_irrefl _ (Nat.lt_of_lt_of_le (by rw [z]; exact hSlo) hlo)
    have gTe : g.objs.size ≠ e := fun z => Nat.lt_irrefl _ (Nat.lt_of_lt_of_le (by rw [z]; exact helo) hlo)
    have gTi : g.objs.size ≠ it := fun z => Nat.lt_irrefl _ (Nat.lt_of_lt_of_le (by rw [z]; exact hilo) hlo)
    show wpAny _ A.in1 (updateSeq S (·.push (.ref g.objs.size)) >>= _) _ _ _
    apply wpAny_bind
    refine wpAny_updateSeq hS2 rfl (wpAny_pure ⟨plainId_quiet F.plain_extend_loop _, ?_⟩) (by omega) (by show (acc.push _).size ≤ sizeLine + 1; rw [Array.size_push]; omega)
    have up : ∀ b o, b ≠ S → g2.get? b = some o → (g2.update S (Obj.mapSeq (·.push (.ref g.objs.size)))).get? b = some o := fun b o hb q => (Heap.get?_update_other _ _ (Ne.symm hb)).trans q
    have lt2 : g.objs.size < g2.objs.size := Heap.lt_size hT2
    refine ih (i + 1) _ _ (acc.push (.ref g.objs.size)) _ (by omega) hlt (by rw [Array.size_push]; omega) (Heap.get?_update_self _ hS2 rfl) ?_ ?_ ?_ helo hilo hSlo (fun j v hv => ?_) (fun b o h1 h2 h3 q => up b o h3 (hk2 b o h1 h2 (hkp b o h1 h2 h3 q)))
    · obtain ⟨⟨oi, hoi, r⟩, hd⟩ := he2
      refine ⟨⟨oi, up it oi (Ne.symm hSi) hoi, r⟩, ?_⟩
      rcases hd with ⟨z, q⟩ | ⟨T, f, x, o, q1, q2, q3, q4⟩
      · exact .inl ⟨z, up e _ (Ne.symm hSe) q⟩
      · by_cases hTS : T = S
        · subst hTS
          exact .inr ⟨T, f, x, _, up e _ (Ne.symm hSe) q1, Heap.get?_update_self _ hS2 rfl, q3, q4⟩
        · exact .inr ⟨T, f, x, o, up e _ (Ne.symm hSe) q1, up T o hTS q2, q3, q4⟩
    · obtain ⟨ol, hol, r⟩ := hl
      exact ⟨ol, up l ol (Ne.symm hSl) (hk2 l ol hle hli hol), r⟩
    · rw [Heap.size_update]
      exact Nat.le_trans hlo (Nat.le_of_lt lt2)
    · rw [Array.getElem?_push] at hv
      split at hv
      · rename_i hj
        cases hv
        have ej : j = i := by omega
        subst ej
        exact ⟨g.objs.size, tk, items[j], rfl, hlo, Array.getElem?_eq_getElem hlt, up _ _ gT hT2⟩
      · obtain ⟨T, tk', x, e1, e2, e3, e4⟩ := hp j v hv
        have nTS : T ≠ S := Nat.ne_of_gt (Nat.lt_of_lt_of_le hSlo e2)
        exact ⟨T, tk', x, e1, e2, e3, up T _ nTS (hk2 T _ (Nat.ne_of_gt (Nat.lt_of_lt_of_le helo e2)) (Nat.ne_of_gt (Nat.lt_of_lt_of_le hilo e2)) e4)⟩
end
end RS
set_option Elab.async false
set_option maxRecDepth 100000
set_option maxHeartbeats 4000000
namespace RS
open PySem PySem.Spec PyProof.Rows L2 GX

/-- list(e), e an enumeration of the list l that has just been made -/
theorem list_of_enum {P : Program} {w : World} {A : Around} {E : Value → Shared → Prop} {s : Shared} {e it l : Addr} {items : Array Value} {Q : Value → Shared → Prop} (hh : A.handled = none) (he : IsEnum s.heap e it 0 .none) (hit : s.heap.IsListIter it l 0) (hl : s.heap.IsList l items)
    (hne : e ≠ it) (hle : l ≠ e) (hli : l ≠ it) (hz : items.size ≤ sizeLine)
    (hQ : ∀ g tk acc c, g.get? s.heap.objs.size = some (lstObj acc c) → acc.size = items.size → Pairs g (s.heap.objs.size + 1) items acc → (∀ b o, b ≠ e → b ≠ it → s.heap.get? b = some o → g.get? b = some o) → Q (.ref s.heap.objs.size) { s with heap := g, toks := tk }) :
    wpAny (model P w) A (call (.type "list") [.ref e]) Q E s := by
  have lte : e < s.heap.objs.size := Heap.lt_size he
  have lti : it < s.heap.objs.size := by obtain ⟨o, ho, _⟩ := hit; exact Heap.lt_size ho
  have ltl : l < s.heap.objs.size := by obtain ⟨o, ho, _⟩ := hl; exact Heap.lt_size ho
  have hSe : s.heap.objs.size ≠ e := Nat.ne_of_gt lte
  have tyE : ∀ {g : Heap}, (∀ b o, s.heap.get? b = some o → g.get? b = some o) → ({ s with heap := g } : Shared).TypeIs (.ref e) "enumerate" := fun {g} q => ⟨_, q _ _ he, rfl⟩
  refine callType_codes (Q₁ := fun obj s₁ => obj = .ref s.heap.objs.size ∧ s₁ = { s with heap := s.heap.push { cls := .type "list", data := .seq #[] } }) PySem.F.called_list (PySem.F.typeCall_list_1 _) PySem.F.entry_list_init
    (code_list_new _ ⟨rfl, rfl⟩) fun obj s₁ h₁ => ?_
  obtain ⟨rfl, rfl⟩ := h₁
  have hS : (s.heap.push { cls := .type "list", data := .seq #[] }).get? s.heap.objs.size = some { cls := .type "list", data := .seq #[] } := Heap.get?_push_size _ rfl
  refine ⟨⟨_, hS, rfl⟩, PySem.F.args_list_init_2 _ _, ?_⟩
  show wpAny _ A.in1.in1 (do
    let old ← Builtin.List.listItems (.ref s.heap.objs.size)
    Builtin.List.listUpdate (.ref s.heap.objs.size) (fun _ => #[])
    letGo old.toList.reverse
    Builtin.List.listExtendWith (.ref s.heap.objs.size) (.ref e) .none) _ _ _
  apply wpAny_bind
  unfold Builtin.List.listItems
  refine wpAny_bind (wpAny_seqItems hS rfl (wpAny_pure ?_))
  show wpAny _ A.in1.in1 (updateSeq s.heap.objs.size (fun _ => #[]) >>= fun _ => letGo (#[] : Array Value).toList.reverse >>= fun _ =>
    Builtin.List.listExtendWith (.ref s.heap.objs.size) (.ref e) .none) _ _ _
  refine wpAny_bind (wpAny_updateSeq hS rfl ?_)
  have hS2 := Heap.get?_update_self (Obj.mapSeq (fun _ => (#[] : Array Value))) hS rfl
  apply wpAny_bind
  apply wpAny_letGo
  unfold Builtin.List.listExtendWith
  have up : ∀ (h : Heap) (f : Obj → Obj), (∀ b o, s.heap.get? b = some o → h.get? b = some o) → ∀ b o, s.heap.get? b = some o → (h.update s.heap.objs.size f).get? b = some o := fun h f q b o y =>
    (Heap.get?_update_other _ _ (Ne.symm (Nat.ne_of_lt (Heap.lt_size y)))).trans (q b o y)
  have k1 : ∀ b o, s.heap.get? b = some o → (s.heap.push { cls := .type "list", data := .seq #[] }).get? b = some o := fun b o y => Heap.get?_push_of_some _ y
  have k2 := up _ (Obj.mapSeq (fun _ => (#[] : Array Value))) k1
  apply wpAny_bind
  refine wpAny_typeOf (tyE k2) ?_
  have h1 : Builtin.List.listSameRef (.ref s.heap.objs.size) (.ref e) = false := by simp [Builtin.List.listSameRef, hSe]
  have h2 : (Value.type "enumerate" == Value.type "list") = false := by decide
  have h3 : (Value.type "enumerate" == Value.type "tuple") = false := by decide
  simp only [h1, h2, h3, Bool.or_false, Bool.false_eq_true, if_false]
  apply wpAny_bind
  refine wpAny_pyIter_enum (s := { s with heap := _ }) (k2 _ _ he) ?_
  apply wpAny_bind
  apply wpAny_holding
  unfold Builtin.List.listLengthHint
  apply wpAny_bind
  refine wpAny_specialOf (tyE k2) enum_no_len ?_
  show wpAny _ A.in1.in1 (specialOf (Value.ref e) (Str.ofString "__length_hint__") >>= _) _ _ _
  apply wpAny_bind
  refine wpAny_specialOf (tyE k2) enum_no_hint ?_
  apply wpAny_pure
  show wpAny _ A.in1.in1 (rule "list.extend.makes-room" >>= fun _ => Builtin.List.listTouch (.ref s.heap.objs.size) >>= fun _ =>
    again (.builtin "list.extend.loop" ⟨[.ref s.heap.objs.size, .ref e, .none], []⟩)) _ _ _
  apply wpAny_bind
  apply wpAny_rule
  apply wpAny_bind
  show wpAny _ A.in1.in1 (updateSeq s.heap.objs.size (·.push .none) >>= fun _ => updateSeq s.heap.objs.size (·.pop)) _ _ _
  refine wpAny_bind (wpAny_updateSeq hS2 rfl ?_)
  have hS3 := Heap.get?_update_self (Obj.mapSeq (·.push Value.none)) hS2 rfl
  refine wpAny_updateSeq (hz := by seq_fits) hS3 rfl ?_
  have hS4 := Heap.get?_update_self (Obj.mapSeq (·.pop)) hS3 rfl
  have k4 := up _ (Obj.mapSeq (·.pop)) (up _ (Obj.mapSeq (·.push Value.none)) k2)
  refine wpAny_pure ⟨plainId_quiet PySem.F.plain_extend_loop _, ?_⟩
  refine enum_loop (s0 := s) (A := A.in1) (S := s.heap.objs.size) hh hne hSe (Nat.ne_of_gt lti) (Nat.ne_of_gt ltl) hle hli (s.heap.objs.size + 1) hz
    (fun g tk acc c q1 q2 q3 q4 => ⟨rfl, hQ g tk acc c q1 q2 q3 fun b o n1 n2 y => q4 b o n1 n2 (Nat.ne_of_lt (Heap.lt_size y)) y⟩) items.size 0 _ s.toks #[] _ (Nat.sub_zero _) (Nat.zero_le _) rfl hS4 ⟨?_, .inl ⟨rfl, k4 _ _ he⟩⟩ ?_ ?_
    (Nat.lt_succ_of_lt lte) (Nat.lt_succ_of_lt lti) (Nat.lt_succ_self _) (fun j v hv => by simp at hv) (fun b o _ _ _ y => k4 b o y)
  · obtain ⟨o, ho, r⟩ := hit
    exact ⟨o, k4 _ _ ho, r⟩
  · obtain ⟨o, ho, r⟩ := hl
    exact ⟨o, k4 _ _ ho, r⟩
  · exact Heap.lt_size hS4

/-- list(enumerate(e)) -/
def tLE (K : PySem.W.Frag) (te : TE) : TE := fun σ H Q => te σ H fun v H1 => ∃ a xs, v = .ref a ∧ SqL K H1 a xs ∧
  ∀ (H2 : Hp) (p : Addr) (ts : List Addr), Same H1 H2 → H1 p = none → H2 p = some (.lst (ts.map V.ref)) → ts.length = xs.length →
    (∀ (i : Nat) (x : V), xs[i]? = some x → ∃ T, ts[i]? = some T ∧ H1 T = none ∧ H2 T = some (.tup [.int i, x])) → Q (.ref p) H2
section
variable {X : Cx} {e : Expr} {te : TE} {p1 p2 q1 q2 : Pos}
theorem pe_le (hc : X.calm = true) (hg : Gl X "list") (hm : X.mg "list" = none) (hg2 : Gl X "enumerate") (hm2 : X.mg "enumerate" = none) (he : PE X e te)
    (hs : starEach [e] X.env = [(false, eval e X.env)] := by rfl)
    (hs2 : starEach [.Call (.Name "enumerate" q1) [e] [] q2] X.env = [(false, eval (.Call (.Name "enumerate" q1) [e] [] q2) X.env)] := by rfl) :
    PE X (.Call (.Name "list" p1) [.Call (.Name "enumerate" q1) [e] [] q2] [] p2) (tLE X.K te) := by
  refine ⟨fun pins s σ H Q I h => ?_⟩
  refine wpAny_Call_Name_kw (ld_blt I hg hm (show bootBuiltins "list" = some (.type "list") by decide +kernel) ?_)
  refine PyProof.Rows.callWith_type1 ?_ hs2 rfl
  rw [hs2]
  show wpAny _ _ (spliced [(false, eval (.Call (.Name "enumerate" q1) [e] [] q2) X.env)]) _ _ s
  refine Calls.spliced_cons ?_
  refine wpAny_Call_Name_kw (ld_blt I hg2 hm2 (show bootBuiltins "enumerate" = some (.type "enumerate") by decide +kernel) ?_)
  refine PyProof.Rows.callWith_type1 ?_ hs rfl
  rw [hs]
  show wpAny _ _ (spliced [(false, eval e X.env)]) _ _ s
  refine Calls.spliced_cons (thn (he.run pins s σ H _ I h) fun u s1 ⟨v, H1, I1, r1, a, xs, ev, hq, q⟩ => ?_)
  subst ev
  cases r1
  obtain ⟨its, rv, pl, hz⟩ := I1.list hq
  have lits : its.toArray.size = xs.length := by rw [List.size_toArray]; exact rv.length.symm
  have lta : a < s1.heap.objs.size := by obtain ⟨o, ho, _⟩ := pl.isList; exact Heap.lt_size ho
  refine Calls.spliced_nil ?_
  refine call_enumerate_list pl.isList fun g hen hit hsz hk => ?_
  refine Calls.spliced_nil ?_
  have I2 : Inv X pins σ H1 { s1 with heap := g } := I1.kept (t' := s1.toks) hk
  have hl2 : g.IsList a its.toArray := by
    obtain ⟨o, ho, r⟩ := pl.isList
    exact ⟨o, hk _ _ ho, r⟩
  refine list_of_enum (s := { s1 with heap := g }) (I1.ok.hd hc) hen hit hl2 (Nat.succ_ne_self _) (Nat.ne_of_lt (Nat.lt_succ_of_lt lta)) (Nat.ne_of_lt lta) (by rw [lits]; exact hz) fun g2 tk acc c hS ha hp hk2 => ?_
  -- what is new
  have szg : g.objs.size = s1.heap.objs.size + 2 := hsz
  have kall : ∀ b o, s1.heap.get? b = some o → g2.get? b = some o := fun b o y => by
    have lt := Heap.lt_size y
    exact hk2 b o (Nat.ne_of_lt (Nat.lt_succ_of_lt lt)) (Nat.ne_of_lt lt) (hk b o y)
  have sym : ∀ (i : Nat) (x : V), xs[i]? = some x → ∃ (T : Addr) (tk' : Nat) (u : Value), acc[i]? = some (.ref T) ∧ g.objs.size + 1 ≤ T ∧ RelV x u ∧ g2.get? T = some { cls := .type "tuple", data := .seq #[.int (i : Nat) tk', u] } := fun i x hx => by
    have hi : i < acc.size := by
      rw [ha, lits]
      exact (List.getElem?_eq_some_iff.mp hx).1
    obtain ⟨T, tk', u, e1, e2, e3, e4⟩ := hp i _ (Array.getElem?_eq_getElem hi)
    obtain ⟨u', hu', ru⟩ := rv.get hx
    have e3' : its[i]? = some u := by simpa using e3
    rw [hu'] at e3'
    cases e3'
    exact ⟨T, tk', u, by rw [Array.getElem?_eq_getElem hi, e1], e2, ru, e4⟩
  let adr : Value → Addr := fun v => match v with | .ref b => b | _ => 0
  have hts : ∀ v ∈ acc.toList, v = .ref (adr v) := fun v hv => by
    obtain ⟨j, hj⟩ := List.getElem?_of_mem hv
    obtain ⟨T, _, _, e1, _⟩ := hp j v (by simpa using hj)
    rw [e1]
  have tlen : (acc.toList.map adr).length = xs.length := by rw [List.length_map, Array.length_toList, ha, lits]
  have tget : ∀ (i : Nat) (x : V), xs[i]? = some x → ∃ (T : Addr) (tk' : Nat) (u : Value), (acc.toList.map adr)[i]? = some T ∧ g.objs.size + 1 ≤ T ∧ RelV x u ∧ g2.get? T = some { cls := .type "tuple", data := .seq #[.int (i : Nat) tk', u] } := fun i x hx => by
    obtain ⟨T, tk', u, e1, e2, e3, e4⟩ := sym i x hx
    refine ⟨T, tk', u, ?_, e2, e3, e4⟩
    rw [List.getElem?_map, Array.getElem?_toList, e1]
    rfl
  -- the new abstract heap
  let mk : Addr → Option HO := fun b => if b = g.objs.size then some (.lst ((acc.toList.map adr).map V.ref)) else
    match (List.range xs.length).find? (fun i => (acc.toList.map adr)[i]? == some b) with
    | some i => (xs[i]?).map fun x => .tup [.int (i : Nat), x]
    | none => none
  let H2 : Hp := fun b => if b < g.objs.size then H1 b else mk b
  have at_T : ∀ (i : Nat) (x : V) (T : Addr), xs[i]? = some x → (acc.toList.map adr)[i]? = some T → H2 T = some (.tup [.int (i : Nat), x]) := fun i x T hx hT => by
    obtain ⟨T', tk', u, f1, f2, _, f4⟩ := tget i x hx
    rw [hT] at f1
    cases f1
    show (if T < g.objs.size then H1 T else if T = g.objs.size then _ else _) = _
    rw [if_neg (Nat.not_lt.mpr (Nat.le_of_succ_le f2)), if_neg (Nat.ne_of_gt f2)]
    cases hf : (List.range xs.length).find? (fun i => (acc.toList.map adr)[i]? == some T) with
    | none =>
      have z := List.find?_eq_none.mp hf i (List.mem_range.mpr (List.getElem?_eq_some_iff.mp hx).1)
      rw [hT] at z
      simp at z
    | some j =>
      have hj := List.find?_some hf
      have hj2 := List.mem_range.mp (List.mem_of_find?_eq_some hf)
      have hj3 : (acc.toList.map adr)[j]? = some T := by simpa using hj
      obtain ⟨T2, tk2, u2, g1, _, g3, g4⟩ := tget j xs[j] (List.getElem?_eq_getElem hj2)
      rw [hj3] at g1
      cases g1
      rw [f4] at g4
      have e0 : (#[Value.int (i : Nat) tk', u] : Array Value) = #[.int (j : Nat) tk2, u2] := by
        injection (Option.some.inj g4) with _ _ d
        injection d
      have e5 : i = j := by
        have z := congrArg (fun a : Array Value => a[0]?) e0
        simp at z
        omega
      subst e5
      show Option.map (fun x => HO.tup [V.int (i : Nat), x]) xs[i]? = _
      rw [hx]
      rfl
  have I3 : Inv X pins σ H2 { s1 with heap := g2, toks := tk } := by
    have I3 := laid_many (H2 := H2) (g := g2) (tk := tk) I1 kall (fun b hb => if_pos (show b < g.objs.size by omega)) (fun b o hb e => ?_)
    · exact I3
    · by_cases h1 : b < g.objs.size
      · have e' : H1 b = some o := (if_pos h1).symm.trans e
        rw [I1.hok.fresh hb] at e'
        cases e'
      · have e' : mk b = some o := (if_neg h1).symm.trans e
        by_cases h2 : b = g.objs.size
        · have e2 : some (HO.lst ((acc.toList.map adr).map V.ref)) = some o := (if_pos h2).symm.trans e'
          cases e2
          subst h2
          refine ⟨by rw [List.length_map, tlen]; exact hz, acc.toList, c, ?_, by rw [Array.toArray_toList]; exact hS⟩
          have vals : ∀ l : List Value, (∀ v ∈ l, v = .ref (adr v)) → Vals ((l.map adr).map V.ref) l := fun l => by
            induction l with
            | nil => intro _; exact .nil
            | cons v r ih => intro hv; exact .cons (hv v List.mem_cons_self) (ih fun u hu => hv u (List.mem_cons_of_mem _ hu))
          exact vals _ hts
        · have e2 : (match (List.range xs.length).find? (fun i => (acc.toList.map adr)[i]? == some b) with
              | some i => (xs[i]?).map fun x => HO.tup [.int (i : Nat), x]
              | none => none) = some o := (if_neg h2).symm.trans e'
          cases hf : (List.range xs.length).find? (fun i => (acc.toList.map adr)[i]? == some b) with
          | none =>
            rw [hf] at e2
            cases e2
          | some j =>
            rw [hf] at e2
            have hj := List.find?_some hf
            have hj2 := List.mem_range.mp (List.mem_of_find?_eq_some hf)
            have hj3 : (acc.toList.map adr)[j]? = some b := by simpa using hj
            have e3 : some (HO.tup [.int (j : Nat), xs[j]]) = some o := by
              rw [← e2]
              show _ = Option.map (fun x => HO.tup [V.int (j : Nat), x]) xs[j]?
              rw [List.getElem?_eq_getElem hj2]
              rfl
            cases e3
            obtain ⟨T2, tk2, u2, g1, _, g3, g4⟩ := tget j xs[j] (List.getElem?_eq_getElem hj2)
            rw [hj3] at g1
            cases g1
            exact ⟨by show 2 ≤ sizeLine; decide, [.int (j : Nat) tk2, u2], .cons ⟨_, rfl⟩ (.cons g3 .nil), ⟨_, g4, rfl, _, rfl⟩⟩
  have same : Same H1 H2 := fun b o y => by
    show (if b < g.objs.size then H1 b else mk b) = some o
    rw [if_pos (show b < g.objs.size from Nat.lt_of_lt_of_le (I1.hok.lt y) (by rw [szg]; exact Nat.le_add_right _ _))]
    exact y
  have Snone : H1 g.objs.size = none := I1.hok.fresh (by omega)
  refine ⟨.ref g.objs.size, H2, I3, rfl, q H2 g.objs.size (acc.toList.map adr) same Snone ?_ tlen fun i x hx => ?_⟩
  · show (if g.objs.size < g.objs.size then H1 _ else mk _) = _
    rw [if_neg (Nat.lt_irrefl _)]
    exact if_pos rfl
  · obtain ⟨T, tk', u, e1, e2, e3, e4⟩ := tget i x hx
    exact ⟨T, e1, I1.hok.fresh (by omega), at_T i x T hx e1⟩
end
end RS
set_option Elab.async false
set_option maxRecDepth 100000
set_option maxHeartbeats 4000000
namespace RS
open PySem PySem.Spec PyProof.Rows L2 GX
/-- a for of n turns by a word of its own: the next turn -/
def ForNx (n : Nat) (Pv : Nat → L2.St → Hp → Prop) (i : Nat) (σ : L2.St) (H : Hp) : Prop := Pv (i + 1) σ H
theorem for_by {J : It} {g : TG} {tb : TS} {D : Ends} {σ : L2.St} {H : Hp} (n : Nat) (Pv : Nat → L2.St → Hp → Prop) (h0 : Pv 0 σ H)
    (turn : ∀ i σ H, i < n → Pv i σ H → J.go i H ∧ ∀ x H', J.yld i H x H' → g x σ H' fun σ2 H2 => tb { D with nx := Pv (i + 1), ct := Pv (i + 1), bk := D.nx } σ2 H2)
    (stop : ∀ σ H, Pv n σ H → J.stop n H ∧ D.nx σ H) :
    ∃ W : Nat → Nat → L2.St → Hp → Prop, (∃ m, W 0 m σ H) ∧ ∀ i m σ H, W i m σ H →
      (J.stop i H ∧ D.nx σ H) ∨ (J.go i H ∧ ∃ N : L2.St → Hp → Prop, (∀ σ' H', N σ' H' → ∃ m', m' < m ∧ W (i + 1) m' σ' H') ∧ ∀ x H', J.yld i H x H' → g x σ H' fun σ2 H2 => tb { D with nx := N, ct := N, bk := D.nx } σ2 H2) := by
  refine ⟨fun i m σ H => m = n - i ∧ i ≤ n ∧ Pv i σ H, ⟨n, rfl, Nat.zero_le _, h0⟩, ?_⟩
  rintro i m σ H ⟨rfl, hi, p⟩
  by_cases hlt : i < n
  · obtain ⟨go, nx⟩ := turn i σ H hlt p
    exact .inr ⟨go, Pv (i + 1), fun σ' H' p' => ⟨n - (i + 1), by omega, rfl, hlt, p'⟩, nx⟩
  · have e : i = n := by omega
    subst e
    exact .inl (stop σ H p)
theorem lc_by {J : It} {g : TG} {tt : TT} {te : TE} {vs : List Nat} {σ : L2.St} {H1 : Hp} {D : Addr} {Qd : Hp → Prop} (n : Nat) (Pv : Nat → Hp → Prop) (h0 : Pv 0 (upd H1 D (.lst [])))
    (turn : ∀ i H, i < n → Pv i H → J.go i H ∧ ∀ x H', J.yld i H x H' → g x (wipe σ vs) H' fun σ2 H2 => wipe σ2 vs = wipe σ vs ∧ tt σ2 H2 fun b H3 =>
      if b = true then te σ2 H3 fun y H4 => ∃ acc, H4 D = some (.lst acc) ∧ acc.length < sizeLine ∧ Pv (i + 1) (upd H4 D (.lst (acc ++ [y]))) else Pv (i + 1) H3)
    (stop : ∀ H, Pv n H → J.stop n H ∧ Qd H) :
    ∃ W : Nat → Nat → Hp → Prop, (∃ m, W 0 m (upd H1 D (.lst []))) ∧ ∀ i m H, W i m H →
      (J.stop i H ∧ Qd H) ∨ (J.go i H ∧ ∃ Nx : Hp → Prop, (∀ H', Nx H' → ∃ m', m' < m ∧ W (i + 1) m' H') ∧ ∀ x H', J.yld i H x H' → g x (wipe σ vs) H' fun σ2 H2 => wipe σ2 vs = wipe σ vs ∧ tt σ2 H2 fun b H3 =>
        if b = true then te σ2 H3 fun y H4 => ∃ acc, H4 D = some (.lst acc) ∧ acc.length < sizeLine ∧ Nx (upd H4 D (.lst (acc ++ [y]))) else Nx H3) := by
  refine ⟨fun i m H => m = n - i ∧ i ≤ n ∧ Pv i H, ⟨n, rfl, Nat.zero_le _, h0⟩, ?_⟩
  rintro i m H ⟨rfl, hi, p⟩
  by_cases hlt : i < n
  · obtain ⟨go, nx⟩ := turn i H hlt p
    exact .inr ⟨go, Pv (i + 1), fun H' p' => ⟨n - (i + 1), by omega, rfl, hlt, p'⟩, nx⟩
  · have e : i = n := by omega
    subst e
    exact .inl (stop H p)

/-! ### numbered things -/
def enumP {α : Type} : Nat → List α → List (Nat × α)
  | _, [] => []
  | k, x :: xs => (k, x) :: enumP (k + 1) xs
theorem enumP_get {α : Type} : ∀ (l : List α) (k i : Nat), (enumP k l)[i]? = l[i]?.map fun x => (k + i, x)
  | [], k, i => by simp [enumP]
  | x :: xs, k, 0 => by simp [enumP]
  | x :: xs, k, i + 1 => by
    show (enumP (k + 1) xs)[i]? = _
    rw [enumP_get xs (k + 1) i]
    have e : k + 1 + i = k + (i + 1) := by omega
    rw [e]
    simp
theorem enumP_length {α : Type} : ∀ (l : List α) (k : Nat), (enumP k l).length = l.length
  | [], _ => rfl
  | _ :: xs, k => congrArg (· + 1) (enumP_length xs (k + 1))
/-- a (number, row) -/
def pairD (q : Nat × List PyData) : PyData := .tuple [.int q.1, .tuple q.2]
def pairsD (l : List (Nat × List PyData)) : PyData := .list (l.map pairD)

/-- data by places -/
theorem dpAll_by {K : PySem.W.Frag} {H : Hp} : ∀ {vs : List V} {ds : List PyData}, vs.length = ds.length → (∀ (i : Nat) (v : V) (d : PyData), vs[i]? = some v → ds[i]? = some d → Dp K H v d) → DpAll K H vs ds
  | [], [], _, _ => .nil
  | [], _ :: _, h, _ => by simp at h
  | _ :: _, [], h, _ => by simp at h
  | v :: vs, d :: ds, h, k => .cons (k 0 v d rfl rfl) (dpAll_by (by simpa using h) fun i v d e1 e2 => k (i + 1) v d (by simpa using e1) (by simpa using e2))
end RS
set_option Elab.async false
set_option maxRecDepth 100000
set_option maxHeartbeats 4000000
namespace RS
open PySem PySem.Spec PyProof.Rows L2 GX

/-! ### orders -/
def wayS (b : Bool) : Str := if b then "down" else "up"
def partD (p : Nat × Bool) : PyData := .tuple [.int p.1, .str (wayS p.2)]
def orderD (os : List (Nat × Bool)) : PyData := .list (os.map partD)
structure OkOrder (n : Nat) (os : List (Nat × Bool)) : Prop where
  some_ : os ≠ []
  col : ∀ p ∈ os, p.1 < n
  nd : (os.map (·.1)).Nodup
def rowsD (rs : List (List PyData)) : PyData := .list (rs.map .tuple)

theorem inV_kind (b : Bool) : inV (.str (kindS b)) [.str "number", .str "word"] = true := by
  cases b
  · decide +kernel
  · decide +kernel
theorem inV_way (b : Bool) : inV (.str (wayS b)) [.str "up", .str "down"] = true := by
  cases b
  · decide +kernel
  · decide +kernel

theorem nodup_nat {l : List Nat} (h : l.Nodup) {i j c : Nat} (a : l[i]? = some c) (b : l[j]? = some c) : i = j := by
  obtain ⟨h1, e1⟩ := List.getElem?_eq_some_iff.mp a
  obtain ⟨h2, e2⟩ := List.getElem?_eq_some_iff.mp b
  exact (List.getElem_inj h).mp (e1.trans e2.symm)
section
variable {P : Program} {w : World} {K : PySem.W.Frag} {mg : Str → Option Value} {base : Heap}
theorem scIsPart : FnScope ["kinds", "part", "column", "way"] ["kinds", "part"] (defScope sIsPart) := ⟨rfl, rfl, rfl, by decide +kernel, rfl, by decide +kernel, by decide +kernel⟩
def spPart (K : PySem.W.Frag) : Sp := fun vs H Q _ => ∃ (vk vp : V) (ks : List Bool) (p : Nat × Bool), vs = [vk, vp] ∧ Dp K H vk (kindsD ks) ∧ Dp K H vp (partD p) ∧ p.1 < ks.length ∧ Q (.bl true) H
theorem is_part_ok {c : Addr} (D : DefAt K mg "is_part" sIsPart c) (T : Txt K mg) (cN : Cal P w K mg base CX0 1 "is_number" ["value"] (spNum K)) : Cal P w K mg base CX0 2 "is_part" ["kinds", "part"] (spPart K) := by
  have sc := scIsPart
  obtain ⟨aW, hW, hWS⟩ := T.ways
  refine def_ok0 D sc (fun vs H Q E h => ?_) (fun _ _ _ _ _ _ us hl => match us, hl with | [_, _], _ => rfl) (fun f A outer s H vs Q E hr h => ?_)
  · obtain ⟨vk, vp, ks, p, rfl, _⟩ := h
    rfl
  · obtain ⟨vk, vp, ks, ⟨c, b⟩, rfl, hk, hp, hc, k⟩ := h
    refine ⟨_, (pss_cons (ps_if ((pw_or (pt_not (pt_val (pe_callB call_isiD (by rfl) T.isinstance (by decide +kernel) (pa_cons (pv 1) (pa_cons (pe_bltn (v := V.ty "tuple") (u := Value.type "tuple") (by rfl) T.tuple_ (by decide +kernel) rfl) pa_nil))))) (pw_or1 (pt_cmpR op_ne (pe_callB call_lenD (by rfl) T.len PySem.boot_len (pa_cons (pv 1) pa_nil)) pe_int (nomark _)))).pt) (pss_one (ps_ret pe_bl)) pss_nil) (pss_cons (ps_asg (pv 1) (pg_tup (by rfl) (pgs_cons (pg_name (i := 2) sc.nd rfl (Or.inl rfl)) (pgs_cons (pg_name (i := 3) sc.nd rfl (Or.inl rfl)) pgs_nil)))) (pss_one (ps_ret (pe_and (pe_c cN hr (by decide) (by rfl) pass0 (pa_cons (pv 2) pa_nil)) (pe_and (pe_chain op_le op_lt pe_int (pv 2) (pe_callB call_lenD (by rfl) T.len PySem.boot_len (pa_cons (pv 0) pa_nil))) (pe_one (pe_cmpR op_in_seq (pv 3) (pe_glob (v := V.ref aW) (by rfl) hW rfl) (by rfl))))))))), ?_⟩
    refine ⟨_, rfl, _, _, _, rfl, by simp, hp, _, rfl, ?_⟩
    refine iteF ⟨_, rfl, _, _, 2, rfl, hp, rfl, rfl, _, rfl, ?_⟩
    refine iteF ⟨_, rfl, ?_⟩
    cases hp with
    | @tup a xs _ hS hI =>
      cases hI with
      | cons h1 hI =>
        cases hI with
        | cons h2 hI =>
          cases hI
          cases h1
          cases h2
          refine ⟨a, _, rfl, hS, rfl, _, _, rfl, _, _, rfl, rfl, ?_⟩
          refine ⟨_, rfl, _, _, rfl, .int (c : Int), _, rfl, ?_⟩
          have hn : isNum (.int (c : Int)) = true := by simp [isNum, isI, isT, tyN]
          rw [hn]
          refine iteT ?_
          refine ⟨_, rfl, _, _, rfl, rfl, _, rfl, ?_⟩
          have h0 : decide ((0 : Int) ≤ (c : Int)) = true := decide_eq_true (Int.natCast_nonneg c)
          rw [h0]
          refine iteT ⟨_, rfl, _, _, (ks.map fun b => PyData.str (kindS b)).length, rfl, hk, rfl, _, _, rfl, rfl, _, rfl, ?_⟩
          have h3 : decide ((c : Int) < ((ks.map fun b => PyData.str (kindS b)).length : Nat)) = true := decide_eq_true (by
            rw [List.length_map]
            exact Int.ofNat_lt.mpr hc)
          rw [h3]
          refine iteT ⟨_, rfl, aW, _, rfl, .inr (hWS _), rfl, rfl, ?_⟩
          show Q (.bl (if false then _ else inV (.str (wayS b)) [.str "up", .str "down"])) H
          rw [inV_way]
          exact k

theorem scCheckKinds : FnScope ["kinds", "kind"] ["kinds"] (defScope sCheckKinds) := ⟨rfl, rfl, rfl, by decide +kernel, rfl, by decide +kernel, by decide +kernel⟩
def spCheckKinds (K : PySem.W.Frag) (p : Addr) : Sp := fun vs H Q _ => ∃ (vk : V) (ks : List Bool), vs = [vk] ∧ Dp K H vk (kindsD ks) ∧ 1 ≤ ks.length ∧ ks.length ≤ 4 ∧ Tab H p ∧ Q .non H
theorem check_kinds_ok {c p : Addr} (D : DefAt K mg "check_kinds" sCheckKinds c) (T : Txt K mg) (TB : GxR.TabB base mg c p) : Cal P w K mg base CX0 2 "check_kinds" ["kinds"] (spCheckKinds K p) := by
  have sc := scCheckKinds
  obtain ⟨aK, hK, hKS⟩ := T.kinds
  obtain ⟨tCol, hC⟩ := T.columns
  refine def_ok0 D sc (fun vs H Q E h => ?_) (fun _ _ _ _ _ _ us hl => match us, hl with | [_], _ => rfl) (fun f A outer s H vs Q E hr h => ?_)
  · obtain ⟨vk, ks, rfl, _⟩ := h
    rfl
  · obtain ⟨vk, ks, rfl, hk, h1, h4, ht, k⟩ := h
    refine ⟨_, (pss_cons (ps_if ((pw_or (pt_not (pt_val (pe_callB call_isiD (by rfl) T.isinstance (by decide +kernel) (pa_cons (pv 0) (pa_cons (pe_bltn (v := V.ty "tuple") (u := Value.type "tuple") (by rfl) T.tuple_ (by decide +kernel) rfl) pa_nil))))) (pw_or1 (pt_not (pt_chain op_le op_le pe_int (pe_callB call_lenD (by rfl) T.len PySem.boot_len (pa_cons (pv 0) pa_nil)) (pe_glob (v := V.int 4) (by rfl) hC ⟨_, rfl⟩))))).pt) pss_never pss_nil) (pss_one (ps_if (pt_not (pt_val (pe_all (own := [("kind", 1)]) (te := tOp (rIn K false) (tVar 1) (tC (.ref aK))) hr rfl T.all TB rfl rfl sc.nd (blkOk_by (N := ["kinds", "kind"]) (sc := defScope sCheckKinds) (own := [("kind", 1)]) (by decide +kernel)) (by decide +kernel) rfl rfl (pi_tup (pv 0)) (fun _ _ _ _ _ _ _ => (pg_name (i := 1) sc.nd rfl (Or.inl rfl))) (fun _ _ _ _ _ _ _ hr => pe_cmpR op_in_seq (pv 1) (pe_glob (v := V.ref aK) (by rfl) hK rfl) (by rfl))))) pss_never pss_nil))), ?_⟩
    refine ⟨_, rfl, _, _, _, rfl, by simp, hk, _, rfl, ?_⟩
    refine iteF ⟨_, rfl, _, _, (ks.map fun b => PyData.str (kindS b)).length, rfl, hk, rfl, _, _, rfl, rfl, _, rfl, ?_⟩
    rw [List.length_map]
    have e1 : decide ((1 : Int) ≤ (ks.length : Nat)) = true := decide_eq_true (by omega)
    have e2 : decide (((ks.length : Nat) : Int) ≤ 4) = true := decide_eq_true (by omega)
    rw [e1]
    refine iteT ⟨_, _, rfl, rfl, _, rfl, ?_⟩
    rw [e2]
    refine iteF ?_
    cases hk with
    | @tup a xs _ hS hI =>
      refine ⟨_, rfl, a, rfl, ⟨xs, hS⟩, ht, ?_⟩
      have lx : xs.length = ks.length := by rw [dpLen hI, List.length_map]
      refine all_by xs.length (fun i H' => H' = H) rfl (fun i H' hi e => ?_) (fun H' e => ?_)
      · subst e
        refine ⟨⟨xs, xs[i], hS, List.getElem?_eq_getElem hi⟩, fun y H2 ⟨e, hy⟩ => ?_⟩
        subst e
        have ey := hy xs hS
        obtain ⟨d, ed, hd⟩ := dpGet hI ey
        obtain ⟨b, rfl⟩ : ∃ b, d = PyData.str (kindS b) := by
          rw [List.getElem?_map] at ed
          cases q : ks[i]? with
          | none => rw [q] at ed; cases ed
          | some b => rw [q] at ed; exact ⟨b, (Option.some.inj ed).symm⟩
        cases hd
        refine ⟨rfl, _, rfl, aK, _, rfl, .inr (hKS _), rfl, rfl, ?_⟩
        refine ⟨true, ?_, fun _ => .mk hi rfl, fun z => nomatch z⟩
        show V.bl (if false then _ else inV (.str (kindS b)) [.str "number", .str "word"]) = _
        rw [inV_kind]
        rfl
      · subst e
        exact ⟨⟨xs, hS, Nat.le_refl _⟩, _, rfl, iteF k⟩

theorem scCheckOrder : FnScope ["kinds", "order", "columns", "part"] ["kinds", "order"] (defScope sCheckOrder) := ⟨rfl, rfl, rfl, by decide +kernel, rfl, by decide +kernel, by decide +kernel⟩
def spCheckOrder (K : PySem.W.Frag) : Sp := fun vs H Q _ => ∃ (vk vo : V) (ks : List Bool) (os : List (Nat × Bool)), vs = [vk, vo] ∧ Dp K H vk (kindsD ks) ∧ Dp K H vo (orderD os) ∧ OkOrder ks.length os ∧ os.length ≤ 1000 ∧ ∀ H', Same H H' → Q .non H'
theorem check_order_ok {c : Addr} (D : DefAt K mg "check_order" sCheckOrder c) (T : Txt K mg) (cP : Cal P w K mg base CX0 2 "is_part" ["kinds", "part"] (spPart K)) : Cal P w K mg base CX0 3 "check_order" ["kinds", "order"] (spCheckOrder K) := by
  have sc := scCheckOrder
  refine def_ok0 D sc (fun vs H Q E h => ?_) (fun _ _ _ _ _ _ us hl => match us, hl with | [_, _], _ => rfl) (fun f A outer s H vs Q E hr h => ?_)
  · obtain ⟨vk, vo, ks, os, rfl, _⟩ := h
    rfl
  · obtain ⟨vk, vo, ks, os, rfl, hk, ho, hok, hz, k⟩ := h
    refine ⟨_, (pss_cons (ps_if ((pw_or (pt_not (pt_val (pe_callB call_isiD (by rfl) T.isinstance (by decide +kernel) (pa_cons (pv 1) (pa_cons (pe_bltn (v := V.ty "list") (u := Value.type "list") (by rfl) T.list_ (by decide +kernel) rfl) pa_nil))))) (pw_or1 (pt_not (pt_truth (pv 1) (by intro _; rfl))))).pt) pss_never pss_nil) (pss_cons (ps_set (i := 2) sc.nd rfl (Or.inl rfl) (pe_lst pa_nil)) (pss_one (ps_for PassesOwn.never rfl (pi_list (pv 1)) (pg_name (i := 3) sc.nd rfl (Or.inl rfl)) (pss_cons (ps_if ((pw_or (pt_not (pt_val (pe_c cP hr (by decide) (by rfl) pass0 (pa_cons (pv 0) (pa_cons (pv 3) pa_nil))))) (pw_or1 (pt_cmpR op_in_seq (pe_ix ixD (pv 3) pe_int (fun _ _ => rfl)) (pv 2) (by rfl)))).pt) pss_never pss_nil) (pss_one (ps_expr (pe_bm PySem.F.plainAttrs_list PySem.F.slot_list_append PySem.F.type_list_append mt_append (pv 2) (pa_cons (pe_ix ixD (pv 3) pe_int (fun _ _ => rfl)) pa_nil))))))))), ?_⟩
    refine ⟨_, rfl, _, _, _, rfl, by simp, ho, _, rfl, ?_⟩
    cases ho with
    | @lst a xs _ hS hI =>
      have lx : xs.length = os.length := by rw [dpLen hI, List.length_map]
      have ne : xs.isEmpty = false := by
        cases xs with
        | nil =>
          have : os.length = 0 := by rw [← lx]; rfl
          exact absurd (List.eq_nil_of_length_eq_zero this) hok.some_
        | cons _ _ => rfl
      refine iteF ⟨_, rfl, !xs.isEmpty, .inl ⟨xs, hS, rfl⟩, ?_⟩
      rw [ne]
      refine iteF ⟨Nat.zero_le _, fun p hp => ?_⟩
      have s0 : Same H (upd H p (.lst [])) := fun b o e => by rw [upd_ne (ne_of_none e hp)]; exact e
      refine ⟨_, rfl, a, rfl, ⟨_, s0.seq hS⟩, for_list (K := K) (a := a) (xs := xs) (fun i σ H' => ∃ v3 : Option V, σ = [some vk, some (.ref a), some (.ref p), v3] ∧ Same H H' ∧ H' p = some (.lst ((os.take i).map fun q => V.int q.1)))
        ⟨none, rfl, s0, upd_same⟩ (fun i σ H' _ ⟨_, _, sm, _⟩ => sm.seq hS) ?_ ?_⟩
      · rintro i y σ H' hi ⟨v3, rfl, sm, hL⟩
        obtain ⟨d, ed, hd⟩ := dpGet hI hi
        obtain ⟨⟨c, b⟩, eq, rfl⟩ : ∃ q, os[i]? = some q ∧ d = partD q := by
          rw [List.getElem?_map] at ed
          cases q : os[i]? with
          | none => rw [q] at ed; cases ed
          | some b => rw [q] at ed; exact ⟨b, rfl, (Option.some.inj ed).symm⟩
        have hm := List.mem_of_getElem? eq
        have hd' := dp_same sm _ hd
        have hi' : i < os.length := (List.getElem?_eq_some_iff.mp eq).1
        refine ⟨_, rfl, _, rfl, vk, y, ks, (c, b), rfl, dp_same sm _ hk, hd', hok.col _ hm, _, rfl, ?_⟩
        refine iteF ⟨_, rfl, _, _, 0, .int c, hd', rfl, rfl, rfl, fun v hv => ?_⟩
        cases hv
        have notin : inV (.int c) ((os.take i).map fun q => V.int q.1) = false := by
          rw [Bool.eq_false_iff]
          intro z
          unfold inV at z
          obtain ⟨u, hu, he⟩ := List.any_eq_true.mp z
          obtain ⟨q, hq, rfl⟩ := List.mem_map.mp hu
          obtain ⟨j, hj⟩ := List.getElem?_of_mem hq
          rw [List.getElem?_take] at hj
          split at hj
          · rename_i hji
            have e1 : q.1 = c := by
              simp [eqV] at he
              omega
            have h1 : (os.map (·.1))[j]? = some c := by rw [List.getElem?_map, hj, ← e1]; rfl
            have h2 : (os.map (·.1))[i]? = some c := by rw [List.getElem?_map, eq]; rfl
            have := nodup_nat hok.nd h1 h2
            omega
          · cases hj
        refine ⟨_, rfl, p, _, rfl, .inl (SqL.of hL), rfl, ?_, ?_⟩
        · rw [List.all_eq_true]
          intro z hz
          obtain ⟨q, _, rfl⟩ := List.mem_map.mp hz
          rfl
        show ∃ k, V.bl (if false then _ else inV (.int c) ((os.take i).map fun q => V.int q.1)) = V.bl k ∧ _
        rw [notin]
        refine ⟨false, rfl, iteF ?_⟩
        refine ⟨_, rfl, .inl ⟨rfl, _, SqL.of hL⟩, _, rfl, _, _, 0, .int c, hd', rfl, rfl, rfl, fun v hv => ?_⟩
        cases hv
        refine ⟨p, _, _, rfl, rfl, hL, small1000 (by rw [List.length_map, List.length_take]; omega), ?_⟩
        refine ⟨_, rfl, fun b' o e => ?_, ?_⟩
        · rw [upd_ne (fun z => by subst z; rw [hp] at e; cases e)]
          exact sm b' o e
        · rw [upd_same, List.take_add_one, eq, List.map_append]
          rfl
      · rintro σ H' ⟨v3, rfl, sm, hL⟩
        exact k _ sm
end
end RS
set_option Elab.async false
set_option maxRecDepth 100000
set_option maxHeartbeats 4000000
namespace RS
open PySem PySem.Spec PyProof.Rows L2 GX
def signOk (c : Nat) : Bool := !decide (([c] : List Nat) < [97]) && !decide (([122] : List Nat) < [c])
def isWord (d : PyData) : Bool := match d with
  | .str x => decide ((x.length : Int) ≤ 6) && x.cps.toList.all signOk
  | _ => false
/-- a text has its size -/
def fitD : PyData → Prop
  | .str x => x.length ≤ sizeLine
  | _ => True
section
variable {P : Program} {w : World} {K : PySem.W.Frag} {mg : Str → Option Value} {base : Heap}
theorem scIsWord : FnScope ["value", "sign"] ["value"] (defScope sIsWord) := ⟨rfl, rfl, rfl, by decide +kernel, rfl, by decide +kernel, by decide +kernel⟩
def spWord (K : PySem.W.Frag) (P : Addr) : Sp := fun vs H Q _ => ∃ (v : V) (d : PyData), vs = [v] ∧ Dp K H v d ∧ fitD d ∧ Tab H P ∧ Q (.bl (isWord d)) H
theorem is_word_ok {c p : Addr} (D : DefAt K mg "is_word" sIsWord c) (T : Txt K mg) (TB : GxR.TabB base mg c p) : Cal P w K mg base CX0 2 "is_word" ["value"] (spWord K p) := by
  have sc := scIsWord
  obtain ⟨tL, hL⟩ := T.letters
  refine def_ok0 D sc (fun vs H Q E h => ?_) (fun _ _ _ _ _ _ us hl => match us, hl with | [_], _ => rfl) (fun f A outer s H vs Q E hr h => ?_)
  · obtain ⟨v, d, rfl, _⟩ := h
    rfl
  · obtain ⟨v, d, rfl, hd, hz, ht, k⟩ := h
    refine ⟨_, (pss_one (ps_ret (pe_and (pe_callB call_isiD (by rfl) T.isinstance (by decide +kernel) (pa_cons (pv 0) (pa_cons (pe_bltn (v := V.ty "str") (u := Value.type "str") (by rfl) T.str_ (by decide +kernel) rfl) pa_nil))) (pe_and (pe_cmpR op_le (pe_callB call_lenD (by rfl) T.len PySem.boot_len (pa_cons (pv 0) pa_nil)) (pe_glob (v := V.int 6) rfl hL ⟨_, rfl⟩) (nomark _))
      (pe_one (pe_all (own := [("sign", 1)]) hr rfl T.all TB rfl rfl sc.nd (blkOk_by (N := ["value", "sign"]) (sc := defScope sIsWord) (own := [("sign", 1)]) (by decide +kernel)) (by decide +kernel) rfl rfl (pi_str (pv 0)) (fun _ _ _ _ _ _ _ => (pg_name (i := 1) sc.nd rfl (Or.inl rfl))) (fun _ _ _ _ _ _ _ hr => pe_chain op_le_str op_le_str pe_str (pv 1) pe_str))))))), ?_⟩
    refine ⟨_, rfl, _, _, _, rfl, by simp, hd, _, rfl, ?_⟩
    refine ite2 (fun h1 => ?_) (fun h1 => ?_)
    · cases hd <;> simp [isI, isT, tyN] at h1
      rename_i x
      refine ⟨_, rfl, _, _, _, rfl, .str x, if_pos hz, _, _, rfl, rfl, _, rfl, ?_⟩
      refine ite2 (fun h2 => ?_) (fun h2 => ?_)
      · refine ⟨_, rfl, _, rfl, ht, ?_⟩
        have full : isWord (.str x) = x.cps.toList.all signOk := by
          show (decide ((x.length : Int) ≤ 6) && x.cps.toList.all signOk) = _
          rw [h2, Bool.true_and]
        rw [full] at k
        refine all_by x.cps.size (fun i H' => H' = H ∧ (x.cps.toList.take i).all signOk = true) ⟨rfl, by simp⟩ (fun i H' hi hp => ?_) (fun H' hp => ?_)
        · obtain ⟨rfl, hp⟩ := hp
          refine ⟨hi, fun y H2 ⟨e, c, hc, ey⟩ => ⟨rfl, ?_⟩⟩
          subst e ey
          have hc2 : x.cps.toList[i]? = some c := by simpa using hc
          have step : signOk c = true → (x.cps.toList.take (i + 1)).all signOk = true := fun h => by
            rw [List.take_add_one, hc2]
            simp only [Option.toList_some, List.all_append, hp, List.all_cons, h, List.all_nil, Bool.and_self]
          have fail : signOk c = false → Q (.bl false) H2 := fun h => by
            have e : x.cps.toList.all signOk = false := by
              rw [Bool.eq_false_iff]
              intro z
              have z2 := List.all_eq_true.mp z c (List.mem_of_getElem? hc2)
              rw [h] at z2
              cases z2
            rw [← e]
            exact k
          have ea : ∀ z : Nat, (!decide ((⟨#[z]⟩ : Str).cps.toList < (Str.ofString "a").cps.toList)) = !decide (([z] : List Nat) < [97]) := fun z => rfl
          have ez : ∀ z : Nat, (!decide ((Str.ofString "z").cps.toList < (⟨#[z]⟩ : Str).cps.toList)) = !decide (([122] : List Nat) < [z]) := fun z => rfl
          refine ⟨_, rfl, _, _, rfl, rfl, _, rfl, ?_⟩
          refine ite2 (fun h3 => ?_) (fun h3 => ?_)
          · refine ⟨_, _, rfl, rfl, _, rfl, fun h4 => .mk hi ⟨rfl, step ?_⟩, fun h4 => fail ?_⟩
            · rw [ea] at h3
              rw [ez] at h4
              unfold signOk
              rw [h3, h4]
              rfl
            · rw [ea] at h3
              rw [ez] at h4
              unfold signOk
              rw [h3, h4]
              rfl
          · refine ⟨_, rfl, fun z => (nomatch z), fun _ => fail ?_⟩
            have h3 := bf h3
            rw [ea] at h3
            unfold signOk
            rw [h3, Bool.false_and]
        · obtain ⟨rfl, hp⟩ := hp
          refine ⟨Nat.le_refl _, ?_⟩
          have e : x.cps.toList.take x.cps.size = x.cps.toList := by rw [List.take_of_length_le (by simp)]
          rw [e] at hp
          show Q (.bl true) H'
          rw [← hp]
          exact k
      · have e : isWord (.str x) = false := by
          show (decide ((x.length : Int) ≤ 6) && x.cps.toList.all signOk) = _
          rw [bf h2, Bool.false_and]
        rw [← e]
        exact k
    · have e : isWord d = false := by
        cases hd <;> first | rfl | (simp [isI, isT, tyN] at h1)
      rw [← e]
      exact k
end
end RS
set_option Elab.async false
set_option maxRecDepth 100000
set_option maxHeartbeats 4000000
namespace RS
open PySem PySem.Spec PyProof.Rows L2 GX
def inBand (d : PyData) : Bool := match d with
  | .int n => decide (-999 ≤ n) && decide (n ≤ 999)
  | _ => false
def isVal (b : Bool) (d : PyData) : Bool := if b then isWord d else isNum d && inBand d
def isRow (ks : List Bool) (d : PyData) : Bool := match d with
  | .tuple ds => decide (ds.length = ks.length) && (ks.zip ds).all fun p => isVal p.1 p.2
  | _ => false
/-- the texts in a row have their size -/
def fitR (d : PyData) : Prop := match d with
  | .tuple ds => ds.length ≤ 1000 ∧ ∀ e ∈ ds, fitD e
  | .list ds => ds.length ≤ 1000
  | d => fitD d

section
variable {P : Program} {w : World} {K : PySem.W.Frag} {mg : Str → Option Value} {base : Heap}
theorem scIsValue : FnScope ["kind", "value"] ["kind", "value"] (defScope sIsValue) := ⟨rfl, rfl, rfl, by decide +kernel, rfl, by decide +kernel, by decide +kernel⟩
def spValue (K : PySem.W.Frag) (P : Addr) : Sp := fun vs H Q _ => ∃ (b : Bool) (v : V) (d : PyData), vs = [.str (kindS b), v] ∧ Dp K H v d ∧ fitD d ∧ Tab H P ∧ Q (.bl (isVal b d)) H
theorem is_value_ok {c p : Addr} (D : DefAt K mg "is_value" sIsValue c) (T : Txt K mg) (cW : Cal P w K mg base CX0 2 "is_word" ["value"] (spWord K p)) (cN : Cal P w K mg base CX0 1 "is_number" ["value"] (spNum K)) :
    Cal P w K mg base CX0 3 "is_value" ["kind", "value"] (spValue K p) := by
  have sc := scIsValue
  obtain ⟨tN, hN⟩ := T.number
  refine def_ok0 D sc (fun vs H Q E h => ?_) (fun _ _ _ _ _ _ us hl => match us, hl with | [_, _], _ => rfl) (fun f A outer s H vs Q E hr h => ?_)
  · obtain ⟨b, v, d, rfl, _⟩ := h
    rfl
  · obtain ⟨b, v, d, rfl, hd, hz, ht, k⟩ := h
    refine ⟨_, (pss_cons (ps_if (pt_cmpR op_eq (pv 0) pe_str (nomark _)) (pss_one (ps_ret (pe_c cW hr (by decide) (by rfl) pass0 (pa_cons (pv 1) pa_nil)))) pss_nil) (pss_one (ps_ret (pe_and (pe_c cN hr (by decide) (by rfl) pass0 (pa_cons (pv 1) pa_nil)) (pe_one (pe_chain op_le op_le (pe_un un_neg (pe_glob (v := V.int 999) rfl hN ⟨_, rfl⟩)) (pv 1) (pe_glob (v := V.int 999) rfl hN ⟨_, rfl⟩))))))), ?_⟩
    refine ⟨_, rfl, rfl, _, rfl, ?_⟩
    have hb : decide (V.str (kindS b) = V.str (Str.ofString "word")) = b := kindS_word b
    rw [hb]
    cases b with
    | true => exact iteT ⟨_, rfl, v, d, rfl, hd, hz, ht, k⟩
    | false =>
      refine iteF ⟨_, rfl, v, d, rfl, hd, _, rfl, ?_⟩
      refine ite2 (fun h1 => ?_) (fun h1 => ?_)
      · obtain ⟨n, rfl, rfl⟩ := isNum_int hd h1
        have ev : isVal false (.int n) = (decide (-999 ≤ n) && decide (n ≤ 999)) := by
          show (isNum (.int n) && inBand (.int n)) = _
          rw [h1, Bool.true_and]
          rfl
        rw [ev] at k
        refine ⟨_, rfl, _, rfl, _, _, rfl, rfl, _, rfl, ?_⟩
        refine ite2 (fun h2 => ?_) (fun h2 => ?_)
        · rw [h2, Bool.true_and] at k
          exact ⟨_, _, rfl, rfl, k⟩
        · rw [bf h2, Bool.false_and] at k
          exact k
      · have ev : isVal false d = false := by
          show (isNum d && inBand d) = false
          rw [bf h1, Bool.false_and]
        rw [ev] at k
        exact k

theorem scIsRow : FnScope ["kinds", "row", "kind", "value"] ["kinds", "row"] (defScope sIsRow) := ⟨rfl, rfl, rfl, by decide +kernel, rfl, by decide +kernel, by decide +kernel⟩
def spRow (K : PySem.W.Frag) (pW pR : Addr) : Sp := fun vs H Q _ => ∃ (vk vr : V) (ks : List Bool) (d : PyData), vs = [vk, vr] ∧ Dp K H vk (kindsD ks) ∧ Dp K H vr d ∧ ks.length ≤ 1000 ∧ fitR d ∧ Tab H pW ∧ Tab H pR ∧ ∀ H', Same H H' → Q (.bl (isRow ks d)) H'
theorem is_row_ok {c pW pR : Addr} (D : DefAt K mg "is_row" sIsRow c) (T : Txt K mg) (TB : GxR.TabB base mg c pR) (cV : Cal P w K mg base CX0 3 "is_value" ["kind", "value"] (spValue K pW)) :
    Cal P w K mg base CX0 5 "is_row" ["kinds", "row"] (spRow K pW pR) := by
  have sc := scIsRow
  refine def_ok0 D sc (fun vs H Q E h => ?_) (fun _ _ _ _ _ _ us hl => match us, hl with | [_, _], _ => rfl) (fun f A outer s H vs Q E hr h => ?_)
  · obtain ⟨vk, vr, ks, d, rfl, _⟩ := h
    rfl
  · obtain ⟨vk, vr, ks, d, rfl, hk, hd, hlk, hz, hW, hR, k⟩ := h
    refine ⟨_, (pss_cons (ps_if ((pw_or (pt_not (pt_val (pe_callB call_isiD (by rfl) T.isinstance (by decide +kernel) (pa_cons (pv 1) (pa_cons (pe_bltn (v := V.ty "tuple") (u := Value.type "tuple") (by rfl) T.tuple_ (by decide +kernel) rfl) pa_nil))))) (pw_or1 (pt_cmpR op_ne (pe_callB call_lenD (by rfl) T.len PySem.boot_len (pa_cons (pv 1) pa_nil)) (pe_callB call_lenD (by rfl) T.len PySem.boot_len (pa_cons (pv 0) pa_nil)) (nomark _)))).pt) (pss_one (ps_ret pe_bl)) pss_nil) (pss_one (ps_ret (pe_all (own := [("kind", 2), ("value", 3)]) (g := gTup K 2 (gCons (gName 2) (gCons (gName 3) gNil))) hr rfl T.all TB rfl rfl sc.nd (blkOk_by (N := ["kinds", "row", "kind", "value"]) (sc := defScope sIsRow) (own := [("kind", 2), ("value", 3)]) (by decide +kernel)) (by decide +kernel) rfl rfl (RZ.pi_zipA (by rfl) T.zip (pa_cons (pv 0) (pa_cons (pv 1) pa_nil))) (fun _ _ _ _ _ _ _ => (pg_tup (by rfl) (pgs_cons (pg_name (i := 2) sc.nd rfl (Or.inl rfl)) (pgs_cons (pg_name (i := 3) sc.nd rfl (Or.inl rfl)) pgs_nil)))) (fun _ _ _ _ _ _ _ hr => (pe_c cV hr (by decide) (by rfl) pass0 (pa_cons (pv 2) (pa_cons (pv 3) pa_nil)))))))), ?_⟩
    refine ⟨_, rfl, _, _, _, rfl, by simp, hd, _, rfl, ?_⟩
    have nf : isRow ks d = false → Q (.bl false) H := fun e => by
      rw [← e]
      exact k H (Same.refl H)
    cases hd with
    | non => exact iteT (iteT (nf rfl))
    | bl _ => exact iteT (iteT (nf rfl))
    | int _ => exact iteT (iteT (nf rfl))
    | str _ => exact iteT (iteT (nf rfl))
    | lst _ _ => exact iteT (iteT (nf rfl))
    | @tup a xs ds hS hI =>
      refine iteF ⟨_, rfl, _, _, ds.length, rfl, .tup hS hI, rfl, _, rfl, _, _, (ks.map fun b => PyData.str (kindS b)).length, rfl, hk, rfl, rfl, _, rfl, ?_⟩
      rw [List.length_map]
      obtain ⟨hz1, hz2⟩ : ds.length ≤ 1000 ∧ ∀ e ∈ ds, fitD e := hz
      refine ite2 (fun h1 => ?_) (fun h1 => ?_)
      · refine nf ?_
        have e : ¬ ds.length = ks.length := fun z => by
          rw [z] at h1
          simp at h1
        show (decide (ds.length = ks.length) && _) = false
        rw [decide_eq_false e, Bool.false_and]
      · have e : ds.length = ks.length := by
          by_cases z : ds.length = ks.length
          · exact z
          · exact absurd (by simp; omega) h1
        have full : isRow ks (.tuple ds) = (ks.zip ds).all fun p => isVal p.1 p.2 := by
          show (decide (ds.length = ks.length) && _) = _
          rw [decide_eq_true e, Bool.true_and]
        rw [full] at k
        obtain ⟨aK, kv, rfl, hKS, hKI⟩ : ∃ aK kv, vk = .ref aK ∧ SqT K H aK kv ∧ DpAll K H kv (ks.map fun b => PyData.str (kindS b)) := by
          cases hk with
          | tup h1 h2 => exact ⟨_, _, rfl, h1, h2⟩
        have lk : kv.length = ks.length := by rw [dpLen hKI, List.length_map]
        have lx : xs.length = ds.length := dpLen hI
        refine ⟨_, rfl, _, rfl, aK, a, kv, xs, rfl, .inr ⟨hKS, hS, hR, ?_⟩⟩
        refine all_by ks.length (fun i H' => Same H H' ∧ ((ks.zip ds).take i).all (fun p => isVal p.1 p.2) = true) ⟨Same.refl H, by simp⟩ (fun i H' hi hp => ?_) (fun H' hp => ?_)
        · obtain ⟨sm, hp⟩ := hp
          have hiv : i < kv.length := by omega
          have hix : i < xs.length := by omega
          refine ⟨⟨kv, xs, kv[i], xs[i], sqT_same sm hKS, sqT_same sm hS, List.getElem?_eq_getElem hiv, List.getElem?_eq_getElem hix⟩, fun y H2 ⟨TT, x1, y1, ey, hTT, eH, hx, hy⟩ => ?_⟩
          subst ey eH
          have ex := hx kv (sqT_same sm hKS)
          have ey := hy xs (sqT_same sm hS)
          obtain ⟨dk, edk, hdk⟩ := dpGet hKI ex
          obtain ⟨dx, edx, hdx⟩ := dpGet hI ey
          obtain ⟨b, eb, rfl⟩ : ∃ b, ks[i]? = some b ∧ PyData.str (kindS b) = dk := by
            rw [List.getElem?_map] at edk
            cases q : ks[i]? with
            | none => rw [q] at edk; cases edk
            | some b => rw [q] at edk; exact ⟨b, rfl, Option.some.inj edk⟩
          have sm2 : Same H (upd H' TT (.tup [x1, y1])) := fun c o q => by
            rw [upd_ne (ne_of_none (sm c o q) hTT)]
            exact sm c o q
          have ez : (ks.zip ds)[i]? = some (b, dx) := by
            rw [List.getElem?_zip_eq_some]
            exact ⟨eb, edx⟩
          cases hdk
          refine ⟨TT, [_, y1], rfl, SqT.of upd_same, rfl, _, _, rfl, _, _, rfl, rfl, rfl, ?_⟩
          refine ⟨_, rfl, _, rfl, b, y1, dx, rfl, dp_same sm2 _ hdx, hz2 dx (List.mem_of_getElem? edx), sm2 _ _ hW, ?_⟩
          refine ⟨_, rfl, fun h2 => .mk hi ⟨sm2, ?_⟩, fun h2 => ?_⟩
          · rw [List.take_add_one, ez]
            simp only [Option.toList_some, List.all_append, hp, List.all_cons, h2, List.all_nil, Bool.and_self]
          · have e2 : (ks.zip ds).all (fun p => isVal p.1 p.2) = false := by
              rw [Bool.eq_false_iff]
              intro z
              have z2 := List.all_eq_true.mp z _ (List.mem_of_getElem? ez)
              rw [h2] at z2
              cases z2
            rw [← e2]
            exact k _ sm2
        · obtain ⟨sm, hp⟩ := hp
          refine ⟨⟨kv, xs, sqT_same sm hKS, sqT_same sm hS, .inl (by omega)⟩, ?_⟩
          rw [List.take_of_length_le (by rw [List.length_zip]; omega)] at hp
          rw [← hp]
          exact k _ sm
end
end RS
set_option Elab.async false
set_option maxRecDepth 100000
set_option maxHeartbeats 4000000
namespace RS
open PySem PySem.Spec PyProof.Rows L2 GX

section
variable {P : Program} {w : World} {K : PySem.W.Frag} {mg : Str → Option Value} {base : Heap}
theorem scCheckRows : FnScope ["kinds", "rows", "most", "place", "row"] ["kinds", "rows", "most"] (defScope sCheckRows) := ⟨rfl, rfl, rfl, by decide +kernel, rfl, by decide +kernel, by decide +kernel⟩
def spCheckRows (K : PySem.W.Frag) (pW pR : Addr) : Sp := fun vs H Q _ => ∃ (vk vr : V) (ks : List Bool) (ds : List PyData) (m : Nat), vs = [vk, vr, .int m] ∧ Dp K H vk (kindsD ks) ∧ Dp K H vr (.list ds) ∧ ks.length ≤ 1000 ∧ ds.length ≤ m ∧ (∀ d ∈ ds, isRow ks d = true ∧ fitR d) ∧ Tab H pW ∧ Tab H pR ∧ ∀ H', Same H H' → Q .non H'
theorem check_rows_ok {c pW pR : Addr} (D : DefAt K mg "check_rows" sCheckRows c) (T : Txt K mg) (cR : Cal P w K mg base CX0 5 "is_row" ["kinds", "row"] (spRow K pW pR)) : Cal P w K mg base CX0 6 "check_rows" ["kinds", "rows", "most"] (spCheckRows K pW pR) := by
  have sc := scCheckRows
  refine def_ok0 D sc (fun vs H Q E h => ?_) (fun _ _ _ _ _ _ us hl => match us, hl with | [_, _, _], _ => rfl) (fun f A outer s H vs Q E hr h => ?_)
  · obtain ⟨vk, vr, ks, ds, m, rfl, _⟩ := h
    rfl
  · obtain ⟨vk, vr, ks, ds, m, rfl, hk, hd, hlk, hm, hok, hW, hR, k⟩ := h
    refine ⟨_, (pss_one (ps_for PassesOwn.never rfl (pi_enum (by rfl) T.enumerate (pa_cons (pv 1) pa_nil)) (pg_tup (by rfl) (pgs_cons (pg_name (i := 3) sc.nd rfl (Or.inl rfl)) (pgs_cons (pg_name (i := 4) sc.nd rfl (Or.inl rfl)) pgs_nil))) (pss_one (ps_if ((pw_or (pt_cmpR op_ge (pv 3) (pv 2) (nomark _)) (pw_or1 (pt_not (pt_val (pe_c cR hr (by decide) (by rfl) pass0 (pa_cons (pv 0) (pa_cons (pv 4) pa_nil))))))).pt) pss_never pss_nil)))), ?_⟩
    cases hd with
    | @lst a xs _ hS hI =>
      have lx : xs.length = ds.length := dpLen hI
      refine ⟨_, rfl, a, xs, rfl, hS, for_by xs.length (fun i σ H' => ∃ v3 v4 : Option V, σ = [some vk, some (.ref a), some (.int m), v3, v4] ∧ Same H H') ⟨none, none, rfl, Same.refl H⟩ ?_ ?_⟩
      · rintro i σ H' hi ⟨v3, v4, rfl, sm⟩
        refine ⟨⟨xs, xs[i], sm.seq hS, List.getElem?_eq_getElem hi⟩, fun y H2 ⟨TT, x, ey, hT, eH, hx⟩ => ?_⟩
        subst ey eH
        have ex := hx xs (sm.seq hS)
        obtain ⟨d, ed, hdx⟩ := dpGet hI ex
        obtain ⟨r1, r2⟩ := hok d (List.mem_of_getElem? ed)
        have sm2 : Same H (upd H' TT (.tup [.int (i : Nat), x])) := fun b o e => by
          rw [upd_ne (ne_of_none (sm b o e) hT)]
          exact sm b o e
        refine ⟨TT, _, rfl, SqT.of upd_same, rfl, _, _, rfl, _, _, rfl, rfl, ?_⟩
        refine ⟨_, rfl, _, rfl, _, _, rfl, rfl, _, rfl, ?_⟩
        have e1 : decide (((i : Nat) : Int) ≥ (m : Int)) = false := decide_eq_false (by omega)
        rw [e1]
        refine iteF ⟨_, rfl, _, rfl, vk, x, ks, d, rfl, dp_same sm2 _ hk, dp_same sm2 _ hdx, hlk, r2, sm2 _ _ hW, sm2 _ _ hR, fun H3 s3 => ⟨_, rfl, ?_⟩⟩
        rw [r1]
        exact iteF ⟨_, _, rfl, sm2.trans s3⟩
      · rintro σ H' ⟨v3, v4, rfl, sm⟩
        exact ⟨⟨xs, sm.seq hS, Nat.le_refl _⟩, k _ sm⟩

theorem scCheckSize : FnScope ["size"] ["size"] (defScope sCheckSize) := ⟨rfl, rfl, rfl, by decide +kernel, rfl, by decide +kernel, by decide +kernel⟩
def spCheckSize : Sp := fun vs H Q _ => ∃ (n : Int), vs = [.int n] ∧ 1 ≤ n ∧ n ≤ 24 ∧ Q .non H
theorem check_size_ok {c : Addr} (D : DefAt K mg "check_size" sCheckSize c) (T : Txt K mg) (cN : Cal P w K mg base CX0 1 "is_number" ["value"] (spNum K)) : Cal P w K mg base CX0 2 "check_size" ["size"] spCheckSize := by
  have sc := scCheckSize
  obtain ⟨tR, hR⟩ := T.room
  refine def_ok0 D sc (fun vs H Q E h => ?_) (fun _ _ _ _ _ _ us hl => match us, hl with | [_], _ => rfl) (fun f A outer s H vs Q E hr h => ?_)
  · obtain ⟨n, rfl, _⟩ := h
    rfl
  · obtain ⟨n, rfl, h1, h2, k⟩ := h
    refine ⟨_, (pss_one (ps_if ((pw_or (pt_not (pt_val (pe_c cN hr (by decide) (by rfl) pass0 (pa_cons (pv 0) pa_nil)))) (pw_or1 (pt_not (pt_chain op_le op_le pe_int (pv 0) (pe_glob (v := V.int 24) (by rfl) hR ⟨_, rfl⟩))))).pt) pss_never pss_nil)), ?_⟩
    refine ⟨_, rfl, _, _, rfl, .int n, _, rfl, ?_⟩
    have hn : isNum (.int n) = true := by simp [isNum, isI, isT, tyN]
    rw [hn]
    refine iteF ⟨_, rfl, _, _, rfl, rfl, _, rfl, ?_⟩
    rw [decide_eq_true h1]
    refine iteT ⟨_, _, rfl, rfl, _, rfl, ?_⟩
    rw [decide_eq_true h2]
    exact iteF k

theorem scNumbered : FnScope ["kinds", "order", "size", "rows"] ["kinds", "order", "size", "rows"] (defScope sNumbered) := ⟨rfl, rfl, rfl, by decide +kernel, rfl, by decide +kernel, by decide +kernel⟩
/-- what filled and exchanged are handed -/
structure Handed (K : PySem.W.Frag) (H : Hp) (vk vo vr : V) (ks : List Bool) (os : List (Nat × Bool)) (n : Int) (rs : List (List PyData)) : Prop where
  k : Dp K H vk (kindsD ks)
  o : Dp K H vo (orderD os)
  r : Dp K H vr (rowsD rs)
  k1 : 1 ≤ ks.length
  k4 : ks.length ≤ 4
  ok : OkOrder ks.length os
  oz : os.length ≤ 1000
  n1 : 1 ≤ n
  n24 : n ≤ 24
  rz : rs.length ≤ 120
  row : ∀ r ∈ rs, isRow ks (.tuple r) = true ∧ fitR (.tuple r)
theorem Handed.same {K : PySem.W.Frag} {H H' : Hp} {vk vo vr : V} {ks : List Bool} {os : List (Nat × Bool)} {n : Int} {rs : List (List PyData)} (h : Handed K H vk vo vr ks os n rs) (s : Same H H') : Handed K H' vk vo vr ks os n rs :=
  ⟨dp_same s _ h.k, dp_same s _ h.o, dp_same s _ h.r, h.k1, h.k4, h.ok, h.oz, h.n1, h.n24, h.rz, h.row⟩
structure Tabs3 (H : Hp) (pK pW pR : Addr) : Prop where
  k : Tab H pK
  w : Tab H pW
  r : Tab H pR
theorem Tabs3.same {H H' : Hp} {pK pW pR : Addr} (h : Tabs3 H pK pW pR) (s : Same H H') : Tabs3 H' pK pW pR := ⟨s _ _ h.k, s _ _ h.w, s _ _ h.r⟩
def spNumbered (K : PySem.W.Frag) (pK pW pR : Addr) : Sp := fun vs H Q _ => ∃ (vk vo vr : V) (ks : List Bool) (os : List (Nat × Bool)) (n : Int) (rs : List (List PyData)), vs = [vk, vo, .int n, vr] ∧ Handed K H vk vo vr ks os n rs ∧ Tabs3 H pK pW pR ∧
  ∀ (H' : Hp) (p : Addr) (xs : List V), Same H H' → H p = none → H' p = some (.lst xs) → DpAll K H' xs ((enumP 0 rs).map pairD) → Q (.ref p) H'
theorem numbered_ok {c pK pW pR : Addr} (D : DefAt K mg "numbered" sNumbered c) (T : Txt K mg) (c1 : Cal P w K mg base CX0 2 "check_kinds" ["kinds"] (spCheckKinds K pK)) (c2 : Cal P w K mg base CX0 3 "check_order" ["kinds", "order"] (spCheckOrder K))
    (c3 : Cal P w K mg base CX0 2 "check_size" ["size"] spCheckSize) (c4 : Cal P w K mg base CX0 6 "check_rows" ["kinds", "rows", "most"] (spCheckRows K pW pR)) : Cal P w K mg base CX0 7 "numbered" ["kinds", "order", "size", "rows"] (spNumbered K pK pW pR) := by
  have sc := scNumbered
  obtain ⟨tM, hM⟩ := T.rows
  refine def_ok0 D sc (fun vs H Q E h => ?_) (fun _ _ _ _ _ _ us hl => match us, hl with | [_, _, _, _], _ => rfl) (fun f A outer s H vs Q E hr h => ?_)
  · obtain ⟨vk, vo, vr, ks, os, n, rs, rfl, _⟩ := h
    rfl
  · obtain ⟨vk, vo, vr, ks, os, n, rs, rfl, h, ht, k⟩ := h
    refine ⟨_, (pss_cons (ps_expr (pe_c c1 hr (by decide) (by rfl) pass0 (pa_cons (pv 0) pa_nil))) (pss_cons (ps_expr (pe_c c2 hr (by decide) (by rfl) pass0 (pa_cons (pv 0) (pa_cons (pv 1) pa_nil)))) (pss_cons (ps_expr (pe_c c3 hr (by decide) (by rfl) pass0 (pa_cons (pv 2) pa_nil))) (pss_cons (ps_expr (pe_c c4 hr (by decide) (by rfl) pass0 (pa_cons (pv 0) (pa_cons (pv 3) (pa_cons (pe_glob (v := V.int 120) (by rfl) hM ⟨_, rfl⟩) pa_nil))))) (pss_one (ps_ret (pe_le rfl (by rfl) T.list_ (by rfl) T.enumerate (pv 3)))))))), ?_⟩
    refine ⟨_, rfl, vk, ks, rfl, h.k, h.k1, h.k4, ht.k, ?_⟩
    refine ⟨_, rfl, _, rfl, vk, vo, ks, os, rfl, h.k, h.o, h.ok, h.oz, fun H1 s1 => ?_⟩
    refine ⟨_, rfl, n, rfl, h.n1, h.n24, ?_⟩
    have h1 := h.same s1
    have t1 := ht.same s1
    refine ⟨_, rfl, _, rfl, vk, vr, ks, rs.map .tuple, 120, rfl, h1.k, h1.r, by have := h.k4; omega, by rw [List.length_map]; exact h.rz, fun d hd => ?_, t1.w, t1.r, fun H2 s2 => ?_⟩
    · obtain ⟨r, hr, rfl⟩ := List.mem_map.mp hd
      exact h.row r hr
    · have h2 := h1.same s2
      have hr2 := h2.r
      obtain ⟨a, xs, rfl, hS, hI⟩ : ∃ a xs, vr = .ref a ∧ SqL K H2 a xs ∧ DpAll K H2 xs (rs.map .tuple) := by
        cases hr2 with
        | lst q1 q2 => exact ⟨_, _, rfl, q1, q2⟩
      refine ⟨_, rfl, a, xs, rfl, hS, fun H3 p ts s3 hp hL hlen hat => ?_⟩
      have s13 : Same H H3 := (s1.trans s2).trans s3
      have lx : xs.length = rs.length := by rw [dpLen hI, List.length_map]
      refine k H3 p (ts.map V.ref) s13 ((s1.trans s2).free hp) hL (dpAll_by (by rw [List.length_map, List.length_map, enumP_length, hlen, lx]) fun i v d e1 e2 => ?_)
      have hi : i < xs.length := by
        have := (List.getElem?_eq_some_iff.mp e1).1
        rw [List.length_map] at this
        omega
      obtain ⟨TT, f1, f2, f3⟩ := hat i _ (List.getElem?_eq_getElem hi)
      rw [List.getElem?_map, f1] at e1
      cases e1
      rw [List.getElem?_map, enumP_get] at e2
      obtain ⟨d', g1, g2⟩ := dpGet hI (List.getElem?_eq_getElem hi)
      rw [List.getElem?_map] at g1
      cases q : rs[i]? with
      | none => rw [q] at g1; cases g1
      | some r =>
        rw [q] at g1 e2
        cases g1
        cases e2
        rw [Nat.zero_add]
        exact .tup (SqT.of f3) (.cons (.int (i : Nat)) (.cons (dp_same s3 _ g2) .nil))
end
end RS
set_option Elab.async false
set_option maxRecDepth 100000
set_option maxHeartbeats 4000000
namespace LM
open PySem PySem.Spec PyProof.Rows L2
/-! ### known objects that stay: the maker's cells while a call runs -/
def Pin (o : Obj) : HO := .frz o (.own 0)
/-- the addresses of a frame's cells -/
def Cell (cl : List (Str × Addr)) (b : Addr) : Prop := ∃ y, cl.lookup y = some b
open Classical in
/-- the abstract heap without the cells -/
noncomputable def off (cl : List (Str × Addr)) (H : Hp) : Hp := fun b => if Cell cl b then none else H b
open Classical in
/-- H' with the cells of H -/
noncomputable def back (cl : List (Str × Addr)) (H H' : Hp) : Hp := fun b => if Cell cl b then H b else H' b
theorem off_c {cl : List (Str × Addr)} {H : Hp} {b : Addr} (h : Cell cl b) : off cl H b = none := if_pos h
theorem off_n {cl : List (Str × Addr)} {H : Hp} {b : Addr} (h : ¬ Cell cl b) : off cl H b = H b := if_neg h
theorem back_c {cl : List (Str × Addr)} {H H' : Hp} {b : Addr} (h : Cell cl b) : back cl H H' b = H b := if_pos h
theorem back_n {cl : List (Str × Addr)} {H H' : Hp} {b : Addr} (h : ¬ Cell cl b) : back cl H H' b = H' b := if_neg h
/-- all cells are known in H -/
def Held (cl : List (Str × Addr)) (H : Hp) : Prop := ∀ b, Cell cl b → ∃ o, H b = some (Pin o)
/-- no cell is told of in H -/
def Loose (cl : List (Str × Addr)) (H : Hp) : Prop := ∀ b, Cell cl b → H b = none
theorem loose_off {cl : List (Str × Addr)} {H : Hp} : Loose cl (off cl H) := fun _ h => off_c h
theorem pin_own {o : Obj} {a : Addr} : Pin o ≠ .own a := fun z => nomatch z
theorem pin_tbl {o : Obj} {ps : Array Value} : Pin o ≠ .tbl ps := fun z => nomatch z
theorem pin_tup {o : Obj} {xs : List V} : Pin o ≠ .tup xs := fun z => nomatch z
section
variable {P : Program} {w : World} {K : PySem.W.Frag} {mg : Str → Option Value} {base : Heap} {A : Around} {outer : List Env} {s s' : Shared} {H H' G : Hp} {cl : List (Str × Addr)} {h h' : Heap} {fs : List Addr}
theorem pin_at (x : HOk P w H h) {b : Addr} {o : Obj} (e : H b = some (Pin o)) : h.get? b = some o := (x b _ e).1
theorem held_off (hd : Held cl H) (b : Addr) (u : HO) (hu : ∀ o, u ≠ Pin o) (e : H b = some u) : off cl H b = some u := by
  by_cases c : Cell cl b
  · obtain ⟨o, z⟩ := hd b c
    rw [z] at e
    exact absurd (Option.some.inj e).symm (hu o)
  · rw [off_n c]
    exact e
theorem hok_off (hd : Held cl H) (x : HOk P w H h) : HOk P w (off cl H) h := fun b u e => by
  by_cases c : Cell cl b
  · rw [off_c c] at e
    cases e
  · rw [off_n c] at e
    exact (x b u e).stay (fun _ _ _ q => q) (fun d q => held_off hd d _ (fun o z => pin_own z.symm) q) fun d xs q => held_off hd d _ (fun o z => pin_tup z.symm) q
/-- the state at a call, its cells let go -/
theorem env_off (hd : Held cl H) (e : Env0 P w K mg base A outer s H) : Env0 P w K mg base A outer s (off cl H) := by
  refine ⟨e.frames, e.mod, fun b o q => ⟨(e.bs b o q).1, ?_⟩, e.bsz, e.funs, fun b q => ?_, hok_off hd e.hok, e.bare⟩
  · by_cases c : Cell cl b
    · exact off_c c
    · rw [off_n c]
      exact (e.bs b o q).2
  · by_cases c : Cell cl b
    · exact off_c c
    · rw [off_n c]
      exact e.frf b q
/-- what a run did ahead of which the cells were let go: with them -/
theorem un_back (hd : Held cl H) (hk : HOk P w H h) (nf : ∀ b, Cell cl b → b ∉ fs) (u : Un fs [] (off cl H) H' h h') : Un fs [] H (back cl H H') h h' := by
  have nc : ∀ b, H b = none → ¬ Cell cl b := fun b n c => by
    obtain ⟨o, z⟩ := hd b c
    rw [n] at z
    cases z
  refine ⟨fun b o q n hb hx => u.keep b o q (by rw [off_n (nc b n)]; exact n) hb hx, fun b o q n hb hx => u.slot b o q (by rw [off_n (nc b n)]; exact n) hb hx, fun b o q n hx => ?_, u.there, fun b xs q => ?_, fun b o v q => ?_, fun b ps q => ?_⟩
  · rw [back_n (nc b n)]
    exact u.free b o q (by rw [off_n (nc b n)]; exact n) hx
  · have c : ¬ Cell cl b := fun c => by
      obtain ⟨o, z⟩ := hd b c
      rw [q] at z
      cases z
    rw [back_n c]
    exact u.tups b xs (by rw [off_n c]; exact q)
  · by_cases c : Cell cl b
    · rw [back_c c]
      exact q
    · rw [back_n c]
      exact u.frzs b o v (by rw [off_n c]; exact q)
  · have c : ¬ Cell cl b := fun c => by
      obtain ⟨o, z⟩ := hd b c
      rw [q] at z
      cases z
    rw [back_n c]
    exact u.tbls b ps (by rw [off_n c]; exact q)
theorem loose_un (hk : HOk P w H h) (hd : Held cl H) (u : Un fs [] (off cl H) H' h h') : Loose cl H' := fun b c => by
  obtain ⟨o, z⟩ := hd b c
  exact u.free b o (pin_at hk z) (off_c c) (by simp)
theorem hok_back (hd : Held cl H) (hk : HOk P w H h) (nf : ∀ b, Cell cl b → b ∉ fs) (u : Un fs [] (off cl H) H' h h') (x : HOk P w H' h') : HOk P w (back cl H H') h' := fun b v e => by
  have lo := loose_un hk hd u
  by_cases c : Cell cl b
  · rw [back_c c] at e
    obtain ⟨o, z⟩ := hd b c
    rw [z] at e
    cases e
    have := u.keep b o (pin_at hk z) (off_c c) (nf b c) (by simp)
    exact ⟨this, ⟨o, this⟩⟩
  · rw [back_n c] at e
    have st : ∀ d v, H' d = some v → back cl H H' d = some v := fun d v q => by
      have : ¬ Cell cl d := fun z => by
        rw [lo d z] at q
        cases q
      rw [back_n this]
      exact q
    exact (x b v e).stay (fun _ _ _ q => q) (fun d q => st d _ q) fun d xs q => st d _ q
/-- G is H with the cells known -/
structure Up (cl : List (Str × Addr)) (H G : Hp) (h : Heap) : Prop where
  lo : Loose cl H
  same : ∀ b, ¬ Cell cl b → G b = H b
  held : ∀ b, Cell cl b → ∃ o, h.get? b = some o ∧ G b = some (Pin o)
theorem Up.hd (p : Up cl H G h) : Held cl G := fun b c => by
  obtain ⟨o, _, z⟩ := p.held b c
  exact ⟨o, z⟩
theorem up_some (p : Up cl H G h) {b : Addr} {u : HO} (e : H b = some u) : G b = some u := by
  have : ¬ Cell cl b := fun c => by
    rw [p.lo b c] at e
    cases e
  rw [p.same b this]
  exact e
theorem hok_up (p : Up cl H G h) (x : HOk P w H h) : HOk P w G h := fun b u e => by
  by_cases c : Cell cl b
  · obtain ⟨o, ho, z⟩ := p.held b c
    rw [z] at e
    cases e
    exact ⟨ho, ⟨o, ho⟩⟩
  · rw [p.same b c] at e
    exact (x b u e).stay (fun _ _ _ q => q) (fun d q => up_some p q) fun d xs q => up_some p q
theorem env_up (p : Up cl H G s.heap) (nb : ∀ b, Cell cl b → base.get? b = none) (nf : ∀ b, Cell cl b → b ∉ frs outer) (e : Env0 P w K mg base A outer s H) : Env0 P w K mg base A outer s G := by
  refine ⟨e.frames, e.mod, fun b o q => ⟨(e.bs b o q).1, ?_⟩, e.bsz, e.funs, fun b q => ?_, hok_up p e.hok, e.bare⟩
  · rw [p.same b fun c => by rw [nb b c] at q; cases q]
    exact (e.bs b o q).2
  · rw [p.same b fun c => nf b c q]
    exact e.frf b q
/-- behind a call with known cells: they are let go again -/
theorem end_up {Q : VK} {u : Value} (p : Up cl H G s.heap) (h : CE outer P w G s (fun v H' => Q v (off cl H')) u s') : CE outer P w H s Q u s' := by
  obtain ⟨v, H', os, bare, un, hk, r, q⟩ := h
  have kept : ∀ b, Cell cl b → ∃ o, s.heap.get? b = some o ∧ H' b = some (Pin o) := fun b c => by
    obtain ⟨o, ho, z⟩ := p.held b c
    exact ⟨o, ho, un.frzs b o _ z⟩
  have hd : Held cl H' := fun b c => by
    obtain ⟨o, _, z⟩ := kept b c
    exact ⟨o, z⟩
  refine ⟨v, off cl H', os, bare, ⟨fun b o e n hb hx => ?_, fun b o e n hb hx => ?_, fun b o e n hx => ?_, un.there, fun b xs e => ?_, fun b o v e => ?_, fun b ps e => ?_⟩, hok_off hd hk, r, q⟩
  · by_cases c : Cell cl b
    · obtain ⟨o', ho, z⟩ := kept b c
      rw [e] at ho
      cases ho
      exact pin_at hk z
    · exact un.keep b o e (by rw [p.same b c]; exact n) hb hx
  · by_cases c : Cell cl b
    · obtain ⟨o', ho, z⟩ := kept b c
      rw [e] at ho
      cases ho
      exact ⟨o.slots, pin_at hk z⟩
    · exact un.slot b o e (by rw [p.same b c]; exact n) hb hx
  · by_cases c : Cell cl b
    · exact off_c c
    · rw [off_n c]
      exact un.free b o e (by rw [p.same b c]; exact n) hx
  · have g := un.tups b xs (up_some p e)
    exact held_off hd b _ (fun o z => pin_tup z.symm) g
  · have c : ¬ Cell cl b := fun c => by
      rw [p.lo b c] at e
      cases e
    rw [off_n c]
    exact un.frzs b o v (up_some p e)
  · obtain ⟨more, g⟩ := un.tbls b ps (up_some p e)
    exact ⟨more, held_off hd b _ (fun o z => nomatch z) g⟩
end
end LM
set_option Elab.async false
set_option maxRecDepth 100000
set_option maxHeartbeats 4000000
namespace LM
open PySem PySem.Spec PyProof.Rows L2
open LamX (ExtN TabS TabB CodeO LamS lamCx lamEnv)
/-! ### an exception through let-go cells -/
section
variable {P : Program} {w : World} {outer : List Env} {s s' : Shared} {H : Hp} {cl : List (Str × Addr)}
theorem cx_back {E : XK} {u : Value} (hd : Held cl H) (hk : HOk P w H s.heap) (nf : ∀ b, Cell cl b → b ∉ frs outer) (x : L2.CX P w outer (off cl H) s (fun c d H' => Loose cl H' → E c d (back cl H H')) u s') : L2.CX P w outer H s E u s' := by
  obtain ⟨a, B, H', c, d, e, fl, ok, ub, na, os, bare, q⟩ := x
  have nc : ∀ b, H b = none → ¬ Cell cl b := fun b n z => by
    obtain ⟨o, y⟩ := hd b z
    rw [n] at y
    cases y
  have lo : Loose cl H' := fun b z => by
    obtain ⟨o, y⟩ := hd b z
    exact ub.free b o (pin_at hk y) (off_c z)
  have ap : ∀ b u, (∀ o, u ≠ Pin o) → H b = some u → ¬ Cell cl b := fun b u hu y z => by
    obtain ⟨o, v⟩ := hd b z
    rw [y] at v
    exact hu o (Option.some.inj v)
  have inB : ∀ b, Cell cl b → ∃ o, H b = some (Pin o) ∧ B.get? b = some o := fun b z => by
    obtain ⟨o, y⟩ := hd b z
    exact ⟨o, y, ub.keep b o (pin_at hk y) (off_c z) (nf b z)⟩
  have nca : ¬ Cell cl a := fun z => by
    obtain ⟨o, _, y⟩ := inB a z
    rw [fl.2.1] at y
    cases y
  refine ⟨a, B, back cl H H', c, d, e, fl, fun b v y => ?_, ⟨fun b o y n hb => ub.keep b o y (by rw [off_n (nc b n)]; exact n) hb, ub.slot, fun b o y n => ?_, ub.there, fun b xs y => ?_, fun b o v y => ?_, fun b ps y => ?_⟩, by rw [back_n nca]; exact na, os, bare, q lo⟩
  · by_cases z : Cell cl b
    · rw [back_c z] at y
      obtain ⟨o, y2, g⟩ := inB b z
      rw [y2] at y
      cases y
      exact ⟨g, ⟨o, g⟩⟩
    · rw [back_n z] at y
      have st : ∀ d v, H' d = some v → back cl H H' d = some v := fun d v q => by
        have : ¬ Cell cl d := fun z => by
          rw [lo d z] at q
          cases q
        rw [back_n this]
        exact q
      exact (ok b v y).stay (fun _ _ _ q => q) (fun d q => st d _ q) fun d xs q => st d _ q
  · rw [back_n (nc b n)]
    exact ub.free b o y (by rw [off_n (nc b n)]; exact n)
  · have z := ap b _ (fun o y => pin_tup y.symm) y
    rw [back_n z]
    exact ub.tups b xs (by rw [off_n z]; exact y)
  · by_cases z : Cell cl b
    · rw [back_c z]
      exact y
    · rw [back_n z]
      exact ub.frzs b o v (by rw [off_n z]; exact y)
  · have z := ap b _ (fun o y => pin_tbl y.symm) y
    rw [back_n z]
    exact ub.tbls b ps (by rw [off_n z]; exact y)
theorem cr_back {Q : VK} {E : XK} {r : Result} (hd : Held cl H) (hk : HOk P w H s.heap) (nf : ∀ b, Cell cl b → b ∉ frs outer) (x : CR (L2.CX P w) outer P w (off cl H) s (fun v H' => Loose cl H' → Q v (back cl H H')) (fun c d H' => Loose cl H' → E c d (back cl H H')) r s') : CR (L2.CX P w) outer P w H s Q E r s' := by
  cases r with
  | error e => exact cx_back hd hk nf x
  | ok fl =>
    cases fl with
    | ret u =>
      obtain ⟨v, H', os, bare, un, ok, rv, q⟩ := x
      exact ⟨v, back cl H H', os, bare, un_back hd hk nf un, hok_back hd hk nf un ok, rv, q (loose_un hk hd un)⟩
    | next => exact x
    | brk => exact x
    | cont => exact x
end
/-! ### what a lambda does where it is called -/
/-- f, called without arguments where R holds, keeps tl -/
structure Act (P : Program) (w : World) (K : PySem.W.Frag) (mg : Str → Option Value) (base : Heap) (k : Nat) (f : Addr) (R : Hp → Prop) (tl : Hp → VK → XK → Prop) : Prop where
  same : ∀ H H' : Hp, (∀ b o, H b = some o → H' b = some o) → R H → R H'
  fn : ∀ (s : Shared) (H : Hp), R H → HOk P w H s.heap → PySem.W.FnAt f s.heap
  run : ∀ (A : Around) (outer : List Env) (s : Shared) (H : Hp) (Q : VK) (E : XK), Room k A → Env0 P w K mg base A outer s H → R H → tl H Q E → codeAny (model P w) A (.call (.ref f) ⟨[], []⟩) (CR (L2.CX P w) outer P w H s Q E) s
/-- the lambda that stands at f -/
def IsLam (H : Hp) (f : Addr) (q : Str) (params : Arguments) (body : Expr) (scope : Scope) (clos : List (Str × Addr)) : Prop :=
  ∃ (c' : Addr) (pm ctv : Value), H f = some (Pin (PySem.W.kla_obj "<lambda>" q params body scope clos pm c' ctv)) ∧ H c' = some (CodeO c' q)
theorem IsLam.ext {H H' : Hp} {f : Addr} {q : Str} {params : Arguments} {body : Expr} {scope : Scope} {clos : List (Str × Addr)} (h : IsLam H f q params body scope clos) (e : ExtN H H') : IsLam H' f q params body scope clos := by
  obtain ⟨c', pm, ctv, h1, h2⟩ := h
  exact ⟨c', pm, ctv, e _ _ h1 (fun ps z => nomatch z), e _ _ h2 (fun ps z => LamX.codeO_ne ps z)⟩
/-- what a frame's cells hold, told at a call: H ahead, G with the cells -/
structure Caught (X : Cx) (σ : L2.St) (H G : Hp) : Prop where
  len : σ.length = X.N.length
  has : ∀ y, X.env.kindOf y = some .cell ∨ X.env.kindOf y = some .free → ∃ c, X.env.cells.lookup y = some c
  inj : ∀ x y c, X.env.cells.lookup x = some c → X.env.cells.lookup y = some c → x = y
  lo : Loose X.env.cells H
  same : ∀ b, ¬ Cell X.env.cells b → G b = H b
  held : ∀ b, Cell X.env.cells b → ∃ o v, G b = some (Pin o) ∧ o.data = .cell v
  val : ∀ (i : Nat) (y : Str) (v : V), X.N[i]? = some y → σ[i]? = some (some v) → X.env.kindOf y = some .cell ∨ X.env.kindOf y = some .free → ∃ c o u, X.env.cells.lookup y = some c ∧ G c = some (Pin o) ∧ o.data = .cell (some u) ∧ RelV v u
theorem Caught.some {X : Cx} {σ : L2.St} {H G : Hp} (c : Caught X σ H G) {b : Addr} {o : HO} (e : H b = some o) : G b = some o := by
  rw [c.same b fun z => by rw [c.lo b z] at e; cases e]
  exact e
theorem Caught.hd {X : Cx} {σ : L2.St} {H G : Hp} (c : Caught X σ H G) : Held X.env.cells G := fun b z => by
  obtain ⟨o, _, e, _⟩ := c.held b z
  exact ⟨o, e⟩
open Classical in
theorem caught_of {X : Cx} {pins : List (Addr × Obj)} {σ : L2.St} {H : Hp} {s : Shared} (I : Inv X pins σ H s) : ∃ G, Up X.env.cells H G s.heap ∧ Caught X σ H G := by
  have lo : Loose X.env.cells H := fun b ⟨y, e⟩ => I.freeC y b e
  have at_ : ∀ b, Cell X.env.cells b → ∃ o v, s.heap.get? b = some o ∧ o.data = .cell v := fun b ⟨y, e⟩ => by
    obtain ⟨v, o, h1, h2⟩ := I.cell y b e
    exact ⟨o, v, h1, h2⟩
  refine ⟨fun b => if Cell X.env.cells b then (s.heap.get? b).map Pin else H b, ⟨lo, fun b c => if_neg c, fun b c => ?_⟩, ⟨I.len, fun y hy => I.ok.has y hy, I.ok.inj, lo, fun b c => if_neg c, fun b c => ?_, fun i y v h1 h2 h3 => ?_⟩⟩
  · obtain ⟨o, v, h1, h2⟩ := at_ b c
    refine ⟨o, h1, ?_⟩
    show (if Cell X.env.cells b then (s.heap.get? b).map Pin else H b) = _
    rw [if_pos c, h1]
    rfl
  · obtain ⟨o, v, h1, h2⟩ := at_ b c
    refine ⟨o, v, ?_, h2⟩
    show (if Cell X.env.cells b then (s.heap.get? b).map Pin else H b) = _
    rw [if_pos c, h1]
    rfl
  · obtain ⟨m, _, hl⟩ := I.loc
    have hv : Vis X.env.scope y := h3.elim (fun k => .inr (.inl k)) fun k => .inr (.inr k)
    obtain ⟨u, r, q⟩ := hl i y v h1 h2 hv
    rcases q with ⟨k, _⟩ | ⟨_, c, e, o, ho, hd⟩
    · rcases h3 with z | z <;> rw [z] at k <;> cases k
    · refine ⟨c, o, u, e, ?_, hd, r⟩
      show (if Cell X.env.cells c then (s.heap.get? c).map Pin else H c) = _
      rw [if_pos ⟨y, e⟩, ho]
      rfl
/-- the lambda's own frame is entered -/
theorem lam_in {X : Cx} {σ : L2.St} {H G HZ : Hp} {A : Around} {outer : List Env} {E : XK} {scope : Scope} {f c' : Addr} {h₁ : Heap} {tk : Nat} {s1 : Shared} (U : Caught X σ H G) (L : LamS X.env.scope scope) (e0 : Env0 X.prog X.w X.K X.mg X.base A outer s1 (off X.env.cells HZ)) (hd : A.handled = none)
    (hz : ∀ b, Cell X.env.cells b → ∃ o, G b = some (Pin o) ∧ s1.heap.get? b = some o) (hns : h₁.Ns s1.heap.objs.size fun y => ([] : List (Str × Value)).reverse.lookup y) (kp : ∀ b o, s1.heap.get? b = some o → h₁.get? b = some o) :
    Inv (lamCx X A outer s1 (off X.env.cells HZ) E scope f c') [] σ (off X.env.cells HZ) { s1 with heap := h₁, toks := tk } := by
  have has : ∀ y ∈ scope.names, y.2 = .free → ∃ c, X.env.cells.lookup y.1 = some c := fun y hy e => U.has _ (L.free y hy e)
  have cm : ∀ {y c}, (cloFrom X.env.cells scope.names []).lookup y = some c → X.env.cells.lookup y = some c := fun {y c} e => by
    rcases cloFrom_mem (PySem.mem_of_lookup e) with z | ⟨h1, h2⟩
    · cases z
    · obtain ⟨c1, hc⟩ := has _ h1 rfl
      have hc : X.env.cells.lookup y = some c1 := hc
      rw [hc] at h2
      rw [h2]
      exact hc
  have look : ∀ {y}, scope.names.lookup y = some .free → ∃ c, (cloFrom X.env.cells scope.names []).lookup y = some c := fun {y} hl =>
    mem_lookup (cloFrom_has (cells := X.env.cells) (acc := []) (PySem.mem_of_lookup hl))
  have isC : ∀ {y c}, X.env.cells.lookup y = some c → ∃ v, h₁.IsCell c v := fun {y c} e => by
    obtain ⟨o, v, g, d⟩ := U.held c ⟨y, e⟩
    obtain ⟨o', g', k⟩ := hz c ⟨y, e⟩
    rw [g] at g'
    have : o = o' := by injection g' with g'; injection g'
    subst this
    exact ⟨v, o, kp _ _ k, d⟩
  have noex : ∀ b : Addr, b ∉ (lamCx X A outer s1 (off X.env.cells HZ) E scope f c').ex := fun b z => nomatch (show b ∈ ([] : List Addr) from z)
  refine ⟨⟨e0.mod, L.kind, rfl, rfl, Nat.le_refl _, fun y z c e1 e2 => U.inj y z c (cm e1) (cm e2), fun y hy => ?_, fun y c z _ => Bool.noConfusion (show false = true from z), fun _ => hd, Around.frames_deeper e0.frames, .inr ⟨rfl, rfl⟩, fun b z => absurd z (noex b), e0.bs, e0.bsz, fun b _ _ => noex b,
      fun b z => absurd z (noex b), e0.funs, e0.frf⟩,
    rfl, e0.bare, Un.kept kp, ⟨_, hns, fun i y v e1 e2 e3 => ?_⟩, fun y c e => isC (cm e), e0.hok.fresh (Nat.le_refl _), fun y c e => off_c ⟨y, cm e⟩, fun q hq => absurd (show q ∈ ([] : List (Addr × Obj)) ++ [] from hq) (by simp), e0.hok.kept kp, U.len⟩
  · have hy : scope.names.lookup y = some .cell ∨ scope.names.lookup y = some .free := hy
    rcases hy with hy | hy
    · exact absurd rfl (L.own _ (PySem.mem_of_lookup hy)).2
    · exact look hy
  · have e3 : Vis scope y := e3
    rcases e3 with k | k | k
    · exact absurd rfl (L.own _ (PySem.mem_of_lookup k)).1
    · exact absurd rfl (L.own _ (PySem.mem_of_lookup k)).2
    · obtain ⟨c, o, u, h1, h2, h3, r⟩ := U.val i y v e1 e2 (L.free _ (PySem.mem_of_lookup k) rfl)
      obtain ⟨c2, z⟩ := look k
      have := cm z
      rw [h1] at this
      cases this
      obtain ⟨o', g', kk⟩ := hz c ⟨y, h1⟩
      rw [h2] at g'
      have : o = o' := by injection g' with g'; injection g'
      subst this
      exact ⟨u, r, .inr ⟨.inr k, c, z, o, kp _ _ kk, h3⟩⟩
/-- what the lambda at f does, wherever it is called while the frame's cells are known -/
theorem lam_act {X : Cx} {σ : L2.St} {H G : Hp} {params : Arguments} {body : Expr} {scope : Scope} {f : Addr} {k : Nat} {t : XK → TE} (U : Caught X σ H G) (L : LamS X.env.scope scope) (hl : IsLam G f (X.env.qual ++ "<lambda>") params body scope (cloFrom X.env.cells scope.names []))
    (hbind : ∀ (q : Str) (cl : List (Str × Addr)) (pm cv ctv : Value), bindArgs (PySem.W.kla_fn "<lambda>" q params body scope cl pm cv ctv) ⟨[], []⟩ = pure [])
    (hbody : ∀ (A : Around) (outer : List Env) (s : Shared) (H : Hp) (E : XK) (c' : Addr), Room k (A.deeper (lamEnv X scope s.heap.objs.size f c')) → PE (lamCx X A outer s H E scope f c') body (t E)) :
    ∃ R : Hp → Prop, R G ∧ Act X.prog X.w X.K X.mg X.base (k + 1) f R (fun H Q E => t (fun c d H' => Loose X.env.cells H' → E c d (back X.env.cells H H')) σ (off X.env.cells H) (fun v H' => Loose X.env.cells H' → Q v (back X.env.cells H H'))) := by
  obtain ⟨c', pm, ctv, h1, h2⟩ := hl
  refine ⟨fun HZ => HZ f = G f ∧ HZ c' = G c' ∧ ∀ b, Cell X.env.cells b → HZ b = G b, ⟨rfl, rfl, fun _ _ => rfl⟩, ⟨fun H H' e ⟨r1, r2, r3⟩ => ⟨?_, ?_, fun b c => ?_⟩, fun s H ⟨r1, _, _⟩ ok => ?_, fun A outer s HZ Q E hr e0 ⟨r1, r2, r3⟩ ht => ?_⟩⟩
  · rw [h1] at r1 ⊢
    exact e _ _ r1
  · rw [h2] at r2 ⊢
    exact e _ _ r2
  · obtain ⟨o, z⟩ := U.hd b c
    have r3 := r3 b c
    rw [z] at r3 ⊢
    exact e _ _ r3
  · rw [h1] at r1
    exact ⟨_, _, _, _, pin_at ok r1⟩
  have hd : Held X.env.cells HZ := fun b c => by
    rw [r3 b c]
    exact U.hd b c
  have nf : ∀ b, Cell X.env.cells b → b ∉ frs outer := fun b c z => by
    obtain ⟨o, y⟩ := hd b c
    rw [e0.frf b z] at y
    cases y
  rw [h1] at r1
  rw [h2] at r2
  have of1 := pin_at e0.hok r1
  obtain ⟨⟨oc, vs, tt, hoc, hdc, hvc⟩, _, _⟩ := e0.hok c' _ r2
  have e1 := env_off hd e0
  have lim : s.heap.NoLimit := e0.mod.nolimit.keeps fun b o e => (e0.bs b o e).1
  refine codeAny_mono (R := CR (L2.CX X.prog X.w) outer X.prog X.w (off X.env.cells HZ) s (fun v H' => Loose X.env.cells H' → Q v (back X.env.cells HZ H')) (fun c d H' => Loose X.env.cells H' → E c d (back X.env.cells HZ H'))) ?_ fun r s' hq => cr_back hd e0.hok nf hq
  refine PySem.W.kla_callFunE hr.depth of1 rfl L.co L.gen rfl ⟨c', oc, vs, tt, rfl, hoc, hdc, hvc⟩ ?_
  rw [hbind]
  refine wpAny_pure (wpAny_newFunctionEnv (fun y hy => (L.own y hy).2) (fun y hy => absurd hy (by simp)) (fun h₁ hns hsb => ⟨lim.fresh _ hsb, ?_⟩) L.kind)
  show codeAny _ _ (.expr body (lamEnv X scope s.heap.objs.size f c')) _ _
  have kp : ∀ b o, s.heap.get? b = some o → h₁.get? b = some o := fun b o e => hsb.extBut b o (Nat.ne_of_lt (Heap.lt_size e)) (Heap.get?_push_of_some _ e)
  have J := lam_in (E := fun c d H' => Loose X.env.cells H' → E c d (back X.env.cells HZ H')) (scope := scope) (f := f) (c' := c') (tk := s.toks + ([] : List (Str × Value)).length) U L e1 hr.hd (fun b c => by
    obtain ⟨o, z⟩ := U.hd b c
    exact ⟨o, z, pin_at e0.hok ((r3 b c).trans z)⟩) hns kp
  refine PySem.W.kla_codeExpr (wpAny_mono ((hbody _ _ s (off X.env.cells HZ) _ c' (hr.deeper _)).run [] _ _ (off X.env.cells HZ) _ J ht) (fun v s' hq => ?_) fun e s' hq => hq)
  obtain ⟨w', H', J', rv, q⟩ := hq
  exact ⟨w', H', J'.os, J'.bare, J'.base, J'.hok, rv, q⟩
theorem caught_same {X : Cx} {σ : L2.St} {H G H' : Hp} (c : Caught X σ H G) (s : ∀ b o, G b = some o → H' b = some o) : ∀ b o, H b = some o → off X.env.cells H' b = some o := fun b o e => by
  rw [off_n fun z => by rw [c.lo b z] at e; cases e]
  exact s b o (c.some e)
theorem back_same {cl : List (Str × Addr)} {H H' : Hp} (s : ∀ b o, off cl H b = some o → H' b = some o) : ∀ b o, H b = some o → back cl H H' b = some o := fun b o e => by
  by_cases c : Cell cl b
  · rw [back_c c]
    exact e
  · rw [back_n c]
    exact s b o (by rw [off_n c]; exact e)
theorem back_at {cl : List (Str × Addr)} {H H' : Hp} (lo : Loose cl H') {b : Addr} {o : HO} (e : H' b = some o) : back cl H H' b = some o := by
  rw [back_n fun c => by rw [lo b c] at e; cases e]
  exact e
end LM
set_option Elab.async false
set_option maxRecDepth 100000
set_option maxHeartbeats 4000000
namespace LM
open PySem PySem.Spec PyProof.Rows L2
open LamX (ExtN TabS TabB CodeO LamS lamCx lamEnv)
/-! ### a lambda is made -/
def tLam (P : Addr) (q : Str) (params : Arguments) (body : Expr) (scope : Scope) (clos : List (Str × Addr)) : TE := fun _ H Q => TabS H P q ∧
  ∀ (f : Addr) (H1 : Hp), ExtN H H1 → TabS H1 P q → IsLam H1 f q params body scope clos → H f = none → Q (.ref f) H1
section
variable {X : Cx}
theorem pe_lam {c P : Addr} {params : Arguments} {body : Expr} {scope : Scope} {pos : Pos} (TB : TabB X.base X.mg c P) (hcode : X.env.code = .ref c) (L : LamS X.env.scope scope) (hdef : defaultsOf params X.env = ([], [])) :
    PE X (.Lambda params body scope pos) (tLam P (X.env.qual ++ "<lambda>") params body scope (cloFrom X.env.cells scope.names [])) := by
  refine ⟨fun pins s σ H Q I ⟨hT, h⟩ => ?_⟩
  obtain ⟨ps, hP, ht, ha⟩ := id hT
  refine PySem.W.kla_eval hdef ?_
  have hP' : s.heap.get? P = some { cls := .none, data := .fields ps } := I.hok P _ hP
  cases hc : codeAmong pos ps.toList with
  | none =>
    refine PySem.W.kla_makeFunction (mg := X.mg) (c := c) (P := P) (ps := ps) (closure_ok (L.has I.ok)) I.ok.glob (I.mod.glob.keeps I.bk) hcode (TB.code.keeps I.bk) hP' ht hc TB.gP (TB.bm.keeps I.bk) fun c' ctv g tk hx hge hlt hrec htb => ?_
    obtain ⟨c2, oc, vs, t, e2, hoc, hd, hv⟩ := hrec
    cases e2
    have nC : H c' = none := I.hok.fresh hge
    have I1 := LamX.inv_table (t' := tk) (q := X.env.qual ++ "<lambda>") (more := #[rawInt pos.line, rawInt pos.col, .ref c']) I hP (fun b o hb e => hx b o hb e) htb hge ⟨oc, vs, t, hoc, hd, hv⟩
    have I2 := I1.laid (a := g.objs.size) (o := Pin (PySem.W.kla_obj "<lambda>" (X.env.qual ++ "<lambda>") params body scope (cloFrom X.env.cells scope.names []) ((X.mg "__name__").getD .none) c' ctv)) (t' := tk) (fun b u e => Heap.get?_push_of_some (h := g) _ e) (Nat.le_refl _) ⟨Heap.get?_push_size _ rfl, ⟨_, Heap.get?_push_size _ rfl⟩⟩
    have nF : H g.objs.size = none := I.hok.fresh (Nat.le_trans hge (Nat.le_of_lt hlt))
    have n1 : g.objs.size ≠ c' := Nat.ne_of_gt hlt
    have n2 : P ≠ g.objs.size := ne_of_none hP nF
    have n3 : P ≠ c' := ne_of_none hP nC
    have hE : ExtN H (upd (upd (upd H P (.tbl (ps ++ #[rawInt pos.line, rawInt pos.col, .ref c']))) c' (CodeO c' (X.env.qual ++ "<lambda>"))) g.objs.size (Pin (PySem.W.kla_obj "<lambda>" (X.env.qual ++ "<lambda>") params body scope (cloFrom X.env.cells scope.names []) ((X.mg "__name__").getD .none) c' ctv))) := fun b o e n => by
      rw [upd_ne (ne_of_none e nF), upd_ne (ne_of_none e nC), upd_ne fun z => n ps (Option.some.inj (e.symm.trans (by rw [z]; exact hP)))]
      exact e
    have hC2 : (upd (upd (upd H P (.tbl (ps ++ #[rawInt pos.line, rawInt pos.col, .ref c']))) c' (CodeO c' (X.env.qual ++ "<lambda>"))) g.objs.size (Pin (PySem.W.kla_obj "<lambda>" (X.env.qual ++ "<lambda>") params body scope (cloFrom X.env.cells scope.names []) ((X.mg "__name__").getD .none) c' ctv))) c' = some (CodeO c' (X.env.qual ++ "<lambda>")) := by
      rw [upd_ne (Ne.symm n1), upd_same]
    refine ⟨.ref g.objs.size, _, I2, rfl, h _ _ hE ⟨_, by rw [upd_ne n2, upd_ne n3, upd_same], ?_, fun p' cv hcv => ?_⟩ ⟨c', _, ctv, upd_same, hC2⟩ nF⟩
    · simp only [Array.toList_append]
      exact PySem.TriplesOk_snoc _ _ _ _ ht
    · simp only [Array.toList_append] at hcv
      rcases LamX.among_app _ ht hcv with z | z
      · obtain ⟨c0, y1, y2⟩ := ha p' cv z
        exact ⟨c0, y1, hE _ _ y2 (fun ps => LamX.codeO_ne ps)⟩
      · exact ⟨c', z, hC2⟩
  | some cv =>
    obtain ⟨c', rfl, hco⟩ := ha pos cv hc
    refine PySem.W.kla_makeFunctionHit (mg := X.mg) (c := c) (P := P) (ps := ps) (closure_ok (L.has I.ok)) I.ok.glob (I.mod.glob.keeps I.bk) hcode (TB.code.keeps I.bk) hP' ht hc (TB.bm.keeps I.bk) fun ctv g tk hx hsz => ?_
    have I1 : Inv X pins σ H { s with heap := g, toks := tk } := I.kept hx
    have I2 := I1.laid (a := g.objs.size) (o := Pin (PySem.W.kla_obj "<lambda>" (X.env.qual ++ "<lambda>") params body scope (cloFrom X.env.cells scope.names []) ((X.mg "__name__").getD .none) c' ctv)) (t' := tk) (fun b u e => Heap.get?_push_of_some (h := g) _ e) (Nat.le_refl _) ⟨Heap.get?_push_size _ rfl, ⟨_, Heap.get?_push_size _ rfl⟩⟩
    have nF : H g.objs.size = none := I.hok.fresh hsz
    have hE : ∀ b o, H b = some o → (upd H g.objs.size (Pin (PySem.W.kla_obj "<lambda>" (X.env.qual ++ "<lambda>") params body scope (cloFrom X.env.cells scope.names []) ((X.mg "__name__").getD .none) c' ctv))) b = some o := fun b o e => by
      rw [upd_ne (ne_of_none e nF)]
      exact e
    exact ⟨.ref g.objs.size, _, I2, rfl, h _ _ (ExtN.of hE) (hT.ext hE) ⟨c', _, ctv, upd_same, hE _ _ hco⟩ nF⟩
theorem IsLam.up {X : Cx} {σ : L2.St} {H G : Hp} {f : Addr} {q : Str} {params : Arguments} {body : Expr} {scope : Scope} {clos : List (Str × Addr)} (h : IsLam H f q params body scope clos) (c : Caught X σ H G) : IsLam G f q params body scope clos := by
  obtain ⟨c', pm, ctv, h1, h2⟩ := h
  exact ⟨c', pm, ctv, c.some h1, c.some h2⟩
/-! ### a def is called, this frame's cells being known meanwhile -/
def tCallP (X : Cx) (sp : Sp) (t : TA) : TE := fun σ H Q => t σ H fun vs H1 => ∀ G, Caught X σ H1 G → sp vs G (fun v H' => Q v (off X.env.cells H')) C8.E0
theorem cells_apart {pins : List (Addr × Obj)} {σ : L2.St} {H : Hp} {s : Shared} (I : Inv X pins σ H s) (hfn : ∀ y, X.fn y = true) : (∀ b, Cell X.env.cells b → X.base.get? b = none) ∧ ∀ b, Cell X.env.cells b → b ∉ frs X.stack := by
  have ab : ∀ b, Cell X.env.cells b → X.s_0.heap.objs.size ≤ b := fun b ⟨y, e⟩ => I.ok.cab y b (hfn y) e
  refine ⟨fun b c => Heap.get?_none_of_le (Nat.le_trans I.ok.bsz (ab b c)), fun b c hm => ?_⟩
  rcases List.mem_cons.mp (I.stkSub b hm) with z | z
  · obtain ⟨y, e⟩ := c
    exact I.cne y b e z
  · obtain ⟨_, o, ho, _⟩ := I.ok.funs.mem z
    exact absurd (Nat.lt_of_lt_of_le (Heap.lt_size ho) (ab b c)) (Nat.lt_irrefl _)
section
variable {CX : CXT} {k j : Nat} {ps : List Str} {sp : Sp} {E : XK} {x : Str} {p pos : Pos} {e : Expr} {es : List Expr} {t : TA} {to : TE}
theorem pe_cP (c : RS.Cal X.prog X.w X.K X.mg X.base C8.CX0 k x ps sp) (hr : Room j X.A) (hk : k ≤ j) (hfn : ∀ y, X.fn y = true) (hg : Gl X x) (ha : PA X (e :: es) t) (hdb : (x == ("__debug__" : Str)) = false := by decide)
    (he : starEach (e :: es) X.env = (false, eval e X.env) :: starEach es X.env := by rfl) (hpl : (backTo pos (starEach es X.env)).any (·.1) = false := by rfl) :
    PE X (.Call (.Name x p) (e :: es) [] pos) (tCallP X sp t) := by
  obtain ⟨f, fd, F, hm, kp, hb⟩ := c.ex
  refine ⟨fun pins s σ H Q I h => ?_⟩
  refine wpAny_Call_Name_kw (ld_glob I hg hm ?_ hdb)
  refine PySem.W.callWith_K (h₀ := X.base) I.ok.mod.kin kp (thn (ha.run pos pins s σ H _ I h) fun us s1 ⟨vs, H1, I1, r, q⟩ => ⟨I1.kIn, ?_⟩) he hpl
  obtain ⟨G, up, ca⟩ := caught_of I1
  obtain ⟨nb, nf⟩ := cells_apart I1 hfn
  have q := q G ca
  have hl : us.length = ps.length := by rw [← r.length]; exact F.len _ _ _ _ q
  have b := hb s1 us I1.kIn (by rw [List.append_nil]; exact hl)
  rw [List.append_nil] at b
  refine wpAny_call (codeAny_mono (F.run X.A X.stack s1 G ⟨us, []⟩ us vs _ _ (hr.mono hk) (env_up up nb nf I1.env0) b r q) fun r s' hq => ?_)
  cases r with
  | error e => exact False.elim hq
  | ok fl =>
    cases fl with
    | ret u => exact I1.after (end_up up hq)
    | next => exact False.elim hq
    | brk => exact False.elim hq
    | cont => exact False.elim hq
/-! ### what was handed in is called -/
def tAct (P : Program) (w : World) (K : PySem.W.Frag) (mg : Str → Option Value) (base : Heap) (k : Nat) (E : L2.St → XK) (to : TE) : TE := fun σ H Q => to σ H fun x H1 => ∃ (f : Addr) (R : Hp → Prop) (tl : Hp → VK → XK → Prop), x = .ref f ∧ Act P w K mg base k f R tl ∧ R H1 ∧ tl H1 Q (E σ)
theorem pe_act {P : Program} {w : World} {K : PySem.W.Frag} {mg : Str → Option Value} {base : Heap} {a : Str} {p1 p2 : Pos} {E : L2.St → XK} (eP : X.prog = P) (ew : X.w = w) (eK : X.K = K) (eg : X.mg = mg) (eb : X.base = base) (hx : ∀ σ, PassesAt (L2.CX X.prog X.w) X σ (E σ)) (hr : Room j X.A) (hk : k ≤ j) (ho : PE X (.Name a p1) to) : PE X (.Call (.Name a p1) [] [] p2) (tAct P w K mg base k E to) := by
  subst eP ew eK eg eb
  refine ⟨fun pins s σ H Q I h => ?_⟩
  refine wpAny_Call_Name_kw (thn (ho.run pins s σ H _ I h) fun u s1 ⟨v, H1, I1, r1, f, R, tl, ev, A, hR, q⟩ => ?_)
  subst ev
  obtain rfl : u = Value.ref f := r1
  refine PySem.W.callWith_F0 (first := []) (A.fn s1 H1 hR I1.hok) ?_
  refine wpAny_call (codeAny_mono (A.run X.A X.stack s1 H1 Q (E σ) (hr.mono hk) I1.env0 hR q) fun r s' hq => ?_)
  cases r with
  | error e => exact hx σ pins H1 s1 e s' I1 hq
  | ok fl =>
    cases fl with
    | ret u => exact I1.after hq
    | next => exact False.elim hq
    | brk => exact False.elim hq
    | cont => exact False.elim hq
end
end
end LM
set_option Elab.async false
set_option maxRecDepth 100000
set_option maxHeartbeats 4000000
namespace LM
open PySem PySem.Spec PyProof.Rows L2
/-! ### defs that are called within an except suite, and raise nothing -/
/-- the handled exception, its class, its dict -/
abbrev SpW := Addr → Value → Option Addr → Sp
structure FnW (P : Program) (w : World) (K : PySem.W.Frag) (mg : Str → Option Value) (base : Heap) (k : Nat) (f : Addr) (fd : FuncData) (ps : List Str) (sp : SpW) : Prop where
  len : ∀ a cls d vs H Q E, sp a cls d vs H Q E → vs.length = ps.length
  run : ∀ (A : Around) (outer : List Env) (s : Shared) (H : Hp) (args : Args) (us : List Value) (vs : List V) (Q : VK) (E : XK) (p : Addr × Obj) (cls : Value) (d : Option Addr), L2H.RoomH k A → L2H.PinOk outer H s p → Zc cls d p.2 → (∃ us, p.2.data = .fields us) → Env0 P w K mg base A outer s H → BindsTo s fd args (ps.zip us) → Vals vs us → sp p.1 cls d vs H Q E →
    codeAny (model P w) A (.call (.ref f) args) (CR C8.CX0 outer P w H s Q E) s
structure CalW (P : Program) (w : World) (K : PySem.W.Frag) (mg : Str → Option Value) (base : Heap) (k : Nat) (x : Str) (ps : List Str) (sp : SpW) : Prop where
  ex : ∃ (f : Addr) (fd : FuncData), FnW P w K mg base k f fd ps sp ∧ mg x = some (.ref f) ∧ PySem.W.keepIn K (.ref f) = true ∧ Binds K fd ps []
section
variable {P : Program} {w : World} {K : PySem.W.Frag} {mg : Str → Option Value} {base : Heap}
theorem def_okW {x : Str} {st : Stmt} {c : Addr} {N ps : List Str} {k : Nat} {sp : SpW} (D : RS.DefAt K mg x st c) (S : FnScope N ps (defScope st)) (len : ∀ a cls d vs H Q E, sp a cls d vs H Q E → vs.length = ps.length)
    (hb : ∀ (kV doc pm : Value) (an : Option Addr) (cdv ct : Value) (us : List Value), us.length = ps.length → bindArgs (PySem.W.fnOf x x (defArgs st) (defBody st) (defScope st) .none kV doc pm an cdv ct) ⟨us, []⟩ = pure (ps.zip us))
    (hbody : ∀ (f : Addr) (A : Around) (outer : List Env) (s : Shared) (H : Hp) (vs : List V) (Q : VK) (E : XK) (p : Addr × Obj) (cls : Value) (d : Option Addr), L2H.RoomH k (A.deeper (envOfC x (defScope st) s.heap.objs.size f (.ref c))) → Zc cls d p.2 → (∃ us, p.2.data = .fields us) → sp p.1 cls d vs H Q E →
      ∃ t, PSs (L2H.cxH C8.CX0 P w K mg base N x (defScope st) f (.ref c) A outer s H E p) (defBody st) t ∧ t { nx := fun _ H' => Q .non H', rt := Q } (L2.start N vs) H) :
    CalW P w K mg base (k + 1) x ps sp := by
  obtain ⟨f, oc, od, kV, doc, pm, an, ct, osl, hm, lk, hcd, kp⟩ := D.ex
  refine ⟨f, _, ⟨len, fun A outer s H args us vs Q E p cls d hr hpin hz hf e0 bd r hsp => ?_⟩, hm, kp, .all (hb kV doc pm an (.ref c) ct)⟩
  have hl := len _ _ _ _ _ _ _ hsp
  have KX : K.In s.heap := e0.mod.kin.keeps fun b o e => (e0.bs b o e).1
  have lim : s.heap.NoLimit := e0.mod.nolimit.keeps fun b o e => (e0.bs b o e).1
  have kd : ∀ y ∈ ps.zip us, (defScope st).names.lookup y.1 = some .local ∨ ((defScope st).names.lookup y.1 = some .cell ∧ ((cellsFrom (s.heap.objs.size + 1) (defScope st).names []).lookup y.1).isSome = true) := fun ⟨n, v⟩ hy => by
    rcases S.par n (List.of_mem_zip hy).1 with q | q
    · exact .inl q
    · exact .inr ⟨q, PySem.W.cellsFrom_some _ _ _ (.inl q)⟩
  refine codeAny_call_function hr.depth (KX _ _ lk) rfl S.co S.gen rfl (PySem.W.codeRec_of KX hcd) (bd _ _ _ _ ?_)
  refine wpAny_newFunctionEnv_cells S.kind kd fun env he s1 ic => ?_
  subst he
  refine ⟨lim.keeps ic.toInCall.keep, codeAny_func ?_⟩
  obtain ⟨t, ht, hq⟩ := hbody f A outer s H vs Q E p cls d (hr.deeper _) hz hf hsp
  refine wpAny_mono (ht.run [] s1 (L2.start N vs) H _ (L2H.inv_startH S hpin e0 hl r ic) hq) (fun fl s' hs => ?_) fun e s' hs => hs
  cases fl with
  | ret u =>
    obtain ⟨v, σ', H', J, rv, q⟩ := hs
    exact ⟨v, H', J.os, J.bare, J.base, J.hok, rv, q⟩
  | next =>
    obtain ⟨σ', H', J, q⟩ := hs
    exact ⟨.non, H', J.os, J.bare, J.base, J.hok, rfl, q⟩
  | brk =>
    obtain ⟨_, _, _, q⟩ := hs
    exact False.elim q
  | cont =>
    obtain ⟨_, _, _, q⟩ := hs
    exact False.elim q
end
section
variable {X : Cx} {k j : Nat} {ps : List Str} {sp : SpW} {x : Str} {q pos : Pos} {e : Expr} {es : List Expr} {t : TA}
/-- such a def is called in the suite that handles p -/
def tCallW (sp : SpW) (a : Addr) (cls : Value) (d : Option Addr) (t : TA) : TE := fun σ H Q => t σ H fun vs H1 => sp a cls d vs H1 Q C8.E0
theorem pe_cW {a : Addr} {oe : Obj} {cls : Value} {d : Option Addr} (c : CalW X.prog X.w X.K X.mg X.base k x ps sp) (hr : L2H.RoomH j X.A) (hk : k ≤ j) (hp : (a, oe) ∈ X.pn) (hz : Zc cls d oe) (hf : ∃ us, oe.data = .fields us) (hg : Gl X x) (ha : PA X (e :: es) t) (hdb : (x == ("__debug__" : Str)) = false := by decide)
    (he : starEach (e :: es) X.env = (false, eval e X.env) :: starEach es X.env := by rfl) (hpl : (backTo pos (starEach es X.env)).any (·.1) = false := by rfl) :
    PE X (.Call (.Name x q) (e :: es) [] pos) (tCallW sp a cls d t) := by
  obtain ⟨f, fd, F, hm, kp, hb⟩ := c.ex
  refine ⟨fun pins s σ H Q I h => ?_⟩
  refine wpAny_Call_Name_kw (ld_glob I hg hm ?_ hdb)
  refine PySem.W.callWith_K (h₀ := X.base) I.ok.mod.kin kp (thn (ha.run pos pins s σ H _ I h) fun us s1 ⟨vs, H1, I1, r, q⟩ => ⟨I1.kIn, ?_⟩) he hpl
  have hl : us.length = ps.length := by rw [← r.length]; exact F.len _ _ _ _ _ _ _ q
  have b := hb s1 us I1.kIn (by rw [List.append_nil]; exact hl)
  rw [List.append_nil] at b
  obtain ⟨h1, h2, h3, h4, h5⟩ := I1.pin (a, oe) (List.mem_append_left _ hp)
  have hpin : L2H.PinOk X.stack H1 s1 (a, oe) := ⟨h1, h2, fun hm => (List.mem_cons.mp (I1.stkSub a hm)).elim h3 h4, h5⟩
  refine wpAny_call (codeAny_mono (F.run X.A X.stack s1 H1 ⟨us, []⟩ us vs Q _ (a, oe) cls d (hr.mono hk) hpin hz hf I1.env0 b r q) fun r s' hq => ?_)
  cases r with
  | error e => exact False.elim hq
  | ok fl =>
    cases fl with
    | ret u => exact I1.after hq
    | next => exact False.elim hq
    | brk => exact False.elim hq
    | cont => exact False.elim hq
/-! ### isinstance of the handled exception, with or without a dict -/
def DictAt (d : Option Addr) (H : Hp) : Prop := ∀ dd, d = some dd → ∃ fs, H dd = some (.xd fs)
def rIsW (K : PySem.W.Frag) (D a : Addr) (d : Option Addr) : List V → Hp → VK → Prop := fun xs H Q => ∃ (c : V) (cv : Value) (b : Bool), xs = [.ref a, c] ∧ (∀ u, RelV c u → u = cv) ∧ DictAt d H ∧ PySem.W.kitOne K (.ref D) cv = some b ∧ Q (.bl b) H
theorem call_isW {p : Addr × Obj} {D : Addr} {d : Option Addr} (C : ExcC X.K D) (hp : p ∈ X.pn) (hz : Zc (.ref D) d p.2) (hf : ∃ vs, p.2.data = .fields vs) : CallR X (.builtin "isinstance") (rIsW X.K D p.1 d) := by
  intro pins s σ H xs us Q I r h
  obtain ⟨c, cv, b, rfl, hcv, hd, e, q⟩ := h
  obtain ⟨a, oe⟩ := p
  cases r with
  | cons rx rr =>
    cases rr with
    | cons rt rr =>
      cases rr
      cases rx
      have ec := hcv _ rt
      subst ec
      obtain ⟨hget, _⟩ := I.pin (a, oe) (List.mem_append_left _ hp)
      obtain ⟨vs, hv⟩ := hf
      obtain ⟨cd, hcd, _⟩ := PySem.W.any_some C.hd
      have J : ∃ od : Option Obj, PySem.W.InstAt s.heap a oe D od := by
        obtain ⟨oc, ody, oda, osl⟩ := oe
        obtain ⟨h1, h2⟩ := hz
        dsimp only at h1 h2 hv
        subst h1 h2 hv
        cases ody with
        | none => exact ⟨none, hget, rfl, rfl, trivial⟩
        | some dd =>
          obtain ⟨fs, hfs⟩ := hd dd rfl
          obtain ⟨mA, ⟨o, es, ep, ho, _⟩, _⟩ := (show ObjOk X.prog X.w H s.heap dd (.xd fs) from I.hok dd _ hfs)
          exact ⟨some o, hget, rfl, rfl, ho⟩
      obtain ⟨od, J⟩ := J
      exact PySem.W.kia_one (PySem.W.kitx_exc (od := od) (ox := oe) (by rw [hcd]; rfl) C.hg C.hk C.hs C.ha C.hn C.ht C.hm) I.kIn J e (fun z => nomatch z) fun tk => ⟨.bl b, H, I.kept (t' := tk) fun _ _ z => z, rfl, q⟩
/-- err.f, the class known by the reading -/
def tXfA (K : PySem.W.Frag) (a : Addr) (cls : Value) (d : Option Addr) (f : Str) (te : TE) : TE := fun σ H Q => ∃ C : Addr, XfC K C ∧ PySem.W.findIn K (.ref C) f = some none ∧ tXf a cls d C f te σ H Q
theorem pe_xfA {a : Addr} {oe : Obj} {cls : Value} {d : Option Addr} {pn : List (Addr × Obj)} {e : Expr} {te : TE} {pos : Pos} {n : Str} (hz : Zc cls d oe) (hf : ∃ vs, oe.data = .fields vs) (he : PE (X.suite a ((a, oe) :: pn)) e te) (hb : attributeBase e n X.env (eval e X.env) = eval e X.env := by rfl) :
    PE (X.suite a ((a, oe) :: pn)) (.Attribute e n pos) (tXfA X.K a cls d n te) :=
  ⟨fun pins s σ H Q I ⟨_, T, hno, h⟩ => (pe_xf T hno hz hf he hb).run pins s σ H Q I h⟩
/-! ### list.count, flat items -/
def rCountF (K : PySem.W.Frag) : V → List V → Hp → VK → Prop := fun x xs H Q => ∃ (a : Addr) (ys : List V) (y : V), x = V.ref a ∧ xs = [y] ∧ SqL K H a ys ∧ flatV y = true ∧ ys.all flatV = true ∧ Q (.int ((ys.countP fun z => eqV z y : Nat) : Int)) H
theorem count_flat {y : V} : ∀ {ys : List V} {us : List Value}, Vals ys us → ys.all flatV = true → us.countP (eqU y) = ys.countP fun z => eqV z y
  | _, _, .nil, _ => rfl
  | z :: ys, u :: us, .cons r t, f => by
    rw [List.all_cons, Bool.and_eq_true] at f
    rw [List.countP_cons, List.countP_cons, eqU_of r f.1, count_flat t f.2]
theorem mt_countF : MtR X "list.count" (rCountF X.K) := by
  intro pins s σ H x xs v us Q I rx rxs h
  obtain ⟨a, ys, y, rfl, rfl, hs, fy, fys, q⟩ := h
  cases rx
  cases rxs with
  | cons ry rt =>
    rename_i uy ut
    cases rt
    obtain ⟨its, rv, ⟨⟨cls, dd, data, sl⟩, n, ho, hc, hdn, hd⟩, hlen⟩ := I.list hs
    simp only at hc hd
    subst hc hd
    refine call_meets PySem.F.slot_list_count ⟨_, ho, rfl⟩ PySem.F.entry_list_count (PySem.F.args_list_count_2 _ _) (SeqAt.list_countAt a its.toArray n dd sl uy (eqU y)) ⟨ho, fun u' hu' => mem_eqAt ry fy rv fys u' (by simpa using hu'), ?_⟩
    have ec : its.toArray.toList.countP (eqU y) = ys.countP fun z => eqV z y := count_flat rv fys
    refine ⟨.int ((ys.countP fun z => eqV z y : Nat) : Int), H, I.tok _, ⟨s.toks, ?_⟩, q⟩
    show Value.int ((its.toArray.toList.countP (eqU y) : Nat) : Int) s.toks = _
    rw [ec]
end
end LM
set_option Elab.async false
set_option maxRecDepth 100000
set_option maxHeartbeats 4000000
namespace RS
open PySem PySem.Spec PyProof.Rows L2 GX
/-! ### data without lists -/
mutual
def noL : PyData → Bool
  | .list _ => false
  | .dict _ => false
  | .tuple ds => noLs ds
  | _ => true
def noLs : List PyData → Bool
  | [] => true
  | d :: ds => noL d && noLs ds
end
theorem noLs_iff : ∀ {ds : List PyData}, noLs ds = true ↔ ∀ d ∈ ds, noL d = true
  | [] => by simp [noLs]
  | d :: ds => by
    unfold noLs
    rw [Bool.and_eq_true, noLs_iff]
    simp
theorem sqT_upd {K : PySem.W.Frag} {H : Hp} {a b : Addr} {xs u ys : List V} (hH : H a = some (.lst xs)) (h : SqT K H b ys) : SqT K (upd H a (.lst u)) b ys := by
  rcases h with (h | ⟨o, h⟩) | h
  · refine .inl (.inl ?_)
    rw [upd_ne (fun z => by rw [z, hH] at h; cases h)]
    exact h
  · refine .inl (.inr ⟨o, ?_⟩)
    rw [upd_ne (fun z => by rw [z, hH] at h; cases h)]
    exact h
  · exact .inr h
mutual
theorem dp_upd {K : PySem.W.Frag} {H : Hp} {a : Addr} {xs u : List V} (hH : H a = some (.lst xs)) : ∀ (d : PyData) {v : V}, noL d = true → Dp K H v d → Dp K (upd H a (.lst u)) v d
  | .none, _, _, .non => .non
  | .bool b, _, _, .bl _ => .bl b
  | .int i, _, _, .int _ => .int i
  | .str x, _, _, .str _ => .str x
  | .list ds, _, h, _ => by cases h
  | .tuple ds, _, h, .tup q hs => .tup (sqT_upd hH q) (dpAll_upd hH ds h hs)
  | .dict _, _, h, _ => by cases h
theorem dpAll_upd {K : PySem.W.Frag} {H : Hp} {a : Addr} {xs u : List V} (hH : H a = some (.lst xs)) : ∀ (ds : List PyData) {vs : List V}, noLs ds = true → DpAll K H vs ds → DpAll K (upd H a (.lst u)) vs ds
  | [], _, _, .nil => .nil
  | d :: ds, _, h, .cons q hs => by
    unfold noLs at h
    rw [Bool.and_eq_true] at h
    exact .cons (dp_upd hH d h.1 q) (dpAll_upd hH ds h.2 hs)
end
/-- a list is changed that is none of those ahead -/
theorem dp_upd' {K : PySem.W.Frag} {H H' : Hp} {a : Addr} {xs u : List V} (s : Same H H') (hn : H a = none) {d : PyData} {v : V} (q : Dp K H v d) : Dp K (upd H' a (.lst u)) v d :=
  dp_same (fun b o e => by rw [upd_ne (ne_of_none e hn)]; exact s b o e) d q

theorem depth0 : ∀ {ds : List PyData}, (∀ d ∈ ds, d.depth = 0) → PyData.depthAll ds = 0
  | [], _ => by simp [PyData.depthAll]
  | d :: ds, h => by
    simp only [PyData.depthAll]
    rw [h d List.mem_cons_self, depth0 fun e he => h e (List.mem_cons_of_mem _ he)]
    rfl
theorem upd_no {H : Hp} {a b : Addr} {o : HO} (e : upd H a o b = none) : H b = none := by
  by_cases z : b = a
  · rw [z, upd_same] at e
    cases e
  · rw [upd_ne z] at e
    exact e
theorem cond_by {tc : TT} {σ : L2.St} {H : Hp} {Q : Bool → Hp → Prop} (b : Bool) (N : Hp → Prop) (h1 : ∀ Q' : Bool → Hp → Prop, (∀ H2, N H2 → Q' b H2) → tc σ H Q') (h2 : ∀ H2, N H2 → Q b H2) : tc σ H Q := h1 Q h2
theorem iteT' {b : Bool} {A B : Prop} (e : b = true) (h : A) : if b = true then A else B := by
  rw [if_pos e]
  exact h
theorem iteF' {b : Bool} {A B : Prop} (e : b = false) (h : B) : if b = true then A else B := by
  rw [if_neg (by rw [e]; decide)]
  exact h
end RS
set_option Elab.async false
set_option maxRecDepth 100000
namespace RS
open PySem PySem.Spec PyProof.Rows L2 GX
theorem sameNew {H H1 : Hp} {a : Addr} {o : HO} (s : Same H H1) (h : H1 a = none) : Same H (upd H1 a o) := fun b u e => by
  rw [upd_ne (ne_of_none (s _ _ e) h)]
  exact s _ _ e
end RS
set_option Elab.async false
set_option maxRecDepth 100000
set_option maxHeartbeats 4000000
set_option pp.maxSteps 400
namespace RS
open PySem PySem.Spec PyProof.Rows L2 GX LM
/-! ### the law's reading of errors -/
def nm15 : List Str := ["BadKinds", "BadOrder", "BadRows", "BadRuns", "BadRoom", "BadLengths", "BadPlan", "BadPaper", "BadCount", "BadBlock", "Stopped", "Shut", "NotYet", "Empty", "BadText"]
def ysJ (j : Nat) : List V := (List.range 15).map fun i => V.bl (decide (i = j))
theorem ysJ_ok : ∀ j < 15, (ysJ j).all flatV = true ∧ ((ysJ j).countP fun z => eqV z (.bl true)) = 1 ∧ (ysJ j)[j]? = some (.bl true) ∧ ∀ m < j, (ysJ j)[m]? = some (.bl false) := by decide +kernel
theorem nm15_ok : ∀ j < 15, (nm15.map V.str)[j]? = some (.str (nm15.getD j "")) := by decide +kernel
/-- the classes of the errors -/
structure Cls15 (mg : Str → Option Value) (C : Nat → Addr) : Prop where
  g0 : mg "BadKinds" = some (.ref (C 0))
  g1 : mg "BadOrder" = some (.ref (C 1))
  g2 : mg "BadRows" = some (.ref (C 2))
  g3 : mg "BadRuns" = some (.ref (C 3))
  g4 : mg "BadRoom" = some (.ref (C 4))
  g5 : mg "BadLengths" = some (.ref (C 5))
  g6 : mg "BadPlan" = some (.ref (C 6))
  g7 : mg "BadPaper" = some (.ref (C 7))
  g8 : mg "BadCount" = some (.ref (C 8))
  g9 : mg "BadBlock" = some (.ref (C 9))
  g10 : mg "Stopped" = some (.ref (C 10))
  g11 : mg "Shut" = some (.ref (C 11))
  g12 : mg "NotYet" = some (.ref (C 12))
  g13 : mg "Empty" = some (.ref (C 13))
  g14 : mg "BadText" = some (.ref (C 14))
/-- D is the class j, and none of the others -/
structure Own15 (K : PySem.W.Frag) (C : Nat → Addr) (D : Addr) (j : Nat) : Prop where
  lt : j < 15
  exc : ExcC K D
  one : ∀ i, i < 15 → PySem.W.kitOne K (.ref D) (.ref (C i)) = some (decide (i = j))
  ve : PySem.W.kitOne K (.ref D) (.type "ValueError") = some true
theorem dictAt_same {d : Option Addr} {H H' : Hp} (h : DictAt d H) (s : Same H H') : DictAt d H' := fun dd e => by
  obtain ⟨fs, z⟩ := h dd e
  exact ⟨fs, s _ _ z⟩
section
variable {P : Program} {w : World} {K : PySem.W.Frag} {mg : Str → Option Value} {base : Heap}
theorem scClass : FnScope ["_law_e", nKinds, "_law_words"] ["_law_e"] (defScope sClass) := ⟨rfl, rfl, rfl, by decide +kernel, rfl, by decide +kernel, by decide +kernel⟩
def spClass (K : PySem.W.Frag) (C : Nat → Addr) : SpW := fun a cls d vs H Q _ => ∃ (D : Addr) (j : Nat), vs = [.ref a] ∧ cls = .ref D ∧ Own15 K C D j ∧ DictAt d H ∧ ∀ H', Same H H' → Q (.str (nm15.getD j "")) H'
theorem class_ok {c : Addr} {C : Nat → Addr} (DD : DefAt K mg "_law_class" sClass c) (T : Txt K mg) (G : Cls15 mg C) (hve : mg "ValueError" = none) : CalW P w K mg base 1 "_law_class" ["_law_e"] (spClass K C) := by
  have sc := scClass
  refine def_okW DD sc (fun a cls d vs H Q E h => ?_) (fun _ _ _ _ _ _ us hl => match us, hl with | [_], _ => rfl) (fun f A outer s H vs Q E p cls d hr hz hf h => ?_)
  · obtain ⟨D, j, rfl, _⟩ := h
    rfl
  · obtain ⟨D, j, rfl, rfl, O, hd, k⟩ := h
    refine ⟨_, (pss_cons (ps_set (i := 1) sc.nd rfl (Or.inl rfl) (pe_lst (pa_cons (pe_callB (call_isW O.exc List.mem_cons_self hz hf) (by rfl) T.isinstance (by decide +kernel) (pa_cons (pv 0) (pa_cons (pe_glob (v := V.ref (C 0)) (by rfl) G.g0 rfl) pa_nil))) (pa_cons (pe_callB (call_isW O.exc List.mem_cons_self hz hf) (by rfl) T.isinstance (by decide +kernel) (pa_cons (pv 0) (pa_cons (pe_glob (v := V.ref (C 1)) (by rfl) G.g1 rfl) pa_nil))) (pa_cons (pe_callB (call_isW O.exc List.mem_cons_self hz hf) (by rfl) T.isinstance (by decide +kernel) (pa_cons (pv 0) (pa_cons (pe_glob (v := V.ref (C 2)) (by rfl) G.g2 rfl) pa_nil))) (pa_cons (pe_callB (call_isW O.exc List.mem_cons_self hz hf) (by rfl) T.isinstance (by decide +kernel) (pa_cons (pv 0) (pa_cons (pe_glob (v := V.ref (C 3)) (by rfl) G.g3 rfl) pa_nil))) pa_nil)))))) (pss_cons (ps_set (i := 1) sc.nd rfl (Or.inl rfl) (pe_op op_cat (pv 1) (pe_lst (pa_cons (pe_callB (call_isW O.exc List.mem_cons_self hz hf) (by rfl) T.isinstance (by decide +kernel) (pa_cons (pv 0) (pa_cons (pe_glob (v := V.ref (C 4)) (by rfl) G.g4 rfl) pa_nil))) (pa_cons (pe_callB (call_isW O.exc List.mem_cons_self hz hf) (by rfl) T.isinstance (by decide +kernel) (pa_cons (pv 0) (pa_cons (pe_glob (v := V.ref (C 5)) (by rfl) G.g5 rfl) pa_nil))) (pa_cons (pe_callB (call_isW O.exc List.mem_cons_self hz hf) (by rfl) T.isinstance (by decide +kernel) (pa_cons (pv 0) (pa_cons (pe_glob (v := V.ref (C 6)) (by rfl) G.g6 rfl) pa_nil))) (pa_cons (pe_callB (call_isW O.exc List.mem_cons_self hz hf) (by rfl) T.isinstance (by decide +kernel) (pa_cons (pv 0) (pa_cons (pe_glob (v := V.ref (C 7)) (by rfl) G.g7 rfl) pa_nil))) pa_nil))))))) (pss_cons (ps_set (i := 1) sc.nd rfl (Or.inl rfl) (pe_op op_cat (pv 1) (pe_lst (pa_cons (pe_callB (call_isW O.exc List.mem_cons_self hz hf) (by rfl) T.isinstance (by decide +kernel) (pa_cons (pv 0) (pa_cons (pe_glob (v := V.ref (C 8)) (by rfl) G.g8 rfl) pa_nil))) (pa_cons (pe_callB (call_isW O.exc List.mem_cons_self hz hf) (by rfl) T.isinstance (by decide +kernel) (pa_cons (pv 0) (pa_cons (pe_glob (v := V.ref (C 9)) (by rfl) G.g9 rfl) pa_nil))) (pa_cons (pe_callB (call_isW O.exc List.mem_cons_self hz hf) (by rfl) T.isinstance (by decide +kernel) (pa_cons (pv 0) (pa_cons (pe_glob (v := V.ref (C 10)) (by rfl) G.g10 rfl) pa_nil))) (pa_cons (pe_callB (call_isW O.exc List.mem_cons_self hz hf) (by rfl) T.isinstance (by decide +kernel) (pa_cons (pv 0) (pa_cons (pe_glob (v := V.ref (C 11)) (by rfl) G.g11 rfl) pa_nil))) pa_nil))))))) (pss_cons (ps_set (i := 1) sc.nd rfl (Or.inl rfl) (pe_op op_cat (pv 1) (pe_lst (pa_cons (pe_callB (call_isW O.exc List.mem_cons_self hz hf) (by rfl) T.isinstance (by decide +kernel) (pa_cons (pv 0) (pa_cons (pe_glob (v := V.ref (C 12)) (by rfl) G.g12 rfl) pa_nil))) (pa_cons (pe_callB (call_isW O.exc List.mem_cons_self hz hf) (by rfl) T.isinstance (by decide +kernel) (pa_cons (pv 0) (pa_cons (pe_glob (v := V.ref (C 13)) (by rfl) G.g13 rfl) pa_nil))) (pa_cons (pe_callB (call_isW O.exc List.mem_cons_self hz hf) (by rfl) T.isinstance (by decide +kernel) (pa_cons (pv 0) (pa_cons (pe_glob (v := V.ref (C 14)) (by rfl) G.g14 rfl) pa_nil))) pa_nil)))))) (pss_cons (ps_set (i := 2) sc.nd rfl (Or.inl rfl) (pe_lst (pa_cons pe_str (pa_cons pe_str (pa_cons pe_str (pa_cons pe_str (pa_cons pe_str (pa_cons pe_str (pa_cons pe_str (pa_cons pe_str (pa_cons pe_str pa_nil))))))))))) (pss_cons (ps_set (i := 2) sc.nd rfl (Or.inl rfl) (pe_op op_cat (pv 2) (pe_lst (pa_cons pe_str (pa_cons pe_str (pa_cons pe_str (pa_cons pe_str (pa_cons pe_str (pa_cons pe_str pa_nil))))))))) (pss_one (ps_ret (pe_ifExp (pw_and (pt_cmpR op_eq (pe_bm PySem.F.plainAttrs_list PySem.F.slot_list_count PySem.F.type_list_count mt_countF (pv 1) (pa_cons pe_bl pa_nil)) pe_int (nomark _)) (pw_and1 (pt_val (pe_callB (call_isW O.exc List.mem_cons_self hz hf) (by rfl) T.isinstance (by decide +kernel) (pa_cons (pv 0) (pa_cons (pe_bltn (v := V.ty "ValueError") (u := Value.type "ValueError") (by rfl) hve (by decide +kernel) rfl) pa_nil)))))).pt (pe_ix ix_list (pv 2) (pe_bm PySem.F.plainAttrs_list PySem.F.slot_list_index PySem.F.type_list_index mt_index (pv 1) (pa_cons pe_bl pa_nil)) (fun _ _ => rfl)) pe_str))))))))), ?_⟩
    refine ⟨_, rfl, _, _, _, rfl, (fun _ r => r), hd, O.one 0 (by decide), _, rfl, _, _, _, rfl, (fun _ r => r), hd, O.one 1 (by decide), _, rfl, _, _, _, rfl, (fun _ r => r), hd, O.one 2 (by decide), _, rfl, _, _, _, rfl, (fun _ r => r), hd, O.one 3 (by decide), by show 4 ≤ sizeLine; decide, fun k1 h1 => ?_⟩
    have s1 := sameNew (o := .lst [.bl (decide (0 = j)), .bl (decide (1 = j)), .bl (decide (2 = j)), .bl (decide (3 = j))]) (Same.refl H) h1
    have e1 : upd H k1 (.lst [.bl (decide (0 = j)), .bl (decide (1 = j)), .bl (decide (2 = j)), .bl (decide (3 = j))]) k1 = some (.lst [.bl (decide (0 = j)), .bl (decide (1 = j)), .bl (decide (2 = j)), .bl (decide (3 = j))]) := upd_same
    have hd1 := dictAt_same hd s1
    generalize upd H k1 (.lst [.bl (decide (0 = j)), .bl (decide (1 = j)), .bl (decide (2 = j)), .bl (decide (3 = j))]) = H1 at s1 e1 hd1 ⊢
    refine ⟨_, rfl, _, rfl, _, _, _, rfl, (fun _ r => r), hd1, O.one 4 (by decide), _, rfl, _, _, _, rfl, (fun _ r => r), hd1, O.one 5 (by decide), _, rfl, _, _, _, rfl, (fun _ r => r), hd1, O.one 6 (by decide), _, rfl, _, _, _, rfl, (fun _ r => r), hd1, O.one 7 (by decide), by show 4 ≤ sizeLine; decide, fun m2 hm2 => ?_⟩
    have t2 := sameNew (o := .lst [.bl (decide (4 = j)), .bl (decide (5 = j)), .bl (decide (6 = j)), .bl (decide (7 = j))]) (Same.refl H1) hm2
    have f2 : upd H1 m2 (.lst [.bl (decide (4 = j)), .bl (decide (5 = j)), .bl (decide (6 = j)), .bl (decide (7 = j))]) m2 = some (.lst [.bl (decide (4 = j)), .bl (decide (5 = j)), .bl (decide (6 = j)), .bl (decide (7 = j))]) := upd_same
    have e2' := t2 _ _ e1
    generalize upd H1 m2 (.lst [.bl (decide (4 = j)), .bl (decide (5 = j)), .bl (decide (6 = j)), .bl (decide (7 = j))]) = G2 at t2 f2 e2' ⊢
    refine ⟨k1, m2, _, _, rfl, rfl, e2', f2, by show 8 ≤ sizeLine; decide, fun k2 h2 => ?_⟩
    have s2 := sameNew (o := .lst ([.bl (decide (0 = j)), .bl (decide (1 = j)), .bl (decide (2 = j)), .bl (decide (3 = j))] ++ [.bl (decide (4 = j)), .bl (decide (5 = j)), .bl (decide (6 = j)), .bl (decide (7 = j))])) (s1.trans t2) h2
    have e2 : upd G2 k2 (.lst ([.bl (decide (0 = j)), .bl (decide (1 = j)), .bl (decide (2 = j)), .bl (decide (3 = j))] ++ [.bl (decide (4 = j)), .bl (decide (5 = j)), .bl (decide (6 = j)), .bl (decide (7 = j))])) k2 = some (.lst ([.bl (decide (0 = j)), .bl (decide (1 = j)), .bl (decide (2 = j)), .bl (decide (3 = j))] ++ [.bl (decide (4 = j)), .bl (decide (5 = j)), .bl (decide (6 = j)), .bl (decide (7 = j))])) := upd_same
    have hd2 := dictAt_same hd s2
    generalize upd G2 k2 (.lst ([.bl (decide (0 = j)), .bl (decide (1 = j)), .bl (decide (2 = j)), .bl (decide (3 = j))] ++ [.bl (decide (4 = j)), .bl (decide (5 = j)), .bl (decide (6 = j)), .bl (decide (7 = j))])) = H2 at s2 e2 hd2 ⊢
    refine ⟨_, rfl, _, rfl, _, _, _, rfl, (fun _ r => r), hd2, O.one 8 (by decide), _, rfl, _, _, _, rfl, (fun _ r => r), hd2, O.one 9 (by decide), _, rfl, _, _, _, rfl, (fun _ r => r), hd2, O.one 10 (by decide), _, rfl, _, _, _, rfl, (fun _ r => r), hd2, O.one 11 (by decide), by show 4 ≤ sizeLine; decide, fun m3 hm3 => ?_⟩
    have t3 := sameNew (o := .lst [.bl (decide (8 = j)), .bl (decide (9 = j)), .bl (decide (10 = j)), .bl (decide (11 = j))]) (Same.refl H2) hm3
    have f3 : upd H2 m3 (.lst [.bl (decide (8 = j)), .bl (decide (9 = j)), .bl (decide (10 = j)), .bl (decide (11 = j))]) m3 = some (.lst [.bl (decide (8 = j)), .bl (decide (9 = j)), .bl (decide (10 = j)), .bl (decide (11 = j))]) := upd_same
    have e3' := t3 _ _ e2
    generalize upd H2 m3 (.lst [.bl (decide (8 = j)), .bl (decide (9 = j)), .bl (decide (10 = j)), .bl (decide (11 = j))]) = G3 at t3 f3 e3' ⊢
    refine ⟨k2, m3, _, _, rfl, rfl, e3', f3, by show 12 ≤ sizeLine; decide, fun k3 h3 => ?_⟩
    have s3 := sameNew (o := .lst (([.bl (decide (0 = j)), .bl (decide (1 = j)), .bl (decide (2 = j)), .bl (decide (3 = j))] ++ [.bl (decide (4 = j)), .bl (decide (5 = j)), .bl (decide (6 = j)), .bl (decide (7 = j))]) ++ [.bl (decide (8 = j)), .bl (decide (9 = j)), .bl (decide (10 = j)), .bl (decide (11 = j))])) (s2.trans t3) h3
    have e3 : upd G3 k3 (.lst ([.bl (decide (0 = j)), .bl (decide (1 = j)), .bl (decide (2 = j)), .bl (decide (3 = j))] ++ [.bl (decide (4 = j)), .bl (decide (5 = j)), .bl (decide (6 = j)), .bl (decide (7 = j))] ++ [.bl (decide (8 = j)), .bl (decide (9 = j)), .bl (decide (10 = j)), .bl (decide (11 = j))])) k3 = some (.lst ([.bl (decide (0 = j)), .bl (decide (1 = j)), .bl (decide (2 = j)), .bl (decide (3 = j))] ++ [.bl (decide (4 = j)), .bl (decide (5 = j)), .bl (decide (6 = j)), .bl (decide (7 = j))] ++ [.bl (decide (8 = j)), .bl (decide (9 = j)), .bl (decide (10 = j)), .bl (decide (11 = j))])) := upd_same
    have hd3 := dictAt_same hd s3
    generalize upd G3 k3 (.lst ([.bl (decide (0 = j)), .bl (decide (1 = j)), .bl (decide (2 = j)), .bl (decide (3 = j))] ++ [.bl (decide (4 = j)), .bl (decide (5 = j)), .bl (decide (6 = j)), .bl (decide (7 = j))] ++ [.bl (decide (8 = j)), .bl (decide (9 = j)), .bl (decide (10 = j)), .bl (decide (11 = j))])) = H3 at s3 e3 hd3 ⊢
    refine ⟨_, rfl, _, rfl, _, _, _, rfl, (fun _ r => r), hd3, O.one 12 (by decide), _, rfl, _, _, _, rfl, (fun _ r => r), hd3, O.one 13 (by decide), _, rfl, _, _, _, rfl, (fun _ r => r), hd3, O.one 14 (by decide), by show 3 ≤ sizeLine; decide, fun m4 hm4 => ?_⟩
    have t4 := sameNew (o := .lst [.bl (decide (12 = j)), .bl (decide (13 = j)), .bl (decide (14 = j))]) (Same.refl H3) hm4
    have f4 : upd H3 m4 (.lst [.bl (decide (12 = j)), .bl (decide (13 = j)), .bl (decide (14 = j))]) m4 = some (.lst [.bl (decide (12 = j)), .bl (decide (13 = j)), .bl (decide (14 = j))]) := upd_same
    have e4' := t4 _ _ e3
    generalize upd H3 m4 (.lst [.bl (decide (12 = j)), .bl (decide (13 = j)), .bl (decide (14 = j))]) = G4 at t4 f4 e4' ⊢
    refine ⟨k3, m4, _, _, rfl, rfl, e4', f4, by show 15 ≤ sizeLine; decide, fun k4 h4 => ?_⟩
    have s4 := sameNew (o := .lst (([.bl (decide (0 = j)), .bl (decide (1 = j)), .bl (decide (2 = j)), .bl (decide (3 = j))] ++ [.bl (decide (4 = j)), .bl (decide (5 = j)), .bl (decide (6 = j)), .bl (decide (7 = j))] ++ [.bl (decide (8 = j)), .bl (decide (9 = j)), .bl (decide (10 = j)), .bl (decide (11 = j))]) ++ [.bl (decide (12 = j)), .bl (decide (13 = j)), .bl (decide (14 = j))])) (s3.trans t4) h4
    have e4 : upd G4 k4 (.lst ([.bl (decide (0 = j)), .bl (decide (1 = j)), .bl (decide (2 = j)), .bl (decide (3 = j))] ++ [.bl (decide (4 = j)), .bl (decide (5 = j)), .bl (decide (6 = j)), .bl (decide (7 = j))] ++ [.bl (decide (8 = j)), .bl (decide (9 = j)), .bl (decide (10 = j)), .bl (decide (11 = j))] ++ [.bl (decide (12 = j)), .bl (decide (13 = j)), .bl (decide (14 = j))])) k4 = some (.lst ([.bl (decide (0 = j)), .bl (decide (1 = j)), .bl (decide (2 = j)), .bl (decide (3 = j))] ++ [.bl (decide (4 = j)), .bl (decide (5 = j)), .bl (decide (6 = j)), .bl (decide (7 = j))] ++ [.bl (decide (8 = j)), .bl (decide (9 = j)), .bl (decide (10 = j)), .bl (decide (11 = j))] ++ [.bl (decide (12 = j)), .bl (decide (13 = j)), .bl (decide (14 = j))])) := upd_same
    have hd4 := dictAt_same hd s4
    generalize upd G4 k4 (.lst ([.bl (decide (0 = j)), .bl (decide (1 = j)), .bl (decide (2 = j)), .bl (decide (3 = j))] ++ [.bl (decide (4 = j)), .bl (decide (5 = j)), .bl (decide (6 = j)), .bl (decide (7 = j))] ++ [.bl (decide (8 = j)), .bl (decide (9 = j)), .bl (decide (10 = j)), .bl (decide (11 = j))] ++ [.bl (decide (12 = j)), .bl (decide (13 = j)), .bl (decide (14 = j))])) = H4 at s4 e4 hd4 ⊢
    have e4 : H4 k4 = some (.lst (ysJ j)) := e4
    refine ⟨by show 9 ≤ sizeLine; decide, fun a1 ha1 => ?_⟩
    have u1 := sameNew (o := .lst ((nm15.take 9).map V.str)) (Same.refl H4) ha1
    have g1 : upd H4 a1 (.lst ((nm15.take 9).map V.str)) a1 = some (.lst ((nm15.take 9).map V.str)) := upd_same
    refine ⟨_, rfl, by show 6 ≤ sizeLine; decide, fun a2 ha2 => ?_⟩
    have u2 := sameNew (o := .lst ((nm15.drop 9).map V.str)) (Same.refl (upd H4 a1 (.lst ((nm15.take 9).map V.str)))) ha2
    have g2 : upd (upd H4 a1 (.lst ((nm15.take 9).map V.str))) a2 (.lst ((nm15.drop 9).map V.str)) a2 = some (.lst ((nm15.drop 9).map V.str)) := upd_same
    refine ⟨a1, a2, (nm15.take 9).map V.str, (nm15.drop 9).map V.str, rfl, rfl, u2 _ _ g1, g2, by show 15 ≤ sizeLine; decide, fun a3 ha3 => ?_⟩
    have u3 := sameNew (o := .lst ((nm15.take 9).map V.str ++ (nm15.drop 9).map V.str)) ((s4.trans u1).trans u2) ha3
    have u43 := sameNew (o := .lst ((nm15.take 9).map V.str ++ (nm15.drop 9).map V.str)) (u1.trans u2) ha3
    have g3 : upd (upd (upd H4 a1 (.lst ((nm15.take 9).map V.str))) a2 (.lst ((nm15.drop 9).map V.str))) a3 (.lst ((nm15.take 9).map V.str ++ (nm15.drop 9).map V.str)) a3 = some (.lst (nm15.map V.str)) := upd_same
    have e5 := u43 _ _ e4
    have hd5 := dictAt_same hd u3
    have k5 := k _ u3
    obtain ⟨y1, y2, y3, y4⟩ := ysJ_ok j O.lt
    refine ⟨_, rfl, .inl ⟨rfl, _, SqL.of e5⟩, k4, ysJ j, .bl true, rfl, rfl, SqL.of e5, rfl, y1, ?_⟩
    rw [y2]
    refine ⟨rfl, _, rfl, iteT' rfl ?_⟩
    refine ⟨_, rfl, _, _, _, rfl, (fun _ r => r), hd5, O.ve, _, rfl, iteT ?_⟩
    refine ⟨_, rfl, _, rfl, .inl ⟨rfl, _, SqL.of e5⟩, k4, ysJ j, .bl true, j, .bl true, rfl, rfl, SqL.of e5, rfl, y1, y3, rfl, fun m z hm hz => ?_, ?_⟩
    · rw [y4 m hm] at hz
      cases hz
      rfl
    · exact ⟨a3, _, _, _, rfl, rfl, SqL.of g3, atI_nat (nm15_ok j O.lt), k5⟩
end
end RS
set_option Elab.async false
set_option maxRecDepth 100000
set_option maxHeartbeats 4000000
namespace RS
open PySem PySem.Spec PyProof.Rows L2 GX
/-! ### the drawer -/
structure BoxAt (H : Hp) (B L : Addr) : Prop where
  ne : B ≠ L
  b : ∃ s : Int, H B = some (.lst [.ref L, .int s])
  l : ∃ ms : List Int, H L = some (.lst (ms.map V.int))
/-- all but the drawer stays -/
def SameX (B L : Addr) (H H' : Hp) : Prop := ∀ b o, b ≠ B → b ≠ L → H b = some o → H' b = some o
theorem SameX.refl {B L : Addr} {H : Hp} : SameX B L H H := fun _ _ _ _ e => e
theorem SameX.trans {B L : Addr} {H H1 H2 : Hp} (a : SameX B L H H1) (b : SameX B L H1 H2) : SameX B L H H2 := fun c o h1 h2 e => b c o h1 h2 (a c o h1 h2 e)
theorem SameX.of {B L : Addr} {H H' : Hp} (s : Same H H') : SameX B L H H' := fun b o _ _ e => s b o e
theorem BoxAt.same {H H' : Hp} {B L : Addr} (h : BoxAt H B L) (s : Same H H') : BoxAt H' B L := by
  obtain ⟨n, ⟨x, hb⟩, ⟨ms, hl⟩⟩ := h
  exact ⟨n, ⟨x, s _ _ hb⟩, ⟨ms, s _ _ hl⟩⟩
section
variable {P : Program} {w : World} {K : PySem.W.Frag} {mg : Str → Option Value} {base : Heap}
theorem dpInts {K : PySem.W.Frag} {H : Hp} : ∀ {ns : List Int}, DpAll K H (ns.map V.int) (ns.map .int)
  | [] => .nil
  | n :: _ => .cons (.int n) dpInts
theorem scBegun : FnScope ["_law_script", "_law_stirred", "_law_cell"] ["_law_script"] (defScope sBegun) := ⟨rfl, rfl, rfl, by decide +kernel, rfl, by decide +kernel, by decide +kernel⟩
def spBegun (K : PySem.W.Frag) : Sp := fun vs H Q _ => ∃ (a : Addr) (ns : List Int), vs = [.ref a] ∧ SqL K H a (ns.map V.int) ∧
  ∀ (H' : Hp) (B L : Addr), Same H H' → H B = none → H L = none → BoxAt H' B L → Q (.ref B) H'
theorem begun_ok {c : Addr} (D : DefAt K mg "_law_begun" sBegun c) (T : Txt K mg) : Cal P w K mg base CX0 1 "_law_begun" ["_law_script"] (spBegun K) := by
  have sc := scBegun
  refine def_ok0 D sc (fun vs H Q E h => ?_) (fun _ _ _ _ _ _ us hl => match us, hl with | [_], _ => rfl) (fun f A outer s H vs Q E hr h => ?_)
  · obtain ⟨a, ns, rfl, _⟩ := h
    rfl
  · obtain ⟨a, ns, rfl, hS, k⟩ := h
    refine ⟨_, (pss_cons (ps_set (i := 1) sc.nd rfl (Or.inl rfl) pe_int) (pss_cons (ps_for PassesOwn.never rfl (pi_list (pv 0)) (pg_name (i := 2) sc.nd rfl (Or.inl rfl)) (pss_one (ps_set (i := 1) sc.nd rfl (Or.inl rfl) (pe_op op_mod (pe_op op_add (pe_op op_add (pe_op op_mul (pv 1) pe_int) (pe_op op_mul (pv 2) pe_int)) pe_int) pe_int)))) (pss_one (ps_ret (pe_lst (pa_cons (pe_callTy call_list_of (by rfl) T.list_ (by decide +kernel) (pa_cons (pv 0) pa_nil)) (pa_cons (pe_op op_mul (pv 1) (pe_callTy call_int1 (by rfl) T.int_ (by decide +kernel) (pa_cons (pe_cmpR op_gt (pe_callB call_lenD (by rfl) T.len PySem.boot_len (pa_cons (pv 0) pa_nil)) pe_int (nomark _)) pa_nil))) pa_nil))))))), ?_⟩
    refine ⟨_, rfl, a, rfl, ⟨_, hS⟩, for_list (K := K) (a := a) (xs := ns.map V.int) (fun i σ H' => ∃ (st : Int) (v2 : Option V), σ = [some (.ref a), some (.int st), v2] ∧ 0 ≤ st ∧ st < 2147483647 ∧ H' = H)
      ⟨0, none, rfl, by decide, by decide, rfl⟩ (fun i σ H' _ ⟨_, _, _, _, _, e⟩ => by rw [e]; exact hS) ?_ ?_⟩
    · rintro i x σ H' hx ⟨st, v2, rfl, h0, h1, rfl⟩
      obtain ⟨n, en, rfl⟩ : ∃ n, ns[i]? = some n ∧ x = V.int n := by
        rw [List.getElem?_map] at hx
        cases q : ns[i]? with
        | none => rw [q] at hx; cases hx
        | some b => rw [q] at hx; exact ⟨b, rfl, (Option.some.inj hx).symm⟩
      refine ⟨_, rfl, _, _, rfl, rfl, .inl ⟨by omega, by omega⟩, ?_⟩
      refine ⟨_, rfl, _, _, rfl, rfl, .inr ⟨by omega, by omega⟩, ?_⟩
      refine ⟨_, _, rfl, rfl, _, _, rfl, rfl, _, _, rfl, rfl, (by show (0 : Int) < 2147483647; decide), ?_⟩
      exact ⟨_, _, rfl, Int.emod_nonneg _ (by decide), Int.emod_lt_of_pos _ (by decide), rfl⟩
    · rintro σ H' ⟨st, v2, rfl, h0, h1, rfl⟩
      refine ⟨_, rfl, a, _, rfl, .inl hS, fun L hL => ?_⟩
      have s1 : Same H' (upd H' L (.lst (ns.map V.int))) := fun b o e => by
        rw [upd_ne (ne_of_none e hL)]
        exact e
      refine ⟨_, rfl, _, rfl, .ref a, _, _, rfl, .lst (s1.seq hS) dpInts, rfl, _, _, rfl, rfl, .inr ⟨_, rfl, ?_⟩⟩
      refine ⟨_, _, rfl, rfl, .inl ⟨by omega, by omega⟩, ?_⟩
      refine ⟨by show 2 ≤ sizeLine; decide, fun B hB => ?_⟩
      have n1 : L ≠ B := fun z => by rw [← z, upd_same] at hB; cases hB
      exact k _ B L (fun b o e => by rw [upd_ne (ne_of_none (s1 _ _ e) hB)]; exact s1 _ _ e) (s1.free hB) hL ⟨Ne.symm n1, ⟨_, upd_same⟩, ⟨ns, (upd_ne n1).trans upd_same⟩⟩
end
end RS
set_option Elab.async false
set_option maxRecDepth 100000
set_option maxHeartbeats 4000000
namespace RS
open PySem PySem.Spec PyProof.Rows L2 GX
section
variable {P : Program} {w : World} {K : PySem.W.Frag} {mg : Str → Option Value} {base : Heap}
theorem scTake : FnScope ["_law_box", "_law_many", "_law_number"] ["_law_box", "_law_many"] (defScope sTake) := ⟨rfl, rfl, rfl, by decide +kernel, rfl, by decide +kernel, by decide +kernel⟩
def spTake : Sp := fun vs H Q _ => ∃ (B L : Addr) (m : Int), vs = [.ref B, .int m] ∧ BoxAt H B L ∧ 1 ≤ m ∧ m ≤ 1000000000000000000 ∧
  ∀ (H' : Hp) (k : Int), SameX B L H H' → BoxAt H' B L → 0 ≤ k → k < m → Q (.int k) H'
theorem eqv_nil (ds : List PyData) : PyData.eqv (.list ds) (.list []) = ds.isEmpty := by
  cases ds <;> simp [PyData.eqv, PyData.eqvAll]
theorem shaped_ints (ms : List Int) : SeqAt.shaped (.list (ms.map .int)) = true := by
  have h1 : PyData.canLayAll0 (ms.map .int) = true := by
    induction ms with
    | nil => simp [PyData.canLayAll0]
    | cons m ms ih => simp [PyData.canLayAll0, PyData.canLay0, ih]
  have h2 : PyData.depthAll (ms.map .int) = 0 := depth0 fun d hd => by
    obtain ⟨n, _, rfl⟩ := List.mem_map.mp hd
    simp [PyData.depth]
  simp [SeqAt.shaped, PyData.canLay0, PyData.depth, h1, h2]
theorem take_ok {c : Addr} (D : DefAt K mg "_law_take" sTake c) : Cal P w K mg base CX0 1 "_law_take" ["_law_box", "_law_many"] spTake := by
  have sc := scTake
  refine def_ok0 D sc (fun vs H Q E h => ?_) (fun _ _ _ _ _ _ us hl => match us, hl with | [_, _], _ => rfl) (fun f A outer s H vs Q E hr h => ?_)
  · obtain ⟨B, L, m, rfl, _⟩ := h
    rfl
  · obtain ⟨B, L, m, rfl, ⟨nBL, ⟨st, hB⟩, ⟨ms, hL⟩⟩, hm, hm2, k⟩ := h
    have hu := hr.units
    refine ⟨_, (pss_cons (ps_if (pt_cmpR (op_eqD hu) (pe_ix ix_list (pv 0) pe_int (fun _ _ => rfl)) (pe_lst pa_nil) (nomark _)) (pss_cons (ps_asg (pe_op op_mod (pe_op op_mul (pe_ix ix_list (pv 0) pe_int (fun _ _ => rfl)) pe_int) pe_int) (pg_sub (pv 0) pe_int set_list)) (pss_one (ps_ret (pe_op op_mod (pe_op op_fdiv (pe_ix ix_list (pv 0) pe_int (fun _ _ => rfl)) pe_int) (pv 1))))) pss_nil) (pss_cons (ps_set (i := 2) sc.nd rfl (Or.inl rfl) (pe_ix ix_list (pe_ix ix_list (pv 0) pe_int (fun _ _ => rfl)) pe_int (fun _ _ => rfl))) (pss_cons (ps_asg (pe_op op_fdivW (pv 2) (pv 1)) (pg_sub (pe_ix ix_list (pv 0) pe_int (fun _ _ => rfl)) pe_int set_list)) (pss_cons (ps_if ((pw_or (pt_cmpR op_eq (pe_ix ix_list (pe_ix ix_list (pv 0) pe_int (fun _ _ => rfl)) pe_int (fun _ _ => rfl)) pe_int (nomark _)) (pw_or1 (pt_cmpR op_eq (pe_ix ix_list (pe_ix ix_list (pv 0) pe_int (fun _ _ => rfl)) pe_int (fun _ _ => rfl)) (pe_un un_neg pe_int) (nomark _)))).pt) (pss_one (ps_expr (pe_bm PySem.F.plainAttrs_list PySem.F.slot_list_pop PySem.F.type_list_pop mt_popAt (pe_ix ix_list (pv 0) pe_int (fun _ _ => rfl)) (pa_cons pe_int pa_nil)))) pss_nil) (pss_one (ps_ret (pe_op op_mod (pv 2) (pv 1)))))))), ?_⟩
    refine ⟨_, rfl, B, _, _, _, rfl, rfl, SqL.of hB, rfl, Nat.zero_le _, fun e0 he0 => ?_⟩
    have s0 : Same H (upd H e0 (.lst [])) := fun b o e => by
      rw [upd_ne (ne_of_none e he0)]
      exact e
    refine ⟨.list (ms.map .int), .list [], .lst (s0.seq (SqL.of hL)) dpInts, .lst (SqL.of upd_same) .nil, ?_, rfl, _, rfl, ?_⟩
    · exact shaped_ints ms
    rw [eqv_nil]
    have hB0 := s0 _ _ hB
    have hL0 := s0 _ _ hL
    cases ms with
    | nil =>
      refine iteT ⟨_, rfl, B, _, _, _, rfl, rfl, SqL.of hB0, atI_nat (j := 1) rfl, _, _, rfl, rfl, .inr ⟨by decide, by decide⟩, ?_⟩
      refine ⟨_, _, rfl, rfl, (by show (0 : Int) < 2147483647; decide), ?_⟩
      refine ⟨_, rfl, B, _, _, 1, rfl, rfl, hB0, rfl, ?_⟩
      refine ⟨_, rfl, B, _, _, _, rfl, rfl, SqL.of upd_same, atI_nat (j := 1) rfl, ?_⟩
      refine ⟨_, _, rfl, rfl, ⟨by decide, by decide⟩, _, rfl, _, _, rfl, rfl, (by show (0 : Int) < m; omega), ?_⟩
      refine k _ _ (fun b o h1 h2 e => ?_) ⟨nBL, ⟨_, upd_same⟩, ⟨[], (upd_ne (Ne.symm nBL)).trans hL0⟩⟩ (Int.emod_nonneg _ (by omega)) (Int.emod_lt_of_pos _ (by omega))
      rw [upd_ne h1]
      exact s0 _ _ e
    | cons m0 ms =>
      refine iteF ⟨_, rfl, B, _, _, _, rfl, rfl, SqL.of hB0, atI_nat (j := 0) rfl, L, _, _, _, rfl, rfl, SqL.of hL0, atI_nat (j := 0) rfl, ?_⟩
      refine ⟨_, rfl, _, rfl, _, _, rfl, rfl, wide_div (b := 64) (by omega) (by show m.natAbs < 18446744073709551616; omega) (by decide) (by decide), ?_⟩
      refine ⟨_, rfl, B, _, _, _, rfl, rfl, SqL.of hB0, atI_nat (j := 0) rfl, L, _, _, 0, rfl, rfl, hL0, by simp [ixN], ?_⟩
      have hB1 : upd (upd H e0 (.lst [])) L (.lst (((m0 :: ms).map V.int).set 0 (.int (m0 / m)))) B = some (.lst [.ref L, .int st]) := (upd_ne nBL).trans hB0
      refine ⟨_, rfl, B, _, _, _, rfl, rfl, SqL.of hB1, atI_nat (j := 0) rfl, L, _, _, _, rfl, rfl, SqL.of upd_same, atI_nat (j := 0) rfl, ?_⟩
      have sx : ∀ (u : HO) (b : Addr) (o : HO), b ≠ B → b ≠ L → H b = some o → upd (upd H e0 (.lst [])) L u b = some o := fun u b o h1 h2 e => by
        rw [upd_ne h2]
        exact s0 _ _ e
      have ret : ∀ (H2 : Hp), SameX B L H H2 → BoxAt H2 B L → (∃ v, (some (V.int m0) : Option V) = some v ∧ v = .int m0) → Q (.int (m0 % m)) H2 := fun H2 s2 b2 _ => k H2 _ s2 b2 (Int.emod_nonneg _ (by omega)) (Int.emod_lt_of_pos _ (by omega))
      have box1 : BoxAt (upd (upd H e0 (.lst [])) L (.lst (V.int (m0 / m) :: ms.map V.int))) B L := ⟨nBL, ⟨_, hB1⟩, ⟨m0 / m :: ms, upd_same⟩⟩
      have box2 : BoxAt (upd (upd (upd H e0 (.lst [])) L (.lst (V.int (m0 / m) :: ms.map V.int))) L (.lst (ms.map V.int))) B L := ⟨nBL, ⟨_, (upd_ne nBL).trans hB1⟩, ⟨ms, upd_same⟩⟩
      have sx2 : SameX B L H (upd (upd (upd H e0 (.lst [])) L (.lst (V.int (m0 / m) :: ms.map V.int))) L (.lst (ms.map V.int))) := fun b o h1 h2 e => by
        rw [upd_ne h2]
        exact sx _ b o h1 h2 e
      have sk : seqIndex? 0 (V.int (m0 / m) :: ms.map V.int).length = some 0 := by
        simp [seqIndex?]
      refine ⟨rfl, _, rfl, ?_⟩
      refine ite2 (fun h1 => ?_) (fun h1 => ?_)
      · refine iteT ⟨_, rfl, B, _, _, _, rfl, rfl, SqL.of hB1, atI_nat (j := 0) rfl, .inl ⟨rfl, _, SqL.of upd_same⟩, L, _, 0, 0, _, rfl, rfl, upd_same, by decide, by decide, sk, rfl, ?_⟩
        exact ⟨_, rfl, _, rfl, _, _, rfl, rfl, (by show (0 : Int) < m; omega), ret _ sx2 box2 ⟨_, rfl, rfl⟩⟩
      · refine ⟨_, rfl, B, _, _, _, rfl, rfl, SqL.of hB1, atI_nat (j := 0) rfl, L, _, _, _, rfl, rfl, SqL.of upd_same, atI_nat (j := 0) rfl, ?_⟩
        refine ⟨_, rfl, rfl, _, rfl, ?_⟩
        refine ite2 (fun h1 => ?_) (fun h1 => ?_)
        · refine ⟨_, rfl, B, _, _, _, rfl, rfl, SqL.of hB1, atI_nat (j := 0) rfl, .inl ⟨rfl, _, SqL.of upd_same⟩, L, _, 0, 0, _, rfl, rfl, upd_same, by decide, by decide, sk, rfl, ?_⟩
          exact ⟨_, rfl, _, rfl, _, _, rfl, rfl, (by show (0 : Int) < m; omega), ret _ sx2 box2 ⟨_, rfl, rfl⟩⟩
        · exact ⟨_, rfl, _, rfl, _, _, rfl, rfl, (by show (0 : Int) < m; omega), ret _ (sx _) box1 ⟨_, rfl, rfl⟩⟩
end
end RS
set_option Elab.async false
set_option maxRecDepth 100000
set_option maxHeartbeats 8000000
namespace RS
open PySem PySem.Spec PyProof.Rows L2 GX
mutual
def few : PyData → Prop
  | .list ds => ds.length ≤ 1000000 ∧ fews ds
  | .tuple ds => ds.length ≤ 1000000 ∧ fews ds
  | .dict _ => False
  | _ => True
def fews : List PyData → Prop
  | [] => True
  | d :: ds => few d ∧ fews ds
end
theorem fews_iff : ∀ {ds : List PyData}, fews ds ↔ ∀ d ∈ ds, few d
  | [] => by simp [fews]
  | d :: ds => by
    unfold fews
    rw [fews_iff]
    simp
theorem depth_mem : ∀ {ds : List PyData} {d : PyData}, d ∈ ds → d.depth ≤ PyData.depthAll ds
  | [], _, h => by cases h
  | e :: ds, d, h => by
    simp only [PyData.depthAll]
    rcases List.mem_cons.mp h with q | q
    · subst q
      omega
    · have := depth_mem q
      omega
end RS
set_option Elab.async false
set_option maxRecDepth 100000
set_option maxHeartbeats 8000000
namespace RS
open PySem PySem.Spec PyProof.Rows L2 GX
section
variable {P : Program} {w : World} {K : PySem.W.Frag} {mg : Str → Option Value} {base : Heap}
theorem scAlike : FnScope ["_law_found", "_law_due", "_law_k"] ["_law_found", "_law_due"] (defScope sAlike) := ⟨rfl, rfl, rfl, by decide +kernel, rfl, by decide +kernel, by decide +kernel⟩
def spAlike (K : PySem.W.Frag) (n : Nat) : Sp := fun vs H Q _ => ∃ (v1 v2 : V) (d : PyData), vs = [v1, v2] ∧ Dp K H v1 d ∧ Dp K H v2 d ∧ few d ∧ d.depth ≤ n ∧ Q (.bl true) H
set_option linter.unusedVariables false in
theorem alike_none {c : Addr} (D : DefAt K mg "_law_alike" sAlike c) : Cal P w K mg base CX0 1 "_law_alike" ["_law_found", "_law_due"] (fun _ _ _ _ => False) :=
  def_ok0 D scAlike (fun vs H Q E h => h.elim) (fun _ _ _ _ _ _ us hl => match us, hl with | [_, _], _ => rfl) (fun f A outer s H vs Q E hr h => h.elim)
theorem alike_step {c : Addr} (D : DefAt K mg "_law_alike" sAlike c) (T : Txt K mg) {j : Nat} (n : Nat) {sp : Sp} (hj : 1 ≤ j) (cR : Cal P w K mg base CX0 j "_law_alike" ["_law_found", "_law_due"] sp)
    (hsp : ∀ (v1 v2 : V) (d : PyData) (H : Hp) (Q : VK) (E : XK), Dp K H v1 d → Dp K H v2 d → few d → d.depth + 1 ≤ n → Q (.bl true) H → sp [v1, v2] H Q E) : Cal P w K mg base CX0 (j + 1) "_law_alike" ["_law_found", "_law_due"] (spAlike K n) := by
  have sc := scAlike
  refine def_ok0 D sc (fun vs H Q E h => ?_) (fun _ _ _ _ _ _ us hl => match us, hl with | [_, _], _ => rfl) (fun f A outer s H vs Q E hr h => ?_)
  · obtain ⟨v1, v2, d, rfl, _⟩ := h
    rfl
  · obtain ⟨v1, v2, d, rfl, h1, h2, hf, hn, k⟩ := h
    refine ⟨_, (pss_cons (ps_if (pt_cmpR op_isN (pv 1) pe_non (nomark _)) (pss_one (ps_ret (pe_cmpR op_isN (pv 0) pe_non (nomark _)))) pss_nil) (pss_cons (ps_if (pt_val (pe_callB call_isiD (by rfl) T.isinstance (by decide +kernel) (pa_cons (pv 1) (pa_cons (pe_bltn (v := V.ty "bool") (u := Value.type "bool") (by rfl) T.bool_ (by decide +kernel) rfl) pa_nil)))) (pss_one (ps_ret (pe_and (pe_callB call_isiD (by rfl) T.isinstance (by decide +kernel) (pa_cons (pv 0) (pa_cons (pe_bltn (v := V.ty "bool") (u := Value.type "bool") (by rfl) T.bool_ (by decide +kernel) rfl) pa_nil))) (pe_one (pe_cmpR op_eq (pv 0) (pv 1) (nomark _)))))) pss_nil) (pss_cons (ps_if (pt_val (pe_callB call_isiD (by rfl) T.isinstance (by decide +kernel) (pa_cons (pv 1) (pa_cons (pe_bltn (v := V.ty "int") (u := Value.type "int") (by rfl) T.int_ (by decide +kernel) rfl) pa_nil)))) (pss_one (ps_ret (pe_and (pe_callB call_isiD (by rfl) T.isinstance (by decide +kernel) (pa_cons (pv 0) (pa_cons (pe_bltn (v := V.ty "int") (u := Value.type "int") (by rfl) T.int_ (by decide +kernel) rfl) pa_nil))) (pe_and (pe_not (pe_callB call_isiD (by rfl) T.isinstance (by decide +kernel) (pa_cons (pv 0) (pa_cons (pe_bltn (v := V.ty "bool") (u := Value.type "bool") (by rfl) T.bool_ (by decide +kernel) rfl) pa_nil)))) (pe_one (pe_cmpR op_eq (pv 0) (pv 1) (nomark _))))))) pss_nil) (pss_cons (ps_if (pt_val (pe_callB call_isiD (by rfl) T.isinstance (by decide +kernel) (pa_cons (pv 1) (pa_cons (pe_bltn (v := V.ty "str") (u := Value.type "str") (by rfl) T.str_ (by decide +kernel) rfl) pa_nil)))) (pss_one (ps_ret (pe_and (pe_callB call_isiD (by rfl) T.isinstance (by decide +kernel) (pa_cons (pv 0) (pa_cons (pe_bltn (v := V.ty "str") (u := Value.type "str") (by rfl) T.str_ (by decide +kernel) rfl) pa_nil))) (pe_one (pe_cmpR op_eq (pv 0) (pv 1) (nomark _)))))) pss_nil) (pss_cons (ps_if ((pw_or (pt_cmpR op_ne (pe_callB call_isiD (by rfl) T.isinstance (by decide +kernel) (pa_cons (pv 1) (pa_cons (pe_bltn (v := V.ty "tuple") (u := Value.type "tuple") (by rfl) T.tuple_ (by decide +kernel) rfl) pa_nil))) (pe_callB call_isiD (by rfl) T.isinstance (by decide +kernel) (pa_cons (pv 0) (pa_cons (pe_bltn (v := V.ty "tuple") (u := Value.type "tuple") (by rfl) T.tuple_ (by decide +kernel) rfl) pa_nil))) (nomark _)) (pw_or1 (pt_cmpR op_ne (pe_callB call_isiD (by rfl) T.isinstance (by decide +kernel) (pa_cons (pv 1) (pa_cons (pe_bltn (v := V.ty "list") (u := Value.type "list") (by rfl) T.list_ (by decide +kernel) rfl) pa_nil))) (pe_callB call_isiD (by rfl) T.isinstance (by decide +kernel) (pa_cons (pv 0) (pa_cons (pe_bltn (v := V.ty "list") (u := Value.type "list") (by rfl) T.list_ (by decide +kernel) rfl) pa_nil))) (nomark _)))).pt) (pss_one (ps_ret pe_bl)) pss_nil) (pss_cons (ps_if (pt_cmpR op_ne (pe_callB call_lenD (by rfl) T.len PySem.boot_len (pa_cons (pv 0) pa_nil)) (pe_callB call_lenD (by rfl) T.len PySem.boot_len (pa_cons (pv 1) pa_nil)) (nomark _)) (pss_one (ps_ret pe_bl)) pss_nil) (pss_cons (ps_for PassesOwn.never rfl (pi_range1 (by rfl) T.range (pa_cons (pe_callB call_lenD (by rfl) T.len PySem.boot_len (pa_cons (pv 1) pa_nil)) pa_nil)) (pg_name (i := 2) sc.nd rfl (Or.inl rfl)) (pss_one (ps_if (pt_not (pt_val (pe_c cR hr (by omega) (by rfl) pass0 (pa_cons (pe_ix ixD (pv 0) (pv 2) (fun _ _ => rfl)) (pa_cons (pe_ix ixD (pv 1) (pv 2) (fun _ _ => rfl)) pa_nil))))) (pss_one (ps_ret pe_bl)) pss_nil))) (pss_one (ps_ret pe_bl))))))))), ?_⟩
    refine ⟨_, rfl, rfl, _, rfl, ?_⟩
    cases h2 with
    | non =>
      cases h1
      exact iteT ⟨_, rfl, rfl, k⟩
    | bl b =>
      cases h1
      refine iteF ⟨_, rfl, _, _, _, rfl, by simp, .bl b, _, rfl, ?_⟩
      refine iteT ⟨_, rfl, _, _, _, rfl, by simp, .bl b, _, rfl, ?_⟩
      refine iteT ⟨_, rfl, _, rfl, rfl, ?_⟩
      have e : decide (V.bl b = V.bl b) = true := decide_eq_true rfl
      rw [e]
      exact k
    | int i =>
      cases h1
      refine iteF ⟨_, rfl, _, _, _, rfl, by simp, .int i, _, rfl, ?_⟩
      refine iteF ⟨_, rfl, _, _, _, rfl, by simp, .int i, _, rfl, ?_⟩
      refine iteT ⟨_, rfl, _, _, _, rfl, by simp, .int i, _, rfl, ?_⟩
      refine iteT ⟨_, rfl, _, _, _, rfl, by simp, .int i, _, rfl, _, rfl, ?_⟩
      refine iteT ⟨_, rfl, _, rfl, rfl, ?_⟩
      have e : decide (V.int i = V.int i) = true := decide_eq_true rfl
      rw [e]
      exact k
    | str x =>
      cases h1
      refine iteF ⟨_, rfl, _, _, _, rfl, by simp, .str x, _, rfl, ?_⟩
      refine iteF ⟨_, rfl, _, _, _, rfl, by simp, .str x, _, rfl, ?_⟩
      refine iteF ⟨_, rfl, _, _, _, rfl, by simp, .str x, _, rfl, ?_⟩
      refine iteT ⟨_, rfl, _, _, _, rfl, by simp, .str x, _, rfl, ?_⟩
      refine iteT ⟨_, rfl, _, rfl, rfl, ?_⟩
      have e : decide (V.str x = V.str x) = true := decide_eq_true rfl
      rw [e]
      exact k
    | @lst a2 x2 ds q2 i2 =>
      have h2 : Dp K H (.ref a2) (.list ds) := .lst q2 i2
      have hds : ds.length ≤ 1000000 ∧ ∀ d ∈ ds, few d := by
        have : ds.length ≤ 1000000 ∧ fews ds := by simpa only [few] using hf
        exact ⟨this.1, fews_iff.mp this.2⟩
      have hdep : ∀ d ∈ ds, d.depth + 1 ≤ n := fun d hd => by
        have a : PyData.depthAll ds + 1 ≤ n := by simpa only [PyData.depth] using hn
        have := depth_mem hd
        omega
      obtain ⟨a1, rfl⟩ : ∃ a1, v1 = .ref a1 := by cases h1; exact ⟨_, rfl⟩
      refine iteF ⟨_, rfl, _, _, _, rfl, by simp, h2, _, rfl, ?_⟩
      refine iteF ⟨_, rfl, _, _, _, rfl, by simp, h2, _, rfl, ?_⟩
      refine iteF ⟨_, rfl, _, _, _, rfl, by simp, h2, _, rfl, ?_⟩
      refine iteF ⟨_, rfl, _, _, _, rfl, by simp, h2, _, rfl, _, _, _, rfl, by simp, h1, rfl, _, rfl, ?_⟩
      refine iteF' (by simp) ⟨_, rfl, _, _, _, rfl, by simp, h2, _, rfl, _, _, _, rfl, by simp, h1, rfl, _, rfl, ?_⟩
      refine iteF' (by simp) ⟨_, rfl, _, _, _, rfl, h1, rfl, _, rfl, _, _, _, rfl, h2, rfl, rfl, _, rfl, ?_⟩
      refine iteF' (by simp) ⟨_, rfl, _, _, _, rfl, h2, rfl, _, rfl, by omega, by omega, ?_⟩
      rw [Int.toNat_natCast]
      refine for_range (fun i σ H' => ∃ v3 : Option V, σ = [some (.ref a1), some (.ref a2), v3] ∧ H' = H) ⟨none, rfl, rfl⟩ ?_ ?_
      · rintro i σ H' hi ⟨v3, rfl, rfl⟩
        simp only [Int.zero_add]
        refine ⟨_, rfl, _, rfl, .list ds, ds, (i : Nat), ds[i], h1, rfl, rfl, atI_nat (List.getElem?_eq_getElem hi), fun w1 hw1 => ?_⟩
        refine ⟨_, rfl, _, rfl, .list ds, ds, (i : Nat), ds[i], h2, rfl, rfl, atI_nat (List.getElem?_eq_getElem hi), fun w2 hw2 => ?_⟩
        refine hsp w1 w2 ds[i] H' _ _ hw1 hw2 (hds.2 _ (List.getElem_mem hi)) (hdep _ (List.getElem_mem hi)) ⟨_, rfl, ?_⟩
        exact iteF ⟨_, rfl, rfl⟩
      · rintro σ H' ⟨v3, rfl, rfl⟩
        exact k
    | @tup a2 x2 ds q2 i2 =>
      have h2 : Dp K H (.ref a2) (.tuple ds) := .tup q2 i2
      have hds : ds.length ≤ 1000000 ∧ ∀ d ∈ ds, few d := by
        have : ds.length ≤ 1000000 ∧ fews ds := by simpa only [few] using hf
        exact ⟨this.1, fews_iff.mp this.2⟩
      have hdep : ∀ d ∈ ds, d.depth + 1 ≤ n := fun d hd => by
        have a : PyData.depthAll ds + 1 ≤ n := by simpa only [PyData.depth] using hn
        have := depth_mem hd
        omega
      obtain ⟨a1, rfl⟩ : ∃ a1, v1 = .ref a1 := by cases h1; exact ⟨_, rfl⟩
      refine iteF ⟨_, rfl, _, _, _, rfl, by simp, h2, _, rfl, ?_⟩
      refine iteF ⟨_, rfl, _, _, _, rfl, by simp, h2, _, rfl, ?_⟩
      refine iteF ⟨_, rfl, _, _, _, rfl, by simp, h2, _, rfl, ?_⟩
      refine iteF ⟨_, rfl, _, _, _, rfl, by simp, h2, _, rfl, _, _, _, rfl, by simp, h1, rfl, _, rfl, ?_⟩
      refine iteF' (by simp) ⟨_, rfl, _, _, _, rfl, by simp, h2, _, rfl, _, _, _, rfl, by simp, h1, rfl, _, rfl, ?_⟩
      refine iteF' (by simp) ⟨_, rfl, _, _, _, rfl, h1, rfl, _, rfl, _, _, _, rfl, h2, rfl, rfl, _, rfl, ?_⟩
      refine iteF' (by simp) ⟨_, rfl, _, _, _, rfl, h2, rfl, _, rfl, by omega, by omega, ?_⟩
      rw [Int.toNat_natCast]
      refine for_range (fun i σ H' => ∃ v3 : Option V, σ = [some (.ref a1), some (.ref a2), v3] ∧ H' = H) ⟨none, rfl, rfl⟩ ?_ ?_
      · rintro i σ H' hi ⟨v3, rfl, rfl⟩
        simp only [Int.zero_add]
        refine ⟨_, rfl, _, rfl, .tuple ds, ds, (i : Nat), ds[i], h1, rfl, rfl, atI_nat (List.getElem?_eq_getElem hi), fun w1 hw1 => ?_⟩
        refine ⟨_, rfl, _, rfl, .tuple ds, ds, (i : Nat), ds[i], h2, rfl, rfl, atI_nat (List.getElem?_eq_getElem hi), fun w2 hw2 => ?_⟩
        refine hsp w1 w2 ds[i] H' _ _ hw1 hw2 (hds.2 _ (List.getElem_mem hi)) (hdep _ (List.getElem_mem hi)) ⟨_, rfl, ?_⟩
        exact iteF ⟨_, rfl, rfl⟩
      · rintro σ H' ⟨v3, rfl, rfl⟩
        exact k
theorem alike_ok {c : Addr} (D : DefAt K mg "_law_alike" sAlike c) (T : Txt K mg) : ∀ n : Nat, Cal P w K mg base CX0 (n + 2) "_law_alike" ["_law_found", "_law_due"] (spAlike K n)
  | 0 => alike_step D T 0 (Nat.le_refl _) (alike_none D) (fun _ _ _ _ _ _ _ _ _ h _ => by omega)
  | n + 1 => alike_step D T (n + 1) (by omega) (alike_ok D T n) (fun v1 v2 d H Q E h1 h2 h3 h4 q => ⟨v1, v2, d, rfl, h1, h2, h3, by omega, q⟩)
end
end RS
set_option Elab.async false
set_option maxRecDepth 100000
set_option maxHeartbeats 4000000
set_option pp.maxSteps 400
namespace RS
open PySem PySem.Spec PyProof.Rows L2 GX LM
theorem in_seqC {X : Cx} {K : PySem.W.Frag} (e : X.K = K) : OpR X (compareOp .In) (rIn K false) := by
  subst e
  exact op_in_seq
/-- what the law tells of an error beside its name -/
def ErrV (K : PySem.W.Frag) (D : Addr) (j : Nat) (d : Option Addr) (H : Hp) (v : Int) : Prop :=
  if j = 3 ∨ j = 2 ∨ j = 14 then XfC K D ∧ PySem.W.findIn K (.ref D) (if j = 3 then ("number" : Str) else "place") = some none ∧ ∃ (dd : Addr) (fs : List (Str × V)), d = some dd ∧ H dd = some (.xd fs) ∧ fs.lookup (if j = 3 then ("number" : Str) else "place") = some (.int v) else v = 0
section
variable {P : Program} {w : World} {K : PySem.W.Frag} {mg : Str → Option Value} {base : Heap}
theorem word_runs : ∀ j < 15, decide (V.str (nm15.getD j "") = V.str "BadRuns") = decide (j = 3) := by decide +kernel
theorem word_place : ∀ j < 15, inV (.str (nm15.getD j "")) [.str "BadRows", .str "BadText"] = decide (j = 2 ∨ j = 14) := by decide +kernel
theorem scTold : FnScope ["_law_work", "_law_e", "_law_word"] ["_law_work"] (defScope sTold) := ⟨rfl, rfl, rfl, by decide +kernel, rfl, by decide +kernel, by decide +kernel⟩
/-- an error of the class j leaves, with the number v -/
def ErrOk (K : PySem.W.Frag) (SE : Addr) (C : Nat → Addr) (Q : V → Hp → Prop) : XK := fun cls d H' => ∃ (D : Addr) (j : Nat) (v : Int), cls = .ref D ∧ Own15 K C D j ∧ PySem.W.exmOne K (.ref D) (.ref SE) = some true ∧ DictAt d H' ∧ ErrV K D j d H' v ∧
  ∀ (H'' : Hp) (t : Addr), Same H' H'' → H'' t = some (.tup [.str (nm15.getD j ""), .int v]) → Q (.ref t) H''
def spTold (P : Program) (w : World) (K : PySem.W.Frag) (mg : Str → Option Value) (base : Heap) (SE : Addr) (C : Nat → Addr) (n : Nat) : Sp := fun vs H Q _ => ∃ (f : Addr) (R : Hp → Prop) (tl : Hp → VK → XK → Prop), vs = [.ref f] ∧ Act P w K mg base n f R tl ∧ R H ∧ ∀ E : XK, (∀ cls d H', ErrOk K SE C Q cls d H' → E cls d H') → tl H Q E
theorem told_ok {c SE : Addr} {C : Nat → Addr} (DD : DefAt K mg "_law_told" sTold c) (n : Nat) (hn : 1 ≤ n) (gS : mg "SortError" = some (.ref SE)) (cC : CalW P w K mg base 1 "_law_class" ["_law_e"] (spClass K C)) : Cal P w K mg base CX0 (n + 1) "_law_told" ["_law_work"] (spTold P w K mg base SE C n) := by
  have sc := scTold
  refine def_ok0 DD sc (fun vs H Q E h => ?_) (fun _ _ _ _ _ _ us hl => match us, hl with | [_], _ => rfl) (fun f A outer s H vs Q E hr h => ?_)
  · obtain ⟨f, R, tl, rfl, _⟩ := h
    rfl
  · obtain ⟨g, R, tl, rfl, act, hR, ht⟩ := h
    refine ⟨_, pss_one (ps_try_as (X := (cxOf CX0 P w K mg base ["_law_work", "_law_e", "_law_word"] "_law_told" (defScope sTold) f (.ref c) A outer s H E).nox) (i := 1) (c := .ref SE) rfl rfl sc.nd rfl rfl ⟨rfl, by decide, .inl gS⟩ LamX.takes0 (fun W pn xe tk _ => pss_one (ps_ret (pe_act (P := P) (w := w) (K := K) (mg := mg) (base := base) rfl rfl rfl rfl rfl (fun σ => passAt tk σ) hr (Nat.le_refl _) (pv 0))))
      (fun a oe cls d pn hz hf => (pss_cons (ps_set (i := 2) sc.nd rfl (Or.inl rfl) (pe_cW (X := Cx.suite (cxOf CX0 P w K mg base ["_law_work", "_law_e", "_law_word"] "_law_told" (defScope sTold) f (.ref c) A outer s H E).nox a ((a, oe) :: pn)) (k := 1) (j := n) cC ⟨hr.dp, hr.un⟩ hn List.mem_cons_self hz hf (by rfl) (pa_cons (pv 1) pa_nil))) (pss_cons (ps_if (pt_cmpR op_eq (pv 2) pe_str (nomark _)) (pss_one (ps_ret (pe_tup (pa_cons (pv 2) (pa_cons (pe_xfA hz hf (pv 1)) pa_nil))))) pss_nil) (pss_one (ps_ret (pe_tup (pa_cons (pv 2) (pa_cons (pe_ifExp (pt_cmpR (in_seqC (K := K) rfl) (pv 2) (pe_tup (pa_cons pe_str (pa_cons pe_str pa_nil))) (by rfl)) (pe_xfA hz hf (pv 1)) pe_int) pa_nil))))))))), ?_⟩
    refine ⟨_, rfl, g, R, tl, rfl, act, hR, ht _ fun cls d H' ⟨D, j, v, ec, O, hm, hd, ev, q⟩ => ?_⟩
    subst ec
    refine ⟨true, hm, fun _ a ha => ?_, fun z => nomatch z⟩
    refine ⟨_, rfl, D, j, rfl, rfl, O, hd, fun H2 s2 => ?_⟩
    refine ⟨_, rfl, rfl, _, rfl, ?_⟩
    rw [word_runs j O.lt]
    unfold ErrV at ev
    by_cases h3 : j = 3
    · subst h3
      rw [if_pos (.inl rfl), if_pos rfl] at ev
      obtain ⟨x1, x2, dd, fs, e1, e2, e3⟩ := ev
      refine iteT' rfl ?_
      exact ⟨_, rfl, D, x1, x2, _, rfl, rfl, rfl, dd, fs, _, e1, s2 _ _ e2, e3, by show 2 ≤ sizeLine; decide, fun t ht => q _ t (sameNew s2 ht) upd_same⟩
    · refine iteF' (decide_eq_false h3) ?_
      refine ⟨_, rfl, _, rfl, by show 2 ≤ sizeLine; decide, fun tt htt => ?_⟩
      have s3 := sameNew (o := .tup [.str "BadRows", .str "BadText"]) s2 htt
      refine ⟨tt, _, rfl, .inr (SqT.of upd_same), rfl, rfl, _, rfl, ?_⟩
      rw [if_neg Bool.false_ne_true, word_place j O.lt]
      by_cases h2 : j = 2 ∨ j = 14
      · rw [if_pos (.inr h2), if_neg h3] at ev
        obtain ⟨x1, x2, dd, fs, e1, e2, e3⟩ := ev
        refine iteT' (decide_eq_true h2) ?_
        exact ⟨D, x1, x2, _, rfl, rfl, rfl, dd, fs, _, e1, s3 _ _ e2, e3, by show 2 ≤ sizeLine; decide, fun t ht => q _ t (sameNew s3 ht) upd_same⟩
      · rw [if_neg fun z => z.elim h3 h2] at ev
        subst ev
        refine iteF' (decide_eq_false h2) ?_
        exact ⟨by show 2 ≤ sizeLine; decide, fun t ht => q _ t (sameNew s3 ht) upd_same⟩
theorem scAll : FnScope ["_law_works", "_law_due", "_law_work"] ["_law_works", "_law_due"] (defScope sAll) := ⟨rfl, rfl, rfl, by decide +kernel, rfl, by decide +kernel, by decide +kernel⟩
/-- f, called now or behind more, tells dd -/
def Works (P : Program) (w : World) (K : PySem.W.Frag) (mg : Str → Option Value) (base : Heap) (SE : Addr) (C : Nat → Addr) (n : Nat) (f : Addr) (H : Hp) (dd : PyData) : Prop :=
  ∀ (H1 : Hp) (Q1 : VK), Same H H1 → (∀ x H2, Same H1 H2 → Dp K H2 x dd → Q1 x H2) → spTold P w K mg base SE C n [.ref f] H1 Q1 E0
def spAll (P : Program) (w : World) (K : PySem.W.Frag) (mg : Str → Option Value) (base : Heap) (SE : Addr) (C : Nat → Addr) (n : Nat) : Sp := fun vs H Q _ => ∃ (L : Addr) (fs : List Addr) (v : V) (dd : PyData), vs = [.ref L, v] ∧ H L = some (.lst (fs.map V.ref)) ∧ fs.length ≤ 20 ∧ Dp K H v dd ∧ few dd ∧ dd.depth ≤ 40 ∧
  (∀ f ∈ fs, Works P w K mg base SE C n f H dd) ∧ ∀ H', Same H H' → Q (.bl true) H'
theorem all_ok {c SE : Addr} {C : Nat → Addr} (DD : DefAt K mg "_law_all" sAll c) (n m : Nat) (h1 : n + 1 ≤ m) (h2 : 42 ≤ m) (cT : Cal P w K mg base CX0 (n + 1) "_law_told" ["_law_work"] (spTold P w K mg base SE C n)) (cA : Cal P w K mg base CX0 42 "_law_alike" ["_law_found", "_law_due"] (spAlike K 40)) :
    Cal P w K mg base CX0 (m + 1) "_law_all" ["_law_works", "_law_due"] (spAll P w K mg base SE C n) := by
  have sc := scAll
  refine def_ok0 DD sc (fun vs H Q E h => ?_) (fun _ _ _ _ _ _ us hl => match us, hl with | [_, _], _ => rfl) (fun f A outer s H vs Q E hr h => ?_)
  · obtain ⟨L, fs, v, dd, rfl, _⟩ := h
    rfl
  · obtain ⟨L, fs, v, dd, rfl, hL, l20, hv, hf, hdp, hw, k⟩ := h
    have hu := hr.units
    refine ⟨_, (pss_one (ps_ret (pe_cmpR (op_eqD hu) (pe_lc (own := [("_law_work", 2)]) (tt := _) rfl sc.nd (pi_list (pv 0)) (blkOk_by (N := ["_law_works", "_law_due", "_law_work"]) (sc := defScope sAll) (own := [("_law_work", 2)]) (by decide +kernel)) (fun _ _ _ _ _ => (pg_name (i := 2) sc.nd rfl (Or.inl rfl))) (fun _ _ _ _ _ => pts_one (pt_not (pt_val (pe_c cA hr h2 (by rfl) pass0 (pa_cons (pe_c cT hr h1 (by rfl) pass0 (pa_cons (pv 2) pa_nil)) (pa_cons (pv 1) pa_nil)))))) (fun _ _ _ _ _ => pv 2)) (pe_lst pa_nil) (nomark _)))), ?_⟩
    refine ⟨_, rfl, L, rfl, ⟨_, SqL.of hL⟩, fun DD hD => ?_⟩
    refine lc_list (K := K) (a := L) (xs := fs.map V.ref) (fun j H' => Same H H' ∧ H' DD = some (.lst [])) ⟨fun b o e => by rw [upd_ne (ne_of_none e hD)]; exact e, upd_same⟩ (fun j H4 _ h => h.1.seq (SqL.of hL)) ?_ ?_
    · rintro j x H4 hx ⟨sm, hl4⟩
      obtain ⟨g, eg, rfl⟩ : ∃ g, fs[j]? = some g ∧ x = V.ref g := by
        rw [List.getElem?_map] at hx
        cases z : fs[j]? with
        | none => rw [z] at hx; cases hx
        | some b => rw [z] at hx; exact ⟨b, rfl, (Option.some.inj hx).symm⟩
      refine ⟨rfl, _, rfl, hw g (List.mem_of_getElem? eg) H4 _ sm fun x H5 s5 hx5 => ?_⟩
      refine ⟨_, rfl, x, v, dd, rfl, hx5, dp_same s5 _ (dp_same sm _ hv), hf, hdp, _, rfl, ?_⟩
      exact iteF ⟨sm.trans s5, s5 _ _ hl4⟩
    · rintro H4 ⟨sm, hl4⟩
      refine ⟨Nat.zero_le _, fun E2 hE2 => ?_⟩
      have s6 := sameNew (o := .lst []) (Same.refl H4) hE2
      refine ⟨.list [], .list [], .lst (s6.seq (SqL.of hl4)) .nil, .lst (SqL.of upd_same) .nil, by decide +kernel, ?_⟩
      refine ⟨by decide +kernel, ?_⟩
      have e : PyData.eqv (.list []) (.list []) = true := by simp [PyData.eqv, PyData.eqvAll]
      rw [e]
      exact k _ (sm.trans s6)
end
end RS
set_option Elab.async false
set_option maxRecDepth 100000
set_option maxHeartbeats 4000000
namespace LM
open PySem PySem.Spec PyProof.Rows L2
open LamX (ExtN TabS TabB CodeO lamCx lamEnv)
/-! ### lambdas with one parameter that has a default -/
/-- the names of such a lambda: its parameter is no name of the maker's -/
structure LamSD (N : List Str) (sc scope : Scope) (p : Str) : Prop where
  kind : scope.kind = .function
  co : scope.isCoroutine = false
  gen : scope.isGenerator = false
  own : ∀ y ∈ scope.names, (y.2 = .local → y.1 ∉ N) ∧ y.2 ≠ .cell
  free : ∀ y ∈ scope.names, y.2 = .free → sc.names.lookup y.1 = some .cell ∨ sc.names.lookup y.1 = some .free
  par : scope.names.lookup p = some .local
def lamSDB (N : List Str) (sc scope : Scope) (p : Str) : Bool :=
  decide (scope.kind = .function) && !scope.isCoroutine && !scope.isGenerator && decide (scope.names.lookup p = some .local) && scope.names.all fun y => (!decide (y.2 = .local) || !decide (y.1 ∈ N)) && !decide (y.2 = .cell) && (!decide (y.2 = .free) || decide (sc.names.lookup y.1 = some .cell) || decide (sc.names.lookup y.1 = some .free))
theorem lamSD_by {N : List Str} {sc scope : Scope} {p : Str} (h : lamSDB N sc scope p = true) : LamSD N sc scope p := by
  unfold lamSDB at h
  simp only [Bool.and_eq_true, Bool.or_eq_true, Bool.not_eq_true', decide_eq_true_eq, decide_eq_false_iff_not, List.all_eq_true] at h
  obtain ⟨⟨⟨⟨h1, h2⟩, h3⟩, h5⟩, h4⟩ := h
  refine ⟨h1, h2, h3, fun y hy => ⟨fun e => ?_, (h4 y hy).1.2⟩, fun y hy e => ?_, h5⟩
  · rcases (h4 y hy).1.1 with z | z
    · exact absurd e z
    · exact z
  · rcases (h4 y hy).2 with (z | z) | z
    · exact absurd e z
    · exact .inl z
    · exact .inr z
theorem LamSD.has {N : List Str} {X : Cx} {scope : Scope} {p : Str} (L : LamSD N X.env.scope scope p) (ok : X.Ok) : ∀ y ∈ scope.names, y.2 = .free → ∃ c, X.env.cells.lookup y.1 = some c := fun y hy e => by
  rcases L.free y hy e with k | k
  · exact ok.has _ (.inl k)
  · exact ok.has _ (.inr k)
/-- the lambda with a default that stands at f -/
def IsLamD (H : Hp) (f : Addr) (q : Str) (params : Arguments) (body : Expr) (scope : Scope) (clos : List (Str × Addr)) : Prop :=
  ∃ (c' T0 : Addr) (u doc pm ctv : Value), H f = some (Pin (PySem.W.kdv_obj "<lambda>" q params (.expr body) scope clos (.ref T0) doc pm c' ctv)) ∧ H T0 = some (Pin (PySem.W.kdv_tup [u])) ∧ H c' = some (CodeO c' q)
theorem IsLamD.ext {H H' : Hp} {f : Addr} {q : Str} {params : Arguments} {body : Expr} {scope : Scope} {clos : List (Str × Addr)} (h : IsLamD H f q params body scope clos) (e : ExtN H H') : IsLamD H' f q params body scope clos := by
  obtain ⟨c', T0, u, doc, pm, ctv, h1, h2, h3⟩ := h
  exact ⟨c', T0, u, doc, pm, ctv, e _ _ h1 (fun ps z => nomatch z), e _ _ h2 (fun ps z => nomatch z), e _ _ h3 (fun ps z => LamX.codeO_ne ps z)⟩
theorem IsLamD.up {X : Cx} {σ : L2.St} {H G : Hp} {f : Addr} {q : Str} {params : Arguments} {body : Expr} {scope : Scope} {clos : List (Str × Addr)} (h : IsLamD H f q params body scope clos) (c : Caught X σ H G) : IsLamD G f q params body scope clos := by
  obtain ⟨c', T0, u, doc, pm, ctv, h1, h2, h3⟩ := h
  exact ⟨c', T0, u, doc, pm, ctv, c.some h1, c.some h2, c.some h3⟩
def tLamD (P : Addr) (q : Str) (params : Arguments) (body : Expr) (scope : Scope) (clos : List (Str × Addr)) : TE := fun _ H Q => TabS H P q ∧
  ∀ (f : Addr) (H1 : Hp), ExtN H H1 → TabS H1 P q → IsLamD H1 f q params body scope clos → H f = none → Q (.ref f) H1
section
variable {X : Cx}
theorem pe_lamD {c P : Addr} {params : Arguments} {body : Expr} {scope : Scope} {pos : Pos} {N : List Str} {p : Str} {e0 : Expr} {z : Int} (TB : TabB X.base X.mg c P) (hcode : X.env.code = .ref c) (L : LamSD N X.env.scope scope p) (hd : params.defaults = [e0]) (hk0 : params.kw_defaults = []) (he : PE X e0 (tC (.int z))) :
    PE X (.Lambda params body scope pos) (tLamD P (X.env.qual ++ "<lambda>") params body scope (cloFrom X.env.cells scope.names [])) := by
  refine ⟨fun pins s0 σ H0 Q I0 ⟨hT0, h0⟩ => ?_⟩
  refine PySem.W.kdv_lam (by rw [hd]; rfl) hk0 ?_
  rw [hd]
  refine PySem.W.kdv_all1 (thn (he.run pins s0 σ H0 (fun v H1 => H1 = H0) I0 rfl) fun u s1 ⟨v, H1, I1, r1, eH⟩ => ?_)
  subst eH
  refine PySem.W.kdv_all0 ?_
  rw [PySem.makeFunction_eq]
  simp only [List.zip_nil_right, List.filterMap_nil, List.isEmpty_nil, List.isEmpty_cons, Bool.false_eq_true, if_true, if_false, pure_bind]
  refine wpAny_bind (wpAny_newTextTuple ?_)
  have nT : H1 s1.heap.objs.size = none := I1.hok.fresh (Nat.le_refl _)
  have I := I1.laid (a := s1.heap.objs.size) (o := Pin (PySem.W.kdv_tup [u])) (t' := s1.toks) (h' := s1.heap.push (PySem.W.kdv_tup [u])) (fun b o e => Heap.get?_push_of_some _ e) (Nat.le_refl _) ⟨Heap.get?_push_size _ rfl, ⟨_, Heap.get?_push_size _ rfl⟩⟩
  have sT : ∀ b o, H1 b = some o → (upd H1 s1.heap.objs.size (Pin (PySem.W.kdv_tup [u]))) b = some o := fun b o e => (upd_ne (ne_of_none e nT)).trans e
  have hT := hT0.ext sT
  have hAt : (upd H1 s1.heap.objs.size (Pin (PySem.W.kdv_tup [u]))) s1.heap.objs.size = some (Pin (PySem.W.kdv_tup [u])) := upd_same
  have h : ∀ (f : Addr) (H2 : Hp), ExtN (upd H1 s1.heap.objs.size (Pin (PySem.W.kdv_tup [u]))) H2 → TabS H2 P (X.env.qual ++ "<lambda>") → IsLamD H2 f (X.env.qual ++ "<lambda>") params body scope (cloFrom X.env.cells scope.names []) → (upd H1 s1.heap.objs.size (Pin (PySem.W.kdv_tup [u]))) f = none → Q (.ref f) H2 := fun f H2 e t l n => h0 f H2 ((ExtN.of sT).trans e) t l (by
    cases q : H1 f with
    | none => rfl
    | some o => rw [sT f o q] at n; cases n)
  show wpAny _ _ (makeTail "<lambda>" (X.env.qual ++ "<lambda>") params (.expr body) scope X.env (.ref s1.heap.objs.size) .none none pos pos.line) _ _ { s1 with heap := s1.heap.push (PySem.W.kdv_tup [u]) }
  generalize eTT : s1.heap.objs.size = TT at hAt hT h I ⊢
  generalize upd H1 TT (Pin (PySem.W.kdv_tup [u])) = H at hAt hT h I ⊢
  generalize es : ({ s1 with heap := s1.heap.push (PySem.W.kdv_tup [u]) } : Shared) = s at I ⊢
  clear nT sT
  obtain ⟨ps, hP, ht, ha⟩ := id hT
  have hP' : s.heap.get? P = some { cls := .none, data := .fields ps } := I.hok P _ hP
  cases hc : codeAmong pos ps.toList with
  | none =>
    refine PySem.W.kdv_makeTail (mg := X.mg) (c := c) (P := P) (ps := ps) (closure_ok (L.has I.ok)) I.ok.glob (I.mod.glob.keeps I.bk) hcode (TB.code.keeps I.bk) hP' ht hc TB.gP (TB.bm.keeps I.bk) fun c' ctv doc g tk hx hge hlt hrec htb => ?_
    obtain ⟨c2, oc, vs, t, e2, hoc, hd, hv⟩ := hrec
    cases e2
    have nC : H c' = none := I.hok.fresh hge
    have I1 := LamX.inv_table (t' := tk) (q := X.env.qual ++ "<lambda>") (more := #[rawInt pos.line, rawInt pos.col, .ref c']) I hP (fun b o hb e => hx b o hb e) htb hge ⟨oc, vs, t, hoc, hd, hv⟩
    have I2 := I1.laid (a := g.objs.size) (o := Pin (PySem.W.kdv_obj "<lambda>" (X.env.qual ++ "<lambda>") params (.expr body) scope (cloFrom X.env.cells scope.names []) (.ref TT) doc ((X.mg "__name__").getD .none) c' ctv)) (t' := tk) (fun b u e => Heap.get?_push_of_some (h := g) _ e) (Nat.le_refl _) ⟨Heap.get?_push_size _ rfl, ⟨_, Heap.get?_push_size _ rfl⟩⟩
    have nF : H g.objs.size = none := I.hok.fresh (Nat.le_trans hge (Nat.le_of_lt hlt))
    have n1 : g.objs.size ≠ c' := Nat.ne_of_gt hlt
    have n2 : P ≠ g.objs.size := ne_of_none hP nF
    have n3 : P ≠ c' := ne_of_none hP nC
    have hE : ExtN H (upd (upd (upd H P (.tbl (ps ++ #[rawInt pos.line, rawInt pos.col, .ref c']))) c' (CodeO c' (X.env.qual ++ "<lambda>"))) g.objs.size (Pin (PySem.W.kdv_obj "<lambda>" (X.env.qual ++ "<lambda>") params (.expr body) scope (cloFrom X.env.cells scope.names []) (.ref TT) doc ((X.mg "__name__").getD .none) c' ctv))) := fun b o e n => by
      rw [upd_ne (ne_of_none e nF), upd_ne (ne_of_none e nC), upd_ne fun z => n ps (Option.some.inj (e.symm.trans (by rw [z]; exact hP)))]
      exact e
    have hC2 : (upd (upd (upd H P (.tbl (ps ++ #[rawInt pos.line, rawInt pos.col, .ref c']))) c' (CodeO c' (X.env.qual ++ "<lambda>"))) g.objs.size (Pin (PySem.W.kdv_obj "<lambda>" (X.env.qual ++ "<lambda>") params (.expr body) scope (cloFrom X.env.cells scope.names []) (.ref TT) doc ((X.mg "__name__").getD .none) c' ctv))) c' = some (CodeO c' (X.env.qual ++ "<lambda>")) := by
      rw [upd_ne (Ne.symm n1), upd_same]
    refine ⟨.ref g.objs.size, _, I2, rfl, h _ _ hE ⟨_, by rw [upd_ne n2, upd_ne n3, upd_same], ?_, fun p' cv hcv => ?_⟩ ⟨c', TT, u, doc, _, ctv, upd_same, hE _ _ hAt (fun ps z => nomatch z), hC2⟩ nF⟩
    · simp only [Array.toList_append]
      exact PySem.TriplesOk_snoc _ _ _ _ ht
    · simp only [Array.toList_append] at hcv
      rcases LamX.among_app _ ht hcv with z | z
      · obtain ⟨c0, y1, y2⟩ := ha p' cv z
        exact ⟨c0, y1, hE _ _ y2 (fun ps => LamX.codeO_ne ps)⟩
      · exact ⟨c', z, hC2⟩
  | some cv =>
    obtain ⟨c', rfl, hco⟩ := ha pos cv hc
    refine PySem.W.kdv_makeTailHit (mg := X.mg) (c := c) (P := P) (ps := ps) (closure_ok (L.has I.ok)) I.ok.glob (I.mod.glob.keeps I.bk) hcode (TB.code.keeps I.bk) hP' ht hc (TB.bm.keeps I.bk) fun ctv doc g tk hx hsz => ?_
    have I1 : Inv X pins σ H { s with heap := g, toks := tk } := I.kept hx
    have I2 := I1.laid (a := g.objs.size) (o := Pin (PySem.W.kdv_obj "<lambda>" (X.env.qual ++ "<lambda>") params (.expr body) scope (cloFrom X.env.cells scope.names []) (.ref TT) doc ((X.mg "__name__").getD .none) c' ctv)) (t' := tk) (fun b u e => Heap.get?_push_of_some (h := g) _ e) (Nat.le_refl _) ⟨Heap.get?_push_size _ rfl, ⟨_, Heap.get?_push_size _ rfl⟩⟩
    have nF : H g.objs.size = none := I.hok.fresh hsz
    have hE : ∀ b o, H b = some o → (upd H g.objs.size (Pin (PySem.W.kdv_obj "<lambda>" (X.env.qual ++ "<lambda>") params (.expr body) scope (cloFrom X.env.cells scope.names []) (.ref TT) doc ((X.mg "__name__").getD .none) c' ctv))) b = some o := fun b o e => by
      rw [upd_ne (ne_of_none e nF)]
      exact e
    exact ⟨.ref g.objs.size, _, I2, rfl, h _ _ (ExtN.of hE) (hT.ext hE) ⟨c', TT, u, doc, _, ctv, upd_same, hE _ _ hAt, hE _ _ hco⟩ nF⟩
/-- the lambda's own frame is entered -/
theorem lam_inD {σ : L2.St} {H G HZ : Hp} {A : Around} {outer : List Env} {E : XK} {scope : Scope} {p : Str} {f c' : Addr} {h₁ : Heap} {tk : Nat} {s1 : Shared} {m : Str → Option Value} (U : Caught X σ H G) (L : LamSD X.N X.env.scope scope p) (e0 : Env0 X.prog X.w X.K X.mg X.base A outer s1 (off X.env.cells HZ)) (hd : A.handled = none)
    (hz : ∀ b, Cell X.env.cells b → ∃ o, G b = some (Pin o) ∧ s1.heap.get? b = some o) (hns : h₁.Ns s1.heap.objs.size m) (kp : ∀ b o, s1.heap.get? b = some o → h₁.get? b = some o) :
    Inv (lamCx X A outer s1 (off X.env.cells HZ) E scope f c') [] σ (off X.env.cells HZ) { s1 with heap := h₁, toks := tk } := by
  have has : ∀ y ∈ scope.names, y.2 = .free → ∃ c, X.env.cells.lookup y.1 = some c := fun y hy e => U.has _ (L.free y hy e)
  have cm : ∀ {y c}, (cloFrom X.env.cells scope.names []).lookup y = some c → X.env.cells.lookup y = some c := fun {y c} e => by
    rcases cloFrom_mem (PySem.mem_of_lookup e) with z | ⟨h1, h2⟩
    · cases z
    · obtain ⟨c1, hc⟩ := has _ h1 rfl
      have hc : X.env.cells.lookup y = some c1 := hc
      rw [hc] at h2
      rw [h2]
      exact hc
  have look : ∀ {y}, scope.names.lookup y = some .free → ∃ c, (cloFrom X.env.cells scope.names []).lookup y = some c := fun {y} hl =>
    mem_lookup (cloFrom_has (cells := X.env.cells) (acc := []) (PySem.mem_of_lookup hl))
  have isC : ∀ {y c}, X.env.cells.lookup y = some c → ∃ v, h₁.IsCell c v := fun {y c} e => by
    obtain ⟨o, v, g, d⟩ := U.held c ⟨y, e⟩
    obtain ⟨o', g', k⟩ := hz c ⟨y, e⟩
    rw [g] at g'
    have : o = o' := by injection g' with g'; injection g'
    subst this
    exact ⟨v, o, kp _ _ k, d⟩
  have noex : ∀ b : Addr, b ∉ (lamCx X A outer s1 (off X.env.cells HZ) E scope f c').ex := fun b z => nomatch (show b ∈ ([] : List Addr) from z)
  refine ⟨⟨e0.mod, L.kind, rfl, rfl, Nat.le_refl _, fun y z c e1 e2 => U.inj y z c (cm e1) (cm e2), fun y hy => ?_, fun y c z _ => Bool.noConfusion (show false = true from z), fun _ => hd, Around.frames_deeper e0.frames, .inr ⟨rfl, rfl⟩, fun b z => absurd z (noex b), e0.bs, e0.bsz, fun b _ _ => noex b,
      fun b z => absurd z (noex b), e0.funs, e0.frf⟩,
    rfl, e0.bare, Un.kept kp, ⟨_, hns, fun i y v e1 e2 e3 => ?_⟩, fun y c e => isC (cm e), e0.hok.fresh (Nat.le_refl _), fun y c e => off_c ⟨y, cm e⟩, fun q hq => absurd (show q ∈ ([] : List (Addr × Obj)) ++ [] from hq) (by simp), e0.hok.kept kp, U.len⟩
  · have hy : scope.names.lookup y = some .cell ∨ scope.names.lookup y = some .free := hy
    rcases hy with hy | hy
    · exact absurd rfl (L.own _ (PySem.mem_of_lookup hy)).2
    · exact look hy
  · have e3 : Vis scope y := e3
    rcases e3 with k | k | k
    · exact absurd (List.mem_of_getElem? (show X.N[i]? = some y from e1)) ((L.own _ (PySem.mem_of_lookup k)).1 rfl)
    · exact absurd rfl (L.own _ (PySem.mem_of_lookup k)).2
    · obtain ⟨c, o, u, h1, h2, h3, r⟩ := U.val i y v e1 e2 (L.free _ (PySem.mem_of_lookup k) rfl)
      obtain ⟨c2, z⟩ := look k
      have := cm z
      rw [h1] at this
      cases this
      obtain ⟨o', g', kk⟩ := hz c ⟨y, h1⟩
      rw [h2] at g'
      have : o = o' := by injection g' with g'; injection g'
      subst this
      exact ⟨u, r, .inr ⟨.inr k, c, z, o, kp _ _ kk, h3⟩⟩
/-- what such a lambda does where it is called -/
theorem lam_actD {σ : L2.St} {H G : Hp} {params : Arguments} {body : Expr} {scope : Scope} {p : Str} {f : Addr} {k : Nat} {t : XK → TE} (U : Caught X σ H G) (L : LamSD X.N X.env.scope scope p) (hl : IsLamD G f (X.env.qual ++ "<lambda>") params body scope (cloFrom X.env.cells scope.names []))
    (hbind : ∀ (s : Shared) (q : Str) (cl : List (Str × Addr)) (T0 : Addr) (u doc pm cv ctv : Value), s.heap.get? T0 = some (PySem.W.kdv_tup [u]) → BindsTo s (PySem.W.kdv_fn "<lambda>" q params (.expr body) scope cl (.ref T0) doc pm cv ctv) ⟨[], []⟩ [(p, u)])
    (hbody : ∀ (A : Around) (outer : List Env) (s : Shared) (H : Hp) (E : XK) (c' : Addr), Room k (A.deeper (lamEnv X scope s.heap.objs.size f c')) → PE (lamCx X A outer s H E scope f c') body (t E)) :
    ∃ R : Hp → Prop, R G ∧ Act X.prog X.w X.K X.mg X.base (k + 1) f R (fun H Q E => t (fun c d H' => Loose X.env.cells H' → E c d (back X.env.cells H H')) σ (off X.env.cells H) (fun v H' => Loose X.env.cells H' → Q v (back X.env.cells H H'))) := by
  obtain ⟨c', T0, u, doc, pm, ctv, h1, h0, h2⟩ := hl
  refine ⟨fun HZ => HZ f = G f ∧ HZ T0 = G T0 ∧ HZ c' = G c' ∧ ∀ b, Cell X.env.cells b → HZ b = G b, ⟨rfl, rfl, rfl, fun _ _ => rfl⟩, ⟨fun H H' e ⟨r1, r0, r2, r3⟩ => ⟨?_, ?_, ?_, fun b c => ?_⟩, fun s H ⟨r1, _, _, _⟩ ok => ?_, fun A outer s HZ Q E hr e0 ⟨r1, r0, r2, r3⟩ ht => ?_⟩⟩
  · rw [h1] at r1 ⊢
    exact e _ _ r1
  · rw [h0] at r0 ⊢
    exact e _ _ r0
  · rw [h2] at r2 ⊢
    exact e _ _ r2
  · obtain ⟨o, z⟩ := U.hd b c
    have r3 := r3 b c
    rw [z] at r3 ⊢
    exact e _ _ r3
  · rw [h1] at r1
    exact ⟨_, _, _, _, pin_at ok r1⟩
  have hd : Held X.env.cells HZ := fun b c => by
    rw [r3 b c]
    exact U.hd b c
  have nf : ∀ b, Cell X.env.cells b → b ∉ frs outer := fun b c z => by
    obtain ⟨o, y⟩ := hd b c
    rw [e0.frf b z] at y
    cases y
  rw [h1] at r1
  rw [h0] at r0
  rw [h2] at r2
  have of1 := pin_at e0.hok r1
  have of0 := pin_at e0.hok r0
  obtain ⟨⟨oc, vs, tt, hoc, hdc, hvc⟩, _, _⟩ := e0.hok c' _ r2
  have e1 := env_off hd e0
  have lim : s.heap.NoLimit := e0.mod.nolimit.keeps fun b o e => (e0.bs b o e).1
  refine codeAny_mono (R := CR (L2.CX X.prog X.w) outer X.prog X.w (off X.env.cells HZ) s (fun v H' => Loose X.env.cells H' → Q v (back X.env.cells HZ H')) (fun c d H' => Loose X.env.cells H' → E c d (back X.env.cells HZ H'))) ?_ fun r s' hq => cr_back hd e0.hok nf hq
  refine PySem.W.kla_callFunE hr.depth of1 rfl L.co L.gen rfl ⟨c', oc, vs, tt, rfl, hoc, hdc, hvc⟩ ?_
  refine hbind s _ _ T0 u _ _ _ _ of0 _ _ _ _ ?_
  refine wpAny_newFunctionEnv (fun y hy => (L.own y hy).2) (fun y hy => ?_) (fun h₁ hns hsb => ⟨lim.fresh _ hsb, ?_⟩) L.kind
  · rw [List.mem_singleton.mp hy]
    exact L.par
  show codeAny _ _ (.expr body (lamEnv X scope s.heap.objs.size f c')) _ _
  have kp : ∀ b o, s.heap.get? b = some o → h₁.get? b = some o := fun b o e => hsb.extBut b o (Nat.ne_of_lt (Heap.lt_size e)) (Heap.get?_push_of_some _ e)
  have J := lam_inD (E := fun c d H' => Loose X.env.cells H' → E c d (back X.env.cells HZ H')) (scope := scope) (f := f) (c' := c') (tk := s.toks + ([(p, u)] : List (Str × Value)).length) U L e1 hr.hd (fun b c => by
    obtain ⟨o, z⟩ := U.hd b c
    exact ⟨o, z, pin_at e0.hok ((r3 b c).trans z)⟩) hns kp
  refine PySem.W.kla_codeExpr (wpAny_mono ((hbody _ _ s (off X.env.cells HZ) _ c' (hr.deeper _)).run [] _ _ (off X.env.cells HZ) _ J ht) (fun v s' hq => ?_) fun e s' hq => hq)
  obtain ⟨w', H', J', rv, q⟩ := hq
  exact ⟨w', H', J'.os, J'.bare, J'.base, J'.hok, rv, q⟩
end
end LM
set_option Elab.async false
set_option maxRecDepth 100000
set_option maxHeartbeats 4000000
set_option pp.maxSteps 400
namespace RS
open PySem PySem.Spec PyProof.Rows L2 GX LM
section
variable {X : Cx} {e : Expr} {es : List Expr} {ta : TA} {p1 p2 pos : Pos}
/-- C.__init__(self, ..), C an own class that has ValueError's -/
theorem pe_veinitC {pl : Sem Bool} {x : Str} {SE : Addr} {mc : Value} (hg : Gl X x) (hm : X.mg x = some (.ref SE)) (cr : ClX.CRead X.K SE mc) (cv : PySem.W.findCls X.K (.ref SE) mc "__init__" = some (.val (.builtin "ValueError.__init__"))) (ha : PA X (e :: es) ta) (hdb : (x == ("__debug__" : Str)) = false := by decide)
    (hc : eval (.Call (.Attribute (.Name x p1) "__init__" p2) (e :: es) [] pos) X.env = (do
      let ov ← eval (.Name x p1) X.env
      standAt p2.atName
      let (f, first) ← holding [ov] (getMethod ov "__init__" pl)
      callWith pos f first (backTo pos (starEach (e :: es) X.env)) (backToKw pos (keywordEach [] X.env))) := by rfl)
    (he : starEach (e :: es) X.env = (false, eval e X.env) :: starEach es X.env := by rfl) (hpl : (backTo pos (starEach es X.env)).any (·.1) = false := by rfl) :
    PE X (.Call (.Attribute (.Name x p1) "__init__" p2) (e :: es) [] pos) (tVeI X.K ta) := by
  refine ⟨fun pins s σ H Q I h => ?_⟩
  refine PySem.W.methodCall_KW (ld_glob I hg hm ?_ hdb) hc
  refine PySem.W.method_cls I.kIn cr.ga (PySem.W.cls_value I.kIn cr.rd cv (by decide +kernel) ?_)
  show wpAny _ _ (callWith pos (Value.builtin "ValueError.__init__") [] (backTo pos (starEach (e :: es) X.env)) []) _ _ _
  refine PyProof.Rows.callWith_method1 (thn (ha.run pos pins _ σ H _ (I.tok _) h) fun us s1 ⟨vs, H1, I1, r1, a, C, ws, ev, hl, T, ea, q⟩ => ?_) he hpl
  subst ev
  cases r1 with
  | @cons _ u0 _ ur ra rw' =>
    obtain rfl : u0 = Value.ref a := ra
    have z : ur.length ≤ sizeLine := by
      rw [← Paired.length rw', sizeLine_eq]
      omega
    exact oinit_ok T I1 ea z fun s' J => ⟨.non, H1, J, rfl, q⟩
end
theorem len_app7 (x y : Str) : (x ++ y).length = x.length + y.length := by
  have e : ∀ z : Str, z.length = (TL.tl z).length := fun z => by simp [TL.tl, Str.length]
  rw [e, e x, e y, TL.tl_append, List.length_append]
/-! ### an error with a number -/
def spNumI (K : PySem.W.Frag) (C : Addr) (f : Str) : Sp := fun vs H Q _ => ∃ (a : Addr) (v : Nat), vs = [.ref a, .int (v : Nat)] ∧ v < 200 ∧ H a = some (exo a C none) ∧
  ∀ dx, H dx = none → dx ≠ a → Q .non (upd (upd H dx (exd dx [(f, .int (v : Nat))])) a (exo a C (some dx)))
theorem txt_small : ∀ n < 200, (toString ((n : Nat) : Int) : Str).length ≤ 20 ∧ ((n : Nat) : Int).natAbs.log2 < 1920 := by decide +kernel
/-- the text's class C: its __init__ tells a text, then keeps the number as f -/
structure NumE (P : Program) (w : World) (K : PySem.W.Frag) (mg : Str → Option Value) (base : Heap) (x f : Str) (C : Addr) : Prop where
  ex : ∃ (fI : Addr) (fd : FuncData), OexC K C ∧ PySem.W.findIn K (.ref C) "__init__" = some (some (.ref fI)) ∧ PySem.W.typeIn K (.ref fI) = some (.type "function") ∧ FnOk P w K mg base CX0 1 fI fd ["self", f] (spNumI K C f) ∧ Binds K fd ["self", f] [] ∧ mg x = some (.ref C)
section
variable {X : Cx} {e : Expr} {te : TE} {p pos : Pos} {x f : Str} {C : Addr}
theorem del_end {H1 : Hp} {a dx : Addr} {o u v y : HO} (hn : H1 a = none) (ne : dx ≠ a) : upd (L2.del (upd (upd (upd H1 a o) dx u) a v) a) dx y = upd H1 dx y := by
  funext b
  by_cases hb : b = dx
  · rw [hb, upd_same, upd_same]
  · rw [upd_ne hb, upd_ne hb]
    by_cases ha : b = a
    · rw [ha, L2.del_same, hn]
    · rw [L2.del_ne ha, upd_ne ha, upd_ne hb, upd_ne ha]
/-- C(e), to be raised -/
theorem pmk_num (N : NumE X.prog X.w X.K X.mg X.base x f C) (hr : Room 2 X.A) (hg : Gl X x) (he : PE X e te) (hs : starEach [e] X.env = (false, eval e X.env) :: starEach [] X.env := by rfl) (hdb : (x == ("__debug__" : Str)) = false := by decide) :
    L2.PMk X (.Call (.Name x p) [e] [] pos) (tMkO C (spNumI X.K C f) [] (tCons te tNil)) := by
  obtain ⟨fI, fd, T, iC, tI, F, hb, hm⟩ := N.ex
  exact pmk_oex T iC tI F hr hb .nil pass0 hg hm (pa_cons he pa_nil hs) hdb hs (by rfl)
/-- its reading, the number known -/
theorem num_end {K : PySem.W.Frag} {n : Nat} {H1 : Hp} {Q : XK} (hn : n < 200) (q : ∀ d, H1 d = none → Q (.ref C) (some d) (upd H1 d (.xd [(f, .int (n : Nat))]))) : [V.int (n : Nat)].length ≤ 1000 ∧ ∀ a, H1 a = none → spNumI K C f (.ref a :: ([V.int (n : Nat)] ++ [])) (upd H1 a (exo a C none))
    (fun v H2 => v = .non ∧ ∃ (d : Addr) (fs : List (Str × V)), H2 a = some (exo a C (some d)) ∧ H2 d = some (exd d fs) ∧ H1 d = none ∧ Q (.ref C) (some d) (upd (L2.del H2 a) d (.xd fs))) (fun _ _ _ => False) := by
  refine ⟨by show 1 ≤ 1000; decide, fun a ha => ⟨a, n, rfl, hn, upd_same, fun dx hd ne => ⟨rfl, dx, [(f, .int (n : Nat))], upd_same, (upd_ne ne).trans upd_same, (upd_ne ne).symm.trans hd, ?_⟩⟩⟩
  rw [del_end ha ne]
  exact q dx ((upd_ne ne).symm.trans hd)
end
section
variable {P : Program} {w : World} {K : PySem.W.Frag} {mg : Str → Option Value} {base : Heap}
theorem scPlaceI : FnScope ["self", "place"] ["self", "place"] (defScope s_BadRows_init) := ⟨rfl, rfl, rfl, by decide +kernel, rfl, by decide +kernel, by decide +kernel⟩
theorem init_place {fI C SE : Addr} {fd : FuncData} {mc : Value} (F : L2.Fun K "__init__" "BadRows.__init__" s_BadRows_init fI fd) (T : OexC K C) (iC : PySem.W.findIn K (.ref C) "__init__" = some (some (.ref fI))) (tI : PySem.W.typeIn K (.ref fI) = some (.type "function")) (hm : mg "BadRows" = some (.ref C)) (nf : PySem.W.findIn K (.ref C) "place" = some none)
    (gS : mg "SortError" = some (.ref SE)) (cr : ClX.CRead K SE mc) (cv : PySem.W.findCls K (.ref SE) mc "__init__" = some (.val (.builtin "ValueError.__init__"))) : NumE P w K mg base "BadRows" "place" C := by
  have sc := scPlaceI
  refine ⟨fI, fd, T, iC, tI, ?_, F.binds (fun _ _ _ _ _ _ us hl => match us, hl with | [_, _], _ => rfl), hm⟩
  refine F.ok sc (fun vs H Q E h => ?_) (fun cdv A outer s H vs Q E hr h => ?_)
  · obtain ⟨a, v, rfl, _⟩ := h
    rfl
  · obtain ⟨a, v, rfl, hv, ha, k⟩ := h
    refine ⟨_, (pss_cons (ps_expr (pe_veinitC (by rfl) gS cr cv (pa_cons (pv 0) (pa_cons (pe_joined (.cons pe_str (.cons (pe_fmt (pv 1)) .nil))) pa_nil)))) (pss_one (ps_ost (pv 0) (pv 1)))), ?_⟩
    obtain ⟨z1, z2⟩ := txt_small v hv
    have big : (1000 : Nat) ≤ sizeLine := by decide
    have e0 : (Str.empty ++ Str.ofString "no row that may stand at place ").length ≤ 100 := by decide +kernel
    refine ⟨_, rfl, _, rfl, by omega, _, rfl, .inr ⟨_, rfl, z2, _, rfl, ?_, a, C, _, rfl, by show 1 ≤ 1000; decide, T, ha, ?_⟩⟩
    · rw [len_app7]
      omega
    · exact ⟨_, rfl, _, rfl, a, C, rfl, T, nf, .inl ⟨ha, fun dx hd ne => k dx hd ne⟩⟩
end
end RS
set_option Elab.async false
set_option maxRecDepth 100000
set_option maxHeartbeats 4000000
namespace RS
open PySem PySem.Spec PyProof.Rows L2 GX
theorem catA_any {K : PySem.W.Frag} {H : Hp} {a b : Addr} {xs ys : List V} {Q : VK} (ha : SqT K H a xs) (hb : SqT K H b ys) (hz : xs.length + ys.length ≤ sizeLine) (q : ∀ p H', Same H H' → SqT K H' p (xs ++ ys) → Q (.ref p) H') : rCatA K (.ref a) (.ref b) H Q :=
  ⟨a, b, xs, ys, rfl, rfl, ha, hb, hz, fun e => q b H (Same.refl H) (by rw [e]; exact hb), fun _ e => q a H (Same.refl H) (by rw [e, List.append_nil]; exact ha), fun _ _ p hp => q p _ (sameNew (Same.refl H) hp) (SqT.of upd_same)⟩
theorem slA_any {K : PySem.W.Frag} {H : Hp} {a : Addr} {xs : List V} {lo hi : Option Int} {Q : VK} (ha : SqT K H a xs) (q : ∀ p H', Same H H' → SqT K H' p (cutV xs lo hi) → Q (.ref p) H') : rSlA K (.ref a) lo hi H Q :=
  ⟨a, xs, rfl, ha, fun ⟨e1, e2⟩ => q a H (Same.refl H) (by
    have : cutV xs lo hi = xs := by
      unfold cutV
      rw [e1, e2, List.drop_zero, Nat.sub_zero, List.take_length]
    rw [this]
    exact ha), fun _ p hp => q p _ (sameNew (Same.refl H) hp) (SqT.of upd_same)⟩
end RS
set_option Elab.async false
set_option maxRecDepth 100000
set_option maxHeartbeats 4000000
namespace RS
open PySem PySem.Spec PyProof.Rows L2 GX
theorem BoxAt.nb {H : Hp} {B L a : Addr} (h : BoxAt H B L) (ha : H a = none) : a ≠ B ∧ a ≠ L := by
  obtain ⟨_, ⟨s, hb⟩, ⟨ms, hl⟩⟩ := h
  exact ⟨fun z => (by rw [z, hb] at ha; cases ha), fun z => (by rw [z, hl] at ha; cases ha)⟩
theorem BoxAt.upd_ {H : Hp} {B L a : Addr} {o : HO} (h : BoxAt H B L) (nB : a ≠ B) (nL : a ≠ L) : BoxAt (upd H a o) B L := by
  obtain ⟨n, ⟨s, hb⟩, ⟨ms, hl⟩⟩ := h
  exact ⟨n, ⟨s, (upd_ne (Ne.symm nB)).trans hb⟩, ⟨ms, (upd_ne (Ne.symm nL)).trans hl⟩⟩
theorem SameX.new {B L a : Addr} {H H' : Hp} {o : HO} (s : SameX B L H H') (ha : H a = none) : SameX B L H (upd H' a o) := fun b u h1 h2 e => by
  rw [upd_ne (ne_of_none e ha)]
  exact s b u h1 h2 e
theorem SameX.free {B L a : Addr} {H H' : Hp} (s : SameX B L H H') (_b : BoxAt H B L) (ha : H' a = none) (b' : BoxAt H' B L) : H a = none := by
  cases e : H a with
  | none => rfl
  | some o =>
    obtain ⟨n1, n2⟩ := b'.nb ha
    rw [s a o n1 n2 e] at ha
    cases ha
theorem ix_listC {X : Cx} {K : PySem.W.Frag} (e : X.K = K) : IxR X (rIxL K) := by
  subst e
  exact ix_list
theorem ix_tupC {X : Cx} {K : PySem.W.Frag} (e : X.K = K) : IxR X (rIxT K) := by
  subst e
  exact ix_tup
theorem ixDC {X : Cx} {K : PySem.W.Frag} (e : X.K = K) : IxR X (fun x y H Q => ∃ d ds i d', Dp K H x d ∧ itemsD d = some ds ∧ y = .int i ∧ atI ds i = some d' ∧ ∀ v, Dp K H v d' → Q v H) := by
  subst e
  exact ixD
/-- what has no list of its own stays -/
theorem sqT_x {K : PySem.W.Frag} {H H' : Hp} {B L a : Addr} {xs : List V} (b : BoxAt H B L) (s : SameX B L H H') (h : SqT K H a xs) : SqT K H' a xs := by
  obtain ⟨_, ⟨st, hb⟩, ⟨ms, hl⟩⟩ := b
  rcases h with (h | ⟨o, h⟩) | h
  · exact .inl (.inl (s a _ (fun z => by rw [z, hb] at h; cases h) (fun z => by rw [z, hl] at h; cases h) h))
  · exact .inl (.inr ⟨o, s a _ (fun z => by rw [z, hb] at h; cases h) (fun z => by rw [z, hl] at h; cases h) h⟩)
  · exact .inr h
mutual
theorem dp_x {K : PySem.W.Frag} {H H' : Hp} {B L : Addr} (b : BoxAt H B L) (s : SameX B L H H') : ∀ (d : PyData) {v : V}, noL d = true → Dp K H v d → Dp K H' v d
  | .none, _, _, .non => .non
  | .bool x, _, _, .bl _ => .bl x
  | .int i, _, _, .int _ => .int i
  | .str x, _, _, .str _ => .str x
  | .list ds, _, h, _ => by cases h
  | .tuple ds, _, h, .tup q hs => .tup (sqT_x b s q) (dpAll_x b s ds h hs)
  | .dict _, _, h, _ => by cases h
theorem dpAll_x {K : PySem.W.Frag} {H H' : Hp} {B L : Addr} (b : BoxAt H B L) (s : SameX B L H H') : ∀ (ds : List PyData) {vs : List V}, noLs ds = true → DpAll K H vs ds → DpAll K H' vs ds
  | [], _, _, .nil => .nil
  | d :: ds, _, h, .cons q hs => by
    unfold noLs at h
    rw [Bool.and_eq_true] at h
    exact .cons (dp_x b s d h.1 q) (dpAll_x b s ds h.2 hs)
end
end RS
set_option Elab.async false
set_option maxRecDepth 100000
set_option maxHeartbeats 4000000
namespace RS
open PySem PySem.Spec PyProof.Rows L2 GX
theorem kinds_noL (ks : List Bool) : noL (kindsD ks) = true := noLs_iff.mpr fun d hd => by
  obtain ⟨b, _, rfl⟩ := List.mem_map.mp hd
  rfl
section
variable {P : Program} {w : World} {K : PySem.W.Frag} {mg : Str → Option Value} {base : Heap}
theorem dpKinds {H : Hp} : ∀ ks : List Bool, DpAll K H (ks.map fun b => V.str (kindS b)) (ks.map fun b => .str (kindS b))
  | [] => .nil
  | _ :: ks => .cons (.str _) (dpKinds ks)
theorem scKinds : FnScope ["_law_box", "_law_k"] ["_law_box"] (defScope sKinds) := ⟨rfl, rfl, rfl, by decide +kernel, rfl, by decide +kernel, by decide +kernel⟩
def spKinds (K : PySem.W.Frag) : Sp := fun vs H Q _ => ∃ (B L : Addr), vs = [.ref B] ∧ BoxAt H B L ∧
  ∀ (H' : Hp) (v : V) (ks : List Bool), SameX B L H H' → BoxAt H' B L → 1 ≤ ks.length → ks.length ≤ 4 → Dp K H' v (kindsD ks) → Q v H'
theorem two_at {k : Int} (h0 : 0 ≤ k) (h1 : k < 2) : ∃ b, atI [V.str "number", V.str "word"] k = some (.str (kindS b)) := by
  rcases (by omega : k = 0 ∨ k = 1) with e | e
  · subst e
    exact ⟨false, atI_nat (j := 0) rfl⟩
  · subst e
    exact ⟨true, atI_nat (j := 1) rfl⟩
theorem kinds_ok {c : Addr} (D : DefAt K mg "_law_kinds" sKinds c) (T : Txt K mg) (cT : Cal P w K mg base CX0 1 "_law_take" ["_law_box", "_law_many"] spTake) : Cal P w K mg base CX0 2 "_law_kinds" ["_law_box"] (spKinds K) := by
  have sc := scKinds
  refine def_ok0 D sc (fun vs H Q E h => ?_) (fun _ _ _ _ _ _ us hl => match us, hl with | [_], _ => rfl) (fun f A outer s H vs Q E hr h => ?_)
  · obtain ⟨B, L, rfl, _⟩ := h
    rfl
  · obtain ⟨B, L, rfl, hb, k⟩ := h
    refine ⟨_, (pss_one (ps_ret (pe_callTy call_tuple_of (by rfl) T.tuple_ (by decide +kernel) (pa_cons (pe_lc (own := [("_law_k", 1)]) (tt := tYes)  rfl sc.nd (pi_range1 (by rfl) T.range (pa_cons (pe_op op_add pe_int (pe_c cT hr (by decide) (by rfl) pass0 (pa_cons (pv 0) (pa_cons pe_int pa_nil)))) pa_nil)) (blkOk_by (N := ["_law_box", "_law_k"]) (sc := defScope sKinds) (own := [("_law_k", 1)]) (by decide +kernel)) (fun _ _ _ _ _ => (pg_name (i := 1) sc.nd rfl (Or.inl rfl))) (fun _ _ _ _ _ => pts_nil) (fun _ _ _ _ _ => (pe_ix (ix_listC (K := K) rfl) (pe_lst (pa_cons pe_str (pa_cons pe_str pa_nil))) (pe_c cT hr (by decide) (by rfl) pass0 (pa_cons (pv 0) (pa_cons pe_int pa_nil))) (fun _ _ => rfl)))) pa_nil)))), ?_⟩
    refine ⟨_, rfl, B, L, 4, rfl, hb, by decide, by decide, fun H1 n s1 b1 n0 n1 => ?_⟩
    refine ⟨_, _, rfl, rfl, _, rfl, by omega, by omega, fun DD hD => ?_⟩
    obtain ⟨nB, nL⟩ := b1.nb hD
    have e1 : (1 + n).toNat = n.toNat + 1 := by omega
    rw [e1]
    refine lc_range (fun i H2 => SameX B L H1 H2 ∧ BoxAt H2 B L ∧ ∃ ks : List Bool, ks.length = i ∧ H2 DD = some (.lst (ks.map fun b => V.str (kindS b)))) ⟨SameX.refl.new hD, b1.upd_ nB nL, [], rfl, upd_same⟩ ?_ ?_
    · rintro i H2 hi ⟨s2, b2, ks, lk, hl⟩
      refine ⟨rfl, by show 2 ≤ sizeLine; decide, fun e he => ?_⟩
      obtain ⟨neB, neL⟩ := b2.nb he
      have neD : DD ≠ e := fun z => by rw [← z, hl] at he; cases he
      refine ⟨_, rfl, B, L, 2, rfl, b2.upd_ neB neL, by decide, by decide, fun H3 k' s3 b3 h0 h1 => ?_⟩
      obtain ⟨bb, hbb⟩ := two_at h0 h1
      refine ⟨e, _, k', _, rfl, rfl, SqL.of (s3 e _ neB neL upd_same), hbb, ?_⟩
      refine ⟨_, s3 DD _ nB nL ((upd_ne neD).trans hl), small1000 (by rw [List.length_map]; omega), ?_, b3.upd_ nB nL, ks ++ [bb], by rw [List.length_append, lk]; rfl, ?_⟩
      · exact (s2.trans ((SameX.refl.new he).trans s3)).new hD
      · rw [upd_same, List.map_append]
        rfl
    · rintro H2 ⟨s2, b2, ks, lk, hl⟩
      refine ⟨DD, _, rfl, .inl ⟨SqL.of hl, fun p hp => ?_⟩⟩
      obtain ⟨npB, npL⟩ := b2.nb hp
      have s12 := s1.trans s2
      exact k _ (.ref p) ks (s12.new (s12.free hb hp b2)) (b2.upd_ npB npL) (by omega) (by omega) (.tup (SqT.of upd_same) (dpKinds ks))
end
end RS
set_option Elab.async false
set_option maxRecDepth 100000
set_option maxHeartbeats 4000000
namespace RS
open PySem PySem.Spec PyProof.Rows L2 GX
theorem perm_erase {α : Type} : ∀ {l : List α} {k : Nat} {x : α}, l[k]? = some x → l.Perm (x :: l.eraseIdx k)
  | [], k, x, h => by simp at h
  | y :: l, 0, x, h => by
    simp at h
    subst h
    exact List.Perm.refl _
  | y :: l, k + 1, x, h => by
    have ih := perm_erase (l := l) (k := k) (x := x) (by simpa using h)
    exact (ih.cons y).trans (List.Perm.swap x y _)
theorem map_erase {α β : Type} (f : α → β) : ∀ (l : List α) (k : Nat), (l.map f).eraseIdx k = (l.eraseIdx k).map f
  | [], _ => rfl
  | _ :: _, 0 => rfl
  | x :: l, k + 1 => by
    show f x :: (l.map f).eraseIdx k = f x :: (l.eraseIdx k).map f
    rw [map_erase f l k]
theorem seqIx {k n : Nat} (h : k < n) : seqIndex? (k : Int) n = some k := by
  simp [seqIndex?]
  omega
section
variable {P : Program} {w : World} {K : PySem.W.Frag} {mg : Str → Option Value} {base : Heap}
theorem dpNats {H : Hp} : ∀ ns : List Nat, DpAll K H (ns.map fun c => V.int (c : Nat)) (ns.map fun c => .int (c : Nat))
  | [] => .nil
  | _ :: ns => .cons (.int _) (dpNats ns)
end
end RS
set_option Elab.async false
set_option maxRecDepth 100000
set_option maxHeartbeats 4000000
namespace RS
open PySem PySem.Spec PyProof.Rows L2 GX
section
variable {P : Program} {w : World} {K : PySem.W.Frag} {mg : Str → Option Value} {base : Heap}
theorem two_ways {k : Int} (h0 : 0 ≤ k) (h1 : k < 2) : ∃ b, atI [V.str "up", V.str "down"] k = some (.str (wayS b)) := by
  rcases (by omega : k = 0 ∨ k = 1) with e | e
  · subst e
    exact ⟨false, atI_nat (j := 0) rfl⟩
  · subst e
    exact ⟨true, atI_nat (j := 1) rfl⟩
theorem parts_noL (os : List (Nat × Bool)) : noLs (os.map partD) = true := noLs_iff.mpr fun d hd => by
  obtain ⟨p, _, rfl⟩ := List.mem_map.mp hd
  rfl
theorem scOrder : FnScope ["_law_box", "_law_kinds_here", "_law_left", "_law_found", "_law_turn"] ["_law_box", "_law_kinds_here"] (defScope sOrder) := ⟨rfl, rfl, rfl, by decide +kernel, rfl, by decide +kernel, by decide +kernel⟩
def spOrder (K : PySem.W.Frag) : Sp := fun vs H Q _ => ∃ (B L : Addr) (vk : V) (ks : List Bool), vs = [.ref B, vk] ∧ BoxAt H B L ∧ Dp K H vk (kindsD ks) ∧ 1 ≤ ks.length ∧ ks.length ≤ 4 ∧
  ∀ (H' : Hp) (a : Addr) (os : List (Nat × Bool)) (xs : List V), SameX B L H H' → BoxAt H' B L → OkOrder ks.length os → os.length ≤ 4 → H a = none → H' a = some (.lst xs) → DpAll K H' xs (os.map partD) → Q (.ref a) H'
theorem order_ok {c : Addr} (D : DefAt K mg "_law_order" sOrder c) (T : Txt K mg) (cT : Cal P w K mg base CX0 1 "_law_take" ["_law_box", "_law_many"] spTake) : Cal P w K mg base CX0 2 "_law_order" ["_law_box", "_law_kinds_here"] (spOrder K) := by
  have sc := scOrder
  refine def_ok0 D sc (fun vs H Q E h => ?_) (fun _ _ _ _ _ _ us hl => match us, hl with | [_, _], _ => rfl) (fun f A outer s H vs Q E hr h => ?_)
  · obtain ⟨B, L, vk, ks, rfl, _⟩ := h
    rfl
  · obtain ⟨B, L, vk, ks, rfl, hb, hk, k1, k4, k⟩ := h
    refine ⟨_, (pss_cons (ps_set (i := 2) sc.nd rfl (Or.inl rfl) (pe_listRg rfl (by rfl) T.list_ (prg_1 (by rfl) T.range (pe_callB call_lenD (by rfl) T.len PySem.boot_len (pa_cons (pv 1) pa_nil))))) (pss_cons (ps_set (i := 3) sc.nd rfl (Or.inl rfl) (pe_lst pa_nil)) (pss_cons (ps_for PassesOwn.never rfl (pi_range1 (by rfl) T.range (pa_cons (pe_op op_add pe_int (pe_c cT hr (by decide) (by rfl) pass0 (pa_cons (pv 0) (pa_cons (pe_callB call_lenD (by rfl) T.len PySem.boot_len (pa_cons (pv 1) pa_nil)) pa_nil)))) pa_nil)) (pg_name (i := 4) sc.nd rfl (Or.inl rfl)) (pss_one (ps_expr (pe_bm PySem.F.plainAttrs_list PySem.F.slot_list_append PySem.F.type_list_append mt_append (pv 3) (pa_cons (pe_tup (pa_cons (pe_bm PySem.F.plainAttrs_list PySem.F.slot_list_pop PySem.F.type_list_pop mt_popAt (pv 2) (pa_cons (pe_c cT hr (by decide) (by rfl) pass0 (pa_cons (pv 0) (pa_cons (pe_callB call_lenD (by rfl) T.len PySem.boot_len (pa_cons (pv 2) pa_nil)) pa_nil))) pa_nil)) (pa_cons (pe_ix ix_list (pe_lst (pa_cons pe_str (pa_cons pe_str pa_nil))) (pe_c cT hr (by decide) (by rfl) pass0 (pa_cons (pv 0) (pa_cons pe_int pa_nil))) (fun _ _ => rfl)) pa_nil))) pa_nil))))) (pss_one (ps_ret (pv 3)))))), ?_⟩
    have lk : (ks.map fun b => PyData.str (kindS b)).length = ks.length := List.length_map _
    refine ⟨_, rfl, vk, _, _, rfl, hk, rfl, _, rfl, .of_le (by decide) (by omega) (by decide) (by omega), fun Lf hLf => ?_⟩
    refine ⟨Nat.zero_le _, fun Fd hFd => ?_⟩
    obtain ⟨nfB, nfL⟩ := hb.nb hLf
    have hFd0 := upd_no hFd
    obtain ⟨ndB, ndL⟩ := hb.nb hFd0
    have nFL : Fd ≠ Lf := fun z => by rw [z, upd_same] at hFd; cases hFd
    have s1 : Same H (upd (upd H Lf (.lst (rgV 0 ((ks.map fun b => PyData.str (kindS b)).length : Nat)))) Fd (.lst [])) := fun b o e => by
      rw [upd_ne (ne_of_none e hFd0), upd_ne (ne_of_none e hLf)]
      exact e
    refine ⟨_, rfl, _, rfl, vk, _, _, rfl, dp_same s1 _ hk, rfl, B, L, _, rfl, hb.same s1, by omega, by omega, fun H1 n s2 b2 n0 n1 => ?_⟩
    refine ⟨_, _, rfl, rfl, _, rfl, by omega, by omega, ?_⟩
    rw [show (1 + n).toNat = n.toNat + 1 by omega]
    have hL1 : H1 Lf = some (.lst ((List.range ks.length).map fun c => V.int (c : Nat))) := by
      rw [s2 Lf (.lst (rgV 0 ((ks.map fun b => PyData.str (kindS b)).length : Nat))) nfB nfL ((upd_ne (Ne.symm nFL)).trans upd_same)]
      simp [rgV]
    have sHX : SameX B L H H1 := (SameX.of s1).trans s2
    have hF1 : H1 Fd = some (.lst []) := s2 Fd _ ndB ndL upd_same
    refine for_range (fun i σ H2 => ∃ (v4 : Option V) (cols : List Nat) (os : List (Nat × Bool)) (xs : List V), σ = [some (.ref B), some vk, some (.ref Lf), some (.ref Fd), v4] ∧ SameX B L H H2 ∧ BoxAt H2 B L ∧
      H2 Lf = some (.lst (cols.map fun c => V.int (c : Nat))) ∧ H2 Fd = some (.lst xs) ∧ DpAll K H2 xs (os.map partD) ∧ os.length = i ∧ cols.length + i = ks.length ∧ (os.map (·.1) ++ cols).Nodup ∧ ∀ c ∈ os.map (·.1) ++ cols, c < ks.length)
      ⟨none, List.range ks.length, [], [], rfl, sHX, b2, hL1, hF1, .nil, rfl, by rw [List.length_range]; rfl, List.nodup_range, fun c hc => List.mem_range.mp hc⟩ ?_ ?_
    · rintro i σ H2 hi ⟨v4, cols, os, xs, rfl, sm, b3, hL, hF, hd, lo, lc, nd, lt⟩
      have lc2 : (cols.map fun c => PyData.int (c : Nat)).length = cols.length := List.length_map _
      refine ⟨_, rfl, .inl ⟨rfl, _, SqL.of hF⟩, _, rfl, .inl ⟨rfl, _, SqL.of hL⟩, _, rfl, _, rfl, .ref Lf, _, _, rfl, .lst (SqL.of hL) (dpNats cols), rfl, B, L, _, rfl, b3, by omega, by omega, fun H3 k1 s4 b4 h0 h1 => ?_⟩
      obtain ⟨kn, rfl⟩ : ∃ kn : Nat, k1 = (kn : Int) := ⟨k1.toNat, by omega⟩
      have hkn : kn < cols.length := by omega
      have hL3 := s4 _ _ nfB nfL hL
      have hF3 := s4 _ _ ndB ndL hF
      refine ⟨Lf, _, (kn : Int), kn, .int (cols[kn] : Nat), rfl, rfl, hL3, by omega, by omega, seqIx (by rw [List.length_map]; exact hkn), by rw [List.getElem?_map, List.getElem?_eq_getElem hkn]; rfl, ?_⟩
      rw [map_erase]
      have b5 := b4.upd_ (o := .lst ((cols.eraseIdx kn).map fun c => V.int (c : Nat))) nfB nfL
      refine ⟨by show 2 ≤ sizeLine; decide, fun e he => ?_⟩
      obtain ⟨neB, neL⟩ := b5.nb he
      refine ⟨_, rfl, B, L, 2, rfl, b5.upd_ neB neL, by decide, by decide, fun H5 k2 s6 b6 g0 g1 => ?_⟩
      obtain ⟨bb, hbb⟩ := two_ways g0 g1
      refine ⟨e, _, k2, _, rfl, rfl, SqL.of (s6 e _ neB neL upd_same), hbb, ?_⟩
      refine ⟨by show 2 ≤ sizeLine; decide, fun p hp => ?_⟩
      obtain ⟨npB, npL⟩ := b6.nb hp
      have hF4 : upd H3 Lf (.lst ((cols.eraseIdx kn).map fun c => V.int (c : Nat))) Fd = some (.lst xs) := (upd_ne nFL).trans hF3
      have neF : Fd ≠ e := fun z => by rw [← z, hF4] at he; cases he
      have neLf : Lf ≠ e := fun z => by rw [← z, upd_same] at he; cases he
      have hF5 : H5 Fd = some (.lst xs) := s6 _ _ ndB ndL ((upd_ne neF).trans hF4)
      have hL5 : H5 Lf = some (.lst ((cols.eraseIdx kn).map fun c => V.int (c : Nat))) := s6 _ _ nfB nfL ((upd_ne neLf).trans upd_same)
      have npF : Fd ≠ p := fun z => by rw [← z, hF5] at hp; cases hp
      have npLf : Lf ≠ p := fun z => by rw [← z, hL5] at hp; cases hp
      have lx : xs.length = os.length := by rw [dpLen hd, List.length_map]
      refine ⟨Fd, xs, _, rfl, rfl, (upd_ne npF).trans hF5, small1000 (by omega), ?_⟩
      have he3 : H3 e = none := upd_no he
      have sH3 : SameX B L H H3 := sm.trans s4
      have hE0 := sH3.free hb he3 b4
      have sH5 : SameX B L H H5 := ((sH3.new hLf).new hE0).trans s6
      have hP0 := sH5.free hb hp b6
      have pn := parts_noL os
      have pn2 := parts_noL (os ++ [(cols[kn], bb)])
      have hd4 := dpAll_upd (u := (cols.eraseIdx kn).map fun c => V.int (c : Nat)) hL3 _ pn (dpAll_x b3 s4 _ pn hd)
      have hd5 : DpAll K H5 xs (os.map partD) := dpAll_x (b5.upd_ neB neL) s6 _ pn (dpAll_same (fun b o q => by rw [upd_ne (ne_of_none q he)]; exact q) _ hd4)
      have hd6 : DpAll K (upd H5 p (.tup [.int (cols[kn] : Nat), .str (wayS bb)])) (xs ++ [.ref p]) ((os ++ [(cols[kn], bb)]).map partD) := by
        rw [List.map_append]
        exact dpApp (dpAll_same (fun b o q => by rw [upd_ne (ne_of_none q hp)]; exact q) _ hd5) (.cons (.tup (SqT.of upd_same) (.cons (.int _) (.cons (.str _) .nil))) .nil)
      have pm := perm_erase (List.getElem?_eq_getElem hkn)
      have pq : ((os ++ [(cols[kn], bb)]).map (·.1) ++ cols.eraseIdx kn).Perm (os.map (·.1) ++ cols) := by
        rw [List.map_append, List.append_assoc]
        exact (pm.symm).append_left _
      have lE : (cols.eraseIdx kn).length + 1 = cols.length := by
        have := pm.length_eq
        rw [List.length_cons] at this
        omega
      refine ⟨_, cols.eraseIdx kn, os ++ [(cols[kn], bb)], _, rfl, (sH5.new hP0).new hFd0, (b6.upd_ npB npL).upd_ ndB ndL, (upd_ne (Ne.symm nFL)).trans ((upd_ne npLf).trans hL5), upd_same, dpAll_upd ((upd_ne npF).trans hF5) _ pn2 hd6, by rw [List.length_append, lo]; rfl, by omega, pq.nodup_iff.mpr nd, fun c hc => lt c (pq.mem_iff.mp hc)⟩
    · rintro σ H2 ⟨v4, cols, os, xs, rfl, sm, b3, hL, hF, hd, lo, lc, nd, lt⟩
      refine ⟨_, rfl, k H2 Fd os xs sm b3 ⟨fun z => ?_, fun p hp => lt _ (List.mem_append_left _ (List.mem_map.mpr ⟨p, hp, rfl⟩)), (List.nodup_append.mp nd).1⟩ (by omega) hFd0 hF hd⟩
      rw [z] at lo
      simp at lo
end
end RS
set_option Elab.async false
set_option maxRecDepth 100000
set_option maxHeartbeats 4000000
namespace RS
open PySem PySem.Spec PyProof.Rows L2 GX

/-! ### ranks -/
def pad6 (l : List Nat) : List Nat := l ++ List.replicate (6 - l.length) 32
def worthsOf : PyData → List Int
  | .int n => [n]
  | .str x => (pad6 x.cps.toList).map Int.ofNat
  | _ => []
theorem len_cps (x : Str) : x.cps.toList.length = x.length := by simp [Str.length]
theorem isWord_len {x : Str} (h : isWord (.str x) = true) : x.length ≤ 6 := by
  have h' : (decide ((x.length : Int) ≤ 6) && x.cps.toList.all signOk) = true := h
  rw [Bool.and_eq_true] at h'
  have := of_decide_eq_true h'.1
  omega
theorem ljust6 {x : Str} (h : x.length ≤ 6) : (Txt.ljust x 6).cps.toList = pad6 x.cps.toList := by
  unfold Txt.ljust pad6
  split
  · rename_i q
    have e : x.length = 6 := by omega
    rw [len_cps, e]
    simp
  · show (Array.replicate 0 32 ++ x.cps ++ Array.replicate ((6 : Int).toNat - x.length) 32).toList = _
    rw [len_cps]
    simp
theorem pad6_len {l : List Nat} (h : l.length ≤ 6) : (pad6 l).length = 6 := by
  unfold pad6
  rw [List.length_append, List.length_replicate]
  omega
theorem worths_len {b : Bool} {d : PyData} (h : isVal b d = true) : (worthsOf d).length ≤ 6 := by
  cases d with
  | int n => exact (by decide : 1 ≤ 6)
  | str x =>
    show ((pad6 x.cps.toList).map Int.ofNat).length ≤ 6
    rw [List.length_map, pad6_len (by
      rw [len_cps]
      cases b with
      | true => exact isWord_len h
      | false => simp [isVal, isNum, isI, isT, tyN] at h)]
    exact Nat.le_refl _
  | _ => exact Nat.zero_le _
/-- what a column of an order makes of a row -/
def keyP (row : List PyData) (p : Nat × Bool) : List Int := (worthsOf (row.getD p.1 .none)).map fun z => if p.2 then -z else z
def rankOf (os : List (Nat × Bool)) (q : Nat × List PyData) : List Int := os.flatMap (keyP q.2) ++ [(q.1 : Int)]
/-- the row has what the order asks -/
def Fits (os : List (Nat × Bool)) (row : List PyData) : Prop := ∀ p ∈ os, ∃ b d, row[p.1]? = some d ∧ isVal b d = true
theorem key_len {os : List (Nat × Bool)} {row : List PyData} (h : Fits os row) : ∀ p ∈ os, (keyP row p).length ≤ 6 := fun p hp => by
  obtain ⟨b, d, e, v⟩ := h p hp
  unfold keyP
  rw [List.length_map, List.getD_eq_getElem?_getD, e]
  exact worths_len v
theorem flat_len {α β : Type} (f : α → List β) (n : Nat) : ∀ l : List α, (∀ x ∈ l, (f x).length ≤ n) → (l.flatMap f).length ≤ n * l.length
  | [], _ => by simp
  | x :: l, h => by
    rw [List.flatMap_cons, List.length_append, List.length_cons]
    have h1 := h x List.mem_cons_self
    have h2 := flat_len f n l fun y hy => h y (List.mem_cons_of_mem _ hy)
    rw [Nat.mul_add, Nat.mul_one]
    omega

section
variable {P : Program} {w : World} {K : PySem.W.Frag} {mg : Str → Option Value} {base : Heap}
theorem scWorths : FnScope ["value", "sign"] ["value"] (defScope sWorths) := ⟨rfl, rfl, rfl, by decide +kernel, rfl, by decide +kernel, by decide +kernel⟩
def spWorths (K : PySem.W.Frag) : Sp := fun vs H Q _ => ∃ (v : V) (d : PyData) (b : Bool), vs = [v] ∧ Dp K H v d ∧ isVal b d = true ∧
  ∀ (H' : Hp) (p : Addr), Same H H' → H p = none → H' p = some (.lst ((worthsOf d).map V.int)) → Q (.ref p) H'
theorem worths_ok {c : Addr} (D : DefAt K mg "worths" sWorths c) (T : Txt K mg) : Cal P w K mg base CX0 1 "worths" ["value"] (spWorths K) := by
  have sc := scWorths
  obtain ⟨tL, hL⟩ := T.letters
  refine def_ok0 D sc (fun vs H Q E h => ?_) (fun _ _ _ _ _ _ us hl => match us, hl with | [_], _ => rfl) (fun f A outer s H vs Q E hr h => ?_)
  · obtain ⟨v, d, b, rfl, _⟩ := h
    rfl
  · obtain ⟨v, d, b, rfl, hd, hv, k⟩ := h
    refine ⟨_, (pss_cons (ps_if (pt_val (pe_callB call_isiD (by rfl) T.isinstance (by decide +kernel) (pa_cons (pv 0) (pa_cons (pe_bltn (v := V.ty "str") (u := Value.type "str") (by rfl) T.str_ (by decide +kernel) rfl) pa_nil)))) (pss_one (ps_ret (pe_lc (own := [("sign", 1)]) (tt := tYes)  rfl sc.nd (pi_str (pe_bm PySem.F.plainAttrs_str PySem.F.slot_str_ljust PySem.F.type_str_ljust mt_ljust (pv 0) (pa_cons (pe_glob (v := V.int 6) (by rfl) hL ⟨_, rfl⟩) pa_nil))) (blkOk_by (N := ["value", "sign"]) (sc := defScope sWorths) (own := [("sign", 1)]) (by decide +kernel)) (fun _ _ _ _ _ => (pg_name (i := 1) sc.nd rfl (Or.inl rfl))) (fun _ _ _ _ _ => pts_nil) (fun _ _ _ _ _ => (pe_callB call_ord (by rfl) T.ord (by decide +kernel) (pa_cons (pv 1) pa_nil)))))) pss_nil) (pss_one (ps_ret (pe_lst (pa_cons (pv 0) pa_nil))))), ?_⟩
    refine ⟨_, rfl, _, _, _, rfl, by simp, hd, _, rfl, ?_⟩
    cases hd with
    | non => cases b <;> simp [isVal, isNum, isI, isT, tyN, isWord] at hv
    | bl _ => cases b <;> simp [isVal, isNum, isI, isT, tyN, isWord] at hv
    | lst _ _ => cases b <;> simp [isVal, isNum, isI, isT, tyN, isWord] at hv
    | tup _ _ => cases b <;> simp [isVal, isNum, isI, isT, tyN, isWord] at hv
    | int n =>
      have e : isI "str" (.int n) = false := by simp [isI, isT, tyN]
      rw [e]
      refine iteF ⟨_, rfl, by show 1 ≤ sizeLine; decide, fun p hp => ?_⟩
      exact k _ p (fun b' o q => by rw [upd_ne (ne_of_none q hp)]; exact q) hp upd_same
    | str x =>
      have e : isI "str" (.str x) = true := by simp [isI, isT, tyN]
      rw [e]
      have hx : x.length ≤ 6 := by
        cases b with
        | true => exact isWord_len hv
        | false => simp [isVal, isNum, isI, isT, tyN] at hv
      refine iteT ⟨_, rfl, rfl, x, 6, rfl, rfl, by decide +kernel, _, rfl, fun p hp => ?_⟩
      refine lc_by (Txt.ljust x 6).cps.size (fun i H' => Same H H' ∧ H' p = some (.lst (((pad6 x.cps.toList).take i).map fun c => V.int (Int.ofNat c)))) ⟨fun b' o q => by rw [upd_ne (ne_of_none q hp)]; exact q, upd_same⟩ ?_ ?_
      · rintro i H' hi ⟨sm, hl⟩
        refine ⟨hi, fun y H2 ⟨e2, cc, hc, ey⟩ => ?_⟩
        subst e2 ey
        have hc2 : (pad6 x.cps.toList)[i]? = some cc := by
          rw [← ljust6 hx]
          simpa using hc
        have li : i < 6 := by
          rw [← pad6_len (by rw [len_cps]; exact hx)]
          exact (List.getElem?_eq_some_iff.mp hc2).1
        refine ⟨rfl, _, rfl, _, rfl, rfl, _, hl, small1000 (by rw [List.length_map, List.length_take]; omega), ?_, ?_⟩
        · exact fun b' o q => by rw [upd_ne (ne_of_none q hp)]; exact sm b' o q
        · rw [upd_same, List.take_add_one, hc2, List.map_append]
          rfl
      · rintro H' ⟨sm, hl⟩
        refine ⟨Nat.le_refl _, ?_⟩
        have ez : (pad6 x.cps.toList).take (Txt.ljust x 6).cps.size = pad6 x.cps.toList := by
          rw [List.take_of_length_le]
          rw [← ljust6 hx]
          simp
        rw [ez] at hl
        refine k H' p sm hp ?_
        rw [hl]
        show _ = some (HO.lst (((pad6 x.cps.toList).map Int.ofNat).map V.int))
        rw [List.map_map]
        rfl

theorem scRank : FnScope ["order", "told", "number", "row", "ranked", "column", "way", "worth"] ["order", "told"] (defScope sRank) := ⟨rfl, rfl, rfl, by decide +kernel, rfl, by decide +kernel, by decide +kernel⟩
def spRank (K : PySem.W.Frag) : Sp := fun vs H Q _ => ∃ (vo vt : V) (os : List (Nat × Bool)) (q : Nat × List PyData), vs = [vo, vt] ∧ Dp K H vo (orderD os) ∧ Dp K H vt (pairD q) ∧ os.length ≤ 1000 ∧ Fits os q.2 ∧
  ∀ (H' : Hp) (p : Addr), Same H H' → H p = none → H' p = some (.tup ((rankOf os q).map V.int)) → Q (.ref p) H'
theorem rank_ok {c : Addr} (D : DefAt K mg "rank" sRank c) (T : Txt K mg) (cW : Cal P w K mg base CX0 1 "worths" ["value"] (spWorths K)) : Cal P w K mg base CX0 2 "rank" ["order", "told"] (spRank K) := by
  have sc := scRank
  refine def_ok0 D sc (fun vs H Q E h => ?_) (fun _ _ _ _ _ _ us hl => match us, hl with | [_, _], _ => rfl) (fun f A outer s H vs Q E hr h => ?_)
  · obtain ⟨vo, vt, os, q, rfl, _⟩ := h
    rfl
  · obtain ⟨vo, vt, os, ⟨n, row⟩, rfl, ho, hq, hz, hf, k⟩ := h
    refine ⟨_, (pss_cons (ps_asg (pv 1) (pg_tup (by rfl) (pgs_cons (pg_name (i := 2) sc.nd rfl (Or.inl rfl)) (pgs_cons (pg_name (i := 3) sc.nd rfl (Or.inl rfl)) pgs_nil)))) (pss_cons (ps_set (i := 4) sc.nd rfl (Or.inl rfl) (pe_lst pa_nil)) (pss_cons (ps_for PassesOwn.never rfl (pi_list (pv 0)) (pg_tup (by rfl) (pgs_cons (pg_name (i := 5) sc.nd rfl (Or.inl rfl)) (pgs_cons (pg_name (i := 6) sc.nd rfl (Or.inl rfl)) pgs_nil))) (pss_one (ps_if (pt_cmpR op_eq (pv 6) pe_str (nomark _)) (pss_one (ps_expr (pe_bm PySem.F.plainAttrs_list PySem.F.slot_list_extend PySem.F.type_list_extend mt_extend (pv 4) (pa_cons (pe_c cW hr (by decide) (by rfl) pass0 (pa_cons (pe_ix ixD (pv 3) (pv 5) (fun _ _ => rfl)) pa_nil)) pa_nil)))) (pss_one (ps_expr (pe_bm PySem.F.plainAttrs_list PySem.F.slot_list_extend PySem.F.type_list_extend mt_extend (pv 4) (pa_cons (pe_lc (own := [("worth", 7)]) (tt := tYes)  rfl sc.nd (pi_list (pe_c cW hr (by decide) (by rfl) pass0 (pa_cons (pe_ix ixD (pv 3) (pv 5) (fun _ _ => rfl)) pa_nil))) (blkOk_by (N := ["order", "told", "number", "row", "ranked", "column", "way", "worth"]) (sc := defScope sRank) (own := [("worth", 7)]) (by decide +kernel)) (fun _ _ _ _ _ => (pg_name (i := 7) sc.nd rfl (Or.inl rfl))) (fun _ _ _ _ _ => pts_nil) (fun _ _ _ _ _ => pe_un un_neg (pv 7))) pa_nil))))))) (pss_one (ps_ret (pe_callTy call_tuple_of (by rfl) T.tuple_ (by decide +kernel) (pa_cons (pe_op op_cat (pv 4) (pe_lst (pa_cons (pv 2) pa_nil))) pa_nil))))))), ?_⟩
    cases ho with
    | @lst ao xo _ hSo hIo =>
      cases hq with
      | @tup at_ xt _ hSt hIt =>
        cases hIt with
        | cons h1 hIt =>
          cases hIt with
          | cons h2 hIt =>
            cases hIt
            cases h1
            rename_i vr
            have lo : xo.length = os.length := by rw [dpLen hIo, List.length_map]
            refine ⟨_, rfl, at_, _, rfl, hSt, rfl, _, _, rfl, _, _, rfl, rfl, ?_⟩
            refine ⟨Nat.zero_le _, fun pr hp => ?_⟩
            have s0 : Same H (upd H pr (.lst [])) := fun b' o e => by rw [upd_ne (ne_of_none e hp)]; exact e
            refine ⟨_, rfl, ao, rfl, ⟨_, s0.seq hSo⟩, for_list (K := K) (a := ao) (xs := xo) (fun i σ H' => ∃ v5 v6 : Option V, σ = [some (.ref ao), some (.ref at_), some (.int (n : Int)), some vr, some (.ref pr), v5, v6, none] ∧ Same H H' ∧ H' pr = some (.lst (((os.take i).flatMap (keyP row)).map V.int)))
              ⟨none, none, rfl, s0, upd_same⟩ (fun i σ H' _ ⟨_, _, _, sm, _⟩ => sm.seq hSo) ?_ ?_⟩
            · rintro i y σ H' hi ⟨v5, v6, rfl, sm, hL⟩
              obtain ⟨d, ed, hd⟩ := dpGet hIo hi
              obtain ⟨⟨c, b⟩, eq, rfl⟩ : ∃ q, os[i]? = some q ∧ d = partD q := by
                rw [List.getElem?_map] at ed
                cases q : os[i]? with
                | none => rw [q] at ed; cases ed
                | some b => rw [q] at ed; exact ⟨b, rfl, (Option.some.inj ed).symm⟩
              have hm := List.mem_of_getElem? eq
              have hi' : i < os.length := (List.getElem?_eq_some_iff.mp eq).1
              obtain ⟨b', d, er, hv⟩ := hf _ hm
              have er : row[c]? = some d := er
              cases hd with
              | @tup ap xp _ hSp hIp =>
                cases hIp with
                | cons g1 hIp =>
                  cases hIp with
                  | cons g2 hIp =>
                    cases hIp
                    cases g1
                    cases g2
                    have ekey : keyP row (c, b) = (worthsOf d).map fun z => if b then -z else z := by
                      unfold keyP
                      rw [List.getD_eq_getElem?_getD, er]
                      rfl
                    have full : (os.take (i + 1)).flatMap (keyP row) = (os.take i).flatMap (keyP row) ++ keyP row (c, b) := by
                      rw [List.take_add_one, eq, List.flatMap_append]
                      simp
                    have l1 : ((os.take i).flatMap (keyP row)).length ≤ 6000 := by
                      have := flat_len (keyP row) 6 (os.take i) fun x hx => key_len hf x (List.mem_of_mem_take hx)
                      rw [List.length_take] at this
                      omega
                    have l2 : (worthsOf d).length ≤ 6 := worths_len hv
                    have big : (6006 : Nat) ≤ sizeLine := by decide
                    refine ⟨ap, _, rfl, sqT_same sm hSp, rfl, _, _, rfl, _, _, rfl, rfl, ?_⟩
                    refine ⟨_, rfl, rfl, _, rfl, ?_⟩
                    have hw : decide (V.str (wayS b) = V.str (Str.ofString "up")) = !b := by cases b <;> decide +kernel
                    rw [hw]
                    cases b with
                    | false =>
                      refine iteT ⟨_, rfl, .inl ⟨rfl, _, SqL.of hL⟩, _, rfl, _, rfl, _, row, c, d, dp_same sm _ h2, rfl, rfl, atI_nat er, fun v hv' => ?_⟩
                      refine ⟨v, d, b', rfl, hv', hv, fun H2 p2 s2 hp2 hL2 => ?_⟩
                      have ne2 : p2 ≠ pr := fun z => by rw [z, hL] at hp2; cases hp2
                      refine ⟨pr, p2, _, _, rfl, rfl, s2 _ _ hL, hL2, by simp only [List.length_map]; omega, ?_⟩
                      refine ⟨_, _, rfl, fun q o e => ?_, ?_⟩
                      · rw [upd_ne (fun z => by subst z; rw [hp] at e; cases e)]
                        exact s2 _ _ (sm q o e)
                      · rw [upd_same, full, List.map_append, ekey]
                        simp
                    | true =>
                      refine iteF ⟨_, rfl, .inl ⟨rfl, _, SqL.of hL⟩, _, rfl, _, rfl, _, row, c, d, dp_same sm _ h2, rfl, rfl, atI_nat er, fun v hv' => ?_⟩
                      refine ⟨v, d, b', rfl, hv', hv, fun H2 p2 s2 hp2 hL2 => ?_⟩
                      have ne2 : p2 ≠ pr := fun z => by rw [z, hL] at hp2; cases hp2
                      refine ⟨p2, rfl, ⟨_, SqL.of hL2⟩, fun DD hD => ?_⟩
                      have neD : p2 ≠ DD := fun z => by rw [← z, hL2] at hD; cases hD
                      have neD2 : pr ≠ DD := fun z => by rw [← z, s2 _ _ hL] at hD; cases hD
                      refine lc_list (K := K) (a := p2) (xs := (worthsOf d).map V.int) (fun j H3 => Same H2 H3 ∧ H3 DD = some (.lst (((worthsOf d).take j).map fun z => V.int (-z)))) ⟨fun q o e => by rw [upd_ne (ne_of_none e hD)]; exact e, upd_same⟩
                        (fun j H3 _ hp3 => SqL.of (hp3.1 _ _ hL2)) ?_ ?_
                      · rintro j x H3 hx ⟨sm3, hl3⟩
                        obtain ⟨z, ez, rfl⟩ : ∃ z, (worthsOf d)[j]? = some z ∧ x = V.int z := by
                          rw [List.getElem?_map] at hx
                          cases q : (worthsOf d)[j]? with
                          | none => rw [q] at hx; cases hx
                          | some z => rw [q] at hx; exact ⟨z, rfl, (Option.some.inj hx).symm⟩
                        refine ⟨rfl, _, rfl, _, rfl, _, hl3, small1000 (by rw [List.length_map, List.length_take]; omega), fun q o e => ?_, ?_⟩
                        · rw [upd_ne (fun z' => by subst z'; rw [hD] at e; cases e)]
                          exact sm3 q o e
                        · rw [upd_same, List.take_add_one, ez, List.map_append]
                          rfl
                      · rintro H3 ⟨sm3, hl3⟩
                        rw [List.length_map, List.take_length] at hl3
                        refine ⟨pr, DD, _, _, rfl, rfl, sm3 _ _ (s2 _ _ hL), hl3, by simp only [List.length_map]; omega, ?_⟩
                        refine ⟨_, _, rfl, fun q o e => ?_, ?_⟩
                        · rw [upd_ne (fun z => by subst z; rw [hp] at e; cases e)]
                          exact sm3 _ _ (s2 _ _ (sm q o e))
                        · rw [upd_same, full, List.map_append, ekey]
                          simp
            · rintro σ H' ⟨v5, v6, rfl, sm, hL⟩
              rw [lo, List.take_length] at hL
              have l1 : (os.flatMap (keyP row)).length ≤ 6000 := by
                have := flat_len (keyP row) 6 os fun x hx => key_len hf x hx
                omega
              have big : (6006 : Nat) ≤ sizeLine := by decide
              refine ⟨_, rfl, _, rfl, by show 1 ≤ sizeLine; decide, fun p1 hp1 => ?_⟩
              have ne1 : pr ≠ p1 := fun z => by rw [← z, hL] at hp1; cases hp1
              refine ⟨pr, p1, _, _, rfl, rfl, by rw [upd_ne ne1]; exact hL, upd_same, by simp only [List.length_map, List.length_cons, List.length_nil]; omega, fun p2 hp2 => ?_⟩
              refine ⟨p2, _, rfl, .inl ⟨SqL.of upd_same, fun p3 hp3 => ?_⟩⟩
              have s1 : Same H' (upd H' p1 (.lst [V.int (n : Int)])) := fun q o e => by rw [upd_ne (ne_of_none e hp1)]; exact e
              have s2 : Same H' (upd (upd H' p1 (.lst [V.int (n : Int)])) p2 (.lst ((os.flatMap (keyP row)).map V.int ++ [V.int (n : Int)]))) := fun q o e => by rw [upd_ne (ne_of_none (s1 q o e) hp2)]; exact s1 q o e
              refine k _ p3 (fun q o e => ?_) ((sm.trans s2).free hp3) ?_
              · have e2 := s2 q o (sm q o e)
                rw [upd_ne (ne_of_none e2 hp3)]
                exact e2
              · rw [upd_same]
                unfold rankOf
                rw [List.map_append]
                rfl
end
end RS
set_option Elab.async false
set_option maxRecDepth 100000
set_option maxHeartbeats 4000000
/-! heaps over places 0 .. n - 1, f what stands there -/
namespace HQ
section
variable {α : Type} {lt : α → α → Bool}
def par (i : Nat) : Nat := (i - 1) / 2
/-- each thing whose parent stands at k or behind it is no less than that parent -/
def From (lt : α → α → Bool) (n : Nat) (f : Nat → α) (k : Nat) : Prop := ∀ i, 1 ≤ i → i < n → k ≤ par i → lt (f i) (f (par i)) = false
def swp (f : Nat → α) (i j : Nat) : Nat → α := fun k => if k = i then f j else if k = j then f i else f k
inductive Desc (top : Nat) : Nat → Prop
  | refl : Desc top top
  | step {c : Nat} (h : 1 ≤ c) (d : Desc top (par c)) : Desc top c
/-- what lies under pos is no less than what lies over it -/
def Over (lt : α → α → Bool) (n : Nat) (f : Nat → α) (top pos : Nat) : Prop :=
  pos = top ∨ (1 ≤ pos ∧ Desc top (par pos) ∧ ∀ c, 1 ≤ c → c < n → par c = pos → lt (f c) (f (par pos)) = false)
structure Down (lt : α → α → Bool) (n : Nat) (f : Nat → α) (top pos : Nat) : Prop where
  ds : Desc top pos
  ok : ∀ i, 1 ≤ i → i < n → top ≤ par i → par i ≠ pos → i ≠ pos → lt (f i) (f (par i)) = false
  over : Over lt n f top pos
structure Up (lt : α → α → Bool) (n : Nat) (f : Nat → α) (top pos : Nat) : Prop where
  ds : Desc top pos
  ok : ∀ i, 1 ≤ i → i < n → top ≤ par i → i ≠ pos → lt (f i) (f (par i)) = false
  over : Over lt n f top pos
theorem par_lt {i : Nat} (h : 1 ≤ i) : par i < i := by unfold par; omega
theorem Desc.le {top p : Nat} (h : Desc top p) : top ≤ p := by
  induction h with
  | refl => exact Nat.le_refl _
  | step h _ ih => exact Nat.le_trans ih (Nat.le_of_lt (par_lt h))
theorem Desc.zero : ∀ p : Nat, Desc 0 p := fun p => by
  induction p using Nat.strongRecOn with
  | ind p ih =>
    by_cases h : 1 ≤ p
    · exact .step h (ih _ (par_lt h))
    · have e : p = 0 := by omega
      subst e
      exact .refl
theorem Desc.up {top p : Nat} (h : Desc top p) (ne : p ≠ top) : 1 ≤ p ∧ Desc top (par p) := by
  cases h with
  | refl => exact absurd rfl ne
  | step h d => exact ⟨h, d⟩
theorem par_left (i : Nat) : par (2 * i + 1) = i := by unfold par; omega
theorem par_right (i : Nat) : par (2 * i + 2) = i := by unfold par; omega
theorem par_iff {i p : Nat} (h : 1 ≤ i) : par i = p ↔ i = 2 * p + 1 ∨ i = 2 * p + 2 := by unfold par; omega
theorem From.down {n : Nat} {f : Nat → α} {k : Nat} (h : From lt n f (k + 1)) : Down lt n f k k :=
  ⟨.refl, fun i h1 h2 h3 h4 _ => h i h1 h2 (by omega), .inl rfl⟩
theorem Down.leaf {n : Nat} {f : Nat → α} {top pos : Nat} (h : Down lt n f top pos) (hl : ¬ pos < n / 2) : Up lt n f top pos :=
  ⟨h.ds, fun i h1 h2 h3 h4 => h.ok i h1 h2 h3 (fun e => by
    rcases (par_iff h1).mp e with z | z <;> omega) h4, h.over⟩
/-- the lesser child goes up -/
theorem Down.step (O : SrtO.Swo lt) {n : Nat} {f : Nat → α} {top pos c : Nat} (h : Down lt n f top pos) (hc : c < n) (hp : c = 2 * pos + 1 ∨ c = 2 * pos + 2)
    (hm : ∀ d, (d = 2 * pos + 1 ∨ d = 2 * pos + 2) → d < n → lt (f d) (f c) = false) : Down lt n (swp f c pos) top c := by
  have pc : par c = pos := (par_iff (by omega)).mpr hp
  have hle := h.ds.le
  refine ⟨.step (by omega) (by rw [pc]; exact h.ds), fun i h1 h2 h3 h4 h5 => ?_, .inr ⟨by omega, by rw [pc]; exact h.ds, fun d h1 h2 h3 => ?_⟩⟩
  · -- i is not c, its parent is not c
    have si : swp f c pos i = if i = pos then f c else f i := by
      unfold swp
      rw [if_neg h5]
    have sp : swp f c pos (par i) = if par i = pos then f c else f (par i) := by
      unfold swp
      rw [if_neg h4]
    rw [si, sp]
    have nn : ¬ (i = pos ∧ par i = pos) := fun z => by
      have := par_lt h1
      omega
    by_cases e1 : i = pos
    · have e2 : ¬ par i = pos := fun z => nn ⟨e1, z⟩
      rw [if_pos e1, if_neg e2]
      rcases h.over with z | ⟨z1, z2, z3⟩
      · rw [e1] at h3
        have := par_lt (i := pos) (by omega)
        omega
      · rw [e1]
        exact z3 c (by omega) hc pc
    · rw [if_neg e1]
      by_cases e2 : par i = pos
      · rw [if_pos e2]
        exact hm i ((par_iff h1).mp e2) h2
      · rw [if_neg e2]
        exact h.ok i h1 h2 h3 e2 e1
  · -- d under c
    have e1 : d ≠ c := fun z => by
      have := par_lt h1
      omega
    have e2 : d ≠ pos := fun z => by
      have := par_lt h1
      have := par_lt (i := c) (by omega)
      omega
    have s1 : swp f c pos d = f d := by
      unfold swp
      rw [if_neg e1, if_neg e2]
    have s2 : swp f c pos (par c) = f c := by
      unfold swp
      rw [pc, if_neg (by have := par_lt (i := c) (by omega); omega), if_pos rfl]
    rw [s1, s2]
    have := h.ok d h1 h2 (by rw [h3]; omega) (by rw [h3]; have := par_lt (i := c) (by omega); omega) e2
    rw [h3] at this
    exact this
/-- it goes up past its parent -/
theorem Up.step (O : SrtO.Swo lt) {n : Nat} {f : Nat → α} {top pos : Nat} (h : Up lt n f top pos) (hn : pos < n) (ht : top < pos) (hl : lt (f pos) (f (par pos)) = true) : Up lt n (swp f (par pos) pos) top (par pos) := by
  have hpp := par_lt (i := pos) (by omega)
  rcases h.over with z | ⟨z1, z2, z3⟩
  · omega
  refine ⟨z2, fun i h1 h2 h3 h4 => ?_, ?_⟩
  · have si : swp f (par pos) pos i = if i = pos then f (par pos) else f i := by
      unfold swp
      rw [if_neg h4]
    rw [si]
    by_cases e1 : i = pos
    · rw [if_pos e1]
      have sp : swp f (par pos) pos (par i) = f pos := by
        unfold swp
        rw [e1, if_pos rfl]
      rw [sp]
      exact O.asym _ _ hl
    · rw [if_neg e1]
      by_cases e2 : par i = par pos
      · have sp : swp f (par pos) pos (par i) = f pos := by
          unfold swp
          rw [if_pos e2]
        rw [sp]
        have a := h.ok i h1 h2 h3 e1
        rw [e2] at a
        exact O.tr _ _ _ (O.asym _ _ hl) a
      · by_cases e3 : par i = pos
        · have sp : swp f (par pos) pos (par i) = f (par pos) := by
            unfold swp
            rw [if_neg e2, if_pos e3]
          rw [sp]
          exact z3 i h1 h2 e3
        · have sp : swp f (par pos) pos (par i) = f (par i) := by
            unfold swp
            rw [if_neg e2, if_neg e3]
          rw [sp]
          exact h.ok i h1 h2 h3 e1
  · by_cases e : par pos = top
    · exact .inl e
    · obtain ⟨g1, g2⟩ := z2.up e
      refine .inr ⟨g1, g2, fun c c1 c2 c3 => ?_⟩
      have hq := par_lt g1
      have sq : swp f (par pos) pos (par (par pos)) = f (par (par pos)) := by
        unfold swp
        rw [if_neg (by omega), if_neg (by omega)]
      have a : lt (f (par pos)) (f (par (par pos))) = false := h.ok _ g1 (by omega) g2.le (by omega)
      rw [sq]
      have hc := par_lt c1
      by_cases e1 : c = pos
      · have sc : swp f (par pos) pos c = f (par pos) := by
          unfold swp
          rw [if_neg (by omega), if_pos e1]
        rw [sc]
        exact a
      · have sc : swp f (par pos) pos c = f c := by
          unfold swp
          rw [if_neg (by omega), if_neg e1]
        rw [sc]
        have b := h.ok c c1 c2 (by rw [c3]; exact z2.le) e1
        rw [c3] at b
        exact O.tr _ _ _ a b
theorem Up.top {n : Nat} {f : Nat → α} {top pos : Nat} (h : Up lt n f top pos) (hp : ¬ top < pos) : From lt n f top := fun i h1 h2 h3 => h.ok i h1 h2 h3 fun e => by
  have := par_lt h1
  omega
theorem Up.stop {n : Nat} {f : Nat → α} {top pos : Nat} (h : Up lt n f top pos) (hl : lt (f pos) (f (par pos)) = false) : From lt n f top := fun i h1 h2 h3 => by
  by_cases e : i = pos
  · rw [e]; exact hl
  · exact h.ok i h1 h2 h3 e
theorem From.push {n : Nat} {f g : Nat → α} (h : From lt n f 0) (e : ∀ i, i < n → g i = f i) : Up lt (n + 1) g 0 n := by
  refine ⟨.zero _, fun i h1 h2 h3 h4 => ?_, ?_⟩
  · have := par_lt h1
    rw [e i (by omega), e (par i) (by omega)]
    exact h i h1 (by omega) (Nat.zero_le _)
  · by_cases z : n = 0
    · exact .inl z
    · refine .inr ⟨by omega, .zero _, fun c c1 c2 c3 => ?_⟩
      have := par_lt c1
      omega
theorem From.root {n : Nat} {f g : Nat → α} (h : From lt n f 0) (e : ∀ i, 1 ≤ i → i < n → g i = f i) : Down lt n g 0 0 :=
  ⟨.refl, fun i h1 h2 _ h4 _ => by
    have := par_lt h1
    rw [e i h1 h2, e (par i) (by omega) (by omega)]
    exact h i h1 h2 (Nat.zero_le _), .inl rfl⟩
theorem From.less {n m : Nat} {f : Nat → α} {k : Nat} (h : From lt n f k) (hm : m ≤ n) : From lt m f k := fun i h1 h2 h3 => h i h1 (by omega) h3
theorem From.half {n : Nat} {f : Nat → α} : From lt n f (n / 2) := fun i h1 h2 h3 => by
  have : par i = (i - 1) / 2 := rfl
  omega
theorem From.few {n : Nat} {f : Nat → α} (h : n < 2) : From lt n f 0 := fun i h1 h2 _ => by omega
theorem From.least (O : SrtO.Swo lt) {n : Nat} {f : Nat → α} (h : From lt n f 0) : ∀ i, i < n → lt (f i) (f 0) = false := fun i => by
  induction i using Nat.strongRecOn with
  | ind i ih =>
    intro hi
    by_cases h1 : 1 ≤ i
    · have hp := par_lt h1
      exact O.tr _ _ _ (ih _ hp (by omega)) (h i h1 hi (Nat.zero_le _))
    · have e : i = 0 := by omega
      subst e
      exact O.refl _
end
end HQ
set_option Elab.async false
set_option maxRecDepth 100000
set_option maxHeartbeats 2000000
namespace HQ
open PySem PySem.Spec PyProof.Rows L2 PySem.SeqAt
/-! ### tuples whose first numbers differ -/
theorem tupLt2 (a b : Addr) (xs ys : Array Value) (n m : Nat) (da db : Option Addr) (sa sb : Array (Option Value)) (e r : Nat → Bool) :
    Meets (Builtin.«tuple.__lt__» ⟨[.ref a, .ref b], []⟩) (fun A R s => s.heap.get? a = some ⟨.type "tuple", da, .seq xs n, sa⟩ ∧ s.heap.get? b = some ⟨.type "tuple", db, .seq ys m, sb⟩ ∧
        (∀ j (p : j < xs.size) (q : j < ys.size), (∀ i < j, e i = true) → EqAt A.in1 s xs[j] ys[j] (e j)) ∧ (∀ j (p : j < xs.size) (q : j < ys.size), (∀ i < j, e i = true) → e j = false → RcLt A.in1 s xs[j] ys[j] (r j)) ∧
        R (.ok (.ret (.bool (firstLt e r (decide (xs.size < ys.size)) (List.range (min xs.size ys.size)))))) s) := .of_wp fun prog w A R s H => by
    obtain ⟨hp, g, d, tk, os⟩ := s
    obtain ⟨ha, hb, he, hr, H⟩ := H
    have sub := AutoSeq1.sub_tuple_tuple
    have lZ : (xs.toList.zip ys.toList).length = min xs.size ys.size := by simp
    wp_walk using AutoSeq1.wpAny_loadPart' ha, AutoSeq1.wpAny_loadPart' hb, wpAny_forIn_list _ (fun rest c s' => c.1 = none ∧ s' = ⟨hp, g, d, tk, os⟩ ∧ ∃ i, rest = (xs.toList.zip ys.toList).drop i ∧ (∀ k < i, e k = true) ∧ R (.ok (.ret (.bool (firstLt e r (decide (xs.size < ys.size)) ((List.range (min xs.size ys.size)).drop i))))) ⟨hp, g, d, tk, os⟩) _
    case turn =>
      rintro ⟨y, x⟩ rest c s' ⟨hc, rfl, i, hz, hk, hR⟩
      have hlt : i < (xs.toList.zip ys.toList).length := by
        by_cases z : i < (xs.toList.zip ys.toList).length
        · exact z
        · rw [List.drop_of_length_le (Nat.le_of_not_lt z)] at hz
          cases hz
      have hm : i < min xs.size ys.size := by rw [← lZ]; exact hlt
      have i1 : i < xs.size := by omega
      have i2 : i < ys.size := by omega
      rw [List.drop_eq_getElem_cons hlt] at hz
      obtain ⟨hyx, hrest⟩ := List.cons.inj hz
      have ey : y = xs[i] := by simpa using congrArg Prod.fst hyx
      have ex : x = ys[i] := by simpa using congrArg Prod.snd hyx
      subst ey ex
      have ed : (List.range (min xs.size ys.size)).drop i = i :: (List.range (min xs.size ys.size)).drop (i + 1) := by
        simp [List.drop_eq_getElem_cons, hm]
      rw [ed] at hR
      refine wpAny_bind (he i i1 i2 hk prog w _ _ ?_)
      by_cases ei : e i = true
      · rw [firstLt_yes ei] at hR
        rw [ei]
        wp_walk
        refine ⟨rfl, rfl, i + 1, hrest, fun k kk => ?_, hR⟩
        by_cases z : k = i
        · rw [z]; exact ei
        · exact hk k (by omega)
      · have ei : e i = false := by simpa using ei
        rw [firstLt_no ei] at hR
        rw [ei]
        generalize hrc : PySem.richCompare = rc
        wp_walk
        subst hrc
        refine hr i i1 i2 hk ei prog w _ _ ?_
        wp_walk
        exact ⟨_, rfl, hR⟩
    case fin =>
      rintro ⟨c1, c2⟩ s' ⟨hc, rfl, i, hz, _, hR⟩
      simp only at hc
      subst hc
      have hge : min xs.size ys.size ≤ i := by
        by_cases z : i < (xs.toList.zip ys.toList).length
        · rw [List.drop_eq_getElem_cons z] at hz
          cases hz
        · rw [← lZ]
          omega
      rw [List.drop_of_length_le (by simpa using hge)] at hR
      wp_walk
      exact ⟨_, rfl, by simpa [Builtin.Tuple.tupleCompareSizes, firstLt] using hR⟩
    case h =>
      exact ⟨rfl, rfl, 0, rfl, fun k kk => absurd kk (Nat.not_lt_zero _), by simpa using H⟩
def eTri (x1 x2 y1 y2 : Int) (j : Nat) : Bool := if j = 0 then decide (x1 = y1) else if j = 1 then decide (x2 = y2) else false
def rTri (x1 x2 y1 y2 : Int) (j : Nat) : Bool := if j = 0 then decide (x1 < y1) else decide (x2 < y2)
theorem triLt {x1 x2 y1 y2 : Int} {d d' : PyData} (h : x1 ≠ y1 ∨ x2 ≠ y2) : PySem.W.dataLt (.tuple [.int x1, .int x2, d]) (.tuple [.int y1, .int y2, d']) = (if x1 = y1 then decide (x2 < y2) else decide (x1 < y1)) := by
  have al : ∀ a b : Int, PySem.W.alike (.int a) (.int b) = true := fun a b => by simp [PySem.W.alike]
  have ev : ∀ a b : Int, PyData.eqv (.int a) (.int b) = decide (a = b) := fun a b => by by_cases q : a = b <;> simp [q, PyData.eqv]
  rw [PySem.W.dataLt_tuple]
  by_cases e1 : x1 = y1
  · have e2 : ¬ x2 = y2 := fun z => h.elim (fun q => q e1) fun q => q z
    rw [if_pos e1, PySem.W.dataLt_all_yes (al x1 y1) (by rw [ev]; exact decide_eq_true e1), PySem.W.dataLt_all_no (al x2 y2) (by rw [ev]; exact decide_eq_false e2), PySem.W.dataLt_int]
  · rw [if_neg e1, PySem.W.dataLt_all_no (al x1 y1) (by rw [ev]; exact decide_eq_false e1), PySem.W.dataLt_int]
theorem three {h : Heap} {l : List Value} {a b c : PyData} {as : List Addr} (r : ReadsAll h l [a, b, c] as) : ∃ v1 v2 v3 : Value, l = [v1, v2, v3] ∧ (∃ z, Reads h v1 a z) ∧ ∃ z, Reads h v2 b z := by
  cases r with
  | cons r1 t1 =>
    cases t1 with
    | cons r2 t2 =>
      cases t2 with
      | cons r3 t3 =>
        cases t3
        exact ⟨_, _, _, rfl, ⟨_, r1⟩, ⟨_, r2⟩⟩
theorem rc_tri {x1 x2 y1 y2 : Int} {d d' : PyData} {A : Around} {s : Shared} {u v : Value} {as bs : List Addr} (ra : Reads s.heap u (.tuple [.int x1, .int x2, d]) as) (rb : Reads s.heap v (.tuple [.int y1, .int y2, d']) bs) (h : x1 ≠ y1 ∨ x2 ≠ y2) (hu : A.units + 1 < cLine) :
    RcLt A s u v (PySem.W.dataLt (.tuple [.int x1, .int x2, d]) (.tuple [.int y1, .int y2, d'])) := by
  rw [triLt h]
  cases ra with
  | @tuple l o vs n _ as₁ h1 h2 h3 h4 =>
    cases rb with
    | @tuple l' o' vs' n' _ bs₁ k1 k2 k3 k4 =>
      obtain ⟨p1, p2, p3, ep, ⟨z1, r1⟩, ⟨z2, r2⟩⟩ := three h4
      obtain ⟨q1, q2, q3, eq, ⟨w1, t1⟩, ⟨w2, t2⟩⟩ := three k4
      have ep : vs = #[p1, p2, p3] := Array.toList_inj.mp ep
      have eq : vs' = #[q1, q2, q3] := Array.toList_inj.mp eq
      subst ep eq
      have al : ∀ a b : Int, PySem.W.alike (.int a) (.int b) = true := fun a b => by simp [PySem.W.alike]
      have ev : ∀ a b : Int, PyData.eqv (.int a) (.int b) = decide (a = b) := fun a b => by by_cases q : a = b <;> simp [q, PyData.eqv]
      have room : ∀ a b : Int, A.in1.units + min (PyData.int a).depth (PyData.int b).depth < cLine := fun a b => by
        show A.units + 1 + min (PyData.int a).depth (PyData.int b).depth < cLine
        simp only [PyData.depth, Nat.min_self]
        omega
      have E1 := PySem.W.eqAt_alike (.int x1) (.int y1) A.in1 s p1 q1 _ _ r1 t1 (al _ _) (room _ _)
      have E2 := PySem.W.eqAt_alike (.int x2) (.int y2) A.in1 s p2 q2 _ _ r2 t2 (al _ _) (room _ _)
      have L1 := PySem.W.rcLt_alike (.int x1) (.int y1) A.in1 s p1 q1 _ _ r1 t1 (al _ _) (by simp) (room _ _)
      have L2 := PySem.W.rcLt_alike (.int x2) (.int y2) A.in1 s p2 q2 _ _ r2 t2 (al _ _) (by simp) (room _ _)
      rw [ev] at E1 E2
      rw [PySem.W.dataLt_int] at L1 L2
      obtain ⟨oc, od, ot, osl⟩ := o
      obtain ⟨oc', od', ot', osl'⟩ := o'
      simp only at h2 h3 k2 k3
      subst h2 h3 k2 k3
      intro prog w E Q hq
      refine richCompare_meets_room (op := .Lt) ⟨_, h1, rfl⟩ ⟨_, k1, rfl⟩ F.slot_tuple_lt F.entry_tuple_lt (F.args_tuple_lt_2 _ _) (tupLt2 l l' #[p1, p2, p3] #[q1, q2, q3] n n' od od' osl osl' (eTri x1 x2 y1 y2) (rTri x1 x2 y1 y2)) ⟨h1, k1, fun j a b hj => ?_, fun j a b hj _ => ?_, (fun x => nomatch x), ?_⟩ (by omega)
      · match j, a, hj with
        | 0, _, _ => exact E1
        | 1, _, _ => exact E2
        | 2, _, hj =>
          have a1 := hj 0 (by decide)
          have a2 := hj 1 (by decide)
          simp [eTri] at a1 a2
          exact absurd a2 (h.resolve_left fun z => z a1)
      · match j, a, hj with
        | 0, _, _ => exact L1
        | 1, _, _ => exact L2
        | 2, _, hj =>
          have a1 := hj 0 (by decide)
          have a2 := hj 1 (by decide)
          simp [eTri] at a1 a2
          exact absurd a2 (h.resolve_left fun z => z a1)
      · have e : firstLt (eTri x1 x2 y1 y2) (rTri x1 x2 y1 y2) (decide ((#[p1, p2, p3] : Array Value).size < (#[q1, q2, q3] : Array Value).size)) (List.range (min (#[p1, p2, p3] : Array Value).size (#[q1, q2, q3] : Array Value).size)) = if x1 = y1 then decide (x2 < y2) else decide (x1 < y1) := by
          show firstLt _ _ _ [0, 1, 2] = _
          by_cases e1 : x1 = y1
          · have e2 : ¬ x2 = y2 := fun z => h.elim (fun q => q e1) fun q => q z
            simp [firstLt, eTri, rTri, e1, e2]
          · simp [firstLt, eTri, rTri, e1]
        rw [e]
        exact hq
end HQ
set_option Elab.async false
set_option maxRecDepth 100000
set_option maxHeartbeats 4000000
namespace HQ
open PySem PySem.Spec PyProof.Rows L2 RS

/-! ### entries -/
theorem en_sift : entryFor table "_heapq.heapify.sift" = some Builtin.«_heapq.heapify.sift» := entryFor_of_fast (by kernel_rfl)
theorem en_heapify : entryFor table "_heapq.heapify" = some Builtin.«_heapq.heapify» := entryFor_of_fast (by kernel_rfl)
theorem en_push : entryFor table "_heapq.heappush" = some Builtin.«_heapq.heappush» := entryFor_of_fast (by kernel_rfl)
theorem en_pop : entryFor table "_heapq.heappop" = some Builtin.«_heapq.heappop» := entryFor_of_fast (by kernel_rfl)
theorem pl_sift : plainId "_heapq.heapify.sift" = true := by decide +kernel
theorem pl_heapify : plainId "_heapq.heapify" = true := by decide +kernel
theorem pl_push : plainId "_heapq.heappush" = true := by decide +kernel
theorem pl_pop : plainId "_heapq.heappop" = true := by decide +kernel
theorem ki_heapify : builtinKind "_heapq.heapify" = none := by decide +kernel
theorem ki_push : builtinKind "_heapq.heappush" = none := by decide +kernel
theorem ki_pop : builtinKind "_heapq.heappop" = none := by decide +kernel
theorem ar_heapify (a : Value) : argsOk "_heapq.heapify" ⟨[a], []⟩ := by unfold argsOk; kernel_rfl
theorem ar_push (a b : Value) : argsOk "_heapq.heappush" ⟨[a, b], []⟩ := by unfold argsOk; kernel_rfl
theorem ar_pop (a : Value) : argsOk "_heapq.heappop" ⟨[a], []⟩ := by unfold argsOk; kernel_rfl

/-! ### the order of data -/
abbrev Z := V × PyData
def ltz (x y : Z) : Bool := PySem.W.dataLt x.2 y.2
theorem swo_z : SrtO.Swo ltz := by
  refine ⟨fun x y h => ?_, fun x y z h1 h2 => ?_⟩
  · cases q : ltz y x with
    | false => rfl
    | true =>
      have t := (PyProof.Rows.listOrd PyProof.Rows.itemOrd).trans _ _ _ h q
      rw [(PyProof.Rows.listOrd PyProof.Rows.itemOrd).irrefl] at t
      cases t
  · cases q : ltz z x with
    | false => rfl
    | true =>
      rcases (PyProof.Rows.listOrd PyProof.Rows.itemOrd).negTrans _ (PySem.W.keyToks y.2) _ q with t | t
      · exact t.symm.trans h2
      · exact t.symm.trans h1

/-! ### lists as heaps -/
def dz : Z := (.non, .none)
def nth (zs : List Z) (i : Nat) : Z := zs.getD i dz
def sw (zs : List Z) (i j : Nat) : List Z := (zs.set i (nth zs j)).set j (nth zs i)
theorem nth_eq {zs : List Z} {i : Nat} (h : i < zs.length) : nth zs i = zs[i] := by
  unfold nth
  rw [List.getD_eq_getElem?_getD, List.getElem?_eq_getElem h]
  rfl
theorem nth_at {zs : List Z} {i : Nat} (h : i < zs.length) : zs[i]? = some (nth zs i) := by rw [nth_eq h, List.getElem?_eq_getElem h]
theorem nth_mem {zs : List Z} {i : Nat} (h : i < zs.length) : nth zs i ∈ zs := by rw [nth_eq h]; exact List.getElem_mem h
theorem sw_len (zs : List Z) (i j : Nat) : (sw zs i j).length = zs.length := by unfold sw; rw [List.length_set, List.length_set]
theorem sw_perm {zs : List Z} {i j : Nat} (hi : i < zs.length) (hj : j < zs.length) : (sw zs i j).Perm zs := by
  unfold sw
  rw [nth_eq hi, nth_eq hj]
  exact List.set_set_perm hi hj
theorem sw_nth {zs : List Z} {i j : Nat} (hi : i < zs.length) (hj : j < zs.length) (ne : i ≠ j) : nth (sw zs i j) = swp (nth zs) i j := by
  funext k
  unfold swp
  unfold nth sw
  simp only [List.getD_eq_getElem?_getD, List.getElem?_set, List.length_set]
  by_cases e1 : j = k
  · subst e1
    rw [if_pos rfl, if_pos hj, if_neg (Ne.symm ne), if_pos rfl]
    rfl
  · rw [if_neg e1]
    by_cases e2 : i = k
    · subst e2
      rw [if_pos rfl, if_pos hi, if_pos rfl]
      rfl
    · rw [if_neg e2, if_neg (Ne.symm e2), if_neg (Ne.symm e1)]

/-- two that can be compared: alike, or of three parts with the first numbers unlike -/
def Cmp (d d' : PyData) : Prop := PySem.W.alike d d' = true ∨ ∃ (x1 x2 y1 y2 : Int) (e e' : PyData), d = .tuple [.int x1, .int x2, e] ∧ d' = .tuple [.int y1, .int y2, e'] ∧ (x1 ≠ y1 ∨ x2 ≠ y2)
/-- items that may stand in the heap at a -/
structure Good (K : PySem.W.Frag) (H : Hp) (a : Addr) (zs : List Z) : Prop where
  dp : ∀ z ∈ zs, ∀ u, Dp K (upd H a (.lst u)) z.1 z.2
  nn : ∀ z ∈ zs, z.2 ≠ .none
  dep : ∀ z ∈ zs, z.2.depth ≤ 60
  al : ∀ z ∈ zs, ∀ y ∈ zs, Cmp z.2 y.2
theorem Good.perm {K : PySem.W.Frag} {H : Hp} {a : Addr} {zs ys : List Z} (G : Good K H a zs) (p : ys.Perm zs) : Good K H a ys :=
  ⟨fun z h => G.dp z (p.mem_iff.mp h), fun z h => G.nn z (p.mem_iff.mp h), fun z h => G.dep z (p.mem_iff.mp h), fun z h y g => G.al z (p.mem_iff.mp h) y (p.mem_iff.mp g)⟩
theorem Good.sub {K : PySem.W.Frag} {H : Hp} {a : Addr} {zs ys : List Z} (G : Good K H a zs) (p : ∀ y ∈ ys, y ∈ zs) : Good K H a ys :=
  ⟨fun z h => G.dp z (p _ h), fun z h => G.nn z (p _ h), fun z h => G.dep z (p _ h), fun z h y g => G.al z (p _ h) y (p _ g)⟩
abbrev hp (H : Hp) (a : Addr) (zs : List Z) : Hp := upd H a (.lst (zs.map (·.1)))
section
variable {X : Cx} {pins : List (Addr × Obj)} {σ : L2.St} {H : Hp} {a : Addr} {zs : List Z} {s : Shared}
theorem less_ {x y : Z} {u v : Value} {E : Value → Shared → Prop} {Q : Value → Shared → Prop} {A : Around} (hu : A.units + 61 < cLine) (G : Good X.K H a zs) (I : Inv X pins σ (hp H a zs) s) (hx : x ∈ zs) (hy : y ∈ zs) (rx : RelV x.1 u) (ry : RelV y.1 v)
    (h : Q (.bool (ltz x y)) s) : wpAny (model X.prog X.w) A (richCompare .Lt u v) Q E s := by
  obtain ⟨as, r1⟩ := Dp.reads I _ _ _ (G.dp x hx _) rx
  obtain ⟨bs, r2⟩ := Dp.reads I _ _ _ (G.dp y hy _) ry
  rcases G.al x hx y hy with al | ⟨x1, x2, y1, y2, e, e', e1, e2, ne⟩
  · exact PySem.W.rcLt_alike x.2 y.2 A s u v as bs r1 r2 al (G.nn x hx) (by have := G.dep x hx; omega) X.prog X.w E Q h
  · unfold ltz at h
    rw [e1] at r1 h
    rw [e2] at r2 h
    exact rc_tri r1 r2 ne (by omega) X.prog X.w E Q h
/-- what the sifting does next -/
def Nx (X : Cx) (a : Addr) (after : Int) (res : Value) (R : Result → Shared → Prop) (s : Shared) : Prop :=
  if after < 0 then R (.ok (.ret res)) s else codeAny (model X.prog X.w) X.A (.builtin "_heapq.heapify.sift" ⟨[.ref a, .bool false, .bool true, rawInt (after.toNat : Nat), rawInt (after.toNat : Nat), res, rawInt (after - 1)], []⟩) R s

theorem at_ {M : Model} {A : Around} {xs : Array Value} {i : Nat} {u : Value} {f : Sem Value} {Q : Value → Shared → Prop} {E : Value → Shared → Prop} {s : Shared} (h : xs[i]? = some u) (q : Q u s) :
    wpAny M A (match xs[i]? with | some v => pure v | none => f) Q E s := by
  rw [h]
  exact wpAny_pure q
theorem vals_at {zs : List Z} {its : List Value} (r : Vals (zs.map (·.1)) its) {i : Nat} (h : i < zs.length) : ∃ u, its[i]? = some u ∧ its.toArray[i]? = some u ∧ RelV (nth zs i).1 u := by
  obtain ⟨u, h1, h2⟩ := r.get (i := i) (x := (nth zs i).1) (by rw [List.getElem?_map, nth_at h]; rfl)
  exact ⟨u, h1, by rw [← Array.getElem?_toList]; exact h1, h2⟩
theorem sw_map {zs : List Z} {i j : Nat} {its : List Value} (r : Vals (zs.map (·.1)) its) {u v : Value} (hu : RelV (nth zs i).1 u) (hv : RelV (nth zs j).1 v) :
    Vals ((sw zs i j).map (·.1)) ((its.set i v).set j u) := by
  unfold sw
  rw [List.map_set, List.map_set]
  exact (r.set hv i).set hu j
theorem swap_inv {i j : Nat} {its : List Value} {n : Nat} (I : Inv X pins σ (hp H a zs) s) (r : Vals (zs.map (·.1)) its) (e : s.heap.get? a = some { cls := .type "list", data := .seq its.toArray n }) (z : zs.length ≤ sizeLine) {u v : Value}
    (hu : RelV (nth zs i).1 u) (hv : RelV (nth zs j).1 v) :
    Inv X pins σ (hp H a (sw zs i j)) { s with heap := s.heap.update a (Obj.mapSeq fun xs => (xs.setIfInBounds i v).setIfInBounds j u) } := by
  have q := I.lset (l := a) (its' := (its.set i v).set j u) (f := fun xs => (xs.setIfInBounds i v).setIfInBounds j u) (t' := s.toks) upd_same e (by simp) (sw_map (i := i) (j := j) r hu hv) (by rw [List.length_map, sw_len]; exact z)
  rw [upd_upd] at q
  exact q
theorem up_run (hu : X.A.units + 64 < cLine) {top : Nat} {after : Int} {res : Value} {R : Result → Shared → Prop} (hz : zs.length ≤ sizeLine) (G : Good X.K H a zs)
    (hend : ∀ s' ys, ys.Perm zs → From ltz zs.length (nth ys) top → Inv X pins σ (hp H a ys) s' → Nx X a after res R s') :
    ∀ (m pos : Nat) (ys : List Z) (s : Shared), pos ≤ m → pos < zs.length → ys.Perm zs → Up ltz zs.length (nth ys) top pos → Inv X pins σ (hp H a ys) s →
      codeAny (model X.prog X.w) X.A (.builtin "_heapq.heapify.sift" ⟨[.ref a, .bool false, .bool false, rawInt pos, rawInt top, res, rawInt after], []⟩) R s := by
  intro m
  induction m using Nat.strongRecOn with
  | ind m ih =>
    intro pos ys s hm hp p U I
    obtain ⟨z, its, n, r, hl, e⟩ := I.lstM (l := a) (xs := ys.map (·.1)) upd_same
    rw [List.length_map] at hl z
    have lz := p.length_eq
    refine codeAny_builtin en_sift ?_
    rw [Around.under_plainId pl_sift _]
    show wpAny _ X.A.in1 (_ >>= _) _ _ _
    refine wpAny_bind (wpAny_bind (wpAny_seqItems e rfl (wpAny_pure ?_)))
    show wpAny _ X.A.in1 (if pos > top then _ else _) _ _ _
    have stop : ∀ s' : Shared, Nx X a after res R s' → wpAny (model X.prog X.w) X.A.in1 (if after < 0 then ret res else again (.builtin "_heapq.heapify.sift" ⟨[.ref a, .bool false, .bool true, rawInt (after.toNat : Nat), rawInt (after.toNat : Nat), res, rawInt (after - 1)], []⟩))
        (fun fin s' => match fin with | .done f => R (.ok f) s' | .again c' => c'.quiet = true ∧ codeAny (model X.prog X.w) X.A c' R s') (fun e s' => R (.error e) s') s' := by
      intro s' q
      unfold Nx at q
      by_cases g : after < 0
      · rw [if_pos g] at q ⊢
        exact wpAny_pure q
      · rw [if_neg g] at q ⊢
        exact wpAny_pure ⟨plainId_quiet pl_sift _, q⟩
    by_cases h1 : pos > top
    · rw [if_pos h1]
      have hpp := par_lt (i := pos) (by omega)
      obtain ⟨u, u1, u2, u3⟩ := vals_at r (i := pos) (by omega)
      obtain ⟨v, v1, v2, v3⟩ := vals_at r (i := par pos) (by omega)
      refine wpAny_bind (at_ u2 ?_)
      refine wpAny_bind (at_ v2 ?_)
      show wpAny _ X.A.in1 (_ >>= _) _ _ _
      refine wpAny_bind (wpAny_bind (wpAny_holding (wpAny_bind (less_ (x := nth ys pos) (y := nth ys (par pos)) (by show X.A.units + 1 + 61 < cLine; omega) (G.perm p) I (nth_mem (by omega)) (nth_mem (by omega)) u3 v3 (wpAny_truthy_bool ?_)))))
      refine wpAny_bind (wpAny_bind (wpAny_seqItems e rfl (wpAny_pure ?_)))
      show wpAny _ X.A.in1 (if (its.toArray.size != its.toArray.size) = true then _ else _) _ _ _
      rw [if_neg (by simp)]
      refine wpAny_pure ?_
      show wpAny _ X.A.in1 (if ltz (nth ys pos) (nth ys (par pos)) = true then _ else _) _ _ _
      by_cases h2 : ltz (nth ys pos) (nth ys (par pos)) = true
      · rw [if_pos h2]
        refine wpAny_bind (wpAny_bind (wpAny_bind (wpAny_seqItems e rfl (wpAny_pure ?_))))
        refine wpAny_bind (at_ v2 ?_)
        refine wpAny_bind (at_ u2 ?_)
        refine wpAny_updateSeq e rfl ?_ (by rw [List.size_toArray]; omega) (by simp only [Array.size_setIfInBounds, List.size_toArray]; omega)
        refine wpAny_pure ⟨plainId_quiet pl_sift _, ?_⟩
        have I2 := swap_inv (i := par pos) (j := pos) I r e z v3 u3
        have U2 := U.step swo_z hp h1 h2
        rw [← sw_nth (by omega) (by omega) (by omega)] at U2
        exact ih (par pos) (by omega) (par pos) _ _ (Nat.le_refl _) (by omega) ((sw_perm (by omega) (by omega)).trans p) U2 I2
      · rw [if_neg h2]
        exact stop _ (hend s ys p (U.stop (by
          cases q : ltz (nth ys pos) (nth ys (par pos)) with
          | false => rfl
          | true => exact absurd q h2)) I)
    · rw [if_neg h1]
      exact stop _ (hend s ys p (U.top h1) I)

theorem down_run (hu : X.A.units + 64 < cLine) {top : Nat} {after : Int} {res : Value} {R : Result → Shared → Prop} (hz : zs.length ≤ sizeLine) (G : Good X.K H a zs)
    (hend : ∀ s' ys, ys.Perm zs → From ltz zs.length (nth ys) top → Inv X pins σ (hp H a ys) s' → Nx X a after res R s') :
    ∀ (m pos : Nat) (ys : List Z) (s : Shared), zs.length - pos ≤ m → pos < zs.length → ys.Perm zs → Down ltz zs.length (nth ys) top pos → Inv X pins σ (hp H a ys) s →
      codeAny (model X.prog X.w) X.A (.builtin "_heapq.heapify.sift" ⟨[.ref a, .bool false, .bool true, rawInt pos, rawInt top, res, rawInt after], []⟩) R s := by
  intro m
  induction m using Nat.strongRecOn with
  | ind m ih =>
    intro pos ys s hm hp p D I
    obtain ⟨z, its, n, r, hl, e⟩ := I.lstM (l := a) (xs := ys.map (·.1)) upd_same
    rw [List.length_map] at hl z
    have lz := p.length_eq
    have sz : its.toArray.size = zs.length := by rw [List.size_toArray, ← hl, lz]
    refine codeAny_builtin en_sift ?_
    rw [Around.under_plainId pl_sift _]
    show wpAny _ X.A.in1 (_ >>= _) _ _ _
    refine wpAny_bind (wpAny_bind (wpAny_seqItems e rfl (wpAny_pure ?_)))
    show wpAny _ X.A.in1 (if pos < its.toArray.size / 2 then _ else _) _ _ _
    rw [sz]
    by_cases h1 : pos < zs.length / 2
    · rw [if_pos h1]
      obtain ⟨u, u1, u2, u3⟩ := vals_at r (i := pos) (by omega)
      obtain ⟨l, l1, l2, l3⟩ := vals_at r (i := 2 * pos + 1) (by omega)
      have nxt : ∀ c, (c = 2 * pos + 1 ∨ c = 2 * pos + 2) → c < zs.length → (∀ d, (d = 2 * pos + 1 ∨ d = 2 * pos + 2) → d < zs.length → ltz (nth ys d) (nth ys c) = false) → ∀ w, RelV (nth ys c).1 w →
          codeAny (model X.prog X.w) X.A (.builtin "_heapq.heapify.sift" ⟨[.ref a, .bool false, .bool true, rawInt c, rawInt top, res, rawInt after], []⟩) R { s with heap := s.heap.update a (Obj.mapSeq fun xs => (xs.setIfInBounds c u).setIfInBounds pos w) } := by
        intro c hc hl2 hmin w rw'
        have I2 := swap_inv (i := c) (j := pos) I r e z rw' u3
        have D2 := D.step swo_z hl2 hc hmin
        rw [← sw_nth (by omega) (by omega) (by omega)] at D2
        exact ih (zs.length - c) (by omega) c _ _ (Nat.le_refl _) hl2 ((sw_perm (by omega) (by omega)).trans p) D2 I2
      by_cases h2 : 2 * pos + 1 + 1 < zs.length
      · rw [if_pos (show 2 * (pos : Int).toNat + 1 + 1 < zs.length from h2)]
        obtain ⟨q, q1, q2, q3⟩ := vals_at r (i := 2 * pos + 1 + 1) (by omega)
        refine wpAny_bind (at_ l2 ?_)
        refine wpAny_bind (at_ q2 ?_)
        show wpAny _ X.A.in1 (_ >>= _) _ _ _
        refine wpAny_bind (wpAny_bind (wpAny_holding (wpAny_bind (less_ (x := nth ys (2 * pos + 1)) (y := nth ys (2 * pos + 1 + 1)) (by show X.A.units + 1 + 61 < cLine; omega) (G.perm p) I (nth_mem (by omega)) (nth_mem (by omega)) l3 q3 (wpAny_truthy_bool ?_)))))
        refine wpAny_bind (wpAny_bind (wpAny_seqItems e rfl (wpAny_pure ?_)))
        show wpAny _ X.A.in1 (if (its.toArray.size != zs.length) = true then _ else _) _ _ _
        rw [if_neg (by rw [sz]; simp)]
        refine wpAny_pure ?_
        show wpAny _ X.A.in1 (if (!ltz (nth ys (2 * pos + 1)) (nth ys (2 * pos + 1 + 1))) = true then _ else _) _ _ _
        by_cases h3 : ltz (nth ys (2 * pos + 1)) (nth ys (2 * pos + 1 + 1)) = true
        · rw [if_neg (by rw [h3]; decide)]
          refine wpAny_bind (wpAny_bind (wpAny_bind (wpAny_seqItems e rfl (wpAny_pure ?_))))
          refine wpAny_bind (at_ l2 ?_)
          refine wpAny_bind (at_ u2 ?_)
          refine wpAny_updateSeq e rfl ?_ (by rw [List.size_toArray]; omega) (by simp only [Array.size_setIfInBounds, List.size_toArray]; omega)
          refine wpAny_pure ⟨plainId_quiet pl_sift _, ?_⟩
          exact nxt _ (.inl rfl) (by omega) (fun d hd _ => by
                      rcases hd with e1 | e1
                      · subst e1; exact swo_z.refl _
                      · subst e1; exact swo_z.asym _ _ h3) l l3
        · have h3' : ltz (nth ys (2 * pos + 1)) (nth ys (2 * pos + 1 + 1)) = false := by
            cases q : ltz (nth ys (2 * pos + 1)) (nth ys (2 * pos + 1 + 1)) with
            | false => rfl
            | true => exact absurd q h3
          rw [if_pos (by rw [h3']; decide)]
          refine wpAny_bind (wpAny_bind (wpAny_bind (wpAny_seqItems e rfl (wpAny_pure ?_))))
          refine wpAny_bind (at_ q2 ?_)
          refine wpAny_bind (at_ u2 ?_)
          refine wpAny_updateSeq e rfl ?_ (by rw [List.size_toArray]; omega) (by simp only [Array.size_setIfInBounds, List.size_toArray]; omega)
          refine wpAny_pure ⟨plainId_quiet pl_sift _, ?_⟩
          exact nxt _ (.inr rfl) (by omega) (fun d hd _ => by
                      rcases hd with e1 | e1
                      · subst e1; exact h3'
                      · subst e1; exact swo_z.refl _) q q3
      · rw [if_neg (show ¬ 2 * (pos : Int).toNat + 1 + 1 < zs.length from h2)]
        refine wpAny_bind (wpAny_bind (wpAny_bind (wpAny_seqItems e rfl (wpAny_pure ?_))))
        refine wpAny_bind (at_ l2 ?_)
        refine wpAny_bind (at_ u2 ?_)
        refine wpAny_updateSeq e rfl ?_ (by rw [List.size_toArray]; omega) (by simp only [Array.size_setIfInBounds, List.size_toArray]; omega)
        refine wpAny_pure ⟨plainId_quiet pl_sift _, ?_⟩
        exact nxt _ (.inl rfl) (by omega) (fun d hd hd2 => by
                  rcases hd with e1 | e1
                  · subst e1; exact swo_z.refl _
                  · omega) l l3
    · rw [if_neg h1]
      refine wpAny_pure ⟨plainId_quiet pl_sift _, ?_⟩
      exact up_run hu hz G hend pos pos ys s (Nat.le_refl _) hp p (D.leaf h1) I
end
end HQ
set_option Elab.async false
set_option maxRecDepth 100000
set_option maxHeartbeats 4000000
namespace HQ
open PySem PySem.Spec PyProof.Rows L2 RS
section
variable {X : Cx} {pins : List (Addr × Obj)} {σ : L2.St} {H : Hp} {a : Addr} {zs : List Z} {s : Shared}

theorem heapify_run (hu : X.A.units + 64 < cLine) {res : Value} {R : Result → Shared → Prop} (hz : zs.length ≤ sizeLine) (G : Good X.K H a zs)
    (hend : ∀ s' ys, ys.Perm zs → From ltz zs.length (nth ys) 0 → Inv X pins σ (hp H a ys) s' → R (.ok (.ret res)) s') :
    ∀ (k : Nat) (ys : List Z) (s : Shared), k < zs.length → ys.Perm zs → Down ltz zs.length (nth ys) k k → Inv X pins σ (hp H a ys) s →
      codeAny (model X.prog X.w) X.A (.builtin "_heapq.heapify.sift" ⟨[.ref a, .bool false, .bool true, rawInt k, rawInt k, res, rawInt ((k : Int) - 1)], []⟩) R s := by
  intro k
  induction k with
  | zero =>
    intro ys s hk p D I
    refine down_run hu hz G (fun s' ys' p' F I' => ?_) _ 0 ys s (Nat.le_refl _) hk p D I
    unfold Nx
    rw [if_pos (by decide)]
    exact hend s' ys' p' F I'
  | succ k ih =>
    intro ys s hk p D I
    refine down_run hu hz G (fun s' ys' p' F I' => ?_) _ (k + 1) ys s (Nat.le_refl _) hk p D I
    unfold Nx
    rw [if_neg (by omega)]
    have e : (((k + 1 : Nat) : Int) - 1).toNat = k := by omega
    have e2 : (((k + 1 : Nat) : Int) - 1) - 1 = (k : Int) - 1 := by omega
    rw [e, e2]
    exact ih ys' s' (by omega) p' F.down I'
end
section
variable {X : Cx}
def rHeapify (K : PySem.W.Frag) : List V → Hp → VK → Prop := fun vs H Q => ∃ (a : Addr) (zs : List Z), vs = [.ref a] ∧ H a = some (.lst (zs.map (·.1))) ∧ Good K H a zs ∧ zs.length ≤ 2500 ∧
  ∀ ys : List Z, ys.Perm zs → From ltz ys.length (nth ys) 0 → Q .non (hp H a ys)
theorem hp_self {H : Hp} {a : Addr} {zs : List Z} (h : H a = some (.lst (zs.map (·.1)))) : hp H a zs = H := by
  funext b
  by_cases e : b = a
  · subst e
    exact upd_same.trans h.symm
  · exact upd_ne e
theorem call_heapify (hu : X.A.units + 64 < cLine) : CallR X (.builtin "_heapq.heapify") (rHeapify X.K) := by
  intro pins s σ H xs us Q I r ⟨a, zs, e, hH, G, hl, q⟩
  subst e
  obtain ⟨u, rfl, ru⟩ := r.one
  cases ru
  obtain ⟨z, its, n, r, hl2, e⟩ := I.lstM hH
  rw [List.length_map] at hl2 z
  refine kmk_tree ki_heapify pl_heapify en_heapify (ar_heapify _) ?_
  show wpAny _ X.A.in1 (_ >>= _) _ _ _
  refine wpAny_bind (wpAny_bind (wpAny_pure ?_))
  refine wpAny_bind (wpAny_bind (wpAny_isInstance (T := "list") ⟨_, e, rfl⟩ AutoSeq1.sub_list_list ?_))
  refine wpAny_pure (wpAny_pure ?_)
  show wpAny _ X.A.in1 (_ >>= _) _ _ _
  refine wpAny_bind (wpAny_bind (wpAny_seqItems e rfl (wpAny_pure ?_)))
  have sz : its.toArray.size = zs.length := by rw [List.size_toArray, ← hl2]
  show wpAny _ X.A.in1 (if its.toArray.size > 2500 then _ else _) _ _ _
  rw [sz, if_neg (by omega)]
  show wpAny _ X.A.in1 (if zs.length < 2 then _ else _) _ _ _
  have I0 : Inv X pins σ (hp H a zs) s := by rw [hp_self hH]; exact I
  by_cases h2 : zs.length < 2
  · rw [if_pos h2]
    refine wpAny_pure ?_
    exact ⟨.non, _, I0, rfl, q zs (List.Perm.refl _) (.few h2)⟩
  · rw [if_neg h2]
    refine wpAny_pure ⟨plainId_quiet pl_sift _, ?_⟩
    have e2 : ((zs.length / 2 : Nat) : Int) - 2 = ((zs.length / 2 - 1 : Nat) : Int) - 1 := by omega
    rw [e2]
    have F : From ltz zs.length (nth zs) (zs.length / 2 - 1 + 1) := by
      rw [show zs.length / 2 - 1 + 1 = zs.length / 2 by omega]
      exact .half
    exact heapify_run hu (by omega) G (fun s' ys p F' I' => ⟨.non, _, I', rfl, q ys p (by rw [p.length_eq]; exact F')⟩) (zs.length / 2 - 1) zs s (by omega) (List.Perm.refl _) F.down I0

def rPush (K : PySem.W.Frag) : List V → Hp → VK → Prop := fun vs H Q => ∃ (a : Addr) (zs : List Z) (z : Z), vs = [.ref a, z.1] ∧ H a = some (.lst (zs.map (·.1))) ∧ Good K H a (zs ++ [z]) ∧ zs.length < sizeLine ∧ From ltz zs.length (nth zs) 0 ∧
  ∀ ys : List Z, ys.Perm (zs ++ [z]) → From ltz ys.length (nth ys) 0 → Q .non (hp H a ys)
theorem nth_app {zs ws : List Z} {i : Nat} (h : i < zs.length) : nth (zs ++ ws) i = nth zs i := by
  unfold nth
  rw [List.getD_eq_getElem?_getD, List.getD_eq_getElem?_getD, List.getElem?_append_left h]
theorem call_push (hu : X.A.units + 64 < cLine) : CallR X (.builtin "_heapq.heappush") (rPush X.K) := by
  intro pins s σ H xs us Q I r ⟨a, zs, y, e, hH, G, hl, F, q⟩
  subst e
  obtain ⟨u, v, rfl, ru, rv⟩ := r.two
  cases ru
  obtain ⟨z, its, n, r, hl2, e⟩ := I.lstM hH
  rw [List.length_map] at hl2 z
  refine kmk_tree ki_push pl_push en_push (ar_push _ _) ?_
  show wpAny _ X.A.in1 (_ >>= _) _ _ _
  refine wpAny_bind (wpAny_bind (wpAny_pure ?_))
  refine wpAny_bind (wpAny_of_eq (show checkCount "heappush" 2 2 2 = pure () from rfl) ?_)
  refine wpAny_bind (wpAny_bind (wpAny_isInstance (T := "list") ⟨_, e, rfl⟩ AutoSeq1.sub_list_list ?_))
  refine wpAny_pure (wpAny_pure ?_)
  show wpAny _ X.A.in1 (_ >>= _) _ _ _
  refine wpAny_bind (wpAny_updateSeq e rfl ?_ (by rw [List.size_toArray]; omega) (by rw [Array.size_push, List.size_toArray]; omega))
  have I1 : Inv X pins σ (hp H a (zs ++ [y])) { s with heap := s.heap.update a (Obj.mapSeq fun x => x.push v) } := by
    have q := I.lset (l := a) (ys := (zs ++ [y]).map (·.1)) (its' := its ++ [v]) (f := fun x => x.push v) (t' := s.toks) hH e (by simp) (by rw [List.map_append]; exact r.append (.cons rv .nil)) (by rw [List.length_map, List.length_append, List.length_singleton]; omega)
    exact q
  obtain ⟨_, its2, n2, r2, hl3, e2⟩ := I1.lstM (l := a) (xs := (zs ++ [y]).map (·.1)) upd_same
  rw [List.length_map, List.length_append, List.length_singleton] at hl3
  refine wpAny_bind (wpAny_bind (wpAny_seqItems e2 rfl (wpAny_pure ?_)))
  refine wpAny_pure ⟨plainId_quiet pl_sift _, ?_⟩
  have e3 : its2.toArray.size - 1 = zs.length := by rw [List.size_toArray]; omega
  rw [e3]
  have ln : (zs ++ [y]).length = zs.length + 1 := by rw [List.length_append, List.length_singleton]
  have U : Up ltz (zs ++ [y]).length (nth (zs ++ [y])) 0 zs.length := by
    rw [ln]
    exact F.push fun i hi => nth_app hi
  refine up_run hu (by omega) G (fun s' ys p F' I' => ?_) zs.length zs.length (zs ++ [y]) _ (Nat.le_refl _) (by omega) (List.Perm.refl _) U I1
  unfold Nx
  rw [if_pos (by decide)]
  exact ⟨.non, _, I', rfl, q ys p (by rw [p.length_eq]; exact F')⟩

def rPopH (K : PySem.W.Frag) : List V → Hp → VK → Prop := fun vs H Q => ∃ (a : Addr) (zs : List Z), vs = [.ref a] ∧ H a = some (.lst (zs.map (·.1))) ∧ 0 < zs.length ∧ Good K H a zs ∧ From ltz zs.length (nth zs) 0 ∧
  ∀ (z : Z) (ys : List Z), zs.Perm (z :: ys) → From ltz ys.length (nth ys) 0 → (∀ y ∈ ys, ltz y z = false) → Q z.1 (hp H a ys)
theorem least_all {zs : List Z} {x : Z} {M : List Z} (e : zs = x :: M) (F : From ltz zs.length (nth zs) 0) : ∀ y ∈ zs, ltz y x = false := fun y hy => by
  obtain ⟨i, hi, ei⟩ := List.getElem_of_mem hy
  have q := F.least swo_z i hi
  rw [nth_eq hi, ei] at q
  rw [e] at q
  exact q
theorem snoc_z : ∀ {l : List Z}, 0 < l.length → ∃ M z, l = M ++ [z] := fun h => SrtO.snoc_of h
theorem call_popH (hu : X.A.units + 64 < cLine) : CallR X (.builtin "_heapq.heappop") (rPopH X.K) := by
  intro pins s σ H xs us Q I r ⟨a, zs, e, hH, h0, G, F, q⟩
  subst e
  obtain ⟨u, rfl, ru⟩ := r.one
  cases ru
  obtain ⟨z, its, n, r, hl2, e⟩ := I.lstM hH
  rw [List.length_map] at hl2 z
  obtain ⟨M, y, rfl⟩ := snoc_z h0
  refine kmk_tree ki_pop pl_pop en_pop (ar_pop _) ?_
  show wpAny _ X.A.in1 (_ >>= _) _ _ _
  refine wpAny_bind (wpAny_bind (wpAny_pure ?_))
  refine wpAny_bind (wpAny_bind (wpAny_isInstance (T := "list") ⟨_, e, rfl⟩ AutoSeq1.sub_list_list ?_))
  refine wpAny_pure (wpAny_pure ?_)
  show wpAny _ X.A.in1 (_ >>= _) _ _ _
  refine wpAny_bind (wpAny_bind (wpAny_seqItems e rfl (wpAny_pure ?_)))
  obtain ⟨iM, v, rfl⟩ := SrtO.snoc_of (l := its) (by omega)
  have rM : Vals (M.map (·.1)) iM := by
    have t := r.dropLast
    rw [List.map_append] at t
    simpa using t
  have lM : M.length = iM.length := by simpa using hl2
  have rv : RelV y.1 v := by
    obtain ⟨v', h1, h2⟩ := r.get (i := M.length) (x := y.1) (by simp)
    rw [lM] at h1
    simp at h1
    rw [h1]
    exact h2
  have hb : (iM ++ [v]).toArray.back? = some v := by simp
  rw [hb]
  have zM : (M ++ [y]).length = M.length + 1 := by rw [List.length_append, List.length_singleton]
  have I1 : Inv X pins σ (hp H a M) { s with heap := s.heap.update a (Obj.mapSeq fun x => x.pop) } :=
    I.lset (l := a) (ys := M.map (·.1)) (its' := iM) (f := fun x => x.pop) (t' := s.toks) hH e (by simp) rM (by rw [List.length_map]; omega)
  refine wpAny_bind (wpAny_updateSeq e rfl ?_ (by rw [List.size_toArray]; omega) (by rw [Array.size_pop, List.size_toArray]; omega))
  show wpAny _ X.A.in1 (if ((iM ++ [v]).toArray.size == 1) = true then _ else _) _ _ _
  have sz : (iM ++ [v]).toArray.size = M.length + 1 := by rw [List.size_toArray, ← hl2, zM]
  rw [sz]
  cases M with
  | nil =>
    rw [if_pos (by decide)]
    refine wpAny_pure ?_
    exact ⟨y.1, _, I1, rv, q y [] (List.Perm.refl _) (.few (by decide)) (fun _ h => nomatch h)⟩
  | cons x M =>
    rw [if_neg (by simp)]
    cases rM with
    | cons rx rM' =>
      rename_i u iM'
      have x0 : (u :: iM' ++ [v]).toArray[0]? = some u := rfl
      refine wpAny_bind (at_ (f := pure u) x0 ?_)
      obtain ⟨_, its2, n2, r2, hl3, e2⟩ := I1.lstM (l := a) (xs := (x :: M).map (·.1)) upd_same
      have I2 : Inv X pins σ (hp H a (y :: M)) { s with heap := (s.heap.update a (Obj.mapSeq fun x => x.pop)).update a (Obj.mapSeq fun xs => xs.setIfInBounds 0 v) } := by
        have t := I1.lset (l := a) (ys := (y :: M).map (fun p : Z => p.1)) (its' := its2.set 0 v) (f := fun xs => xs.setIfInBounds 0 v) (t' := s.toks) upd_same e2 (by simp) (show Vals ((y :: M).map (fun p : Z => p.1)) (its2.set 0 v) from r2.set rv 0) (by simp at *; omega)
        rw [upd_upd] at t
        exact t
      have ln : (y :: M).length = (x :: M).length := rfl
      refine wpAny_bind (wpAny_updateSeq e2 rfl ?_ (by rw [List.size_toArray]; simp at *; omega) (by rw [Array.size_setIfInBounds, List.size_toArray]; simp at *; omega))
      refine wpAny_pure ⟨plainId_quiet pl_sift _, ?_⟩
      have pe : (x :: M ++ [y]).Perm (x :: (y :: M)) := (List.perm_append_comm (l₁ := M) (l₂ := [y])).cons x
      have D : Down ltz (y :: M).length (nth (y :: M)) 0 0 := (F.less (m := (y :: M).length) (by simp)).root fun i h1 h2 => by
        cases i with
        | zero => omega
        | succ i => exact (nth_app (zs := x :: M) (ws := [y]) h2).symm
      have Gy : Good X.K H a (y :: M) := G.sub fun t ht => pe.mem_iff.mpr (List.mem_cons_of_mem _ ht)
      refine down_run hu (by simp at *; omega) Gy (fun s' ys p F' I' => ?_) _ 0 (y :: M) _ (Nat.le_refl _) (by simp) (List.Perm.refl _) D I2
      unfold Nx
      rw [if_pos (by decide)]
      exact ⟨x.1, _, I', rx, q x ys (pe.trans ((p.symm).cons x)) (by rw [p.length_eq]; exact F') fun t ht => least_all (zs := x :: M ++ [y]) rfl F t (pe.mem_iff.mpr (List.mem_cons_of_mem _ (p.mem_iff.mp ht)))⟩
end
end HQ
set_option Elab.async false
set_option maxRecDepth 100000
set_option maxHeartbeats 4000000
namespace RS
open PySem PySem.Spec PyProof.Rows L2 GX

/-! ### runs that come of exchanging -/
section
variable {α : Type} {lt : α → α → Bool}
inductive RunTo (lt : α → α → Bool) : List α → List α → List α → List α → List α → Prop
  | done (l : List α) : RunTo lt [] l [] [] l
  | last {g g' r w l : List α} {x : α} (p : g.Perm (x :: g')) (m : ∀ y ∈ g', lt y x = false) (t : RunTo lt g' [] r w l) : RunTo lt g [] (x :: r) w l
  | keep {g g' left r w l : List α} {x e : α} (p : g.Perm (x :: g')) (m : ∀ y ∈ g', lt y x = false) (h : lt e x = false) (t : RunTo lt (e :: g') left r w l) : RunTo lt g (e :: left) (x :: r) w l
  | wait {g g' left r w l : List α} {x e : α} (p : g.Perm (x :: g')) (m : ∀ y ∈ g', lt y x = false) (h : lt e x = true) (t : RunTo lt g' left r w l) : RunTo lt g (e :: left) (x :: r) (e :: w) l
theorem RunTo.perm {g left r w l : List α} (h : RunTo lt g left r w l) : (g ++ left).Perm (r ++ w ++ l) := by
  induction h with
  | done l => exact List.Perm.refl _
  | last p m t ih => exact (p.append_right _).trans (ih.cons _)
  | @keep g g' left r w l x e p m h t ih =>
    refine (p.append_right _).trans ?_
    refine List.Perm.trans ?_ (ih.cons x)
    exact (List.perm_middle (l₁ := g') (a := e) (l₂ := left)).cons x
  | @wait g g' left r w l x e p m h t ih =>
    refine (p.append_right _).trans ?_
    have q : (g' ++ e :: left).Perm (r ++ (e :: w) ++ l) := by
      refine (List.perm_middle (l₁ := g') (a := e) (l₂ := left)).trans ?_
      refine (ih.cons e).trans ?_
      rw [List.append_assoc, List.append_assoc]
      exact (List.perm_middle (l₁ := r) (a := e) (l₂ := w ++ l)).symm
    exact q.cons x
theorem RunTo.len {g left r w l : List α} (h : RunTo lt g left r w l) : l = [] ∨ w.length = g.length := by
  induction h with
  | done l => exact .inr rfl
  | last p m t ih =>
    rcases ih with e | e
    · exact .inl e
    · have h := t.perm.length_eq
      simp only [List.length_append, List.length_nil] at h
      refine .inl (List.length_eq_zero_iff.mp (by omega))
  | keep p m h t ih =>
    rcases ih with e | e
    · exact .inl e
    · right
      rw [e, p.length_eq, List.length_cons, List.length_cons]
  | wait p m h t ih =>
    rcases ih with e | e
    · exact .inl e
    · right
      rw [List.length_cons, e, p.length_eq, List.length_cons]
theorem RunTo.some {g left r w l : List α} (h : RunTo lt g left r w l) (hg : g ≠ []) : 1 ≤ r.length := by
  cases h with
  | done => exact absurd rfl hg
  | last => simp
  | keep => simp
  | wait => simp
theorem perm_head {S : α → Prop} (U : ∀ x y, S x → S y → lt x y = false → lt y x = false → x = y) {g g2 a b : List α} {x y : α} (e : g.Perm g2) (p : g.Perm (x :: a)) (q : g2.Perm (y :: b)) (mx : ∀ z ∈ a, lt z x = false) (my : ∀ z ∈ b, lt z y = false)
    (hS : ∀ z ∈ g, S z) : x = y ∧ a.Perm b := by
  have pq : (x :: a).Perm (y :: b) := p.symm.trans (e.trans q)
  have hx : S x := hS x (p.mem_iff.mpr List.mem_cons_self)
  have hy : S y := hS y (e.mem_iff.mpr (q.mem_iff.mpr List.mem_cons_self))
  have exy : x = y := by
    rcases List.mem_cons.mp (pq.mem_iff.mp (List.mem_cons_self (a := x) (l := a))) with z | z
    · exact z
    · rcases List.mem_cons.mp (pq.mem_iff.mpr (List.mem_cons_self (a := y) (l := b))) with v | v
      · exact v.symm
      · exact U x y hx hy (my x z) (mx y v)
  subst exy
  exact ⟨rfl, List.Perm.cons_inv pq⟩
theorem RunTo.det {S : α → Prop} (U : ∀ x y, S x → S y → lt x y = false → lt y x = false → x = y) {g left r w l : List α} (h : RunTo lt g left r w l) :
    ∀ {g2 r2 w2 l2 : List α}, g.Perm g2 → (∀ z ∈ g, S z) → (∀ z ∈ left, S z) → RunTo lt g2 left r2 w2 l2 → r = r2 ∧ w = w2 ∧ l = l2 := by
  induction h with
  | done l =>
    intro g2 r2 w2 l2 e _ _ h2
    have e2 := e.symm.eq_nil
    subst e2
    cases h2 with
    | done => exact ⟨rfl, rfl, rfl⟩
    | last p => exact absurd p.length_eq (by simp)
    | keep p => exact absurd p.length_eq (by simp)
    | wait p => exact absurd p.length_eq (by simp)
  | last p m t ih =>
    intro g2 r2 w2 l2 e s1 s2 h2
    cases h2 with
    | done => exact absurd (e.symm.trans p).length_eq (by simp)
    | last p2 m2 t2 =>
      obtain ⟨rfl, pa⟩ := perm_head U e p p2 m m2 s1
      obtain ⟨rfl, rfl, rfl⟩ := ih pa (fun z hz => s1 z (p.mem_iff.mpr (List.mem_cons_of_mem _ hz))) s2 t2
      exact ⟨rfl, rfl, rfl⟩
  | keep p m h t ih =>
    intro g2 r2 w2 l2 e s1 s2 h2
    cases h2 with
    | done => exact absurd (e.symm.trans p).length_eq (by simp)
    | keep p2 m2 h2 t2 =>
      obtain ⟨rfl, pa⟩ := perm_head U e p p2 m m2 s1
      obtain ⟨rfl, rfl, rfl⟩ := ih (pa.cons _) (fun z hz => by
        rcases List.mem_cons.mp hz with e | hz
        · rw [e]; exact s2 _ List.mem_cons_self
        · exact s1 z (p.mem_iff.mpr (List.mem_cons_of_mem _ hz))) (fun z hz => s2 z (List.mem_cons_of_mem _ hz)) t2
      exact ⟨rfl, rfl, rfl⟩
    | wait p2 m2 h2 t2 =>
      obtain ⟨rfl, pa⟩ := perm_head U e p p2 m m2 s1
      rw [h] at h2
      cases h2
  | wait p m h t ih =>
    intro g2 r2 w2 l2 e s1 s2 h2
    cases h2 with
    | done => exact absurd (e.symm.trans p).length_eq (by simp)
    | keep p2 m2 h2 t2 =>
      obtain ⟨rfl, pa⟩ := perm_head U e p p2 m m2 s1
      rw [h] at h2
      cases h2
    | wait p2 m2 h2 t2 =>
      obtain ⟨rfl, pa⟩ := perm_head U e p p2 m m2 s1
      obtain ⟨rfl, rfl, rfl⟩ := ih pa (fun z hz => s1 z (p.mem_iff.mpr (List.mem_cons_of_mem _ hz))) (fun z hz => s2 z (List.mem_cons_of_mem _ hz)) t2
      exact ⟨rfl, rfl, rfl⟩
inductive RunsTo (lt : α → α → Bool) : List α → List α → List (List α) → Prop
  | done (left : List α) : RunsTo lt [] left []
  | more {room left r w l : List α} {rs : List (List α)} (hr : room ≠ []) (t : RunTo lt room left r w l) (m : RunsTo lt w l rs) : RunsTo lt room left (r :: rs)
theorem RunsTo.det {S : α → Prop} (U : ∀ x y, S x → S y → lt x y = false → lt y x = false → x = y) {g left : List α} {rs : List (List α)} (h : RunsTo lt g left rs) :
    ∀ {rs2 : List (List α)}, (∀ z ∈ g, S z) → (∀ z ∈ left, S z) → RunsTo lt g left rs2 → rs = rs2 := by
  induction h with
  | done left =>
    intro rs2 _ _ h2
    cases h2 with
    | done => rfl
    | more hr => exact absurd rfl hr
  | @more room left r w l rs hr t m ih =>
    intro rs2 s1 s2 h2
    cases h2 with
    | done => exact absurd rfl hr
    | more hr2 t2 m2 =>
      obtain ⟨rfl, rfl, rfl⟩ := t.det U (List.Perm.refl _) s1 s2 t2
      have all : ∀ z ∈ r ++ w ++ l, S z := fun z hz => by
        rcases List.mem_append.mp (t.perm.mem_iff.mpr hz) with q | q
        · exact s1 z q
        · exact s2 z q
      rw [ih (fun z hz => all z (by simp [hz])) (fun z hz => all z (by simp [hz])) m2]
end

/-! ### which pair goes ahead -/
def before (os : List (Nat × Bool)) (a b : Nat × List PyData) : Bool := HT.lexLt (rankOf os a) (rankOf os b)
theorem swo_before (os : List (Nat × Bool)) : SrtO.Swo (before os) := NtL.swo_lexL (rankOf os)
end RS
set_option Elab.async false
set_option maxRecDepth 100000
set_option maxHeartbeats 4000000
namespace RS
open PySem PySem.Spec PyProof.Rows L2 GX

/-! ### ranks as data -/
def intsD (l : List Int) : PyData := .tuple (l.map .int)
theorem toks_ints : ∀ xs ys : List Int, PyProof.Rows.lexLt PyProof.Rows.itemOrd (PySem.W.keyToksAll (xs.map .int)) (PySem.W.keyToksAll (ys.map .int)) = HT.lexLt xs ys
  | [], [] => by decide
  | [], y :: ys => by
    rw [HT.lexLt_nil_cons]
    exact PyProof.Rows.lex_true.mpr (.inl (by decide))
  | x :: xs, [] => by
    rw [HT.lexLt_cons_nil]
    exact PyProof.Rows.lex_false.mpr ⟨by decide, .inl (by decide)⟩
  | x :: xs, y :: ys => by
    have ih := toks_ints xs ys
    rw [HT.lexLt_cons]
    show PyProof.Rows.lexLt PyProof.Rows.itemOrd (Sum.inl 1 :: Sum.inl x :: PySem.W.keyToksAll (xs.map .int)) (Sum.inl 1 :: Sum.inl y :: PySem.W.keyToksAll (ys.map .int)) = _
    rw [PyProof.Rows.lex_cons, PyProof.Rows.lex_cons]
    show ((decide ((1 : Int) < 1)) || (!(decide ((1 : Int) < 1)) && (decide (x < y) || (!(decide (y < x)) && _)))) = _
    rw [ih]
    by_cases e : x = y
    · subst e
      rw [if_pos rfl]
      simp
    · rw [if_neg e]
      by_cases h : x < y
      · simp [h]
      · have h2 : y < x := by omega
        simp [h, h2]
theorem lt_ints (xs ys : List Int) : PySem.W.dataLt (intsD xs) (intsD ys) = HT.lexLt xs ys := (PySem.W.dataLt_tuple _ _).trans (toks_ints xs ys)
theorem alike_ints : ∀ xs ys : List Int, PySem.W.alikeAll (xs.map .int) (ys.map .int) = true
  | [], _ => by simp [PySem.W.alikeAll]
  | _ :: _, [] => by simp [PySem.W.alikeAll]
  | x :: xs, y :: ys => by simp [PySem.W.alikeAll, PySem.W.alike, alike_ints xs ys]
theorem noL_ints (xs : List Int) : noLs (xs.map .int) = true := noLs_iff.mpr fun d hd => by
  obtain ⟨n, _, rfl⟩ := List.mem_map.mp hd
  rfl
/-- what stands in the heap: the rank and the pair -/
def itemD (os : List (Nat × Bool)) (q : Nat × List PyData) : PyData := .tuple [intsD (rankOf os q), pairD q]
theorem item_le {os : List (Nat × Bool)} {a b : Nat × List PyData} (h : PySem.W.dataLt (itemD os a) (itemD os b) = false) : before os a b = false := by
  have al : PySem.W.alike (intsD (rankOf os a)) (intsD (rankOf os b)) = true := by
    simp [intsD, PySem.W.alike, alike_ints]
  cases e : PyData.eqv (intsD (rankOf os a)) (intsD (rankOf os b)) with
  | true =>
    have t := (PySem.W.toks_eqv _ _ al).1 e
    have q : PySem.W.dataLt (intsD (rankOf os a)) (intsD (rankOf os b)) = false := by
      unfold PySem.W.dataLt
      rw [t]
      exact (PyProof.Rows.listOrd PyProof.Rows.itemOrd).irrefl _
    rw [lt_ints] at q
    exact q
  | false =>
    have t := PySem.W.dataLt_all_no (xs := [pairD a]) (ys := [pairD b]) al e
    rw [lt_ints] at t
    exact t.symm.trans ((PySem.W.dataLt_tuple _ _).symm.trans h)
/-! ### rows that may be compared -/
theorem val_atom {b : Bool} {d : PyData} (h : isVal b d = true) : (b = true ∧ ∃ x, d = .str x) ∨ (b = false ∧ ∃ n, d = .int n) := by
  cases b with
  | true =>
    cases d with
    | str x => exact .inl ⟨rfl, x, rfl⟩
    | _ => simp [isVal, isWord] at h
  | false =>
    cases d with
    | int n => exact .inr ⟨rfl, n, rfl⟩
    | _ => simp [isVal, isNum, isI, isT, tyN] at h
theorem row_alike : ∀ {ks : List Bool} {r r' : List PyData}, (ks.zip r).all (fun p => isVal p.1 p.2) = true → (ks.zip r').all (fun p => isVal p.1 p.2) = true → r.length = ks.length → r'.length = ks.length → PySem.W.alikeAll r r' = true
  | _, [], _, _, _, _, _ => by simp [PySem.W.alikeAll]
  | _, _ :: _, [], _, _, _, _ => by simp [PySem.W.alikeAll]
  | [], _ :: _, _ :: _, _, _, h, _ => by simp at h
  | k :: ks, d :: r, d' :: r', h, h', l, l' => by
    rw [List.zip_cons_cons, List.all_cons, Bool.and_eq_true] at h h'
    have ih := row_alike h.2 h'.2 (by simpa using l) (by simpa using l')
    have q : PySem.W.alike d d' = true := by
      rcases val_atom h.1 with ⟨e, x, rfl⟩ | ⟨e, n, rfl⟩
      · rcases val_atom h'.1 with ⟨_, y, rfl⟩ | ⟨e', _⟩
        · simp [PySem.W.alike]
        · simp only at e e'; rw [e] at e'; cases e'
      · rcases val_atom h'.1 with ⟨e', _⟩ | ⟨_, m, rfl⟩
        · simp only at e e'; rw [e] at e'; cases e'
        · simp [PySem.W.alike]
    simp [PySem.W.alikeAll, q, ih]
theorem isRow_iff {ks : List Bool} {r : List PyData} : isRow ks (.tuple r) = true ↔ r.length = ks.length ∧ (ks.zip r).all (fun p => isVal p.1 p.2) = true := by
  show (decide (r.length = ks.length) && (ks.zip r).all fun p => isVal p.1 p.2) = true ↔ _
  rw [Bool.and_eq_true]
  simp
theorem row_val {ks : List Bool} {r : List PyData} (h : isRow ks (.tuple r) = true) {d : PyData} (hd : d ∈ r) : ∃ b, isVal b d = true := by
  obtain ⟨hl, ha⟩ := isRow_iff.mp h
  obtain ⟨i, hi, rfl⟩ := List.getElem_of_mem hd
  have hi2 : i < ks.length := by omega
  refine ⟨ks[i], List.all_eq_true.mp ha (ks[i], r[i]) ?_⟩
  rw [List.mem_iff_getElem]
  exact ⟨i, by rw [List.length_zip]; omega, by simp⟩
theorem item_alike {ks : List Bool} {os : List (Nat × Bool)} {a b : Nat × List PyData} (ha : isRow ks (.tuple a.2) = true) (hb : isRow ks (.tuple b.2) = true) : PySem.W.alike (itemD os a) (itemD os b) = true := by
  obtain ⟨l1, h1⟩ := isRow_iff.mp ha
  obtain ⟨l2, h2⟩ := isRow_iff.mp hb
  have q := row_alike h1 h2 l1 l2
  simp [itemD, intsD, pairD, PySem.W.alike, PySem.W.alikeAll, alike_ints, q]
theorem pair_noL {ks : List Bool} {a : Nat × List PyData} (ha : isRow ks (.tuple a.2) = true) : noL (pairD a) = true := by
  have q : noLs a.2 = true := noLs_iff.mpr fun d hd => by
    obtain ⟨b, hv⟩ := row_val ha hd
    rcases val_atom hv with ⟨_, x, rfl⟩ | ⟨_, n, rfl⟩ <;> rfl
  simp [pairD, noL, noLs, q]
theorem item_noL {ks : List Bool} {os : List (Nat × Bool)} {a : Nat × List PyData} (ha : isRow ks (.tuple a.2) = true) : noL (itemD os a) = true := by
  have q := pair_noL ha
  simp [itemD, intsD, noL, noLs, q, noL_ints]
theorem item_depth {ks : List Bool} {os : List (Nat × Bool)} {a : Nat × List PyData} (ha : isRow ks (.tuple a.2) = true) : (itemD os a).depth ≤ 60 := by
  have q : PyData.depthAll a.2 = 0 := depth0 fun d hd => by
    obtain ⟨b, hv⟩ := row_val ha hd
    rcases val_atom hv with ⟨_, x, rfl⟩ | ⟨_, n, rfl⟩ <;> simp [PyData.depth]
  have q2 : PyData.depthAll ((rankOf os a).map .int) = 0 := depth0 fun d hd => by
    obtain ⟨n, _, rfl⟩ := List.mem_map.mp hd
    simp [PyData.depth]
  simp [itemD, intsD, pairD, PyData.depth, PyData.depthAll, q, q2]
end RS
set_option Elab.async false
set_option maxRecDepth 100000
set_option maxHeartbeats 4000000
namespace RS
open PySem PySem.Spec PyProof.Rows L2 GX
section
variable {X : Cx}
/-- a, b, c = x, y, z with plain local names -/
def tPar3 (i j l : Nat) (ta : TA) : TS := fun D σ H => ta σ H fun vs H1 => ∃ v w z, vs = [v, w, z] ∧ D.nx (((σ.set i (some v)).set j (some w)).set l (some z)) H1
theorem ps_par3 {i j l : Nat} {x y z : Str} {a b c : Expr} {ta : TA} {px py pz pt pos : Pos} {kt k2 pt2} (hc : X.calm = true) (hN : X.N.Nodup) (hi : X.N[i]? = some x) (hj : X.N[j]? = some y) (hl : X.N[l]? = some z) (hij : i ≠ j) (hil : i ≠ l) (hjl : j ≠ l)
    (hx : X.env.scope.names.lookup x = some .local) (hy : X.env.scope.names.lookup y = some .local) (hz : X.env.scope.names.lookup z = some .local) (ha : PA X [a, b, c] ta)
    (hw : swappedStores [.Tuple [.Name x px, .Name y py, .Name z pz] kt pt] (.Tuple [a, b, c] k2 pt2) X.env = pure (some [x, y, z]))
    (hs : swapsWithSole [.Tuple [.Name x px, .Name y py, .Name z pz] kt pt] (.Tuple [a, b, c] k2 pt2) pos.line X.env = pure false := by rfl) :
    PS X (.Assign [.Tuple [.Name x px, .Name y py, .Name z pz] kt pt] (.Tuple [a, b, c] k2 pt2) pos) (tPar3 i j l ta) := by
  refine ⟨fun pins s σ H D I h => ?_⟩
  rw [exec_Assign_arm]
  refine wpAny_bind (wpAny_standAt ?_)
  rw [hs]
  refine wpAny_bind (wpAny_pure ?_)
  rw [if_neg (by decide)]
  refine wpAny_bind (Tuple_ (thn (ha.run _ pins s σ H _ I h) fun us s1 ⟨vs, H1, I1, r1, q1⟩ => ?_))
  obtain ⟨v, w, q, e1, q1⟩ := q1
  subst e1
  obtain ⟨u1, u2, u3, rfl, rv, rw', rq⟩ : ∃ u1 u2 u3, us = [u1, u2, u3] ∧ RelV v u1 ∧ RelV w u2 ∧ RelV q u3 := by
    cases r1 with
    | cons p q =>
      cases q with
      | cons p' q' =>
        cases q' with
        | cons p2 q2 =>
          cases q2
          exact ⟨_, _, _, rfl, p, p', p2⟩
  refine wpAny_newObj_type ?_ (by show 3 ≤ sizeLine; decide)
  have I2 : Inv X pins σ H1 { s1 with heap := s1.heap.push { cls := .type "tuple", data := .seq [u1, u2, u3].toArray } } := I1.kept (t' := s1.toks) fun b o e => Heap.get?_push_of_some _ e
  rw [hw]
  refine wpAny_bind (wpAny_pure ?_)
  show wpAny (model X.prog X.w) X.A (do rule "assign.swapped-stores"; let items ← unpackItems (.ref s1.heap.objs.size) 3 none; assignInOrder [fun v => bindName X.env z v, fun v => bindName X.env y v, fun v => bindName X.env x v] items.reverse; pure Flow.next) _ _ _
  refine wpAny_bind (wpAny_rule (wpAny_bind (unpackItems_tuple (items := #[u1, u2, u3]) (I.ok.hd hc) (IsTup.new s1.heap _) fun h' hx' => ?_)))
  have I3 := I2.kept (h' := h') (t' := s1.toks) fun b o e => hx' b o (Nat.ne_of_lt (Heap.lt_size e)) e
  show wpAny _ _ (assignInOrder [fun v => bindName X.env z v, fun v => bindName X.env y v, fun v => bindName X.env x v] [u3, u2, u1] >>= fun _ => pure Flow.next) _ _ _
  refine wpAny_bind (assignInOrder_cons (wpAny_bindName (store_ok I3 hN hl (.inl hz) rq (fun s2 I4 => ?_) (.inr hz))))
  refine assignInOrder_cons (wpAny_bindName (store_ok I4 hN hj (.inl hy) rw' (fun s3 I5 => ?_) (.inr hy)))
  refine assignInOrder_cons (wpAny_bindName (store_ok I5 hN hi (.inl hx) rv (fun s4 I6 => assignInOrder_nil (wpAny_pure ?_)) (.inr hx)))
  rw [List.set_comm _ _ (Ne.symm hij), List.set_comm _ _ (Ne.symm hil), List.set_comm _ _ (Ne.symm hjl)] at I6
  exact ⟨_, H1, I6, q1⟩
end
end RS
set_option Elab.async false
set_option maxRecDepth 100000
set_option maxHeartbeats 4000000
namespace RS
open PySem PySem.Spec PyProof.Rows L2 GX
theorem dpAll_drop {K : PySem.W.Frag} {H : Hp} : ∀ {xs : List V} {ds : List PyData}, DpAll K H xs ds → ∀ k : Nat, DpAll K H (xs.drop k) (ds.drop k)
  | _, _, h, 0 => h
  | _, _, .nil, _ + 1 => .nil
  | _, _, .cons _ t, k + 1 => dpAll_drop t k
theorem dpAll_take {K : PySem.W.Frag} {H : Hp} : ∀ {xs : List V} {ds : List PyData}, DpAll K H xs ds → ∀ k : Nat, DpAll K H (xs.take k) (ds.take k)
  | _, _, _, 0 => .nil
  | _, _, .nil, _ + 1 => .nil
  | _, _, .cons h t, k + 1 => .cons h (dpAll_take t k)
/-! ### a target that is an attribute -/
def gFld (K : PySem.W.Frag) (to : TE) (f : Str) : TG := fun v σ H Q => to σ H fun x H2 => ∃ a C dx fs, x = .ref a ∧ H2 a = some (.ins C dx fs) ∧ Cls K C ∧ NoAttr K C f ∧ fs.length < 1000 ∧ Q σ (upd H2 a (.ins C dx (putF f v fs)))
theorem pg_fld {X : Cx} {o : Expr} {f : Str} {pos : Pos} {to : TE} (ho : PE X o to) : PG X (.Attribute o f pos) (gFld X.K to f) := by
  refine ⟨fun pins s σ H v u Q I r h => ?_⟩
  rw [arm_assign_Attribute]
  refine wpAny_bind (wpAny_holding (thn (ho.run pins s σ H _ I h) fun ov s1 ⟨x, H1, I1, r1, a, C, dx, fs, ex, ea, c, n, l, q⟩ => ?_))
  subst ex
  obtain rfl : ov = Value.ref a := r1
  refine wpAny_bind (wpAny_standAt (wpAny_bind (wpAny_holding (setattr_ok I1 ea c n l r fun s2 I2 => ?_))))
  exact wpAny_release ⟨σ, _, I2, q⟩
/-! ### methods as constants of a class -/
structure MetC (P : Program) (w : World) (K : PySem.W.Frag) (mg : Str → Option Value) (base : Heap) (CX : CXT) (k : Nat) (C : Addr) (m : Str) (ps : List Str) (sp : Sp) : Prop where
  ex : ∃ (f : Addr) (fd : FuncData), Cls K C ∧ Meth K C m f ∧ FnOk P w K mg base CX k f fd ps sp ∧ Binds K fd ps []
structure MakC (P : Program) (w : World) (K : PySem.W.Frag) (mg : Str → Option Value) (base : Heap) (CX : CXT) (k : Nat) (x : Str) (C : Addr) (ps : List Str) (sp : Sp) : Prop where
  ex : ∃ (f : Addr) (fd : FuncData), Mk K C f ∧ FnOk P w K mg base CX k f fd ps sp ∧ mg x = some (.ref C) ∧ Binds K fd ps []
section
variable {X : Cx} {CX : CXT} {k j : Nat} {C : Addr} {ps : List Str} {sp : Sp} {E : XK} {x m : Str} {p pos apos : Pos} {e o : Expr} {es : List Expr} {ta : TE} {t : TA}
theorem pe_m {pl : Sem Bool} (c : MetC X.prog X.w X.K X.mg X.base CX k C m ps sp) (hr : Room j X.A) (hk : k ≤ j) (hx : Passes CX X E) (he : PE X o ta) (ha : PA X (e :: es) t)
    (hst : starEach (e :: es) X.env = (false, eval e X.env) :: starEach es X.env := by rfl) (hpl : (backTo pos (starEach es X.env)).any (·.1) = false := by rfl)
    (ht : eval (.Call (.Attribute o m apos) (e :: es) [] pos) X.env = (do
      let ov ← eval o X.env
      standAt apos.atName
      let (f, first) ← holding [ov] (getMethod ov m pl)
      callWith pos f first (backTo pos (starEach (e :: es) X.env)) (backToKw pos (keywordEach [] X.env))) := by rfl) :
    PE X (.Call (.Attribute o m apos) (e :: es) [] pos) (tMeth C m sp [] E ta t) := by
  obtain ⟨f, fd, cl, hm, F, hb⟩ := c.ex
  exact pe_meth he cl hm F (hr.mono hk) hb .nil hx ha hst hpl ht
theorem pe_m0 {pl : Sem Bool} (c : MetC X.prog X.w X.K X.mg X.base CX k C m ps sp) (hr : Room j X.A) (hk : k ≤ j) (hx : Passes CX X E) (he : PE X o ta)
    (ht : eval (.Call (.Attribute o m apos) [] [] pos) X.env = (do
      let ov ← eval o X.env
      standAt apos.atName
      let (f, first) ← holding [ov] (getMethod ov m pl)
      callWith pos f first (backTo pos (starEach [] X.env)) (backToKw pos (keywordEach [] X.env))) := by rfl) :
    PE X (.Call (.Attribute o m apos) [] [] pos) (tMeth C m sp [] E ta tNil) := by
  obtain ⟨f, fd, cl, hm, F, hb⟩ := c.ex
  exact pe_meth0 he cl hm F (hr.mono hk) hb .nil hx ht
theorem pe_mk (c : MakC X.prog X.w X.K X.mg X.base CX k x C ps sp) (hr : Room j X.A) (hk : k + 1 ≤ j) (hg : Gl X x) (hx : Passes CX X E) (ha : PA X (e :: es) t) (hdb : (x == ("__debug__" : Str)) = false := by decide)
    (he : starEach (e :: es) X.env = (false, eval e X.env) :: starEach es X.env := by rfl) (hpl : (backTo pos (starEach es X.env)).any (·.1) = false := by rfl) :
    PE X (.Call (.Name x p) (e :: es) [] pos) (tMake C sp [] E t) := by
  obtain ⟨f, fd, M, F, hm, hb⟩ := c.ex
  exact pe_make M F (hr.mono hk) hg hm hb .nil hx ha hdb he hpl
theorem pe_mk0 (c : MakC X.prog X.w X.K X.mg X.base CX k x C ps sp) (hr : Room j X.A) (hk : k + 1 ≤ j) (hg : Gl X x) (hx : Passes CX X E) (hdb : (x == ("__debug__" : Str)) = false := by decide) :
    PE X (.Call (.Name x p) [] [] pos) (tMake C sp [] E tNil) := by
  obtain ⟨f, fd, M, F, hm, hb⟩ := c.ex
  exact pe_make0 M F (hr.mono hk) hg hm hb .nil hx hdb
end
/-! ### attributes in a list -/
theorem putF_eq {f : Str} {v w : V} {r : List (Str × V)} : putF f v ((f, w) :: r) = (f, v) :: r := if_pos rfl
theorem putF_ne {f g : Str} {v w : V} {r : List (Str × V)} (h : ¬ g = f) : putF f v ((g, w) :: r) = (g, w) :: putF f v r := if_neg h
theorem lk_eq {f : Str} {v : V} {r : List (Str × V)} : ((f, v) :: r).lookup f = some v := by simp [List.lookup]
theorem lk_ne {f g : Str} {v : V} {r : List (Str × V)} (h : ¬ f = g) : ((g, v) :: r).lookup f = r.lookup f := by
  have e : (f == g) = false := beq_eq_false_iff_ne.mpr h
  simp [List.lookup, e]
/-! ### all but lists and instances stays -/
def KpS (H H' : Hp) : Prop := ∀ b o, H b = some o → (∀ xs, o ≠ .lst xs) → (∀ C dx fs, o ≠ .ins C dx fs) → H' b = some o
theorem KpS.of {H H' : Hp} (s : Same H H') : KpS H H' := fun b o e _ _ => s b o e
theorem KpS.trans {H H1 H2 : Hp} (a : KpS H H1) (b : KpS H1 H2) : KpS H H2 := fun c o e n1 n2 => b c o (a c o e n1 n2) n1 n2
theorem KpS.lst {H : Hp} {a : Addr} {xs u : List V} (h : H a = some (.lst xs)) : KpS H (upd H a (.lst u)) := fun b o e n _ => by
  rw [upd_ne (fun z => by rw [z, h] at e; exact n _ (Option.some.inj e).symm)]
  exact e
theorem KpS.ins {H : Hp} {a C dx : Addr} {fs : List (Str × V)} {o' : HO} (h : H a = some (.ins C dx fs)) : KpS H (upd H a o') := fun b o e _ n => by
  rw [upd_ne (fun z => by rw [z, h] at e; exact n _ _ _ (Option.some.inj e).symm)]
  exact e
theorem sqT_kp {K : PySem.W.Frag} {H H' : Hp} {a : Addr} {xs : List V} (k : KpS H H') (h : SqT K H a xs) : SqT K H' a xs := by
  rcases h with (h | ⟨o, h⟩) | h
  · exact .inl (.inl (k _ _ h (fun _ z => by cases z) (fun _ _ _ z => by cases z)))
  · exact .inl (.inr ⟨o, k _ _ h (fun _ z => by cases z) (fun _ _ _ z => by cases z)⟩)
  · exact .inr h
mutual
theorem dp_kp {K : PySem.W.Frag} {H H' : Hp} (k : KpS H H') : ∀ (d : PyData) {v : V}, noL d = true → Dp K H v d → Dp K H' v d
  | .none, _, _, .non => .non
  | .bool b, _, _, .bl _ => .bl b
  | .int i, _, _, .int _ => .int i
  | .str x, _, _, .str _ => .str x
  | .list ds, _, h, _ => by cases h
  | .tuple ds, _, h, .tup q hs => .tup (sqT_kp k q) (dpAll_kp k ds h hs)
  | .dict _, _, h, _ => by cases h
theorem dpAll_kp {K : PySem.W.Frag} {H H' : Hp} (k : KpS H H') : ∀ (ds : List PyData) {vs : List V}, noLs ds = true → DpAll K H vs ds → DpAll K H' vs ds
  | [], _, _, .nil => .nil
  | d :: ds, _, h, .cons q hs => by
    unfold noLs at h
    rw [Bool.and_eq_true] at h
    exact .cons (dp_kp k d h.1 q) (dpAll_kp k ds h.2 hs)
end
/-- a method as it stands -/
structure MethAt (K : PySem.W.Frag) (C : Addr) (m qual : Str) (st : Stmt) (f : Addr) (fd : FuncData) : Prop where
  me : Meth K C m f
  fn : L2.Fun K m qual st f fd
theorem lenF1 {f : Str} {v : V} {fs : List (Str × V)} {n : Nat} (h : fs.length ≤ n) : (putF f v fs).length ≤ n + 1 := Nat.le_trans (length_putF f v fs) (Nat.succ_le_succ h)
theorem lenF {f : Str} {v : V} {fs : List (Str × V)} {n : Nat} (h : fs.length ≤ n) (hn : n + 1 < 1000) : (putF f v fs).length < 1000 := Nat.lt_of_le_of_lt (lenF1 h) hn
end RS
set_option Elab.async false
set_option maxRecDepth 100000
set_option maxHeartbeats 4000000
namespace RS
open PySem PySem.Spec PyProof.Rows L2 GX HQ

/-- what the module took of heapq -/
structure TxtQ (mg : Str → Option Value) : Prop where
  heapify : mg "heapify" = some (.builtin "_heapq.heapify")
  push : mg "heappush" = some (.builtin "_heapq.heappush")
  pop : mg "heappop" = some (.builtin "_heapq.heappop")
theorem perm_unmap {α β : Type} {f : α → β} {x m : List β} (p : x.Perm m) : ∀ l : List α, l.map f = x → ∃ l', l.Perm l' ∧ l'.map f = m := by
  induction p with
  | nil => exact fun l e => ⟨l, .refl _, e⟩
  | cons a p ih =>
    intro l e
    cases l with
    | nil => cases e
    | cons b l =>
      rw [List.map_cons] at e
      injection e with e1 e2
      obtain ⟨l', p', e'⟩ := ih l e2
      exact ⟨b :: l', p'.cons b, by rw [List.map_cons, e1, e']⟩
  | swap a b l0 =>
    intro l e
    cases l with
    | nil => cases e
    | cons c l =>
      cases l with
      | nil => cases e
      | cons d l =>
        rw [List.map_cons, List.map_cons] at e
        injection e with e1 e2
        injection e2 with e2 e3
        exact ⟨d :: c :: l, .swap d c l, by rw [List.map_cons, List.map_cons, e1, e2, e3]⟩
  | trans p q ih1 ih2 =>
    intro l e
    obtain ⟨l1, p1, e1⟩ := ih1 l e
    obtain ⟨l2, p2, e2⟩ := ih2 l1 e1
    exact ⟨l2, p1.trans p2, e2⟩
theorem dpAll_ints {K : PySem.W.Frag} {H : Hp} : ∀ {ns : List Int} {xs : List V}, DpAll K H xs (ns.map .int) → xs = ns.map V.int
  | [], _, .nil => rfl
  | n :: ns, _, .cons h t => by
    cases h
    rw [dpAll_ints t]
    rfl
theorem dp_ints {K : PySem.W.Frag} {H : Hp} {v : V} {ns : List Int} (h : Dp K H v (intsD ns)) : ∃ a, v = .ref a ∧ SqT K H a (ns.map V.int) := by
  cases h with
  | tup q hs => exact ⟨_, rfl, by rw [← dpAll_ints hs]; exact q⟩
theorem ints_dp {K : PySem.W.Frag} {H : Hp} {ns : List Int} {a : Addr} (h : SqT K H a (ns.map V.int)) : Dp K H (.ref a) (intsD ns) := by
  refine .tup h ?_
  clear h
  induction ns with
  | nil => exact .nil
  | cons n ns ih => exact .cons (.int n) ih

theorem pairs_noL {ks : List Bool} {l : List (Nat × List PyData)} (h : ∀ q ∈ l, isRow ks (.tuple q.2) = true) : noLs (l.map pairD) = true := noLs_iff.mpr fun d hd => by
  obtain ⟨q, hq, rfl⟩ := List.mem_map.mp hd
  exact pair_noL (h q hq)
def RowsOk (os : List (Nat × Bool)) (ks : List Bool) (l : List (Nat × List PyData)) : Prop := ∀ q ∈ l, Fits os q.2 ∧ isRow ks (.tuple q.2) = true
theorem RunTo.permL {α : Type} {lt : α → α → Bool} {g g2 left r w l : List α} (e : g2.Perm g) (h : RunTo lt g left r w l) : RunTo lt g2 left r w l := by
  cases h with
  | done =>
    have z := e.eq_nil
    subst z
    exact .done _
  | last p m t => exact .last (e.trans p) m t
  | keep p m h t => exact .keep (e.trans p) m h t
  | wait p m h t => exact .wait (e.trans p) m h t
theorem cutV_from {xs : List V} {k : Nat} (h : k ≤ xs.length) : cutV xs (some (k : Nat)) none = xs.drop k := by
  unfold cutV
  rw [HT.sIx_nat, HT.sIx_none, Nat.min_eq_left h, List.take_of_length_le]
  rw [List.length_drop]
  exact Nat.le_refl _
theorem zmem {α : Type} {f : α → PyData} {zs : List Z} {l : List α} (e : zs.map (·.2) = l.map f) {z : Z} (hz : z ∈ zs) : ∃ q ∈ l, z.2 = f q := by
  have : z.2 ∈ l.map f := by
    rw [← e]
    exact List.mem_map.mpr ⟨z, hz, rfl⟩
  obtain ⟨q, hq, e⟩ := List.mem_map.mp this
  exact ⟨q, hq, e.symm⟩
theorem good_of {K : PySem.W.Frag} {ks : List Bool} {os : List (Nat × Bool)} {H' : Hp} {G : Addr} {zs : List Z} {xs : List V} {l : List (Nat × List PyData)} (hG : H' G = some (.lst xs)) (e : zs.map (·.2) = l.map (itemD os)) (h : ∀ z ∈ zs, Dp K H' z.1 z.2) (ok : ∀ q ∈ l, isRow ks (.tuple q.2) = true) : Good K H' G zs := by
  refine ⟨fun z hz u => ?_, fun z hz => ?_, fun z hz => ?_, fun z hz y hy => ?_⟩
  · obtain ⟨q', hq', e⟩ := zmem e hz
    refine dp_upd hG _ ?_ (h z hz)
    rw [e]
    exact item_noL (ok q' hq')
  · obtain ⟨q', hq', e⟩ := zmem e hz
    rw [e]
    exact fun q => nomatch q
  · obtain ⟨q', hq', e⟩ := zmem e hz
    rw [e]
    exact item_depth (ok q' hq')
  · obtain ⟨q', hq', e1⟩ := zmem e hz
    obtain ⟨q2, hq2, e2⟩ := zmem e hy
    rw [e1, e2]
    exact .inl (item_alike (ok q' hq') (ok q2 hq2))

end RS
set_option Elab.async false
set_option maxRecDepth 100000
set_option maxHeartbeats 4000000
namespace RS
open PySem PySem.Spec PyProof.Rows L2 GX HQ
abbrev Pr := Nat × List PyData
/-! ### the room of an Exchange as it lies in the heap -/
def fldsX (vo : V) (G W : Addr) (vl : V) : List (Str × V) := [("order", vo), ("going", .ref G), ("waiting", .ref W), ("last", vl)]
theorem xog : ¬ (("order" : Str) = "going") := by decide +kernel
theorem xow : ¬ (("order" : Str) = "waiting") := by decide +kernel
theorem xol : ¬ (("order" : Str) = "last") := by decide +kernel
theorem xgo : ¬ (("going" : Str) = "order") := by decide +kernel
theorem xgw : ¬ (("going" : Str) = "waiting") := by decide +kernel
theorem xgl : ¬ (("going" : Str) = "last") := by decide +kernel
theorem xwo : ¬ (("waiting" : Str) = "order") := by decide +kernel
theorem xwg : ¬ (("waiting" : Str) = "going") := by decide +kernel
theorem xwl : ¬ (("waiting" : Str) = "last") := by decide +kernel
theorem xlo : ¬ (("last" : Str) = "order") := by decide +kernel
theorem xlg : ¬ (("last" : Str) = "going") := by decide +kernel
theorem xlw : ¬ (("last" : Str) = "waiting") := by decide +kernel
section
variable {vo vl v : V} {G W G' : Addr}
theorem fx_order : (fldsX vo G W vl).lookup ("order" : Str) = some vo := lk_eq
theorem fx_going : (fldsX vo G W vl).lookup ("going" : Str) = some (.ref G) := (lk_ne xgo).trans lk_eq
theorem fx_waiting : (fldsX vo G W vl).lookup ("waiting" : Str) = some (.ref W) := (lk_ne xwo).trans ((lk_ne xwg).trans lk_eq)
theorem fx_last : (fldsX vo G W vl).lookup ("last" : Str) = some vl := (lk_ne xlo).trans ((lk_ne xlg).trans ((lk_ne xlw).trans lk_eq))
theorem fp_going : putF "going" (.ref G') (fldsX vo G W vl) = fldsX vo G' W vl := by
  unfold fldsX
  rw [putF_ne xog, putF_eq]
theorem fp_waiting : putF "waiting" (.ref G') (fldsX vo G W vl) = fldsX vo G G' vl := by
  unfold fldsX
  rw [putF_ne xow, putF_ne xgw, putF_eq]
theorem fp_last : putF "last" v (fldsX vo G W vl) = fldsX vo G W v := by
  unfold fldsX
  rw [putF_ne xol, putF_ne xgl, putF_ne xwl, putF_eq]
end
/-- a list of items -/
structure LstI (K : PySem.W.Frag) (os : List (Nat × Bool)) (H : Hp) (G : Addr) (zs : List Z) (gq : List Pr) : Prop where
  g : H G = some (.lst (zs.map (·.1)))
  gd : zs.map (·.2) = gq.map (itemD os)
  zd : ∀ z ∈ zs, Dp K H z.1 z.2
def LastV (K : PySem.W.Frag) (os : List (Nat × Bool)) (H : Hp) (vl : V) (lq : Option Pr) : Prop := (vl = .non ∧ lq = none) ∨ ∃ l a, lq = some l ∧ vl = .ref a ∧ SqT K H a ((rankOf os l).map V.int)
structure ExAt (K : PySem.W.Frag) (C : Addr) (ks : List Bool) (os : List (Nat × Bool)) (H0 H : Hp) (x G W : Addr) (gq ww : List Pr) (lq : Option Pr) : Prop where
  same : Same H0 H
  x0 : H0 x = none
  g0 : H0 G = none
  w0 : H0 W = none
  gw : G ≠ W
  oz : os.length ≤ 1000
  ob : ∃ dx vo vl, H x = some (.ins C dx (fldsX vo G W vl)) ∧ Dp K H0 vo (orderD os) ∧ LastV K os H vl lq
  g : ∃ zs : List Z, LstI K os H G zs gq ∧ From ltz zs.length (nth zs) 0
  w : ∃ zs : List Z, LstI K os H W zs ww
  gok : RowsOk os ks gq
  wok : RowsOk os ks ww
/-- all but x, G and W stays -/
def Frx (H H' : Hp) (x G W : Addr) : Prop := ∀ b o, H b = some o → b ≠ x → b ≠ G → b ≠ W → H' b = some o
section
variable {K : PySem.W.Frag} {C : Addr} {ks : List Bool} {os : List (Nat × Bool)} {H0 H H2 : Hp} {x G W : Addr} {zs : List Z} {gq ww : List Pr} {lq : Option Pr} {vl : V}
theorem Frx.refl : Frx H H x G W := fun _ _ e _ _ _ => e
theorem Frx.trans {H1 : Hp} (a : Frx H H1 x G W) (b : Frx H1 H2 x G W) : Frx H H2 x G W := fun c o e n1 n2 n3 => b c o (a c o e n1 n2 n3) n1 n2 n3
theorem Frx.of (s : Same H H2) : Frx H H2 x G W := fun c o e _ _ _ => s c o e
theorem Frx.updG {o : HO} : Frx H (upd H G o) x G W := fun c o e _ n _ => (upd_ne n).trans e
theorem Frx.updW {o : HO} : Frx H (upd H W o) x G W := fun c o e _ _ n => (upd_ne n).trans e
theorem Frx.updx {o : HO} : Frx H (upd H x o) x G W := fun c o e n _ _ => (upd_ne n).trans e
theorem LstI.len (h : LstI K os H G zs gq) : zs.length = gq.length := by
  have := congrArg List.length h.gd
  simpa using this
theorem LstI.zq (h : LstI K os H G zs gq) {z : Z} (hz : z ∈ zs) : ∃ q ∈ gq, z.2 = itemD os q := zmem h.gd hz
theorem LstI.move (h : LstI K os H G zs gq) (ok : RowsOk os ks gq) (k : KpS H H2) (e : H2 G = some (.lst (zs.map (·.1)))) : LstI K os H2 G zs gq := ⟨e, h.gd, fun z hz => by
  obtain ⟨q, hq, e'⟩ := h.zq hz
  exact dp_kp k _ (by rw [e']; exact item_noL (ok q hq).2) (h.zd z hz)⟩
theorem LstI.good (h : LstI K os H G zs gq) (ok : RowsOk os ks gq) : HQ.Good K H G zs := good_of h.g h.gd h.zd fun q hq => (ok q hq).2
theorem LstI.put (h : LstI K os H G zs gq) {u : V} {q : Pr} (hu : Dp K H u (itemD os q)) (ok : RowsOk os ks gq) (hq : isRow ks (.tuple q.2) = true) : LstI K os (upd H G (.lst ((zs ++ [(u, itemD os q)]).map (·.1)))) G (zs ++ [(u, itemD os q)]) (gq ++ [q]) := by
  refine ⟨upd_same, by rw [List.map_append, h.gd, List.map_append]; rfl, fun z hz => ?_⟩
  rcases List.mem_append.mp hz with hz | hz
  · obtain ⟨q', hq', e⟩ := h.zq hz
    exact dp_upd h.g _ (by rw [e]; exact item_noL (ok q' hq').2) (h.zd z hz)
  · rw [List.mem_singleton.mp hz]
    exact dp_upd h.g _ (item_noL hq) hu
theorem LastV.move (h : LastV K os H vl lq) (k : KpS H H2) : LastV K os H2 vl lq := by
  rcases h with h | ⟨l, a, e1, e2, h⟩
  · exact .inl h
  · exact .inr ⟨l, a, e1, e2, sqT_kp k h⟩
theorem ExAt.kp (h : ExAt K C ks os H0 H x G W gq ww lq) (f : Frx H H2 x G W) : KpS H H2 := fun b o e n1 n2 => by
  obtain ⟨dx, vo, vl, hx, _⟩ := h.ob
  obtain ⟨zs, hg, _⟩ := h.g
  obtain ⟨zw, hw⟩ := h.w
  exact f b o e (fun z => by rw [z, hx] at e; exact n2 _ _ _ (Option.some.inj e).symm) (fun z => by rw [z, hg.g] at e; exact n1 _ (Option.some.inj e).symm) (fun z => by rw [z, hw.g] at e; exact n1 _ (Option.some.inj e).symm)
theorem ExAt.same2 (h : ExAt K C ks os H0 H x G W gq ww lq) (f : Frx H H2 x G W) : Same H0 H2 := fun b o e => f b o (h.same b o e) (ne_of_none e h.x0) (ne_of_none e h.g0) (ne_of_none e h.w0)
/-- other things come or change -/
theorem ExAt.grow (h : ExAt K C ks os H0 H x G W gq ww lq) (s : Same H H2) : ExAt K C ks os H0 H2 x G W gq ww lq := by
  obtain ⟨dx, vo, vl, hx, ho, hl⟩ := h.ob
  obtain ⟨zs, hg, F⟩ := h.g
  obtain ⟨zw, hw⟩ := h.w
  exact ⟨h.same.trans s, h.x0, h.g0, h.w0, h.gw, h.oz, ⟨dx, vo, vl, s _ _ hx, ho, hl.move (.of s)⟩, ⟨zs, hg.move h.gok (.of s) (s _ _ hg.g), F⟩, ⟨zw, hw.move h.wok (.of s) (s _ _ hw.g)⟩, h.gok, h.wok⟩
theorem ExAt.nex (h : ExAt K C ks os H0 H x G W gq ww lq) {a : Addr} {xs : List V} (e : H a = some (.lst xs)) : a ≠ x := fun z => by
  obtain ⟨dx, vo, vl, hx, _⟩ := h.ob
  rw [z, hx] at e
  cases e
theorem ExAt.upd_ (h : ExAt K C ks os H0 H x G W gq ww lq) {a : Addr} {xs u : List V} (e : H a = some (.lst xs)) (h0 : H0 a = none) (nG : a ≠ G) (nW : a ≠ W) : ExAt K C ks os H0 (upd H a (.lst u)) x G W gq ww lq := by
  obtain ⟨dx, vo, vl, hx, ho, hl⟩ := h.ob
  obtain ⟨zs, hg, F⟩ := h.g
  obtain ⟨zw, hw⟩ := h.w
  have k : KpS H (upd H a (.lst u)) := .lst e
  exact ⟨fun b o q => (upd_ne (ne_of_none q h0)).trans (h.same b o q), h.x0, h.g0, h.w0, h.gw, h.oz, ⟨dx, vo, vl, (upd_ne (Ne.symm (h.nex e))).trans hx, ho, hl.move k⟩, ⟨zs, hg.move h.gok k ((upd_ne (Ne.symm nG)).trans hg.g), F⟩, ⟨zw, hw.move h.wok k ((upd_ne (Ne.symm nW)).trans hw.g)⟩, h.gok, h.wok⟩
/-- a new one -/
theorem ExAt.new {dx : Addr} {vo : V} (s : Same H0 H) (x0 : H0 x = none) (g0 : H0 G = none) (w0 : H0 W = none) (gw : G ≠ W) (oz : os.length ≤ 1000) (ho : Dp K H0 vo (orderD os)) (hx : H x = some (.ins C dx (fldsX vo G W .non))) (hg : H G = some (.lst [])) (hw : H W = some (.lst [])) :
    ExAt K C ks os H0 H x G W [] [] none :=
  ⟨s, x0, g0, w0, gw, oz, ⟨dx, vo, .non, hx, ho, .inl ⟨rfl, rfl⟩⟩, ⟨[], ⟨hg, rfl, fun _ h => nomatch h⟩, .few (by decide)⟩, ⟨[], hw, rfl, fun _ h => nomatch h⟩, (fun _ h => nomatch h), (fun _ h => nomatch h)⟩
end
/-! ### the promises -/
def spXInit (C : Addr) : Sp := fun vs H Q _ => ∃ (x dx : Addr) (vo : V), vs = [.ref x, vo] ∧ H x = some (.ins C dx []) ∧
  ∀ (H' : Hp) (G W : Addr), H G = none → H W = none → G ≠ W → H' x = some (.ins C dx (fldsX vo G W .non)) → H' G = some (.lst []) → H' W = some (.lst []) → (∀ b o, H b = some o → b ≠ x → H' b = some o) → Q .non H'
def Into (lt : Pr → Pr → Bool) (lq : Option Pr) (q : Pr) (gq ww gq' ww' : List Pr) : Prop :=
  (∃ l, lq = some l ∧ lt q l = true ∧ gq' = gq ∧ ww' = ww ++ [q]) ∨ ((∀ l, lq = some l → lt q l = false) ∧ gq'.Perm (q :: gq) ∧ ww' = ww)
def spLetIn (K : PySem.W.Frag) (C : Addr) : Sp := fun vs H Q _ => ∃ (x G W : Addr) (vt : V) (ks : List Bool) (os : List (Nat × Bool)) (H0 : Hp) (gq ww : List Pr) (lq : Option Pr) (q : Pr), vs = [.ref x, vt] ∧ ExAt K C ks os H0 H x G W gq ww lq ∧ Dp K H vt (pairD q) ∧ Fits os q.2 ∧ isRow ks (.tuple q.2) = true ∧ gq.length + ww.length ≤ 900 ∧
  ∀ (H' : Hp) (gq' ww' : List Pr), ExAt K C ks os H0 H' x G W gq' ww' lq → Into (before os) lq q gq ww gq' ww' → Frx H H' x G W → Q .non H'
def spLetOut (K : PySem.W.Frag) (C : Addr) : Sp := fun vs H Q _ => ∃ (x G W : Addr) (ks : List Bool) (os : List (Nat × Bool)) (H0 : Hp) (gq ww : List Pr) (lq : Option Pr), vs = [.ref x] ∧ ExAt K C ks os H0 H x G W gq ww lq ∧ gq ≠ [] ∧
  ∀ (H' : Hp) (v : V) (q : Pr) (gq' : List Pr), ExAt K C ks os H0 H' x G W gq' ww (some q) → gq.Perm (q :: gq') → (∀ y ∈ gq', before os y q = false) → Dp K H' v (pairD q) → Frx H H' x G W → Q v H'
def spIsOver (K : PySem.W.Frag) (C : Addr) : Sp := fun vs H Q _ => ∃ (x G W : Addr) (ks : List Bool) (os : List (Nat × Bool)) (H0 : Hp) (gq ww : List Pr) (lq : Option Pr), vs = [.ref x] ∧ ExAt K C ks os H0 H x G W gq ww lq ∧ Q (.bl gq.isEmpty) H
def spHolds (K : PySem.W.Frag) (C : Addr) : Sp := fun vs H Q _ => ∃ (x G W : Addr) (ks : List Bool) (os : List (Nat × Bool)) (H0 : Hp) (gq ww : List Pr) (lq : Option Pr), vs = [.ref x] ∧ ExAt K C ks os H0 H x G W gq ww lq ∧ Q (.int ((gq.length + ww.length : Nat) : Int)) H
def spNext (K : PySem.W.Frag) (C : Addr) : Sp := fun vs H Q _ => ∃ (x G W : Addr) (ks : List Bool) (os : List (Nat × Bool)) (H0 : Hp) (gq ww : List Pr) (lq : Option Pr), vs = [.ref x] ∧ ExAt K C ks os H0 H x G W gq ww lq ∧ ww.length ≤ 1000 ∧
  ∀ (H' : Hp) (W' : Addr) (gq' : List Pr), ExAt K C ks os H0 H' x W W' gq' [] none → gq'.Perm ww → H W' = none → Frx H H' x G W → Q .non H'
/-- the class as the top has made it -/
structure TxX (K : PySem.W.Frag) (C : Addr) : Prop where
  cl : Cls K C
  nO : NoAttr K C "order"
  nG : NoAttr K C "going"
  nW : NoAttr K C "waiting"
  nL : NoAttr K C "last"
theorem dpAll_take' {K : PySem.W.Frag} {H : Hp} {xs : List V} {ds : List (Nat × List PyData)} (h : DpAll K H xs (ds.map pairD)) (n : Nat) : DpAll K H (xs.take n) ((ds.take n).map pairD) := by
  rw [List.map_take]
  exact dpAll_take h n
theorem dpAll_drop' {K : PySem.W.Frag} {H : Hp} {xs : List V} {ds : List (Nat × List PyData)} (h : DpAll K H xs (ds.map pairD)) (n : Nat) : DpAll K H (xs.drop n) ((ds.drop n).map pairD) := by
  rw [List.map_drop]
  exact dpAll_drop h n
theorem row_fits {ks : List Bool} {os : List (Nat × Bool)} {r : List PyData} (h : isRow ks (.tuple r) = true) (o : OkOrder ks.length os) : Fits os r := fun p hp => by
  obtain ⟨hl, ha⟩ := isRow_iff.mp h
  have h1 := o.col p hp
  have h2 : p.1 < r.length := by omega
  obtain ⟨b, hv⟩ := row_val h (List.getElem_mem h2)
  exact ⟨b, _, List.getElem?_eq_getElem h2, hv⟩
theorem enumP_mem {α : Type} {l : List α} {k : Nat} {q : Nat × α} (h : q ∈ enumP k l) : q.2 ∈ l := by
  obtain ⟨i, hi, e⟩ := List.getElem_of_mem h
  have e2 : (enumP k l)[i]? = some q := by rw [List.getElem?_eq_getElem hi, e]
  rw [enumP_get] at e2
  cases q' : l[i]? with
  | none => rw [q'] at e2; cases e2
  | some x =>
    rw [q'] at e2
    cases e2
    exact List.mem_of_getElem? q'
end RS
set_option Elab.async false
set_option maxRecDepth 100000
set_option maxHeartbeats 4000000
namespace RS
open PySem PySem.Spec PyProof.Rows L2 GX
/-- a new object in a heap that differs by the drawer -/
theorem al {B L e : Addr} {H H1 : Hp} {o : HO} (s : SameX B L H H1) (hb : BoxAt H B L) (b : BoxAt H1 B L) (he : H1 e = none) : SameX B L H (upd H1 e o) ∧ BoxAt (upd H1 e o) B L ∧ e ≠ B ∧ e ≠ L := by
  obtain ⟨n1, n2⟩ := b.nb he
  exact ⟨s.new (s.free hb he b), b.upd_ n1 n2, n1, n2⟩
theorem joinL_nil : ∀ ps : List (List Nat), TL.joinL [] ps = ps.flatten
  | [] => rfl
  | [p] => by simp [TL.joinL]
  | p :: q :: r => by
    show p ++ ([] ++ TL.joinL [] (q :: r)) = _
    rw [joinL_nil (q :: r), List.nil_append, List.flatten_cons, List.flatten_cons, List.flatten_cons]
def oneS (c : Nat) : Str := ⟨#[c]⟩
theorem flat_one : ∀ cs : List Nat, (cs.map (TL.tl ∘ oneS)).flatten = cs
  | [] => rfl
  | c :: cs => by
    rw [List.map_cons, List.flatten_cons, flat_one cs]
    rfl
theorem join_signs (cs : List Nat) : (Txt.join (Str.ofString "") (cs.map oneS)).cps.toList = cs := by
  have e := TL.tl_join (Str.ofString "") (cs.map oneS)
  rw [← TL.join_eq] at e
  have e2 : TL.tl (Str.ofString "") = [] := by decide +kernel
  rw [e2, joinL_nil, List.map_map, flat_one] at e
  exact e
theorem sum_ones : ∀ cs : List Nat, ((cs.map oneS).map (·.length)).sum = cs.length
  | [] => rfl
  | c :: cs => by
    rw [List.map_cons, List.map_cons, List.sum_cons, sum_ones cs]
    show 1 + cs.length = cs.length + 1
    omega
section
variable {P : Program} {w : World} {K : PySem.W.Frag} {mg : Str → Option Value} {base : Heap}
theorem scValue : FnScope ["_law_box", "_law_kind", "_law_many", "_law_letters", "_law_k"] ["_law_box", "_law_kind"] (defScope sValue) := ⟨rfl, rfl, rfl, by decide +kernel, rfl, by decide +kernel, by decide +kernel⟩
def spValueL (K : PySem.W.Frag) : Sp := fun vs H Q _ => ∃ (B L : Addr) (b : Bool), vs = [.ref B, .str (kindS b)] ∧ BoxAt H B L ∧
  ∀ (H' : Hp) (v : V) (d : PyData), SameX B L H H' → BoxAt H' B L → isVal b d = true → Dp K H' v d → Q v H'
theorem letters_ok {k : Int} (h0 : 0 ≤ k) (h1 : k < 2) : ∃ z : Str, atI [V.str "abz", V.str "abcdefghijklmnopqrstuvwxyz"] k = some (.str z) ∧ 1 ≤ z.length ∧ z.length ≤ 26 ∧ ∀ c ∈ z.cps.toList, signOk c = true := by
  rcases (by omega : k = 0 ∨ k = 1) with e | e
  · subst e
    exact ⟨_, atI_nat (j := 0) rfl, by decide +kernel, by decide +kernel, by decide +kernel⟩
  · subst e
    exact ⟨_, atI_nat (j := 1) rfl, by decide +kernel, by decide +kernel, by decide +kernel⟩
theorem num_isVal {n : Int} (h1 : -999 ≤ n) (h2 : n ≤ 999) : isVal false (.int n) = true := by
  simp [isVal, isNum, inBand, isI, isT, tyN, h1, h2]
theorem word_isVal {x : Str} (h : x.length ≤ 6) (ok : ∀ c ∈ x.cps.toList, signOk c = true) : isVal true (.str x) = true := by
  show (decide ((x.length : Int) ≤ 6) && x.cps.toList.all signOk) = true
  rw [Bool.and_eq_true]
  exact ⟨decide_eq_true (by omega), List.all_eq_true.mpr ok⟩
theorem value_ok {c : Addr} (D : DefAt K mg "_law_value" sValue c) (T : Txt K mg) (cT : Cal P w K mg base CX0 1 "_law_take" ["_law_box", "_law_many"] spTake) : Cal P w K mg base CX0 2 "_law_value" ["_law_box", "_law_kind"] (spValueL K) := by
  have sc := scValue
  refine def_ok0 D sc (fun vs H Q E h => ?_) (fun _ _ _ _ _ _ us hl => match us, hl with | [_, _], _ => rfl) (fun f A outer s H vs Q E hr h => ?_)
  · obtain ⟨B, L, b, rfl, _⟩ := h
    rfl
  · obtain ⟨B, L, b, rfl, hb, k⟩ := h
    refine ⟨_, (pss_cons (ps_if (pt_cmpR op_eq (pv 1) pe_str (nomark _)) (pss_one (ps_ret (pe_ix ix_list (pe_lst (pa_cons (pe_c cT hr (by decide) (by rfl) pass0 (pa_cons (pv 0) (pa_cons pe_int pa_nil))) (pa_cons (pe_op op_sub (pe_c cT hr (by decide) (by rfl) pass0 (pa_cons (pv 0) (pa_cons pe_int pa_nil))) pe_int) (pa_cons (pe_ix ix_list (pe_lst (pa_cons (pe_un un_neg pe_int) (pa_cons pe_int (pa_cons pe_int pa_nil)))) (pe_c cT hr (by decide) (by rfl) pass0 (pa_cons (pv 0) (pa_cons pe_int pa_nil))) (fun _ _ => rfl)) pa_nil)))) (pe_c cT hr (by decide) (by rfl) pass0 (pa_cons (pv 0) (pa_cons pe_int pa_nil))) (fun _ _ => rfl)))) pss_nil) (pss_cons (ps_set (i := 2) sc.nd rfl (Or.inl rfl) (pe_c cT hr (by decide) (by rfl) pass0 (pa_cons (pv 0) (pa_cons (pe_ix ix_list (pe_lst (pa_cons pe_int (pa_cons pe_int pa_nil))) (pe_c cT hr (by decide) (by rfl) pass0 (pa_cons (pv 0) (pa_cons pe_int pa_nil))) (fun _ _ => rfl)) pa_nil)))) (pss_cons (ps_set (i := 3) sc.nd rfl (Or.inr rfl) (pe_ix ix_list (pe_lst (pa_cons pe_str (pa_cons pe_str pa_nil))) (pe_c cT hr (by decide) (by rfl) pass0 (pa_cons (pv 0) (pa_cons pe_int pa_nil))) (fun _ _ => rfl))) (pss_one (ps_ret (pe_bm PySem.F.plainAttrs_str PySem.F.slot_str_join PySem.F.type_str_join mt_join pe_str (pa_cons (pe_lc (own := [("_law_k", 4)]) (tt := tYes)  rfl sc.nd (pi_range1 (by rfl) T.range (pa_cons (pv 2) pa_nil)) (blkOk_by (N := ["_law_box", "_law_kind", "_law_many", "_law_letters", "_law_k"]) (sc := defScope sValue) (own := [("_law_k", 4)]) (by decide +kernel)) (fun _ _ _ _ _ => (pg_name (i := 4) sc.nd rfl (Or.inl rfl))) (fun _ _ _ _ _ => pts_nil) (fun _ _ _ _ _ => pe_ix ix_str (pv 3) (pe_c cT hr (by decide) (by rfl) pass0 (pa_cons (pv 0) (pa_cons (pe_callB call_len_str (by rfl) T.len PySem.boot_len (pa_cons (pv 3) pa_nil)) pa_nil))) (fun _ _ => rfl))) pa_nil))))))), ?_⟩
    refine ⟨_, rfl, rfl, _, rfl, ?_⟩
    have ek : decide (V.str (kindS b) = V.str "number") = !b := by cases b <;> decide +kernel
    rw [ek]
    cases b with
    | false =>
      refine iteT ⟨_, rfl, B, L, 4, rfl, hb, by decide, by decide, fun H1 n1 s1 b1 a0 a1 => ?_⟩
      refine ⟨_, rfl, B, L, 1999, rfl, b1, by decide, by decide, fun H2 n2 s2 b2 c0 c1 => ?_⟩
      refine ⟨_, _, rfl, rfl, _, rfl, by show 3 ≤ sizeLine; decide, fun e1 he1 => ?_⟩
      have s12 := s1.trans s2
      obtain ⟨s3, b3, ne1, ne2⟩ := al (o := .lst [.int (-999), .int 999, .int 0]) s12 hb b2 he1
      refine ⟨_, rfl, B, L, 3, rfl, b3, by decide, by decide, fun H3 n3 s4 b4 d0 d1 => ?_⟩
      obtain ⟨w3, hw3, lo3, hi3⟩ : ∃ w3 : Int, atI [V.int (-999), V.int 999, V.int 0] n3 = some (.int w3) ∧ -999 ≤ w3 ∧ w3 ≤ 999 := by
        rcases (by omega : n3 = 0 ∨ n3 = 1 ∨ n3 = 2) with e | e | e
        · subst e; exact ⟨_, atI_nat (j := 0) rfl, by decide, by decide⟩
        · subst e; exact ⟨_, atI_nat (j := 1) rfl, by decide, by decide⟩
        · subst e; exact ⟨_, atI_nat (j := 2) rfl, by decide, by decide⟩
      refine ⟨e1, _, n3, _, rfl, rfl, SqL.of (s4 _ _ ne1 ne2 upd_same), hw3, by show 3 ≤ sizeLine; decide, fun e2 he2 => ?_⟩
      obtain ⟨s5, b5, me1, me2⟩ := al (o := .lst [.int n1, .int (n2 - 999), .int w3]) (s3.trans s4) hb b4 he2
      refine ⟨_, rfl, B, L, 3, rfl, b5, by decide, by decide, fun H4 n4 s6 b6 f0 f1 => ?_⟩
      obtain ⟨w4, hw4, lo4, hi4⟩ : ∃ w4 : Int, atI [V.int n1, V.int (n2 - 999), V.int w3] n4 = some (.int w4) ∧ -999 ≤ w4 ∧ w4 ≤ 999 := by
        rcases (by omega : n4 = 0 ∨ n4 = 1 ∨ n4 = 2) with e | e | e
        · subst e; exact ⟨_, atI_nat (j := 0) rfl, by omega, by omega⟩
        · subst e; exact ⟨_, atI_nat (j := 1) rfl, by omega, by omega⟩
        · subst e; exact ⟨_, atI_nat (j := 2) rfl, by omega, by omega⟩
      exact ⟨e2, _, n4, _, rfl, rfl, SqL.of (s6 _ _ me1 me2 upd_same), hw4, k _ _ (.int w4) (s5.trans s6) b6 (num_isVal lo4 hi4) (.int w4)⟩
    | true =>
      refine iteF ⟨_, rfl, by show 2 ≤ sizeLine; decide, fun e1 he1 => ?_⟩
      obtain ⟨s1, b1, ne1, ne2⟩ := al (o := .lst [.int 3, .int 7]) SameX.refl hb hb he1
      refine ⟨_, rfl, B, L, 2, rfl, b1, by decide, by decide, fun H1 n1 s2 b2 a0 a1 => ?_⟩
      obtain ⟨w1, hw1, lo1, hi1⟩ : ∃ w1 : Int, atI [V.int 3, V.int 7] n1 = some (.int w1) ∧ 1 ≤ w1 ∧ w1 ≤ 7 := by
        rcases (by omega : n1 = 0 ∨ n1 = 1) with e | e
        · subst e; exact ⟨_, atI_nat (j := 0) rfl, by decide, by decide⟩
        · subst e; exact ⟨_, atI_nat (j := 1) rfl, by decide, by decide⟩
      refine ⟨e1, _, n1, _, rfl, rfl, SqL.of (s2 _ _ ne1 ne2 upd_same), hw1, B, L, w1, rfl, b2, by omega, by omega, fun H2 n2 s3 b3 c0 c1 => ?_⟩
      have sA := (s1.trans s2).trans s3
      refine ⟨by show 2 ≤ sizeLine; decide, fun e2 he2 => ?_⟩
      obtain ⟨s4, b4, me1, me2⟩ := al (o := .lst [.str "abz", .str "abcdefghijklmnopqrstuvwxyz"]) sA hb b3 he2
      refine ⟨_, rfl, B, L, 2, rfl, b4, by decide, by decide, fun H3 n3 s5 b5 d0 d1 => ?_⟩
      obtain ⟨z, hz, z1, z26, zok⟩ := letters_ok d0 d1
      have big : (26 : Nat) ≤ sizeLine := by decide
      refine ⟨e2, _, n3, _, rfl, rfl, SqL.of (s5 _ _ me1 me2 upd_same), hz, ?_⟩
      have sB := s4.trans s5
      refine ⟨rfl, _, rfl, _, rfl, by omega, by omega, fun DD hD => ?_⟩
      obtain ⟨s6, b6, nDB, nDL⟩ := al (o := .lst []) sB hb b5 hD
      have hD0 := sB.free hb hD b5
      refine lc_range (fun i H' => SameX B L H H' ∧ BoxAt H' B L ∧ ∃ cs : List Nat, cs.length = i ∧ (∀ c ∈ cs, signOk c = true) ∧ H' DD = some (.lst (cs.map fun c => V.str (oneS c)))) ⟨s6, b6, [], rfl, (fun _ h => nomatch h), upd_same⟩ ?_ ?_
      · rintro i H4 hi ⟨s7, b7, cs, lc, okc, hl⟩
        refine ⟨rfl, _, rfl, _, rfl, _, rfl, z, rfl, by omega, B, L, _, rfl, b7, by omega, by omega, fun H5 n5 s8 b8 f0 f1 => ?_⟩
        obtain ⟨kn, rfl⟩ : ∃ kn : Nat, n5 = (kn : Int) := ⟨n5.toNat, by omega⟩
        have hkn : kn < z.cps.toList.length := by rw [len_cps]; omega
        refine ⟨z, _, z.cps.toList[kn], rfl, rfl, by omega, atI_nat (List.getElem?_eq_getElem hkn), ?_⟩
        refine ⟨_, s8 _ _ nDB nDL hl, small1000 (by rw [List.length_map]; omega), (s7.trans s8).new hD0, b8.upd_ nDB nDL, cs ++ [z.cps.toList[kn]], by rw [List.length_append, lc]; rfl, fun c hc => ?_, ?_⟩
        · rcases List.mem_append.mp hc with hc | hc
          · exact okc c hc
          · rw [List.mem_singleton.mp hc]
            exact zok _ (List.getElem_mem hkn)
        · rw [upd_same, List.map_append]
          rfl
      · rintro H4 ⟨s7, b7, cs, lc, okc, hl⟩
        have js := join_signs cs
        refine ⟨_, DD, cs.map oneS, rfl, rfl, .inl (SqL.of (by rw [List.map_map]; exact hl)), ?_, ?_⟩
        · rw [sum_ones, List.length_map]
          have e0 : (Str.ofString "").length = 0 := by decide +kernel
          show cs.length + cs.length * (Str.ofString "").length ≤ 16777216
          rw [e0]
          omega
        · refine k _ _ (.str _) s7 b7 (word_isVal ?_ ?_) (.str _)
          · rw [← len_cps, js]
            omega
          · rw [js]
            exact okc
end
end RS
set_option Elab.async false
set_option maxRecDepth 100000
set_option maxHeartbeats 4000000
namespace RS
open PySem PySem.Spec PyProof.Rows L2 GX
section
variable {P : Program} {w : World} {K : PySem.W.Frag} {mg : Str → Option Value} {base : Heap}
def Vals1 (ks : List Bool) (r : List PyData) : Prop := ∀ (j : Nat) (d : PyData), r[j]? = some d → ∃ b, ks[j]? = some b ∧ isVal b d = true
theorem isRow_get {ks : List Bool} {r : List PyData} : isRow ks (.tuple r) = true ↔ r.length = ks.length ∧ Vals1 ks r := by
  rw [isRow_iff]
  constructor
  · rintro ⟨hl, ha⟩
    refine ⟨hl, fun j d hj => ?_⟩
    have h1 := (List.getElem?_eq_some_iff.mp hj).1
    have h2 : j < ks.length := by omega
    refine ⟨ks[j], List.getElem?_eq_getElem h2, List.all_eq_true.mp ha (ks[j], d) ?_⟩
    rw [List.mem_iff_getElem]
    refine ⟨j, by rw [List.length_zip]; omega, ?_⟩
    rw [List.getElem_zip, (List.getElem?_eq_some_iff.mp hj).2]
  · rintro ⟨hl, ha⟩
    refine ⟨hl, List.all_eq_true.mpr fun p hp => ?_⟩
    obtain ⟨j, hj, e⟩ := List.getElem_of_mem hp
    rw [List.length_zip] at hj
    rw [List.getElem_zip] at e
    obtain ⟨b, h1, h2⟩ := ha j r[j] (List.getElem?_eq_getElem (by omega))
    rw [List.getElem?_eq_getElem (by omega)] at h1
    cases h1
    rw [← e]
    exact h2
theorem vals_noL {ks : List Bool} {r : List PyData} (h : Vals1 ks r) : noLs r = true := noLs_iff.mpr fun d hd => by
  obtain ⟨j, hj, e⟩ := List.getElem_of_mem hd
  obtain ⟨b, _, hv⟩ := h j d (by rw [List.getElem?_eq_getElem hj, e])
  rcases val_atom hv with ⟨_, x, rfl⟩ | ⟨_, n, rfl⟩ <;> rfl
theorem vals_snoc {ks : List Bool} {r : List PyData} {b : Bool} {d : PyData} (h : Vals1 ks r) (hb : ks[r.length]? = some b) (hv : isVal b d = true) : Vals1 ks (r ++ [d]) := fun j e hj => by
  by_cases hlt : j < r.length
  · rw [List.getElem?_append_left hlt] at hj
    exact h j e hj
  · have h1 := (List.getElem?_eq_some_iff.mp hj).1
    rw [List.length_append, List.length_singleton] at h1
    have e1 : j = r.length := by omega
    subst e1
    rw [List.getElem?_append_right (Nat.le_refl _), Nat.sub_self] at hj
    cases hj
    exact ⟨b, hb, hv⟩
theorem vals_set0 {ks : List Bool} {r : List PyData} {d : PyData} (h : Vals1 ks r) (hb : ks[0]? = some false) (hv : isVal false d = true) : Vals1 ks (r.set 0 d) := fun j e hj => by
  cases j with
  | zero =>
    cases r with
    | nil => cases hj
    | cons x r =>
      cases hj
      exact ⟨false, hb, hv⟩
  | succ j =>
    cases r with
    | nil => cases hj
    | cons x r => exact h (j + 1) e hj
theorem dpAll_set0 {K : PySem.W.Frag} {H : Hp} {xs : List V} {ds : List PyData} {v : V} {d : PyData} (h : DpAll K H xs ds) (hv : Dp K H v d) : DpAll K H (xs.set 0 v) (ds.set 0 d) := by
  cases h with
  | nil => exact .nil
  | cons _ t => exact .cons hv t
theorem rowsL_noL {ks : List Bool} {rs : List (List PyData)} (h : ∀ r ∈ rs, isRow ks (.tuple r) = true) : noLs (rs.map .tuple) = true := noLs_iff.mpr fun d hd => by
  obtain ⟨r, hr, rfl⟩ := List.mem_map.mp hd
  exact vals_noL (isRow_get.mp (h r hr)).2
theorem signOk_le {c : Nat} (h : signOk c = true) : c ≤ 122 := by
  unfold signOk at h
  rw [Bool.and_eq_true] at h
  have h2 : ¬ ([122] : List Nat) < [c] := by simpa using h.2
  by_cases q : c ≤ 122
  · exact q
  · exact absurd (List.cons_lt_cons_iff.mpr (.inl (by omega))) h2
theorem sign_strOk {x : Str} (h : isWord (.str x) = true) : PyData.strOk x = true := by
  have h' : (decide ((x.length : Int) ≤ 6) && x.cps.toList.all signOk) = true := h
  rw [Bool.and_eq_true] at h'
  unfold PyData.strOk
  rw [Array.all_eq_true']
  intro c hc
  have := signOk_le (List.all_eq_true.mp h'.2 c (Array.mem_toList_iff.mpr hc))
  exact decide_eq_true (by omega)
theorem val_shape {b : Bool} {d : PyData} (h : isVal b d = true) : d.canLay0 = true ∧ d.depth = 0 := by
  rcases val_atom h with ⟨e, x, rfl⟩ | ⟨e, n, rfl⟩
  · subst e
    exact ⟨by simp only [PyData.canLay0]; exact sign_strOk h, by simp [PyData.depth]⟩
  · exact ⟨by simp [PyData.canLay0], by simp [PyData.depth]⟩
theorem canLayAll {ds : List PyData} (h : ∀ d ∈ ds, d.canLay0 = true) : PyData.canLayAll0 ds = true := by
  induction ds with
  | nil => simp [PyData.canLayAll0]
  | cons d ds ih =>
    simp only [PyData.canLayAll0, Bool.and_eq_true]
    exact ⟨h d List.mem_cons_self, ih fun e he => h e (List.mem_cons_of_mem _ he)⟩
theorem depthLe {n : Nat} : ∀ {ds : List PyData}, (∀ d ∈ ds, d.depth ≤ n) → PyData.depthAll ds ≤ n
  | [], _ => by simp [PyData.depthAll]
  | d :: ds, h => by
    simp only [PyData.depthAll]
    have h1 := h d List.mem_cons_self
    have h2 := depthLe (ds := ds) fun e he => h e (List.mem_cons_of_mem _ he)
    omega
theorem row_shape {ks : List Bool} {r : List PyData} (h : isRow ks (.tuple r) = true) : (PyData.tuple r).canLay0 = true ∧ (PyData.tuple r).depth ≤ 1 := by
  refine ⟨?_, ?_⟩
  · simp only [PyData.canLay0]
    exact canLayAll fun d hd => by
      obtain ⟨b, hv⟩ := row_val h hd
      exact (val_shape hv).1
  · simp only [PyData.depth]
    have := depthLe (n := 0) (ds := r) fun d hd => by
      obtain ⟨b, hv⟩ := row_val h hd
      exact Nat.le_of_eq (val_shape hv).2
    omega
theorem rowsL_shaped {ks : List Bool} {rs : List (List PyData)} (h : ∀ r ∈ rs, isRow ks (.tuple r) = true) : SeqAt.shaped (.list (rs.map .tuple)) = true := by
  unfold SeqAt.shaped
  rw [Bool.and_eq_true]
  refine ⟨?_, decide_eq_true ?_⟩
  · simp only [PyData.canLay0]
    exact canLayAll fun d hd => by
      obtain ⟨r, hr, rfl⟩ := List.mem_map.mp hd
      exact (row_shape (h r hr)).1
  · simp only [PyData.depth]
    have := depthLe (n := 1) (ds := rs.map .tuple) fun d hd => by
      obtain ⟨r, hr, rfl⟩ := List.mem_map.mp hd
      exact (row_shape (h r hr)).2
    omega
theorem via {tc : TT} {ta tb : TS} {D : Ends} {σ : L2.St} {H : Hp} (N : L2.St → Hp → Prop) (h1 : ∀ nx : L2.St → Hp → Prop, (∀ σ' H', N σ' H' → nx σ' H') → tIfS tc ta tb { D with nx := nx } σ H) (h2 : ∀ σ' H', N σ' H' → D.nx σ' H') : tIfS tc ta tb D σ H := h1 D.nx h2
theorem viaS {tc : TT} {ta tb u : TS} {D : Ends} {σ : L2.St} {H : Hp} (N : L2.St → Hp → Prop) (h1 : ∀ nx : L2.St → Hp → Prop, (∀ σ' H', N σ' H' → nx σ' H') → tIfS tc ta tb { D with nx := nx } σ H) (h2 : ∀ σ' H', N σ' H' → u D σ' H') : tSeq (tIfS tc ta tb) u D σ H := h1 (u D) h2
theorem scRows : FnScope ["_law_box", "_law_kinds_here", "_law_most", "_law_found", "_law_way", "_law_turn", "_law_row", "_law_kind"] ["_law_box", "_law_kinds_here", "_law_most"] (defScope sRows) := ⟨rfl, rfl, rfl, by decide +kernel, rfl, by decide +kernel, by decide +kernel⟩
def spRows (K : PySem.W.Frag) : Sp := fun vs H Q _ => ∃ (B L : Addr) (vk : V) (ks : List Bool) (m : Int), vs = [.ref B, vk, .int m] ∧ BoxAt H B L ∧ Dp K H vk (kindsD ks) ∧ 1 ≤ ks.length ∧ ks.length ≤ 4 ∧ 0 ≤ m ∧ m ≤ 120 ∧
  ∀ (H' : Hp) (a : Addr) (rs : List (List PyData)) (xs : List V), SameX B L H H' → BoxAt H' B L → rs.length ≤ 120 → (∀ r ∈ rs, isRow ks (.tuple r) = true) → H a = none → H' a = some (.lst xs) → DpAll K H' xs (rs.map .tuple) → Q (.ref a) H'
theorem rows_ok {c : Addr} (D : DefAt K mg "_law_rows" sRows c) (T : Txt K mg) (cT : Cal P w K mg base CX0 1 "_law_take" ["_law_box", "_law_many"] spTake) (cV : Cal P w K mg base CX0 2 "_law_value" ["_law_box", "_law_kind"] (spValueL K)) :
    Cal P w K mg base CX0 3 "_law_rows" ["_law_box", "_law_kinds_here", "_law_most"] (spRows K) := by
  have sc := scRows
  refine def_ok0 D sc (fun vs H Q E h => ?_) (fun _ _ _ _ _ _ us hl => match us, hl with | [_, _, _], _ => rfl) (fun f A outer s H vs Q E hr h => ?_)
  · obtain ⟨B, L, vk, ks, m, rfl, _⟩ := h
    rfl
  · obtain ⟨B, L, vk, ks, m, rfl, hb, hk, k1, k4, m0, m1, k⟩ := h
    have hu := hr.units
    refine ⟨_, (pss_cons (ps_set (i := 3) sc.nd rfl (Or.inl rfl) (pe_lst pa_nil)) (pss_cons (ps_set (i := 4) sc.nd rfl (Or.inl rfl) (pe_c cT hr (by decide) (by rfl) pass0 (pa_cons (pv 0) (pa_cons pe_int pa_nil)))) (pss_cons (ps_for PassesOwn.never rfl (pi_range1 (by rfl) T.range (pa_cons (pe_c cT hr (by decide) (by rfl) pass0 (pa_cons (pv 0) (pa_cons (pe_op op_add (pv 2) pe_int) pa_nil))) pa_nil)) (pg_name (i := 5) sc.nd rfl (Or.inl rfl)) (pss_cons (ps_setLc (own := [("_law_kind", 7)]) (tt := tYes) rfl sc.nd (i := 6) rfl rfl (by rfl) (pi_tup (pv 1)) (blkOk_by (N := ["_law_box", "_law_kinds_here", "_law_most", "_law_found", "_law_way", "_law_turn", "_law_row", "_law_kind"]) (sc := defScope sRows) (own := [("_law_kind", 7)]) (by decide +kernel)) (fun _ _ _ _ _ => (pg_name (i := 7) sc.nd rfl (Or.inl rfl))) (fun _ _ _ _ _ => pts_nil) (fun _ _ _ _ _ => (pe_c cV hr (by decide) (by rfl) pass0 (pa_cons (pv 0) (pa_cons (pv 7) pa_nil))))) (pss_cons (ps_if ((pw_and (pt_cmpR (op_neD hu) (pv 3) (pe_lst pa_nil) (nomark _)) (pw_and1 (pt_cmpR op_eq (pe_c cT hr (by decide) (by rfl) pass0 (pa_cons (pv 0) (pa_cons pe_int pa_nil))) pe_int (nomark _)))).pt) (pss_one (ps_set (i := 6) sc.nd rfl (Or.inl rfl) (pe_callTy call_list_of (by rfl) T.list_ (by decide +kernel) (pa_cons (pe_ix ixD (pv 3) (pe_c cT hr (by decide) (by rfl) pass0 (pa_cons (pv 0) (pa_cons (pe_callB call_lenD (by rfl) T.len PySem.boot_len (pa_cons (pv 3) pa_nil)) pa_nil))) (fun _ _ => rfl)) pa_nil)))) pss_nil) (pss_cons (ps_if ((pw_and (pt_cmpR (op_neD hu) (pv 3) (pe_lst pa_nil) (nomark _)) (pw_and (pt_cmpR op_lt (pv 4) pe_int (nomark _)) (pw_and1 (pt_cmpR op_eq (pe_ix ix_tup (pv 1) pe_int (fun _ _ => rfl)) pe_str (nomark _))))).pt) (pss_one (ps_asg (pe_callB (call_max2 rfl) (by rfl) T.max boot_max (pa_cons (pe_un un_neg pe_int) (pa_cons (pe_callB (call_min2 rfl) (by rfl) T.min boot_min (pa_cons pe_int (pa_cons (pe_op op_add (pe_ix ixD (pe_ix ixD (pv 3) (pe_un un_neg pe_int) (fun _ _ => rfl)) pe_int (fun _ _ => rfl)) (pe_op op_mul (pe_ix ix_list (pe_lst (pa_cons pe_int (pa_cons (pe_un un_neg pe_int) pa_nil))) (pv 4) (fun _ _ => rfl)) (pe_c cT hr (by decide) (by rfl) pass0 (pa_cons (pv 0) (pa_cons pe_int pa_nil))))) pa_nil))) pa_nil))) (pg_sub (pv 6) pe_int set_list))) pss_nil) (pss_one (ps_expr (pe_bm PySem.F.plainAttrs_list PySem.F.slot_list_append PySem.F.type_list_append mt_append (pv 3) (pa_cons (pe_callTy call_tuple_of (by rfl) T.tuple_ (by decide +kernel) (pa_cons (pv 6) pa_nil)) pa_nil)))))))) (pss_one (ps_ret (pv 3)))))), ?_⟩
    refine ⟨Nat.zero_le _, fun Fd hFd => ?_⟩
    obtain ⟨s1, b1, nFB, nFL⟩ := al (o := .lst []) SameX.refl hb hb hFd
    refine ⟨_, rfl, B, L, 4, rfl, b1, by decide, by decide, fun H1 way s2 b2 w0 w1 => ?_⟩
    refine ⟨_, rfl, _, rfl, _, _, rfl, rfl, B, L, _, rfl, b2, by omega, by omega, fun H2 n s3 b3 n0 n1 => ?_⟩
    refine ⟨_, rfl, by omega, by omega, ?_⟩
    have sA := (s1.trans s2).trans s3
    have hF2 : H2 Fd = some (.lst []) := s3 _ _ nFB nFL (s2 _ _ nFB nFL upd_same)
    refine for_range (fun i σ H2 => ∃ (v5 v6 : Option V) (rs : List (List PyData)) (xs : List V), σ = [some (.ref B), some vk, some (.int m), some (.ref Fd), some (.int way), v5, v6, none] ∧ SameX B L H H2 ∧ BoxAt H2 B L ∧
      H2 Fd = some (.lst xs) ∧ DpAll K H2 xs (rs.map .tuple) ∧ rs.length = i ∧ ∀ r ∈ rs, isRow ks (.tuple r) = true) ⟨none, none, [], [], rfl, sA, b3, hF2, .nil, rfl, (fun _ h => nomatch h)⟩ ?_ ?_
    · rintro i σ H3 hi ⟨v5, v6, rs, xs, rfl, sm, b4, hF, hd, lr, okr⟩
      have hk3 := dp_x hb sm _ (kinds_noL ks) hk
      obtain ⟨ak, xk, rfl, hSk, hIk⟩ : ∃ ak xk, vk = .ref ak ∧ SqT K H3 ak xk ∧ DpAll K H3 xk (ks.map fun b => .str (kindS b)) := by
        cases hk3 with
        | tup q1 q2 => exact ⟨_, _, rfl, q1, q2⟩
      have lk : xk.length = ks.length := by rw [dpLen hIk, List.length_map]
      refine ⟨_, rfl, ak, rfl, ⟨_, hSk⟩, fun DD hD => ?_⟩
      obtain ⟨s5, b5, nDB, nDL⟩ := al (o := .lst []) SameX.refl b4 b4 hD
      have nDF : DD ≠ Fd := fun z => by rw [z, hF] at hD; cases hD
      refine lc_tup (K := K) (a := ak) (xs := xk) (fun j H4 => SameX B L H3 H4 ∧ BoxAt H4 B L ∧ ∃ (ds : List PyData) (ys : List V), ds.length = j ∧ Vals1 ks ds ∧ H4 DD = some (.lst ys) ∧ DpAll K H4 ys ds)
        ⟨s5, b5, [], [], rfl, (fun j d h => by simp at h), upd_same, .nil⟩ (fun j H4 _ h => sqT_x b4 h.1 hSk) ?_ ?_
      · rintro j x H4 hx ⟨s6, b6, ds, ys, ld, hv, hl, hdd⟩
        obtain ⟨dk, ek, hdk⟩ := dpGet hIk hx
        obtain ⟨bk, ebk, rfl⟩ : ∃ b, ks[j]? = some b ∧ dk = .str (kindS b) := by
          rw [List.getElem?_map] at ek
          cases q : ks[j]? with
          | none => rw [q] at ek; cases ek
          | some b => rw [q] at ek; exact ⟨b, rfl, (Option.some.inj ek).symm⟩
        cases hdk
        have hj : j < ks.length := (List.getElem?_eq_some_iff.mp ebk).1
        have ly : ys.length = ds.length := dpLen hdd
        refine ⟨rfl, _, rfl, _, rfl, B, L, bk, rfl, b6, fun H5 v d s7 b7 hv2 hd2 => ?_⟩
        have hl5 := s7 _ _ nDB nDL hl
        have vs2 := vals_snoc hv (by rw [ld]; exact ebk) hv2
        refine ⟨ys, hl5, small1000 (by omega), (s6.trans s7).new hD, b7.upd_ nDB nDL, ds ++ [d], ys ++ [v], by rw [List.length_append, ld]; rfl, vs2, upd_same, ?_⟩
        exact dpAll_upd hl5 _ (vals_noL vs2) (dpApp (dpAll_x b6 s7 _ (vals_noL hv) hdd) (.cons hd2 .nil))
      · rintro H4 ⟨s6, b6, ds, ys, ld, hv, hl, hdd⟩
        dsimp only [gName]
        have hF4 := s6 _ _ nFB nFL hF
        have okn := rowsL_noL okr
        have hd4 := dpAll_x b4 s6 _ okn hd
        have lx : xs.length = rs.length := by rw [dpLen hd, List.length_map]
        have shr := rowsL_shaped okr
        have fX : ∀ HX, SameX B L H3 HX → HX Fd = some (.lst xs) ∧ DpAll K HX xs (rs.map .tuple) := fun HX sX => ⟨sX _ _ nFB nFL hF, dpAll_x b4 sX _ okn hd⟩
        let N : L2.St → Hp → Prop := fun σ' H' => ∃ (Rw : Addr) (ys : List V) (r : List PyData), σ' = [some (.ref B), some (.ref ak), some (.int m), some (.ref Fd), some (.int way), some (.int (0 + (i : Nat))), some (.ref Rw), none] ∧ SameX B L H3 H' ∧ BoxAt H' B L ∧ H3 Rw = none ∧ H' Rw = some (.lst ys) ∧ DpAll K H' ys r ∧ r.length = ks.length ∧ Vals1 ks r
        have nD : ∀ HX, SameX B L H4 HX → BoxAt HX B L → N [some (.ref B), some (.ref ak), some (.int m), some (.ref Fd), some (.int way), some (.int (0 + (i : Nat))), some (.ref DD), none] HX := fun HX sX bX =>
          ⟨DD, ys, ds, rfl, s6.trans sX, bX, hD, sX _ _ nDB nDL hl, dpAll_x b6 sX _ (vals_noL hv) hdd, by omega, hv⟩
        refine viaS N (fun nx next => ?_) ?_
        · refine ⟨_, rfl, Nat.zero_le _, fun e he => ?_⟩
          obtain ⟨s7, b7, ne1, ne2⟩ := al (o := .lst []) SameX.refl b6 b6 he
          obtain ⟨hFe, hde⟩ := fX _ (s6.trans s7)
          refine ⟨.list (rs.map .tuple), .list [], .lst (SqL.of hFe) hde, .lst (SqL.of upd_same) .nil, shr, rfl, _, rfl, ?_⟩
          rw [eqv_nil]
          by_cases hrs : rs = []
          · subst hrs
            exact iteF (iteF (next _ _ (nD _ s7 b7)))
          · have en : (!(rs.map PyData.tuple).isEmpty) = true := by
              cases rs with
              | nil => exact absurd rfl hrs
              | cons _ _ => rfl
            rw [en]
            refine iteT ⟨_, rfl, B, L, 3, rfl, b7, by decide, by decide, fun H5 n5 s8 b8 h0 h1 => ?_⟩
            have s78 := s7.trans s8
            refine ⟨rfl, _, rfl, ?_⟩
            refine ite2 (fun h3 => ?_) (fun h3 => next _ _ (nD _ s78 b8))
            obtain ⟨hF5, hd5⟩ := fX _ (s6.trans s78)
            have lrs : (rs.map PyData.tuple).length = rs.length := List.length_map _
            have rs1 : 1 ≤ rs.length := by
              cases rs with
              | nil => exact absurd rfl hrs
              | cons _ _ => simp
            refine ⟨_, rfl, _, rfl, _, rfl, .ref Fd, _, _, rfl, .lst (SqL.of hF5) hd5, rfl, B, L, _, rfl, b8, by omega, by omega, fun H6 n6 s9 b9 g0 g1 => ?_⟩
            obtain ⟨kn, rfl⟩ : ∃ kn : Nat, n6 = (kn : Int) := ⟨n6.toNat, by omega⟩
            have hkn : kn < rs.length := by omega
            have s79 := s78.trans s9
            obtain ⟨hF6, hd6⟩ := fX _ (s6.trans s79)
            have hrow := isRow_get.mp (okr rs[kn] (List.getElem_mem hkn))
            refine ⟨.list (rs.map .tuple), _, (kn : Int), .tuple rs[kn], .lst (SqL.of hF6) hd6, rfl, rfl, atI_nat (by rw [List.getElem?_map, List.getElem?_eq_getElem hkn]; rfl), fun v hv6 => ?_⟩
            cases hv6 with
            | @tup at_ xt _ hSt hIt =>
              refine ⟨at_, xt, rfl, .inr hSt, fun l hl6 => ?_⟩
              obtain ⟨s10, b10, m1, m2⟩ := al (o := .lst xt) (s6.trans s79) b4 b9 hl6
              exact next _ _ ⟨l, xt, rs[kn], rfl, s10, b10, (s6.trans s79).free b4 hl6 b9, upd_same, dpAll_same (fun b' o e => by rw [upd_ne (ne_of_none e hl6)]; exact e) _ hIt, hrow.1, hrow.2⟩
        · rintro σ' H5 ⟨Rw, ys2, r, rfl, s7, b7, hRw0, hRw, hdr, lr2, vr⟩
          obtain ⟨nRB, nRL⟩ := b4.nb hRw0
          have nRF : Rw ≠ Fd := fun z => by rw [z, hF] at hRw0; cases hRw0
          have nN : ∀ HX, SameX B L H5 HX → BoxAt HX B L → N [some (.ref B), some (.ref ak), some (.int m), some (.ref Fd), some (.int way), some (.int (0 + (i : Nat))), some (.ref Rw), none] HX := fun HX sX bX =>
            ⟨Rw, ys2, r, rfl, s7.trans sX, bX, hRw0, sX _ _ nRB nRL hRw, dpAll_x b7 sX _ (vals_noL vr) hdr, lr2, vr⟩
          refine viaS N (fun nx next => ?_) ?_
          · refine ⟨_, rfl, Nat.zero_le _, fun e he => ?_⟩
            obtain ⟨s8, b8, ne1, ne2⟩ := al (o := .lst []) SameX.refl b7 b7 he
            obtain ⟨hFe, hde⟩ := fX _ (s7.trans s8)
            refine ⟨.list (rs.map .tuple), .list [], .lst (SqL.of hFe) hde, .lst (SqL.of upd_same) .nil, shr, rfl, _, rfl, ?_⟩
            rw [eqv_nil]
            by_cases hrs : rs = []
            · subst hrs
              exact iteF (iteF (next _ _ (nN _ s8 b8)))
            · obtain ⟨M, rl, rfl⟩ := SrtO.snoc_of (l := rs) (by
                cases rs with
                | nil => exact absurd rfl hrs
                | cons _ _ => simp)
              have en : (!((M ++ [rl]).map PyData.tuple).isEmpty) = true := by
                rw [List.map_append]
                cases M <;> rfl
              rw [en]
              refine iteT ⟨_, rfl, _, _, rfl, rfl, _, rfl, ?_⟩
              refine ite2 (fun hw => ?_) (fun hw => iteF (next _ _ (nN _ s8 b8)))
              have hw := of_decide_eq_true hw
              obtain ⟨b0, hb0⟩ : ∃ b0, ks[0]? = some b0 := ⟨_, List.getElem?_eq_getElem (by omega)⟩
              obtain ⟨vk0, evk, hvk⟩ := dpGet' (i := 0) (d := .str (kindS b0)) hIk (by rw [List.getElem?_map, hb0]; rfl)
              cases hvk
              have hSk8 := sqT_x b4 (s7.trans s8) hSk
              refine ⟨_, rfl, ak, xk, _, _, rfl, rfl, hSk8, atI_nat evk, rfl, _, rfl, ?_⟩
              have ek : decide (V.str (kindS b0) = V.str "number") = !b0 := by cases b0 <;> decide +kernel
              rw [ek]
              cases b0 with
              | true => exact iteF (next _ _ (nN _ s8 b8))
              | false =>
                have hrl := isRow_get.mp (okr rl (by simp))
                obtain ⟨d0, hd0⟩ : ∃ d0, rl[0]? = some d0 := ⟨_, List.getElem?_eq_getElem (by omega)⟩
                obtain ⟨b', hb', hv0⟩ := hrl.2 0 d0 hd0
                rw [hb0] at hb'
                cases hb'
                obtain ⟨nn, rfl⟩ : ∃ nn, d0 = .int nn := by
                  rcases val_atom hv0 with ⟨e, _⟩ | ⟨_, q⟩
                  · cases e
                  · exact q
                refine iteT ⟨_, rfl, _, rfl, _, rfl, .list ((M ++ [rl]).map .tuple), _, -1, .tuple rl, .lst (SqL.of hFe) hde, rfl, rfl, by rw [List.map_append]; exact atI_last _ _, fun v hv1 => ?_⟩
                refine ⟨.tuple rl, rl, 0, .int nn, hv1, rfl, rfl, atI_nat (j := 0) hd0, fun v2 hv2 => ?_⟩
                cases hv2
                refine ⟨_, rfl, by show 2 ≤ sizeLine; decide, fun e2 he2 => ?_⟩
                obtain ⟨s9, b9, nf1, nf2⟩ := al (o := .lst [.int 1, .int (-1)]) s8 b7 b8 he2
                obtain ⟨ww, hww, lo, hi'⟩ : ∃ ww : Int, atI [V.int 1, V.int (-1)] way = some (.int ww) ∧ -1 ≤ ww ∧ ww ≤ 1 := by
                  rcases (by omega : way = 0 ∨ way = 1) with e | e
                  · subst e; exact ⟨_, atI_nat (j := 0) rfl, by decide, by decide⟩
                  · subst e; exact ⟨_, atI_nat (j := 1) rfl, by decide, by decide⟩
                refine ⟨_, rfl, e2, _, way, _, rfl, rfl, SqL.of upd_same, hww, _, rfl, B, L, 3, rfl, b9, by decide, by decide, fun H7 n7 s10 b10 h0 h1 => ?_⟩
                refine ⟨_, _, rfl, rfl, .inl ⟨by omega, by omega⟩, _, _, rfl, rfl, _, _, rfl, _, _, rfl, ?_⟩
                have s57 := s9.trans s10
                have hRw7 := s57 _ _ nRB nRL hRw
                have lys : ys2.length = r.length := dpLen hdr
                have hdr7 := dpAll_x b7 s57 _ (vals_noL vr) hdr
                refine ⟨_, rfl, Rw, ys2, 0, 0, rfl, rfl, hRw7, (by unfold ixN; rw [if_pos (by decide), if_pos (by omega)]; rfl), ?_⟩
                generalize hz : (if (if nn + ww * n7 < 999 then nn + ww * n7 else 999) > -999 then (if nn + ww * n7 < 999 then nn + ww * n7 else 999) else -999) = z
                have z1 : -999 ≤ z ∧ z ≤ 999 := by
                  rw [← hz]
                  constructor <;> split <;> split <;> omega
                have vr2 := vals_set0 vr hb0 (num_isVal z1.1 z1.2)
                exact next _ _ ⟨Rw, ys2.set 0 (.int z), r.set 0 (.int z), rfl, (s7.trans s57).new hRw0, b10.upd_ nRB nRL, hRw0, upd_same, dpAll_upd hRw7 _ (vals_noL vr2) (dpAll_set0 hdr7 (.int z)), by rw [List.length_set]; exact lr2, vr2⟩
          · rintro σ' H6 ⟨Rw, ys2, r, rfl, s8, b8, hRw0, hRw, hdr, lr2, vr⟩
            obtain ⟨hF6, hd6⟩ := fX _ s8
            refine ⟨_, rfl, .inl ⟨rfl, _, SqL.of hF6⟩, _, rfl, Rw, ys2, rfl, .inl ⟨SqL.of hRw, fun p hp => ?_⟩⟩
            obtain ⟨s9, b9, np1, np2⟩ := al (o := .tup ys2) s8 b4 b8 hp
            have npF : Fd ≠ p := fun z => by rw [← z, hF6] at hp; cases hp
            refine ⟨Fd, xs, _, rfl, rfl, (upd_ne npF).trans hF6, small1000 (by omega), ?_⟩
            have okr2 : ∀ q ∈ rs ++ [r], isRow ks (.tuple q) = true := fun q hq => by
              rcases List.mem_append.mp hq with hq | hq
              · exact okr q hq
              · rw [List.mem_singleton.mp hq]
                exact isRow_get.mpr ⟨lr2, vr⟩
            have hnew : DpAll K (upd H6 p (.tup ys2)) (xs ++ [.ref p]) ((rs ++ [r]).map .tuple) := by
              rw [List.map_append]
              have sp : Same H6 (upd H6 p (.tup ys2)) := fun b' o e => by
                rw [upd_ne (ne_of_none e hp)]
                exact e
              exact dpApp (dpAll_same sp _ hd6) (.cons (.tup (SqT.of upd_same) (dpAll_same sp _ hdr)) .nil)
            exact ⟨_, _, rs ++ [r], xs ++ [.ref p], rfl, (sm.trans s9).new hFd, b9.upd_ nFB nFL, upd_same, dpAll_upd ((upd_ne npF).trans hF6) _ (rowsL_noL okr2) hnew, by rw [List.length_append, lr]; rfl, okr2⟩
    · rintro σ H3 ⟨v5, v6, rs, xs, rfl, sm, b4, hF, hd, lr, okr⟩
      exact ⟨_, rfl, k H3 Fd rs xs sm b4 (by omega) okr hFd hF hd⟩
end
end RS
set_option Elab.async false
set_option maxRecDepth 100000
set_option maxHeartbeats 4000000
set_option pp.maxSteps 400
namespace RS
open PySem PySem.Spec PyProof.Rows L2 GX
theorem cutV_to {xs : List V} {k : Nat} (h : k ≤ xs.length) : cutV xs none (some (k : Nat)) = xs.take k := by
  unfold cutV
  rw [HT.sIx_nat, HT.sIx_none, Nat.min_eq_left h, List.drop_zero, Nat.sub_zero]
theorem cutS_le (z : Str) (lo hi : Option Int) : (cutS z lo hi).length ≤ z.length := by
  show ((z.cps.toList.drop _).take _).toArray.size ≤ z.cps.size
  rw [List.size_toArray, List.length_take, List.length_drop, Array.length_toList]
  omega
theorem str_len (x y : Str) : (x ++ y).length = x.length + y.length := by
  have e : ∀ z : Str, z.length = (TL.tl z).length := fun z => by simp [TL.tl, Str.length]
  rw [e, e x, e y, TL.tl_append, List.length_append]
theorem row_noL7 {ks : List Bool} {r : List PyData} (h : isRow ks (.tuple r) = true) : noL (.tuple r) = true := by
  have := rowsL_noL (ks := ks) (rs := [r]) fun r' hr => by rw [List.mem_singleton.mp hr]; exact h
  simpa [noLs] using this
/-- a value of the row that is none -/
def BadV (b : Bool) (u : V) : Prop := ∃ e : PyData, (∀ (K : PySem.W.Frag) (H : Hp), Dp K H u e) ∧ isVal b e = false ∧ fitD e ∧ noL e = true
theorem bad_int {b : Bool} {n : Int} (h : b = true ∨ n < -999 ∨ 999 < n) : BadV b (.int n) := by
  refine ⟨.int n, fun _ _ => .int n, ?_, trivial, rfl⟩
  cases b with
  | true => rfl
  | false =>
    rcases h with h | h | h
    · cases h
    · simp [isVal, inBand, isNum, isI, isT, tyN]
      omega
    · simp [isVal, inBand, isNum, isI, isT, tyN]
      omega
theorem bad_str0 {x : Str} (h : x.length ≤ 100) : BadV false (.str x) := ⟨.str x, fun _ _ => .str x, by simp [isVal, isNum, isI, isT, tyN], Nat.le_trans h (by decide), rfl⟩
theorem bad_long {x : Str} (h : x.length ≤ 100) (h7 : 7 ≤ x.length) : BadV true (.str x) := ⟨.str x, fun _ _ => .str x, by
  show (decide ((x.length : Int) ≤ 6) && x.cps.toList.all signOk) = false
  rw [show decide ((x.length : Int) ≤ 6) = false from decide_eq_false (by omega)]
  rfl, Nat.le_trans h (by decide), rfl⟩
theorem bad_sign {x y : Str} {c : Nat} (h : (x ++ ⟨#[c]⟩ ++ y).length ≤ 100) (hc : signOk c = false) : BadV true (.str (x ++ ⟨#[c]⟩ ++ y)) := ⟨.str _, fun _ _ => .str _, by
  show (decide (((x ++ ⟨#[c]⟩ ++ y : Str).length : Int) ≤ 6) && (x ++ ⟨#[c]⟩ ++ y : Str).cps.toList.all signOk) = false
  have e : (x ++ ⟨#[c]⟩ ++ y : Str).cps.toList = x.cps.toList ++ [c] ++ y.cps.toList := by
    have := TL.tl_append (x ++ ⟨#[c]⟩) y
    have h2 := TL.tl_append x ⟨#[c]⟩
    unfold TL.tl at this h2
    rw [this, h2]
  rw [e, List.all_append, List.all_append]
  simp [hc], Nat.le_trans h (by decide), rfl⟩
theorem signs_bad : ∀ k < 15, ∃ c, (Str.ofString "ABMZ0189 -=_.!~").cps.toList[k]? = some c ∧ signOk c = false := by
  intro k hk
  have : ∀ k < 15, ∃ c ∈ (Str.ofString "ABMZ0189 -=_.!~").cps.toList, (Str.ofString "ABMZ0189 -=_.!~").cps.toList[k]? = some c ∧ signOk c = false := by decide +kernel
  obtain ⟨c, _, h⟩ := this k hk
  exact ⟨c, h⟩
theorem row_bad {ks : List Bool} {rs : List PyData} {k : Nat} {b : Bool} {e : PyData} (hk : ks[k]? = some b) (hr : rs.length = ks.length) (he : isVal b e = false) : isRow ks (.tuple (rs.take k ++ [e] ++ rs.drop (k + 1))) = false := by
  have hk2 := (List.getElem?_eq_some_iff.mp hk).1
  have hz : (ks.zip (rs.take k ++ [e] ++ rs.drop (k + 1)))[k]? = some (b, e) := by
    rw [List.getElem?_zip_eq_some]
    refine ⟨hk, ?_⟩
    rw [List.append_assoc, List.getElem?_append_right (by rw [List.length_take]; omega), List.length_take, Nat.min_eq_left (by omega), Nat.sub_self]
    rfl
  show (decide _ && (ks.zip (rs.take k ++ [e] ++ rs.drop (k + 1))).all fun p => isVal p.1 p.2) = false
  have : ((ks.zip (rs.take k ++ [e] ++ rs.drop (k + 1))).all fun p => isVal p.1 p.2) = false := by
    refine Bool.eq_false_iff.mpr fun h => ?_
    have := List.all_eq_true.mp h _ (List.mem_of_getElem? hz)
    rw [he] at this
    cases this
  rw [this, Bool.and_false]
theorem val_fit {b : Bool} {d : PyData} (h : isVal b d = true) : fitD d := by
  cases d with
  | str z =>
    cases b with
    | true =>
      have h : (decide ((z.length : Int) ≤ 6) && z.cps.toList.all signOk) = true := h
      rw [Bool.and_eq_true] at h
      have := of_decide_eq_true h.1
      exact Nat.le_trans (show z.length ≤ 6 by omega) (by decide)
    | false => simp [isVal, isNum, isI, isT, tyN] at h
  | _ => exact trivial
theorem row_len {ks : List Bool} {rs : List PyData} (h : isRow ks (.tuple rs) = true) : rs.length = ks.length := by
  have h : (decide (rs.length = ks.length) && (ks.zip rs).all fun p => isVal p.1 p.2) = true := h
  rw [Bool.and_eq_true] at h
  exact of_decide_eq_true h.1
theorem row_badL {ks : List Bool} {rs : List PyData} (h : rs.length ≠ ks.length) : isRow ks (.tuple rs) = false := by
  show (decide _ && _) = false
  rw [show decide (rs.length = ks.length) = false from decide_eq_false h]
  rfl
section
variable {P : Program} {w : World} {K : PySem.W.Frag} {mg : Str → Option Value} {base : Heap}
theorem scBadRow : FnScope ["_law_box", "_law_kinds_here", "_law_row", "_law_k", "_law_far", "_law_values", "_law_signs", "_law_word", "_law_place", "_law_odd"] ["_law_box", "_law_kinds_here", "_law_row"] (defScope sBadRow) := ⟨rfl, rfl, rfl, by decide +kernel, rfl, by decide +kernel, by decide +kernel⟩
def spBadRow (K : PySem.W.Frag) : Sp := fun vs H Q _ => ∃ (B L : Addr) (vk vr : V) (ks : List Bool) (rs : List PyData), vs = [.ref B, vk, vr] ∧ BoxAt H B L ∧ Dp K H vk (kindsD ks) ∧ 1 ≤ ks.length ∧ ks.length ≤ 4 ∧ Dp K H vr (.tuple rs) ∧ isRow ks (.tuple rs) = true ∧
  ∀ (H' : Hp) (v : V) (d : PyData), SameX B L H H' → BoxAt H' B L → Dp K H' v d → isRow ks d = false → fitR d → noL d = true → Q v H'
theorem badrow_ok {c : Addr} (D : DefAt K mg "_law_bad_row" sBadRow c) (T : Txt K mg) (cT : Cal P w K mg base CX0 1 "_law_take" ["_law_box", "_law_many"] spTake) (cV : Cal P w K mg base CX0 2 "_law_value" ["_law_box", "_law_kind"] (spValueL K)) : Cal P w K mg base CX0 3 "_law_bad_row" ["_law_box", "_law_kinds_here", "_law_row"] (spBadRow K) := by
  have sc := scBadRow
  refine def_ok0 D sc (fun vs H Q E h => ?_) (fun _ _ _ _ _ _ us hl => match us, hl with | [_, _, _], _ => rfl) (fun f A outer s H vs Q E hr h => ?_)
  · obtain ⟨B, L, vk, vr, ks, rs, rfl, _⟩ := h
    rfl
  · obtain ⟨B, L, vk, vr, ks, rs, rfl, hb, hk, k1, k4, hr0, okr, kk⟩ := h
    refine ⟨_, (pss_cons (ps_set (i := 3) sc.nd rfl (Or.inl rfl) (pe_c cT hr (by decide) (by rfl) pass0 (pa_cons (pv 0) (pa_cons (pe_callB call_lenD (by rfl) T.len PySem.boot_len (pa_cons (pv 1) pa_nil)) pa_nil)))) (pss_cons (ps_set (i := 4) sc.nd rfl (Or.inl rfl) (pe_c cT hr (by decide) (by rfl) pass0 (pa_cons (pv 0) (pa_cons (pe_op op_pow pe_int pe_int) pa_nil)))) (pss_cons (ps_set (i := 5) sc.nd rfl (Or.inl rfl) (pe_lst (pa_cons (pe_op op_add pe_int (pv 4)) (pa_cons (pe_op op_sub (pe_un un_neg pe_int) (pv 4)) (pa_cons pe_str (pa_cons pe_str pa_nil)))))) (pss_cons (ps_if (pt_cmpR op_eq (pe_ix ix_tup (pv 1) (pv 3) (fun _ _ => rfl)) pe_str (nomark _)) (pss_cons (ps_set (i := 6) sc.nd rfl (Or.inl rfl) pe_str) (pss_cons (ps_set (i := 7) sc.nd rfl (Or.inl rfl) (pe_slice sl_str (pe_c cV hr (by decide) (by rfl) pass0 (pa_cons (pv 0) (pa_cons pe_str pa_nil))) po_none (po_some pe_int))) (pss_cons (ps_set (i := 8) sc.nd rfl (Or.inl rfl) (pe_c cT hr (by decide) (by rfl) pass0 (pa_cons (pv 0) (pa_cons (pe_op op_add (pe_callB call_len_str (by rfl) T.len PySem.boot_len (pa_cons (pv 7) pa_nil)) pe_int) pa_nil)))) (pss_cons (ps_set (i := 9) sc.nd rfl (Or.inl rfl) (pe_op op_add_str (pe_op op_add_str (pe_slice sl_str (pv 7) po_none (po_some (pv 8))) (pe_ix ix_str (pv 6) (pe_c cT hr (by decide) (by rfl) pass0 (pa_cons (pv 0) (pa_cons pe_int pa_nil))) (fun _ _ => rfl))) (pe_slice sl_str (pv 7) (po_some (pv 8)) po_none))) (pss_one (ps_set (i := 5) sc.nd rfl (Or.inl rfl) (pe_lst (pa_cons (pv 9) (pa_cons (pv 9) (pa_cons (pe_op op_add_str (pv 7) pe_str) (pa_cons (pv 4) pa_nil))))))))))) pss_nil) (pss_cons (ps_set (i := 9) sc.nd rfl (Or.inl rfl) (pe_op op_catA (pe_op op_catA (pe_slice sl_tupA (pv 2) po_none (po_some (pv 3))) (pe_tup (pa_cons (pe_ix ix_list (pv 5) (pe_c cT hr (by decide) (by rfl) pass0 (pa_cons (pv 0) (pa_cons pe_int pa_nil))) (fun _ _ => rfl)) pa_nil))) (pe_slice sl_tupA (pv 2) (po_some (pe_op op_add (pv 3) pe_int)) po_none))) (pss_one (ps_ret (pe_ix ix_list (pe_lst (pa_cons (pv 9) (pa_cons (pv 9) (pa_cons (pv 9) (pa_cons (pe_op op_catA (pv 2) (pe_slice sl_tupA (pv 2) po_none (po_some pe_int))) (pa_cons (pe_slice sl_tupA (pv 2) (po_some pe_int) po_none) (pa_cons (pe_tup pa_nil) pa_nil))))))) (pe_c cT hr (by decide) (by rfl) pass0 (pa_cons (pv 0) (pa_cons pe_int pa_nil))) (fun _ _ => rfl))))))))), ?_⟩
    have lr := row_len okr
    have hkl : (kindsD ks) = .tuple (ks.map fun b => .str (kindS b)) := rfl
    refine ⟨_, rfl, _, rfl, vk, _, _, rfl, hk, rfl, B, L, _, rfl, hb, by rw [List.length_map]; omega, by rw [List.length_map]; omega, fun H1 kx s1 b1 g0 g1 => ?_⟩
    rw [List.length_map] at g1
    obtain ⟨k, rfl⟩ : ∃ k : Nat, kx = (k : Int) := ⟨kx.toNat, by omega⟩
    have hkl2 : k < ks.length := by omega
    have pw : ((10 : Int) ^ (18 : Int).toNat) = 1000000000000000000 := by decide +kernel
    refine ⟨_, rfl, _, _, rfl, rfl, ⟨by decide, by decide, by decide⟩, B, L, _, rfl, b1, by rw [pw]; decide, by rw [pw]; decide, fun H2 far s2 b2 f0 f1 => ?_⟩
    have s12 := s1.trans s2
    refine ⟨_, rfl, _, _, rfl, rfl, _, rfl, _, rfl, _, _, rfl, rfl, by show 4 ≤ sizeLine; decide, fun V5 hV5 => ?_⟩
    obtain ⟨s3, b3, n5B, n5L⟩ := al (o := .lst [.int (1000 + far), .int (-1000 - far), .str "a", .str ""]) s12 hb b2 hV5
    have h5 : upd H2 V5 (.lst [.int (1000 + far), .int (-1000 - far), .str "a", .str ""]) V5 = some (.lst [.int (1000 + far), .int (-1000 - far), .str "a", .str ""]) := upd_same
    generalize upd H2 V5 (.lst [.int (1000 + far), .int (-1000 - far), .str "a", .str ""]) = H3 at s3 b3 h5 ⊢
    have hk3 := dp_x hb s3 _ (kinds_noL ks) hk
    have nor : noL (.tuple rs) = true := row_noL7 okr
    have hr3 := dp_x hb s3 _ nor hr0
    obtain ⟨b, eb⟩ : ∃ b, ks[k]? = some b := ⟨_, List.getElem?_eq_getElem hkl2⟩
    obtain ⟨aK, xk, rfl, hSK, hIK⟩ : ∃ aK xk, vk = .ref aK ∧ SqT K H3 aK xk ∧ DpAll K H3 xk (ks.map fun b => .str (kindS b)) := by
      cases hk3 with
      | @tup a xs _ h1 h2 => exact ⟨a, xs, rfl, h1, h2⟩
    have exk : xk[k]? = some (.str (kindS b)) := by
      obtain ⟨v, ev, hv⟩ := dpGet' (i := k) (d := .str (kindS b)) hIK (by rw [List.getElem?_map, eb]; rfl)
      cases hv
      exact ev
    dsimp only [gName]
    refine viaS (fun σ' H' => ∃ (V5 : Addr) (us : List V) (v6 v7 v8 v9 : Option V), σ' = [some (.ref B), some (.ref aK), some vr, some (.int (k : Nat)), some (.int far), some (.ref V5), v6, v7, v8, v9] ∧ SameX B L H H' ∧ BoxAt H' B L ∧ H' V5 = some (.lst us) ∧ V5 ≠ B ∧ V5 ≠ L ∧ us.length = 4 ∧ ∀ u ∈ us, BadV b u) (fun nx fin => ?_) (fun σ3 H4 h4 => ?_)
    · refine ⟨_, rfl, _, rfl, aK, _, _, _, rfl, rfl, hSK, atI_nat exk, rfl, _, rfl, ?_⟩
      cases b with
      | false =>
        refine iteF' (by decide +kernel) ?_
        refine fin _ _ ⟨V5, _, none, none, none, none, rfl, s3, b3, h5, n5B, n5L, rfl, fun u hu => ?_⟩
        rcases List.mem_cons.mp hu with e | hu
        · rw [e]; exact bad_int (.inr (.inr (by omega)))
        rcases List.mem_cons.mp hu with e | hu
        · rw [e]; exact bad_int (.inr (.inl (by omega)))
        rcases List.mem_cons.mp hu with e | hu
        · rw [e]; exact bad_str0 (by decide +kernel)
        · rw [List.mem_singleton.mp hu]; exact bad_str0 (by decide +kernel)
      | true =>
        refine iteT' (by decide +kernel) ?_
        refine ⟨_, rfl, B, L, true, rfl, b3, fun H4 v d s4 b4 hv hd => ?_⟩
        obtain ⟨z, rfl, hz⟩ : ∃ z, d = .str z ∧ z.length ≤ 6 := by
          cases d with
          | str z =>
            have hv : (decide ((z.length : Int) ≤ 6) && z.cps.toList.all signOk) = true := hv
            rw [Bool.and_eq_true] at hv
            have := of_decide_eq_true hv.1
            exact ⟨z, rfl, by omega⟩
          | _ => cases hv
        cases hd
        have big : (1000 : Nat) ≤ sizeLine := by decide
        refine ⟨_, rfl, z, rfl, by omega, ?_⟩
        have hw := cutS_le z none (some 5)
        generalize cutS z none (some 5) = wd at hw ⊢
        refine ⟨_, rfl, _, rfl, wd, rfl, by omega, _, _, rfl, rfl, B, L, _, rfl, b4, by omega, by omega, fun H5 pl s5 b5 p0 p1 => ?_⟩
        refine ⟨_, rfl, _, rfl, _, rfl, wd, rfl, by omega, ?_⟩
        have hw1 := cutS_le wd none (some pl)
        generalize cutS wd none (some pl) = w1 at hw1 ⊢
        refine ⟨_, rfl, _, rfl, B, L, 15, rfl, b5, by decide, by decide, fun H6 sx s6 b6 q0 q1 => ?_⟩
        obtain ⟨sn, rfl⟩ : ∃ sn : Nat, sx = (sn : Int) := ⟨sx.toNat, by omega⟩
        obtain ⟨cc, e1, e2⟩ := signs_bad sn (by omega)
        have one : (⟨#[cc]⟩ : Str).length = 1 := rfl
        refine ⟨_, _, cc, rfl, rfl, by decide +kernel, atI_nat e1, _, _, rfl, rfl, by rw [one]; omega, ?_⟩
        refine ⟨_, rfl, _, rfl, _, rfl, wd, rfl, by omega, ?_⟩
        have hw2 := cutS_le wd (some pl) none
        generalize cutS wd (some pl) none = w2 at hw2 ⊢
        have l1 : (w1 ++ ⟨#[cc]⟩ : Str).length = w1.length + 1 := by rw [str_len, one]
        have l2 : (w1 ++ ⟨#[cc]⟩ ++ w2 : Str).length = w1.length + 1 + w2.length := by rw [str_len, l1]
        refine ⟨_, _, rfl, rfl, by rw [l1]; omega, ?_⟩
        have l7 : (Str.ofString "abcdefg").length = 7 := by decide +kernel
        refine ⟨_, rfl, _, rfl, _, rfl, _, _, rfl, rfl, by show wd.length + (Str.ofString "abcdefg").length ≤ sizeLine; rw [l7]; omega, _, rfl, by show 4 ≤ sizeLine; decide, fun V6 hV6 => ?_⟩
        obtain ⟨s7, b7, n6B, n6L⟩ := al (o := .lst [.str (w1 ++ ⟨#[cc]⟩ ++ w2), .str (w1 ++ ⟨#[cc]⟩ ++ w2), .str (wd ++ Str.ofString "abcdefg"), .int far]) (((s3.trans s4).trans s5).trans s6) hb b6 hV6
        refine fin _ _ ⟨V6, _, _, _, _, _, rfl, s7, b7, upd_same, n6B, n6L, rfl, fun u hu => ?_⟩
        rcases List.mem_cons.mp hu with e | hu
        · rw [e]; exact bad_sign (by rw [l2]; omega) e2
        rcases List.mem_cons.mp hu with e | hu
        · rw [e]; exact bad_sign (by rw [l2]; omega) e2
        rcases List.mem_cons.mp hu with e | hu
        · rw [e]; exact bad_long (by rw [str_len, l7]; omega) (by rw [str_len, l7]; omega)
        · rw [List.mem_singleton.mp hu]; exact bad_int (.inl rfl)
    · obtain ⟨V5, us, v6, v7, v8, v9, rfl, s4, b4, h5, n5B, n5L, lu, bu⟩ := h4
      have hr4 := dp_x hb s4 _ nor hr0
      have nors : noLs rs = true := nor
      obtain ⟨aR, xr, rfl, hSR, hIR⟩ : ∃ aR xr, vr = .ref aR ∧ SqT K H4 aR xr ∧ DpAll K H4 xr rs := by
        cases hr4 with
        | @tup a xs _ h1 h2 => exact ⟨a, xs, rfl, h1, h2⟩
      have lx : xr.length = rs.length := dpLen hIR
      have big : (1000 : Nat) ≤ sizeLine := by decide
      refine ⟨_, rfl, _, rfl, _, rfl, slA_any hSR fun p1 H5 s5 h5' => ?_⟩
      rw [cutV_to (by omega)] at h5'
      have b5 := b4.same s5
      refine ⟨_, rfl, _, rfl, B, L, 4, rfl, b5, by decide, by decide, fun H6 ux s6 b6 u0 u1 => ?_⟩
      obtain ⟨un, rfl⟩ : ∃ un : Nat, ux = (un : Int) := ⟨ux.toNat, by omega⟩
      obtain ⟨u, eu⟩ : ∃ u, us[un]? = some u := ⟨_, List.getElem?_eq_getElem (by omega)⟩
      obtain ⟨e, he, hev, hef, heL⟩ := bu u (List.mem_of_getElem? eu)
      have h56 := s6 _ _ n5B n5L (s5 _ _ h5)
      refine ⟨V5, _, _, _, rfl, rfl, SqL.of h56, atI_nat eu, by show 1 ≤ sizeLine; decide, fun p2 hp2 => ?_⟩
      have s7 := sameNew (o := .tup [u]) (Same.refl H6) hp2
      have b7 := b6.same s7
      have g1 := sqT_same s7 (sqT_x b5 s6 h5')
      have g2 : SqT K (upd H6 p2 (.tup [u])) p2 [u] := SqT.of upd_same
      have sR7 := sqT_same s7 (sqT_x b5 s6 (sqT_same s5 hSR))
      have sX7 := ((s4.trans (SameX.of s5)).trans s6).trans (SameX.of s7)
      generalize upd H6 p2 (.tup [u]) = H7 at s7 b7 g1 g2 sR7 sX7 ⊢
      refine catA_any g1 g2 (by rw [List.length_take]; show _ + 1 ≤ sizeLine; omega) fun p3 H8 s8 h8 => ?_
      refine ⟨_, rfl, _, rfl, _, _, rfl, rfl, _, rfl, ?_⟩
      dsimp only [tNoPart]
      refine slA_any (sqT_same s8 sR7) fun p4 H9 s9 h9 => ?_
      rw [show ((k : Nat) : Int) + 1 = ((k + 1 : Nat) : Int) by omega, cutV_from (by omega)] at h9
      refine catA_any (sqT_same s9 h8) h9 (by rw [List.length_append, List.length_take, List.length_drop]; show _ + 1 + _ ≤ sizeLine; omega) fun p5 HA sA hA => ?_
      have s7A := (s8.trans s9).trans sA
      have bA := b7.same s7A
      have sXA := sX7.trans (SameX.of s7A)
      have sRA := sqT_same s7A sR7
      have dR : DpAll K HA xr rs := dpAll_x b4 (((SameX.of s5).trans s6).trans (SameX.of (s7.trans s7A))) rs nors hIR
      have dO : Dp K HA (.ref p5) (.tuple (rs.take k ++ [e] ++ rs.drop (k + 1))) := .tup hA (dpApp (dpApp (dpAll_take dR k) (.cons (he K HA) .nil)) (dpAll_drop dR (k + 1)))
      have okO : isRow ks (.tuple (rs.take k ++ [e] ++ rs.drop (k + 1))) = false := row_bad eb lr hev
      have fitAll : ∀ d ∈ rs, fitD d := fun d hd => by
        obtain ⟨b, hv⟩ := row_val okr hd
        exact val_fit hv
      have nAll : ∀ d ∈ rs, noL d = true := noLs_iff.mp nors
      have ftO : fitR (.tuple (rs.take k ++ [e] ++ rs.drop (k + 1))) := by
        refine ⟨by rw [List.length_append, List.length_append, List.length_take, List.length_drop]; show _ + 1 + _ ≤ 1000; omega, fun d hd => ?_⟩
        rcases List.mem_append.mp hd with hd | hd
        · rcases List.mem_append.mp hd with hd | hd
          · exact fitAll d (List.mem_of_mem_take hd)
          · rw [List.mem_singleton.mp hd]; exact hef
        · exact fitAll d (List.mem_of_mem_drop hd)
      have nlO : noL (.tuple (rs.take k ++ [e] ++ rs.drop (k + 1))) = true := noLs_iff.mpr fun d hd => by
        rcases List.mem_append.mp hd with hd | hd
        · rcases List.mem_append.mp hd with hd | hd
          · exact nAll d (List.mem_of_mem_take hd)
          · rw [List.mem_singleton.mp hd]; exact heL
        · exact nAll d (List.mem_of_mem_drop hd)
      refine ⟨_, rfl, _, rfl, _, rfl, _, rfl, _, rfl, _, rfl, slA_any sRA fun p6 HB sB hB => ?_⟩
      rw [show (some (1 : Int)) = some ((1 : Nat) : Int) from rfl, cutV_to (by omega)] at hB
      refine catA_any (sqT_same sB sRA) hB (by rw [List.length_take]; omega) fun p7 HC sC hC => ?_
      refine ⟨_, rfl, _, rfl, ?_⟩
      dsimp only [tNoPart]
      refine slA_any (sqT_same (sB.trans sC) sRA) fun p8 HD sD hD => ?_
      rw [show (some (1 : Int)) = some ((1 : Nat) : Int) from rfl, cutV_from (by omega)] at hD
      refine ⟨Nat.zero_le _, fun p9 hp9 => ?_⟩
      have sE := sameNew (o := .tup []) (Same.refl HD) hp9
      have hE : upd HD p9 (.tup []) p9 = some (.tup []) := upd_same
      generalize upd HD p9 (.tup []) = HE at sE hE ⊢
      refine ⟨by show 6 ≤ sizeLine; decide, fun LL hLL => ?_⟩
      have sF := sameNew (o := .lst [.ref p5, .ref p5, .ref p5, .ref p7, .ref p8, .ref p9]) (Same.refl HE) hLL
      have sAF := (((sB.trans sC).trans sD).trans sE).trans sF
      have bF := bA.same sAF
      obtain ⟨nLB, nLL⟩ := (bA.same (((sB.trans sC).trans sD).trans sE)).nb hLL
      have hLF : upd HE LL (.lst [.ref p5, .ref p5, .ref p5, .ref p7, .ref p8, .ref p9]) LL = some (.lst [.ref p5, .ref p5, .ref p5, .ref p7, .ref p8, .ref p9]) := upd_same
      have dF : Dp K (upd HE LL (.lst [.ref p5, .ref p5, .ref p5, .ref p7, .ref p8, .ref p9])) (.ref p5) (.tuple (rs.take k ++ [e] ++ rs.drop (k + 1))) := dp_same sAF _ dO
      have d7 : Dp K (upd HE LL (.lst [.ref p5, .ref p5, .ref p5, .ref p7, .ref p8, .ref p9])) (.ref p7) (.tuple (rs ++ rs.take 1)) := .tup (sqT_same ((sD.trans sE).trans sF) hC) (dpAll_same sAF _ (dpApp dR (dpAll_take dR 1)))
      have d8 : Dp K (upd HE LL (.lst [.ref p5, .ref p5, .ref p5, .ref p7, .ref p8, .ref p9])) (.ref p8) (.tuple (rs.drop 1)) := .tup (sqT_same (sE.trans sF) hD) (dpAll_same sAF _ (dpAll_drop dR 1))
      have d9 : Dp K (upd HE LL (.lst [.ref p5, .ref p5, .ref p5, .ref p7, .ref p8, .ref p9])) (.ref p9) (.tuple []) := .tup (SqT.of (sF _ _ hE)) .nil
      generalize upd HE LL (.lst [.ref p5, .ref p5, .ref p5, .ref p7, .ref p8, .ref p9]) = HF at sF sAF bF hLF dF d7 d8 d9 ⊢
      refine ⟨_, rfl, B, L, 6, rfl, bF, by decide, by decide, fun HG x6 sG bG x0 x1 => ?_⟩
      have hLG := sG _ _ nLB nLL hLF
      have sXG := (sXA.trans (SameX.of sAF)).trans sG
      have nl7 : noL (.tuple (rs ++ rs.take 1)) = true := noLs_iff.mpr fun d hd => by
        rcases List.mem_append.mp hd with hd | hd
        · exact nAll d hd
        · exact nAll d (List.mem_of_mem_take hd)
      have nl8 : noL (.tuple (rs.drop 1)) = true := noLs_iff.mpr fun d hd => nAll d (List.mem_of_mem_drop hd)
      have fin : ∀ (u : V) (d : PyData), Dp K HF u d → isRow ks d = false → fitR d → noL d = true → Q u HG := fun u d h1 h2 h3 h4 => kk HG u d sXG bG (dp_x bF sG d h4 h1) h2 h3 h4
      rcases (by omega : x6 = 0 ∨ x6 = 1 ∨ x6 = 2 ∨ x6 = 3 ∨ x6 = 4 ∨ x6 = 5) with z | z | z | z | z | z <;> subst z
      · exact ⟨LL, _, _, _, rfl, rfl, SqL.of hLG, atI_nat (j := 0) rfl, fin _ _ dF okO ftO nlO⟩
      · exact ⟨LL, _, _, _, rfl, rfl, SqL.of hLG, atI_nat (j := 1) rfl, fin _ _ dF okO ftO nlO⟩
      · exact ⟨LL, _, _, _, rfl, rfl, SqL.of hLG, atI_nat (j := 2) rfl, fin _ _ dF okO ftO nlO⟩
      · refine ⟨LL, _, _, _, rfl, rfl, SqL.of hLG, atI_nat (j := 3) rfl, fin _ _ d7 (row_badL (by rw [List.length_append, List.length_take]; omega)) ⟨by rw [List.length_append, List.length_take]; omega, fun d hd => ?_⟩ nl7⟩
        rcases List.mem_append.mp hd with hd | hd
        · exact fitAll d hd
        · exact fitAll d (List.mem_of_mem_take hd)
      · exact ⟨LL, _, _, _, rfl, rfl, SqL.of hLG, atI_nat (j := 4) rfl, fin _ _ d8 (row_badL (by rw [List.length_drop]; omega)) ⟨by rw [List.length_drop]; omega, fun d hd => fitAll d (List.mem_of_mem_drop hd)⟩ nl8⟩
      · exact ⟨LL, _, _, _, rfl, rfl, SqL.of hLG, atI_nat (j := 5) rfl, fin _ _ d9 (row_badL (by show 0 ≠ ks.length; omega)) ⟨by show 0 ≤ 1000; omega, (fun _ h => nomatch h)⟩ rfl⟩
end
end RS
set_option Elab.async false
set_option maxRecDepth 100000
set_option maxHeartbeats 4000000
namespace RS
open PySem PySem.Spec PyProof.Rows L2 GX LM
/-! ### what heads may not be -/
/-- an error class without fields -/
structure PlE (K : PySem.W.Frag) (mg : Str → Option Value) (nm : Str) (C : Addr) : Prop where
  x : PySem.W.excIn K C [.type "ValueError", .type "Exception", .type "BaseException", .type "object"] "ValueError.__new__" = true
  g : mg nm = some (.ref C)
  k : PySem.W.keepIn K (.ref C) = true
  b : PySem.W.subIn K (.ref C) (.type "BaseException") = some true
  t : PySem.W.typeIn K (.ref C) = some (.type "type")
def kindOk (s : Str) : Bool := inV (.str s) [.str "number", .str "word"]
def BadKs (ws : List Str) : Prop := ¬ (1 ≤ ws.length ∧ ws.length ≤ 4 ∧ ∀ s ∈ ws, kindOk s = true)
def wordsD (ws : List Str) : PyData := .tuple (ws.map .str)
/-- whether it is a part of an order -/
def okPart (n : Nat) : List PyData → Bool
  | [.int c, .str s] => decide (0 ≤ c) && decide (c < (n : Int)) && inV (.str s) [.str "up", .str "down"]
  | _ => false
def PartL (ds : List PyData) : Prop := ds.length ≠ 2 ∨ ∃ (c : Int) (s : Str), ds = [.int c, .str s]
section
variable {P : Program} {w : World} {K : PySem.W.Frag} {mg : Str → Option Value} {base : Heap}
def spPartG (K : PySem.W.Frag) : Sp := fun vs H Q _ => ∃ (vk vp : V) (ks : List Bool) (ds : List PyData), vs = [vk, vp] ∧ Dp K H vk (kindsD ks) ∧ Dp K H vp (.tuple ds) ∧ PartL ds ∧ Q (.bl (okPart ks.length ds)) H
theorem okPart_len {n : Nat} {ds : List PyData} (h : ds.length ≠ 2) : okPart n ds = false := by
  match ds, h with
  | [], _ => rfl
  | [a], _ => cases a <;> rfl
  | [_, _], h => exact absurd rfl h
  | a :: b :: c :: l, _ => cases a <;> cases b <;> rfl
theorem is_partG_ok {c : Addr} (D : DefAt K mg "is_part" sIsPart c) (T : Txt K mg) (cN : Cal P w K mg base CX0 1 "is_number" ["value"] (spNum K)) : Cal P w K mg base CX0 2 "is_part" ["kinds", "part"] (spPartG K) := by
  have sc := scIsPart
  obtain ⟨aW, hW, hWS⟩ := T.ways
  refine def_ok0 D sc (fun vs H Q E h => ?_) (fun _ _ _ _ _ _ us hl => match us, hl with | [_, _], _ => rfl) (fun f A outer s H vs Q E hr h => ?_)
  · obtain ⟨vk, vp, ks, ds, rfl, _⟩ := h
    rfl
  · obtain ⟨vk, vp, ks, ds, rfl, hk, hp, hc, k⟩ := h
    refine ⟨_, (pss_cons (ps_if ((pw_or (pt_not (pt_val (pe_callB call_isiD (by rfl) T.isinstance (by decide +kernel) (pa_cons (pv 1) (pa_cons (pe_bltn (v := V.ty "tuple") (u := Value.type "tuple") (by rfl) T.tuple_ (by decide +kernel) rfl) pa_nil))))) (pw_or1 (pt_cmpR op_ne (pe_callB call_lenD (by rfl) T.len PySem.boot_len (pa_cons (pv 1) pa_nil)) pe_int (nomark _)))).pt) (pss_one (ps_ret pe_bl)) pss_nil) (pss_cons (ps_asg (pv 1) (pg_tup (by rfl) (pgs_cons (pg_name (i := 2) sc.nd rfl (Or.inl rfl)) (pgs_cons (pg_name (i := 3) sc.nd rfl (Or.inl rfl)) pgs_nil)))) (pss_one (ps_ret (pe_and (pe_c cN hr (by decide) (by rfl) pass0 (pa_cons (pv 2) pa_nil)) (pe_and (pe_chain op_le op_lt pe_int (pv 2) (pe_callB call_lenD (by rfl) T.len PySem.boot_len (pa_cons (pv 0) pa_nil))) (pe_one (pe_cmpR op_in_seq (pv 3) (pe_glob (v := V.ref aW) (by rfl) hW rfl) (by rfl))))))))), ?_⟩
    refine ⟨_, rfl, _, _, _, rfl, by simp, hp, _, rfl, ?_⟩
    refine iteF ⟨_, rfl, _, _, ds.length, rfl, hp, rfl, rfl, _, rfl, ?_⟩
    by_cases c2 : ds.length = 2
    · obtain ⟨cc, ss, rfl⟩ := hc.resolve_left (fun z => z c2)
      refine iteF ⟨_, rfl, ?_⟩
      cases hp with
      | @tup a xs _ hS hI =>
        cases hI with
        | cons h1 hI =>
          cases hI with
          | cons h2 hI =>
            cases hI
            cases h1
            cases h2
            refine ⟨a, _, rfl, hS, rfl, _, _, rfl, _, _, rfl, rfl, ?_⟩
            refine ⟨_, rfl, _, _, rfl, .int cc, _, rfl, ?_⟩
            have hn : isNum (.int cc) = true := by simp [isNum, isI, isT, tyN]
            rw [hn]
            refine iteT ?_
            refine ⟨_, rfl, _, _, rfl, rfl, _, rfl, ?_⟩
            have ek : okPart ks.length [.int cc, .str ss] = (decide (0 ≤ cc) && decide (cc < (ks.length : Int)) && inV (.str ss) [.str "up", .str "down"]) := rfl
            rw [ek] at k
            by_cases d0 : 0 ≤ cc
            · rw [decide_eq_true d0]
              rw [decide_eq_true d0] at k
              refine iteT ⟨_, rfl, _, _, (ks.map fun b => PyData.str (kindS b)).length, rfl, hk, rfl, _, _, rfl, rfl, _, rfl, ?_⟩
              rw [List.length_map]
              by_cases d1 : cc < (ks.length : Int)
              · rw [decide_eq_true d1]
                rw [decide_eq_true d1] at k
                refine iteT ⟨_, rfl, aW, _, rfl, .inr (hWS _), rfl, rfl, ?_⟩
                show Q (.bl (if false then _ else inV (.str ss) [.str "up", .str "down"])) H
                simpa using k
              · rw [decide_eq_false d1]
                rw [decide_eq_false d1] at k
                exact iteF (by simpa using k)
            · rw [decide_eq_false d0]
              rw [decide_eq_false d0] at k
              exact iteF ⟨_, rfl, iteF (by simpa using k)⟩
    · rw [okPart_len c2] at k
      rw [decide_eq_false (show ¬ (V.int ((ds.length : Nat) : Int) = V.int 2) from fun z => c2 (by have := V.int.inj z; omega))]
      exact iteT k
def spKindsE (K : PySem.W.Frag) (CK p : Addr) : Sp := fun vs H _ E => ∃ (vk : V) (ws : List Str), vs = [vk] ∧ Dp K H vk (wordsD ws) ∧ ws.length ≤ 1000 ∧ BadKs ws ∧ Tab H p ∧ E (.ref CK) none H
theorem check_kindsE_ok {c p CK : Addr} (D : DefAt K mg "check_kinds" sCheckKinds c) (T : Txt K mg) (TB : GxR.TabB base mg c p) (X : PlE K mg "BadKinds" CK) : Cal P w K mg base (L2.CX P w) 2 "check_kinds" ["kinds"] (spKindsE K CK p) := by
  have sc := scCheckKinds
  obtain ⟨aK, hK, hKS⟩ := T.kinds
  obtain ⟨tCol, hC⟩ := T.columns
  refine def_ok D sc (fun vs H Q E h => ?_) (fun _ _ _ _ _ _ us hl => match us, hl with | [_], _ => rfl) (fun f A outer s H vs Q E hr h => ?_)
  · obtain ⟨vk, ws, rfl, _⟩ := h
    rfl
  · obtain ⟨vk, ws, rfl, hk, lz, bad, ht, k⟩ := h
    refine ⟨_, (pss_cons (ps_if ((pw_or (pt_not (pt_val (pe_callB call_isiD (by rfl) T.isinstance (by decide +kernel) (pa_cons (pv 0) (pa_cons (pe_bltn (v := V.ty "tuple") (u := Value.type "tuple") (by rfl) T.tuple_ (by decide +kernel) rfl) pa_nil))))) (pw_or1 (pt_not (pt_chain op_le op_le pe_int (pe_callB call_lenD (by rfl) T.len PySem.boot_len (pa_cons (pv 0) pa_nil)) (pe_glob (v := V.int 4) (by rfl) hC ⟨_, rfl⟩))))).pt) (pss_one (ps_raise rfl (takes_of rfl rfl rfl rfl) (L2.pmk_own PySem.F.excBase_ValueError X.x X.g X.k (raises_own X.b X.t) (by rfl)))) pss_nil) (pss_one (ps_if (pt_not (pt_val (pe_all (own := [("kind", 1)]) (te := tOp (rIn K false) (tVar 1) (tC (.ref aK))) hr rfl T.all TB rfl rfl sc.nd (blkOk_by (N := ["kinds", "kind"]) (sc := defScope sCheckKinds) (own := [("kind", 1)]) (by decide +kernel)) (by decide +kernel) rfl rfl (pi_tup (pv 0)) (fun _ _ _ _ _ _ _ => (pg_name (i := 1) sc.nd rfl (Or.inl rfl))) (fun _ _ _ _ _ _ _ hr => pe_cmpR op_in_seq (pv 1) (pe_glob (v := V.ref aK) (by rfl) hK rfl) (by rfl))))) (pss_one (ps_raise rfl (takes_of rfl rfl rfl rfl) (L2.pmk_own PySem.F.excBase_ValueError X.x X.g X.k (raises_own X.b X.t) (by rfl)))) pss_nil))), ?_⟩
    refine ⟨_, rfl, _, _, _, rfl, by simp, hk, _, rfl, ?_⟩
    refine iteF ⟨_, rfl, _, _, (ws.map PyData.str).length, rfl, hk, rfl, _, _, rfl, rfl, _, rfl, ?_⟩
    rw [List.length_map]
    by_cases c1 : 1 ≤ ws.length
    · rw [show decide ((1 : Int) ≤ (ws.length : Nat)) = true from decide_eq_true (by omega)]
      refine iteT ⟨_, _, rfl, rfl, _, rfl, ?_⟩
      by_cases c4 : ws.length ≤ 4
      · rw [show decide (((ws.length : Nat) : Int) ≤ 4) = true from decide_eq_true (by omega)]
        refine iteF ?_
        cases hk with
        | @tup a xs _ hS hI =>
          refine ⟨_, rfl, a, rfl, ⟨xs, hS⟩, ht, ?_⟩
          have lx : xs.length = ws.length := by rw [dpLen hI, List.length_map]
          refine all_by xs.length (fun i H' => H' = H ∧ ∀ s ∈ ws.take i, kindOk s = true) ⟨rfl, fun _ h => nomatch h⟩ (fun i H' hi ⟨e, hz⟩ => ?_) (fun H' ⟨e, hz⟩ => ?_)
          · subst e
            refine ⟨⟨xs, xs[i], hS, List.getElem?_eq_getElem hi⟩, fun y H2 ⟨e, hy⟩ => ?_⟩
            subst e
            have ey := hy xs hS
            obtain ⟨d, ed, hd⟩ := dpGet hI ey
            obtain ⟨x, en, rfl⟩ : ∃ x, ws[i]? = some x ∧ d = PyData.str x := by
              rw [List.getElem?_map] at ed
              cases q : ws[i]? with
              | none => rw [q] at ed; cases ed
              | some b => rw [q] at ed; exact ⟨b, rfl, (Option.some.inj ed).symm⟩
            cases hd
            refine ⟨rfl, _, rfl, aK, _, rfl, .inr (hKS _), rfl, rfl, ?_⟩
            refine ⟨kindOk x, rfl, fun e => .mk hi ⟨rfl, fun z hz' => ?_⟩, fun _ => ⟨false, rfl, iteT k⟩⟩
            rw [List.take_add_one, en] at hz'
            rcases List.mem_append.mp hz' with h | h
            · exact hz z h
            · rw [show z = x by simpa using h]
              exact e
          · refine absurd ⟨c1, c4, fun z h => hz z ?_⟩ bad
            rw [lx, List.take_length]
            exact h
      · rw [show decide (((ws.length : Nat) : Int) ≤ 4) = false from decide_eq_false (by omega)]
        exact iteT k
    · rw [show decide ((1 : Int) ≤ (ws.length : Nat)) = false from decide_eq_false (by omega)]
      exact iteF ⟨_, rfl, iteT k⟩
def spSizeE (CM : Addr) : Sp := fun vs H _ E => ∃ (n : Int), vs = [.int n] ∧ (n < 1 ∨ 24 < n) ∧ E (.ref CM) none H
theorem check_sizeE_ok {c CM : Addr} (D : DefAt K mg "check_size" sCheckSize c) (T : Txt K mg) (X : PlE K mg "BadRoom" CM) (cN : Cal P w K mg base CX0 1 "is_number" ["value"] (spNum K)) : Cal P w K mg base (L2.CX P w) 2 "check_size" ["size"] (spSizeE CM) := by
  have sc := scCheckSize
  obtain ⟨tR, hR⟩ := T.room
  refine def_ok D sc (fun vs H Q E h => ?_) (fun _ _ _ _ _ _ us hl => match us, hl with | [_], _ => rfl) (fun f A outer s H vs Q E hr h => ?_)
  · obtain ⟨n, rfl, _⟩ := h
    rfl
  · obtain ⟨n, rfl, h1, k⟩ := h
    refine ⟨_, (pss_one (ps_if ((pw_or (pt_not (pt_val (pe_c cN hr (by decide) (by rfl) pass0 (pa_cons (pv 0) pa_nil)))) (pw_or1 (pt_not (pt_chain op_le op_le pe_int (pv 0) (pe_glob (v := V.int 24) (by rfl) hR ⟨_, rfl⟩))))).pt) (pss_one (ps_raise rfl (takes_of rfl rfl rfl rfl) (L2.pmk_own PySem.F.excBase_ValueError X.x X.g X.k (raises_own X.b X.t) (by rfl)))) pss_nil)), ?_⟩
    refine ⟨_, rfl, _, _, rfl, .int n, _, rfl, ?_⟩
    have hn : isNum (.int n) = true := by simp [isNum, isI, isT, tyN]
    rw [hn]
    refine iteF ⟨_, rfl, _, _, rfl, rfl, _, rfl, ?_⟩
    by_cases c1 : 1 ≤ n
    · rw [decide_eq_true c1]
      refine iteT ⟨_, _, rfl, rfl, _, rfl, ?_⟩
      rw [decide_eq_false (show ¬ n ≤ 24 by omega)]
      exact iteT k
    · rw [decide_eq_false c1]
      exact iteF ⟨_, rfl, iteT k⟩
def partL (q : Nat × Bool) : List PyData := [.int q.1, .str (wayS q.2)]
/-- an order of which a part is none -/
def BadOrd (n : Nat) (ods : List (List PyData)) : Prop := ods = [] ∨ ∃ (os : List (Nat × Bool)) (b : List PyData) (rest : List (List PyData)), ods = os.map partL ++ b :: rest ∧ (∀ p ∈ os, p.1 < n) ∧ (os.map (·.1)).Nodup ∧ PartL b ∧ (okPart n b = false ∨ ∃ q : Nat × Bool, b = partL q ∧ q.1 < n ∧ q.1 ∈ os.map (·.1))
theorem okPart_good {n : Nat} {q : Nat × Bool} (h : q.1 < n) : okPart n (partL q) = true := by
  show (decide ((0 : Int) ≤ (q.1 : Int)) && decide ((q.1 : Int) < (n : Int)) && inV (.str (wayS q.2)) [.str "up", .str "down"]) = true
  rw [decide_eq_true (Int.natCast_nonneg _), decide_eq_true (by omega), inV_way]
  rfl
def spOrderE (K : PySem.W.Frag) (CO : Addr) : Sp := fun vs H _ E => ∃ (vk vo : V) (ks : List Bool) (ods : List (List PyData)), vs = [vk, vo] ∧ Dp K H vk (kindsD ks) ∧ Dp K H vo (rowsD ods) ∧ ods.length ≤ 900 ∧ BadOrd ks.length ods ∧ ∀ H', Same H H' → E (.ref CO) none H'
theorem check_orderE_ok {c CO : Addr} (D : DefAt K mg "check_order" sCheckOrder c) (T : Txt K mg) (X : PlE K mg "BadOrder" CO) (cP : Cal P w K mg base CX0 2 "is_part" ["kinds", "part"] (spPartG K)) : Cal P w K mg base (L2.CX P w) 3 "check_order" ["kinds", "order"] (spOrderE K CO) := by
  have sc := scCheckOrder
  refine def_ok D sc (fun vs H Q E h => ?_) (fun _ _ _ _ _ _ us hl => match us, hl with | [_, _], _ => rfl) (fun f A outer s H vs Q E hr h => ?_)
  · obtain ⟨vk, vo, ks, ods, rfl, _⟩ := h
    rfl
  · obtain ⟨vk, vo, ks, ods, rfl, hk, ho, hz, bad, k⟩ := h
    refine ⟨_, (pss_cons (ps_if ((pw_or (pt_not (pt_val (pe_callB call_isiD (by rfl) T.isinstance (by decide +kernel) (pa_cons (pv 1) (pa_cons (pe_bltn (v := V.ty "list") (u := Value.type "list") (by rfl) T.list_ (by decide +kernel) rfl) pa_nil))))) (pw_or1 (pt_not (pt_truth (pv 1) (by intro _; rfl))))).pt) (pss_one (ps_raise rfl (takes_of rfl rfl rfl rfl) (L2.pmk_own PySem.F.excBase_ValueError X.x X.g X.k (raises_own X.b X.t) (by rfl)))) pss_nil) (pss_cons (ps_set (i := 2) sc.nd rfl (Or.inl rfl) (pe_lst pa_nil)) (pss_one (ps_for (passes_of rfl) rfl (pi_list (pv 1)) (pg_name (i := 3) sc.nd rfl (Or.inl rfl)) (pss_cons (ps_if ((pw_or (pt_not (pt_val (pe_c cP hr (by decide) (by rfl) pass0 (pa_cons (pv 0) (pa_cons (pv 3) pa_nil))))) (pw_or1 (pt_cmpR op_in_seq (pe_ix ixD (pv 3) pe_int (fun _ _ => rfl)) (pv 2) (by rfl)))).pt) (pss_one (ps_raise rfl (takes_of rfl rfl rfl rfl) (L2.pmk_own PySem.F.excBase_ValueError X.x X.g X.k (raises_own X.b X.t) (by rfl)))) pss_nil) (pss_one (ps_expr (pe_bm PySem.F.plainAttrs_list PySem.F.slot_list_append PySem.F.type_list_append mt_append (pv 2) (pa_cons (pe_ix ixD (pv 3) pe_int (fun _ _ => rfl)) pa_nil))))))))), ?_⟩
    refine ⟨_, rfl, _, _, _, rfl, by simp, ho, _, rfl, ?_⟩
    cases ho with
    | @lst a xs _ hS hI =>
      have lx : xs.length = ods.length := by rw [dpLen hI, List.length_map]
      refine iteF ⟨_, rfl, !xs.isEmpty, .inl ⟨xs, hS, rfl⟩, ?_⟩
      rcases bad with rfl | ⟨os, b, rest, rfl, hcol, hnd, hpl, hb⟩
      · have : xs = [] := List.eq_nil_of_length_eq_zero lx
        subst this
        exact iteT (k _ (Same.refl H))
      · have ne : xs.isEmpty = false := by
          cases xs with
          | nil => simp at lx
          | cons _ _ => rfl
        rw [ne]
        rw [List.length_append, List.length_map, List.length_cons] at hz lx
        refine iteF ⟨Nat.zero_le _, fun p hp => ?_⟩
        have s0 : Same H (upd H p (.lst [])) := fun b o e => by rw [upd_ne (ne_of_none e hp)]; exact e
        refine ⟨_, rfl, a, rfl, ⟨_, s0.seq hS⟩, for_list (K := K) (a := a) (xs := xs) (fun i σ H' => ∃ v3 : Option V, σ = [some vk, some (.ref a), some (.ref p), v3] ∧ Same H H' ∧ H' p = some (.lst ((os.take i).map fun q => V.int q.1)) ∧ i ≤ os.length)
          ⟨none, rfl, s0, upd_same, Nat.zero_le _⟩ (fun i σ H' _ ⟨_, _, sm, _⟩ => sm.seq hS) ?_ ?_⟩
        · rintro i y σ H' hi ⟨v3, rfl, sm, hL, hio⟩
          obtain ⟨d, ed, hd⟩ := dpGet hI hi
          have allI : ∀ (l : List (Nat × Bool)), (List.all (l.map fun q => V.int q.1) fun z => match z with | .int _ => true | _ => true) = true := fun l => by
            rw [List.all_eq_true]
            intro z _
            cases z <;> rfl
          rcases Nat.lt_or_ge i os.length with c1 | c1
          · obtain ⟨⟨c, bb⟩, eq⟩ : ∃ q, os[i]? = some q := ⟨_, List.getElem?_eq_getElem c1⟩
            have ed' : d = .tuple (partL (c, bb)) := by
              rw [List.getElem?_map, List.getElem?_append_left (by rw [List.length_map]; exact c1), List.getElem?_map, eq] at ed
              exact (Option.some.inj ed).symm
            subst ed'
            have hm := List.mem_of_getElem? eq
            have hd' := dp_same sm _ hd
            refine ⟨_, rfl, _, rfl, vk, y, ks, partL (c, bb), rfl, dp_same sm _ hk, hd', .inr ⟨_, _, rfl⟩, _, rfl, ?_⟩
            rw [okPart_good (hcol _ hm)]
            refine iteF ⟨_, rfl, _, _, 0, .int c, hd', rfl, rfl, rfl, fun v hv => ?_⟩
            cases hv
            have notin : inV (.int c) ((os.take i).map fun q => V.int q.1) = false := by
              rw [Bool.eq_false_iff]
              intro z
              unfold inV at z
              obtain ⟨u, hu, he⟩ := List.any_eq_true.mp z
              obtain ⟨q, hq, rfl⟩ := List.mem_map.mp hu
              obtain ⟨j, hj⟩ := List.getElem?_of_mem hq
              rw [List.getElem?_take] at hj
              split at hj
              · rename_i hji
                have e1 : q.1 = c := by
                  simp [eqV] at he
                  omega
                have h1 : (os.map (·.1))[j]? = some c := by rw [List.getElem?_map, hj, ← e1]; rfl
                have h2 : (os.map (·.1))[i]? = some c := by rw [List.getElem?_map, eq]; rfl
                have := nodup_nat hnd h1 h2
                omega
              · cases hj
            refine ⟨_, rfl, p, _, rfl, .inl (SqL.of hL), rfl, ?_, ?_⟩
            · rw [List.all_eq_true]
              intro z hz
              obtain ⟨q, _, rfl⟩ := List.mem_map.mp hz
              rfl
            show ∃ k, V.bl (if false then _ else inV (.int c) ((os.take i).map fun q => V.int q.1)) = V.bl k ∧ _
            rw [notin]
            refine ⟨false, rfl, iteF ?_⟩
            refine ⟨_, rfl, .inl ⟨rfl, _, SqL.of hL⟩, _, rfl, _, _, 0, .int c, hd', rfl, rfl, rfl, fun v hv => ?_⟩
            cases hv
            refine ⟨p, _, _, rfl, rfl, hL, small1000 (by rw [List.length_map, List.length_take]; omega), ?_⟩
            refine ⟨_, rfl, fun b' o e => ?_, ?_, by omega⟩
            · rw [upd_ne (fun z => by subst z; rw [hp] at e; cases e)]
              exact sm b' o e
            · rw [upd_same, List.take_add_one, eq, List.map_append]
              rfl
          · have eio : i = os.length := by omega
            have ed' : d = .tuple b := by
              rw [eio, List.getElem?_map, List.getElem?_append_right (by rw [List.length_map]; exact Nat.le_refl _), List.length_map, Nat.sub_self] at ed
              exact (Option.some.inj ed).symm
            subst ed'
            have hd' := dp_same sm _ hd
            refine ⟨_, rfl, _, rfl, vk, y, ks, b, rfl, dp_same sm _ hk, hd', hpl, _, rfl, ?_⟩
            rcases hb with hb | ⟨⟨c, bb⟩, rfl, hcn, hcm⟩
            · rw [hb]
              exact iteT (k _ sm)
            · rw [okPart_good hcn]
              refine iteF ⟨_, rfl, _, _, 0, .int c, hd', rfl, rfl, rfl, fun v hv => ?_⟩
              cases hv
              have isin : inV (.int c) ((os.take i).map fun q => V.int q.1) = true := by
                unfold inV
                obtain ⟨q, hq, e⟩ := List.mem_map.mp hcm
                refine List.any_eq_true.mpr ⟨.int q.1, List.mem_map.mpr ⟨q, by rw [eio, List.take_length]; exact hq, rfl⟩, ?_⟩
                have e : q.1 = c := e
                simp [eqV, e]
              refine ⟨_, rfl, p, _, rfl, .inl (SqL.of hL), rfl, ?_, ?_⟩
              · rw [List.all_eq_true]
                intro z hz
                obtain ⟨q, _, rfl⟩ := List.mem_map.mp hz
                rfl
              show ∃ k, V.bl (if false then _ else inV (.int c) ((os.take i).map fun q => V.int q.1)) = V.bl k ∧ _
              rw [isin]
              exact ⟨true, rfl, iteT (k _ sm)⟩
        · rintro σ H' ⟨v3, rfl, sm, hL, hio⟩
          omega
def spRowsE (K : PySem.W.Frag) (CR pW pR : Addr) : Sp := fun vs H _ E => ∃ (vk vr : V) (ks : List Bool) (ds : List PyData) (m i : Nat) (d : PyData), vs = [vk, vr, .int m] ∧ Dp K H vk (kindsD ks) ∧ Dp K H vr (.list ds) ∧ ks.length ≤ 1000 ∧ ds.length ≤ 150 ∧ (∀ d ∈ ds, fitR d) ∧ ds[i]? = some d ∧ i ≤ m ∧ (∀ e ∈ ds.take i, isRow ks e = true) ∧ (i = m ∨ isRow ks d = false) ∧ Tab H pW ∧ Tab H pR ∧
  ∀ (H' : Hp) (dd : Addr), Same H H' → H' dd = some (.xd [("place", .int (i : Nat))]) → E (.ref CR) (some dd) H'
theorem check_rowsE_ok {c CR pW pR : Addr} (D : DefAt K mg "check_rows" sCheckRows c) (T : Txt K mg) (NE : NumE P w K mg base "BadRows" "place" CR) (cR : Cal P w K mg base CX0 5 "is_row" ["kinds", "row"] (spRow K pW pR)) : Cal P w K mg base (L2.CX P w) 6 "check_rows" ["kinds", "rows", "most"] (spRowsE K CR pW pR) := by
  have sc := scCheckRows
  refine def_ok D sc (fun vs H Q E h => ?_) (fun _ _ _ _ _ _ us hl => match us, hl with | [_, _, _], _ => rfl) (fun f A outer s H vs Q E hr h => ?_)
  · obtain ⟨vk, vr, ks, ds, m, i, d, rfl, _⟩ := h
    rfl
  · obtain ⟨vk, vr, ks, ds, m, i0, d0, rfl, hk, hd, hlk, hlz, hfit, e0, im, hgood, hbad, hW, hR, k⟩ := h
    refine ⟨_, (pss_one (ps_for (passes_of rfl) rfl (pi_enum (by rfl) T.enumerate (pa_cons (pv 1) pa_nil)) (pg_tup (by rfl) (pgs_cons (pg_name (i := 3) sc.nd rfl (Or.inl rfl)) (pgs_cons (pg_name (i := 4) sc.nd rfl (Or.inl rfl)) pgs_nil))) (pss_one (ps_if ((pw_or (pt_cmpR op_ge (pv 3) (pv 2) (nomark _)) (pw_or1 (pt_not (pt_val (pe_c cR hr (by decide) (by rfl) pass0 (pa_cons (pv 0) (pa_cons (pv 4) pa_nil))))))).pt) (pss_one (ps_raise rfl (takes_of rfl rfl rfl rfl) (pmk_num NE (hr.mono (by decide)) (by rfl) (pv 3)))) pss_nil)))), ?_⟩
    have hi0 : i0 < ds.length := (List.getElem?_eq_some_iff.mp e0).1
    cases hd with
    | @lst a xs _ hS hI =>
      have lx : xs.length = ds.length := dpLen hI
      refine ⟨_, rfl, a, xs, rfl, hS, for_by xs.length (fun i σ H' => ∃ v3 v4 : Option V, σ = [some vk, some (.ref a), some (.int m), v3, v4] ∧ Same H H' ∧ i ≤ i0) ⟨none, none, rfl, Same.refl H, Nat.zero_le _⟩ ?_ ?_⟩
      · rintro i σ H' hi ⟨v3, v4, rfl, sm, il⟩
        refine ⟨⟨xs, xs[i], sm.seq hS, List.getElem?_eq_getElem hi⟩, fun y H2 ⟨TT, x, ey, hT, eH, hx⟩ => ?_⟩
        subst ey eH
        have ex := hx xs (sm.seq hS)
        obtain ⟨d, ed, hdx⟩ := dpGet hI ex
        have sm2 : Same H (upd H' TT (.tup [.int (i : Nat), x])) := fun b o e => by
          rw [upd_ne (ne_of_none (sm b o e) hT)]
          exact sm b o e
        refine ⟨TT, _, rfl, SqT.of upd_same, rfl, _, _, rfl, _, _, rfl, rfl, ?_⟩
        refine ⟨_, rfl, _, rfl, _, _, rfl, rfl, _, rfl, ?_⟩
        rcases Nat.lt_or_ge i i0 with c1 | c1
        · have e1 : decide (((i : Nat) : Int) ≥ (m : Int)) = false := decide_eq_false (by omega)
          rw [e1]
          refine iteF ⟨_, rfl, _, rfl, vk, x, ks, d, rfl, dp_same sm2 _ hk, dp_same sm2 _ hdx, hlk, hfit d (List.mem_of_getElem? ed), sm2 _ _ hW, sm2 _ _ hR, fun H3 s3 => ⟨_, rfl, ?_⟩⟩
          rw [hgood d (List.mem_iff_getElem?.mpr ⟨i, by rw [List.getElem?_take, if_pos c1]; exact ed⟩)]
          exact iteF ⟨_, _, rfl, sm2.trans s3, by omega⟩
        · have eii : i = i0 := by omega
          subst eii
          rw [ed] at e0
          cases e0
          by_cases c2 : i = m
          · rw [show decide (((i : Nat) : Int) ≥ (m : Int)) = true from decide_eq_true (by omega)]
            refine iteT ?_
            exact ⟨_, rfl, num_end (n := i) (by omega) fun dd hd => k _ dd (sameNew sm2 hd) upd_same⟩
          · have hb := hbad.resolve_left c2
            rw [show decide (((i : Nat) : Int) ≥ (m : Int)) = false from decide_eq_false (by omega)]
            refine iteF ⟨_, rfl, _, rfl, vk, x, ks, d0, rfl, dp_same sm2 _ hk, dp_same sm2 _ hdx, hlk, hfit d0 (List.mem_of_getElem? ed), sm2 _ _ hW, sm2 _ _ hR, fun H3 s3 => ⟨_, rfl, ?_⟩⟩
            rw [hb]
            refine iteT ?_
            exact ⟨_, rfl, num_end (n := i) (by omega) fun dd hd => k _ dd (sameNew (sm2.trans s3) hd) upd_same⟩
      · rintro σ H' ⟨v3, v4, rfl, sm, il⟩
        omega
end
end RS
set_option Elab.async false
set_option maxRecDepth 100000
set_option maxHeartbeats 4000000
set_option pp.maxSteps 400
namespace RS
open PySem PySem.Spec PyProof.Rows L2 GX HQ LM
/-! ### a Sieve as it lies in the heap -/
def fldsS (vk vo : V) (n : Nat) (G : Addr) : List (Str × V) := [("kinds", vk), ("order", vo), ("came", .int (n : Nat)), ("queue", .ref G)]
theorem sok : ¬ (("order" : Str) = "kinds") := by decide +kernel
theorem sck : ¬ (("came" : Str) = "kinds") := by decide +kernel
theorem sco : ¬ (("came" : Str) = "order") := by decide +kernel
theorem sqk : ¬ (("queue" : Str) = "kinds") := by decide +kernel
theorem sqo : ¬ (("queue" : Str) = "order") := by decide +kernel
theorem sqc : ¬ (("queue" : Str) = "came") := by decide +kernel
section
variable {vk vo : V} {n m : Nat} {G : Addr}
theorem fs_kinds : (fldsS vk vo n G).lookup ("kinds" : Str) = some vk := lk_eq
theorem fs_order : (fldsS vk vo n G).lookup ("order" : Str) = some vo := (lk_ne sok).trans lk_eq
theorem fs_came : (fldsS vk vo n G).lookup ("came" : Str) = some (.int (n : Nat)) := (lk_ne sck).trans ((lk_ne sco).trans lk_eq)
theorem fs_queue : (fldsS vk vo n G).lookup ("queue" : Str) = some (.ref G) := (lk_ne sqk).trans ((lk_ne sqo).trans ((lk_ne sqc).trans lk_eq))
theorem fs_put : putF "came" (.int (m : Nat)) (fldsS vk vo n G) = fldsS vk vo m G := by
  unfold fldsS
  rw [putF_ne (Ne.symm sck), putF_ne (Ne.symm sco), putF_eq]
theorem fs_no {f : Str} (h1 : ¬ f = "kinds") (h2 : ¬ f = "order") (h3 : ¬ f = "came") (h4 : ¬ f = "queue") : (fldsS vk vo n G).lookup f = none := (lk_ne h1).trans ((lk_ne h2).trans ((lk_ne h3).trans ((lk_ne h4).trans rfl)))
end
structure SvAt (K : PySem.W.Frag) (C : Addr) (ks : List Bool) (os : List (Nat × Bool)) (H0 H : Hp) (x G : Addr) (n : Nat) (gq : List Pr) : Prop where
  same : Same H0 H
  x0 : H0 x = none
  g0 : H0 G = none
  oz : os.length ≤ 1000
  ob : ∃ dx vk vo, H x = some (.ins C dx (fldsS vk vo n G)) ∧ Dp K H0 vk (kindsD ks) ∧ Dp K H0 vo (orderD os)
  g : ∃ zs : List Z, LstI K os H G zs gq ∧ From ltz zs.length (nth zs) 0
  gok : RowsOk os ks gq
/-- all but x and G stays -/
def Frv (H H' : Hp) (x G : Addr) : Prop := ∀ b o, H b = some o → b ≠ x → b ≠ G → H' b = some o
section
variable {K : PySem.W.Frag} {C : Addr} {ks : List Bool} {os : List (Nat × Bool)} {H0 H H2 : Hp} {x G : Addr} {n : Nat} {gq : List Pr}
theorem Frv.trans {H1 : Hp} (a : Frv H H1 x G) (b : Frv H1 H2 x G) : Frv H H2 x G := fun c o e n1 n2 => b c o (a c o e n1 n2) n1 n2
theorem Frv.of (s : Same H H2) : Frv H H2 x G := fun c o e _ _ => s c o e
theorem Frv.updG {o : HO} : Frv H (upd H G o) x G := fun c o e _ n => (upd_ne n).trans e
theorem Frv.updx {o : HO} : Frv H (upd H x o) x G := fun c o e n _ => (upd_ne n).trans e
theorem SvAt.kp (h : SvAt K C ks os H0 H x G n gq) (f : Frv H H2 x G) : KpS H H2 := fun b o e n1 n2 => by
  obtain ⟨dx, vk, vo, hx, _⟩ := h.ob
  obtain ⟨zs, hg, _⟩ := h.g
  exact f b o e (fun z => by rw [z, hx] at e; exact n2 _ _ _ (Option.some.inj e).symm) (fun z => by rw [z, hg.g] at e; exact n1 _ (Option.some.inj e).symm)
theorem SvAt.same2 (h : SvAt K C ks os H0 H x G n gq) (f : Frv H H2 x G) : Same H0 H2 := fun b o e => f b o (h.same b o e) (ne_of_none e h.x0) (ne_of_none e h.g0)
/-- other things come or change -/
theorem SvAt.move (h : SvAt K C ks os H0 H x G n gq) (k : KpS H H2) (s : Same H0 H2) (ex : H2 x = H x) (eg : H2 G = H G) : SvAt K C ks os H0 H2 x G n gq := by
  obtain ⟨dx, vk, vo, hx, hk, ho⟩ := h.ob
  obtain ⟨zs, hg, F⟩ := h.g
  exact ⟨s, h.x0, h.g0, h.oz, ⟨dx, vk, vo, ex.trans hx, hk, ho⟩, ⟨zs, hg.move h.gok k (eg.trans hg.g), F⟩, h.gok⟩
theorem SvAt.grow (h : SvAt K C ks os H0 H x G n gq) (s : Same H H2) : SvAt K C ks os H0 H2 x G n gq := by
  obtain ⟨dx, vk, vo, hx, hk, ho⟩ := h.ob
  obtain ⟨zs, hg, F⟩ := h.g
  exact ⟨h.same.trans s, h.x0, h.g0, h.oz, ⟨dx, vk, vo, s _ _ hx, hk, ho⟩, ⟨zs, hg.move h.gok (.of s) (s _ _ hg.g), F⟩, h.gok⟩
end
theorem sqL_ins {K : PySem.W.Frag} {H : Hp} {a x C dx : Addr} {fs : List (Str × V)} {o' : HO} {xs : List V} (hx : H x = some (.ins C dx fs)) (h : SqL K H a xs) : SqL K (upd H x o') a xs := by
  rcases h with (h | ⟨o, h⟩) | h
  · exact .inl (.inl ((upd_ne fun z => by rw [z, hx] at h; cases h).trans h))
  · exact .inl (.inr ⟨o, (upd_ne fun z => by rw [z, hx] at h; cases h).trans h⟩)
  · exact .inr h
theorem tuple_item7 {K : PySem.W.Frag} {H : Hp} {u : V} {os : List (Nat × Bool)} {q : Pr} (h : Dp K H u (itemD os q)) : ∃ a vr vt, u = .ref a ∧ SqT K H a [vr, vt] ∧ Dp K H vr (intsD (rankOf os q)) ∧ Dp K H vt (pairD q) := by
  cases h with
  | @tup a xs _ hS hI =>
    cases hI with
    | @cons vR _ _ _ h1 hI =>
      cases hI with
      | @cons vT _ _ _ h2 hI =>
        cases hI
        exact ⟨_, _, _, rfl, hS, h1, h2⟩
/-! ### the promises -/
def spSvI (K : PySem.W.Frag) (C pK : Addr) : Sp := fun vs H Q _ => ∃ (x dx O : Addr) (vk : V) (ks : List Bool) (os : List (Nat × Bool)) (xs : List V), vs = [.ref x, vk, .ref O] ∧ H x = some (.ins C dx []) ∧ Dp K H vk (kindsD ks) ∧ 1 ≤ ks.length ∧ ks.length ≤ 4 ∧ SqL K H O xs ∧ DpAll K H xs (os.map partD) ∧ OkOrder ks.length os ∧ os.length ≤ 1000 ∧ Tab H pK ∧
  ∀ (H' : Hp) (O' G : Addr), H O' = none → H G = none → O' ≠ G → O' ≠ x → H' x = some (.ins C dx (fldsS vk (.ref O') 0 G)) → H' O' = some (.lst xs) → H' G = some (.lst []) → (∀ b o, H b = some o → b ≠ x → H' b = some o) → Q .non H'
def spSvPut (K : PySem.W.Frag) (C CR pW pR : Addr) : Sp := fun vs H Q E => ∃ (x G : Addr) (vr : V) (d : PyData) (ks : List Bool) (os : List (Nat × Bool)) (H0 : Hp) (n : Nat) (gq : List Pr), vs = [.ref x, vr] ∧ SvAt K C ks os H0 H x G n gq ∧ Dp K H vr d ∧ fitR d ∧ ks.length ≤ 1000 ∧ Tab H pW ∧ Tab H pR ∧ gq.length ≤ 900 ∧
  ((isRow ks d = false ∧ ∀ (H' : Hp) (dd : Addr), Same H H' → H' dd = some (.xd [("place", .int ((0 : Nat) : Int))]) → E (.ref CR) (some dd) H') ∨
    ∃ r, d = .tuple r ∧ n < 120 ∧ isRow ks (.tuple r) = true ∧ Fits os r ∧ ∀ (H' : Hp) (gq' : List Pr), SvAt K C ks os H0 H' x G (n + 1) gq' → gq'.Perm ((n, r) :: gq) → Frv H H' x G → Q (.int (n : Nat)) H')
def spSvTake (K : PySem.W.Frag) (C CE : Addr) : Sp := fun vs H Q E => ∃ (x G : Addr) (ks : List Bool) (os : List (Nat × Bool)) (H0 : Hp) (n : Nat) (gq : List Pr), vs = [.ref x] ∧ SvAt K C ks os H0 H x G n gq ∧
  ((gq = [] ∧ E (.ref CE) none H) ∨
    (gq ≠ [] ∧ ∀ (H' : Hp) (v : V) (q : Pr) (gq' : List Pr), SvAt K C ks os H0 H' x G n gq' → gq.Perm (q :: gq') → (∀ y ∈ gq', before os y q = false) → Dp K H' v (pairD q) → Frv H H' x G → Q v H'))
def spSvRem (K : PySem.W.Frag) (C : Addr) : Sp := fun vs H Q _ => ∃ (x G : Addr) (ks : List Bool) (os : List (Nat × Bool)) (H0 : Hp) (n : Nat) (gq : List Pr), vs = [.ref x] ∧ SvAt K C ks os H0 H x G n gq ∧ Q (.int (gq.length : Nat)) H
structure TxS (K : PySem.W.Frag) (C : Addr) : Prop where
  cl : Cls K C
  nK : NoAttr K C "kinds"
  nO : NoAttr K C "order"
  nC : NoAttr K C "came"
  nQ : NoAttr K C "queue"
section
variable {P : Program} {w : World} {K : PySem.W.Frag} {mg : Str → Option Value} {base : Heap}
theorem scSvI : FnScope ["self", "kinds", "order"] ["self", "kinds", "order"] (defScope s_Sieve_init) := ⟨rfl, rfl, rfl, by decide +kernel, rfl, by decide +kernel, by decide +kernel⟩
theorem svinit_ok {f C pK : Addr} {fd : FuncData} (M : Mk K C f) (F : L2.Fun K "__init__" "Sieve.__init__" s_Sieve_init f fd) (X : TxS K C) (T : Txt K mg) (hm : mg "Sieve" = some (.ref C)) (cK : Cal P w K mg base CX0 2 "check_kinds" ["kinds"] (spCheckKinds K pK)) (cO : Cal P w K mg base CX0 3 "check_order" ["kinds", "order"] (spCheckOrder K)) :
    MakC P w K mg base CX0 4 "Sieve" C ["self", "kinds", "order"] (spSvI K C pK) := by
  have sc := scSvI
  refine ⟨f, fd, M, ?_, hm, F.binds (fun _ _ _ _ _ _ us hl => match us, hl with | [_, _, _], _ => rfl)⟩
  refine F.ok sc (fun vs H Q E h => ?_) (fun cdv A outer s H vs Q E hr h => ?_)
  · obtain ⟨x, dx, O, vk, ks, os, xs, rfl, _⟩ := h
    rfl
  · obtain ⟨x, dx, O, vk, ks, os, xs, rfl, hx, hk, k1, k4, hO, hd, ok, oz, ht, k⟩ := h
    refine ⟨_, (pss_cons (ps_expr (pe_c cK hr (by decide) (by rfl) pass0 (pa_cons (pv 1) pa_nil))) (pss_cons (ps_expr (pe_c cO hr (by decide) (by rfl) pass0 (pa_cons (pv 1) (pa_cons (pv 2) pa_nil)))) (pss_cons (ps_fld (pv 0) (pv 1) rfl) (pss_cons (ps_fld (pv 0) (pe_callTy call_list_of (by rfl) T.list_ (by decide +kernel) (pa_cons (pv 2) pa_nil)) rfl) (pss_cons (ps_fld (pv 0) pe_int rfl) (pss_one (ps_fld (pv 0) (pe_lst pa_nil) rfl))))))), ?_⟩
    refine ⟨_, rfl, vk, ks, rfl, hk, k1, k4, ht, ?_⟩
    refine ⟨_, rfl, _, rfl, vk, .ref O, ks, os, rfl, hk, .lst hO hd, ok, oz, fun H1 s1 => ?_⟩
    have hx1 := s1 _ _ hx
    refine ⟨_, rfl, _, rfl, x, C, dx, _, rfl, hx1, X.cl, X.nK, by show 0 < 1000; decide, ?_⟩
    have sO : SqL K (upd H1 x (.ins C dx (putF "kinds" vk []))) O xs := sqL_ins hx1 (s1.seq hO)
    refine ⟨_, rfl, O, _, rfl, .inl sO, fun O' hO' => ?_⟩
    have nOx : x ≠ O' := fun z => by rw [← z, upd_same] at hO'; cases hO'
    have hO1 := upd_no hO'
    refine ⟨_, rfl, x, C, dx, putF "kinds" vk [], rfl, (upd_ne nOx).trans upd_same, X.cl, X.nO, by show 1 < 1000; decide, ?_⟩
    refine ⟨_, rfl, x, C, dx, putF "order" (.ref O') (putF "kinds" vk []), rfl, upd_same, X.cl, X.nC, (lenF (n := 1) (by show 1 ≤ 1; decide) (by decide)), ?_⟩
    refine ⟨Nat.zero_le _, fun G hG => ?_⟩
    have nGx : x ≠ G := fun z => by rw [← z, upd_same] at hG; cases hG
    have hG1 := upd_no (upd_no hG)
    have nOG : O' ≠ G := fun z => by rw [← z, upd_same] at hG1; cases hG1
    have hG2 := upd_no (upd_no hG1)
    refine ⟨_, rfl, x, C, dx, putF "came" (.int ((0 : Nat) : Int)) (putF "order" (.ref O') (putF "kinds" vk [])), rfl, (upd_ne nGx).trans upd_same, X.cl, X.nQ, (lenF (n := 2) (lenF1 (n := 1) (by show 1 ≤ 1; decide)) (by decide)), ?_⟩
    refine k _ O' G (s1.free hO1) (s1.free hG2) nOG (Ne.symm nOx) ?_ ?_ ?_ fun b o e nb => ?_
    · rw [upd_same]
      exact congrArg (fun l => some (HO.ins C dx l)) (by
        show putF "queue" (.ref G) (putF "came" (.int ((0 : Nat) : Int)) (putF "order" (.ref O') [(("kinds" : Str), vk)])) = _
        rw [putF_ne (Ne.symm sok)]
        show putF "queue" (.ref G) (putF "came" (.int ((0 : Nat) : Int)) [(("kinds" : Str), vk), ("order", .ref O')]) = _
        rw [putF_ne (Ne.symm sck), putF_ne (Ne.symm sco)]
        show putF "queue" (.ref G) [(("kinds" : Str), vk), ("order", .ref O'), ("came", .int ((0 : Nat) : Int))] = _
        rw [putF_ne (Ne.symm sqk), putF_ne (Ne.symm sqo), putF_ne (Ne.symm sqc)]
        rfl)
    · rw [upd_ne (Ne.symm nOx), upd_ne nOG, upd_ne (Ne.symm nOx), upd_ne (Ne.symm nOx), upd_same]
    · rw [upd_ne (Ne.symm nGx), upd_same]
    · have e1 := s1 _ _ e
      rw [upd_ne nb, upd_ne (ne_of_none e1 hG2), upd_ne nb, upd_ne nb, upd_ne (ne_of_none e1 hO1), upd_ne nb]
      exact e1
theorem scSvPut : FnScope ["self", "row", "number", "told"] ["self", "row"] (defScope s_Sieve_put) := ⟨rfl, rfl, rfl, by decide +kernel, rfl, by decide +kernel, by decide +kernel⟩
theorem svput_ok {f C CR pW pR : Addr} {fd : FuncData} (X : TxS K C) (M : MethAt K C "put" "Sieve.put" s_Sieve_put f fd) (T : Txt K mg) (TP : mg "heappush" = some (.builtin "_heapq.heappush")) (NE : NumE P w K mg base "BadRows" "place" CR) (cB : Cal P w K mg base CX0 5 "is_row" ["kinds", "row"] (spRow K pW pR)) (cR : Cal P w K mg base CX0 2 "rank" ["order", "told"] (spRank K)) :
    MetC P w K mg base (L2.CX P w) 6 C "put" ["self", "row"] (spSvPut K C CR pW pR) := by
  have sc := scSvPut
  obtain ⟨tR, eR⟩ := T.rows
  refine ⟨f, fd, X.cl, M.me, ?_, M.fn.binds (fun _ _ _ _ _ _ us hl => match us, hl with | [_, _], _ => rfl)⟩
  refine M.fn.okX sc (fun vs H Q E h => ?_) (fun cdv A outer s H vs Q E hr h => ?_)
  · obtain ⟨x, G, vr, d, ks, os, H0, n, gq, rfl, _⟩ := h
    rfl
  · obtain ⟨x, G, vr, d, ks, os, H0, n, gq, rfl, sv, hd, hfr, hks, hW, hR, hz, k⟩ := h
    have hu := hr.units
    obtain ⟨dx, vk, vo, hx, hk, ho⟩ := sv.ob
    refine ⟨_, (pss_cons (ps_set (i := 2) sc.nd rfl (Or.inl rfl) (pe_fld (pv 0) rfl)) (pss_cons (ps_if ((pw_or (pt_cmpR op_ge (pv 2) (pe_glob (v := V.int 120) (by rfl) eR ⟨_, rfl⟩) (nomark _)) (pw_or1 (pt_not (pt_val (pe_c cB hr (by decide) (by rfl) pass0 (pa_cons (pe_fld (pv 0) rfl) (pa_cons (pv 1) pa_nil))))))).pt) (pss_one (ps_raise rfl (takes_of rfl rfl rfl rfl) (pmk_num NE (hr.mono (by decide)) (by rfl) pe_int))) pss_nil) (pss_cons (ps_set (i := 3) sc.nd rfl (Or.inl rfl) (pe_tup (pa_cons (pv 2) (pa_cons (pv 1) pa_nil)))) (pss_cons (ps_expr (pe_callBfun (call_push hu) (by rfl) TP (pa_cons (pe_fld (pv 0) rfl) (pa_cons (pe_tup (pa_cons (pe_c cR hr (by decide) (by rfl) pass0 (pa_cons (pe_fld (pv 0) rfl) (pa_cons (pv 3) pa_nil))) (pa_cons (pv 3) pa_nil))) pa_nil)))) (pss_cons (ps_fldaug (pv 0) pe_int in_add) (pss_one (ps_ret (pv 2)))))))), ?_⟩
    rcases k with ⟨bad, k⟩ | ⟨r, rfl, hn, good, hf, k⟩
    · refine ⟨_, rfl, x, C, dx, _, _, rfl, hx, X.cl, X.nC, fs_came, _, rfl, _, _, rfl, rfl, _, rfl, ?_⟩
      by_cases h120 : (120 : Int) ≤ (n : Nat)
      · refine iteT' (decide_eq_true h120) ?_
        refine iteT ?_
        exact num_end (n := 0) (by decide) fun dd hd => k _ dd (sameNew (Same.refl H) hd) upd_same
      · refine iteF' (decide_eq_false h120) ?_
        refine ⟨_, rfl, x, C, dx, _, _, rfl, hx, X.cl, X.nK, fs_kinds, _, rfl, vk, vr, ks, d, rfl, dp_same sv.same _ hk, hd, hks, hfr, hW, hR, fun H1 s1 => ⟨_, rfl, ?_⟩⟩
        rw [bad]
        refine iteT ?_
        exact num_end (n := 0) (by decide) fun dd hd => k _ dd (sameNew s1 hd) upd_same
    · refine ⟨_, rfl, x, C, dx, _, _, rfl, hx, X.cl, X.nC, fs_came, _, rfl, _, _, rfl, rfl, _, rfl, ?_⟩
      refine iteF' (decide_eq_false (by omega)) ?_
      refine ⟨_, rfl, x, C, dx, _, _, rfl, hx, X.cl, X.nK, fs_kinds, _, rfl, vk, vr, ks, .tuple r, rfl, dp_same sv.same _ hk, hd, hks, hfr, hW, hR, fun H1 s1 => ⟨_, rfl, ?_⟩⟩
      rw [good]
      refine iteF ?_
      refine ⟨_, rfl, _, rfl, by show 2 ≤ sizeLine; decide, fun t ht => ?_⟩
      have s2 := sameNew (o := .tup [.int (n : Nat), vr]) s1 ht
      have hT : Dp K (upd H1 t (.tup [.int (n : Nat), vr])) (.ref t) (pairD (n, r)) := .tup (SqT.of upd_same) (.cons (.int _) (.cons (dp_same s2 _ hd) .nil))
      generalize upd H1 t (.tup [.int (n : Nat), vr]) = H2 at s2 hT ⊢
      have hx2 := s2 _ _ hx
      refine ⟨_, rfl, x, C, dx, _, _, rfl, hx2, X.cl, X.nQ, fs_queue, ?_⟩
      refine ⟨_, rfl, x, C, dx, _, _, rfl, hx2, X.cl, X.nO, fs_order, _, rfl, vo, .ref t, os, (n, r), rfl, dp_same (sv.same.trans s2) _ ho, hT, sv.oz, hf, fun H3 p3 s3 hp3 hL3 => ?_⟩
      refine ⟨_, rfl, by show 2 ≤ sizeLine; decide, fun p4 hp4 => ?_⟩
      have s23 := s2.trans s3
      have s4 := sameNew (o := .tup [.ref p3, .ref t]) s23 hp4
      have n34 : p3 ≠ p4 := fun z => by rw [← z, hL3] at hp4; cases hp4
      have gp3 : upd H3 p4 (.tup [.ref p3, .ref t]) p3 = some (.tup ((rankOf os (n, r)).map V.int)) := (upd_ne n34).trans hL3
      have hI : Dp K (upd H3 p4 (.tup [.ref p3, .ref t])) (.ref p4) (itemD os (n, r)) := .tup (SqT.of upd_same) (.cons (ints_dp (SqT.of gp3)) (.cons (dp_same (sameNew s3 hp4) _ hT) .nil))
      generalize upd H3 p4 (.tup [.ref p3, .ref t]) = H4 at s4 hI ⊢
      have sv4 := sv.grow s4
      obtain ⟨zs, hg, F⟩ := sv4.g
      have lg := hg.len
      have hx4 := s4 _ _ hx
      have gd : HQ.Good K H4 G (zs ++ [(.ref p4, itemD os (n, r))]) := good_of (l := gq ++ [(n, r)]) hg.g (by rw [List.map_append, hg.gd, List.map_append]; rfl) (fun z hz => by
        rcases List.mem_append.mp hz with hz | hz
        · exact hg.zd z hz
        · rw [List.mem_singleton.mp hz]; exact hI) (fun z hz => by
        rcases List.mem_append.mp hz with hz | hz
        · exact (sv.gok z hz).2
        · rw [List.mem_singleton.mp hz]; exact good)
      refine ⟨G, zs, (.ref p4, itemD os (n, r)), rfl, hg.g, gd, small1000 (by omega), F, fun ys py F2 => ?_⟩
      have nxG : x ≠ G := fun z => by rw [z, hg.g] at hx4; cases hx4
      have hx5 : hp H4 G ys x = some (.ins C dx (fldsS vk vo n G)) := (upd_ne nxG).trans hx4
      refine ⟨_, rfl, x, C, dx, _, _, rfl, hx5, X.cl, X.nC, fs_came, _, _, rfl, rfl, dx, _, hx5, by show 4 < 1000; decide, ?_⟩
      refine ⟨_, rfl, ?_⟩
      rw [show ((n : Nat) : Int) + 1 = ((n + 1 : Nat) : Int) by omega, fs_put]
      have p2' : ((gq ++ [(n, r)]).map (itemD os)).Perm (ys.map (·.2)) := by
        rw [List.map_append, ← hg.gd]
        have := (py.map (·.2)).symm
        rw [List.map_append] at this
        exact this
      obtain ⟨gq', pl, el⟩ := perm_unmap p2' (gq ++ [(n, r)]) rfl
      have pq : gq'.Perm ((n, r) :: gq) := pl.symm.trans (List.perm_append_comm (l₁ := gq) (l₂ := [(n, r)]))
      have fr : Frv H4 (upd (hp H4 G ys) x (.ins C dx (fldsS vk vo (n + 1) G))) x G := Frv.updG.trans Frv.updx
      have kp := sv4.kp fr
      have kp2 : KpS (hp H4 G ys) (upd (hp H4 G ys) x (.ins C dx (fldsS vk vo (n + 1) G))) := .ins hx5
      have gok' : RowsOk os ks gq' := fun y hy => by
        rcases List.mem_cons.mp (pq.mem_iff.mp hy) with e | hy
        · rw [e]; exact ⟨hf, good⟩
        · exact sv.gok y hy
      refine k _ gq' ⟨sv4.same2 fr, sv.x0, sv.g0, sv.oz, ⟨dx, vk, vo, upd_same, hk, ho⟩, ⟨ys, ⟨(upd_ne (Ne.symm nxG)).trans upd_same, el.symm, fun z hz => ?_⟩, F2⟩, gok'⟩ pq ((Frv.of s4).trans fr)
      obtain ⟨q', hq', e'⟩ := zmem el.symm hz
      exact dp_kp kp2 _ (by rw [e']; exact item_noL (gok' q' hq').2) (gd.dp z (py.mem_iff.mp hz) _)
theorem scSvTake : FnScope ["self"] ["self"] (defScope s_Sieve_take) := ⟨rfl, rfl, rfl, by decide +kernel, rfl, by decide +kernel, by decide +kernel⟩
theorem svtake_ok {f C CE : Addr} {fd : FuncData} (X : TxS K C) (M : MethAt K C "take" "Sieve.take" s_Sieve_take f fd) (TP : mg "heappop" = some (.builtin "_heapq.heappop")) (xE : PySem.W.excIn K CE [.type "ValueError", .type "Exception", .type "BaseException", .type "object"] "ValueError.__new__" = true)
    (gE : mg "Empty" = some (.ref CE)) (kE : PySem.W.keepIn K (.ref CE) = true) (bE : PySem.W.subIn K (.ref CE) (.type "BaseException") = some true) (tE : PySem.W.typeIn K (.ref CE) = some (.type "type")) :
    MetC P w K mg base (L2.CX P w) 1 C "take" ["self"] (spSvTake K C CE) := by
  have sc := scSvTake
  refine ⟨f, fd, X.cl, M.me, ?_, M.fn.binds (fun _ _ _ _ _ _ us hl => match us, hl with | [_], _ => rfl)⟩
  refine M.fn.okX sc (fun vs H Q E h => ?_) (fun cdv A outer s H vs Q E hr h => ?_)
  · obtain ⟨x, G, ks, os, H0, n, gq, rfl, _⟩ := h
    rfl
  · obtain ⟨x, G, ks, os, H0, n, gq, rfl, sv, k⟩ := h
    have hu := hr.units
    obtain ⟨dx, vk, vo, hx, hk, ho⟩ := sv.ob
    obtain ⟨zs, hg, F⟩ := sv.g
    have lg := hg.len
    refine ⟨_, (pss_cons (ps_if (pt_not (pt_truth (pe_fld (pv 0) rfl) (by intro _; rfl))) (pss_one (ps_raise rfl (takes_of rfl rfl rfl rfl) (L2.pmk_own PySem.F.excBase_ValueError xE gE kE (raises_own bE tE) (by rfl)))) pss_nil) (pss_one (ps_ret (pe_ix ix_tup (pe_callBfun (call_popH hu) (by rfl) TP (pa_cons (pe_fld (pv 0) rfl) pa_nil)) pe_int (fun _ _ => rfl))))), ?_⟩
    refine ⟨_, rfl, x, C, dx, _, _, rfl, hx, X.cl, X.nQ, fs_queue, _, .inl ⟨_, SqL.of hg.g, rfl⟩, ?_⟩
    rcases k with ⟨rfl, k⟩ | ⟨hne, k⟩
    · have : zs = [] := List.eq_nil_of_length_eq_zero lg
      subst this
      exact iteT k
    · have ez : (zs.map (·.1)).isEmpty = false := by
        cases zs with
        | nil => exact absurd (List.eq_nil_of_length_eq_zero lg.symm) hne
        | cons _ _ => rfl
      rw [ez]
      refine iteF ?_
      have gd := hg.good sv.gok
      refine ⟨_, rfl, x, C, dx, _, _, rfl, hx, X.cl, X.nQ, fs_queue, G, zs, rfl, hg.g, ?_, gd, F, fun z ys p F2 m => ?_⟩
      · cases gq with
        | nil => exact absurd rfl hne
        | cons a l => rw [lg]; exact Nat.succ_pos _
      have p2 : (gq.map (itemD os)).Perm (z.2 :: ys.map (·.2)) := by
        rw [← hg.gd]
        exact p.map _
      obtain ⟨l, pl, el⟩ := perm_unmap p2 gq rfl
      cases l with
      | nil => cases el
      | cons q gq' =>
        rw [List.map_cons] at el
        injection el with e1 e2
        have zin : z ∈ zs := p.mem_iff.mpr List.mem_cons_self
        have qin : q ∈ gq := pl.mem_iff.mpr List.mem_cons_self
        have yin : ∀ y ∈ ys, y ∈ zs := fun y hy => p.mem_iff.mpr (List.mem_cons_of_mem _ hy)
        have gin : ∀ y ∈ gq', y ∈ gq := fun y hy => pl.mem_iff.mpr (List.mem_cons_of_mem _ hy)
        have hz1 : Dp K (hp H G ys) z.1 (itemD os q) := by
          rw [e1]
          exact gd.dp z zin _
        obtain ⟨pz, vR, vT, ez, hS, h1, h2⟩ := tuple_item7 hz1
        have nxG : x ≠ G := fun z => by rw [z, hg.g] at hx; cases hx
        have fr : Frv H (hp H G ys) x G := Frv.updG
        refine ⟨pz, _, _, _, ez, rfl, hS, atI_nat (j := 1) rfl, ?_⟩
        refine k _ vT q gq' ⟨sv.same2 fr, sv.x0, sv.g0, sv.oz, ⟨dx, vk, vo, (upd_ne nxG).trans hx, hk, ho⟩, ⟨ys, ⟨upd_same, e2.symm, fun y hy => gd.dp y (yin y hy) _⟩, F2⟩, fun y hy => sv.gok y (gin y hy)⟩ pl (fun y hy => ?_) h2 fr
        have : itemD os y ∈ ys.map (·.2) := by
          rw [← e2]
          exact List.mem_map.mpr ⟨y, hy, rfl⟩
        obtain ⟨t, ht, et⟩ := List.mem_map.mp this
        have q1 := m t ht
        unfold ltz at q1
        have et : t.2 = itemD os y := et
        rw [et, ← e1] at q1
        exact item_le q1
end
end RS
set_option Elab.async false
set_option maxRecDepth 100000
set_option maxHeartbeats 4000000
namespace RS
open PySem PySem.Spec PyProof.Rows L2 GX HQ LM
/-! ### heads that may not be, and what stands behind them -/
section
variable {P : Program} {w : World} {K : PySem.W.Frag} {mg : Str → Option Value} {base : Heap}
def HeadBad (K : PySem.W.Frag) (CK CO p : Addr) (vk vo : V) (H : Hp) (E : XK) : Prop := Tab H p ∧
  ((∃ ws : List Str, Dp K H vk (wordsD ws) ∧ ws.length ≤ 1000 ∧ BadKs ws ∧ ∀ H', Same H H' → E (.ref CK) none H') ∨
   (∃ (ks : List Bool) (ods : List (List PyData)), Dp K H vk (kindsD ks) ∧ 1 ≤ ks.length ∧ ks.length ≤ 4 ∧ Dp K H vo (rowsD ods) ∧ ods.length ≤ 900 ∧ BadOrd ks.length ods ∧ ∀ H', Same H H' → E (.ref CO) none H'))
def spHead (K : PySem.W.Frag) (CK CO p : Addr) (m : Nat) : Sp := fun vs H _ E => ∃ (vk vo : V) (rest : List V), vs = vk :: vo :: rest ∧ rest.length = m ∧ HeadBad K CK CO p vk vo H E
structure Heads (P : Program) (w : World) (K : PySem.W.Frag) (mg : Str → Option Value) (base : Heap) (CK CO p : Addr) : Prop where
  k : Cal P w K mg base CX0 2 "check_kinds" ["kinds"] (spCheckKinds K p)
  o : Cal P w K mg base CX0 3 "check_order" ["kinds", "order"] (spCheckOrder K)
  ke : Cal P w K mg base (L2.CX P w) 2 "check_kinds" ["kinds"] (spKindsE K CK p)
  oe : Cal P w K mg base (L2.CX P w) 3 "check_order" ["kinds", "order"] (spOrderE K CO)
theorem scnumberedE : FnScope ["kinds", "order", "size", "rows"] ["kinds", "order", "size", "rows"] (defScope sNumbered) := ⟨rfl, rfl, rfl, by decide +kernel, rfl, by decide +kernel, by decide +kernel⟩
theorem numberedH_ok {c CK CO p : Addr} (D : DefAt K mg "numbered" sNumbered c) (C : Heads P w K mg base CK CO p) : Cal P w K mg base (L2.CX P w) 4 "numbered" ["kinds", "order", "size", "rows"] (spHead K CK CO p 2) := by
  have sc := scnumberedE
  refine def_ok D sc (fun vs H Q E h => ?_) (fun _ _ _ _ _ _ us hl => match us, hl with | [_, _, _, _], _ => rfl) (fun f A outer s H vs Q E hr h => ?_)
  · obtain ⟨vk, vo, rest, rfl, hl, _⟩ := h
    simp [hl]
  · obtain ⟨vk, vo, rest, rfl, hl, ht, b⟩ := h
    obtain ⟨r, r2, rfl⟩ : ∃ r r2, rest = [r, r2] := by
      match rest, hl with
      | [r, r2], _ => exact ⟨r, r2, rfl⟩
    rcases b with ⟨ws, h1, h2, h3, h4⟩ | ⟨ks, ods, h1, k1, k4, h2, h3, h4, h5⟩
    · refine ⟨_, pss_cons (ps_expr (pe_c C.ke hr (by decide) (by rfl) (passes_call (takes_of rfl rfl rfl rfl) fun _ _ _ _ h => h) (pa_cons (pv 0) pa_nil))) pss_never, ?_⟩
      exact ⟨_, rfl, vk, ws, rfl, h1, h2, h3, ht, h4 _ (Same.refl H)⟩
    · refine ⟨_, pss_cons (ps_expr (pe_c C.k hr (by decide) (by rfl) pass0 (pa_cons (pv 0) pa_nil))) (pss_cons (ps_expr (pe_c C.oe hr (by decide) (by rfl) (passes_call (takes_of rfl rfl rfl rfl) fun _ _ _ _ h => h) (pa_cons (pv 0) (pa_cons (pv 1) pa_nil)))) pss_never), ?_⟩
      exact ⟨_, rfl, vk, ks, rfl, h1, k1, k4, ht, _, rfl, _, rfl, vk, vo, ks, ods, rfl, h1, h2, h3, h4, h5⟩
theorem scmergedE : FnScope ["kinds", "order", "runs", "left", "looks", "pairs", "pair", "run", "at", "more"] ["kinds", "order", "runs"] (defScope s_merged) := ⟨rfl, rfl, rfl, by decide +kernel, rfl, by decide +kernel, by decide +kernel⟩
theorem mergedH_ok {c CK CO p : Addr} (D : DefAt K mg "merged" s_merged c) (C : Heads P w K mg base CK CO p) : Cal P w K mg base (L2.CX P w) 4 "merged" ["kinds", "order", "runs"] (spHead K CK CO p 1) := by
  have sc := scmergedE
  refine def_ok D sc (fun vs H Q E h => ?_) (fun _ _ _ _ _ _ us hl => match us, hl with | [_, _, _], _ => rfl) (fun f A outer s H vs Q E hr h => ?_)
  · obtain ⟨vk, vo, rest, rfl, hl, _⟩ := h
    simp [hl]
  · obtain ⟨vk, vo, rest, rfl, hl, ht, b⟩ := h
    obtain ⟨r, rfl⟩ : ∃ r, rest = [r] := by
      match rest, hl with
      | [r], _ => exact ⟨r, rfl⟩
    rcases b with ⟨ws, h1, h2, h3, h4⟩ | ⟨ks, ods, h1, k1, k4, h2, h3, h4, h5⟩
    · refine ⟨_, pss_cons (ps_expr (pe_c C.ke hr (by decide) (by rfl) (passes_call (takes_of rfl rfl rfl rfl) fun _ _ _ _ h => h) (pa_cons (pv 0) pa_nil))) pss_never, ?_⟩
      exact ⟨_, rfl, vk, ws, rfl, h1, h2, h3, ht, h4 _ (Same.refl H)⟩
    · refine ⟨_, pss_cons (ps_expr (pe_c C.k hr (by decide) (by rfl) pass0 (pa_cons (pv 0) pa_nil))) (pss_cons (ps_expr (pe_c C.oe hr (by decide) (by rfl) (passes_call (takes_of rfl rfl rfl rfl) fun _ _ _ _ h => h) (pa_cons (pv 0) (pa_cons (pv 1) pa_nil)))) pss_never), ?_⟩
      exact ⟨_, rfl, vk, ks, rfl, h1, k1, k4, ht, _, rfl, _, rfl, vk, vo, ks, ods, rfl, h1, h2, h3, h4, h5⟩
theorem scwritten_orderE : FnScope ["kinds", "order", "column", "way"] ["kinds", "order"] (defScope s_written_order) := ⟨rfl, rfl, rfl, by decide +kernel, rfl, by decide +kernel, by decide +kernel⟩
theorem written_orderH_ok {c CK CO p : Addr} (D : DefAt K mg "written_order" s_written_order c) (C : Heads P w K mg base CK CO p) : Cal P w K mg base (L2.CX P w) 4 "written_order" ["kinds", "order"] (spHead K CK CO p 0) := by
  have sc := scwritten_orderE
  refine def_ok D sc (fun vs H Q E h => ?_) (fun _ _ _ _ _ _ us hl => match us, hl with | [_, _], _ => rfl) (fun f A outer s H vs Q E hr h => ?_)
  · obtain ⟨vk, vo, rest, rfl, hl, _⟩ := h
    simp [hl]
  · obtain ⟨vk, vo, rest, rfl, hl, ht, b⟩ := h
    obtain rfl : rest = [] := List.length_eq_zero_iff.mp hl
    rcases b with ⟨ws, h1, h2, h3, h4⟩ | ⟨ks, ods, h1, k1, k4, h2, h3, h4, h5⟩
    · refine ⟨_, pss_cons (ps_expr (pe_c C.ke hr (by decide) (by rfl) (passes_call (takes_of rfl rfl rfl rfl) fun _ _ _ _ h => h) (pa_cons (pv 0) pa_nil))) pss_never, ?_⟩
      exact ⟨_, rfl, vk, ws, rfl, h1, h2, h3, ht, h4 _ (Same.refl H)⟩
    · refine ⟨_, pss_cons (ps_expr (pe_c C.k hr (by decide) (by rfl) pass0 (pa_cons (pv 0) pa_nil))) (pss_cons (ps_expr (pe_c C.oe hr (by decide) (by rfl) (passes_call (takes_of rfl rfl rfl rfl) fun _ _ _ _ h => h) (pa_cons (pv 0) (pa_cons (pv 1) pa_nil)))) pss_never), ?_⟩
      exact ⟨_, rfl, vk, ks, rfl, h1, k1, k4, ht, _, rfl, _, rfl, vk, vo, ks, ods, rfl, h1, h2, h3, h4, h5⟩
def spKindsT (K : PySem.W.Frag) (CK p : Addr) : Sp := fun vs H _ E => ∃ (vk v : V) (ws : List Str), vs = [vk, v] ∧ Dp K H vk (wordsD ws) ∧ ws.length ≤ 1000 ∧ BadKs ws ∧ Tab H p ∧ E (.ref CK) none H
theorem scread_orderE : FnScope ["kinds", "text", "order", "place", "part", "words"] ["kinds", "text"] (defScope s_read_order) := ⟨rfl, rfl, rfl, by decide +kernel, rfl, by decide +kernel, by decide +kernel⟩
theorem read_orderH_ok {c CK CO p : Addr} (D : DefAt K mg "read_order" s_read_order c) (C : Heads P w K mg base CK CO p) : Cal P w K mg base (L2.CX P w) 4 "read_order" ["kinds", "text"] (spKindsT K CK p) := by
  have sc := scread_orderE
  refine def_ok D sc (fun vs H Q E h => ?_) (fun _ _ _ _ _ _ us hl => match us, hl with | [_, _], _ => rfl) (fun f A outer s H vs Q E hr h => ?_)
  · obtain ⟨vk, v, ws, rfl, _⟩ := h
    rfl
  · obtain ⟨vk, v, ws, rfl, h1, h2, h3, ht, k⟩ := h
    refine ⟨_, pss_cons (ps_expr (pe_c C.ke hr (by decide) (by rfl) (passes_call (takes_of rfl rfl rfl rfl) fun _ _ _ _ h => h) (pa_cons (pv 0) pa_nil))) pss_never, ?_⟩
    exact ⟨_, rfl, vk, ws, rfl, h1, h2, h3, ht, k⟩
/-- a room or rows that may not be -/
def NumBad (K : PySem.W.Frag) (CM CR pK pW pR : Addr) (vk vo : V) (n : Int) (vr : V) (H : Hp) (E : XK) : Prop := Tabs3 H pK pW pR ∧ ∃ (ks : List Bool) (os : List (Nat × Bool)), Dp K H vk (kindsD ks) ∧ 1 ≤ ks.length ∧ ks.length ≤ 4 ∧ Dp K H vo (orderD os) ∧ OkOrder ks.length os ∧ os.length ≤ 1000 ∧
  (((n < 1 ∨ 24 < n) ∧ ∀ H', Same H H' → E (.ref CM) none H') ∨ (1 ≤ n ∧ n ≤ 24 ∧ ∃ (ds : List PyData) (i : Nat) (d : PyData), Dp K H vr (.list ds) ∧ ds.length ≤ 150 ∧ (∀ d ∈ ds, fitR d) ∧ ds[i]? = some d ∧ i ≤ 120 ∧ (∀ e ∈ ds.take i, isRow ks e = true) ∧ (i = 120 ∨ isRow ks d = false) ∧
    ∀ (H' : Hp) (dd : Addr), Same H H' → H' dd = some (.xd [("place", .int (i : Nat))]) → E (.ref CR) (some dd) H'))
def spNumB (K : PySem.W.Frag) (CM CR pK pW pR : Addr) : Sp := fun vs H _ E => ∃ (vk vo vr : V) (n : Int), vs = [vk, vo, .int n, vr] ∧ NumBad K CM CR pK pW pR vk vo n vr H E
theorem numberedB_ok {c CK CO CM CR pK pW pR : Addr} (D : DefAt K mg "numbered" sNumbered c) (T : Txt K mg) (C : Heads P w K mg base CK CO pK) (cS : Cal P w K mg base CX0 2 "check_size" ["size"] spCheckSize) (cSE : Cal P w K mg base (L2.CX P w) 2 "check_size" ["size"] (spSizeE CM)) (cRE : Cal P w K mg base (L2.CX P w) 6 "check_rows" ["kinds", "rows", "most"] (spRowsE K CR pW pR)) :
    Cal P w K mg base (L2.CX P w) 7 "numbered" ["kinds", "order", "size", "rows"] (spNumB K CM CR pK pW pR) := by
  have sc := scnumberedE
  obtain ⟨tM, hM⟩ := T.rows
  refine def_ok D sc (fun vs H Q E h => ?_) (fun _ _ _ _ _ _ us hl => match us, hl with | [_, _, _, _], _ => rfl) (fun f A outer s H vs Q E hr h => ?_)
  · obtain ⟨vk, vo, vr, n, rfl, _⟩ := h
    rfl
  · obtain ⟨vk, vo, vr, n, rfl, ht, ks, os, h1, k1, k4, h2, h3, h4, b⟩ := h
    rcases b with ⟨hn, k⟩ | ⟨n1, n24, ds, i, d, r1, r2, r3, r4, r5, r6, r7, k⟩
    · refine ⟨_, pss_cons (ps_expr (pe_c C.k hr (by decide) (by rfl) pass0 (pa_cons (pv 0) pa_nil))) (pss_cons (ps_expr (pe_c C.o hr (by decide) (by rfl) pass0 (pa_cons (pv 0) (pa_cons (pv 1) pa_nil)))) (pss_cons (ps_expr (pe_c cSE hr (by decide) (by rfl) (passes_call (takes_of rfl rfl rfl rfl) fun _ _ _ _ h => h) (pa_cons (pv 2) pa_nil))) pss_never)), ?_⟩
      exact ⟨_, rfl, vk, ks, rfl, h1, k1, k4, ht.k, _, rfl, _, rfl, vk, vo, ks, os, rfl, h1, h2, h3, h4, fun H1 s1 => ⟨_, rfl, n, rfl, hn, k _ s1⟩⟩
    · refine ⟨_, pss_cons (ps_expr (pe_c C.k hr (by decide) (by rfl) pass0 (pa_cons (pv 0) pa_nil))) (pss_cons (ps_expr (pe_c C.o hr (by decide) (by rfl) pass0 (pa_cons (pv 0) (pa_cons (pv 1) pa_nil)))) (pss_cons (ps_expr (pe_c cS hr (by decide) (by rfl) pass0 (pa_cons (pv 2) pa_nil))) (pss_cons (ps_expr (pe_c cRE hr (by decide) (by rfl) (passes_call (takes_of rfl rfl rfl rfl) fun _ _ _ _ h => h) (pa_cons (pv 0) (pa_cons (pv 3) (pa_cons (pe_glob (v := V.int 120) (by rfl) hM ⟨_, rfl⟩) pa_nil))))) pss_never))), ?_⟩
      exact ⟨_, rfl, vk, ks, rfl, h1, k1, k4, ht.k, _, rfl, _, rfl, vk, vo, ks, os, rfl, h1, h2, h3, h4, fun H1 s1 => ⟨_, rfl, n, rfl, n1, n24, _, rfl, _, rfl, vk, vr, ks, ds, 120, i, d, rfl, dp_same s1 _ h1, dp_same s1 _ r1, by omega, r2, r3, r4, r5, r6, r7, s1 _ _ ht.w, s1 _ _ ht.r, fun H' dd s' h => k H' dd (s1.trans s') h⟩⟩
theorem scfilledE : FnScope ["kinds", "order", "size", "rows", "coming", "parts", "begin", "part"] ["kinds", "order", "size", "rows"] (defScope sFilled) := ⟨rfl, rfl, rfl, by decide +kernel, rfl, by decide +kernel, by decide +kernel⟩
theorem filledH_ok {c CK CO p : Addr} (D : DefAt K mg "filled" sFilled c) (cN : Cal P w K mg base (L2.CX P w) 4 "numbered" ["kinds", "order", "size", "rows"] (spHead K CK CO p 2)) : Cal P w K mg base (L2.CX P w) 5 "filled" ["kinds", "order", "size", "rows"] (spHead K CK CO p 2) := by
  have sc := scfilledE
  refine def_ok D sc (fun vs H Q E h => ?_) (fun _ _ _ _ _ _ us hl => match us, hl with | [_, _, _, _], _ => rfl) (fun f A outer s H vs Q E hr h => ?_)
  · obtain ⟨vk, vo, rest, rfl, hl, _⟩ := h
    simp [hl]
  · obtain ⟨vk, vo, rest, rfl, hl, b⟩ := h
    obtain ⟨r, r2, rfl⟩ : ∃ r r2, rest = [r, r2] := by
      match rest, hl with
      | [r, r2], _ => exact ⟨r, r2, rfl⟩
    refine ⟨_, pss_cons ((ps_set (i := 4) sc.nd rfl (Or.inr rfl) (pe_c cN hr (by decide) (by rfl) (passes_call (takes_of rfl rfl rfl rfl) fun _ _ _ _ h => h) (pa_cons (pv 0) (pa_cons (pv 1) (pa_cons (pv 2) (pa_cons (pv 3) pa_nil))))))) pss_never, ?_⟩
    exact ⟨_, rfl, _, rfl, _, rfl, _, rfl, vk, vo, [r, r2], rfl, rfl, b⟩
theorem filledB_ok {c CM CR pK pW pR : Addr} (D : DefAt K mg "filled" sFilled c) (cN : Cal P w K mg base (L2.CX P w) 7 "numbered" ["kinds", "order", "size", "rows"] (spNumB K CM CR pK pW pR)) : Cal P w K mg base (L2.CX P w) 8 "filled" ["kinds", "order", "size", "rows"] (spNumB K CM CR pK pW pR) := by
  have sc := scfilledE
  refine def_ok D sc (fun vs H Q E h => ?_) (fun _ _ _ _ _ _ us hl => match us, hl with | [_, _, _, _], _ => rfl) (fun f A outer s H vs Q E hr h => ?_)
  · obtain ⟨vk, vo, vr, n, rfl, _⟩ := h
    rfl
  · obtain ⟨vk, vo, vr, n, rfl, b⟩ := h
    refine ⟨_, pss_cons ((ps_set (i := 4) sc.nd rfl (Or.inr rfl) (pe_c cN hr (by decide) (by rfl) (passes_call (takes_of rfl rfl rfl rfl) fun _ _ _ _ h => h) (pa_cons (pv 0) (pa_cons (pv 1) (pa_cons (pv 2) (pa_cons (pv 3) pa_nil))))))) pss_never, ?_⟩
    exact ⟨_, rfl, _, rfl, _, rfl, _, rfl, vk, vo, vr, n, rfl, b⟩
theorem scexchangedE : FnScope ["kinds", "order", "size", "rows", "coming", "runs", "room", "came", "run"] ["kinds", "order", "size", "rows"] (defScope sExchanged) := ⟨rfl, rfl, rfl, by decide +kernel, rfl, by decide +kernel, by decide +kernel⟩
theorem exchangedH_ok {c CK CO p : Addr} (D : DefAt K mg "exchanged" sExchanged c) (cN : Cal P w K mg base (L2.CX P w) 4 "numbered" ["kinds", "order", "size", "rows"] (spHead K CK CO p 2)) : Cal P w K mg base (L2.CX P w) 5 "exchanged" ["kinds", "order", "size", "rows"] (spHead K CK CO p 2) := by
  have sc := scexchangedE
  refine def_ok D sc (fun vs H Q E h => ?_) (fun _ _ _ _ _ _ us hl => match us, hl with | [_, _, _, _], _ => rfl) (fun f A outer s H vs Q E hr h => ?_)
  · obtain ⟨vk, vo, rest, rfl, hl, _⟩ := h
    simp [hl]
  · obtain ⟨vk, vo, rest, rfl, hl, b⟩ := h
    obtain ⟨r, r2, rfl⟩ : ∃ r r2, rest = [r, r2] := by
      match rest, hl with
      | [r, r2], _ => exact ⟨r, r2, rfl⟩
    refine ⟨_, pss_cons ((ps_set (i := 4) sc.nd rfl (Or.inl rfl) (pe_c cN hr (by decide) (by rfl) (passes_call (takes_of rfl rfl rfl rfl) fun _ _ _ _ h => h) (pa_cons (pv 0) (pa_cons (pv 1) (pa_cons (pv 2) (pa_cons (pv 3) pa_nil))))))) pss_never, ?_⟩
    exact ⟨_, rfl, _, rfl, _, rfl, _, rfl, vk, vo, [r, r2], rfl, rfl, b⟩
theorem exchangedB_ok {c CM CR pK pW pR : Addr} (D : DefAt K mg "exchanged" sExchanged c) (cN : Cal P w K mg base (L2.CX P w) 7 "numbered" ["kinds", "order", "size", "rows"] (spNumB K CM CR pK pW pR)) : Cal P w K mg base (L2.CX P w) 8 "exchanged" ["kinds", "order", "size", "rows"] (spNumB K CM CR pK pW pR) := by
  have sc := scexchangedE
  refine def_ok D sc (fun vs H Q E h => ?_) (fun _ _ _ _ _ _ us hl => match us, hl with | [_, _, _, _], _ => rfl) (fun f A outer s H vs Q E hr h => ?_)
  · obtain ⟨vk, vo, vr, n, rfl, _⟩ := h
    rfl
  · obtain ⟨vk, vo, vr, n, rfl, b⟩ := h
    refine ⟨_, pss_cons ((ps_set (i := 4) sc.nd rfl (Or.inl rfl) (pe_c cN hr (by decide) (by rfl) (passes_call (takes_of rfl rfl rfl rfl) fun _ _ _ _ h => h) (pa_cons (pv 0) (pa_cons (pv 1) (pa_cons (pv 2) (pa_cons (pv 3) pa_nil))))))) pss_never, ?_⟩
    exact ⟨_, rfl, _, rfl, _, rfl, _, rfl, vk, vo, vr, n, rfl, b⟩
def spSvH (K : PySem.W.Frag) (CK CO p : Addr) : Sp := fun vs H _ E => ∃ (x : Addr) (vk vo : V), vs = [.ref x, vk, vo] ∧ HeadBad K CK CO p vk vo H E
theorem svinitH_ok {f C CK CO pK : Addr} {fd : FuncData} (M : Mk K C f) (F : L2.Fun K "__init__" "Sieve.__init__" s_Sieve_init f fd) (hm : mg "Sieve" = some (.ref C)) (H4 : Heads P w K mg base CK CO pK) :
    MakC P w K mg base (L2.CX P w) 4 "Sieve" C ["self", "kinds", "order"] (spSvH K CK CO pK) := by
  have sc := scSvI
  refine ⟨f, fd, M, ?_, hm, F.binds (fun _ _ _ _ _ _ us hl => match us, hl with | [_, _, _], _ => rfl)⟩
  refine F.okX sc (fun vs H Q E h => ?_) (fun cdv A outer s H vs Q E hr h => ?_)
  · obtain ⟨x, vk, vo, rfl, _⟩ := h
    rfl
  · obtain ⟨x, vk, vo, rfl, ht, b⟩ := h
    rcases b with ⟨ws, h1, h2, h3, h4⟩ | ⟨ks, ods, h1, k1, k4, h2, h3, h4, h5⟩
    · refine ⟨_, pss_cons (ps_expr (pe_c H4.ke hr (by decide) (by rfl) (passes_call (takes_of rfl rfl rfl rfl) fun _ _ _ _ h => h) (pa_cons (pv 1) pa_nil))) pss_never, ?_⟩
      exact ⟨_, rfl, vk, ws, rfl, h1, h2, h3, ht, h4 _ (Same.refl H)⟩
    · refine ⟨_, pss_cons (ps_expr (pe_c H4.k hr (by decide) (by rfl) pass0 (pa_cons (pv 1) pa_nil))) (pss_cons (ps_expr (pe_c H4.oe hr (by decide) (by rfl) (passes_call (takes_of rfl rfl rfl rfl) fun _ _ _ _ h => h) (pa_cons (pv 1) (pa_cons (pv 2) pa_nil)))) pss_never), ?_⟩
      exact ⟨_, rfl, vk, ks, rfl, h1, k1, k4, ht, _, rfl, _, rfl, vk, vo, ks, ods, rfl, h1, h2, h3, h4, h5⟩
end
end RS
set_option Elab.async false
set_option maxRecDepth 100000
set_option maxHeartbeats 4000000
set_option pp.maxSteps 400
namespace RS
open PySem PySem.Spec PyProof.Rows L2 GX HQ LM
/-! ### a disk, and a sorter of heads that may not be -/
theorem lk_put {f : Str} {v : V} : ∀ {fs : List (Str × V)}, (putF f v fs).lookup f = some v
  | [] => lk_eq
  | (g, u) :: r => by
    by_cases h : g = f
    · subst h
      rw [putF_eq]
      exact lk_eq
    · rw [putF_ne h, lk_ne (fun z => h z.symm)]
      exact lk_put
theorem lk_putN {f g : Str} {v : V} (h : ¬ f = g) : ∀ {fs : List (Str × V)}, (putF g v fs).lookup f = fs.lookup f
  | [] => (lk_ne h).trans rfl
  | (a, u) :: r => by
    by_cases e : a = g
    · subst e
      rw [putF_eq, lk_ne h, lk_ne h]
    · rw [putF_ne e]
      by_cases e2 : f = a
      · subst e2
        rw [lk_eq, lk_eq]
      · rw [lk_ne e2, lk_ne e2]
        exact lk_putN h
theorem lenF1' {fs : List (Str × V)} {n : Nat} (h : fs.length ≤ n) (hn : n < 1000 := by decide) : fs.length < 1000 := Nat.lt_of_le_of_lt h hn
structure TxD (K : PySem.W.Frag) (C : Addr) : Prop where
  cl : Cls K C
  nC : NoAttr K C "certain"
  nN : NoAttr K C "newest"
  nU : NoAttr K C "unsettled"
  nH : NoAttr K C "has_stopped"
  nL : NoAttr K C "deeds_left"
  nP : NoAttr K C "picks"
/-- a disk that has not stopped -/
def DiskAt (C : Addr) (H : Hp) (x : Addr) : Prop := ∃ (dx N : Addr) (fs : List (Str × V)), H x = some (.ins C dx fs) ∧ fs.lookup ("newest" : Str) = some (.ref N) ∧ fs.lookup ("has_stopped" : Str) = some (.bl false) ∧ fs.lookup ("read" : Str) = none ∧ fs.lookup ("check_runs" : Str) = none ∧ H N = some (.lst (List.replicate 600 .non))
theorem DiskAt.same {C x : Addr} {H H' : Hp} (d : DiskAt C H x) (s : Same H H') : DiskAt C H' x := by
  obtain ⟨dx, N, fs, h1, h2, h3, h4, h5, h6⟩ := d
  exact ⟨dx, N, fs, s _ _ h1, h2, h3, h4, h5, s _ _ h6⟩
section
variable {P : Program} {w : World} {K : PySem.W.Frag} {mg : Str → Option Value} {base : Heap}
theorem scDkI : FnScope ["self"] ["self"] (defScope s_Disk_init) := ⟨rfl, rfl, rfl, by decide +kernel, rfl, by decide +kernel, by decide +kernel⟩
def spDkI (C : Addr) : Sp := fun vs H Q _ => ∃ (x dx : Addr), vs = [.ref x] ∧ H x = some (.ins C dx []) ∧ ∀ H' : Hp, DiskAt C H' x → (∀ b o, H b = some o → b ≠ x → H' b = some o) → Q .non H'
theorem dkinit_ok {f C : Addr} {fd : FuncData} {t6 : Tok} (M : Mk K C f) (F : L2.Fun K "__init__" "Disk.__init__" s_Disk_init f fd) (X : TxD K C) (hm : mg "Disk" = some (.ref C)) (hB : mg "MANY_BLOCKS" = some (.int 600 t6)) :
    MakC P w K mg base CX0 1 "Disk" C ["self"] (spDkI C) := by
  have sc := scDkI
  refine ⟨f, fd, M, ?_, hm, F.binds (fun _ _ _ _ _ _ us hl => match us, hl with | [_], _ => rfl)⟩
  refine F.ok sc (fun vs H Q E h => ?_) (fun cdv A outer s H vs Q E hr h => ?_)
  · obtain ⟨x, dx, rfl, _⟩ := h
    rfl
  · obtain ⟨x, dx, rfl, hx, k⟩ := h
    refine ⟨_, (pss_cons (ps_fld (pv 0) (pe_op op_rep (pe_lst (pa_cons pe_non pa_nil)) (pe_glob (v := V.int 600) (by rfl) hB ⟨_, rfl⟩)) rfl) (pss_cons (ps_fld (pv 0) (pe_op op_rep (pe_lst (pa_cons pe_non pa_nil)) (pe_glob (v := V.int 600) (by rfl) hB ⟨_, rfl⟩)) rfl) (pss_cons (ps_fld (pv 0) (pe_lst pa_nil) rfl) (pss_cons (ps_fld (pv 0) pe_bl rfl) (pss_cons (ps_fld (pv 0) pe_non rfl) (pss_one (ps_fld (pv 0) (pe_lst pa_nil) rfl))))))), ?_⟩
    have rep : (List.replicate (600 : Int).toNat [V.non]).flatten = List.replicate 600 V.non := by
      show (List.replicate 600 [V.non]).flatten = _
      generalize 600 = q
      induction q with
      | zero => rfl
      | succ q ih => rw [List.replicate_succ, List.flatten_cons, ih, List.replicate_succ]; rfl
    refine ⟨by show 1 ≤ sizeLine; decide, fun l1 nl1 => ?_⟩
    have s1 := sameNew (o := .lst [.non]) (Same.refl H) nl1
    have hl1 : upd H l1 (.lst [.non]) l1 = some (.lst [.non]) := upd_same
    generalize upd H l1 (.lst [.non]) = H1 at s1 hl1 ⊢
    refine ⟨l1, 600, _, rfl, rfl, hl1, by decide, by decide, by show 1 * 600 ≤ sizeLine; decide, fun c1 nc1 => ?_⟩
    rw [rep]
    have s2 := sameNew (o := .lst (List.replicate 600 V.non)) (Same.refl H1) nc1
    have hc1 : upd H1 c1 (.lst (List.replicate 600 V.non)) c1 = some (.lst (List.replicate 600 V.non)) := upd_same
    generalize upd H1 c1 (.lst (List.replicate 600 V.non)) = H2 at s2 hc1 ⊢
    have hx2 := s2 _ _ (s1 _ _ hx)
    refine ⟨_, rfl, x, C, dx, _, rfl, hx2, X.cl, X.nC, by show 0 < 1000; decide, ?_⟩
    obtain ⟨F1, eF1⟩ : ∃ F1, F1 = putF "certain" (.ref c1) [] := ⟨_, rfl⟩
    rw [← eF1]
    have lF1 : F1.length ≤ 1 := by rw [eF1]; exact lenF1 (n := 0) (Nat.le_refl _)
    have x3 : upd H2 x (.ins C dx F1) x = some (.ins C dx F1) := upd_same
    have f3 : ∀ b o, H2 b = some o → b ≠ x → upd H2 x (.ins C dx F1) b = some o := fun b o e n => (upd_ne n).trans e
    generalize upd H2 x (.ins C dx F1) = H3 at x3 f3 ⊢
    refine ⟨by show 1 ≤ sizeLine; decide, fun l2 nl2 => ?_⟩
    have s4 := sameNew (o := .lst [.non]) (Same.refl H3) nl2
    have hl2 : upd H3 l2 (.lst [.non]) l2 = some (.lst [.non]) := upd_same
    generalize upd H3 l2 (.lst [.non]) = H4 at s4 hl2 ⊢
    refine ⟨l2, 600, _, rfl, rfl, hl2, by decide, by decide, by show 1 * 600 ≤ sizeLine; decide, fun N nN => ?_⟩
    rw [rep]
    have s5 := sameNew (o := .lst (List.replicate 600 V.non)) (Same.refl H4) nN
    have hN : upd H4 N (.lst (List.replicate 600 V.non)) N = some (.lst (List.replicate 600 V.non)) := upd_same
    generalize upd H4 N (.lst (List.replicate 600 V.non)) = H5 at s5 hN ⊢
    have hx5 := s5 _ _ (s4 _ _ x3)
    have nxN : N ≠ x := fun z => by rw [z, s4 _ _ x3] at nN; cases nN
    refine ⟨_, rfl, x, C, dx, _, rfl, hx5, X.cl, X.nN, lenF1' lF1, ?_⟩
    obtain ⟨F2, eF2⟩ : ∃ F2, F2 = putF "newest" (.ref N) F1 := ⟨_, rfl⟩
    rw [← eF2]
    have lF2 : F2.length ≤ 2 := by rw [eF2]; exact lenF1 lF1
    have x6 : upd H5 x (.ins C dx F2) x = some (.ins C dx F2) := upd_same
    have f6 : ∀ b o, H5 b = some o → b ≠ x → upd H5 x (.ins C dx F2) b = some o := fun b o e n => (upd_ne n).trans e
    generalize upd H5 x (.ins C dx F2) = H6 at x6 f6 ⊢
    refine ⟨Nat.zero_le _, fun u nu => ?_⟩
    have s7 := sameNew (o := .lst []) (Same.refl H6) nu
    have hu : upd H6 u (.lst []) u = some (.lst []) := upd_same
    generalize upd H6 u (.lst []) = H7 at s7 hu ⊢
    refine ⟨_, rfl, x, C, dx, _, rfl, s7 _ _ x6, X.cl, X.nU, lenF1' lF2, ?_⟩
    obtain ⟨F3, eF3⟩ : ∃ F3, F3 = putF "unsettled" (.ref u) F2 := ⟨_, rfl⟩
    rw [← eF3]
    have lF3 : F3.length ≤ 3 := by rw [eF3]; exact lenF1 lF2
    have x8 : upd H7 x (.ins C dx F3) x = some (.ins C dx F3) := upd_same
    have f8 : ∀ b o, H7 b = some o → b ≠ x → upd H7 x (.ins C dx F3) b = some o := fun b o e n => (upd_ne n).trans e
    generalize upd H7 x (.ins C dx F3) = H8 at x8 f8 ⊢
    refine ⟨_, rfl, x, C, dx, _, rfl, x8, X.cl, X.nH, lenF1' lF3, ?_⟩
    obtain ⟨F4, eF4⟩ : ∃ F4, F4 = putF "has_stopped" (.bl false) F3 := ⟨_, rfl⟩
    rw [← eF4]
    have lF4 : F4.length ≤ 4 := by rw [eF4]; exact lenF1 lF3
    have x9 : upd H8 x (.ins C dx F4) x = some (.ins C dx F4) := upd_same
    have f9 : ∀ b o, H8 b = some o → b ≠ x → upd H8 x (.ins C dx F4) b = some o := fun b o e n => (upd_ne n).trans e
    generalize upd H8 x (.ins C dx F4) = H9 at x9 f9 ⊢
    refine ⟨_, rfl, x, C, dx, _, rfl, x9, X.cl, X.nL, lenF1' lF4, ?_⟩
    obtain ⟨F5, eF5⟩ : ∃ F5, F5 = putF "deeds_left" .non F4 := ⟨_, rfl⟩
    rw [← eF5]
    have lF5 : F5.length ≤ 5 := by rw [eF5]; exact lenF1 lF4
    have xA : upd H9 x (.ins C dx F5) x = some (.ins C dx F5) := upd_same
    have fA : ∀ b o, H9 b = some o → b ≠ x → upd H9 x (.ins C dx F5) b = some o := fun b o e n => (upd_ne n).trans e
    generalize upd H9 x (.ins C dx F5) = HA at xA fA ⊢
    refine ⟨Nat.zero_le _, fun pk npk => ?_⟩
    have sB := sameNew (o := .lst []) (Same.refl HA) npk
    have hpk : upd HA pk (.lst []) pk = some (.lst []) := upd_same
    generalize upd HA pk (.lst []) = HB at sB hpk ⊢
    refine ⟨_, rfl, x, C, dx, _, rfl, sB _ _ xA, X.cl, X.nP, lenF1' lF5, ?_⟩
    have lk : ∀ {f : Str}, ¬ f = "certain" → ¬ f = "newest" → ¬ f = "unsettled" → ¬ f = "has_stopped" → ¬ f = "deeds_left" → ¬ f = "picks" → (putF "picks" (.ref pk) F5).lookup f = none := fun {f} a1 a2 a3 a4 a5 a6 => by
      rw [lk_putN a6, eF5, lk_putN a5, eF4, lk_putN a4, eF3, lk_putN a3, eF2, lk_putN a2, eF1, lk_putN a1]
      rfl
    refine k _ ⟨dx, N, _, upd_same, ?_, ?_, lk (by decide +kernel) (by decide +kernel) (by decide +kernel) (by decide +kernel) (by decide +kernel) (by decide +kernel), lk (by decide +kernel) (by decide +kernel) (by decide +kernel) (by decide +kernel) (by decide +kernel) (by decide +kernel), ?_⟩ fun b o e n => ?_
    · rw [lk_putN (by decide +kernel), eF5, lk_putN (by decide +kernel), eF4, lk_putN (by decide +kernel), eF3, lk_putN (by decide +kernel), eF2]
      exact lk_put
    · rw [lk_putN (by decide +kernel), eF5, lk_putN (by decide +kernel), eF4]
      exact lk_put
    · rw [upd_ne nxN]
      exact sB _ _ (fA _ _ (f9 _ _ (f8 _ _ (s7 _ _ (f6 _ _ hN nxN)) nxN) nxN) nxN)
    · rw [upd_ne n]
      exact sB _ _ (fA _ _ (f9 _ _ (f8 _ _ (s7 _ _ (f6 _ _ (s5 _ _ (s4 _ _ (f3 _ _ (s2 _ _ (s1 _ _ e)) n))) n)) n) n) n)
theorem scBlk : FnScope ["block"] ["block"] (defScope s_check_block) := ⟨rfl, rfl, rfl, by decide +kernel, rfl, by decide +kernel, by decide +kernel⟩
def spBlk : Sp := fun vs H Q _ => ∃ (n : Int), vs = [.int n] ∧ 0 ≤ n ∧ n < 600 ∧ Q .non H
theorem check_block_ok {c : Addr} {t6 : Tok} (D : DefAt K mg "check_block" s_check_block c) (hB : mg "MANY_BLOCKS" = some (.int 600 t6)) (cN : Cal P w K mg base CX0 1 "is_number" ["value"] (spNum K)) : Cal P w K mg base CX0 2 "check_block" ["block"] spBlk := by
  have sc := scBlk
  refine def_ok0 D sc (fun vs H Q E h => ?_) (fun _ _ _ _ _ _ us hl => match us, hl with | [_], _ => rfl) (fun f A outer s H vs Q E hr h => ?_)
  · obtain ⟨n, rfl, _⟩ := h
    rfl
  · obtain ⟨n, rfl, h1, h2, k⟩ := h
    refine ⟨_, (pss_one (ps_if ((pw_or (pt_not (pt_val (pe_c cN hr (by decide) (by rfl) pass0 (pa_cons (pv 0) pa_nil)))) (pw_or1 (pt_not (pt_chain op_le op_lt pe_int (pv 0) (pe_glob (v := V.int 600) (by rfl) hB ⟨_, rfl⟩))))).pt) pss_never pss_nil)), ?_⟩
    refine ⟨_, rfl, _, _, rfl, .int n, _, rfl, ?_⟩
    have hn : isNum (.int n) = true := by simp [isNum, isI, isT, tyN]
    rw [hn]
    refine iteF ⟨_, rfl, _, _, rfl, rfl, _, rfl, ?_⟩
    rw [decide_eq_true h1]
    refine iteT ⟨_, _, rfl, rfl, _, rfl, ?_⟩
    rw [decide_eq_true h2]
    exact iteF k
theorem scDkR : FnScope ["self"] ["self"] (defScope s_Disk_check_runs) := ⟨rfl, rfl, rfl, by decide +kernel, rfl, by decide +kernel, by decide +kernel⟩
def spDkC (C : Addr) : Sp := fun vs H Q _ => ∃ (x : Addr), vs = [.ref x] ∧ DiskAt C H x ∧ Q .non H
theorem dkruns_ok {f C : Addr} {fd : FuncData} (X : TxD K C) (M : MethAt K C "check_runs" "Disk.check_runs" s_Disk_check_runs f fd) : MetC P w K mg base CX0 1 C "check_runs" ["self"] (spDkC C) := by
  have sc := scDkR
  refine ⟨f, fd, X.cl, M.me, ?_, M.fn.binds (fun _ _ _ _ _ _ us hl => match us, hl with | [_], _ => rfl)⟩
  refine M.fn.ok sc (fun vs H Q E h => ?_) (fun cdv A outer s H vs Q E hr h => ?_)
  · obtain ⟨x, rfl, _⟩ := h
    rfl
  · obtain ⟨x, rfl, ⟨dx, N, fs, hx, h2, h3, h4, h5, h6⟩, k⟩ := h
    refine ⟨_, (pss_one (ps_if (pt_truth (pe_fld (pv 0) rfl) (by intro _; rfl)) pss_never pss_nil)), ?_⟩
    refine ⟨_, rfl, x, C, dx, _, _, rfl, hx, X.cl, X.nH, h3, false, rfl, iteF k⟩
theorem scDkRd : FnScope ["self", "block"] ["self", "block"] (defScope s_Disk_read) := ⟨rfl, rfl, rfl, by decide +kernel, rfl, by decide +kernel, by decide +kernel⟩
def spDkRd (C : Addr) : Sp := fun vs H Q _ => ∃ (x : Addr), vs = [.ref x, .int 0] ∧ DiskAt C H x ∧ Q .non H
theorem dkread_ok {f C : Addr} {fd : FuncData} (X : TxD K C) (M : MethAt K C "read" "Disk.read" s_Disk_read f fd) (cB : Cal P w K mg base CX0 2 "check_block" ["block"] spBlk) (cR : MetC P w K mg base CX0 1 C "check_runs" ["self"] (spDkC C)) : MetC P w K mg base CX0 3 C "read" ["self", "block"] (spDkRd C) := by
  have sc := scDkRd
  refine ⟨f, fd, X.cl, M.me, ?_, M.fn.binds (fun _ _ _ _ _ _ us hl => match us, hl with | [_, _], _ => rfl)⟩
  refine M.fn.ok sc (fun vs H Q E h => ?_) (fun cdv A outer s H vs Q E hr h => ?_)
  · obtain ⟨x, rfl, _⟩ := h
    rfl
  · obtain ⟨x, rfl, d, k⟩ := h
    obtain ⟨dx, N, fs, hx, h2, h3, h4, h5, h6⟩ := id d
    refine ⟨_, (pss_cons (ps_expr (pe_c cB hr (by decide) (by rfl) pass0 (pa_cons (pv 1) pa_nil))) (pss_cons (ps_expr (pe_m0 cR hr (by decide) pass0 (pv 0))) (pss_one (ps_ret (pe_ix ix_list (pe_fld (pv 0) rfl) (pv 1) (fun _ _ => rfl)))))), ?_⟩
    refine ⟨_, rfl, 0, rfl, by decide, by decide, ?_⟩
    refine ⟨_, rfl, x, dx, _, rfl, hx, h5, x, rfl, d, ?_⟩
    refine ⟨_, rfl, x, C, dx, _, _, rfl, hx, X.cl, X.nN, h2, _, rfl, N, _, 0, .non, rfl, rfl, SqL.of h6, rfl, k⟩
theorem scSoI : FnScope ["self", "disk", "kinds", "order", "room", "page", "ways"] ["self", "disk", "kinds", "order", "room", "page", "ways"] (defScope s_Sorter_init) := ⟨rfl, rfl, rfl, by decide +kernel, rfl, by decide +kernel, by decide +kernel⟩
def spSoH (K : PySem.W.Frag) (CD CK CO p : Addr) : Sp := fun vs H _ E => ∃ (x dk : Addr) (vk vo r1 r2 r3 : V), vs = [.ref x, .ref dk, vk, vo, r1, r2, r3] ∧ DiskAt CD H dk ∧ HeadBad K CK CO p vk vo H E
theorem soinitH_ok {f C CD CK CO pK : Addr} {fd : FuncData} {t0 : Tok} (M : Mk K C f) (F : L2.Fun K "__init__" "Sorter.__init__" s_Sorter_init f fd) (hm : mg "Sorter" = some (.ref C)) (hR : mg "ROOT" = some (.int 0 t0)) (cR : MetC P w K mg base CX0 3 CD "read" ["self", "block"] (spDkRd CD)) (H4 : Heads P w K mg base CK CO pK) :
    MakC P w K mg base (L2.CX P w) 5 "Sorter" C ["self", "disk", "kinds", "order", "room", "page", "ways"] (spSoH K CD CK CO pK) := by
  have sc := scSoI
  refine ⟨f, fd, M, ?_, hm, F.binds (fun _ _ _ _ _ _ us hl => match us, hl with | [_, _, _, _, _, _, _], _ => rfl)⟩
  refine F.okX sc (fun vs H Q E h => ?_) (fun cdv A outer s H vs Q E hr h => ?_)
  · obtain ⟨x, dk, vk, vo, r1, r2, r3, rfl, _⟩ := h
    rfl
  · obtain ⟨x, dk, vk, vo, r1, r2, r3, rfl, d, ht, b⟩ := h
    obtain ⟨dx, N, fs, hx, h2, h3, h4, h5, h6⟩ := id d
    rcases b with ⟨ws, h1, h2, h3, h4'⟩ | ⟨ks, ods, h1, k1, k4, h2, h3, h4', h5'⟩
    · refine ⟨_, pss_cons (ps_expr (pe_m cR hr (by decide) pass0 (pv 1) (pa_cons (pe_glob (v := V.int 0) (by rfl) hR ⟨_, rfl⟩) pa_nil))) (pss_cons (ps_expr (pe_c H4.ke hr (by decide) (by rfl) (passes_call (takes_of rfl rfl rfl rfl) fun _ _ _ _ h => h) (pa_cons (pv 2) pa_nil))) pss_never), ?_⟩
      refine ⟨_, rfl, dk, dx, _, rfl, hx, h4, dk, rfl, d, ?_⟩
      exact ⟨_, rfl, vk, ws, rfl, h1, h2, h3, ht, h4' _ (Same.refl H)⟩
    · refine ⟨_, pss_cons (ps_expr (pe_m cR hr (by decide) pass0 (pv 1) (pa_cons (pe_glob (v := V.int 0) (by rfl) hR ⟨_, rfl⟩) pa_nil))) (pss_cons (ps_expr (pe_c H4.k hr (by decide) (by rfl) pass0 (pa_cons (pv 2) pa_nil))) (pss_cons (ps_expr (pe_c H4.oe hr (by decide) (by rfl) (passes_call (takes_of rfl rfl rfl rfl) fun _ _ _ _ h => h) (pa_cons (pv 2) (pa_cons (pv 3) pa_nil)))) pss_never)), ?_⟩
      refine ⟨_, rfl, dk, dx, _, rfl, hx, h4, dk, rfl, d, ?_⟩
      exact ⟨_, rfl, vk, ks, rfl, h1, k1, k4, ht, _, rfl, _, rfl, vk, vo, ks, ods, rfl, h1, h2, h3, h4', h5'⟩
end
end RS
set_option Elab.async false
set_option maxRecDepth 100000
set_option maxHeartbeats 8000000
set_option pp.maxSteps 400
namespace RS
open PySem PySem.Spec PyProof.Rows L2 GX LM
/-! ### kinds and orders that are none -/
theorem dpStrs {K : PySem.W.Frag} {H : Hp} : ∀ ws : List Str, DpAll K H (ws.map V.str) (ws.map PyData.str)
  | [] => .nil
  | _ :: ws => .cons (.str _) (dpStrs ws)
theorem dpAll_strs {K : PySem.W.Frag} {H : Hp} : ∀ {xs : List V} {ws : List Str}, DpAll K H xs (ws.map PyData.str) → xs = ws.map V.str
  | _, [], .nil => rfl
  | _, w :: ws, .cons h t => by
    cases h
    rw [dpAll_strs t]
    rfl
theorem words_noL (ws : List Str) : noL (wordsD ws) = true := noLs_iff.mpr fun d hd => by
  obtain ⟨b, _, rfl⟩ := List.mem_map.mp hd
  rfl
theorem words8 {x : Int} (x0 : 0 ≤ x) (x8 : x < 8) : ∃ s : Str, atI [V.str "", .str "Number", .str "numbers", .str "text", .str "wor", .str " word", .str "WORD", .str "number word"] x = some (.str s) ∧ kindOk s = false := by
  rcases (by omega : x = 0 ∨ x = 1 ∨ x = 2 ∨ x = 3 ∨ x = 4 ∨ x = 5 ∨ x = 6 ∨ x = 7) with rfl | rfl | rfl | rfl | rfl | rfl | rfl | rfl
  all_goals exact ⟨_, rfl, by decide +kernel⟩
theorem bad_has {ws : List Str} {s : Str} (h : s ∈ ws) (e : kindOk s = false) : BadKs ws := fun z => by
  have := z.2.2 s h
  rw [e] at this
  cases this
theorem cat_any2 {H : Hp} {a b : Addr} {xs ys : List V} {Q : VK} (ha : H a = some (.lst xs)) (hb : H b = some (.lst ys)) (hz : xs.length + ys.length ≤ sizeLine) (q : ∀ p H', Same H H' → H p = none → H' p = some (.lst (xs ++ ys)) → Q (.ref p) H') : rCat (.ref a) (.ref b) H Q :=
  ⟨a, b, xs, ys, rfl, rfl, ha, hb, hz, fun p hp => q p _ (sameNew (Same.refl H) hp) hp upd_same⟩
theorem sl_any2 {K : PySem.W.Frag} {H : Hp} {a : Addr} {xs : List V} {lo hi : Option Int} {Q : VK} (ha : H a = some (.lst xs)) (q : ∀ p H', Same H H' → H p = none → H' p = some (.lst (cutV xs lo hi)) → Q (.ref p) H') : rSlL K (.ref a) lo hi H Q :=
  ⟨a, xs, rfl, SqL.of ha, fun p hp => q p _ (sameNew (Same.refl H) hp) hp upd_same⟩
theorem cutV_to2 {xs : List V} {k : Nat} : cutV xs none (some (k : Nat)) = xs.take k := by
  unfold cutV
  rw [HT.sIx_nat, HT.sIx_none, List.drop_zero, Nat.sub_zero]
  exact (List.take_eq_take_min).symm
theorem cutV_from2 {xs : List V} {k : Nat} (h : k ≤ xs.length) : cutV xs (some (k : Nat)) none = xs.drop k := by
  unfold cutV
  rw [HT.sIx_nat, HT.sIx_none, Nat.min_eq_left h, List.take_of_length_le]
  rw [List.length_drop]
  exact Nat.le_refl _
section
variable {P : Program} {w : World} {K : PySem.W.Frag} {mg : Str → Option Value} {base : Heap}
theorem scBadKs : FnScope ["_law_box", "_law_way", "_law_kinds_here", "_law_words", "_law_turn", "_law_k"] ["_law_box"] (defScope s__law_bad_kinds) := ⟨rfl, rfl, rfl, by decide +kernel, rfl, by decide +kernel, by decide +kernel⟩
def spBadKs (K : PySem.W.Frag) : Sp := fun vs H Q _ => ∃ (B L : Addr), vs = [.ref B] ∧ BoxAt H B L ∧
  ∀ (H' : Hp) (v : V) (ws : List Str), SameX B L H H' → BoxAt H' B L → Dp K H' v (wordsD ws) → ws.length ≤ 20 → BadKs ws → Q v H'
theorem badks_ok {c : Addr} (D : DefAt K mg "_law_bad_kinds" s__law_bad_kinds c) (T : Txt K mg) (cT : Cal P w K mg base CX0 1 "_law_take" ["_law_box", "_law_many"] spTake) (cK : Cal P w K mg base CX0 2 "_law_kinds" ["_law_box"] (spKinds K)) : Cal P w K mg base CX0 3 "_law_bad_kinds" ["_law_box"] (spBadKs K) := by
  have sc := scBadKs
  refine def_ok0 D sc (fun vs H Q E h => ?_) (fun _ _ _ _ _ _ us hl => match us, hl with | [_], _ => rfl) (fun f A outer s H vs Q E hr h => ?_)
  · obtain ⟨B, L, rfl, _⟩ := h
    rfl
  · obtain ⟨B, L, rfl, hb, k⟩ := h
    refine ⟨_, (pss_cons (ps_set (i := 1) sc.nd rfl (Or.inl rfl) (pe_c cT hr (by decide) (by rfl) pass0 (pa_cons (pv 0) (pa_cons pe_int pa_nil)))) (pss_cons (ps_set (i := 2) sc.nd rfl (Or.inl rfl) (pe_c cK hr (by decide) (by rfl) pass0 (pa_cons (pv 0) pa_nil))) (pss_cons (ps_if (pt_cmpR op_eq (pv 1) pe_int (nomark _)) (pss_one (ps_ret (pe_tup pa_nil))) pss_nil) (pss_cons (ps_if (pt_cmpR op_eq (pv 1) pe_int (nomark _)) (pss_one (ps_ret (pe_slice sl_tupA (pe_op op_catA (pv 2) (pe_op op_repT (pe_tup (pa_cons pe_str (pa_cons pe_str pa_nil))) pe_int)) po_none (po_some (pe_op op_add pe_int (pe_c cT hr (by decide) (by rfl) pass0 (pa_cons (pv 0) (pa_cons pe_int pa_nil)))))))) pss_nil) (pss_cons (ps_set (i := 3) sc.nd rfl (Or.inl rfl) (pe_lst (pa_cons pe_str (pa_cons pe_str (pa_cons pe_str (pa_cons pe_str (pa_cons pe_str (pa_cons pe_str (pa_cons pe_str (pa_cons pe_str pa_nil)))))))))) (pss_cons (ps_for PassesOwn.never rfl (pi_range1 (by rfl) T.range (pa_cons (pe_op op_add pe_int (pe_c cT hr (by decide) (by rfl) pass0 (pa_cons (pv 0) (pa_cons pe_int pa_nil)))) pa_nil)) (pg_name (i := 4) sc.nd rfl (Or.inl rfl)) (pss_cons (ps_set (i := 5) sc.nd rfl (Or.inl rfl) (pe_c cT hr (by decide) (by rfl) pass0 (pa_cons (pv 0) (pa_cons (pe_callB call_lenD (by rfl) T.len PySem.boot_len (pa_cons (pv 2) pa_nil)) pa_nil)))) (pss_one (ps_set (i := 2) sc.nd rfl (Or.inl rfl) (pe_op op_catA (pe_op op_catA (pe_slice sl_tupA (pv 2) po_none (po_some (pv 5))) (pe_tup (pa_cons (pe_ix ix_list (pv 3) (pe_c cT hr (by decide) (by rfl) pass0 (pa_cons (pv 0) (pa_cons pe_int pa_nil))) (fun _ _ => rfl)) pa_nil))) (pe_slice sl_tupA (pv 2) (po_some (pe_op op_add (pv 5) pe_int)) po_none)))))) (pss_one (ps_ret (pv 2))))))))), ?_⟩
    have big : (1000000 : Nat) ≤ sizeLine := by decide
    refine ⟨_, rfl, B, L, 4, rfl, hb, by decide, by decide, fun H1 way s1 b1 w0 w4 => ?_⟩
    refine ⟨_, rfl, B, L, rfl, b1, fun H2 vk ks s2 b2 k1 k4 hk => ?_⟩
    have x2 := s1.trans s2
    obtain ⟨aK, xs, rfl, hT, hI⟩ : ∃ aK xs, vk = .ref aK ∧ SqT K H2 aK xs ∧ DpAll K H2 xs ((ks.map kindS).map PyData.str) := by
      cases hk with
      | @tup a xs _ h1 h2 => exact ⟨a, xs, rfl, h1, by rw [List.map_map]; exact h2⟩
    obtain rfl := dpAll_strs hI
    refine ⟨_, rfl, rfl, _, rfl, ?_⟩
    by_cases c0 : way = 0
    · subst c0
      refine iteT' (decide_eq_true rfl) ?_
      refine ⟨by show 0 ≤ sizeLine; decide, fun t nt => ?_⟩
      have s3 := sameNew (o := .tup []) (Same.refl H2) nt
      have ht : upd H2 t (.tup []) t = some (.tup []) := upd_same
      generalize upd H2 t (.tup []) = H3 at s3 ht ⊢
      exact k _ _ [] (x2.trans (SameX.of s3)) (b2.same s3) (.tup (SqT.of ht) .nil) (by decide) fun z => absurd z.1 (by decide)
    refine iteF' (decide_eq_false fun z => c0 (V.int.inj z)) ?_
    refine ⟨_, rfl, rfl, _, rfl, ?_⟩
    by_cases c1 : way = 1
    · subst c1
      refine iteT' (decide_eq_true rfl) ?_
      refine ⟨_, rfl, by show 2 ≤ sizeLine; decide, fun t nt => ?_⟩
      have s3 := sameNew (o := .tup [.str "number", .str "word"]) (Same.refl H2) nt
      have ht : upd H2 t (.tup [.str "number", .str "word"]) t = some (.tup [.str "number", .str "word"]) := upd_same
      generalize upd H2 t (.tup [.str "number", .str "word"]) = H3 at s3 ht ⊢
      refine ⟨t, 3, _, rfl, rfl, SqT.of ht, by simp, by decide, by decide, by decide, fun t2 nt2 => ?_⟩
      have e6 : (List.replicate (3 : Int).toNat [V.str "number", .str "word"]).flatten = (["number", "word", "number", "word", "number", "word"] : List Str).map V.str := rfl
      rw [e6]
      have s4 := sameNew (o := .tup ((["number", "word", "number", "word", "number", "word"] : List Str).map V.str)) (Same.refl H3) nt2
      have ht2 : upd H3 t2 (.tup ((["number", "word", "number", "word", "number", "word"] : List Str).map V.str)) t2 = some (.tup ((["number", "word", "number", "word", "number", "word"] : List Str).map V.str)) := upd_same
      generalize upd H3 t2 (.tup ((["number", "word", "number", "word", "number", "word"] : List Str).map V.str)) = H4 at s4 ht2 ⊢
      have s24 := s3.trans s4
      refine catA_any (sqT_same s24 hT) (SqT.of ht2) (by rw [List.length_map, List.length_map, List.length_map]; show ks.length + 6 ≤ sizeLine; omega) fun p H5 s5 hp => ?_
      have s25 := s24.trans s5
      dsimp only [tNoPart]
      refine ⟨_, rfl, B, L, 3, rfl, b2.same s25, by decide, by decide, fun H6 x s6 b6 x0 x3 => ⟨_, _, rfl, rfl, ?_⟩⟩
      obtain ⟨xn, rfl⟩ : ∃ n : Nat, x = (n : Nat) := ⟨x.toNat, by omega⟩
      have e5 : (5 : Int) + (xn : Nat) = ((5 + xn : Nat) : Int) := by omega
      refine ⟨_, rfl, ?_⟩
      refine slA_any (lo := none) (hi := some ((5 : Int) + (xn : Nat))) (sqT_x (b2.same s25) s6 hp) fun p2 H7 s7 hp2 => ?_
      rw [e5, cutV_to2, ← List.map_append, ← List.map_take] at hp2
      have lw : ((ks.map kindS ++ (["number", "word", "number", "word", "number", "word"] : List Str)).take (5 + xn)).length = 5 + xn := by
        rw [List.length_take, List.length_append, List.length_map]
        show min (5 + xn) (ks.length + 6) = 5 + xn
        omega
      exact k _ _ _ ((x2.trans (SameX.of s25)).trans (s6.trans (SameX.of s7))) (b6.same s7) (.tup hp2 (dpStrs _)) (by rw [lw]; omega) fun z => by
        have := z.2.1
        rw [lw] at this
        omega
    refine iteF' (decide_eq_false fun z => c1 (V.int.inj z)) ?_
    refine ⟨by show 8 ≤ sizeLine; decide, fun W nW => ?_⟩
    obtain ⟨nWB, nWL⟩ := b2.nb nW
    have s3 := sameNew (o := .lst [.str "", .str "Number", .str "numbers", .str "text", .str "wor", .str " word", .str "WORD", .str "number word"]) (Same.refl H2) nW
    have hW : upd H2 W (.lst [.str "", .str "Number", .str "numbers", .str "text", .str "wor", .str " word", .str "WORD", .str "number word"]) W = some (.lst [.str "", .str "Number", .str "numbers", .str "text", .str "wor", .str " word", .str "WORD", .str "number word"]) := upd_same
    generalize upd H2 W (.lst [.str "", .str "Number", .str "numbers", .str "text", .str "wor", .str " word", .str "WORD", .str "number word"]) = H3 at s3 hW ⊢
    refine ⟨_, rfl, B, L, 2, rfl, b2.same s3, by decide, by decide, fun H4 tn s4 b4 t0 t2 => ?_⟩
    refine ⟨_, _, rfl, rfl, _, rfl, by omega, by omega, ?_⟩
    rw [show (1 + tn).toNat = tn.toNat + 1 by omega]
    refine for_range (fun i σ H' => ∃ (v : V) (ws : List Str) (v4 v5 : Option V), σ = [some (.ref B), some (.int way), some v, some (.ref W), v4, v5] ∧ SameX B L H H' ∧ BoxAt H' B L ∧ H' W = some (.lst [.str "", .str "Number", .str "numbers", .str "text", .str "wor", .str " word", .str "WORD", .str "number word"]) ∧ Dp K H' v (wordsD ws) ∧ 1 ≤ ws.length ∧ ws.length ≤ 4 ∧ (1 ≤ i → BadKs ws))
      ⟨_, ks.map kindS, none, none, rfl, (x2.trans (SameX.of s3)).trans s4, b4, s4 _ _ nWB nWL hW, dp_x (b2.same s3) s4 _ (words_noL _) (dp_same s3 _ (.tup hT hI)), by rw [List.length_map]; omega, by rw [List.length_map]; omega, fun h => by omega⟩ ?_ ?_
    · rintro i σ H5 hi ⟨v, ws, v4, v5, rfl, x5, b5, hW5, hv, l1, l4, hbad⟩
      obtain ⟨aV, ys, rfl, hTv, hIv⟩ : ∃ aV ys, v = .ref aV ∧ SqT K H5 aV ys ∧ DpAll K H5 ys (ws.map PyData.str) := by
        cases hv with
        | @tup a xs _ h1 h2 => exact ⟨a, xs, rfl, h1, h2⟩
      obtain rfl := dpAll_strs hIv
      refine ⟨_, rfl, _, rfl, .ref aV, _, _, rfl, hv, rfl, B, L, _, rfl, b5, by rw [List.length_map]; omega, by rw [List.length_map]; omega, fun H6 kx s6 b6 g0 g1 => ?_⟩
      rw [List.length_map] at g1
      obtain ⟨kn, rfl⟩ : ∃ n : Nat, kx = (n : Nat) := ⟨kx.toNat, by omega⟩
      have hv6 := dp_x b5 s6 _ (words_noL _) hv
      have hT6 : SqT K H6 aV (ws.map V.str) := sqT_x b5 s6 hTv
      refine ⟨_, rfl, ?_⟩
      dsimp only [tNoPart]
      refine ⟨_, rfl, _, rfl, ?_⟩
      refine slA_any (lo := none) (hi := some (kn : Nat)) hT6 fun p1 H7 s7 hp1 => ?_
      have b7 := b6.same s7
      refine ⟨_, rfl, _, rfl, B, L, 8, rfl, b7, by decide, by decide, fun H8 wx s8 b8 h0 h8 => ?_⟩
      obtain ⟨sw, esw, okw⟩ := words8 h0 h8
      have hW8 := s8 _ _ nWB nWL (s7 _ _ (s6 _ _ nWB nWL hW5))
      refine ⟨W, _, wx, _, rfl, rfl, SqL.of hW8, esw, ?_⟩
      rw [cutV_to2] at hp1
      refine ⟨by show 1 ≤ sizeLine; decide, fun t nt => ?_⟩
      have s9 := sameNew (o := .tup [.str sw]) (Same.refl H8) nt
      have ht : upd H8 t (.tup [.str sw]) t = some (.tup [.str sw]) := upd_same
      generalize upd H8 t (.tup [.str sw]) = H9 at s9 ht ⊢
      have hp19 := sqT_same s9 (sqT_x b7 s8 hp1)
      refine catA_any hp19 (SqT.of ht) (by rw [List.length_take, List.length_map]; show _ + 1 ≤ sizeLine; omega) fun p2 H10 s10 hp2 => ?_
      have s810 := s9.trans s10
      have hT10 := sqT_same s810 (sqT_x b7 s8 (sqT_same s7 hT6))
      refine ⟨_, rfl, _, rfl, _, _, rfl, rfl, _, rfl, ?_⟩
      dsimp only [tNoPart]
      refine slA_any (lo := some ((kn : Nat) + 1)) (hi := none) hT10 fun p3 H11 s11 hp3 => ?_
      rw [show ((kn : Nat) : Int) + 1 = ((kn + 1 : Nat) : Int) by omega, cutV_from2 (by rw [List.length_map]; omega)] at hp3
      refine catA_any (sqT_same s11 hp2) hp3 (by simp only [List.length_append, List.length_take, List.length_drop, List.length_map, List.length_singleton]; omega) fun p4 H12 s12 hp4 => ?_
      have s812 := (s810.trans s11).trans s12
      have b12 := b8.same s812
      have x512 : SameX B L H5 H12 := ((s6.trans (SameX.of s7)).trans s8).trans (SameX.of s812)
      have ew : List.take kn (ws.map V.str) ++ [V.str sw] ++ List.drop (kn + 1) (ws.map V.str) = (ws.take kn ++ [sw] ++ ws.drop (kn + 1)).map V.str := by
        rw [List.map_append, List.map_append, List.map_take, List.map_drop]
        rfl
      rw [ew] at hp4
      have lw : (ws.take kn ++ [sw] ++ ws.drop (kn + 1)).length = ws.length := by
        simp only [List.length_append, List.length_take, List.length_drop, List.length_singleton]
        omega
      exact ⟨_, _, _, _, rfl, x5.trans x512, b12, s812 _ _ hW8, .tup hp4 (dpStrs _), by omega, by omega, fun _ => bad_has (s := sw) (by simp) okw⟩
    · rintro σ H5 ⟨v, ws, v4, v5, rfl, x5, b5, hW5, hv, l1, l4, hbad⟩
      exact ⟨_, rfl, k _ _ ws x5 b5 hv (by omega) (hbad (by omega))⟩
end
end RS
set_option Elab.async false
set_option maxRecDepth 100000
set_option maxHeartbeats 8000000
set_option pp.maxSteps 400
namespace RS
open PySem PySem.Spec PyProof.Rows L2 GX LM
/-! ### orders that are none -/
theorem first_dup : ∀ (n : Nat) (l : List (Nat × Bool)), l.length = n → ¬ (l.map (·.1)).Nodup → ∃ pre q rest, l = pre ++ q :: rest ∧ (pre.map (·.1)).Nodup ∧ q.1 ∈ pre.map (·.1)
  | 0, l, e, h => by
    rw [List.length_eq_zero_iff.mp e] at h
    exact absurd List.nodup_nil h
  | n + 1, l, e, h => by
    rcases l.eq_nil_or_concat with rfl | ⟨l, q, rfl⟩
    · cases e
    · rw [List.concat_eq_append] at e h ⊢
      by_cases c : (l.map (·.1)).Nodup
      · refine ⟨l, q, [], rfl, c, ?_⟩
        by_cases m : q.1 ∈ l.map (·.1)
        · exact m
        · refine absurd ?_ h
          rw [List.map_append]
          refine List.nodup_append.mpr ⟨c, by simp, fun a ha b hb => ?_⟩
          rw [show b = q.1 by simpa using hb]
          exact fun z => m (by rw [← z]; exact ha)
      · obtain ⟨pre, q', rest, e', h1, h2⟩ := first_dup n l (by simpa using e) c
        exact ⟨pre, q', rest ++ [q], by rw [e']; simp, h1, h2⟩
theorem dup_bad {n : Nat} {l : List (Nat × Bool)} (hc : ∀ p ∈ l, p.1 < n) (h : ¬ (l.map (·.1)).Nodup) : BadOrd n (l.map partL) := by
  obtain ⟨pre, q, rest, rfl, h1, h2⟩ := first_dup _ l rfl h
  refine .inr ⟨pre, partL q, rest.map partL, by rw [List.map_append, List.map_cons], fun p hp => hc p (by simp [hp]), h1, .inr ⟨_, _, rfl⟩, .inr ⟨q, rfl, hc q (by simp), h2⟩⟩
/-- a part that makes an order none -/
def OddPart (n : Nat) (os : List (Nat × Bool)) (b : List PyData) : Prop := PartL b ∧ noLs b = true ∧ (okPart n b = false ∨ ∃ q : Nat × Bool, b = partL q ∧ q.1 < n ∧ q.1 ∈ os.map (·.1))
theorem odd_order {n at_ : Nat} {os : List (Nat × Bool)} {b : List PyData} (ok : OkOrder n os) (o : OddPart n os b) : BadOrd n ((os.take at_).map partL ++ b :: (os.drop at_).map partL) := by
  obtain ⟨h1, _, h2 | ⟨q, rfl, hq, hm⟩⟩ := o
  · exact .inr ⟨os.take at_, b, _, rfl, fun p hp => ok.col p (List.mem_of_mem_take hp), (ok.nd.sublist ((List.take_sublist at_ os).map _)), h1, .inl h2⟩
  · have e : (os.take at_).map partL ++ partL q :: (os.drop at_).map partL = (os.take at_ ++ q :: os.drop at_).map partL := by rw [List.map_append, List.map_cons]
    rw [e]
    refine dup_bad (fun p hp => ?_) fun z => ?_
    · rcases List.mem_append.mp hp with h | h
      · exact ok.col p (List.mem_of_mem_take h)
      · rcases List.mem_cons.mp h with h | h
        · rw [h]; exact hq
        · exact ok.col p (List.mem_of_mem_drop h)
    · rw [List.map_append, List.map_cons] at z
      obtain ⟨_, z2, z3⟩ := List.nodup_append.mp z
      rw [← List.take_append_drop at_ os, List.map_append] at hm
      rcases List.mem_append.mp hm with h | h
      · exact z3 _ h _ List.mem_cons_self rfl
      · exact (List.nodup_cons.mp z2).1 h
theorem up_in : inV (.str ("up" : Str)) [.str "up", .str "down"] = true := by decide +kernel
theorem okPart_word {n : Nat} {c : Int} {s : Str} (h : inV (.str s) [.str "up", .str "down"] = false) : okPart n [.int c, .str s] = false := by
  show (_ && _ && inV (.str s) [.str "up", .str "down"]) = false
  rw [h, Bool.and_false]
theorem okPart_col {n : Nat} {c : Int} {s : Str} (h : c < 0 ∨ (n : Int) ≤ c) : okPart n [.int c, .str s] = false := by
  show (decide (0 ≤ c) && decide (c < (n : Int)) && _) = false
  rcases h with h | h
  · rw [decide_eq_false (by omega), Bool.false_and, Bool.false_and]
  · rw [show decide (c < (n : Int)) = false from decide_eq_false (by omega), Bool.and_false, Bool.false_and]
section
variable {P : Program} {w : World} {K : PySem.W.Frag} {mg : Str → Option Value} {base : Heap}
theorem scBadO : FnScope ["_law_box", "_law_kinds_here", "_law_order_here", "_law_at", "_law_out", "_law_twice", "_law_some"] ["_law_box", "_law_kinds_here", "_law_order_here"] (defScope s__law_bad_order) := ⟨rfl, rfl, rfl, by decide +kernel, rfl, by decide +kernel, by decide +kernel⟩
def spBadO (K : PySem.W.Frag) : Sp := fun vs H Q _ => ∃ (B L O : Addr) (vk : V) (ks : List Bool) (os : List (Nat × Bool)) (xs : List V), vs = [.ref B, vk, .ref O] ∧ BoxAt H B L ∧ Dp K H vk (kindsD ks) ∧ 1 ≤ ks.length ∧ ks.length ≤ 4 ∧ O ≠ B ∧ O ≠ L ∧ H O = some (.lst xs) ∧ DpAll K H xs (os.map partD) ∧ OkOrder ks.length os ∧ os.length ≤ 4 ∧
  ∀ (H' : Hp) (v : V) (ods : List (List PyData)), SameX B L H H' → BoxAt H' B L → Dp K H' v (rowsD ods) → (∀ b ∈ ods, noLs b = true) → v ≠ .ref B ∧ v ≠ .ref L → ods.length ≤ 20 → BadOrd ks.length ods → Q v H'
theorem bado_ok {c : Addr} (D : DefAt K mg "_law_bad_order" s__law_bad_order c) (T : Txt K mg) (cT : Cal P w K mg base CX0 1 "_law_take" ["_law_box", "_law_many"] spTake) : Cal P w K mg base CX0 2 "_law_bad_order" ["_law_box", "_law_kinds_here", "_law_order_here"] (spBadO K) := by
  have sc := scBadO
  refine def_ok0 D sc (fun vs H Q E h => ?_) (fun _ _ _ _ _ _ us hl => match us, hl with | [_, _, _], _ => rfl) (fun f A outer s H vs Q E hr h => ?_)
  · obtain ⟨B, L, O, vk, ks, os, xs, rfl, _⟩ := h
    rfl
  · obtain ⟨B, L, O, vk, ks, os, xs, rfl, hb, hk, k1, k4, nOB, nOL, hO, hI, oko, l4, k⟩ := h
    refine ⟨_, (pss_cons (ps_set (i := 3) sc.nd rfl (Or.inl rfl) (pe_c cT hr (by decide) (by rfl) pass0 (pa_cons (pv 0) (pa_cons (pe_op op_add (pe_callB call_lenD (by rfl) T.len PySem.boot_len (pa_cons (pv 2) pa_nil)) pe_int) pa_nil)))) (pss_cons (ps_set (i := 4) sc.nd rfl (Or.inl rfl) (pe_ix ix_list (pe_lst (pa_cons (pe_un un_neg pe_int) (pa_cons (pe_callB call_lenD (by rfl) T.len PySem.boot_len (pa_cons (pv 1) pa_nil)) (pa_cons (pe_op op_pow pe_int pe_int) pa_nil)))) (pe_c cT hr (by decide) (by rfl) pass0 (pa_cons (pv 0) (pa_cons pe_int pa_nil))) (fun _ _ => rfl))) (pss_cons (ps_set (i := 5) sc.nd rfl (Or.inl rfl) (pe_ix ix_list (pv 2) (pe_c cT hr (by decide) (by rfl) pass0 (pa_cons (pv 0) (pa_cons (pe_callB call_lenD (by rfl) T.len PySem.boot_len (pa_cons (pv 2) pa_nil)) pa_nil))) (fun _ _ => rfl))) (pss_cons (ps_set (i := 6) sc.nd rfl (Or.inl rfl) (pe_lst (pa_cons (pe_tup (pa_cons (pv 4) (pa_cons pe_str pa_nil))) (pa_cons (pe_tup (pa_cons pe_int (pa_cons pe_str pa_nil))) (pa_cons (pe_tup (pa_cons pe_int (pa_cons pe_str pa_nil))) (pa_cons (pe_tup (pa_cons pe_int pa_nil)) (pa_cons (pe_tup (pa_cons pe_int (pa_cons pe_str (pa_cons pe_str pa_nil)))) (pa_cons (pe_tup pa_nil) (pa_cons (pv 5) (pa_cons (pe_tup (pa_cons (pe_ix ix_tup (pv 5) pe_int (fun _ _ => rfl)) (pa_cons pe_str pa_nil))) pa_nil)))))))))) (pss_one (ps_ret (pe_ix ix_list (pe_lst (pa_cons (pe_op op_cat (pe_op op_cat (pe_slice sl_list (pv 2) po_none (po_some (pv 3))) (pe_lst (pa_cons (pe_ix ix_list (pv 6) (pe_c cT hr (by decide) (by rfl) pass0 (pa_cons (pv 0) (pa_cons pe_int pa_nil))) (fun _ _ => rfl)) pa_nil))) (pe_slice sl_list (pv 2) (po_some (pv 3)) po_none)) (pa_cons (pe_lst pa_nil) pa_nil))) (pe_callTy call_int1 (by rfl) T.int_ (by decide +kernel) (pa_cons (pe_cmpR op_eq (pe_c cT hr (by decide) (by rfl) pass0 (pa_cons (pv 0) (pa_cons pe_int pa_nil))) pe_int (nomark _)) pa_nil)) (fun _ _ => rfl)))))))), ?_⟩
    have big : (1000000 : Nat) ≤ sizeLine := by decide
    have noO := parts_noL os
    have lx : xs.length = os.length := by rw [dpLen hI, List.length_map]
    have l1 : 1 ≤ os.length := List.length_pos_iff.mpr oko.some_
    refine ⟨_, rfl, _, rfl, .ref O, _, _, rfl, .lst (SqL.of hO) hI, rfl, _, _, rfl, rfl, B, L, _, rfl, hb, by rw [List.length_map]; omega, by rw [List.length_map]; omega, fun H1 ax s1 b1 a0 a1 => ?_⟩
    rw [List.length_map] at a1
    obtain ⟨an, rfl⟩ : ∃ n : Nat, ax = (n : Nat) := ⟨ax.toNat, by omega⟩
    have hO1 := s1 _ _ nOB nOL hO
    have hI1 := dpAll_x hb s1 _ noO hI
    have hk1 := dp_x hb s1 _ (kinds_noL ks) hk
    have lk : (ks.map fun b => PyData.str (kindS b)).length = ks.length := List.length_map _
    refine ⟨1, rfl, _, rfl, vk, _, _, rfl, hk1, rfl, _, _, rfl, rfl, ⟨by decide, by decide, by decide⟩, by show 3 ≤ sizeLine; decide, fun e1 ne1 => ?_⟩
    obtain ⟨ne1B, ne1L⟩ := b1.nb ne1
    have s2 := sameNew (o := .lst [.int (-1), .int ((ks.map fun b => PyData.str (kindS b)).length : Nat), .int (10 ^ (18 : Int).toNat)]) (Same.refl H1) ne1
    have he1 : upd H1 e1 (.lst [.int (-1), .int ((ks.map fun b => PyData.str (kindS b)).length : Nat), .int (10 ^ (18 : Int).toNat)]) e1 = some (.lst [.int (-1), .int ((ks.map fun b => PyData.str (kindS b)).length : Nat), .int (10 ^ (18 : Int).toNat)]) := upd_same
    generalize upd H1 e1 (.lst [.int (-1), .int ((ks.map fun b => PyData.str (kindS b)).length : Nat), .int (10 ^ (18 : Int).toNat)]) = H2 at s2 he1 ⊢
    refine ⟨_, rfl, B, L, 3, rfl, b1.same s2, by decide, by decide, fun H3 ox s3 b3 o0 o3 => ?_⟩
    obtain ⟨oi, eoi, hoi⟩ : ∃ i : Int, atI [V.int (-1), .int ((ks.map fun b => PyData.str (kindS b)).length : Nat), .int (10 ^ (18 : Int).toNat)] ox = some (.int i) ∧ (i < 0 ∨ (ks.length : Int) ≤ i) := by
      rcases (by omega : ox = 0 ∨ ox = 1 ∨ ox = 2) with e | e | e <;> subst e
      · exact ⟨-1, rfl, .inl (by decide)⟩
      · exact ⟨_, rfl, .inr (by rw [lk]; exact Int.le_refl _)⟩
      · refine ⟨_, rfl, .inr ?_⟩
        have pw : ((10 : Int) ^ (18 : Int).toNat) = 1000000000000000000 := by decide +kernel
        rw [pw]
        omega
    refine ⟨e1, _, ox, _, rfl, rfl, SqL.of (s3 _ _ ne1B ne1L he1), eoi, ?_⟩
    have x13 := (SameX.of s2).trans s3
    have hO3 := x13 _ _ nOB nOL hO1
    have hI3 := dpAll_x b1 x13 _ noO hI1
    refine ⟨_, rfl, _, rfl, _, rfl, .ref O, _, _, rfl, .lst (SqL.of hO3) hI3, rfl, B, L, _, rfl, b3, by rw [List.length_map]; omega, by rw [List.length_map]; omega, fun H4 tx s4 b4 t0 t1 => ?_⟩
    rw [List.length_map] at t1
    obtain ⟨tn, rfl⟩ : ∃ n : Nat, tx = (n : Nat) := ⟨tx.toNat, by omega⟩
    obtain ⟨vt, evt⟩ : ∃ v, xs[tn]? = some v := ⟨_, List.getElem?_eq_getElem (by omega)⟩
    obtain ⟨⟨qc, qb⟩, eqt⟩ : ∃ q, os[tn]? = some q := ⟨_, List.getElem?_eq_getElem (by omega)⟩
    have hO4 := s4 _ _ nOB nOL hO3
    have hI4 := dpAll_x b3 s4 _ noO hI3
    have qm := List.mem_of_getElem? eqt
    have hvt : Dp K H4 vt (partD (qc, qb)) := by
      obtain ⟨d, ed, hd⟩ := dpGet hI4 evt
      rw [List.getElem?_map, eqt] at ed
      cases ed
      exact hd
    refine ⟨O, _, _, vt, rfl, rfl, SqL.of hO4, atI_nat evt, ?_⟩
    have odd2 : ∀ {c : Int} {s : Str}, okPart ks.length [.int c, .str s] = false → OddPart ks.length os [.int c, .str s] := fun {c s} h => ⟨.inr ⟨_, _, rfl⟩, rfl, .inl h⟩
    -- the eight parts
    refine ⟨_, rfl, by show 2 ≤ sizeLine; decide, fun p1 np1 => ?_⟩
    have s5 := sameNew (o := .tup [.int oi, .str "up"]) (Same.refl H4) np1
    have hp1 : upd H4 p1 (.tup [.int oi, .str "up"]) p1 = some (.tup [.int oi, .str "up"]) := upd_same
    generalize upd H4 p1 (.tup [.int oi, .str "up"]) = H5 at s5 hp1 ⊢
    refine ⟨by show 2 ≤ sizeLine; decide, fun p2 np2 => ?_⟩
    have s6 := sameNew (o := .tup [.int 0, .str "Up"]) (Same.refl H5) np2
    have hp2 : upd H5 p2 (.tup [.int 0, .str "Up"]) p2 = some (.tup [.int 0, .str "Up"]) := upd_same
    generalize upd H5 p2 (.tup [.int 0, .str "Up"]) = H6 at s6 hp2 ⊢
    refine ⟨by show 2 ≤ sizeLine; decide, fun p3 np3 => ?_⟩
    have s7 := sameNew (o := .tup [.int 0, .str ""]) (Same.refl H6) np3
    have hp3 : upd H6 p3 (.tup [.int 0, .str ""]) p3 = some (.tup [.int 0, .str ""]) := upd_same
    generalize upd H6 p3 (.tup [.int 0, .str ""]) = H7 at s7 hp3 ⊢
    refine ⟨by show 1 ≤ sizeLine; decide, fun p4 np4 => ?_⟩
    have s8 := sameNew (o := .tup [.int 0]) (Same.refl H7) np4
    have hp4 : upd H7 p4 (.tup [.int 0]) p4 = some (.tup [.int 0]) := upd_same
    generalize upd H7 p4 (.tup [.int 0]) = H8 at s8 hp4 ⊢
    refine ⟨by show 3 ≤ sizeLine; decide, fun p5 np5 => ?_⟩
    have s9 := sameNew (o := .tup [.int 0, .str "up", .str "up"]) (Same.refl H8) np5
    have hp5 : upd H8 p5 (.tup [.int 0, .str "up", .str "up"]) p5 = some (.tup [.int 0, .str "up", .str "up"]) := upd_same
    generalize upd H8 p5 (.tup [.int 0, .str "up", .str "up"]) = H9 at s9 hp5 ⊢
    refine ⟨by show 0 ≤ sizeLine; decide, fun p6 np6 => ?_⟩
    have sA := sameNew (o := .tup []) (Same.refl H9) np6
    have hp6 : upd H9 p6 (.tup []) p6 = some (.tup []) := upd_same
    generalize upd H9 p6 (.tup []) = HA at sA hp6 ⊢
    have s4A := ((((s5.trans s6).trans s7).trans s8).trans s9).trans sA
    obtain ⟨aT, rfl, hTt⟩ : ∃ aT, vt = .ref aT ∧ SqT K H4 aT [.int qc, .str (wayS qb)] := by
      cases hvt with
      | @tup a ys _ h1 h2 =>
        cases h2 with
        | cons q1 h2 =>
          cases h2 with
          | cons q2 h2 =>
            cases h2
            cases q1
            cases q2
            exact ⟨a, rfl, h1⟩
    refine ⟨_, rfl, _, rfl, aT, _, 0, _, rfl, rfl, sqT_same s4A hTt, rfl, by show 2 ≤ sizeLine; decide, fun p8 np8 => ?_⟩
    have sB := sameNew (o := .tup [.int qc, .str "up"]) (Same.refl HA) np8
    have hp8 : upd HA p8 (.tup [.int qc, .str "up"]) p8 = some (.tup [.int qc, .str "up"]) := upd_same
    generalize upd HA p8 (.tup [.int qc, .str "up"]) = HB at sB hp8 ⊢
    refine ⟨by show 8 ≤ sizeLine; decide, fun S nS => ?_⟩
    have sC := sameNew (o := .lst [.ref p1, .ref p2, .ref p3, .ref p4, .ref p5, .ref p6, .ref aT, .ref p8]) (Same.refl HB) nS
    have hS : upd HB S (.lst [.ref p1, .ref p2, .ref p3, .ref p4, .ref p5, .ref p6, .ref aT, .ref p8]) S = some (.lst [.ref p1, .ref p2, .ref p3, .ref p4, .ref p5, .ref p6, .ref aT, .ref p8]) := upd_same
    generalize upd HB S (.lst [.ref p1, .ref p2, .ref p3, .ref p4, .ref p5, .ref p6, .ref aT, .ref p8]) = HC at sC hS ⊢
    have s9A := s9.trans sA
    have sBC := sB.trans sC
    have oS : ∀ v ∈ [V.ref p1, .ref p2, .ref p3, .ref p4, .ref p5, .ref p6, .ref aT, .ref p8], ∃ b, Dp K HC v (.tuple b) ∧ OddPart ks.length os b := fun v hv => by
      simp only [List.mem_cons, List.not_mem_nil, or_false] at hv
      have h8C := (s9.trans sA).trans sBC
      have h7C := s8.trans h8C
      have h6C := s7.trans h7C
      have h5C := s6.trans h6C
      rcases hv with e | e | e | e | e | e | e | e <;> rw [e]
      · exact ⟨_, .tup (SqT.of (h5C _ _ hp1)) (.cons (.int _) (.cons (.str _) .nil)), odd2 (okPart_col hoi)⟩
      · exact ⟨_, .tup (SqT.of (h6C _ _ hp2)) (.cons (.int _) (.cons (.str _) .nil)), odd2 (okPart_word (by decide +kernel))⟩
      · exact ⟨_, .tup (SqT.of (h7C _ _ hp3)) (.cons (.int _) (.cons (.str _) .nil)), odd2 (okPart_word (by decide +kernel))⟩
      · exact ⟨_, .tup (SqT.of (h8C _ _ hp4)) (.cons (.int _) .nil), .inl (by decide), rfl, .inl rfl⟩
      · exact ⟨_, .tup (SqT.of ((sA.trans sBC) _ _ hp5)) (.cons (.int _) (.cons (.str _) (.cons (.str _) .nil))), .inl (by decide), rfl, .inl rfl⟩
      · exact ⟨_, .tup (SqT.of (sBC _ _ hp6)) .nil, .inl (by decide), rfl, .inl rfl⟩
      · exact ⟨_, .tup (sqT_same (s4A.trans sBC) hTt) (.cons (.int _) (.cons (.str _) .nil)), .inr ⟨_, _, rfl⟩, rfl, .inr ⟨(qc, qb), rfl, oko.col _ qm, List.mem_map.mpr ⟨_, qm, rfl⟩⟩⟩
      · exact ⟨_, .tup (SqT.of (sC _ _ hp8)) (.cons (.int _) (.cons (.str _) .nil)), .inr ⟨_, _, rfl⟩, rfl, .inr ⟨(qc, false), rfl, (oko.col (qc, qb) qm : qc < ks.length), List.mem_map.mpr ⟨(qc, qb), qm, rfl⟩⟩⟩
    have s4C := s4A.trans sBC
    have bC := b4.same s4C
    have hOC := s4C _ _ hO4
    have hIC := dpAll_same s4C _ hI4
    obtain ⟨nSB, nSL⟩ := (b4.same (s4A.trans sB)).nb nS
    -- the order told
    refine ⟨_, rfl, ?_⟩
    dsimp only [tNoPart]
    refine ⟨_, rfl, _, rfl, ?_⟩
    refine sl_any2 (lo := none) (hi := some (an : Nat)) hOC fun l1' HD sD nl1 hl1 => ?_
    rw [cutV_to2] at hl1
    have bD := bC.same sD
    obtain ⟨nlB, nlL⟩ := bC.nb nl1
    refine ⟨_, rfl, _, rfl, B, L, 8, rfl, bD, by decide, by decide, fun HE px sE bE p0 p8' => ?_⟩
    obtain ⟨pn, rfl⟩ : ∃ n : Nat, px = (n : Nat) := ⟨px.toNat, by omega⟩
    obtain ⟨vp, evp⟩ : ∃ v, [V.ref p1, .ref p2, .ref p3, .ref p4, .ref p5, .ref p6, .ref aT, .ref p8][pn]? = some v := ⟨_, List.getElem?_eq_getElem (by show pn < 8; omega)⟩
    obtain ⟨bp, hbp0, obp⟩ := oS vp (List.mem_of_getElem? evp)
    have hbpE : Dp K HE vp (.tuple bp) := dp_x bD sE _ obp.2.1 (dp_same sD _ hbp0)
    refine ⟨S, _, _, vp, rfl, rfl, SqL.of (sE _ _ nSB nSL (sD _ _ hS)), atI_nat evp, ?_⟩
    refine ⟨by show 1 ≤ sizeLine; decide, fun l2' nl2' => ?_⟩
    have sF := sameNew (o := .lst [vp]) (Same.refl HE) nl2'
    have hl2 : upd HE l2' (.lst [vp]) l2' = some (.lst [vp]) := upd_same
    generalize upd HE l2' (.lst [vp]) = HF at sF hl2 ⊢
    have hl1E := sE _ _ nlB nlL hl1
    refine cat_any2 (sF _ _ hl1E) hl2 (by rw [List.length_take]; show _ + 1 ≤ sizeLine; omega) fun l3 HG sG nl3 hl3 => ?_
    have sEG := sF.trans sG
    have xCE := (SameX.of sD).trans sE
    have hOG := sEG _ _ (xCE _ _ nOB nOL hOC)
    refine ⟨_, rfl, _, rfl, _, rfl, ?_⟩
    dsimp only [tNoPart]
    refine sl_any2 (lo := some (an : Nat)) (hi := none) hOG fun l4' HI' sH nl4 hl4 => ?_
    rw [cutV_from2 (by omega)] at hl4
    refine cat_any2 (sH _ _ hl3) hl4 (by simp only [List.length_append, List.length_take, List.length_drop, List.length_singleton]; omega) fun l5 HJ sI nl5 hl5 => ?_
    have sEJ := (sEG.trans sH).trans sI
    have bJ := bE.same sEJ
    have hIE := dpAll_x bC xCE _ noO hIC
    have d5 : DpAll K HJ (xs.take an ++ [vp] ++ xs.drop an) (((os.take an).map partL ++ bp :: (os.drop an).map partL).map PyData.tuple) := by
      have hIJ := dpAll_same sEJ _ hIE
      have e : ((os.take an).map partL ++ bp :: (os.drop an).map partL).map PyData.tuple = ((os.map partD).take an ++ [.tuple bp]) ++ (os.map partD).drop an := by
        rw [List.map_append, List.map_cons, List.map_map, List.map_map, ← List.map_take, ← List.map_drop, List.append_assoc]
        rfl
      rw [e]
      exact dpApp (dpApp (dpAll_take hIJ an) (.cons (dp_same sEJ _ hbpE) .nil)) (dpAll_drop hIJ an)
    refine ⟨Nat.zero_le _, fun e0 ne0 => ?_⟩
    have sK := sameNew (o := .lst []) (Same.refl HJ) ne0
    have he0 : upd HJ e0 (.lst []) e0 = some (.lst []) := upd_same
    generalize upd HJ e0 (.lst []) = HK at sK he0 ⊢
    refine ⟨by show 2 ≤ sizeLine; decide, fun L2' nL2' => ?_⟩
    have sL := sameNew (o := .lst [.ref l5, .ref e0]) (Same.refl HK) nL2'
    have hL2 : upd HK L2' (.lst [.ref l5, .ref e0]) L2' = some (.lst [.ref l5, .ref e0]) := upd_same
    generalize upd HK L2' (.lst [.ref l5, .ref e0]) = HL at sL hL2 ⊢
    have sJL := sK.trans sL
    have bL := bJ.same sJL
    obtain ⟨n5B, n5L⟩ := ((bE.same sEG).same sH).nb nl5
    obtain ⟨neB, neL⟩ := bJ.nb ne0
    obtain ⟨nLB, nLL⟩ := (bJ.same sK).nb nL2'
    refine ⟨_, rfl, B, L, 9, rfl, bL, by decide, by decide, fun HM zx sM bM z0 z9 => ?_⟩
    have xHM : SameX B L H HM := (((s1.trans x13).trans s4).trans ((SameX.of s4C).trans xCE)).trans ((SameX.of (sEJ.trans sJL)).trans sM)
    have noB : ∀ b ∈ (os.take an).map partL ++ bp :: (os.drop an).map partL, noLs b = true := fun b hb => by
      rcases List.mem_append.mp hb with h | h
      · obtain ⟨q, _, rfl⟩ := List.mem_map.mp h
        rfl
      · rcases List.mem_cons.mp h with h | h
        · rw [h]; exact obp.2.1
        · obtain ⟨q, _, rfl⟩ := List.mem_map.mp h
          rfl
    obtain ⟨vr, ods, er, hvr, nor, nvr, lor, bor⟩ : ∃ (vr : V) (ods : List (List PyData)), atI [V.ref l5, .ref e0] (if decide (V.int zx = V.int 0) = true then 1 else 0) = some vr ∧ Dp K HM vr (rowsD ods) ∧ (∀ b ∈ ods, noLs b = true) ∧ (vr ≠ .ref B ∧ vr ≠ .ref L) ∧ ods.length ≤ 20 ∧ BadOrd ks.length ods := by
      by_cases e : zx = 0
      · rw [decide_eq_true (congrArg V.int e), if_pos rfl]
        exact ⟨.ref e0, [], rfl, .lst (SqL.of (sM _ _ neB neL (sL _ _ he0))) .nil, (fun _ h => nomatch h), ⟨fun z => neB (V.ref.inj z), fun z => neL (V.ref.inj z)⟩, by decide, .inl rfl⟩
      · rw [decide_eq_false (fun z => e (V.int.inj z)), if_neg (by decide)]
        refine ⟨.ref l5, _, rfl, .lst (SqL.of (sM _ _ n5B n5L (sJL _ _ hl5))) (dpAll_x bL sM _ (noLs_iff.mpr fun d hd => ?_) (dpAll_same sJL _ d5)), noB, ⟨fun z => n5B (V.ref.inj z), fun z => n5L (V.ref.inj z)⟩, ?_, odd_order oko obp⟩
        · obtain ⟨b, hb, rfl⟩ := List.mem_map.mp hd
          exact noB b hb
        · simp only [List.length_append, List.length_cons, List.length_map, List.length_take, List.length_drop]
          omega
    refine ⟨rfl, .inr ⟨_, rfl, L2', _, _, vr, rfl, rfl, SqL.of (sM _ _ nLB nLL hL2), er, ?_⟩⟩
    exact k HM vr ods xHM bM hvr nor nvr lor bor
end
end RS
set_option Elab.async false
set_option maxRecDepth 100000
set_option maxHeartbeats 4000000
namespace RS
open PySem PySem.Spec PyProof.Rows L2 GX
/-- the tables put away -/
def noT (H : Hp) : Hp := fun b => match H b with
  | some (.tbl _) => none
  | o => o
theorem noT_at {H : Hp} {b : Addr} {o : HO} (e : H b = some o) (n : ∀ ps, o ≠ .tbl ps) : noT H b = some o := by
  unfold noT
  rw [e]
  cases o <;> first | rfl | exact absurd rfl (n _)
theorem noT_of {H : Hp} {b : Addr} {o : HO} (e : noT H b = some o) : H b = some o ∧ ∀ ps, o ≠ .tbl ps := by
  unfold noT at e
  cases q : H b with
  | none => rw [q] at e; cases e
  | some u =>
    rw [q] at e
    cases u <;> first
      | exact ⟨e, fun ps z => by cases z; cases e⟩
      | (cases e)
theorem noT_none {H : Hp} {b : Addr} (e : H b = none) : noT H b = none := by
  unfold noT
  rw [e]
theorem noT_same (H : Hp) : Same (noT H) H := fun _ _ e => (noT_of e).1
theorem noT_up {H H' : Hp} (s : Same (noT H) H') : Same (noT H) (noT H') := fun b o e => noT_at (s b o e) (noT_of e).2
theorem noT_ext {H H' : Hp} (s : LamX.ExtN H H') : Same (noT H) H' := fun b o e => s b o (noT_of e).1 (noT_of e).2
theorem noT_mono {H H' : Hp} (s : Same H H') : Same (noT H) (noT H') := noT_up ((noT_same H).trans s)
theorem sqT_noT {K : PySem.W.Frag} {H : Hp} {a : Addr} {xs : List V} (h : SqT K H a xs) : SqT K (noT H) a xs := by
  rcases h with (h | ⟨o, h⟩) | h
  · exact .inl (.inl (noT_at h (fun _ z => by cases z)))
  · exact .inl (.inr ⟨o, noT_at h (fun _ z => by cases z)⟩)
  · exact .inr h
theorem sqL_noT {K : PySem.W.Frag} {H : Hp} {a : Addr} {xs : List V} (h : SqL K H a xs) : SqL K (noT H) a xs := by
  rcases h with (h | ⟨o, h⟩) | h
  · exact .inl (.inl (noT_at h (fun _ z => by cases z)))
  · exact .inl (.inr ⟨o, noT_at h (fun _ z => by cases z)⟩)
  · exact .inr h
mutual
theorem dp_noT {K : PySem.W.Frag} {H : Hp} : ∀ (d : PyData) {v : V}, Dp K H v d → Dp K (noT H) v d
  | .none, _, .non => .non
  | .bool b, _, .bl _ => .bl b
  | .int i, _, .int _ => .int i
  | .str x, _, .str _ => .str x
  | .list ds, _, .lst h hs => .lst (sqL_noT h) (dpAll_noT ds hs)
  | .tuple ds, _, .tup h hs => .tup (sqT_noT h) (dpAll_noT ds hs)
  | .dict _, _, h => nomatch h
theorem dpAll_noT {K : PySem.W.Frag} {H : Hp} : ∀ (ds : List PyData) {vs : List V}, DpAll K H vs ds → DpAll K (noT H) vs ds
  | [], _, .nil => .nil
  | d :: ds, _, .cons h hs => .cons (dp_noT d h) (dpAll_noT ds hs)
end
end RS
set_option Elab.async false
set_option maxRecDepth 100000
set_option maxHeartbeats 4000000
namespace RS
open PySem PySem.Spec PyProof.Rows L2 GX
theorem row_fit {ks : List Bool} {r : List PyData} (hk : ks.length ≤ 4) (h : isRow ks (.tuple r) = true) : fitR (.tuple r) := by
  have big : (6 : Nat) ≤ sizeLine := by decide
  refine ⟨by have := (isRow_get.mp h).1; omega, fun d hd => ?_⟩
  obtain ⟨b, hv⟩ := row_val h hd
  rcases val_atom hv with ⟨e, x, rfl⟩ | ⟨e, m, rfl⟩
  · subst e
    have := isWord_len hv
    show x.length ≤ sizeLine
    omega
  · trivial
theorem tabS_x {H H' : Hp} {B L P : Addr} {q : Str} (b : BoxAt H B L) (s : SameX B L H H') (t : LamX.TabS H P q) : LamX.TabS H' P q := by
  obtain ⟨_, ⟨st, hb'⟩, ⟨ms, hl'⟩⟩ := b
  obtain ⟨ps, h1, h2, h3⟩ := t
  refine ⟨ps, s _ _ (fun z => by rw [z, hb'] at h1; cases h1) (fun z => by rw [z, hl'] at h1; cases h1) h1, h2, fun pos cv hc => ?_⟩
  obtain ⟨c, e1, e2⟩ := h3 pos cv hc
  refine ⟨c, e1, s _ _ (fun z => ?_) (fun z => ?_) e2⟩
  · rw [z, hb'] at e2
    unfold LamX.CodeO at e2
    cases e2
  · rw [z, hl'] at e2
    unfold LamX.CodeO at e2
    cases e2
theorem box_noT {H : Hp} {B L : Addr} (b : BoxAt H B L) : BoxAt (noT H) B L := by
  obtain ⟨n, ⟨st, hb'⟩, ⟨ms, hl'⟩⟩ := b
  exact ⟨n, ⟨st, noT_at hb' (fun _ z => by cases z)⟩, ⟨ms, noT_at hl' (fun _ z => by cases z)⟩⟩
end RS
set_option Elab.async false
set_option maxRecDepth 100000
set_option maxHeartbeats 4000000
namespace RS
open PySem PySem.Spec PyProof.Rows L2 GX
section
variable {X : Cx} {o e : Expr} {es : List Expr} {to : TE} {t : TA} {name : Str} {apos cpos : Pos} {T id : String} {r : V → List V → Hp → VK → Prop} {K : PySem.W.Frag}
/-- a method called where the frame's own facts are named -/
theorem pe_bmC (eK : X.K = K) (pa : PlainAttrs T) (slot : Slot T name id) (hty : typeOf (.builtin id) = pure (.type "method_descriptor")) (hm : MtR X id r) (ho : PE X o to) (ha : PA X (e :: es) t) (h1 : attributeBase o name X.env (eval o X.env) = eval o X.env := by rfl) (h2 : ((backTo cpos (starEach (e :: es) X.env)).all (fun x => !x.1) && (backToKw cpos (keywordEach [] X.env)).all (fun x => x.1.isSome) && decide ((e :: es).length + ([] : List Keyword).length + (if ([] : List Keyword).isEmpty then 0 else 1) < 30)) = true := by rfl) (h3 : (apos.endLine == cpos.line) = true := by rfl) (h4 : starEach (e :: es) X.env = (false, eval e X.env) :: starEach es X.env := by rfl) (h5 : (backTo cpos (starEach es X.env)).any (·.1) = false := by rfl) : PE X (.Call (.Attribute o name apos) (e :: es) [] cpos) (tBM K T r to t) := by
  subst eK
  exact pe_bm pa slot hty hm ho ha h1 h2 h3 h4 h5
theorem len_seqC (eK : X.K = K) : CallR X (.builtin "len") (fun xs H Q => ∃ p ys, xs = [.ref p] ∧ (SqL K H p ys ∨ SqT K H p ys) ∧ Q (.int ys.length) H) := by
  subst eK
  exact call_len_seq
end
end RS
set_option Elab.async false
set_option maxRecDepth 100000
set_option maxHeartbeats 8000000
set_option pp.maxSteps 400
namespace RS
open PySem PySem.Spec PyProof.Rows L2 GX LM
/-! ### rows of which some are none -/
theorem dpAll_setI {K : PySem.W.Frag} {H : Hp} : ∀ {xs : List V} {ds : List PyData} {v : V} {d : PyData} (j : Nat), DpAll K H xs ds → Dp K H v d → DpAll K H (xs.set j v) (ds.set j d)
  | _, _, _, _, _, .nil, _ => .nil
  | _, _, _, _, 0, .cons _ t, hv => .cons hv t
  | _, _, _, _, j + 1, .cons h t, hv => .cons h (dpAll_setI j t hv)
abbrev NBR : List Str := ["_law_box", "_law_kinds_here", "_law_most", "_law_good", "_law_many", "_law_rows_here", "_law_at", "_law_turn", "_law_place", "_law_kind", "_law_k"]
theorem seq_join2 {A U : TS} {D : Ends} {σ : L2.St} {H : Hp} (N : L2.St → Hp → Prop) (fin : ∀ σ' H', N σ' H' → U D σ' H') (h : ∀ nx : L2.St → Hp → Prop, (∀ σ' H', N σ' H' → nx σ' H') → A { D with nx := nx } σ H) : tSeq A U D σ H := h _ fin
theorem dpAll_mod {K : PySem.W.Frag} {H : Hp} {xg : List V} {gs : List (List PyData)} (h : DpAll K H xg (gs.map PyData.tuple)) (l1 : 1 ≤ gs.length) (n : Nat) : DpAll K H ((List.range n).map fun j => xg.getD (j % gs.length) .non) ((List.range n).map fun j => PyData.tuple (gs.getD (j % gs.length) [])) := by
  refine dpAll_by (by simp) fun i v d hv hd => ?_
  have hi : i < n := by
    have := (List.getElem?_eq_some_iff.mp hv).1
    simpa using this
  rw [List.getElem?_map, List.getElem?_range hi] at hv hd
  cases hv
  cases hd
  have hm : i % gs.length < gs.length := Nat.mod_lt _ l1
  obtain ⟨v, ev, hv⟩ := dpGet' (i := i % gs.length) (d := .tuple gs[i % gs.length]) h (by rw [List.getElem?_map, List.getElem?_eq_getElem hm]; rfl)
  show Dp K H (xg.getD (i % gs.length) .non) (.tuple (gs.getD (i % gs.length) []))
  rw [List.getD_eq_getElem?_getD, List.getD_eq_getElem?_getD, ev, List.getElem?_eq_getElem hm]
  exact hv
/-- the first that is none, or the one too many, stands at i -/
def BadRw (ks : List Bool) (ds : List PyData) (i : Nat) : Prop := ds.length ≤ 128 ∧ (∀ d ∈ ds, fitR d ∧ noL d = true) ∧ i ≤ 120 ∧ (∀ e ∈ ds.take i, isRow ks e = true) ∧ ∃ d, ds[i]? = some d ∧ (i = 120 ∨ isRow ks d = false)
section
variable {P : Program} {w : World} {K : PySem.W.Frag} {mg : Str → Option Value} {base : Heap}
theorem scBadRs : FnScope NBR ["_law_box", "_law_kinds_here", "_law_most"] (defScope s__law_bad_rows) := ⟨rfl, rfl, rfl, by decide +kernel, rfl, by decide +kernel, by decide +kernel⟩
def spBadRs (K : PySem.W.Frag) : Sp := fun vs H Q _ => ∃ (B L : Addr) (vk : V) (ks : List Bool), vs = [.ref B, vk, .int 120] ∧ BoxAt H B L ∧ Dp K H vk (kindsD ks) ∧ 1 ≤ ks.length ∧ ks.length ≤ 4 ∧
  ∀ (H' : Hp) (t p : Addr) (ys : List V) (ds : List PyData) (i : Nat), SameX B L H H' → BoxAt H' B L → H' t = some (.tup [.ref p, .int (i : Nat)]) → (p ≠ B ∧ p ≠ L) → H' p = some (.lst ys) → DpAll K H' ys ds → BadRw ks ds i → Q (.ref t) H'
theorem badrs_ok {c : Addr} (D : DefAt K mg "_law_bad_rows" s__law_bad_rows c) (T : Txt K mg) (cT : Cal P w K mg base CX0 1 "_law_take" ["_law_box", "_law_many"] spTake) (cV : Cal P w K mg base CX0 2 "_law_value" ["_law_box", "_law_kind"] (spValueL K)) (cRw : Cal P w K mg base CX0 3 "_law_rows" ["_law_box", "_law_kinds_here", "_law_most"] (spRows K)) (cBR : Cal P w K mg base CX0 3 "_law_bad_row" ["_law_box", "_law_kinds_here", "_law_row"] (spBadRow K)) :
    Cal P w K mg base CX0 4 "_law_bad_rows" ["_law_box", "_law_kinds_here", "_law_most"] (spBadRs K) := by
  have sc := scBadRs
  refine def_ok0 D sc (fun vs H Q E h => ?_) (fun _ _ _ _ _ _ us hl => match us, hl with | [_, _, _], _ => rfl) (fun f A outer s H vs Q E hr h => ?_)
  · obtain ⟨B, L, vk, ks, rfl, _⟩ := h
    rfl
  · obtain ⟨B, L, vk, ks, rfl, hb, hk, k1, k4, k⟩ := h
    refine ⟨_, (pss_cons (ps_set (i := 3) sc.nd rfl (Or.inr rfl) (pe_op op_cat (pe_c cRw hr (by decide) (by rfl) pass0 (pa_cons (pv 0) (pa_cons (pv 1) (pa_cons pe_int pa_nil)))) (pe_lst (pa_cons (pe_callTy call_tuple_of (by rfl) T.tuple_ (by decide +kernel) (pa_cons (pe_lc (own := [("_law_kind", 9)]) (tt := tYes)  rfl sc.nd (pi_tup (pv 1)) (blkOk_by (N := NBR) (sc := defScope s__law_bad_rows) (own := [("_law_kind", 9)]) (by decide +kernel)) (fun _ _ _ _ _ => (pg_name (i := 9) sc.nd rfl (Or.inl rfl))) (fun _ _ _ _ _ => pts_nil) (fun _ _ _ _ _ => (pe_c cV hr (by decide) (by rfl) pass0 (pa_cons (pv 0) (pa_cons (pv 9) pa_nil))))) pa_nil)) pa_nil)))) (pss_cons (ps_set (i := 4) sc.nd rfl (Or.inl rfl) (pe_ix ix_list (pe_lst (pa_cons (pe_op op_add pe_int (pe_c cT hr (by decide) (by rfl) pass0 (pa_cons (pv 0) (pa_cons pe_int pa_nil)))) (pa_cons (pe_op op_add pe_int (pe_c cT hr (by decide) (by rfl) pass0 (pa_cons (pv 0) (pa_cons (pv 2) pa_nil)))) (pa_cons (pe_op op_add (pe_op op_add (pv 2) pe_int) (pe_c cT hr (by decide) (by rfl) pass0 (pa_cons (pv 0) (pa_cons pe_int pa_nil)))) pa_nil)))) (pe_c cT hr (by decide) (by rfl) pass0 (pa_cons (pv 0) (pa_cons pe_int pa_nil))) (fun _ _ => rfl))) (pss_cons (ps_setLc (own := [("_law_k", 10)]) (tt := tYes) rfl sc.nd (i := 5) rfl rfl (by rfl) (pi_range1 (by rfl) T.range (pa_cons (pv 4) pa_nil)) (blkOk_by (N := NBR) (sc := defScope s__law_bad_rows) (own := [("_law_k", 10)]) (by decide +kernel)) (fun _ _ _ _ _ => (pg_name (i := 10) sc.nd rfl (Or.inl rfl))) (fun _ _ _ _ _ => pts_nil) (fun _ _ _ _ _ => (pe_ix (ix_listC (K := K) rfl) (pv 3) (pe_op op_mod (pv 10) (pe_callB (len_seqC (K := K) rfl) (by rfl) T.len PySem.boot_len (pa_cons (pv 3) pa_nil))) (fun _ _ => rfl)))) (pss_cons (ps_if ((pw_and (pt_cmpR op_gt (pv 4) (pv 2) (nomark _)) (pw_and1 (pt_cmpR op_eq (pe_c cT hr (by decide) (by rfl) pass0 (pa_cons (pv 0) (pa_cons pe_int pa_nil))) pe_int (nomark _)))).pt) (pss_one (ps_ret (pe_tup (pa_cons (pv 5) (pa_cons (pv 2) pa_nil))))) pss_nil) (pss_cons (ps_set (i := 6) sc.nd rfl (Or.inl rfl) (pv 4)) (pss_cons (ps_for PassesOwn.never rfl (pi_range1 (by rfl) T.range (pa_cons (pe_op op_add pe_int (pe_c cT hr (by decide) (by rfl) pass0 (pa_cons (pv 0) (pa_cons pe_int pa_nil)))) pa_nil)) (pg_name (i := 7) sc.nd rfl (Or.inl rfl)) (pss_cons (ps_set (i := 8) sc.nd rfl (Or.inl rfl) (pe_c cT hr (by decide) (by rfl) pass0 (pa_cons (pv 0) (pa_cons (pv 4) pa_nil)))) (pss_cons (ps_asg (pe_c cBR hr (by decide) (by rfl) pass0 (pa_cons (pv 0) (pa_cons (pv 1) (pa_cons (pe_ix ix_list (pv 3) pe_int (fun _ _ => rfl)) pa_nil)))) (pg_sub (pv 5) (pv 8) set_list)) (pss_one (ps_set (i := 6) sc.nd rfl (Or.inl rfl) (pe_callB (call_min2 rfl) (by rfl) T.min boot_min (pa_cons (pv 6) (pa_cons (pv 8) pa_nil)))))))) (pss_one (ps_ret (pe_tup (pa_cons (pv 5) (pa_cons (pe_callB (call_min2 rfl) (by rfl) T.min boot_min (pa_cons (pv 6) (pa_cons (pv 2) pa_nil))) pa_nil))))))))))), ?_⟩
    have big : (1000000 : Nat) ≤ sizeLine := by decide
    refine ⟨_, rfl, _, rfl, B, L, vk, ks, 3, rfl, hb, hk, k1, k4, by decide, by decide, fun H1 Ra rs xs s1 b1 r120 okr nR hR hdR => ?_⟩
    obtain ⟨nRB, nRL⟩ := hb.nb nR
    have hk1 := dp_x hb s1 _ (kinds_noL ks) hk
    have noRw : noLs (rs.map PyData.tuple) = true := noLs_iff.mpr fun d hd => by
      obtain ⟨r, hr, rfl⟩ := List.mem_map.mp hd
      exact vals_noL (isRow_get.mp (okr r hr)).2
    obtain ⟨aK, xk, rfl, hSK, hIK⟩ : ∃ aK xk, vk = .ref aK ∧ SqT K H1 aK xk ∧ DpAll K H1 xk (ks.map fun b => .str (kindS b)) := by
      cases hk1 with
      | @tup a xs _ h1 h2 => exact ⟨a, xs, rfl, h1, h2⟩
    refine ⟨_, rfl, aK, rfl, ⟨_, hSK⟩, fun DD hD => ?_⟩
    obtain ⟨s2, b2, nDB, nDL⟩ := al (o := .lst []) SameX.refl b1 b1 hD
    refine lc_tup (K := K) (a := aK) (xs := xk) (fun j H4 => SameX B L H1 H4 ∧ BoxAt H4 B L ∧ ∃ (ds : List PyData) (ys : List V), ds.length = j ∧ Vals1 ks ds ∧ H4 DD = some (.lst ys) ∧ DpAll K H4 ys ds)
      ⟨s2, b2, [], [], rfl, (fun j d h => by simp at h), upd_same, .nil⟩ (fun j H4 _ h => sqT_x b1 h.1 hSK) ?_ ?_
    · rintro j y H4 hy ⟨s6, b6, ds, ys, ld, hv, hl, hdd⟩
      obtain ⟨dk, ek, hdk⟩ := dpGet hIK hy
      obtain ⟨bk, ebk, rfl⟩ : ∃ b, ks[j]? = some b ∧ dk = .str (kindS b) := by
        rw [List.getElem?_map] at ek
        cases q : ks[j]? with
        | none => rw [q] at ek; cases ek
        | some b => rw [q] at ek; exact ⟨b, rfl, (Option.some.inj ek).symm⟩
      cases hdk
      have hj : j < ks.length := (List.getElem?_eq_some_iff.mp ebk).1
      have ly : ys.length = ds.length := dpLen hdd
      refine ⟨rfl, _, rfl, _, rfl, B, L, bk, rfl, b6, fun H5 v d s7 b7 hv2 hd2 => ?_⟩
      have hl5 := s7 _ _ nDB nDL hl
      have vs2 := vals_snoc hv (by rw [ld]; exact ebk) hv2
      refine ⟨ys, hl5, small1000 (by omega), (s6.trans s7).new hD, b7.upd_ nDB nDL, ds ++ [d], ys ++ [v], by rw [List.length_append, ld]; rfl, vs2, upd_same, ?_⟩
      exact dpAll_upd hl5 _ (vals_noL vs2) (dpApp (dpAll_x b6 s7 _ (vals_noL hv) hdd) (.cons hd2 .nil))
    rintro H4 ⟨s6, b6, gd, ys, ld, hv, hl, hdd⟩
    have lk : xk.length = ks.length := by rw [dpLen hIK, List.length_map]
    have okg : isRow ks (.tuple gd) = true := isRow_get.mpr ⟨by omega, hv⟩
    refine ⟨DD, ys, rfl, .inl ⟨SqL.of hl, fun tp ntp => ?_⟩⟩
    have s7 := sameNew (o := .tup ys) (Same.refl H4) ntp
    have htp : upd H4 tp (.tup ys) tp = some (.tup ys) := upd_same
    generalize upd H4 tp (.tup ys) = H5 at s7 htp ⊢
    refine ⟨by show 1 ≤ sizeLine; decide, fun l1 nl1 => ?_⟩
    have s8 := sameNew (o := .lst [.ref tp]) (Same.refl H5) nl1
    have hl1 : upd H5 l1 (.lst [.ref tp]) l1 = some (.lst [.ref tp]) := upd_same
    generalize upd H5 l1 (.lst [.ref tp]) = H6 at s8 hl1 ⊢
    have s46 := s7.trans s8
    have x16 : SameX B L H1 H6 := s6.trans (SameX.of s46)
    have b6' := b6.same s46
    refine cat_any2 (x16 _ _ nRB nRL hR) hl1 (by have := dpLen hdR; rw [List.length_map] at this; show xs.length + 1 ≤ sizeLine; omega) fun G H7 s9 nG hG => ?_
    obtain ⟨nGB, nGL⟩ := b6'.nb nG
    have b7 := b6'.same s9
    obtain ⟨gs, egs⟩ : ∃ gs : List (List PyData), gs = rs ++ [gd] := ⟨_, rfl⟩
    obtain ⟨xg, exg⟩ : ∃ xg, xg = xs ++ [V.ref tp] := ⟨_, rfl⟩
    rw [← exg] at hG
    have hdG : DpAll K H7 xg (gs.map PyData.tuple) := by
      rw [egs, exg, List.map_append]
      exact dpApp (dpAll_same s9 _ (dpAll_x b1 x16 _ noRw hdR)) (.cons (.tup (SqT.of ((s8.trans s9) _ _ htp)) (dpAll_same (s46.trans s9) _ hdd)) .nil)
    have okG : ∀ r ∈ gs, isRow ks (.tuple r) = true := fun r hr => by
      rw [egs] at hr
      rcases List.mem_append.mp hr with h | h
      · exact okr r h
      · rw [List.mem_singleton.mp h]; exact okg
    have lg1 : 1 ≤ gs.length ∧ gs.length ≤ 121 := by rw [egs, List.length_append, List.length_singleton]; omega
    clear egs exg
    have x7 : SameX B L H H7 := (s1.trans x16).trans (SameX.of s9)
    have hk7 : Dp K H7 (.ref aK) (kindsD ks) := dp_x hb x7 _ (kinds_noL ks) hk
    have noG : noLs (gs.map PyData.tuple) = true := noLs_iff.mpr fun d hd => by
      obtain ⟨r, hr, rfl⟩ := List.mem_map.mp hd
      exact vals_noL (isRow_get.mp (okG r hr)).2
    clear hD s2 b2 hl hdd
    -- how many
    refine ⟨_, rfl, B, L, 8, rfl, b7, by decide, by decide, fun H8 m1 t8 b8 m10 m18 => ⟨_, _, rfl, rfl, ?_⟩⟩
    refine ⟨_, rfl, _, rfl, B, L, 120, rfl, b8, by decide, by decide, fun H9 m2 t9 b9 m20 m28 => ⟨_, _, rfl, rfl, ?_⟩⟩
    refine ⟨_, rfl, _, _, rfl, rfl, _, rfl, B, L, 8, rfl, b9, by decide, by decide, fun HA m3 tA bA m30 m38 => ⟨_, _, rfl, rfl, by show 3 ≤ sizeLine; decide, fun e ne => ?_⟩⟩
    obtain ⟨neB, neL⟩ := bA.nb ne
    have sB := sameNew (o := .lst [.int (1 + m1), .int (1 + m2), .int (120 + 1 + m3)]) (Same.refl HA) ne
    have he : upd HA e (.lst [.int (1 + m1), .int (1 + m2), .int (120 + 1 + m3)]) e = some (.lst [.int (1 + m1), .int (1 + m2), .int (120 + 1 + m3)]) := upd_same
    generalize upd HA e (.lst [.int (1 + m1), .int (1 + m2), .int (120 + 1 + m3)]) = HB at sB he ⊢
    refine ⟨_, rfl, B, L, 3, rfl, bA.same sB, by decide, by decide, fun HC mx tC bC mx0 mx3 => ?_⟩
    obtain ⟨mn, emn, mn1, mn128⟩ : ∃ mn : Nat, atI [V.int (1 + m1), .int (1 + m2), .int (120 + 1 + m3)] mx = some (.int (mn : Nat)) ∧ 1 ≤ mn ∧ mn ≤ 128 := by
      rcases (by omega : mx = 0 ∨ mx = 1 ∨ mx = 2) with e | e | e <;> subst e
      · exact ⟨(1 + m1).toNat, by rw [Int.toNat_of_nonneg (by omega)]; rfl, by omega, by omega⟩
      · exact ⟨(1 + m2).toNat, by rw [Int.toNat_of_nonneg (by omega)]; rfl, by omega, by omega⟩
      · exact ⟨(120 + 1 + m3).toNat, by rw [Int.toNat_of_nonneg (by omega)]; rfl, by omega, by omega⟩
    refine ⟨e, _, mx, _, rfl, rfl, SqL.of (tC _ _ neB neL he), emn, ?_⟩
    have x7C : SameX B L H7 HC := ((t8.trans t9).trans tA).trans ((SameX.of sB).trans tC)
    have hGC := x7C _ _ nGB nGL hG
    have hdC := dpAll_x b7 x7C _ noG hdG
    have lxg : xg.length = gs.length := by rw [dpLen hdG, List.length_map]
    -- the rows
    refine ⟨_, rfl, _, rfl, by omega, by omega, fun p np => ?_⟩
    rw [Int.toNat_natCast]
    obtain ⟨npB, npL⟩ := bC.nb np
    refine lc_range (fun i H' => Same HC H' ∧ H' p = some (.lst ((List.range i).map fun j => xg.getD (j % gs.length) .non))) ⟨sameNew (Same.refl HC) np, upd_same⟩ ?_ ?_
    · rintro i H' hi ⟨sm, hp⟩
      have hm : i % gs.length < gs.length := Nat.mod_lt _ lg1.1
      obtain ⟨v, ev⟩ : ∃ v, xg[i % gs.length]? = some v := ⟨_, List.getElem?_eq_getElem (by omega)⟩
      refine ⟨rfl, _, rfl, _, rfl, _, rfl, G, _, rfl, .inl (SqL.of (sm _ _ hGC)), _, _, rfl, rfl, by omega, ?_⟩
      refine ⟨G, _, _, v, rfl, rfl, SqL.of (sm _ _ hGC), ?_, ?_⟩
      · rw [lxg, show (0 : Int) + (i : Nat) = (i : Nat) by omega, ← Int.natCast_emod]
        exact atI_nat ev
      · refine ⟨_, hp, small1000 (by rw [List.length_map, List.length_range]; omega), fun b o q => (upd_ne (ne_of_none q np)).trans (sm b o q), ?_⟩
        rw [upd_same, List.range_succ, List.map_append]
        show _ = some (HO.lst (_ ++ [xg.getD (i % gs.length) .non]))
        rw [List.getD_eq_getElem?_getD, ev]
        rfl
    rintro HD ⟨sD, hp⟩
    have hdD := dpAll_mod (dpAll_same sD _ hdC) lg1.1 mn
    obtain ⟨d0, ed0⟩ : ∃ d0, d0 = (List.range mn).map fun j => PyData.tuple (gs.getD (j % gs.length) []) := ⟨_, rfl⟩
    obtain ⟨y0, ey0⟩ : ∃ y0, y0 = (List.range mn).map fun j => xg.getD (j % gs.length) V.non := ⟨_, rfl⟩
    rw [← ed0, ← ey0] at hdD
    rw [← ey0] at hp
    have l0 : d0.length = mn := by rw [ed0]; simp
    have g0 : ∀ d ∈ d0, isRow ks d = true ∧ fitR d ∧ noL d = true := fun d hd => by
      rw [ed0] at hd
      obtain ⟨j, _, rfl⟩ := List.mem_map.mp hd
      have hm : j % gs.length < gs.length := Nat.mod_lt _ lg1.1
      have e : gs.getD (j % gs.length) [] = gs[j % gs.length] := by rw [List.getD_eq_getElem?_getD, List.getElem?_eq_getElem hm]; rfl
      rw [e]
      have o := okG _ (List.getElem_mem hm)
      exact ⟨o, row_fit k4 o, vals_noL (isRow_get.mp o).2⟩
    clear ed0 ey0
    have bD := bC.same sD
    have x7D := x7C.trans (SameX.of sD)
    dsimp only [gName, List.set]
    refine seq_join2 (fun σ' H' => σ' = [some (.ref B), some (.ref aK), some (.int 120), some (.ref G), some (.int (mn : Nat)), some (.ref p), none, none, none, none, none] ∧ SameX B L HD H' ∧ BoxAt H' B L) ?_ ?_
    · rintro σ' HE ⟨rfl, xE, bE⟩
      have noD0 : noLs d0 = true := noLs_iff.mpr fun d hd => (g0 d hd).2.2
      have hkE : Dp K HE (.ref aK) (kindsD ks) := dp_x b7 (x7D.trans xE) _ (kinds_noL ks) hk7
      have hGE := xE _ _ nGB nGL (sD _ _ hGC)
      have hdE : DpAll K HE xg (gs.map PyData.tuple) := dpAll_x b7 (x7D.trans xE) _ noG hdG
      have npG : p ≠ G := fun z => by rw [z, hGC] at np; cases np
      refine ⟨_, rfl, ?_⟩
      refine ⟨_, rfl, B, L, 2, rfl, bE, by decide, by decide, fun HF tn sF bF t0 t2 => ⟨_, _, rfl, rfl, _, rfl, by omega, by omega, ?_⟩⟩
      rw [show (1 + tn).toNat = tn.toNat + 1 by omega]
      refine for_range (fun i σ H' => ∃ (at_ : Nat) (ys : List V) (ds : List PyData) (v7 v8 : Option V), σ = [some (.ref B), some (.ref aK), some (.int 120), some (.ref G), some (.int (mn : Nat)), some (.ref p), some (.int (at_ : Nat)), v7, v8, none, none] ∧ (∀ b o, HF b = some o → b ≠ B → b ≠ L → b ≠ p → H' b = some o) ∧ BoxAt H' B L ∧ H' p = some (.lst ys) ∧ DpAll K H' ys ds ∧ ds.length = mn ∧ at_ ≤ mn ∧ (1 ≤ i → at_ < mn) ∧ (∀ e ∈ ds.take at_, isRow ks e = true) ∧ (∀ d ∈ ds, fitR d ∧ noL d = true) ∧ (at_ < mn → ∃ d, ds[at_]? = some d ∧ isRow ks d = false))
        ⟨mn, y0, d0, none, none, rfl, fun b o h _ _ _ => h, bF, sF _ _ npB npL (xE _ _ npB npL hp), dpAll_x bE sF _ noD0 (dpAll_x bD xE _ noD0 hdD), l0, Nat.le_refl _, fun h => by omega, fun e he => (g0 e (List.mem_of_mem_take he)).1, fun d hd => (g0 d hd).2, fun h => absurd h (Nat.lt_irrefl _)⟩ ?_ ?_
      · rintro i σ H' hi ⟨at_, ys, ds, v7, v8, rfl, fr, b', hp', hd', ld, la, li, hgood, hfit, hbad⟩
        have lys : ys.length = mn := by rw [dpLen hd', ld]
        have noD : noLs ds = true := noLs_iff.mpr fun d hd => (hfit d hd).2
        refine ⟨_, rfl, _, rfl, B, L, _, rfl, b', by omega, by omega, fun HI px sI bI p0 p1 => ?_⟩
        obtain ⟨pn, rfl⟩ : ∃ n : Nat, px = (n : Nat) := ⟨px.toNat, by omega⟩
        have hGF := sF _ _ nGB nGL hGE
        have hGI := sI _ _ nGB nGL (fr _ _ hGF nGB nGL (Ne.symm npG))
        obtain ⟨vg, evg⟩ : ∃ v, xg[0]? = some v := ⟨_, List.getElem?_eq_getElem (by omega)⟩
        have hpF := sF _ _ npB npL (xE _ _ npB npL hp)
        have kp : KpS HF H' := fun b o e h1 _ => by
          obtain ⟨_, ⟨st, hB⟩, ⟨ms, hL⟩⟩ := bF
          exact fr b o e (fun z => by rw [z, hB] at e; exact h1 _ (Option.some.inj e).symm) (fun z => by rw [z, hL] at e; exact h1 _ (Option.some.inj e).symm) (fun z => by rw [z, hpF] at e; exact h1 _ (Option.some.inj e).symm)
        have hkI : Dp K HI (.ref aK) (kindsD ks) := dp_x b' sI _ (kinds_noL ks) (dp_kp kp _ (kinds_noL ks) (dp_x bE sF _ (kinds_noL ks) hkE))
        have hdI : DpAll K HI xg (gs.map PyData.tuple) := dpAll_x b' sI _ noG (dpAll_kp kp _ noG (dpAll_x bE sF _ noG hdE))
        obtain ⟨r0, er0⟩ : ∃ r, gs[0]? = some r := ⟨_, List.getElem?_eq_getElem lg1.1⟩
        have hvg : Dp K HI vg (.tuple r0) := by
          obtain ⟨d, ed, hd⟩ := dpGet hdI evg
          rw [List.getElem?_map, er0] at ed
          cases ed
          exact hd
        refine ⟨_, rfl, _, rfl, _, rfl, G, _, _, vg, rfl, rfl, SqL.of hGI, atI_nat (j := 0) evg, B, L, .ref aK, vg, ks, r0, rfl, bI, hkI, k1, k4, hvg, okG r0 (List.mem_of_getElem? er0), fun HJ v d sJ bJ hv bad fit nol => ?_⟩
        have hpJ := sJ _ _ npB npL (sI _ _ npB npL hp')
        have hdJ := dpAll_x bI sJ _ noD (dpAll_x b' sI _ noD hd')
        refine ⟨_, rfl, _, rfl, p, ys, _, pn, rfl, rfl, hpJ, (by unfold ixN; rw [if_pos (by omega), if_pos (by omega), Int.toNat_natCast]), ?_⟩
        refine ⟨_, rfl, _, rfl, _, _, rfl, ?_⟩
        have hnew : upd HJ p (.lst (ys.set pn v)) p = some (.lst (ys.set pn v)) := upd_same
        have hset : ∀ (j : Nat) (e : PyData), (ds.set pn d)[j]? = some e → j ≠ pn → ds[j]? = some e := fun j e h n => by rw [List.getElem?_set_ne (Ne.symm n)] at h; exact h
        have mem_take : ∀ {l : List PyData} {q : Nat} {e : PyData}, e ∈ l.take q → ∃ j, j < q ∧ l[j]? = some e := fun {l q e} h => by
          obtain ⟨j, hj⟩ := List.getElem?_of_mem h
          rw [List.getElem?_take] at hj
          by_cases c : j < q
          · rw [if_pos c] at hj; exact ⟨j, c, hj⟩
          · rw [if_neg c] at hj; cases hj
        have in_take : ∀ {l : List PyData} {q j : Nat} {e : PyData}, j < q → l[j]? = some e → e ∈ l.take q := fun {l q j e} c h => List.mem_iff_getElem?.mpr ⟨j, by rw [List.getElem?_take, if_pos c]; exact h⟩
        have nolS : noLs (ds.set pn d) = true := noLs_iff.mpr fun e he => by
          rcases List.mem_or_eq_of_mem_set he with h | h
          · exact (hfit e h).2
          · rw [h]; exact nol
        obtain ⟨nat, enat, hnat⟩ : ∃ nat : Nat, (if ((pn : Nat) : Int) < ((at_ : Nat) : Int) then ((pn : Nat) : Int) else ((at_ : Nat) : Int)) = (nat : Nat) ∧ ((pn < at_ ∧ nat = pn) ∨ (at_ ≤ pn ∧ nat = at_)) := by
          by_cases c : pn < at_
          · exact ⟨pn, by rw [if_pos (by omega)], .inl ⟨c, rfl⟩⟩
          · exact ⟨at_, by rw [if_neg (by omega)], .inr ⟨by omega, rfl⟩⟩
        refine ⟨nat, ys.set pn v, ds.set pn d, _, _, by rw [← enat]; rfl, fun b o e n1 n2 n3 => (upd_ne n3).trans (sJ _ _ n1 n2 (sI _ _ n1 n2 (fr b o e n1 n2 n3))), bJ.upd_ npB npL, hnew, dpAll_upd hpJ _ nolS (dpAll_setI pn hdJ hv), by rw [List.length_set]; exact ld, by omega, fun _ => by omega, fun e he => ?_, fun e he => ?_, fun hlt => ?_⟩
        · obtain ⟨j, hj, ej⟩ := mem_take he
          exact hgood e (in_take (j := j) (by omega) (hset j e ej (by omega)))
        · rcases List.mem_or_eq_of_mem_set he with h | h
          · exact hfit e h
          · rw [h]; exact ⟨fit, nol⟩
        · by_cases c2 : nat = pn
          · rw [c2]
            exact ⟨d, by rw [List.getElem?_set_self (by omega)], bad⟩
          · have ea : nat = at_ := by omega
            rw [ea] at hlt c2 ⊢
            obtain ⟨e, he, hb⟩ := hbad hlt
            exact ⟨e, by rw [List.getElem?_set_ne (Ne.symm c2)]; exact he, hb⟩
      · rintro σ H' ⟨at_, ys, ds, v7, v8, rfl, fr, b', hp', hd', ld, la, li, hgood, hfit, hbad⟩
        have lat := li (by omega)
        refine ⟨_, rfl, _, rfl, _, rfl, _, _, rfl, by show 2 ≤ sizeLine; decide, fun t nt => ?_⟩
        obtain ⟨fa, efa, hfa⟩ : ∃ fa : Nat, (if (120 : Int) < ((at_ : Nat) : Int) then (120 : Int) else ((at_ : Nat) : Int)) = (fa : Nat) ∧ ((120 < at_ ∧ fa = 120) ∨ (at_ ≤ 120 ∧ fa = at_)) := by
          by_cases c : 120 < at_
          · exact ⟨120, by rw [if_pos (by omega)]; rfl, .inl ⟨c, rfl⟩⟩
          · exact ⟨at_, by rw [if_neg (by omega)], .inr ⟨by omega, rfl⟩⟩
        rw [efa]
        have sJ := sameNew (o := .tup [.ref p, .int (fa : Nat)]) (Same.refl H') nt
        have ht : upd H' t (.tup [.ref p, .int (fa : Nat)]) t = some (.tup [.ref p, .int (fa : Nat)]) := upd_same
        generalize upd H' t (.tup [.ref p, .int (fa : Nat)]) = HJ at sJ ht ⊢
        have xFH : SameX B L H H' := fun b o n1 n2 e => by
          have e7 := (x7.trans x7D) b o n1 n2 e
          exact fr b o (sF _ _ n1 n2 (xE _ _ n1 n2 e7)) n1 n2 fun z => by
            have eC := (x7.trans x7C) b o n1 n2 e
            rw [z, np] at eC
            cases eC
        obtain ⟨bd, ebd, hbd⟩ := hbad lat
        refine k HJ t p ys ds fa (xFH.trans (SameX.of sJ)) (b'.same sJ) ht ⟨npB, npL⟩ (sJ _ _ hp') (dpAll_same sJ _ hd') ⟨by omega, hfit, by omega, fun e he => ?_, ?_⟩
        · obtain ⟨j, hj⟩ := List.getElem?_of_mem he
          rw [List.getElem?_take] at hj
          by_cases c : j < fa
          · rw [if_pos c] at hj
            exact hgood e (List.mem_iff_getElem?.mpr ⟨j, by rw [List.getElem?_take, if_pos (by omega)]; exact hj⟩)
          · rw [if_neg c] at hj
            cases hj
        · by_cases c : fa = 120
          · exact ⟨_, List.getElem?_eq_getElem (by omega), .inl c⟩
          · have ea : fa = at_ := by omega
            rw [ea]
            exact ⟨bd, ebd, .inr hbd⟩
    · intro nx hnx
      refine ⟨_, rfl, _, rfl, _, _, rfl, rfl, _, rfl, ?_⟩
      by_cases c : 120 < mn
      · refine iteT' (decide_eq_true (by omega)) ?_
        refine ⟨_, rfl, B, L, 3, rfl, bD, by decide, by decide, fun HE zx sE bE z0 z3 => ⟨rfl, _, rfl, ?_⟩⟩
        by_cases e : zx = 0
        · refine iteT' (decide_eq_true (congrArg V.int e)) ?_
          refine ⟨_, rfl, _, rfl, by show 2 ≤ sizeLine; decide, fun t nt => ?_⟩
          have sF := sameNew (o := .tup [.ref p, .int 120]) (Same.refl HE) nt
          have ht : upd HE t (.tup [.ref p, .int 120]) t = some (.tup [.ref p, .int 120]) := upd_same
          generalize upd HE t (.tup [.ref p, .int 120]) = HF at sF ht ⊢
          refine k HF t p y0 d0 120 ((x7.trans x7D).trans (sE.trans (SameX.of sF))) (bE.same sF) ht ⟨npB, npL⟩ (sF _ _ (sE _ _ npB npL hp)) (dpAll_same sF _ (dpAll_x bD sE _ (noLs_iff.mpr fun d hd => (g0 d hd).2.2) hdD)) ⟨by omega, fun d hd => (g0 d hd).2, Nat.le_refl _, fun d hd => (g0 d (List.mem_of_mem_take hd)).1, ?_⟩
          exact ⟨_, List.getElem?_eq_getElem (by omega), .inl rfl⟩
        · exact iteF' (decide_eq_false fun z => e (V.int.inj z)) (hnx _ _ ⟨rfl, sE, bE⟩)
      · exact iteF' (decide_eq_false (by omega)) (hnx _ _ ⟨rfl, SameX.refl, bD⟩)
end
end RS
set_option Elab.async false
set_option maxRecDepth 100000
set_option maxHeartbeats 4000000
namespace LM
open PySem PySem.Spec PyProof.Rows L2
open LamX (ExtN TabS TabB CodeO LamS lamCx lamEnv)
/-! ### lambdas, the other tables kept -/
theorem tabS_p {H H' : Hp} {P P' : Addr} {q q' : Str} (t : TabS H P q) (t' : TabS H P' q') (n : P' ≠ P) (x : ∀ b o, H b = some o → b ≠ P → H' b = some o) : TabS H' P' q' := by
  obtain ⟨ps, h1, _⟩ := t
  obtain ⟨ps', k1, k2, k3⟩ := t'
  refine ⟨ps', x _ _ k1 n, k2, fun pos cv hc => ?_⟩
  obtain ⟨c, e1, e2⟩ := k3 pos cv hc
  exact ⟨c, e1, x _ _ e2 fun z => by rw [z, h1] at e2; exact LamX.codeO_ne ps (Option.some.inj e2).symm⟩
def tLamP (P : Addr) (q : Str) (params : Arguments) (body : Expr) (scope : Scope) (clos : List (Str × Addr)) : TE := fun _ H Q => TabS H P q ∧
  ∀ (f : Addr) (H1 : Hp), ExtN H H1 → (∀ b o, H b = some o → b ≠ P → H1 b = some o) → TabS H1 P q → IsLam H1 f q params body scope clos → H f = none → Q (.ref f) H1
section
variable {X : Cx}
theorem pe_lamP {c P : Addr} {params : Arguments} {body : Expr} {scope : Scope} {pos : Pos} (TB : TabB X.base X.mg c P) (hcode : X.env.code = .ref c) (L : LamS X.env.scope scope) (hdef : defaultsOf params X.env = ([], [])) :
    PE X (.Lambda params body scope pos) (tLamP P (X.env.qual ++ "<lambda>") params body scope (cloFrom X.env.cells scope.names [])) := by
  refine ⟨fun pins s σ H Q I ⟨hT, h⟩ => ?_⟩
  obtain ⟨ps, hP, ht, ha⟩ := id hT
  refine PySem.W.kla_eval hdef ?_
  have hP' : s.heap.get? P = some { cls := .none, data := .fields ps } := I.hok P _ hP
  cases hc : codeAmong pos ps.toList with
  | none =>
    refine PySem.W.kla_makeFunction (mg := X.mg) (c := c) (P := P) (ps := ps) (closure_ok (L.has I.ok)) I.ok.glob (I.mod.glob.keeps I.bk) hcode (TB.code.keeps I.bk) hP' ht hc TB.gP (TB.bm.keeps I.bk) fun c' ctv g tk hx hge hlt hrec htb => ?_
    obtain ⟨c2, oc, vs, t, e2, hoc, hd, hv⟩ := hrec
    cases e2
    have nC : H c' = none := I.hok.fresh hge
    have I1 := LamX.inv_table (t' := tk) (q := X.env.qual ++ "<lambda>") (more := #[rawInt pos.line, rawInt pos.col, .ref c']) I hP (fun b o hb e => hx b o hb e) htb hge ⟨oc, vs, t, hoc, hd, hv⟩
    have I2 := I1.laid (a := g.objs.size) (o := Pin (PySem.W.kla_obj "<lambda>" (X.env.qual ++ "<lambda>") params body scope (cloFrom X.env.cells scope.names []) ((X.mg "__name__").getD .none) c' ctv)) (t' := tk) (fun b u e => Heap.get?_push_of_some (h := g) _ e) (Nat.le_refl _) ⟨Heap.get?_push_size _ rfl, ⟨_, Heap.get?_push_size _ rfl⟩⟩
    have nF : H g.objs.size = none := I.hok.fresh (Nat.le_trans hge (Nat.le_of_lt hlt))
    have n1 : g.objs.size ≠ c' := Nat.ne_of_gt hlt
    have n2 : P ≠ g.objs.size := ne_of_none hP nF
    have n3 : P ≠ c' := ne_of_none hP nC
    have hE : ExtN H (upd (upd (upd H P (.tbl (ps ++ #[rawInt pos.line, rawInt pos.col, .ref c']))) c' (CodeO c' (X.env.qual ++ "<lambda>"))) g.objs.size (Pin (PySem.W.kla_obj "<lambda>" (X.env.qual ++ "<lambda>") params body scope (cloFrom X.env.cells scope.names []) ((X.mg "__name__").getD .none) c' ctv))) := fun b o e n => by
      rw [upd_ne (ne_of_none e nF), upd_ne (ne_of_none e nC), upd_ne fun z => n ps (Option.some.inj (e.symm.trans (by rw [z]; exact hP)))]
      exact e
    have hC2 : (upd (upd (upd H P (.tbl (ps ++ #[rawInt pos.line, rawInt pos.col, .ref c']))) c' (CodeO c' (X.env.qual ++ "<lambda>"))) g.objs.size (Pin (PySem.W.kla_obj "<lambda>" (X.env.qual ++ "<lambda>") params body scope (cloFrom X.env.cells scope.names []) ((X.mg "__name__").getD .none) c' ctv))) c' = some (CodeO c' (X.env.qual ++ "<lambda>")) := by
      rw [upd_ne (Ne.symm n1), upd_same]
    refine ⟨.ref g.objs.size, _, I2, rfl, h _ _ hE (fun b o e n => by rw [upd_ne (ne_of_none e nF), upd_ne (ne_of_none e nC), upd_ne n]; exact e) ⟨_, by rw [upd_ne n2, upd_ne n3, upd_same], ?_, fun p' cv hcv => ?_⟩ ⟨c', _, ctv, upd_same, hC2⟩ nF⟩
    · simp only [Array.toList_append]
      exact PySem.TriplesOk_snoc _ _ _ _ ht
    · simp only [Array.toList_append] at hcv
      rcases LamX.among_app _ ht hcv with z | z
      · obtain ⟨c0, y1, y2⟩ := ha p' cv z
        exact ⟨c0, y1, hE _ _ y2 (fun ps => LamX.codeO_ne ps)⟩
      · exact ⟨c', z, hC2⟩
  | some cv =>
    obtain ⟨c', rfl, hco⟩ := ha pos cv hc
    refine PySem.W.kla_makeFunctionHit (mg := X.mg) (c := c) (P := P) (ps := ps) (closure_ok (L.has I.ok)) I.ok.glob (I.mod.glob.keeps I.bk) hcode (TB.code.keeps I.bk) hP' ht hc (TB.bm.keeps I.bk) fun ctv g tk hx hsz => ?_
    have I1 : Inv X pins σ H { s with heap := g, toks := tk } := I.kept hx
    have I2 := I1.laid (a := g.objs.size) (o := Pin (PySem.W.kla_obj "<lambda>" (X.env.qual ++ "<lambda>") params body scope (cloFrom X.env.cells scope.names []) ((X.mg "__name__").getD .none) c' ctv)) (t' := tk) (fun b u e => Heap.get?_push_of_some (h := g) _ e) (Nat.le_refl _) ⟨Heap.get?_push_size _ rfl, ⟨_, Heap.get?_push_size _ rfl⟩⟩
    have nF : H g.objs.size = none := I.hok.fresh hsz
    have hE : ∀ b o, H b = some o → (upd H g.objs.size (Pin (PySem.W.kla_obj "<lambda>" (X.env.qual ++ "<lambda>") params body scope (cloFrom X.env.cells scope.names []) ((X.mg "__name__").getD .none) c' ctv))) b = some o := fun b o e => by
      rw [upd_ne (ne_of_none e nF)]
      exact e
    exact ⟨.ref g.objs.size, _, I2, rfl, h _ _ (ExtN.of hE) (fun b o e _ => hE b o e) (hT.ext hE) ⟨c', _, ctv, upd_same, hE _ _ hco⟩ nF⟩
def tLamDP (P : Addr) (q : Str) (params : Arguments) (body : Expr) (scope : Scope) (clos : List (Str × Addr)) : TE := fun _ H Q => TabS H P q ∧
  ∀ (f : Addr) (H1 : Hp), ExtN H H1 → (∀ b o, H b = some o → b ≠ P → H1 b = some o) → TabS H1 P q → IsLamD H1 f q params body scope clos → H f = none → Q (.ref f) H1
section
variable {X : Cx}
theorem pe_lamDP {c P : Addr} {params : Arguments} {body : Expr} {scope : Scope} {pos : Pos} {N : List Str} {p : Str} {e0 : Expr} {z : Int} (TB : TabB X.base X.mg c P) (hcode : X.env.code = .ref c) (L : LamSD N X.env.scope scope p) (hd : params.defaults = [e0]) (hk0 : params.kw_defaults = []) (he : PE X e0 (tC (.int z))) :
    PE X (.Lambda params body scope pos) (tLamDP P (X.env.qual ++ "<lambda>") params body scope (cloFrom X.env.cells scope.names [])) := by
  refine ⟨fun pins s0 σ H0 Q I0 ⟨hT0, h0⟩ => ?_⟩
  refine PySem.W.kdv_lam (by rw [hd]; rfl) hk0 ?_
  rw [hd]
  refine PySem.W.kdv_all1 (thn (he.run pins s0 σ H0 (fun v H1 => H1 = H0) I0 rfl) fun u s1 ⟨v, H1, I1, r1, eH⟩ => ?_)
  subst eH
  refine PySem.W.kdv_all0 ?_
  rw [PySem.makeFunction_eq]
  simp only [List.zip_nil_right, List.filterMap_nil, List.isEmpty_nil, List.isEmpty_cons, Bool.false_eq_true, if_true, if_false, pure_bind]
  refine wpAny_bind (wpAny_newTextTuple ?_)
  have nT : H1 s1.heap.objs.size = none := I1.hok.fresh (Nat.le_refl _)
  have I := I1.laid (a := s1.heap.objs.size) (o := Pin (PySem.W.kdv_tup [u])) (t' := s1.toks) (h' := s1.heap.push (PySem.W.kdv_tup [u])) (fun b o e => Heap.get?_push_of_some _ e) (Nat.le_refl _) ⟨Heap.get?_push_size _ rfl, ⟨_, Heap.get?_push_size _ rfl⟩⟩
  have sT : ∀ b o, H1 b = some o → (upd H1 s1.heap.objs.size (Pin (PySem.W.kdv_tup [u]))) b = some o := fun b o e => (upd_ne (ne_of_none e nT)).trans e
  have hT := hT0.ext sT
  have hAt : (upd H1 s1.heap.objs.size (Pin (PySem.W.kdv_tup [u]))) s1.heap.objs.size = some (Pin (PySem.W.kdv_tup [u])) := upd_same
  have h : ∀ (f : Addr) (H2 : Hp), ExtN (upd H1 s1.heap.objs.size (Pin (PySem.W.kdv_tup [u]))) H2 → (∀ b o, (upd H1 s1.heap.objs.size (Pin (PySem.W.kdv_tup [u]))) b = some o → b ≠ P → H2 b = some o) → TabS H2 P (X.env.qual ++ "<lambda>") → IsLamD H2 f (X.env.qual ++ "<lambda>") params body scope (cloFrom X.env.cells scope.names []) → (upd H1 s1.heap.objs.size (Pin (PySem.W.kdv_tup [u]))) f = none → Q (.ref f) H2 := fun f H2 e x t l n => h0 f H2 ((ExtN.of sT).trans e) (fun b o y n => x b o (sT b o y) n) t l (by
    cases q : H1 f with
    | none => rfl
    | some o => rw [sT f o q] at n; cases n)
  show wpAny _ _ (makeTail "<lambda>" (X.env.qual ++ "<lambda>") params (.expr body) scope X.env (.ref s1.heap.objs.size) .none none pos pos.line) _ _ { s1 with heap := s1.heap.push (PySem.W.kdv_tup [u]) }
  generalize eTT : s1.heap.objs.size = TT at hAt hT h I ⊢
  generalize upd H1 TT (Pin (PySem.W.kdv_tup [u])) = H at hAt hT h I ⊢
  generalize es : ({ s1 with heap := s1.heap.push (PySem.W.kdv_tup [u]) } : Shared) = s at I ⊢
  clear nT sT
  obtain ⟨ps, hP, ht, ha⟩ := id hT
  have hP' : s.heap.get? P = some { cls := .none, data := .fields ps } := I.hok P _ hP
  cases hc : codeAmong pos ps.toList with
  | none =>
    refine PySem.W.kdv_makeTail (mg := X.mg) (c := c) (P := P) (ps := ps) (closure_ok (L.has I.ok)) I.ok.glob (I.mod.glob.keeps I.bk) hcode (TB.code.keeps I.bk) hP' ht hc TB.gP (TB.bm.keeps I.bk) fun c' ctv doc g tk hx hge hlt hrec htb => ?_
    obtain ⟨c2, oc, vs, t, e2, hoc, hd, hv⟩ := hrec
    cases e2
    have nC : H c' = none := I.hok.fresh hge
    have I1 := LamX.inv_table (t' := tk) (q := X.env.qual ++ "<lambda>") (more := #[rawInt pos.line, rawInt pos.col, .ref c']) I hP (fun b o hb e => hx b o hb e) htb hge ⟨oc, vs, t, hoc, hd, hv⟩
    have I2 := I1.laid (a := g.objs.size) (o := Pin (PySem.W.kdv_obj "<lambda>" (X.env.qual ++ "<lambda>") params (.expr body) scope (cloFrom X.env.cells scope.names []) (.ref TT) doc ((X.mg "__name__").getD .none) c' ctv)) (t' := tk) (fun b u e => Heap.get?_push_of_some (h := g) _ e) (Nat.le_refl _) ⟨Heap.get?_push_size _ rfl, ⟨_, Heap.get?_push_size _ rfl⟩⟩
    have nF : H g.objs.size = none := I.hok.fresh (Nat.le_trans hge (Nat.le_of_lt hlt))
    have n1 : g.objs.size ≠ c' := Nat.ne_of_gt hlt
    have n2 : P ≠ g.objs.size := ne_of_none hP nF
    have n3 : P ≠ c' := ne_of_none hP nC
    have hE : ExtN H (upd (upd (upd H P (.tbl (ps ++ #[rawInt pos.line, rawInt pos.col, .ref c']))) c' (CodeO c' (X.env.qual ++ "<lambda>"))) g.objs.size (Pin (PySem.W.kdv_obj "<lambda>" (X.env.qual ++ "<lambda>") params (.expr body) scope (cloFrom X.env.cells scope.names []) (.ref TT) doc ((X.mg "__name__").getD .none) c' ctv))) := fun b o e n => by
      rw [upd_ne (ne_of_none e nF), upd_ne (ne_of_none e nC), upd_ne fun z => n ps (Option.some.inj (e.symm.trans (by rw [z]; exact hP)))]
      exact e
    have hC2 : (upd (upd (upd H P (.tbl (ps ++ #[rawInt pos.line, rawInt pos.col, .ref c']))) c' (CodeO c' (X.env.qual ++ "<lambda>"))) g.objs.size (Pin (PySem.W.kdv_obj "<lambda>" (X.env.qual ++ "<lambda>") params (.expr body) scope (cloFrom X.env.cells scope.names []) (.ref TT) doc ((X.mg "__name__").getD .none) c' ctv))) c' = some (CodeO c' (X.env.qual ++ "<lambda>")) := by
      rw [upd_ne (Ne.symm n1), upd_same]
    refine ⟨.ref g.objs.size, _, I2, rfl, h _ _ hE (fun b o e n => by rw [upd_ne (ne_of_none e nF), upd_ne (ne_of_none e nC), upd_ne n]; exact e) ⟨_, by rw [upd_ne n2, upd_ne n3, upd_same], ?_, fun p' cv hcv => ?_⟩ ⟨c', TT, u, doc, _, ctv, upd_same, hE _ _ hAt (fun ps z => nomatch z), hC2⟩ nF⟩
    · simp only [Array.toList_append]
      exact PySem.TriplesOk_snoc _ _ _ _ ht
    · simp only [Array.toList_append] at hcv
      rcases LamX.among_app _ ht hcv with z | z
      · obtain ⟨c0, y1, y2⟩ := ha p' cv z
        exact ⟨c0, y1, hE _ _ y2 (fun ps => LamX.codeO_ne ps)⟩
      · exact ⟨c', z, hC2⟩
  | some cv =>
    obtain ⟨c', rfl, hco⟩ := ha pos cv hc
    refine PySem.W.kdv_makeTailHit (mg := X.mg) (c := c) (P := P) (ps := ps) (closure_ok (L.has I.ok)) I.ok.glob (I.mod.glob.keeps I.bk) hcode (TB.code.keeps I.bk) hP' ht hc (TB.bm.keeps I.bk) fun ctv doc g tk hx hsz => ?_
    have I1 : Inv X pins σ H { s with heap := g, toks := tk } := I.kept hx
    have I2 := I1.laid (a := g.objs.size) (o := Pin (PySem.W.kdv_obj "<lambda>" (X.env.qual ++ "<lambda>") params (.expr body) scope (cloFrom X.env.cells scope.names []) (.ref TT) doc ((X.mg "__name__").getD .none) c' ctv)) (t' := tk) (fun b u e => Heap.get?_push_of_some (h := g) _ e) (Nat.le_refl _) ⟨Heap.get?_push_size _ rfl, ⟨_, Heap.get?_push_size _ rfl⟩⟩
    have nF : H g.objs.size = none := I.hok.fresh hsz
    have hE : ∀ b o, H b = some o → (upd H g.objs.size (Pin (PySem.W.kdv_obj "<lambda>" (X.env.qual ++ "<lambda>") params (.expr body) scope (cloFrom X.env.cells scope.names []) (.ref TT) doc ((X.mg "__name__").getD .none) c' ctv))) b = some o := fun b o e => by
      rw [upd_ne (ne_of_none e nF)]
      exact e
    exact ⟨.ref g.objs.size, _, I2, rfl, h _ _ (ExtN.of hE) (fun b o e _ => hE b o e) (hT.ext hE) ⟨c', TT, u, doc, _, ctv, upd_same, hE _ _ hAt, hE _ _ hco⟩ nF⟩
end
end
end LM
set_option Elab.async false
set_option maxRecDepth 100000
set_option maxHeartbeats 4000000
namespace RS
open PySem PySem.Spec PyProof.Rows L2 GX HQ LM
/-- an error class as the law looks at it -/
structure ErrP (K : PySem.W.Frag) (SE : Addr) (C15 : Nat → Addr) (C : Addr) (j : Nat) : Prop where
  own : Own15 K C15 C j
  exm : PySem.W.exmOne K (.ref C) (.ref SE) = some true
  pl : ¬ (j = 3 ∨ j = 2 ∨ j = 14)
structure ErrR (K : PySem.W.Frag) (SE : Addr) (C15 : Nat → Addr) (C : Addr) : Prop where
  own : Own15 K C15 C 2
  exm : PySem.W.exmOne K (.ref C) (.ref SE) = some true
  xf : XfC K C
  plc : PySem.W.findIn K (.ref C) "place" = some none
theorem err_pl {K : PySem.W.Frag} {SE C : Addr} {C15 : Nat → Addr} {j : Nat} {nm : Str} {cl : List (Str × Addr)} {H1 H2 : Hp} {Q1 : VK} (e : ErrP K SE C15 C j) (hn : nm15.getD j "" = nm) (so : ∀ b o, off cl H1 b = some o → H2 b = some o) (told : ∀ x H', Same H1 H' → Dp K H' x (.tuple [.str nm, .int 0]) → Q1 x H') :
    ErrOk K SE C15 Q1 (.ref C) none (back cl H1 H2) :=
  ⟨C, j, 0, rfl, e.own, e.exm, (fun d z => nomatch z), by unfold ErrV; rw [if_neg e.pl], fun H4 t s4 ht4 => by
    rw [hn] at ht4
    exact told _ _ (fun b o z => s4 b o (back_same so b o z)) (.tup (SqT.of ht4) (.cons (.str _) (.cons (.int _) .nil)))⟩
theorem err_row {K : PySem.W.Frag} {SE C dd : Addr} {C15 : Nat → Addr} {n : Nat} {cl : List (Str × Addr)} {H1 H2 : Hp} {Q1 : VK} (e : ErrR K SE C15 C) (so : ∀ b o, off cl H1 b = some o → H2 b = some o) (lo : Loose cl H2) (hdd : H2 dd = some (.xd [("place", .int (n : Nat))])) (told : ∀ x H', Same H1 H' → Dp K H' x (.tuple [.str "BadRows", .int (n : Nat)]) → Q1 x H') :
    ErrOk K SE C15 Q1 (.ref C) (some dd) (back cl H1 H2) :=
  ⟨C, 2, n, rfl, e.own, e.exm, (fun d z => by cases z; exact ⟨_, back_at lo hdd⟩), by
    unfold ErrV
    rw [if_pos (.inr (.inl rfl))]
    exact ⟨e.xf, e.plc, dd, _, rfl, back_at lo hdd, lk_eq⟩, fun H4 t s4 ht4 => told _ _ (fun b o z => s4 b o (back_same so b o z)) (.tup (SqT.of ht4) (.cons (.str _) (.cons (.int _) .nil)))⟩
section
variable {X : Cx} {σ : L2.St} {H G : Hp} {params : Arguments} {body : Expr} {scope : Scope} {f SE CE : Addr} {C15 : Nat → Addr} {j : Nat} {t : XK → TE} {nm p : Str}
theorem works_pl (e : ErrP X.K SE C15 CE j) (hn : nm15.getD j "" = nm) (ca : Caught X σ H G) (L : LamX.LamS X.env.scope scope) (hl : IsLam H f (X.env.qual ++ "<lambda>") params body scope (cloFrom X.env.cells scope.names []))
    (hbind : ∀ (q : Str) (cl : List (Str × Addr)) (pm cv ctv : Value), bindArgs (PySem.W.kla_fn "<lambda>" q params body scope cl pm cv ctv) ⟨[], []⟩ = pure [])
    (hbody : ∀ (A : Around) (outer : List Env) (s : Shared) (H : Hp) (E : XK) (c' : Addr), Room 10 (A.deeper (LamX.lamEnv X scope s.heap.objs.size f c')) → PE (LamX.lamCx X A outer s H E scope f c') body (t E))
    (hm : ∀ (Hx : Hp) (E : XK) (Q : VK), Same H Hx → (∀ H' : Hp, Same Hx H' → E (.ref CE) none H') → t E σ Hx Q) :
    Works X.prog X.w X.K X.mg X.base SE C15 11 f G (.tuple [.str nm, .int 0]) := by
  intro H2 Q1 s2 told
  obtain ⟨R, rG, act⟩ := lam_act (k := 10) ca L (hl.up ca) hbind hbody
  refine ⟨f, R, _, rfl, act, act.same _ _ s2 rG, fun E hE => ?_⟩
  exact hm _ _ _ (caught_same ca s2) fun H3 s3 lo => hE _ _ _ (err_pl e hn s3 told)
theorem works_plD (e : ErrP X.K SE C15 CE j) (hn : nm15.getD j "" = nm) (ca : Caught X σ H G) (L : LamSD X.N X.env.scope scope p) (hl : IsLamD H f (X.env.qual ++ "<lambda>") params body scope (cloFrom X.env.cells scope.names []))
    (hbind : ∀ (s : Shared) (q : Str) (cl : List (Str × Addr)) (T0 : Addr) (u doc pm cv ctv : Value), s.heap.get? T0 = some (PySem.W.kdv_tup [u]) → BindsTo s (PySem.W.kdv_fn "<lambda>" q params (.expr body) scope cl (.ref T0) doc pm cv ctv) ⟨[], []⟩ [(p, u)])
    (hbody : ∀ (A : Around) (outer : List Env) (s : Shared) (H : Hp) (E : XK) (c' : Addr), Room 10 (A.deeper (LamX.lamEnv X scope s.heap.objs.size f c')) → PE (LamX.lamCx X A outer s H E scope f c') body (t E))
    (hm : ∀ (Hx : Hp) (E : XK) (Q : VK), Same H Hx → (∀ H' : Hp, Same Hx H' → E (.ref CE) none H') → t E σ Hx Q) :
    Works X.prog X.w X.K X.mg X.base SE C15 11 f G (.tuple [.str nm, .int 0]) := by
  intro H2 Q1 s2 told
  obtain ⟨R, rG, act⟩ := lam_actD (k := 10) ca L (hl.up ca) hbind hbody
  refine ⟨f, R, _, rfl, act, act.same _ _ s2 rG, fun E hE => ?_⟩
  exact hm _ _ _ (caught_same ca s2) fun H3 s3 lo => hE _ _ _ (err_pl e hn s3 told)
theorem works_rw {n : Nat} (e : ErrR X.K SE C15 CE) (ca : Caught X σ H G) (L : LamX.LamS X.env.scope scope) (hl : IsLam H f (X.env.qual ++ "<lambda>") params body scope (cloFrom X.env.cells scope.names []))
    (hbind : ∀ (q : Str) (cl : List (Str × Addr)) (pm cv ctv : Value), bindArgs (PySem.W.kla_fn "<lambda>" q params body scope cl pm cv ctv) ⟨[], []⟩ = pure [])
    (hbody : ∀ (A : Around) (outer : List Env) (s : Shared) (H : Hp) (E : XK) (c' : Addr), Room 10 (A.deeper (LamX.lamEnv X scope s.heap.objs.size f c')) → PE (LamX.lamCx X A outer s H E scope f c') body (t E))
    (hm : ∀ (Hx : Hp) (E : XK) (Q : VK), Same H Hx → (∀ (H' : Hp) (dd : Addr), Same Hx H' → H' dd = some (.xd [("place", .int (n : Nat))]) → E (.ref CE) (some dd) H') → t E σ Hx Q) :
    Works X.prog X.w X.K X.mg X.base SE C15 11 f G (.tuple [.str "BadRows", .int (n : Nat)]) := by
  intro H2 Q1 s2 told
  obtain ⟨R, rG, act⟩ := lam_act (k := 10) ca L (hl.up ca) hbind hbody
  refine ⟨f, R, _, rfl, act, act.same _ _ s2 rG, fun E hE => ?_⟩
  exact hm _ _ _ (caught_same ca s2) fun H3 dd s3 hdd lo => hE _ _ _ (err_row e s3 lo hdd told)
theorem works_rwD {n : Nat} (e : ErrR X.K SE C15 CE) (ca : Caught X σ H G) (L : LamSD X.N X.env.scope scope p) (hl : IsLamD H f (X.env.qual ++ "<lambda>") params body scope (cloFrom X.env.cells scope.names []))
    (hbind : ∀ (s : Shared) (q : Str) (cl : List (Str × Addr)) (T0 : Addr) (u doc pm cv ctv : Value), s.heap.get? T0 = some (PySem.W.kdv_tup [u]) → BindsTo s (PySem.W.kdv_fn "<lambda>" q params (.expr body) scope cl (.ref T0) doc pm cv ctv) ⟨[], []⟩ [(p, u)])
    (hbody : ∀ (A : Around) (outer : List Env) (s : Shared) (H : Hp) (E : XK) (c' : Addr), Room 10 (A.deeper (LamX.lamEnv X scope s.heap.objs.size f c')) → PE (LamX.lamCx X A outer s H E scope f c') body (t E))
    (hm : ∀ (Hx : Hp) (E : XK) (Q : VK), Same H Hx → (∀ (H' : Hp) (dd : Addr), Same Hx H' → H' dd = some (.xd [("place", .int (n : Nat))]) → E (.ref CE) (some dd) H') → t E σ Hx Q) :
    Works X.prog X.w X.K X.mg X.base SE C15 11 f G (.tuple [.str "BadRows", .int (n : Nat)]) := by
  intro H2 Q1 s2 told
  obtain ⟨R, rG, act⟩ := lam_actD (k := 10) ca L (hl.up ca) hbind hbody
  refine ⟨f, R, _, rfl, act, act.same _ _ s2 rG, fun E hE => ?_⟩
  exact hm _ _ _ (caught_same ca s2) fun H3 dd s3 hdd lo => hE _ _ _ (err_row e s3 lo hdd told)
end
/-! ### what stays beside the drawer and a table -/
def FrG (B L p : Addr) (H H' : Hp) : Prop := ∀ b o, H b = some o → b ≠ B → b ≠ L → b ≠ p → H' b = some o
theorem FrG.x {B L p : Addr} {H H' : Hp} (s : SameX B L H H') : FrG B L p H H' := fun b o e n1 n2 _ => s b o n1 n2 e
theorem FrG.of {B L p : Addr} {H H' : Hp} (s : Same H H') : FrG B L p H H' := fun b o e _ _ _ => s b o e
theorem FrG.t {B L p : Addr} {H H' : Hp} (s : ∀ b o, H b = some o → b ≠ p → H' b = some o) : FrG B L p H H' := fun b o e _ _ n => s b o e n
theorem FrG.trans {B L p : Addr} {H H1 H2 : Hp} (a : FrG B L p H H1) (b : FrG B L p H1 H2) : FrG B L p H H2 := fun c o e n1 n2 n3 => b c o (a c o e n1 n2 n3) n1 n2 n3
theorem dp_ext2 {K : PySem.W.Frag} {H H' : Hp} (s : LamX.ExtN H H') {d : PyData} {v : V} (h : Dp K H v d) : Dp K H' v d := dp_same (noT_ext s) _ (dp_noT d h)
theorem dpAll_ext2 {K : PySem.W.Frag} {H H' : Hp} (s : LamX.ExtN H H') {ds : List PyData} {vs : List V} (h : DpAll K H vs ds) : DpAll K H' vs ds := dpAll_same (noT_ext s) _ (dpAll_noT ds h)
theorem box_ext2 {H H' : Hp} {B L : Addr} (b : BoxAt H B L) (s : LamX.ExtN H H') : BoxAt H' B L := by
  obtain ⟨n, ⟨st, hb⟩, ⟨ms, hl⟩⟩ := b
  exact ⟨n, ⟨st, s _ _ hb (fun ps z => nomatch z)⟩, ⟨ms, s _ _ hl (fun ps z => nomatch z)⟩⟩
theorem tab_ext2 {H H' : Hp} {p : Addr} (s : LamX.ExtN H H') (h : Tab H p) : Tab H' p := s _ _ h fun ps z => nomatch z
theorem tab_x2 {H H' : Hp} {B L p : Addr} (b : BoxAt H B L) (s : SameX B L H H') (h : Tab H p) : Tab H' p := by
  obtain ⟨_, ⟨st, hB⟩, ⟨ms, hL⟩⟩ := b
  exact s _ _ (fun z => by unfold Tab at h; rw [z, hB] at h; cases h) (fun z => by unfold Tab at h; rw [z, hL] at h; cases h) h
theorem passX2 {P : Program} {w : World} {X : Cx} : Passes (L2.CX P w) X E0 := fun _ _ _ _ _ _ _ h => by
  obtain ⟨_, _, _, _, _, _, _, _, _, _, _, _, z⟩ := h
  exact z.elim
end RS
set_option Elab.async false
set_option maxRecDepth 100000
set_option maxHeartbeats 8000000
set_option pp.maxSteps 400
namespace RS
open PySem PySem.Spec PyProof.Rows L2 GX HQ LM
abbrev qH2 : Str := (envOfC "_law_heads_right" (defScope s__law_heads_right) 0 0 (.ref 0)).qual ++ "<lambda>"
abbrev N2H : List Str := ["_law_box", "_law_kinds_here", "_law_order_here", "_law_odd", "_law_text", "_law_works", "_law_turned"]
/-- what is called with heads -/
structure Calls2 (P : Program) (w : World) (K : PySem.W.Frag) (mg : Str → Option Value) (base : Heap) (CS CD CSo CK CO p : Addr) : Prop where
  fi : Cal P w K mg base (L2.CX P w) 5 "filled" ["kinds", "order", "size", "rows"] (spHead K CK CO p 2)
  ex : Cal P w K mg base (L2.CX P w) 5 "exchanged" ["kinds", "order", "size", "rows"] (spHead K CK CO p 2)
  me : Cal P w K mg base (L2.CX P w) 4 "merged" ["kinds", "order", "runs"] (spHead K CK CO p 1)
  wo : Cal P w K mg base (L2.CX P w) 4 "written_order" ["kinds", "order"] (spHead K CK CO p 0)
  ro : Cal P w K mg base (L2.CX P w) 4 "read_order" ["kinds", "text"] (spKindsT K CK p)
  sv : MakC P w K mg base (L2.CX P w) 4 "Sieve" CS ["self", "kinds", "order"] (spSvH K CK CO p)
  dk : MakC P w K mg base CX0 1 "Disk" CD ["self"] (spDkI CD)
  so : MakC P w K mg base (L2.CX P w) 5 "Sorter" CSo ["self", "disk", "kinds", "order", "room", "page", "ways"] (spSoH K CD CK CO p)
theorem head_same {K : PySem.W.Frag} {CK CO p : Addr} {vk vo : V} {H H' : Hp} {E : XK} (s : Same H H') (t : Tab H p)
    (h : (∃ ws : List Str, Dp K H vk (wordsD ws) ∧ ws.length ≤ 1000 ∧ BadKs ws ∧ ∀ H', Same H H' → E (.ref CK) none H') ∨ (∃ (ks : List Bool) (ods : List (List PyData)), Dp K H vk (kindsD ks) ∧ 1 ≤ ks.length ∧ ks.length ≤ 4 ∧ Dp K H vo (rowsD ods) ∧ ods.length ≤ 900 ∧ BadOrd ks.length ods ∧ ∀ H', Same H H' → E (.ref CO) none H')) : HeadBad K CK CO p vk vo H' E := by
  refine ⟨s _ _ t, ?_⟩
  rcases h with ⟨ws, h1, h2, h3, h4⟩ | ⟨ks, ods, h1, k1, k4, h2, h3, h4, h5⟩
  · exact .inl ⟨ws, dp_same s _ h1, h2, h3, fun H2 s2 => h4 H2 (s.trans s2)⟩
  · exact .inr ⟨ks, ods, dp_same s _ h1, k1, k4, dp_same s _ h2, h3, h4, fun H2 s2 => h5 H2 (s.trans s2)⟩
section
variable {P : Program} {w : World} {K : PySem.W.Frag} {mg : Str → Option Value} {base : Heap}
theorem scHR : FnScope N2H ["_law_box", "_law_kinds_here", "_law_order_here"] (defScope s__law_heads_right) := ⟨rfl, rfl, rfl, by decide +kernel, rfl, by decide +kernel, by decide +kernel⟩
structure PartsH (P : Program) (w : World) (K : PySem.W.Frag) (mg : Str → Option Value) (base : Heap) (SE : Addr) (C15 : Nat → Addr) (CS CD CSo CK CO p : Addr) : Prop extends Calls2 P w K mg base CS CD CSo CK CO p where
  take : Cal P w K mg base CX0 1 "_law_take" ["_law_box", "_law_many"] spTake
  bk : Cal P w K mg base CX0 3 "_law_bad_kinds" ["_law_box"] (spBadKs K)
  bo : Cal P w K mg base CX0 2 "_law_bad_order" ["_law_box", "_law_kinds_here", "_law_order_here"] (spBadO K)
  all : Cal P w K mg base CX0 43 "_law_all" ["_law_works", "_law_due"] (spAll P w K mg base SE C15 11)
def spHR (K : PySem.W.Frag) (p pG : Addr) : Sp := fun vs H Q _ => ∃ (B L O : Addr) (vk : V) (ks : List Bool) (os : List (Nat × Bool)) (xs : List V), vs = [.ref B, vk, .ref O] ∧ BoxAt H B L ∧ Dp K H vk (kindsD ks) ∧ 1 ≤ ks.length ∧ ks.length ≤ 4 ∧ O ≠ B ∧ O ≠ L ∧ H O = some (.lst xs) ∧ DpAll K H xs (os.map partD) ∧ OkOrder ks.length os ∧ os.length ≤ 4 ∧ Tab H p ∧ LamX.TabS H pG qH2 ∧
  ∀ H' : Hp, FrG B L pG H H' → BoxAt H' B L → LamX.TabS H' pG qH2 → Q (.bl true) H'
theorem heads_ok {c SE CS CD CSo CK CO p pG : Addr} {C15 : Nat → Addr} (D : DefAt K mg "_law_heads_right" s__law_heads_right c) (T : Txt K mg) (TB : LamX.TabB base mg c pG) (eK : ErrP K SE C15 CK 0) (eO : ErrP K SE C15 CO 1) (C : PartsH P w K mg base SE C15 CS CD CSo CK CO p) :
    Cal P w K mg base CX0 44 "_law_heads_right" ["_law_box", "_law_kinds_here", "_law_order_here"] (spHR K p pG) := by
  have sc := scHR
  refine def_ok0 D sc (fun vs H Q E h => ?_) (fun _ _ _ _ _ _ us hl => match us, hl with | [_, _, _], _ => rfl) (fun f A outer s H vs Q E hr h => ?_)
  · obtain ⟨B, L, O, vk, ks, os, xs, rfl, _⟩ := h
    rfl
  · obtain ⟨B, L, O, vk, ks, os, xs, rfl, hb, hk, k1, k4, nOB, nOL, hO, hI, oko, l4, tb, tG, k⟩ := h
    have hu := hr.units
    refine ⟨_, (pss_cons (ps_asg (pe_tup (pa_cons (pe_c C.bk hr (by decide) (by rfl) pass0 (pa_cons (pv 0) pa_nil)) (pa_cons (pe_ix ix_list (pe_lst (pa_cons pe_str (pa_cons pe_str (pa_cons pe_str pa_nil)))) (pe_c C.take hr (by decide) (by rfl) pass0 (pa_cons (pv 0) (pa_cons pe_int pa_nil))) (fun _ _ => rfl)) pa_nil))) (pg_tup (by rfl) (pgs_cons (pg_name (i := 3) sc.nd rfl (Or.inr rfl)) (pgs_cons (pg_name (i := 4) sc.nd rfl (Or.inr rfl)) pgs_nil)))) (pss_cons (ps_set (i := 5) sc.nd rfl (Or.inl rfl) (pe_lst (pa_cons (pe_lamP TB rfl (LamX.lamS_by (sc := defScope s__law_heads_right) (by decide +kernel)) (by rfl)) (pa_cons (pe_lamDP TB rfl (lamSD_by (N := N2H) (sc := defScope s__law_heads_right) (p := "_law_a") (by decide +kernel)) rfl rfl pe_int) (pa_cons (pe_lamDP TB rfl (lamSD_by (N := N2H) (sc := defScope s__law_heads_right) (p := "_law_b") (by decide +kernel)) rfl rfl pe_int) pa_nil))))) (pss_cons (ps_set (i := 5) sc.nd rfl (Or.inl rfl) (pe_op op_cat (pv 5) (pe_lst (pa_cons (pe_lamDP TB rfl (lamSD_by (N := N2H) (sc := defScope s__law_heads_right) (p := "_law_c") (by decide +kernel)) rfl rfl pe_int) (pa_cons (pe_lamDP TB rfl (lamSD_by (N := N2H) (sc := defScope s__law_heads_right) (p := "_law_d") (by decide +kernel)) rfl rfl pe_int) pa_nil))))) (pss_cons (ps_set (i := 5) sc.nd rfl (Or.inl rfl) (pe_op op_cat (pv 5) (pe_lst (pa_cons (pe_lamDP TB rfl (lamSD_by (N := N2H) (sc := defScope s__law_heads_right) (p := "_law_f") (by decide +kernel)) rfl rfl pe_int) (pa_cons (pe_lamDP TB rfl (lamSD_by (N := N2H) (sc := defScope s__law_heads_right) (p := "_law_g") (by decide +kernel)) rfl rfl pe_int) pa_nil))))) (pss_cons (ps_if (pt_not (pt_val (pe_cP C.all hr (by decide) (fun _ => rfl) (by rfl) (pa_cons (pv 5) (pa_cons (pe_tup (pa_cons pe_str (pa_cons pe_int pa_nil))) pa_nil))))) (pss_one (ps_ret pe_bl)) pss_nil) (pss_cons (ps_set (i := 6) sc.nd rfl (Or.inr rfl) (pe_c C.bo hr (by decide) (by rfl) pass0 (pa_cons (pv 0) (pa_cons (pv 1) (pa_cons (pv 2) pa_nil))))) (pss_cons (ps_set (i := 5) sc.nd rfl (Or.inl rfl) (pe_lst (pa_cons (pe_lamP TB rfl (LamX.lamS_by (sc := defScope s__law_heads_right) (by decide +kernel)) (by rfl)) (pa_cons (pe_lamDP TB rfl (lamSD_by (N := N2H) (sc := defScope s__law_heads_right) (p := "_law_a") (by decide +kernel)) rfl rfl pe_int) pa_nil)))) (pss_cons (ps_set (i := 5) sc.nd rfl (Or.inl rfl) (pe_op op_cat (pv 5) (pe_lst (pa_cons (pe_lamDP TB rfl (lamSD_by (N := N2H) (sc := defScope s__law_heads_right) (p := "_law_b") (by decide +kernel)) rfl rfl pe_int) (pa_cons (pe_lamDP TB rfl (lamSD_by (N := N2H) (sc := defScope s__law_heads_right) (p := "_law_c") (by decide +kernel)) rfl rfl pe_int) pa_nil))))) (pss_cons (ps_set (i := 5) sc.nd rfl (Or.inl rfl) (pe_op op_cat (pv 5) (pe_lst (pa_cons (pe_lamDP TB rfl (lamSD_by (N := N2H) (sc := defScope s__law_heads_right) (p := "_law_d") (by decide +kernel)) rfl rfl pe_int) (pa_cons (pe_lamDP TB rfl (lamSD_by (N := N2H) (sc := defScope s__law_heads_right) (p := "_law_f") (by decide +kernel)) rfl rfl pe_int) pa_nil))))) (pss_one (ps_ret (pe_cP C.all hr (by decide) (fun _ => rfl) (by rfl) (pa_cons (pv 5) (pa_cons (pe_tup (pa_cons pe_str (pa_cons pe_int pa_nil))) pa_nil)))))))))))))), ?_⟩
    refine ⟨_, rfl, B, L, rfl, hb, fun H1 vw ws s1 b1 hw lw bw => ?_⟩
    refine ⟨by show 3 ≤ sizeLine; decide, fun e1 ne1 => ?_⟩
    obtain ⟨ne1B, ne1L⟩ := b1.nb ne1
    have s2 := sameNew (o := .lst [.str "x", .str "", .str "0 up"]) (Same.refl H1) ne1
    have he1 : upd H1 e1 (.lst [.str "x", .str "", .str "0 up"]) e1 = some (.lst [.str "x", .str "", .str "0 up"]) := upd_same
    generalize upd H1 e1 (.lst [.str "x", .str "", .str "0 up"]) = H2 at s2 he1 ⊢
    refine ⟨_, rfl, B, L, 3, rfl, b1.same s2, by decide, by decide, fun H3 tx s3 b3 t0 t3 => ?_⟩
    obtain ⟨txt, etx⟩ : ∃ s : Str, atI [V.str "x", .str "", .str "0 up"] tx = some (.str s) := by
      rcases (by omega : tx = 0 ∨ tx = 1 ∨ tx = 2) with e | e | e <;> subst e
      all_goals exact ⟨_, rfl⟩
    refine ⟨e1, _, tx, _, rfl, rfl, SqL.of (s3 _ _ ne1B ne1L he1), etx, by show 2 ≤ sizeLine; decide, fun tt ntt => ?_⟩
    have s4 := sameNew (o := .tup [vw, .str txt]) (Same.refl H3) ntt
    have htt : upd H3 tt (.tup [vw, .str txt]) tt = some (.tup [vw, .str txt]) := upd_same
    generalize upd H3 tt (.tup [vw, .str txt]) = H4 at s4 htt ⊢
    refine ⟨tt, _, rfl, SqT.of htt, rfl, _, _, rfl, _, _, rfl, rfl, ?_⟩
    have x13 := (SameX.of s2).trans s3
    have x14 : SameX B L H H4 := (s1.trans x13).trans (SameX.of s4)
    have b4 := b3.same s4
    have hw4 : Dp K H4 vw (wordsD ws) := dp_same s4 _ (dp_x b1 x13 _ (words_noL ws) hw)
    have tb4 := tab_x2 hb x14 tb
    have tG4 := tabS_x hb x14 tG
    have fr4 : FrG B L pG H H4 := .x x14
    dsimp only [gName, List.set]
    refine ⟨tG4, fun af0 aA0 ae0 ax0 at0 ai0 an0 => ⟨at0, fun af1 aA1 ae1 ax1 at1 ai1 an1 => ⟨at1, fun af2 aA2 ae2 ax2 at2 ai2 an2 => ⟨by show 3 ≤ sizeLine; decide, fun aW0 naW0 => ?_⟩⟩⟩⟩
    have saW0 := sameNew (o := .lst [.ref af0, .ref af1, .ref af2]) (Same.refl aA2) naW0
    have haW0 : upd aA2 aW0 (.lst [.ref af0, .ref af1, .ref af2]) aW0 = some (.lst [.ref af0, .ref af1, .ref af2]) := upd_same
    generalize upd aA2 aW0 (.lst [.ref af0, .ref af1, .ref af2]) = aHaW0 at saW0 haW0 ⊢
    refine ⟨_, rfl, (at2.ext saW0), fun af3 aA3 ae3 ax3 at3 ai3 an3 => ⟨at3, fun af4 aA4 ae4 ax4 at4 ai4 an4 => ⟨by show 2 ≤ sizeLine; decide, fun aW1 naW1 => ?_⟩⟩⟩
    have saW1 := sameNew (o := .lst [.ref af3, .ref af4]) (Same.refl aA4) naW1
    have haW1 : upd aA4 aW1 (.lst [.ref af3, .ref af4]) aW1 = some (.lst [.ref af3, .ref af4]) := upd_same
    generalize upd aA4 aW1 (.lst [.ref af3, .ref af4]) = aHaW1 at saW1 haW1 ⊢
    have gaW1 := (ae3.trans (ae4.trans (LamX.ExtN.of saW1))) _ _ haW0 (fun ps z => nomatch z)
    refine cat_any2 gaW1 haW1 (by show 3 + 2 ≤ sizeLine; decide) fun aW1c aHaW1c saW1c naW1c haW1c => ?_
    refine ⟨_, rfl, ((at4.ext saW1).ext saW1c), fun af5 aA5 ae5 ax5 at5 ai5 an5 => ⟨at5, fun af6 aA6 ae6 ax6 at6 ai6 an6 => ⟨by show 2 ≤ sizeLine; decide, fun aW2 naW2 => ?_⟩⟩⟩
    have saW2 := sameNew (o := .lst [.ref af5, .ref af6]) (Same.refl aA6) naW2
    have haW2 : upd aA6 aW2 (.lst [.ref af5, .ref af6]) aW2 = some (.lst [.ref af5, .ref af6]) := upd_same
    generalize upd aA6 aW2 (.lst [.ref af5, .ref af6]) = aHaW2 at saW2 haW2 ⊢
    have gaW2 := (ae5.trans (ae6.trans (LamX.ExtN.of saW2))) _ _ haW1c (fun ps z => nomatch z)
    refine cat_any2 gaW2 haW2 (by show 5 + 2 ≤ sizeLine; decide) fun aW2c aHaW2c saW2c naW2c haW2c => ?_
    refine ⟨_, rfl, by show 2 ≤ sizeLine; decide, fun aTT naTT => ?_⟩
    have saTT := sameNew (o := .tup [.str "BadKinds", .int 0]) (Same.refl aHaW2c) naTT
    have haTT : upd aHaW2c aTT (.tup [.str "BadKinds", .int 0]) aTT = some (.tup [.str "BadKinds", .int 0]) := upd_same
    generalize upd aHaW2c aTT (.tup [.str "BadKinds", .int 0]) = aH at saTT haTT ⊢
    intro aGp ca
    have aeF : LamX.ExtN H4 aH := (ae0.trans (ae1.trans (ae2.trans ((LamX.ExtN.of saW0).trans (ae3.trans (ae4.trans ((LamX.ExtN.of saW1).trans ((LamX.ExtN.of saW1c).trans (ae5.trans (ae6.trans ((LamX.ExtN.of saW2).trans ((LamX.ExtN.of saW2c).trans (LamX.ExtN.of saTT)))))))))))))
    have gD2 : ∀ {Hx : Hp}, Same aH Hx → Tab Hx p ∧ Dp K Hx vw (wordsD ws) := fun {Hx} s => ⟨s _ _ (tab_ext2 aeF tb4), dp_same s _ (dp_ext2 aeF hw4)⟩
    have ahW := (LamX.ExtN.of saTT) _ _ haW2c (fun ps z => nomatch z)
    refine ⟨aW2c, [af0, af1, af2, af3, af4, af5, af6], .ref aTT, .tuple [.str "BadKinds", .int 0], rfl, ca.some ahW, by show 7 ≤ 20; decide, .tup (SqT.of (ca.some haTT)) (.cons (.str _) (.cons (.int _) .nil)), by simp [few, fews], by simp [PyData.depth, PyData.depthAll], fun g hg => ?_, fun aZ asZ => ?_⟩
    · simp only [List.mem_cons, List.not_mem_nil, or_false] at hg
      rcases hg with rfl | rfl | rfl | rfl | rfl | rfl | rfl
      · refine works_pl eK rfl ca (LamX.lamS_by (sc := defScope s__law_heads_right) (by decide +kernel)) (ai0.ext (ae1.trans (ae2.trans ((LamX.ExtN.of saW0).trans (ae3.trans (ae4.trans ((LamX.ExtN.of saW1).trans ((LamX.ExtN.of saW1c).trans (ae5.trans (ae6.trans ((LamX.ExtN.of saW2).trans ((LamX.ExtN.of saW2c).trans (LamX.ExtN.of saTT))))))))))))) (fun _ _ _ _ _ => rfl) (fun A outer s H E c' hr' => pe_mk C.sv hr' (by decide) (by rfl) (passes_call (takes_of rfl rfl rfl rfl) fun _ _ _ _ h => h) (pa_cons (pv 3) (pa_cons (pe_lst pa_nil) pa_nil))) fun Hx E Q sx q => ?_
        have gx := gD2 sx
        refine ⟨_, rfl, by show 0 ≤ sizeLine; decide, fun u0 nu0 => ?_⟩
        have su0 := sameNew (o := .lst []) (Same.refl Hx) nu0
        have hu0 : upd Hx u0 (.lst []) u0 = some (.lst []) := upd_same
        generalize upd Hx u0 (.lst []) = Hu0 at su0 hu0 ⊢
        refine fun x dx hx hdx ndx => ?_
        refine ⟨x, _, _, rfl, head_same ?_ gx.1 (.inl ⟨ws, gx.2, by omega, bw, q⟩)⟩
        exact fun b o e => by have e2 := su0 b o e; rw [upd_ne (ne_of_none e2 hx), upd_ne (ne_of_none e2 hdx)]; exact e2
      · refine works_plD eK rfl ca (lamSD_by (N := N2H) (sc := defScope s__law_heads_right) (p := "_law_a") (by decide +kernel)) (ai1.ext (ae2.trans ((LamX.ExtN.of saW0).trans (ae3.trans (ae4.trans ((LamX.ExtN.of saW1).trans ((LamX.ExtN.of saW1c).trans (ae5.trans (ae6.trans ((LamX.ExtN.of saW2).trans ((LamX.ExtN.of saW2c).trans (LamX.ExtN.of saTT)))))))))))) (fun s q cl T0 u doc pm cv ctv h => BindsTo.of_defaults rfl h rfl rfl rfl) (fun A outer s H E c' hr' => pe_c C.fi hr' (by decide) (by rfl) (passes_call (takes_of rfl rfl rfl rfl) fun _ _ _ _ h => h) (pa_cons (pv 3) (pa_cons (pe_lst pa_nil) (pa_cons pe_int (pa_cons (pe_lst (pa_cons (pe_tup pa_nil) pa_nil)) pa_nil))))) fun Hx E Q sx q => ?_
        have gx := gD2 sx
        refine ⟨_, rfl, by show 0 ≤ sizeLine; decide, fun u0 nu0 => ?_⟩
        have su0 := sameNew (o := .lst []) (Same.refl Hx) nu0
        have hu0 : upd Hx u0 (.lst []) u0 = some (.lst []) := upd_same
        generalize upd Hx u0 (.lst []) = Hu0 at su0 hu0 ⊢
        refine ⟨by show 0 ≤ sizeLine; decide, fun u1 nu1 => ?_⟩
        have su1 := sameNew (o := .tup []) (Same.refl Hu0) nu1
        have hu1 : upd Hu0 u1 (.tup []) u1 = some (.tup []) := upd_same
        generalize upd Hu0 u1 (.tup []) = Hu1 at su1 hu1 ⊢
        refine ⟨by show 1 ≤ sizeLine; decide, fun u2 nu2 => ?_⟩
        have su2 := sameNew (o := .lst [.ref u1]) (Same.refl Hu1) nu2
        have hu2 : upd Hu1 u2 (.lst [.ref u1]) u2 = some (.lst [.ref u1]) := upd_same
        generalize upd Hu1 u2 (.lst [.ref u1]) = Hu2 at su2 hu2 ⊢
        exact ⟨_, _, [_, _], rfl, rfl, head_same ((su0.trans su1).trans su2) gx.1 (.inl ⟨ws, gx.2, by omega, bw, q⟩)⟩
      · refine works_plD eK rfl ca (lamSD_by (N := N2H) (sc := defScope s__law_heads_right) (p := "_law_b") (by decide +kernel)) (ai2.ext ((LamX.ExtN.of saW0).trans (ae3.trans (ae4.trans ((LamX.ExtN.of saW1).trans ((LamX.ExtN.of saW1c).trans (ae5.trans (ae6.trans ((LamX.ExtN.of saW2).trans ((LamX.ExtN.of saW2c).trans (LamX.ExtN.of saTT))))))))))) (fun s q cl T0 u doc pm cv ctv h => BindsTo.of_defaults rfl h rfl rfl rfl) (fun A outer s H E c' hr' => pe_c C.ex hr' (by decide) (by rfl) (passes_call (takes_of rfl rfl rfl rfl) fun _ _ _ _ h => h) (pa_cons (pv 3) (pa_cons (pe_lst pa_nil) (pa_cons pe_int (pa_cons (pe_lst (pa_cons (pe_tup pa_nil) pa_nil)) pa_nil))))) fun Hx E Q sx q => ?_
        have gx := gD2 sx
        refine ⟨_, rfl, by show 0 ≤ sizeLine; decide, fun u0 nu0 => ?_⟩
        have su0 := sameNew (o := .lst []) (Same.refl Hx) nu0
        have hu0 : upd Hx u0 (.lst []) u0 = some (.lst []) := upd_same
        generalize upd Hx u0 (.lst []) = Hu0 at su0 hu0 ⊢
        refine ⟨by show 0 ≤ sizeLine; decide, fun u1 nu1 => ?_⟩
        have su1 := sameNew (o := .tup []) (Same.refl Hu0) nu1
        have hu1 : upd Hu0 u1 (.tup []) u1 = some (.tup []) := upd_same
        generalize upd Hu0 u1 (.tup []) = Hu1 at su1 hu1 ⊢
        refine ⟨by show 1 ≤ sizeLine; decide, fun u2 nu2 => ?_⟩
        have su2 := sameNew (o := .lst [.ref u1]) (Same.refl Hu1) nu2
        have hu2 : upd Hu1 u2 (.lst [.ref u1]) u2 = some (.lst [.ref u1]) := upd_same
        generalize upd Hu1 u2 (.lst [.ref u1]) = Hu2 at su2 hu2 ⊢
        exact ⟨_, _, [_, _], rfl, rfl, head_same ((su0.trans su1).trans su2) gx.1 (.inl ⟨ws, gx.2, by omega, bw, q⟩)⟩
      · refine works_plD eK rfl ca (lamSD_by (N := N2H) (sc := defScope s__law_heads_right) (p := "_law_c") (by decide +kernel)) (ai3.ext (ae4.trans ((LamX.ExtN.of saW1).trans ((LamX.ExtN.of saW1c).trans (ae5.trans (ae6.trans ((LamX.ExtN.of saW2).trans ((LamX.ExtN.of saW2c).trans (LamX.ExtN.of saTT))))))))) (fun s q cl T0 u doc pm cv ctv h => BindsTo.of_defaults rfl h rfl rfl rfl) (fun A outer s H E c' hr' => pe_c C.me hr' (by decide) (by rfl) (passes_call (takes_of rfl rfl rfl rfl) fun _ _ _ _ h => h) (pa_cons (pv 3) (pa_cons (pe_lst pa_nil) (pa_cons (pe_lst (pa_cons (pe_lst (pa_cons (pe_tup pa_nil) pa_nil)) pa_nil)) pa_nil)))) fun Hx E Q sx q => ?_
        have gx := gD2 sx
        refine ⟨_, rfl, by show 0 ≤ sizeLine; decide, fun u0 nu0 => ?_⟩
        have su0 := sameNew (o := .lst []) (Same.refl Hx) nu0
        have hu0 : upd Hx u0 (.lst []) u0 = some (.lst []) := upd_same
        generalize upd Hx u0 (.lst []) = Hu0 at su0 hu0 ⊢
        refine ⟨by show 0 ≤ sizeLine; decide, fun u1 nu1 => ?_⟩
        have su1 := sameNew (o := .tup []) (Same.refl Hu0) nu1
        have hu1 : upd Hu0 u1 (.tup []) u1 = some (.tup []) := upd_same
        generalize upd Hu0 u1 (.tup []) = Hu1 at su1 hu1 ⊢
        refine ⟨by show 1 ≤ sizeLine; decide, fun u2 nu2 => ?_⟩
        have su2 := sameNew (o := .lst [.ref u1]) (Same.refl Hu1) nu2
        have hu2 : upd Hu1 u2 (.lst [.ref u1]) u2 = some (.lst [.ref u1]) := upd_same
        generalize upd Hu1 u2 (.lst [.ref u1]) = Hu2 at su2 hu2 ⊢
        refine ⟨by show 1 ≤ sizeLine; decide, fun u3 nu3 => ?_⟩
        have su3 := sameNew (o := .lst [.ref u2]) (Same.refl Hu2) nu3
        have hu3 : upd Hu2 u3 (.lst [.ref u2]) u3 = some (.lst [.ref u2]) := upd_same
        generalize upd Hu2 u3 (.lst [.ref u2]) = Hu3 at su3 hu3 ⊢
        exact ⟨_, _, [_], rfl, rfl, head_same (((su0.trans su1).trans su2).trans su3) gx.1 (.inl ⟨ws, gx.2, by omega, bw, q⟩)⟩
      · refine works_plD eK rfl ca (lamSD_by (N := N2H) (sc := defScope s__law_heads_right) (p := "_law_d") (by decide +kernel)) (ai4.ext ((LamX.ExtN.of saW1).trans ((LamX.ExtN.of saW1c).trans (ae5.trans (ae6.trans ((LamX.ExtN.of saW2).trans ((LamX.ExtN.of saW2c).trans (LamX.ExtN.of saTT)))))))) (fun s q cl T0 u doc pm cv ctv h => BindsTo.of_defaults rfl h rfl rfl rfl) (fun A outer s H E c' hr' => pe_mk C.so hr' (by decide) (by rfl) (passes_call (takes_of rfl rfl rfl rfl) fun _ _ _ _ h => h) (pa_cons (pe_mk0 C.dk hr' (by decide) (by rfl) pass0) (pa_cons (pv 3) (pa_cons (pe_lst pa_nil) (pa_cons pe_int (pa_cons pe_int (pa_cons pe_int pa_nil))))))) fun Hx E Q sx q => ?_
        have gx := gD2 sx
        refine fun y dy hy hdy ndy => ⟨y, dy, rfl, upd_same, fun Hd dA fd => ⟨rfl, ?_⟩⟩
        have sd : Same Hx Hd := fun b o e => fd b o (by rw [upd_ne (ne_of_none e hy), upd_ne (ne_of_none e hdy)]; exact e) (ne_of_none e hy)
        refine ⟨_, rfl, by show 0 ≤ sizeLine; decide, fun u0 nu0 => ?_⟩
        have su0 := sameNew (o := .lst []) (Same.refl Hd) nu0
        have hu0 : upd Hd u0 (.lst []) u0 = some (.lst []) := upd_same
        generalize upd Hd u0 (.lst []) = Hu0 at su0 hu0 ⊢
        refine fun x dx hx hdx ndx => ?_
        refine ⟨x, y, _, _, _, _, _, rfl, (dA.same su0).same ?_, head_same ?_ gx.1 (.inl ⟨ws, gx.2, by omega, bw, q⟩)⟩
        all_goals exact fun b o e => by first | (rw [upd_ne (ne_of_none e hx), upd_ne (ne_of_none e hdx)]; exact e) | (have e2 := su0 _ _ (sd _ _ e); rw [upd_ne (ne_of_none e2 hx), upd_ne (ne_of_none e2 hdx)]; exact e2)
      · refine works_plD eK rfl ca (lamSD_by (N := N2H) (sc := defScope s__law_heads_right) (p := "_law_f") (by decide +kernel)) (ai5.ext (ae6.trans ((LamX.ExtN.of saW2).trans ((LamX.ExtN.of saW2c).trans (LamX.ExtN.of saTT))))) (fun s q cl T0 u doc pm cv ctv h => BindsTo.of_defaults rfl h rfl rfl rfl) (fun A outer s H E c' hr' => pe_c C.wo hr' (by decide) (by rfl) (passes_call (takes_of rfl rfl rfl rfl) fun _ _ _ _ h => h) (pa_cons (pv 3) (pa_cons (pe_lst pa_nil) pa_nil))) fun Hx E Q sx q => ?_
        have gx := gD2 sx
        refine ⟨_, rfl, by show 0 ≤ sizeLine; decide, fun u0 nu0 => ?_⟩
        have su0 := sameNew (o := .lst []) (Same.refl Hx) nu0
        have hu0 : upd Hx u0 (.lst []) u0 = some (.lst []) := upd_same
        generalize upd Hx u0 (.lst []) = Hu0 at su0 hu0 ⊢
        exact ⟨_, _, [], rfl, rfl, head_same su0 gx.1 (.inl ⟨ws, gx.2, by omega, bw, q⟩)⟩
      · refine works_plD eK rfl ca (lamSD_by (N := N2H) (sc := defScope s__law_heads_right) (p := "_law_g") (by decide +kernel)) (ai6.ext ((LamX.ExtN.of saW2).trans ((LamX.ExtN.of saW2c).trans (LamX.ExtN.of saTT)))) (fun s q cl T0 u doc pm cv ctv h => BindsTo.of_defaults rfl h rfl rfl rfl) (fun A outer s H E c' hr' => pe_c C.ro hr' (by decide) (by rfl) (passes_call (takes_of rfl rfl rfl rfl) fun _ _ _ _ h => h) (pa_cons (pv 3) (pa_cons (pv 4) pa_nil))) fun Hx E Q sx q => ?_
        have gx := gD2 sx
        exact ⟨_, rfl, _, rfl, _, _, ws, rfl, gx.2, by omega, bw, gx.1, q _ (Same.refl Hx)⟩
    have asf := caught_same ca asZ
    refine ⟨_, rfl, iteF ?_⟩
    have aeZ := aeF.trans (LamX.ExtN.of asf)
    have atZ := (((at6.ext saW2).ext saW2c).ext saTT).ext asf
    have afrZ : FrG B L pG H4 _ := ((FrG.t ax0).trans (((FrG.t ax1).trans (((FrG.t ax2).trans (((FrG.of saW0).trans (((FrG.t ax3).trans (((FrG.t ax4).trans (((FrG.of saW1).trans (((FrG.of saW1c).trans (((FrG.t ax5).trans (((FrG.t ax6).trans (((FrG.of saW2).trans (((FrG.of saW2c).trans (FrG.of saTT)))))))))))))))))))))))).trans (FrG.of asf)
    generalize off _ aZ = aHZ at asf aeZ atZ afrZ ⊢
    clear ca
    have bZ := box_ext2 b4 aeZ
    have hkZ : Dp K aHZ vk (kindsD ks) := dp_ext2 aeZ (dp_x hb x14 _ (kinds_noL ks) hk)
    have hOZ := aeZ _ _ (x14 _ _ nOB nOL hO) (fun ps z => nomatch z)
    have hIZ := dpAll_ext2 aeZ (dpAll_x hb x14 _ (parts_noL os) hI)
    have tbZ := tab_ext2 aeZ tb4
    have frZ := fr4.trans afrZ
    refine ⟨_, rfl, _, rfl, _, rfl, B, L, O, vk, ks, os, xs, rfl, bZ, hkZ, k1, k4, nOB, nOL, hOZ, hIZ, oko, l4, fun H5 vo ods s5 b5 hod nod nvo lod bd => ?_⟩
    have hk5 := dp_x bZ s5 _ (kinds_noL ks) hkZ
    have tb5 := tab_x2 bZ s5 tbZ
    have tG5 := tabS_x bZ s5 atZ
    have fr5 := frZ.trans (FrG.x (p := pG) s5)
    dsimp only [gName, List.set]
    refine ⟨tG5, fun bf0 bA0 be0 bx0 bt0 bi0 bn0 => ⟨bt0, fun bf1 bA1 be1 bx1 bt1 bi1 bn1 => ⟨by show 2 ≤ sizeLine; decide, fun bW0 nbW0 => ?_⟩⟩⟩
    have sbW0 := sameNew (o := .lst [.ref bf0, .ref bf1]) (Same.refl bA1) nbW0
    have hbW0 : upd bA1 bW0 (.lst [.ref bf0, .ref bf1]) bW0 = some (.lst [.ref bf0, .ref bf1]) := upd_same
    generalize upd bA1 bW0 (.lst [.ref bf0, .ref bf1]) = bHbW0 at sbW0 hbW0 ⊢
    refine ⟨_, rfl, (bt1.ext sbW0), fun bf2 bA2 be2 bx2 bt2 bi2 bn2 => ⟨bt2, fun bf3 bA3 be3 bx3 bt3 bi3 bn3 => ⟨by show 2 ≤ sizeLine; decide, fun bW1 nbW1 => ?_⟩⟩⟩
    have sbW1 := sameNew (o := .lst [.ref bf2, .ref bf3]) (Same.refl bA3) nbW1
    have hbW1 : upd bA3 bW1 (.lst [.ref bf2, .ref bf3]) bW1 = some (.lst [.ref bf2, .ref bf3]) := upd_same
    generalize upd bA3 bW1 (.lst [.ref bf2, .ref bf3]) = bHbW1 at sbW1 hbW1 ⊢
    have gbW1 := (be2.trans (be3.trans (LamX.ExtN.of sbW1))) _ _ hbW0 (fun ps z => nomatch z)
    refine cat_any2 gbW1 hbW1 (by show 2 + 2 ≤ sizeLine; decide) fun bW1c bHbW1c sbW1c nbW1c hbW1c => ?_
    refine ⟨_, rfl, ((bt3.ext sbW1).ext sbW1c), fun bf4 bA4 be4 bx4 bt4 bi4 bn4 => ⟨bt4, fun bf5 bA5 be5 bx5 bt5 bi5 bn5 => ⟨by show 2 ≤ sizeLine; decide, fun bW2 nbW2 => ?_⟩⟩⟩
    have sbW2 := sameNew (o := .lst [.ref bf4, .ref bf5]) (Same.refl bA5) nbW2
    have hbW2 : upd bA5 bW2 (.lst [.ref bf4, .ref bf5]) bW2 = some (.lst [.ref bf4, .ref bf5]) := upd_same
    generalize upd bA5 bW2 (.lst [.ref bf4, .ref bf5]) = bHbW2 at sbW2 hbW2 ⊢
    have gbW2 := (be4.trans (be5.trans (LamX.ExtN.of sbW2))) _ _ hbW1c (fun ps z => nomatch z)
    refine cat_any2 gbW2 hbW2 (by show 4 + 2 ≤ sizeLine; decide) fun bW2c bHbW2c sbW2c nbW2c hbW2c => ?_
    refine ⟨_, rfl, by show 2 ≤ sizeLine; decide, fun bTT nbTT => ?_⟩
    have sbTT := sameNew (o := .tup [.str "BadOrder", .int 0]) (Same.refl bHbW2c) nbTT
    have hbTT : upd bHbW2c bTT (.tup [.str "BadOrder", .int 0]) bTT = some (.tup [.str "BadOrder", .int 0]) := upd_same
    generalize upd bHbW2c bTT (.tup [.str "BadOrder", .int 0]) = bH at sbTT hbTT ⊢
    intro bGp ca
    have beF : LamX.ExtN H5 bH := (be0.trans (be1.trans ((LamX.ExtN.of sbW0).trans (be2.trans (be3.trans ((LamX.ExtN.of sbW1).trans ((LamX.ExtN.of sbW1c).trans (be4.trans (be5.trans ((LamX.ExtN.of sbW2).trans ((LamX.ExtN.of sbW2c).trans (LamX.ExtN.of sbTT))))))))))))
    have gD2 : ∀ {Hx : Hp}, Same bH Hx → Tab Hx p ∧ Dp K Hx vk (kindsD ks) ∧ Dp K Hx vo (rowsD ods) := fun {Hx} s => ⟨s _ _ (tab_ext2 beF tb5), dp_same s _ (dp_ext2 beF hk5), dp_same s _ (dp_ext2 beF hod)⟩
    have bhW := (LamX.ExtN.of sbTT) _ _ hbW2c (fun ps z => nomatch z)
    refine ⟨bW2c, [bf0, bf1, bf2, bf3, bf4, bf5], .ref bTT, .tuple [.str "BadOrder", .int 0], rfl, ca.some bhW, by show 6 ≤ 20; decide, .tup (SqT.of (ca.some hbTT)) (.cons (.str _) (.cons (.int _) .nil)), by simp [few, fews], by simp [PyData.depth, PyData.depthAll], fun g hg => ?_, fun bZ bsZ => ?_⟩
    · simp only [List.mem_cons, List.not_mem_nil, or_false] at hg
      rcases hg with rfl | rfl | rfl | rfl | rfl | rfl
      · refine works_pl eO rfl ca (LamX.lamS_by (sc := defScope s__law_heads_right) (by decide +kernel)) (bi0.ext (be1.trans ((LamX.ExtN.of sbW0).trans (be2.trans (be3.trans ((LamX.ExtN.of sbW1).trans ((LamX.ExtN.of sbW1c).trans (be4.trans (be5.trans ((LamX.ExtN.of sbW2).trans ((LamX.ExtN.of sbW2c).trans (LamX.ExtN.of sbTT)))))))))))) (fun _ _ _ _ _ => rfl) (fun A outer s H E c' hr' => pe_mk C.sv hr' (by decide) (by rfl) (passes_call (takes_of rfl rfl rfl rfl) fun _ _ _ _ h => h) (pa_cons (pv 1) (pa_cons (pv 6) pa_nil))) fun Hx E Q sx q => ?_
        have gx := gD2 sx
        refine ⟨_, rfl, _, rfl, fun x dx hx hdx ndx => ?_⟩
        refine ⟨x, _, _, rfl, head_same ?_ gx.1 (.inr ⟨ks, ods, gx.2.1, k1, k4, gx.2.2, by omega, bd, q⟩)⟩
        exact fun b o e => by have e2 := (Same.refl Hx) b o e; rw [upd_ne (ne_of_none e2 hx), upd_ne (ne_of_none e2 hdx)]; exact e2
      · refine works_plD eO rfl ca (lamSD_by (N := N2H) (sc := defScope s__law_heads_right) (p := "_law_a") (by decide +kernel)) (bi1.ext ((LamX.ExtN.of sbW0).trans (be2.trans (be3.trans ((LamX.ExtN.of sbW1).trans ((LamX.ExtN.of sbW1c).trans (be4.trans (be5.trans ((LamX.ExtN.of sbW2).trans ((LamX.ExtN.of sbW2c).trans (LamX.ExtN.of sbTT))))))))))) (fun s q cl T0 u doc pm cv ctv h => BindsTo.of_defaults rfl h rfl rfl rfl) (fun A outer s H E c' hr' => pe_c C.fi hr' (by decide) (by rfl) (passes_call (takes_of rfl rfl rfl rfl) fun _ _ _ _ h => h) (pa_cons (pv 1) (pa_cons (pv 6) (pa_cons pe_int (pa_cons (pe_lst (pa_cons (pe_tup pa_nil) pa_nil)) pa_nil))))) fun Hx E Q sx q => ?_
        have gx := gD2 sx
        refine ⟨_, rfl, _, rfl, by show 0 ≤ sizeLine; decide, fun u0 nu0 => ?_⟩
        have su0 := sameNew (o := .tup []) (Same.refl Hx) nu0
        have hu0 : upd Hx u0 (.tup []) u0 = some (.tup []) := upd_same
        generalize upd Hx u0 (.tup []) = Hu0 at su0 hu0 ⊢
        refine ⟨by show 1 ≤ sizeLine; decide, fun u1 nu1 => ?_⟩
        have su1 := sameNew (o := .lst [.ref u0]) (Same.refl Hu0) nu1
        have hu1 : upd Hu0 u1 (.lst [.ref u0]) u1 = some (.lst [.ref u0]) := upd_same
        generalize upd Hu0 u1 (.lst [.ref u0]) = Hu1 at su1 hu1 ⊢
        exact ⟨_, _, [_, _], rfl, rfl, head_same (su0.trans su1) gx.1 (.inr ⟨ks, ods, gx.2.1, k1, k4, gx.2.2, by omega, bd, q⟩)⟩
      · refine works_plD eO rfl ca (lamSD_by (N := N2H) (sc := defScope s__law_heads_right) (p := "_law_b") (by decide +kernel)) (bi2.ext (be3.trans ((LamX.ExtN.of sbW1).trans ((LamX.ExtN.of sbW1c).trans (be4.trans (be5.trans ((LamX.ExtN.of sbW2).trans ((LamX.ExtN.of sbW2c).trans (LamX.ExtN.of sbTT))))))))) (fun s q cl T0 u doc pm cv ctv h => BindsTo.of_defaults rfl h rfl rfl rfl) (fun A outer s H E c' hr' => pe_c C.ex hr' (by decide) (by rfl) (passes_call (takes_of rfl rfl rfl rfl) fun _ _ _ _ h => h) (pa_cons (pv 1) (pa_cons (pv 6) (pa_cons pe_int (pa_cons (pe_lst (pa_cons (pe_tup pa_nil) pa_nil)) pa_nil))))) fun Hx E Q sx q => ?_
        have gx := gD2 sx
        refine ⟨_, rfl, _, rfl, by show 0 ≤ sizeLine; decide, fun u0 nu0 => ?_⟩
        have su0 := sameNew (o := .tup []) (Same.refl Hx) nu0
        have hu0 : upd Hx u0 (.tup []) u0 = some (.tup []) := upd_same
        generalize upd Hx u0 (.tup []) = Hu0 at su0 hu0 ⊢
        refine ⟨by show 1 ≤ sizeLine; decide, fun u1 nu1 => ?_⟩
        have su1 := sameNew (o := .lst [.ref u0]) (Same.refl Hu0) nu1
        have hu1 : upd Hu0 u1 (.lst [.ref u0]) u1 = some (.lst [.ref u0]) := upd_same
        generalize upd Hu0 u1 (.lst [.ref u0]) = Hu1 at su1 hu1 ⊢
        exact ⟨_, _, [_, _], rfl, rfl, head_same (su0.trans su1) gx.1 (.inr ⟨ks, ods, gx.2.1, k1, k4, gx.2.2, by omega, bd, q⟩)⟩
      · refine works_plD eO rfl ca (lamSD_by (N := N2H) (sc := defScope s__law_heads_right) (p := "_law_c") (by decide +kernel)) (bi3.ext ((LamX.ExtN.of sbW1).trans ((LamX.ExtN.of sbW1c).trans (be4.trans (be5.trans ((LamX.ExtN.of sbW2).trans ((LamX.ExtN.of sbW2c).trans (LamX.ExtN.of sbTT)))))))) (fun s q cl T0 u doc pm cv ctv h => BindsTo.of_defaults rfl h rfl rfl rfl) (fun A outer s H E c' hr' => pe_c C.me hr' (by decide) (by rfl) (passes_call (takes_of rfl rfl rfl rfl) fun _ _ _ _ h => h) (pa_cons (pv 1) (pa_cons (pv 6) (pa_cons (pe_lst (pa_cons (pe_lst (pa_cons (pe_tup pa_nil) pa_nil)) pa_nil)) pa_nil)))) fun Hx E Q sx q => ?_
        have gx := gD2 sx
        refine ⟨_, rfl, _, rfl, by show 0 ≤ sizeLine; decide, fun u0 nu0 => ?_⟩
        have su0 := sameNew (o := .tup []) (Same.refl Hx) nu0
        have hu0 : upd Hx u0 (.tup []) u0 = some (.tup []) := upd_same
        generalize upd Hx u0 (.tup []) = Hu0 at su0 hu0 ⊢
        refine ⟨by show 1 ≤ sizeLine; decide, fun u1 nu1 => ?_⟩
        have su1 := sameNew (o := .lst [.ref u0]) (Same.refl Hu0) nu1
        have hu1 : upd Hu0 u1 (.lst [.ref u0]) u1 = some (.lst [.ref u0]) := upd_same
        generalize upd Hu0 u1 (.lst [.ref u0]) = Hu1 at su1 hu1 ⊢
        refine ⟨by show 1 ≤ sizeLine; decide, fun u2 nu2 => ?_⟩
        have su2 := sameNew (o := .lst [.ref u1]) (Same.refl Hu1) nu2
        have hu2 : upd Hu1 u2 (.lst [.ref u1]) u2 = some (.lst [.ref u1]) := upd_same
        generalize upd Hu1 u2 (.lst [.ref u1]) = Hu2 at su2 hu2 ⊢
        exact ⟨_, _, [_], rfl, rfl, head_same ((su0.trans su1).trans su2) gx.1 (.inr ⟨ks, ods, gx.2.1, k1, k4, gx.2.2, by omega, bd, q⟩)⟩
      · refine works_plD eO rfl ca (lamSD_by (N := N2H) (sc := defScope s__law_heads_right) (p := "_law_d") (by decide +kernel)) (bi4.ext (be5.trans ((LamX.ExtN.of sbW2).trans ((LamX.ExtN.of sbW2c).trans (LamX.ExtN.of sbTT))))) (fun s q cl T0 u doc pm cv ctv h => BindsTo.of_defaults rfl h rfl rfl rfl) (fun A outer s H E c' hr' => pe_mk C.so hr' (by decide) (by rfl) (passes_call (takes_of rfl rfl rfl rfl) fun _ _ _ _ h => h) (pa_cons (pe_mk0 C.dk hr' (by decide) (by rfl) pass0) (pa_cons (pv 1) (pa_cons (pv 6) (pa_cons pe_int (pa_cons pe_int (pa_cons pe_int pa_nil))))))) fun Hx E Q sx q => ?_
        have gx := gD2 sx
        refine fun y dy hy hdy ndy => ⟨y, dy, rfl, upd_same, fun Hd dA fd => ⟨rfl, ?_⟩⟩
        have sd : Same Hx Hd := fun b o e => fd b o (by rw [upd_ne (ne_of_none e hy), upd_ne (ne_of_none e hdy)]; exact e) (ne_of_none e hy)
        refine ⟨_, rfl, _, rfl, fun x dx hx hdx ndx => ?_⟩
        refine ⟨x, y, _, _, _, _, _, rfl, dA.same ?_, head_same ?_ gx.1 (.inr ⟨ks, ods, gx.2.1, k1, k4, gx.2.2, by omega, bd, q⟩)⟩
        all_goals exact fun b o e => by first | (rw [upd_ne (ne_of_none e hx), upd_ne (ne_of_none e hdx)]; exact e) | (have e2 := sd _ _ e; rw [upd_ne (ne_of_none e2 hx), upd_ne (ne_of_none e2 hdx)]; exact e2)
      · refine works_plD eO rfl ca (lamSD_by (N := N2H) (sc := defScope s__law_heads_right) (p := "_law_f") (by decide +kernel)) (bi5.ext ((LamX.ExtN.of sbW2).trans ((LamX.ExtN.of sbW2c).trans (LamX.ExtN.of sbTT)))) (fun s q cl T0 u doc pm cv ctv h => BindsTo.of_defaults rfl h rfl rfl rfl) (fun A outer s H E c' hr' => pe_c C.wo hr' (by decide) (by rfl) (passes_call (takes_of rfl rfl rfl rfl) fun _ _ _ _ h => h) (pa_cons (pv 1) (pa_cons (pv 6) pa_nil))) fun Hx E Q sx q => ?_
        have gx := gD2 sx
        exact ⟨_, rfl, _, rfl, _, _, [], rfl, rfl, head_same (Same.refl Hx) gx.1 (.inr ⟨ks, ods, gx.2.1, k1, k4, gx.2.2, by omega, bd, q⟩)⟩
    have bsf := caught_same ca bsZ
    have beZ := beF.trans (LamX.ExtN.of bsf)
    have btZ := (((bt5.ext sbW2).ext sbW2c).ext sbTT).ext bsf
    have bfrZ : FrG B L pG H5 _ := ((FrG.t bx0).trans (((FrG.t bx1).trans (((FrG.of sbW0).trans (((FrG.t bx2).trans (((FrG.t bx3).trans (((FrG.of sbW1).trans (((FrG.of sbW1c).trans (((FrG.t bx4).trans (((FrG.t bx5).trans (((FrG.of sbW2).trans (((FrG.of sbW2c).trans (FrG.of sbTT)))))))))))))))))))))).trans (FrG.of bsf)
    exact k _ (fr5.trans bfrZ) (box_ext2 b5 beZ) btZ
end
end RS
set_option Elab.async false
set_option maxRecDepth 100000
set_option maxHeartbeats 4000000
namespace RS
open PySem PySem.Spec PyProof.Rows L2 GX
/-! ### ranks, column by column -/
theorem lex_irr : ∀ l : List Int, HT.lexLt l l = false
  | [] => rfl
  | x :: l => by rw [HT.lexLt_cons, if_pos rfl]; exact lex_irr l
theorem lexLt_app : ∀ (A B X Y : List Int), A.length = B.length → HT.lexLt (A ++ X) (B ++ Y) = if A = B then HT.lexLt X Y else HT.lexLt A B
  | [], [], X, Y, _ => by rw [if_pos rfl]; rfl
  | [], _ :: _, _, _, h => by simp at h
  | _ :: _, [], _, _, h => by simp at h
  | a :: A, b :: B, X, Y, h => by
    rw [List.cons_append, List.cons_append, HT.lexLt_cons, HT.lexLt_cons]
    by_cases e : a = b
    · subst e
      rw [if_pos rfl, if_pos rfl, lexLt_app A B X Y (by simpa using h)]
      by_cases e2 : A = B
      · rw [if_pos e2, if_pos (by rw [e2])]
      · rw [if_neg e2, if_neg (fun z => e2 (List.cons.inj z).2)]
    · rw [if_neg e, if_neg e, if_neg (fun z => e (List.cons.inj z).1)]
def sg (b : Bool) (z : Int) : Int := if b then -z else z
def padL (k : Nat) (l : List Nat) : List Nat := l ++ List.replicate (k - l.length) 32
def padI (b : Bool) (k : Nat) (l : List Nat) : List Int := ((padL k l).map Int.ofNat).map (sg b)
theorem padI_cons (b : Bool) (k : Nat) (x : Nat) (l : List Nat) : padI b (k + 1) (x :: l) = sg b (x : Nat) :: padI b k l := by
  unfold padI padL
  rw [List.length_cons, Nat.add_sub_add_right]
  rfl
theorem padI_nil (b : Bool) (k : Nat) : padI b (k + 1) [] = sg b 32 :: padI b k [] := by
  unfold padI padL
  rfl
theorem sg_lt {b : Bool} {x y : Nat} : decide (sg b (x : Nat) < sg b (y : Nat)) = if b then decide (y < x) else decide (x < y) := by
  cases b
  · show decide ((x : Int) < (y : Int)) = decide (x < y)
    simp
  · show decide (-(x : Int) < -(y : Int)) = decide (y < x)
    congr 1
    simp
theorem sg_inj {b : Bool} {x y : Nat} (h : sg b (x : Nat) = sg b (y : Nat)) : x = y := by
  cases b
  · have h : (x : Int) = (y : Int) := h
    omega
  · have h : -(x : Int) = -(y : Int) := h
    omega
theorem nil_lt (x : Nat) (l : List Nat) : decide (([] : List Nat) < x :: l) = true := by simp
theorem lt_nil (l : List Nat) : decide (l < ([] : List Nat)) = false := by simp
theorem cons_lt (x y : Nat) (l m : List Nat) : decide (x :: l < y :: m) = if x = y then decide (l < m) else decide (x < y) := by
  by_cases e : x = y
  · subst e
    rw [if_pos rfl]
    congr 1
    simp
  · rw [if_neg e]
    congr 1
    rw [List.cons_lt_cons_iff]
    simp [e]
theorem pad_lt (b : Bool) : ∀ (k : Nat) (l m : List Nat), l.length ≤ k → m.length ≤ k → (∀ c ∈ l, 32 < c) → (∀ c ∈ m, 32 < c) → HT.lexLt (padI b k l) (padI b k m) = if b then decide (m < l) else decide (l < m)
  | 0, [], [], _, _, _, _ => by cases b <;> rfl
  | 0, _ :: _, _, h, _, _, _ => by simp at h
  | 0, _, _ :: _, _, h, _, _ => by simp at h
  | k + 1, [], [], _, _, _, _ => by
    rw [lex_irr]
    cases b <;> simp
  | k + 1, [], y :: m, _, _, _, hm => by
    have hy := hm y List.mem_cons_self
    rw [padI_cons, padI_nil, HT.lexLt_cons]
    have ne : ¬ sg b 32 = sg b (y : Nat) := fun z => by
      have := sg_inj (b := b) (x := 32) (y := y) z
      omega
    rw [if_neg ne]
    have := sg_lt (b := b) (x := 32) (y := y)
    rw [nil_lt, lt_nil]
    refine this.trans ?_
    cases b
    · simp [hy]
    · simp
      omega
  | k + 1, x :: l, [], _, _, hl, _ => by
    have hx := hl x List.mem_cons_self
    rw [padI_cons, padI_nil, HT.lexLt_cons]
    have ne : ¬ sg b (x : Nat) = sg b 32 := fun z => by
      have := sg_inj (b := b) (x := x) (y := 32) z
      omega
    rw [if_neg ne]
    have := sg_lt (b := b) (x := x) (y := 32)
    rw [nil_lt, lt_nil]
    refine this.trans ?_
    cases b
    · simp
      omega
    · simp [hx]
  | k + 1, x :: l, y :: m, h1, h2, hl, hm => by
    have ih := pad_lt b k l m (by simpa using h1) (by simpa using h2) (fun c hc => hl c (List.mem_cons_of_mem _ hc)) (fun c hc => hm c (List.mem_cons_of_mem _ hc))
    rw [padI_cons, padI_cons, HT.lexLt_cons, cons_lt, cons_lt]
    by_cases e : x = y
    · subst e
      rw [if_pos rfl, if_pos rfl, if_pos rfl]
      exact ih
    · rw [if_neg (fun z => e (sg_inj z)), if_neg e, if_neg (Ne.symm e)]
      exact sg_lt
theorem lt_total {l m : List Nat} (h : l ≠ m) : l < m ∨ m < l := by
  induction l generalizing m with
  | nil =>
    cases m with
    | nil => exact absurd rfl h
    | cons y m => exact .inl (by simp)
  | cons x l ih =>
    cases m with
    | nil => exact .inr (by simp)
    | cons y m =>
      by_cases e : x = y
      · subst e
        rcases ih (m := m) (fun z => h (by rw [z])) with q | q
        · exact .inl (List.cons_lt_cons_iff.mpr (.inr ⟨rfl, q⟩))
        · exact .inr (List.cons_lt_cons_iff.mpr (.inr ⟨rfl, q⟩))
      · rcases Nat.lt_or_gt_of_ne e with q | q
        · exact .inl (List.cons_lt_cons_iff.mpr (.inl q))
        · exact .inr (List.cons_lt_cons_iff.mpr (.inl q))
theorem pad_ne (b : Bool) {k : Nat} {l m : List Nat} (h1 : l.length ≤ k) (h2 : m.length ≤ k) (hl : ∀ c ∈ l, 32 < c) (hm : ∀ c ∈ m, 32 < c) (ne : l ≠ m) : padI b k l ≠ padI b k m := fun z => by
  have a := pad_lt b k l m h1 h2 hl hm
  have c := pad_lt b k m l h2 h1 hm hl
  rw [z, lex_irr] at a
  rw [z, lex_irr] at c
  rcases lt_total ne with q | q
  · cases b
    · simp [q] at a
    · simp [q] at c
  · cases b
    · simp [q] at c
    · simp [q] at a
end RS
set_option Elab.async false
set_option maxRecDepth 100000
set_option maxHeartbeats 4000000
namespace RS
open PySem PySem.Spec PyProof.Rows L2 GX
def colLt (b : Bool) : PyData → PyData → Bool
  | .int x, .int y => if b then decide (y < x) else decide (x < y)
  | .str x, .str y => if b then decide (y.cps.toList < x.cps.toList) else decide (x.cps.toList < y.cps.toList)
  | _, _ => false
def keyD (b : Bool) (d : PyData) : List Int := (worthsOf d).map (sg b)
theorem sign_gt {c : Nat} (h : signOk c = true) : 32 < c := by
  unfold signOk at h
  rw [Bool.and_eq_true] at h
  have h2 : ¬ ([c] : List Nat) < [97] := by simpa using h.1
  by_cases q : 97 ≤ c
  · omega
  · exact absurd (List.cons_lt_cons_iff.mpr (.inl (by omega))) h2
theorem word_parts {x : Str} (h : isWord (.str x) = true) : x.cps.toList.length ≤ 6 ∧ ∀ c ∈ x.cps.toList, 32 < c := by
  have h' : (decide ((x.length : Int) ≤ 6) && x.cps.toList.all signOk) = true := h
  rw [Bool.and_eq_true] at h'
  have h1 := of_decide_eq_true h'.1
  exact ⟨by rw [len_cps]; omega, fun c hc => sign_gt (List.all_eq_true.mp h'.2 c hc)⟩
theorem sg_injI {b : Bool} {x y : Int} (h : sg b x = sg b y) : x = y := by
  cases b
  · exact h
  · have h : -x = -y := h
    omega
theorem key_lt {kb b : Bool} {m t : PyData} (hm : isVal kb m = true) (ht : isVal kb t = true) (ne : m ≠ t) : (keyD b m).length = (keyD b t).length ∧ keyD b m ≠ keyD b t ∧ HT.lexLt (keyD b m) (keyD b t) = colLt b m t := by
  cases kb with
  | false =>
    obtain ⟨x, rfl⟩ : ∃ n, m = .int n := by
      rcases val_atom hm with ⟨e, _⟩ | ⟨_, q⟩
      · cases e
      · exact q
    obtain ⟨y, rfl⟩ : ∃ n, t = .int n := by
      rcases val_atom ht with ⟨e, _⟩ | ⟨_, q⟩
      · cases e
      · exact q
    have nxy : x ≠ y := fun z => ne (by rw [z])
    have n2 : sg b x ≠ sg b y := fun z => nxy (sg_injI z)
    refine ⟨rfl, fun z => n2 (List.cons.inj z).1, ?_⟩
    show HT.lexLt [sg b x] [sg b y] = if b then decide (y < x) else decide (x < y)
    rw [HT.lexLt_cons, if_neg n2]
    cases b
    · rfl
    · show decide (-x < -y) = decide (y < x)
      congr 1
      simp
  | true =>
    obtain ⟨x, rfl⟩ : ∃ n, m = .str n := by
      rcases val_atom hm with ⟨_, q⟩ | ⟨e, _⟩
      · exact q
      · cases e
    obtain ⟨y, rfl⟩ : ∃ n, t = .str n := by
      rcases val_atom ht with ⟨_, q⟩ | ⟨e, _⟩
      · exact q
      · cases e
    obtain ⟨lx, hx⟩ := word_parts hm
    obtain ⟨ly, hy⟩ := word_parts ht
    have nxy : x.cps.toList ≠ y.cps.toList := fun z => ne (by rw [TL.ext_tl (x := x) (y := y) z])
    have e1 : (padL 6 x.cps.toList).length = 6 := pad6_len lx
    have e2 : (padL 6 y.cps.toList).length = 6 := pad6_len ly
    refine ⟨?_, pad_ne b lx ly hx hy nxy, pad_lt b 6 _ _ lx ly hx hy⟩
    show (padI b 6 x.cps.toList).length = (padI b 6 y.cps.toList).length
    unfold padI
    rw [List.length_map, List.length_map, List.length_map, List.length_map, e1, e2]
theorem rank_cons {os : List (Nat × Bool)} {c : Nat} {b : Bool} {p : Nat × List PyData} {m : PyData} (h : p.2[c]? = some m) : rankOf ((c, b) :: os) p = keyD b m ++ rankOf os p := by
  unfold rankOf
  rw [List.flatMap_cons, List.append_assoc]
  unfold keyP
  rw [List.getD_eq_getElem?_getD, h]
  rfl
theorem before_cons {os : List (Nat × Bool)} {c : Nat} {b kb : Bool} {p q : Nat × List PyData} {m t : PyData} (h1 : p.2[c]? = some m) (h2 : q.2[c]? = some t) (v1 : isVal kb m = true) (v2 : isVal kb t = true) :
    (m = t → before ((c, b) :: os) p q = before os p q) ∧ (m ≠ t → before ((c, b) :: os) p q = colLt b m t) := by
  unfold before
  rw [rank_cons h1, rank_cons h2]
  constructor
  · intro e
    subst e
    rw [lexLt_app _ _ _ _ rfl, if_pos rfl]
  · intro e
    obtain ⟨k1, k2, k3⟩ := key_lt (b := b) v1 v2 e
    rw [lexLt_app _ _ _ _ k1, if_neg k2, k3]
theorem before_nil {p q : Nat × List PyData} : before [] p q = decide (p.1 < q.1) := by
  show HT.lexLt [(p.1 : Int)] [(q.1 : Int)] = _
  rw [HT.lexLt_cons]
  by_cases e : (p.1 : Int) = (q.1 : Int)
  · rw [if_pos e]
    have : p.1 = q.1 := by omega
    rw [this]
    simp [HT.lexLt_nil_nil]
  · rw [if_neg e]
    simp
/-- pairs of different numbers: one is ahead -/
theorem rank_ne {os : List (Nat × Bool)} {p q : Nat × List PyData} (h : before os p q = false) (h2 : before os q p = false) : rankOf os p = rankOf os q := by
  have tot : ∀ A B : List Int, HT.lexLt A B = false → HT.lexLt B A = false → A = B := by
    intro A
    induction A with
    | nil =>
      intro B h1 h2
      cases B with
      | nil => rfl
      | cons y B => rw [HT.lexLt_nil_cons] at h1; cases h1
    | cons x A ih =>
      intro B h1 h2
      cases B with
      | nil => rw [HT.lexLt_nil_cons] at h2; cases h2
      | cons y B =>
        rw [HT.lexLt_cons] at h1 h2
        by_cases e : x = y
        · subst e
          rw [if_pos rfl] at h1 h2
          rw [ih B h1 h2]
        · rw [if_neg e] at h1
          rw [if_neg (Ne.symm e)] at h2
          have a := of_decide_eq_false h1
          have b := of_decide_eq_false h2
          omega
  exact tot _ _ h h2
theorem rank_num {os : List (Nat × Bool)} {p q : Nat × List PyData} (h : rankOf os p = rankOf os q) : p.1 = q.1 := by
  have e := congrArg List.getLast? h
  unfold rankOf at e
  rw [List.getLast?_append, List.getLast?_append] at e
  simp at e
  omega
end RS
set_option Elab.async false
set_option maxRecDepth 100000
set_option maxHeartbeats 4000000
namespace RS
open PySem PySem.Spec PyProof.Rows L2 GX
theorem few_list {ds : List PyData} (h1 : ds.length ≤ 1000000) (h2 : ∀ d ∈ ds, few d) : few (.list ds) := by
  simp only [few]
  exact ⟨h1, fews_iff.mpr h2⟩
theorem few_tup {ds : List PyData} (h1 : ds.length ≤ 1000000) (h2 : ∀ d ∈ ds, few d) : few (.tuple ds) := by
  simp only [few]
  exact ⟨h1, fews_iff.mpr h2⟩
theorem few_val {b : Bool} {d : PyData} (h : isVal b d = true) : few d := by
  rcases val_atom h with ⟨_, x, rfl⟩ | ⟨_, n, rfl⟩ <;> simp [few]
theorem few_row {ks : List Bool} {r : List PyData} (hk : ks.length ≤ 4) (h : isRow ks (.tuple r) = true) : few (.tuple r) :=
  few_tup (by have := (isRow_get.mp h).1; omega) fun d hd => by
    obtain ⟨b, hv⟩ := row_val h hd
    exact few_val hv
theorem few_pair {ks : List Bool} {p : Nat × List PyData} (hk : ks.length ≤ 4) (h : isRow ks (.tuple p.2) = true) : few (pairD p) :=
  few_tup (by simp) fun d hd => by
    rcases List.mem_cons.mp hd with e | hd
    · rw [e]; simp [few]
    · rw [List.mem_singleton.mp hd]; exact few_row hk h
theorem few_order {os : List (Nat × Bool)} (h : os.length ≤ 1000) : few (orderD os) :=
  few_list (by rw [List.length_map]; omega) fun d hd => by
    obtain ⟨p, _, rfl⟩ := List.mem_map.mp hd
    exact few_tup (by simp) fun d hd => by
      simp at hd
      rcases hd with rfl | rfl <;> simp [few]
theorem few_rows {ks : List Bool} {rs : List (List PyData)} (hk : ks.length ≤ 4) (h1 : rs.length ≤ 1000) (h : ∀ r ∈ rs, isRow ks (.tuple r) = true) : few (rowsD rs) :=
  few_list (by rw [List.length_map]; omega) fun d hd => by
    obtain ⟨r, hr, rfl⟩ := List.mem_map.mp hd
    exact few_row hk (h r hr)
theorem srtd_uniq {α : Type} {lt : α → α → Bool} : ∀ {l m : List α}, l.Perm m → SrtO.Srtd lt l → SrtO.Srtd lt m → (∀ x y, x ∈ l → y ∈ l → lt x y = false → lt y x = false → x = y) → l = m
  | [], m, p, _, _, _ => (p.symm.eq_nil).symm
  | x :: l, [], p, _, _, _ => absurd p.length_eq (by simp)
  | x :: l, y :: m, p, h1, h2, U => by
    have hx : x ∈ y :: m := p.mem_iff.mp List.mem_cons_self
    have hy : y ∈ x :: l := p.mem_iff.mpr List.mem_cons_self
    have exy : x = y := by
      rcases List.mem_cons.mp hx with e | hx
      · exact e
      · rcases List.mem_cons.mp hy with e | hy'
        · exact e.symm
        · exact U x y List.mem_cons_self (List.mem_cons_of_mem _ hy') (SrtO.srtd_head h2 x hx) (SrtO.srtd_head h1 y hy')
    subst exy
    rw [srtd_uniq (List.Perm.cons_inv p) (List.pairwise_cons.mp h1).2 (List.pairwise_cons.mp h2).2 fun a b ha hb => U a b (List.mem_cons_of_mem _ ha) (List.mem_cons_of_mem _ hb)]
theorem enumP_num {α : Type} {l : List α} {p q : Nat × α} (hp : p ∈ enumP 0 l) (hq : q ∈ enumP 0 l) (e : p.1 = q.1) : p = q := by
  obtain ⟨i, hi, ei⟩ := List.getElem_of_mem hp
  obtain ⟨j, hj, ej⟩ := List.getElem_of_mem hq
  have e1 : (enumP 0 l)[i]? = some p := by rw [List.getElem?_eq_getElem hi, ei]
  have e2 : (enumP 0 l)[j]? = some q := by rw [List.getElem?_eq_getElem hj, ej]
  rw [enumP_get] at e1 e2
  cases q1 : l[i]? with
  | none => rw [q1] at e1; cases e1
  | some x =>
    cases q2 : l[j]? with
    | none => rw [q2] at e2; cases e2
    | some y =>
      rw [q1] at e1
      rw [q2] at e2
      cases e1
      cases e2
      have ij : i = j := by simpa using e
      subst ij
      rw [q1] at q2
      cases q2
      rfl
theorem before_tot {os : List (Nat × Bool)} {rs : List (List PyData)} : ∀ x y, x ∈ enumP 0 rs → y ∈ enumP 0 rs → before os x y = false → before os y x = false → x = y := fun x y hx hy h1 h2 => enumP_num hx hy (rank_num (rank_ne h1 h2))
end RS
set_option Elab.async false
set_option maxRecDepth 100000
set_option maxHeartbeats 4000000
namespace RS
open PySem PySem.Spec PyProof.Rows L2 GX
section
variable {ks : List Bool} {ps : List (Nat × List PyData)}
theorem pair_shape {p : Nat × List PyData} (h : isRow ks (.tuple p.2) = true) : (pairD p).canLay0 = true ∧ (pairD p).depth ≤ 2 := by
  obtain ⟨h1, h2⟩ := row_shape h
  constructor
  · simp only [pairD, PyData.canLay0, PyData.canLayAll0, Bool.and_eq_true]
    refine ⟨trivial, ?_, trivial⟩
    simpa only [PyData.canLay0] using h1
  · simp only [pairD, PyData.depth, PyData.depthAll] at h2 ⊢
    omega
theorem pairs_shaped (h : ∀ p ∈ ps, isRow ks (.tuple p.2) = true) : SeqAt.shaped (.list (ps.map pairD)) = true := by
  unfold SeqAt.shaped
  rw [Bool.and_eq_true]
  refine ⟨?_, decide_eq_true ?_⟩
  · simp only [PyData.canLay0]
    exact canLayAll fun d hd => by
      obtain ⟨r, hr, rfl⟩ := List.mem_map.mp hd
      exact (pair_shape (h r hr)).1
  · simp only [PyData.depth]
    have := depthLe (n := 2) (ds := ps.map pairD) fun d hd => by
      obtain ⟨r, hr, rfl⟩ := List.mem_map.mp hd
      exact (pair_shape (h r hr)).2
    omega
end
end RS
set_option Elab.async false
set_option maxRecDepth 100000
set_option maxHeartbeats 4000000
namespace RS
open PySem PySem.Spec PyProof.Rows L2 GX
mutual
theorem eqv_rf : ∀ d : PyData, few d → PyData.eqv d d = true
  | .none, _ => by simp [PyData.eqv]
  | .bool _, _ => by simp [PyData.eqv]
  | .int _, _ => by simp [PyData.eqv]
  | .str _, _ => by simp [PyData.eqv]
  | .list ds, h => by
    have h : ds.length ≤ 1000000 ∧ fews ds := by simpa only [few] using h
    simp only [PyData.eqv]
    exact eqvs_rf ds h.2
  | .tuple ds, h => by
    have h : ds.length ≤ 1000000 ∧ fews ds := by simpa only [few] using h
    simp only [PyData.eqv]
    exact eqvs_rf ds h.2
  | .dict _, h => by simp [few] at h
theorem eqvs_rf : ∀ ds : List PyData, fews ds → PyData.eqvAll ds ds = true
  | [], _ => by simp [PyData.eqvAll]
  | d :: ds, h => by
    have h : few d ∧ fews ds := by simpa only [fews] using h
    simp only [PyData.eqvAll, Bool.and_eq_true]
    exact ⟨eqv_rf d h.1, eqvs_rf ds h.2⟩
end
def runsD (runs : List (List (Nat × List PyData))) : PyData := .list (runs.map fun r => .list (r.map pairD))
theorem few_runs {ks : List Bool} {runs : List (List (Nat × List PyData))} (hk : ks.length ≤ 4) (h1 : runs.length ≤ 1000) (h2 : ∀ r ∈ runs, r.length ≤ 1000) (h : ∀ r ∈ runs, ∀ q ∈ r, isRow ks (.tuple q.2) = true) : few (runsD runs) :=
  few_list (by rw [List.length_map]; omega) fun d hd => by
    obtain ⟨r, hr, rfl⟩ := List.mem_map.mp hd
    exact few_list (by rw [List.length_map]; have := h2 r hr; omega) fun d hd => by
      obtain ⟨q, hq, rfl⟩ := List.mem_map.mp hd
      exact few_pair hk (h r hr q hq)
theorem depth_runs {ks : List Bool} {runs : List (List (Nat × List PyData))} (h : ∀ r ∈ runs, ∀ q ∈ r, isRow ks (.tuple q.2) = true) : (runsD runs).depth ≤ 4 := by
  simp only [runsD, PyData.depth]
  have := depthLe (n := 3) (ds := runs.map fun r => .list (r.map pairD)) fun d hd => by
    obtain ⟨r, hr, rfl⟩ := List.mem_map.mp hd
    simp only [PyData.depth]
    have := depthLe (n := 2) (ds := r.map pairD) fun d hd => by
      obtain ⟨q, hq, rfl⟩ := List.mem_map.mp hd
      exact (pair_shape (h r hr q hq)).2
    omega
  omega
end RS
set_option Elab.async false
set_option maxRecDepth 100000
set_option maxHeartbeats 4000000
namespace RS
open PySem PySem.Spec PyProof.Rows L2 GX
section
variable {P : Program} {w : World} {K : PySem.W.Frag} {mg : Str → Option Value} {base : Heap}
/-- the two have values of one kind in the order's columns -/
def Alike (os : List (Nat × Bool)) (p q : Nat × List PyData) : Prop := ∀ o ∈ os, ∃ kb m t, p.2[o.1]? = some m ∧ q.2[o.1]? = some t ∧ isVal kb m = true ∧ isVal kb t = true
theorem alike_rows {ks : List Bool} {os : List (Nat × Bool)} {p q : Nat × List PyData} (ok : OkOrder ks.length os) (hp : isRow ks (.tuple p.2) = true) (hq : isRow ks (.tuple q.2) = true) : Alike os p q := fun o ho => by
  have h1 := isRow_get.mp hp
  have h2 := isRow_get.mp hq
  have hc := ok.col o ho
  have l1 : o.1 < p.2.length := by omega
  have l2 : o.1 < q.2.length := by omega
  obtain ⟨b, e1, v1⟩ := h1.2 o.1 _ (List.getElem?_eq_getElem l1)
  obtain ⟨b', e2, v2⟩ := h2.2 o.1 _ (List.getElem?_eq_getElem l2)
  rw [e1] at e2
  cases e2
  exact ⟨b, _, _, List.getElem?_eq_getElem l1, List.getElem?_eq_getElem l2, v1, v2⟩
theorem scAhead : FnScope ["_law_order_here", "_law_one", "_law_other", "_law_column", "_law_way", "_law_mine", "_law_theirs"] ["_law_order_here", "_law_one", "_law_other"] (defScope sAhead) := ⟨rfl, rfl, rfl, by decide +kernel, rfl, by decide +kernel, by decide +kernel⟩
def spAhead (K : PySem.W.Frag) : Sp := fun vs H Q _ => ∃ (vo v1 v2 : V) (os : List (Nat × Bool)) (p q : Nat × List PyData), vs = [vo, v1, v2] ∧ Dp K H vo (orderD os) ∧ Dp K H v1 (pairD p) ∧ Dp K H v2 (pairD q) ∧ Alike os p q ∧ Q (.bl (before os p q)) H
theorem ahead_ok {c : Addr} (D : DefAt K mg "_law_ahead" sAhead c) : Cal P w K mg base CX0 1 "_law_ahead" ["_law_order_here", "_law_one", "_law_other"] (spAhead K) := by
  have sc := scAhead
  refine def_ok0 D sc (fun vs H Q E h => ?_) (fun _ _ _ _ _ _ us hl => match us, hl with | [_, _, _], _ => rfl) (fun f A outer s H vs Q E hr h => ?_)
  · obtain ⟨vo, v1, v2, os, p, q, rfl, _⟩ := h
    rfl
  · obtain ⟨vo, v1, v2, os, p, q, rfl, ho, hp, hq, ha, k⟩ := h
    refine ⟨_, (pss_cons (ps_for PassesOwn.never rfl (pi_list (pv 0)) (pg_tup (by rfl) (pgs_cons (pg_name (i := 3) sc.nd rfl (Or.inl rfl)) (pgs_cons (pg_name (i := 4) sc.nd rfl (Or.inl rfl)) pgs_nil))) (pss_cons (ps_par (i := 5) (j := 6) rfl sc.nd rfl rfl (by decide) rfl rfl (pa_cons (pe_ix ixD (pe_ix ixD (pv 1) pe_int (fun _ _ => rfl)) (pv 3) (fun _ _ => rfl)) (pa_cons (pe_ix ixD (pe_ix ixD (pv 2) pe_int (fun _ _ => rfl)) (pv 3) (fun _ _ => rfl)) pa_nil)) (by rfl)) (pss_one (ps_if (pt_cmpR op_ne (pv 5) (pv 6) (nomark _)) (pss_one (ps_ret (pe_ifExp (pt_cmpR op_eq (pv 4) pe_str (nomark _)) (pe_cmpR (op_lt.or op_lt_str) (pv 5) (pv 6) (nomark _)) (pe_cmpR (op_gt.or op_gt_str) (pv 5) (pv 6) (nomark _))))) pss_nil)))) (pss_one (ps_ret (pe_cmpR op_lt (pe_ix ixD (pv 1) pe_int (fun _ _ => rfl)) (pe_ix ixD (pv 2) pe_int (fun _ _ => rfl)) (nomark _))))), ?_⟩
    cases ho with
    | @lst ao xo _ hSo hIo =>
      have lo : xo.length = os.length := by rw [dpLen hIo, List.length_map]
      refine ⟨_, rfl, ao, rfl, ⟨_, hSo⟩, for_list (K := K) (a := ao) (xs := xo) (fun i σ H' => ∃ v3 v4 v5 v6 : Option V, σ = [some (.ref ao), some v1, some v2, v3, v4, v5, v6] ∧ H' = H ∧ before os p q = before (os.drop i) p q)
        ⟨none, none, none, none, rfl, rfl, rfl⟩ (fun i σ H' _ ⟨_, _, _, _, _, e, _⟩ => by rw [e]; exact hSo) ?_ ?_⟩
      · rintro i y σ H' hi ⟨v3, v4, v5, v6, rfl, rfl, hbe⟩
        obtain ⟨d, ed, hd⟩ := dpGet hIo hi
        obtain ⟨⟨c, b⟩, eq, rfl⟩ : ∃ o, os[i]? = some o ∧ d = partD o := by
          rw [List.getElem?_map] at ed
          cases z : os[i]? with
          | none => rw [z] at ed; cases ed
          | some b => rw [z] at ed; exact ⟨b, rfl, (Option.some.inj ed).symm⟩
        have hi' : i < os.length := (List.getElem?_eq_some_iff.mp eq).1
        have dr : os.drop i = (c, b) :: os.drop (i + 1) := by
          rw [List.drop_eq_getElem_cons hi', (List.getElem?_eq_some_iff.mp eq).2]
        obtain ⟨kb, m, t, hm, ht, vm, vt⟩ := ha (c, b) (List.mem_of_getElem? eq)
        obtain ⟨c1, c2⟩ := before_cons (os := os.drop (i + 1)) (b := b) hm ht vm vt
        cases hd with
        | @tup ap xp _ hSp hIp =>
          cases hIp with
          | cons g1 hIp =>
            cases hIp with
            | cons g2 hIp =>
              cases hIp
              cases g1
              cases g2
              refine ⟨ap, _, rfl, hSp, rfl, _, _, rfl, _, _, rfl, rfl, ?_⟩
              refine ⟨_, rfl, pairD p, [.int p.1, .tuple p.2], 1, .tuple p.2, hp, rfl, rfl, atI_nat (j := 1) rfl, fun w1 hw1 => ?_⟩
              refine ⟨_, rfl, .tuple p.2, p.2, (c : Nat), m, hw1, rfl, rfl, atI_nat hm, fun w2 hw2 => ?_⟩
              refine ⟨_, rfl, pairD q, [.int q.1, .tuple q.2], 1, .tuple q.2, hq, rfl, rfl, atI_nat (j := 1) rfl, fun w3 hw3 => ?_⟩
              refine ⟨_, rfl, .tuple q.2, q.2, (c : Nat), t, hw3, rfl, rfl, atI_nat ht, fun w4 hw4 => ?_⟩
              refine ⟨_, _, rfl, _, rfl, _, rfl, ?_⟩
              have hw : decide (V.str (wayS b) = V.str "up") = !b := by cases b <;> decide +kernel
              cases kb with
              | true =>
                obtain ⟨x, rfl⟩ : ∃ n, m = .str n := by
                  rcases val_atom vm with ⟨_, q⟩ | ⟨e, _⟩
                  · exact q
                  · cases e
                obtain ⟨y, rfl⟩ : ∃ n, t = .str n := by
                  rcases val_atom vt with ⟨_, q⟩ | ⟨e, _⟩
                  · exact q
                  · cases e
                cases hw2
                cases hw4
                refine ⟨rfl, _, rfl, ?_⟩
                by_cases e : x = y
                · have ed : (!decide (V.str x = V.str y)) = false := by rw [e]; simp
                  rw [ed]
                  exact iteF ⟨_, _, _, _, rfl, rfl, by rw [hbe, dr]; exact c1 (by rw [e])⟩
                · have ed : (!decide (V.str x = V.str y)) = true := by simp [e]
                  rw [ed]
                  have cc := c2 fun z => e (by cases z; rfl)
                  rw [hbe, dr, cc] at k
                  refine iteT ⟨_, rfl, rfl, _, rfl, ?_⟩
                  rw [hw]
                  cases b with
                  | false => exact iteT ⟨_, rfl, _, rfl, .inr ⟨_, _, rfl, rfl, k⟩⟩
                  | true => exact iteF ⟨_, rfl, _, rfl, .inr ⟨_, _, rfl, rfl, k⟩⟩
              | false =>
                obtain ⟨x, rfl⟩ : ∃ n, m = .int n := by
                  rcases val_atom vm with ⟨e, _⟩ | ⟨_, q⟩
                  · cases e
                  · exact q
                obtain ⟨y, rfl⟩ : ∃ n, t = .int n := by
                  rcases val_atom vt with ⟨e, _⟩ | ⟨_, q⟩
                  · cases e
                  · exact q
                cases hw2
                cases hw4
                refine ⟨rfl, _, rfl, ?_⟩
                by_cases e : x = y
                · have ed : (!decide (V.int x = V.int y)) = false := by rw [e]; simp
                  rw [ed]
                  exact iteF ⟨_, _, _, _, rfl, rfl, by rw [hbe, dr]; exact c1 (by rw [e])⟩
                · have ed : (!decide (V.int x = V.int y)) = true := by simp [e]
                  rw [ed]
                  have cc := c2 fun z => e (by cases z; rfl)
                  rw [hbe, dr, cc] at k
                  refine iteT ⟨_, rfl, rfl, _, rfl, ?_⟩
                  rw [hw]
                  cases b with
                  | false => exact iteT ⟨_, rfl, _, rfl, .inl ⟨_, _, rfl, rfl, k⟩⟩
                  | true => exact iteF ⟨_, rfl, _, rfl, .inl ⟨_, _, rfl, rfl, k⟩⟩
      · rintro σ H' ⟨v3, v4, v5, v6, rfl, rfl, hbe⟩
        rw [lo, List.drop_length, before_nil] at hbe
        refine ⟨_, rfl, pairD p, [.int p.1, .tuple p.2], 0, .int p.1, hp, rfl, rfl, atI_nat (j := 0) rfl, fun w1 hw1 => ?_⟩
        cases hw1
        refine ⟨_, rfl, pairD q, [.int q.1, .tuple q.2], 0, .int q.1, hq, rfl, rfl, atI_nat (j := 0) rfl, fun w2 hw2 => ?_⟩
        cases hw2
        refine ⟨_, _, rfl, rfl, ?_⟩
        rw [hbe] at k
        have e : decide ((p.1 : Int) < (q.1 : Int)) = decide (p.1 < q.1) := by congr 1; simp
        show Q (.bl (decide ((p.1 : Int) < (q.1 : Int)))) H'
        rw [e]
        exact k
end
end RS
set_option Elab.async false
set_option maxRecDepth 100000
set_option maxHeartbeats 4000000
namespace RS
open PySem PySem.Spec PyProof.Rows L2 GX
section
variable {P : Program} {w : World} {K : PySem.W.Frag} {mg : Str → Option Value} {base : Heap}
theorem srtd_get {α : Type} {lt : α → α → Bool} {l : List α} (h : SrtO.Srtd lt l) {i j : Nat} {x y : α} (hij : i < j) (hx : l[i]? = some x) (hy : l[j]? = some y) : lt y x = false := by
  obtain ⟨h1, rfl⟩ := List.getElem?_eq_some_iff.mp hx
  obtain ⟨h2, rfl⟩ := List.getElem?_eq_some_iff.mp hy
  exact List.pairwise_iff_getElem.mp h i j h1 h2 hij
theorem scSorted : FnScope ["_law_order_here", "_law_pairs_here", "_law_found", "_law_pair", "_law_low", "_law_high", "_law_half"] ["_law_order_here", "_law_pairs_here"] (defScope sSorted) := ⟨rfl, rfl, rfl, by decide +kernel, rfl, by decide +kernel, by decide +kernel⟩
def spSorted (K : PySem.W.Frag) : Sp := fun vs H Q _ => ∃ (vo : V) (a : Addr) (xs : List V) (ks : List Bool) (os : List (Nat × Bool)) (ps : List (Nat × List PyData)), vs = [vo, .ref a] ∧ Dp K H vo (orderD os) ∧ SqL K H a xs ∧ DpAll K H xs (ps.map pairD) ∧ OkOrder ks.length os ∧ (∀ p ∈ ps, isRow ks (.tuple p.2) = true) ∧ ps.length ≤ 500 ∧
  ∀ (H' : Hp) (p : Addr) (ys : List V) (qs : List (Nat × List PyData)), Same H H' → H p = none → H' p = some (.lst ys) → DpAll K H' ys (qs.map pairD) → qs.Perm ps → SrtO.Srtd (before os) qs → Q (.ref p) H'
theorem sorted_ok {c : Addr} (D : DefAt K mg "_law_sorted" sSorted c) (T : Txt K mg) (cA : Cal P w K mg base CX0 1 "_law_ahead" ["_law_order_here", "_law_one", "_law_other"] (spAhead K)) : Cal P w K mg base CX0 2 "_law_sorted" ["_law_order_here", "_law_pairs_here"] (spSorted K) := by
  have sc := scSorted
  refine def_ok0 D sc (fun vs H Q E h => ?_) (fun _ _ _ _ _ _ us hl => match us, hl with | [_, _], _ => rfl) (fun f A outer s H vs Q E hr h => ?_)
  · obtain ⟨vo, a, xs, ks, os, ps, rfl, _⟩ := h
    rfl
  · obtain ⟨vo, a, xs, ks, os, ps, rfl, ho, hS, hI, ok, okp, hz, k⟩ := h
    refine ⟨_, (pss_cons (ps_set (i := 2) sc.nd rfl (Or.inl rfl) (pe_lst pa_nil)) (pss_cons (ps_for PassesOwn.never rfl (pi_list (pv 1)) (pg_name (i := 3) sc.nd rfl (Or.inl rfl)) (pss_cons (ps_par (i := 4) (j := 5) rfl sc.nd rfl rfl (by decide) rfl rfl (pa_cons pe_int (pa_cons (pe_callB call_lenD (by rfl) T.len PySem.boot_len (pa_cons (pv 2) pa_nil)) pa_nil)) (by rfl)) (pss_cons (ps_while PassesOwn.never (pt_cmpR op_lt (pv 4) (pv 5) (nomark _)) (pss_cons (ps_set (i := 6) sc.nd rfl (Or.inl rfl) (pe_op op_fdiv (pe_op op_add (pv 4) (pv 5)) pe_int)) (pss_one (ps_if (pt_val (pe_c cA hr (by decide) (by rfl) pass0 (pa_cons (pv 0) (pa_cons (pv 3) (pa_cons (pe_ix ix_list (pv 2) (pv 6) (fun _ _ => rfl)) pa_nil))))) (pss_one (ps_set (i := 5) sc.nd rfl (Or.inl rfl) (pv 6))) (pss_one (ps_set (i := 4) sc.nd rfl (Or.inl rfl) (pe_op op_add (pv 6) pe_int))))))) (pss_one (ps_expr (pe_bm PySem.F.plainAttrs_list PySem.F.slot_list_insert PySem.F.type_list_insert mt_insert (pv 2) (pa_cons (pv 4) (pa_cons (pv 3) pa_nil)))))))) (pss_one (ps_ret (pv 2))))), ?_⟩
    refine ⟨Nat.zero_le _, fun Fd hFd => ?_⟩
    have s1 : Same H (upd H Fd (.lst [])) := fun b o e => by
      rw [upd_ne (ne_of_none e hFd)]
      exact e
    have lx : xs.length = ps.length := by rw [dpLen hI, List.length_map]
    refine ⟨_, rfl, a, rfl, ⟨_, s1.seq hS⟩, for_list (K := K) (a := a) (xs := xs) (fun i σ H' => ∃ (v3 v4 v5 v6 : Option V) (ys : List V) (qs : List (Nat × List PyData)), σ = [some vo, some (.ref a), some (.ref Fd), v3, v4, v5, v6] ∧ Same H H' ∧ H' Fd = some (.lst ys) ∧ DpAll K H' ys (qs.map pairD) ∧ qs.Perm (ps.take i) ∧ SrtO.Srtd (before os) qs)
      ⟨none, none, none, none, [], [], rfl, s1, upd_same, .nil, by simp, .nil⟩ (fun i σ H' _ ⟨_, _, _, _, _, _, _, sm, _⟩ => sm.seq hS) ?_ ?_⟩
    · rintro i x σ H' hx ⟨v3, v4, v5, v6, ys, qs, rfl, sm, hF, hd, pm, srt⟩
      obtain ⟨d, ed, hdx⟩ := dpGet hI hx
      obtain ⟨p, ep, rfl⟩ : ∃ q, ps[i]? = some q ∧ d = pairD q := by
        rw [List.getElem?_map] at ed
        cases e : ps[i]? with
        | none => rw [e] at ed; cases ed
        | some q => rw [e] at ed; exact ⟨q, rfl, (Option.some.inj ed).symm⟩
      have hpm := List.mem_of_getElem? ep
      have hpr := okp p hpm
      have ly : ys.length = qs.length := by rw [dpLen hd, List.length_map]
      have okq : ∀ q ∈ qs, isRow ks (.tuple q.2) = true := fun q hq => okp q (List.mem_of_mem_take (pm.mem_iff.mp hq))
      have lq : qs.length ≤ 500 := by
        have := pm.length_eq
        rw [List.length_take] at this
        omega
      have ho' := dp_same sm _ ho
      have hx' := dp_same sm _ hdx
      refine ⟨_, rfl, .ref Fd, _, _, rfl, .lst (SqL.of hF) hd, rfl, _, _, rfl, ?_⟩
      have lqm : (qs.map pairD).length = qs.length := List.length_map _
      refine ⟨fun m σ' H2 => ∃ (lo hi : Nat) (v6 : Option V), σ' = [some vo, some (.ref a), some (.ref Fd), some x, some (.int (lo : Nat)), some (.int (hi : Nat)), v6] ∧ H2 = H' ∧ m = hi - lo ∧ lo ≤ hi ∧ hi ≤ qs.length ∧ (∀ j q, j < lo → qs[j]? = some q → before os p q = false) ∧ (∀ j q, hi ≤ j → qs[j]? = some q → before os p q = true),
        ⟨_, 0, qs.length, _, by rw [lqm]; rfl, rfl, rfl, Nat.zero_le _, Nat.le_refl _, (fun j q h => by omega), (fun j q h e => by have := (List.getElem?_eq_some_iff.mp e).1; omega)⟩, ?_⟩
      rintro m σ' H2 ⟨lo, hi, v6, rfl, rfl, rfl, hle, hhi, hA, hB⟩
      refine ⟨_, rfl, _, rfl, _, _, rfl, rfl, _, rfl, ?_⟩
      refine ite2 (fun hlt => ?_) (fun hlt => ?_)
      · have hlt := of_decide_eq_true hlt
        refine ⟨_, fun σ' H2 h => h, ?_⟩
        refine ⟨_, rfl, _, rfl, _, _, rfl, rfl, _, _, rfl, rfl, ⟨by decide, by decide⟩, ?_⟩
        have eh : ((lo : Nat) + (hi : Nat) : Int) / 2 = (((lo + hi) / 2 : Nat) : Int) := by omega
        obtain ⟨hf, ehf⟩ : ∃ hf : Nat, hf = (lo + hi) / 2 := ⟨_, rfl⟩
        simp only [eh, ← ehf]
        have hh : hf < qs.length := by omega
        obtain ⟨vh, evh, hvh⟩ := dpGet' (i := hf) (d := pairD qs[hf]) hd (by rw [List.getElem?_map, List.getElem?_eq_getElem hh]; rfl)
        have hqr := okq qs[hf] (List.getElem_mem hh)
        refine ⟨_, rfl, _, rfl, _, rfl, _, rfl, Fd, ys, _, vh, rfl, rfl, SqL.of hF, atI_nat evh, vo, x, vh, os, p, qs[hf], rfl, ho', hx', hvh, alike_rows ok hpr hqr, _, rfl, ?_⟩
        refine ite2 (fun hb => ?_) (fun hb => ?_)
        · refine ⟨_, rfl, _, ?_, lo, hf, _, rfl, rfl, rfl, by omega, by omega, hA, fun j q hj ej => ?_⟩
          · omega
          · by_cases e : j = hf
            · subst e
              rw [List.getElem?_eq_getElem hh] at ej
              cases ej
              exact hb
            · exact (swo_before os).ltle hb (srtd_get srt (by omega) (List.getElem?_eq_getElem hh) ej)
        · refine ⟨_, rfl, _, _, rfl, rfl, _, ?_, hf + 1, hi, _, rfl, rfl, rfl, by omega, by omega, fun j q hj ej => ?_, hB⟩
          · omega
          · have hb' : before os p qs[hf] = false := by
              cases e : before os p qs[hf] with
              | false => rfl
              | true => exact absurd e hb
            by_cases e : j = hf
            · subst e
              rw [List.getElem?_eq_getElem hh] at ej
              cases ej
              exact hb'
            · exact (swo_before os).tr _ _ _ (srtd_get srt (by omega) ej (List.getElem?_eq_getElem hh)) hb'
      · have hlt2 : ¬ ((lo : Nat) : Int) < ((hi : Nat) : Int) := fun z => hlt (decide_eq_true z)
        have e : hi = lo := by omega
        subst e
        refine ⟨_, rfl, .inl ⟨rfl, _, SqL.of hF⟩, _, rfl, _, rfl, Fd, ys, _, x, rfl, rfl, hF, small1000 (by omega), by omega, by omega, ?_⟩
        rw [Int.toNat_natCast]
        have e1 : ps.take (i + 1) = ps.take i ++ [p] := by rw [List.take_add_one, ep]; rfl
        have okn : ∀ q ∈ qs.take hi ++ [p] ++ qs.drop hi, isRow ks (.tuple q.2) = true := fun q hq => by
          rcases List.mem_append.mp hq with hq | hq
          · rcases List.mem_append.mp hq with hq | hq
            · exact okq q (List.mem_of_mem_take hq)
            · rw [List.mem_singleton.mp hq]; exact hpr
          · exact okq q (List.mem_of_mem_drop hq)
        refine ⟨_, _, _, _, ys.take hi ++ [x] ++ ys.drop hi, qs.take hi ++ [p] ++ qs.drop hi, rfl, fun b o e => ?_, upd_same, dpAll_upd hF _ (pairs_noL okn) ?_, ?_, ?_⟩
        · rw [upd_ne (ne_of_none e hFd)]
          exact sm _ _ e
        · rw [List.map_append, List.map_append]
          exact dpApp (dpApp (dpAll_take' hd hi) (.cons hx' .nil)) (dpAll_drop' hd hi)
        · rw [e1]
          have q1 : (qs.take hi ++ [p] ++ qs.drop hi).Perm (qs ++ [p]) := by
            rw [List.append_assoc]
            have q2 : (qs.take hi ++ ([p] ++ qs.drop hi)).Perm (qs.take hi ++ (qs.drop hi ++ [p])) := List.perm_append_comm.append_left _
            rw [← List.append_assoc, ← List.append_assoc, List.take_append_drop] at q2
            rw [← List.append_assoc]
            exact q2
          exact q1.trans (pm.append_right _)
        · have sp : SrtO.Srtd (before os) (qs.take hi ++ qs.drop hi) := by rw [List.take_append_drop]; exact srt
          obtain ⟨t1, t2, t3⟩ := SrtO.srtd_app.mp sp
          refine SrtO.srtd_app.mpr ⟨SrtO.srtd_snoc t1 fun y hy => ?_, t2, fun y hy z hz => ?_⟩
          · obtain ⟨j, hj, ej⟩ := List.getElem_of_mem hy
            rw [List.getElem_take] at ej
            rw [List.length_take] at hj
            exact hA j y (by omega) (by rw [List.getElem?_eq_getElem (by omega), ej])
          · obtain ⟨j, hj, ej⟩ := List.getElem_of_mem hz
            rw [List.getElem_drop] at ej
            rw [List.length_drop] at hj
            rcases List.mem_append.mp hy with hy | hy
            · exact t3 y hy z hz
            · rw [List.mem_singleton.mp hy]
              exact (swo_before os).asym _ _ (hB (hi + j) z (by omega) (by rw [List.getElem?_eq_getElem (by omega), ej]))
    · rintro σ H' ⟨v3, v4, v5, v6, ys, qs, rfl, sm, hF, hd, pm, srt⟩
      rw [lx, List.take_length] at pm
      exact ⟨_, rfl, k H' Fd ys qs sm hFd hF hd pm srt⟩
end
end RS
set_option Elab.async false
set_option maxRecDepth 100000
set_option maxHeartbeats 4000000
namespace RS
open PySem PySem.Spec PyProof.Rows L2 GX
section
variable {P : Program} {w : World} {K : PySem.W.Frag} {mg : Str → Option Value} {base : Heap}
theorem scPairs : FnScope ["_law_rows_here", "_law_k"] ["_law_rows_here"] (defScope sPairs) := ⟨rfl, rfl, rfl, by decide +kernel, rfl, by decide +kernel, by decide +kernel⟩
def spPairs (K : PySem.W.Frag) : Sp := fun vs H Q _ => ∃ (v : V) (ks : List Bool) (rs : List (List PyData)), vs = [v] ∧ Dp K H v (rowsD rs) ∧ rs.length ≤ 500 ∧ (∀ r ∈ rs, isRow ks (.tuple r) = true) ∧
  ∀ (H' : Hp) (p : Addr) (ys : List V), Same H H' → H p = none → H' p = some (.lst ys) → DpAll K H' ys ((enumP 0 rs).map pairD) → Q (.ref p) H'
theorem pairs_ok {c : Addr} (D : DefAt K mg "_law_pairs" sPairs c) (T : Txt K mg) : Cal P w K mg base CX0 1 "_law_pairs" ["_law_rows_here"] (spPairs K) := by
  have sc := scPairs
  refine def_ok0 D sc (fun vs H Q E h => ?_) (fun _ _ _ _ _ _ us hl => match us, hl with | [_], _ => rfl) (fun f A outer s H vs Q E hr h => ?_)
  · obtain ⟨v, ks, rs, rfl, _⟩ := h
    rfl
  · obtain ⟨v, ks, rs, rfl, hd, hz, okr, k⟩ := h
    refine ⟨_, (pss_one (ps_ret (pe_lc (own := [("_law_k", 1)]) (tt := tYes)  rfl sc.nd (pi_range1 (by rfl) T.range (pa_cons (pe_callB call_lenD (by rfl) T.len PySem.boot_len (pa_cons (pv 0) pa_nil)) pa_nil)) (blkOk_by (N := ["_law_rows_here", "_law_k"]) (sc := defScope sPairs) (own := [("_law_k", 1)]) (by decide +kernel)) (fun _ _ _ _ _ => (pg_name (i := 1) sc.nd rfl (Or.inl rfl))) (fun _ _ _ _ _ => pts_nil) (fun _ _ _ _ _ => (pe_tup (pa_cons (pv 1) (pa_cons (pe_ix (ixDC (K := K) rfl) (pv 0) (pv 1) (fun _ _ => rfl)) pa_nil))))))), ?_⟩
    have lm : (rs.map PyData.tuple).length = rs.length := List.length_map _
    refine ⟨_, rfl, v, _, _, rfl, hd, rfl, _, rfl, by omega, by omega, fun DD hD => ?_⟩
    refine lc_range (fun i H1 => Same H H1 ∧ ∃ ys : List V, H1 DD = some (.lst ys) ∧ DpAll K H1 ys (((enumP 0 rs).take i).map pairD)) ⟨fun b o e => by rw [upd_ne (ne_of_none e hD)]; exact e, [], upd_same, .nil⟩ ?_ ?_
    · rintro i H1 hi ⟨sm, ys, hl, hdd⟩
      rw [Int.toNat_natCast, lm] at hi
      have er : rs[i]? = some rs[i] := List.getElem?_eq_getElem hi
      have ep : (enumP 0 rs)[i]? = some (i, rs[i]) := by
        rw [enumP_get, er, Nat.zero_add]
        rfl
      simp only [Int.zero_add]
      refine ⟨rfl, _, rfl, _, rfl, _, rfl, rowsD rs, _, (i : Nat), .tuple rs[i], dp_same sm _ hd, rfl, rfl, atI_nat (by rw [List.getElem?_map, er]; rfl), fun w hw => ?_⟩
      refine ⟨by show 2 ≤ sizeLine; decide, fun p hp => ?_⟩
      have nDp : DD ≠ p := fun z => by rw [← z, hl] at hp; cases hp
      have sp : Same H1 (upd H1 p (.tup [.int (i : Nat), w])) := fun b o e => by
        rw [upd_ne (ne_of_none e hp)]
        exact e
      have ly : ys.length = i := by
        rw [dpLen hdd, List.length_map, List.length_take, enumP_length]
        omega
      refine ⟨ys, (upd_ne nDp).trans hl, small1000 (by omega), fun b o e => ?_, ys ++ [.ref p], upd_same, ?_⟩
      · rw [upd_ne (ne_of_none e hD)]
        exact sp _ _ (sm _ _ e)
      · have okp : ∀ q ∈ (enumP 0 rs).take i ++ [(i, rs[i])], isRow ks (.tuple q.2) = true := fun q hq => by
          rcases List.mem_append.mp hq with hq | hq
          · exact okr _ (enumP_mem (List.mem_of_mem_take hq))
          · rw [List.mem_singleton.mp hq]
            exact okr _ (List.getElem_mem hi)
        have e1 : (enumP 0 rs).take (i + 1) = (enumP 0 rs).take i ++ [(i, rs[i])] := by rw [List.take_add_one, ep]; rfl
        rw [e1]
        refine dpAll_upd ((upd_ne nDp).trans hl) _ (pairs_noL okp) ?_
        rw [List.map_append]
        exact dpApp (dpAll_same sp _ hdd) (.cons (.tup (SqT.of upd_same) (.cons (.int _) (.cons (dp_same sp _ hw) .nil))) .nil)
    · rintro H1 ⟨sm, ys, hl, hdd⟩
      rw [Int.toNat_natCast, lm, List.take_of_length_le (by rw [enumP_length]; exact Nat.le_refl _)] at hdd
      exact k H1 DD ys sm hD hl hdd
end
end RS
set_option Elab.async false
set_option maxRecDepth 100000
set_option maxHeartbeats 4000000
namespace RS
open PySem PySem.Spec PyProof.Rows L2 GX HQ
section
variable {P : Program} {w : World} {K : PySem.W.Frag} {mg : Str → Option Value} {base : Heap}
theorem scXInit : FnScope ["self", "order"] ["self", "order"] (defScope sXInit) := ⟨rfl, rfl, rfl, by decide +kernel, rfl, by decide +kernel, by decide +kernel⟩
theorem xinit_ok {f C : Addr} {fd : FuncData} (M : Mk K C f) (F : L2.Fun K "__init__" "Exchange.__init__" sXInit f fd) (X : TxX K C) (hm : mg "Exchange" = some (.ref C)) : MakC P w K mg base CX0 1 "Exchange" C ["self", "order"] (spXInit C) := by
  have sc := scXInit
  refine ⟨f, fd, M, ?_, hm, F.binds (fun _ _ _ _ _ _ us hl => match us, hl with | [_, _], _ => rfl)⟩
  refine F.ok sc (fun vs H Q E h => ?_) (fun cdv A outer s H vs Q E hr h => ?_)
  · obtain ⟨x, dx, vo, rfl, _⟩ := h
    rfl
  · obtain ⟨x, dx, vo, rfl, hx, k⟩ := h
    refine ⟨_, (pss_cons (ps_fld (pv 0) (pv 1) rfl) (pss_cons (ps_fld (pv 0) (pe_lst pa_nil) rfl) (pss_cons (ps_fld (pv 0) (pe_lst pa_nil) rfl) (pss_one (ps_fld (pv 0) pe_non rfl))))), ?_⟩
    refine ⟨_, rfl, _, rfl, x, C, dx, _, rfl, hx, X.cl, X.nO, by decide, ?_⟩
    refine ⟨Nat.zero_le _, fun G hG => ⟨_, rfl, x, C, dx, putF "order" vo [], rfl, ?_, X.cl, X.nG, (by show 1 < 1000; decide), ?_⟩⟩
    · rw [upd_ne (fun z => by rw [← z, upd_same] at hG; cases hG), upd_same]
    have hG0 := upd_no hG
    have nxG : x ≠ G := ne_of_none hx hG0
    refine ⟨Nat.zero_le _, fun W hW => ⟨_, rfl, x, C, dx, putF "going" (.ref G) (putF "order" vo []), rfl, ?_, X.cl, X.nW, (lenF (n := 1) (by show 1 ≤ 1; decide) (by decide)), ?_⟩⟩
    · rw [upd_ne (fun z => by rw [← z, upd_same] at hW; cases hW), upd_same]
    have hW1 := upd_no hW
    have nGW : G ≠ W := fun z => by rw [← z, upd_same] at hW1; cases hW1
    have hW0 := upd_no (upd_no hW1)
    have nxW : x ≠ W := ne_of_none hx hW0
    refine ⟨_, rfl, x, C, dx, putF "waiting" (.ref W) (putF "going" (.ref G) (putF "order" vo [])), rfl, upd_same, X.cl, X.nL, (lenF (n := 2) (lenF1 (n := 1) (by show 1 ≤ 1; decide)) (by decide)), ?_⟩
    refine k _ G W hG0 hW0 nGW ?_ ?_ ?_ fun b o e nb => ?_
    · rw [upd_same]
      exact congrArg (fun l => some (HO.ins C dx l)) (by
        show putF "last" .non (putF "waiting" (.ref W) (putF "going" (.ref G) [(("order" : Str), vo)])) = _
        rw [putF_ne xog]
        show putF "last" .non (putF "waiting" (.ref W) [(("order" : Str), vo), ("going", .ref G)]) = _
        rw [putF_ne xow, putF_ne xgw]
        show putF "last" .non [(("order" : Str), vo), ("going", .ref G), ("waiting", .ref W)] = _
        rw [putF_ne xol, putF_ne xgl, putF_ne xwl]
        rfl)
    · rw [upd_ne (Ne.symm nxG), upd_ne (Ne.symm nxG), upd_ne nGW, upd_ne (Ne.symm nxG), upd_same]
    · rw [upd_ne (Ne.symm nxW), upd_ne (Ne.symm nxW), upd_same]
    · rw [upd_ne nb, upd_ne nb, upd_ne (ne_of_none e hW0), upd_ne nb, upd_ne (ne_of_none e hG0), upd_ne nb]
      exact e
end
end RS
set_option Elab.async false
set_option maxRecDepth 100000
set_option maxHeartbeats 4000000
namespace RS
open PySem PySem.Spec PyProof.Rows L2 GX HQ
section
variable {P : Program} {w : World} {K : PySem.W.Frag} {mg : Str → Option Value} {base : Heap}
theorem lno {vo vl : V} {G W : Addr} {m : Str} (h1 : ¬ m = "order") (h2 : ¬ m = "going") (h3 : ¬ m = "waiting") (h4 : ¬ m = "last") : (fldsX vo G W vl).lookup m = none :=
  (lk_ne h1).trans ((lk_ne h2).trans ((lk_ne h3).trans ((lk_ne h4).trans rfl)))
theorem l_upd {H : Hp} {a : Addr} {o : HO} {P : HO → Prop} (h : ∀ o', H a = some o' → P o') : True := True.intro
theorem tuple_item {K : PySem.W.Frag} {H : Hp} {u : V} {os : List (Nat × Bool)} {q : Pr} (h : Dp K H u (itemD os q)) : ∃ a vr vt, u = .ref a ∧ SqT K H a [vr, vt] ∧ Dp K H vr (intsD (rankOf os q)) ∧ Dp K H vt (pairD q) := by
  cases h with
  | @tup a xs _ hS hI =>
    cases hI with
    | @cons vR _ _ _ h1 hI =>
      cases hI with
      | @cons vT _ _ _ h2 hI =>
        cases hI
        exact ⟨_, _, _, rfl, hS, h1, h2⟩
theorem scLetIn : FnScope ["self", "told", "entry"] ["self", "told"] (defScope sLetIn) := ⟨rfl, rfl, rfl, by decide +kernel, rfl, by decide +kernel, by decide +kernel⟩
theorem let_in_ok {f C : Addr} {fd : FuncData} (X : TxX K C) (M : MethAt K C "let_in" "Exchange.let_in" sLetIn f fd) (TQ : TxtQ mg) (cR : Cal P w K mg base CX0 2 "rank" ["order", "told"] (spRank K)) : MetC P w K mg base CX0 3 C "let_in" ["self", "told"] (spLetIn K C) := by
  have sc := scLetIn
  refine ⟨f, fd, X.cl, M.me, ?_, M.fn.binds (fun _ _ _ _ _ _ us hl => match us, hl with | [_, _], _ => rfl)⟩
  refine M.fn.ok sc (fun vs H Q E h => ?_) (fun cdv A outer s H vs Q E hr h => ?_)
  · obtain ⟨x, G, W, vt, ks, os, H0, gq, ww, lq, q, rfl, _⟩ := h
    rfl
  · obtain ⟨x, G, W, vt, ks, os, H0, gq, ww, lq, q, rfl, ex, ht, hf, hq, hsz, k⟩ := h
    have hu := hr.units
    have hu0 := hr.units0
    obtain ⟨dx, vo, vl, hx, ho, hl⟩ := ex.ob
    refine ⟨_, (pss_cons (ps_set (i := 2) sc.nd rfl (Or.inl rfl) (pe_tup (pa_cons (pe_c cR hr (by decide) (by rfl) pass0 (pa_cons (pe_fld (pv 0) rfl) (pa_cons (pv 1) pa_nil))) (pa_cons (pv 1) pa_nil)))) (pss_one (ps_if ((pw_and (pt_cmp (pc_notN (pe_fld (pv 0) rfl))) (pw_and1 (pt_cmpR (op_ltT hu0) (pe_ix ix_tup (pv 2) pe_int (fun _ _ => rfl)) (pe_fld (pv 0) rfl) (nomark _)))).pt) (pss_one (ps_expr (pe_bm PySem.F.plainAttrs_list PySem.F.slot_list_append PySem.F.type_list_append mt_append (pe_fld (pv 0) rfl) (pa_cons (pv 2) pa_nil)))) (pss_one (ps_expr (pe_callBfun (call_push hu) (by rfl) TQ.push (pa_cons (pe_fld (pv 0) rfl) (pa_cons (pv 2) pa_nil)))))))), ?_⟩
    refine ⟨_, rfl, x, C, dx, _, _, rfl, hx, X.cl, X.nO, fx_order, _, rfl, vo, vt, os, q, rfl, dp_same ex.same _ ho, ht, ex.oz, hf, fun H1 p1 s1 hp1 hL1 => ?_⟩
    refine ⟨_, rfl, by show 2 ≤ sizeLine; decide, fun p2 hp2 => ?_⟩
    obtain ⟨H2, eH2⟩ : ∃ H2 : Hp, H2 = upd H1 p2 (.tup [.ref p1, vt]) := ⟨_, rfl⟩
    have s2 : Same H H2 := fun b o e => by
      rw [eH2, upd_ne (ne_of_none (s1 _ _ e) hp2)]
      exact s1 _ _ e
    have n12 : p1 ≠ p2 := fun z => by rw [← z, hL1] at hp2; cases hp2
    have gp1 : H2 p1 = some (.tup ((rankOf os q).map V.int)) := by rw [eH2, upd_ne n12]; exact hL1
    have gp2 : H2 p2 = some (.tup [.ref p1, vt]) := by rw [eH2, upd_same]
    have hI : Dp K H2 (.ref p2) (itemD os q) := .tup (SqT.of gp2) (.cons (ints_dp (SqT.of gp1)) (.cons (dp_same s2 _ ht) .nil))
    have ex2 := ex.grow s2
    have hx2 := s2 _ _ hx
    rw [← eH2]
    clear eH2
    refine ⟨_, rfl, x, C, dx, _, _, rfl, hx2, X.cl, X.nL, fx_last, _, rfl, ?_⟩
    have goingWay : (∀ l, lq = some l → before os q l = false) → ∀ σ : L2.St, σ[0]? = some (some (.ref x)) → σ[2]? = some (some (.ref p2)) → True := fun _ _ _ _ => True.intro
    obtain ⟨zs, hg, F⟩ := ex2.g
    obtain ⟨zw, hw⟩ := ex2.w
    have lg := hg.len
    have lw := hw.len
    have push : (∀ l, lq = some l → before os q l = false) → ∀ ys : List Z, ys.Perm (zs ++ [(.ref p2, itemD os q)]) → From ltz ys.length (nth ys) 0 → Q .non (hp H2 G ys) := fun hno ys py F2 => by
      have gd2 : HQ.Good K H2 G (zs ++ [(.ref p2, itemD os q)]) := good_of (l := gq ++ [q]) hg.g (by rw [List.map_append, hg.gd, List.map_append]; rfl) (fun z hz => by
        rcases List.mem_append.mp hz with hz | hz
        · exact hg.zd z hz
        · rw [List.mem_singleton.mp hz]; exact hI) (fun z hz => by
        rcases List.mem_append.mp hz with hz | hz
        · exact (ex.gok z hz).2
        · rw [List.mem_singleton.mp hz]; exact hq)
      have p2' : ((gq ++ [q]).map (itemD os)).Perm (ys.map (·.2)) := by
        rw [List.map_append, ← hg.gd]
        have := (py.map (·.2)).symm
        rw [List.map_append] at this
        exact this
      obtain ⟨gq', pl, el⟩ := perm_unmap p2' (gq ++ [q]) rfl
      have pq : gq'.Perm (q :: gq) := pl.symm.trans (List.perm_append_comm (l₁ := gq) (l₂ := [q]))
      have fr : Frx H2 (hp H2 G ys) x G W := Frx.updG
      have kp := ex2.kp fr
      refine k _ gq' ww ⟨ex2.same2 fr, ex.x0, ex.g0, ex.w0, ex.gw, ex.oz, ⟨dx, vo, vl, ?_, ho, (hl.move (.of s2)).move kp⟩, ⟨ys, ⟨upd_same, el.symm, fun z hz => gd2.dp z (py.mem_iff.mp hz) _⟩, F2⟩, ⟨zw, hw.move ex.wok kp ((upd_ne (Ne.symm ex.gw)).trans hw.g)⟩, fun y hy => ?_, ex.wok⟩ (.inr ⟨hno, pq, rfl⟩) ((Frx.of s2).trans fr)
      · exact (upd_ne (fun z => by rw [z, hg.g] at hx2; cases hx2)).trans hx2
      · rcases List.mem_cons.mp (pq.mem_iff.mp hy) with e | hy
        · rw [e]; exact ⟨hf, hq⟩
        · exact ex.gok y hy
    rcases hl with ⟨rfl, rfl⟩ | ⟨l, aL, rfl, rfl, hLs⟩
    · refine iteF ?_
      refine iteF ?_
      refine ⟨_, rfl, x, C, dx, _, _, rfl, hx2, X.cl, X.nG, fx_going, _, rfl, G, zs, (.ref p2, itemD os q), rfl, hg.g, ?_, small1000 (by omega), F, fun ys py F2 => push (fun l h => nomatch h) ys py F2⟩
      exact good_of (l := gq ++ [q]) hg.g (by rw [List.map_append, hg.gd, List.map_append]; rfl) (fun z hz => by
        rcases List.mem_append.mp hz with hz | hz
        · exact hg.zd z hz
        · rw [List.mem_singleton.mp hz]; exact hI) (fun z hz => by
        rcases List.mem_append.mp hz with hz | hz
        · exact (ex.gok z hz).2
        · rw [List.mem_singleton.mp hz]; exact hq)
    · refine iteT ?_
      refine ⟨_, rfl, p2, _, _, _, rfl, rfl, SqT.of gp2, atI_nat (j := 0) rfl, _, rfl, x, C, dx, _, _, rfl, hx2, X.cl, X.nL, fx_last, p1, aL, _, _, rfl, rfl, SqT.of gp1, sqT_same s2 hLs, _, rfl, ?_⟩
      refine ite2 (fun hb => ?_) (fun hb => ?_)
      · refine ⟨_, rfl, x, C, dx, _, _, rfl, hx2, X.cl, X.nW, fx_waiting, .inl ⟨rfl, _, SqL.of hw.g⟩, _, rfl, W, _, _, rfl, rfl, hw.g, small1000 (by rw [List.length_map]; omega), ?_⟩
        have put := hw.put hI ex.wok hq
        rw [List.map_append] at put
        have fr : Frx H2 (upd H2 W (.lst (zw.map (·.1) ++ [.ref p2]))) x G W := Frx.updW
        have kp := ex2.kp fr
        refine k _ gq (ww ++ [q]) ⟨ex2.same2 fr, ex.x0, ex.g0, ex.w0, ex.gw, ex.oz, ⟨dx, vo, .ref aL, ?_, ho, .inr ⟨l, aL, rfl, rfl, sqT_kp kp (sqT_same s2 hLs)⟩⟩, ⟨zs, hg.move ex.gok kp ((upd_ne ex.gw).trans hg.g), F⟩, ⟨_, put⟩, ex.gok, fun y hy => ?_⟩ (.inl ⟨l, rfl, hb, rfl, rfl⟩) ((Frx.of s2).trans fr)
        · exact (upd_ne (fun z => by rw [z, hw.g] at hx2; cases hx2)).trans hx2
        · rcases List.mem_append.mp hy with hy | hy
          · exact ex.wok y hy
          · rw [List.mem_singleton.mp hy]; exact ⟨hf, hq⟩
      · refine ⟨_, rfl, x, C, dx, _, _, rfl, hx2, X.cl, X.nG, fx_going, _, rfl, G, zs, (.ref p2, itemD os q), rfl, hg.g, ?_, small1000 (by omega), F, fun ys py F2 => push (fun l' h => by
          cases h
          cases e : before os q l with
          | false => rfl
          | true => exact absurd e hb) ys py F2⟩
        exact good_of (l := gq ++ [q]) hg.g (by rw [List.map_append, hg.gd, List.map_append]; rfl) (fun z hz => by
          rcases List.mem_append.mp hz with hz | hz
          · exact hg.zd z hz
          · rw [List.mem_singleton.mp hz]; exact hI) (fun z hz => by
          rcases List.mem_append.mp hz with hz | hz
          · exact (ex.gok z hz).2
          · rw [List.mem_singleton.mp hz]; exact hq)
theorem scLetOut : FnScope ["self", "told"] ["self"] (defScope sLetOut) := ⟨rfl, rfl, rfl, by decide +kernel, rfl, by decide +kernel, by decide +kernel⟩
theorem let_out_ok {f C : Addr} {fd : FuncData} (X : TxX K C) (M : MethAt K C "let_out" "Exchange.let_out" sLetOut f fd) (TQ : TxtQ mg) : MetC P w K mg base CX0 1 C "let_out" ["self"] (spLetOut K C) := by
  have sc := scLetOut
  refine ⟨f, fd, X.cl, M.me, ?_, M.fn.binds (fun _ _ _ _ _ _ us hl => match us, hl with | [_], _ => rfl)⟩
  refine M.fn.ok sc (fun vs H Q E h => ?_) (fun cdv A outer s H vs Q E hr h => ?_)
  · obtain ⟨x, G, W, ks, os, H0, gq, ww, lq, rfl, _⟩ := h
    rfl
  · obtain ⟨x, G, W, ks, os, H0, gq, ww, lq, rfl, ex, hne, k⟩ := h
    have hu := hr.units
    obtain ⟨dx, vo, vl, hx, ho, hl⟩ := ex.ob
    obtain ⟨zs, hg, F⟩ := ex.g
    obtain ⟨zw, hw⟩ := ex.w
    have lg := hg.len
    refine ⟨_, (pss_cons (ps_asg (pe_callBfun (call_popH hu) (by rfl) TQ.pop (pa_cons (pe_fld (pv 0) rfl) pa_nil)) (pg_tup (by rfl) (pgs_cons (pg_fld (pv 0)) (pgs_cons (pg_name (i := 1) sc.nd rfl (Or.inl rfl)) pgs_nil)))) (pss_one (ps_ret (pv 1)))), ?_⟩
    have gd := hg.good ex.gok
    refine ⟨_, rfl, x, C, dx, _, _, rfl, hx, X.cl, X.nG, fx_going, G, zs, rfl, hg.g, ?_, gd, F, fun z ys p F2 m => ?_⟩
    · cases gq with
      | nil => exact absurd rfl hne
      | cons a l => rw [lg]; exact Nat.succ_pos _
    have p2 : (gq.map (itemD os)).Perm (z.2 :: ys.map (·.2)) := by
      rw [← hg.gd]
      exact p.map _
    obtain ⟨l, pl, el⟩ := perm_unmap p2 gq rfl
    cases l with
    | nil => cases el
    | cons q gq' =>
      rw [List.map_cons] at el
      injection el with e1 e2
      have zin : z ∈ zs := p.mem_iff.mpr List.mem_cons_self
      have qin : q ∈ gq := pl.mem_iff.mpr List.mem_cons_self
      have yin : ∀ y ∈ ys, y ∈ zs := fun y hy => p.mem_iff.mpr (List.mem_cons_of_mem _ hy)
      have gin : ∀ y ∈ gq', y ∈ gq := fun y hy => pl.mem_iff.mpr (List.mem_cons_of_mem _ hy)
      have hz1 : Dp K (hp H G ys) z.1 (itemD os q) := by
        rw [e1]
        exact gd.dp z zin _
      obtain ⟨pz, vR, vT, ez, hS, h1, h2⟩ := tuple_item hz1
      obtain ⟨aR, rfl, hSR⟩ := dp_ints h1
      have nxG : x ≠ G := fun z => by rw [z, hg.g] at hx; cases hx
      have hx1 : hp H G ys x = some (.ins C dx (fldsX vo G W vl)) := (upd_ne nxG).trans hx
      refine ⟨pz, _, ez, hS, rfl, _, _, rfl, ?_⟩
      refine ⟨_, rfl, x, C, dx, _, rfl, hx1, X.cl, X.nL, (by show 4 < 1000; decide), ?_⟩
      refine ⟨_, _, rfl, rfl, ?_⟩
      refine ⟨_, rfl, ?_⟩
      rw [fp_last]
      have fr : Frx H (upd (hp H G ys) x (.ins C dx (fldsX vo G W (.ref aR)))) x G W := Frx.updG.trans Frx.updx
      have kp := ex.kp fr
      have kp2 : KpS (hp H G ys) (upd (hp H G ys) x (.ins C dx (fldsX vo G W (.ref aR)))) := .ins hx1
      refine k _ vT q gq' ⟨ex.same2 fr, ex.x0, ex.g0, ex.w0, ex.gw, ex.oz, ⟨dx, vo, .ref aR, upd_same, ho, .inr ⟨q, aR, rfl, rfl, sqT_kp kp2 hSR⟩⟩, ⟨ys, ⟨(upd_ne (Ne.symm nxG)).trans upd_same, e2.symm, fun y hy => ?_⟩, F2⟩, ⟨zw, hw.move ex.wok kp ?_⟩, fun y hy => ex.gok y (gin y hy), ex.wok⟩ pl (fun y hy => ?_) (dp_kp kp2 _ (pair_noL (ex.gok q qin).2) h2) fr
      · have q1 := gd.dp y (yin y hy) (ys.map (·.1))
        obtain ⟨q', hq', e'⟩ := hg.zq (yin y hy)
        exact dp_kp kp2 _ (by rw [e']; exact item_noL (ex.gok q' hq').2) q1
      · have nxW : x ≠ W := fun z => by rw [z, hw.g] at hx; cases hx
        exact (upd_ne (Ne.symm nxW)).trans ((upd_ne (Ne.symm ex.gw)).trans hw.g)
      · have : itemD os y ∈ ys.map (·.2) := by
          rw [← e2]
          exact List.mem_map.mpr ⟨y, hy, rfl⟩
        obtain ⟨t, ht, et⟩ := List.mem_map.mp this
        have q1 := m t ht
        unfold ltz at q1
        have et : t.2 = itemD os y := et
        rw [et, ← e1] at q1
        exact item_le q1
theorem scIsOver : FnScope ["self"] ["self"] (defScope sIsOver) := ⟨rfl, rfl, rfl, by decide +kernel, rfl, by decide +kernel, by decide +kernel⟩
theorem is_over_ok {f C : Addr} {fd : FuncData} (X : TxX K C) (M : MethAt K C "is_over" "Exchange.is_over" sIsOver f fd) : MetC P w K mg base CX0 1 C "is_over" ["self"] (spIsOver K C) := by
  have sc := scIsOver
  refine ⟨f, fd, X.cl, M.me, ?_, M.fn.binds (fun _ _ _ _ _ _ us hl => match us, hl with | [_], _ => rfl)⟩
  refine M.fn.ok sc (fun vs H Q E h => ?_) (fun cdv A outer s H vs Q E hr h => ?_)
  · obtain ⟨x, G, W, ks, os, H0, gq, ww, lq, rfl, _⟩ := h
    rfl
  · obtain ⟨x, G, W, ks, os, H0, gq, ww, lq, rfl, ex, k⟩ := h
    obtain ⟨dx, vo, vl, hx, ho, hl⟩ := ex.ob
    obtain ⟨zs, hg, F⟩ := ex.g
    refine ⟨_, (pss_one (ps_ret (pe_notT (pe_fld (pv 0) rfl)))), ?_⟩
    refine ⟨_, rfl, x, C, dx, _, _, rfl, hx, X.cl, X.nG, fx_going, _, .inl ⟨_, SqL.of hg.g, rfl⟩, ?_⟩
    have e : (!!(zs.map (·.1)).isEmpty) = gq.isEmpty := by
      have := hg.len
      cases zs <;> cases gq <;> simp at this ⊢
    rw [e]
    exact k
theorem scHolds : FnScope ["self"] ["self"] (defScope sHolds) := ⟨rfl, rfl, rfl, by decide +kernel, rfl, by decide +kernel, by decide +kernel⟩
theorem holds_ok {f C : Addr} {fd : FuncData} (X : TxX K C) (M : MethAt K C "holds" "Exchange.holds" sHolds f fd) (T : Txt K mg) : MetC P w K mg base CX0 1 C "holds" ["self"] (spHolds K C) := by
  have sc := scHolds
  refine ⟨f, fd, X.cl, M.me, ?_, M.fn.binds (fun _ _ _ _ _ _ us hl => match us, hl with | [_], _ => rfl)⟩
  refine M.fn.ok sc (fun vs H Q E h => ?_) (fun cdv A outer s H vs Q E hr h => ?_)
  · obtain ⟨x, G, W, ks, os, H0, gq, ww, lq, rfl, _⟩ := h
    rfl
  · obtain ⟨x, G, W, ks, os, H0, gq, ww, lq, rfl, ex, k⟩ := h
    obtain ⟨dx, vo, vl, hx, ho, hl⟩ := ex.ob
    obtain ⟨zs, hg, F⟩ := ex.g
    obtain ⟨zw, hw⟩ := ex.w
    have lg := hg.len
    have lw := hw.len
    refine ⟨_, (pss_one (ps_ret (pe_op op_add (pe_callB call_len_seq (by rfl) T.len PySem.boot_len (pa_cons (pe_fld (pv 0) rfl) pa_nil)) (pe_callB call_len_seq (by rfl) T.len PySem.boot_len (pa_cons (pe_fld (pv 0) rfl) pa_nil))))), ?_⟩
    refine ⟨_, rfl, x, C, dx, _, _, rfl, hx, X.cl, X.nG, fx_going, G, _, rfl, .inl (SqL.of hg.g), _, rfl, x, C, dx, _, _, rfl, hx, X.cl, X.nW, fx_waiting, W, _, rfl, .inl (SqL.of hw.g), _, _, rfl, rfl, ?_⟩
    rw [List.length_map, List.length_map, lg, lw]
    show Q (V.int ((gq.length : Int) + (ww.length : Int))) H
    rw [← Int.natCast_add]
    exact k
theorem scNext : FnScope ["self"] ["self"] (defScope sNext) := ⟨rfl, rfl, rfl, by decide +kernel, rfl, by decide +kernel, by decide +kernel⟩
theorem next_ok {f C : Addr} {fd : FuncData} (X : TxX K C) (M : MethAt K C "begin_next" "Exchange.begin_next" sNext f fd) (TQ : TxtQ mg) : MetC P w K mg base CX0 1 C "begin_next" ["self"] (spNext K C) := by
  have sc := scNext
  refine ⟨f, fd, X.cl, M.me, ?_, M.fn.binds (fun _ _ _ _ _ _ us hl => match us, hl with | [_], _ => rfl)⟩
  refine M.fn.ok sc (fun vs H Q E h => ?_) (fun cdv A outer s H vs Q E hr h => ?_)
  · obtain ⟨x, G, W, ks, os, H0, gq, ww, lq, rfl, _⟩ := h
    rfl
  · obtain ⟨x, G, W, ks, os, H0, gq, ww, lq, rfl, ex, hsz, k⟩ := h
    have hu := hr.units
    obtain ⟨dx, vo, vl, hx, ho, hl⟩ := ex.ob
    obtain ⟨zw, hw⟩ := ex.w
    have lw := hw.len
    have nxW : x ≠ W := fun z => by rw [z, hw.g] at hx; cases hx
    refine ⟨_, (pss_cons (ps_fld (pv 0) (pe_fld (pv 0) rfl) rfl) (pss_cons (ps_expr (pe_callBfun (call_heapify hu) (by rfl) TQ.heapify (pa_cons (pe_fld (pv 0) rfl) pa_nil))) (pss_cons (ps_fld (pv 0) (pe_lst pa_nil) rfl) (pss_one (ps_fld (pv 0) pe_non rfl))))), ?_⟩
    refine ⟨_, rfl, x, C, dx, _, _, rfl, hx, X.cl, X.nW, fx_waiting, _, rfl, x, C, dx, _, rfl, hx, X.cl, X.nG, (by show 4 < 1000; decide), ?_⟩
    rw [fp_going]
    have f1 : Frx H (upd H x (.ins C dx (fldsX vo W W vl))) x G W := Frx.updx
    have hw1 := hw.move ex.wok (ex.kp f1) ((upd_ne (Ne.symm nxW)).trans hw.g)
    have gd := hw1.good ex.wok
    refine ⟨_, rfl, x, C, dx, _, _, rfl, upd_same, X.cl, X.nG, fx_going, W, zw, rfl, hw1.g, gd, by omega, fun ys p F => ?_⟩
    have hx2 : hp (upd H x (.ins C dx (fldsX vo W W vl))) W ys x = some (.ins C dx (fldsX vo W W vl)) := (upd_ne nxW).trans upd_same
    refine ⟨Nat.zero_le _, fun W' hW' => ⟨_, rfl, x, C, dx, _, rfl, (upd_ne (fun z => by rw [← z, hx2] at hW'; cases hW')).trans hx2, X.cl, X.nW, (by show 4 < 1000; decide), ?_⟩⟩
    rw [fp_waiting]
    refine ⟨_, rfl, x, C, dx, _, rfl, upd_same, X.cl, X.nL, (by show 4 < 1000; decide), ?_⟩
    rw [fp_last]
    have hW'1 := upd_no hW'
    have hW'0 := upd_no hW'1
    have nWW : W ≠ W' := fun z => by rw [← z, hw.g] at hW'0; cases hW'0
    have nxW' : x ≠ W' := ne_of_none hx hW'0
    have fr : Frx H (upd (upd (upd (hp (upd H x (.ins C dx (fldsX vo W W vl))) W ys) W' (.lst [])) x (.ins C dx (fldsX vo W W' vl))) x (.ins C dx (fldsX vo W W' .non))) x G W := fun b o e n1 n2 n3 => by
      rw [upd_ne n1, upd_ne n1, upd_ne (ne_of_none e hW'0)]
      exact (upd_ne n3).trans ((upd_ne n1).trans e)
    have kp := ex.kp fr
    obtain ⟨gq', pl, el⟩ := perm_unmap (p.map (·.2)).symm ww hw.gd.symm
    refine k _ W' gq' ⟨ex.same2 fr, ex.x0, ex.w0, ex.same.free hW'0, nWW, ex.oz, ⟨dx, vo, .non, upd_same, ho, .inl ⟨rfl, rfl⟩⟩, ⟨ys, ⟨?_, el.symm, fun y hy => ?_⟩, F⟩, ⟨[], ?_, rfl, fun _ h => nomatch h⟩, fun q hq => ex.wok q (pl.mem_iff.mpr hq), (fun _ h => nomatch h)⟩ pl.symm hW'0 fr
    · rw [upd_ne (Ne.symm nxW), upd_ne (Ne.symm nxW), upd_ne nWW]
      exact upd_same
    · obtain ⟨q', hq', e'⟩ := hw.zq (p.mem_iff.mp hy)
      exact dp_kp kp _ (by rw [e']; exact item_noL (ex.wok q' hq').2) (hw.zd y (p.mem_iff.mp hy))
    · rw [upd_ne (Ne.symm nxW'), upd_ne (Ne.symm nxW'), upd_same]
      rfl
end
end RS
set_option Elab.async false
set_option maxRecDepth 100000
set_option maxHeartbeats 4000000
namespace RS
open PySem PySem.Spec PyProof.Rows L2 GX
/-! ### what is told: new lists of pairs -/
structure Runs (K : PySem.W.Frag) (ks : List Bool) (H H' : Hp) (as : List Addr) (rs : List (List (Nat × List PyData))) : Prop where
  len : as.length = rs.length
  nd : as.Nodup
  fresh : ∀ a ∈ as, H a = none
  at_ : ∀ (i : Nat) (a : Addr) (r : List (Nat × List PyData)), as[i]? = some a → rs[i]? = some r → ∃ x, H' a = some (.lst x) ∧ DpAll K H' x (r.map pairD)
  ok : ∀ r ∈ rs, ∀ q ∈ r, isRow ks (.tuple q.2) = true
section
variable {K : PySem.W.Frag} {ks : List Bool} {H H' : Hp} {as : List Addr} {rs : List (List (Nat × List PyData))}
theorem Runs.nil : Runs K ks H H' [] [] := ⟨rfl, .nil, (fun _ h => nomatch h), fun i a r h => by simp at h, (fun _ h => nomatch h)⟩
theorem Runs.tracked (R : Runs K ks H H' as rs) {a : Addr} (ha : a ∈ as) : ∃ x, H' a = some (.lst x) := by
  obtain ⟨i, hi, e⟩ := List.getElem_of_mem ha
  have hi2 : i < rs.length := by rw [← R.len]; exact hi
  obtain ⟨x, h, _⟩ := R.at_ i a rs[i] (by rw [List.getElem?_eq_getElem hi, e]) (List.getElem?_eq_getElem hi2)
  exact ⟨x, h⟩
theorem Runs.same {H2 : Hp} (R : Runs K ks H H' as rs) (s : Same H' H2) : Runs K ks H H2 as rs := ⟨R.len, R.nd, R.fresh, fun i a r h1 h2 => by
  obtain ⟨x, h, d⟩ := R.at_ i a r h1 h2
  exact ⟨x, s _ _ h, dpAll_same s _ d⟩, R.ok⟩
theorem Runs.upd_ (R : Runs K ks H H' as rs) {b : Addr} {xs u : List V} (hb : H' b = some (.lst xs)) (n : b ∉ as) : Runs K ks H (upd H' b (.lst u)) as rs := ⟨R.len, R.nd, R.fresh, fun i a r h1 h2 => by
  obtain ⟨x, h, d⟩ := R.at_ i a r h1 h2
  exact ⟨x, (upd_ne (fun z => n (by rw [← z]; exact List.mem_of_getElem? h1))).trans h, dpAll_upd hb _ (pairs_noL (R.ok r (List.mem_of_getElem? h2))) d⟩, R.ok⟩
theorem Runs.snoc (R : Runs K ks H H' as rs) {a : Addr} {r : List (Nat × List PyData)} {x : List V} (h : H' a = some (.lst x)) (d : DpAll K H' x (r.map pairD)) (hf : H a = none) (n : a ∉ as) (ok : ∀ q ∈ r, isRow ks (.tuple q.2) = true) : Runs K ks H H' (as ++ [a]) (rs ++ [r]) := by
  refine ⟨by simp [R.len], ?_, fun b hb => ?_, fun i b q h1 h2 => ?_, fun q hq => ?_⟩
  · refine List.nodup_append.mpr ⟨R.nd, by simp, fun x hx y hy => ?_⟩
    rw [List.mem_singleton.mp hy]
    exact fun z => n (by rw [← z]; exact hx)
  · rcases List.mem_append.mp hb with hb | hb
    · exact R.fresh b hb
    · rw [List.mem_singleton.mp hb]; exact hf
  · by_cases hi : i < as.length
    · rw [List.getElem?_append_left hi] at h1
      rw [List.getElem?_append_left (by rw [← R.len]; exact hi)] at h2
      exact R.at_ i b q h1 h2
    · have hi2 : i = as.length := by
        have := (List.getElem?_eq_some_iff.mp h1).1
        rw [List.length_append, List.length_singleton] at this
        omega
      subst hi2
      have e1 : (as ++ [a])[as.length]? = some a := by simp
      have e2 : (rs ++ [r])[as.length]? = some r := by rw [R.len]; simp
      rw [e1] at h1
      rw [e2] at h2
      cases h1
      cases h2
      exact ⟨x, h, d⟩
  · rcases List.mem_append.mp hq with hq | hq
    · exact R.ok q hq
    · rw [List.mem_singleton.mp hq]; exact ok
end
end RS
set_option Elab.async false
set_option maxRecDepth 100000
set_option maxHeartbeats 4000000
namespace RS
open PySem PySem.Spec PyProof.Rows L2 GX HQ
section
variable {P : Program} {w : World} {K : PySem.W.Frag} {mg : Str → Option Value} {base : Heap}
theorem Handed.rowsOk {H : Hp} {vk vo vr : V} {ks : List Bool} {os : List (Nat × Bool)} {n : Int} {rs : List (List PyData)} (h : Handed K H vk vo vr ks os n rs) : RowsOk os ks (enumP 0 rs) := fun q hq => by
  have := (h.row q.2 (enumP_mem hq)).1
  exact ⟨row_fits this h.ok, this⟩
theorem cutV_upto {xs : List V} {k : Nat} : cutV xs none (some (k : Nat)) = xs.take k := by
  unfold cutV
  rw [HT.sIx_nat, HT.sIx_none, List.drop_zero, Nat.sub_zero]
  by_cases h : k ≤ xs.length
  · rw [Nat.min_eq_left h]
  · rw [Nat.min_eq_right (by omega), List.take_of_length_le (Nat.le_refl _), List.take_of_length_le (by omega)]
theorem cutV_from' {xs : List V} {k : Nat} : cutV xs (some (k : Nat)) none = xs.drop k := by
  by_cases h : k ≤ xs.length
  · exact cutV_from h
  · unfold cutV
    rw [HT.sIx_nat, HT.sIx_none, Nat.min_eq_right (by omega), List.drop_of_length_le (Nat.le_refl _), List.drop_of_length_le (by omega)]
    simp
theorem scExchanged : FnScope ["kinds", "order", "size", "rows", "coming", "room", "came", "runs", "run"] ["kinds", "order", "size", "rows"] (defScope sExchanged) := ⟨rfl, rfl, rfl, by decide +kernel, rfl, by decide +kernel, by decide +kernel⟩
structure Exch (P : Program) (w : World) (K : PySem.W.Frag) (mg : Str → Option Value) (base : Heap) (C : Addr) : Prop where
  new : MakC P w K mg base CX0 1 "Exchange" C ["self", "order"] (spXInit C)
  inn : MetC P w K mg base CX0 3 C "let_in" ["self", "told"] (spLetIn K C)
  out : MetC P w K mg base CX0 1 C "let_out" ["self"] (spLetOut K C)
  over : MetC P w K mg base CX0 1 C "is_over" ["self"] (spIsOver K C)
  holds : MetC P w K mg base CX0 1 C "holds" ["self"] (spHolds K C)
  next : MetC P w K mg base CX0 1 C "begin_next" ["self"] (spNext K C)
def spExchanged (K : PySem.W.Frag) (pK pW pR : Addr) : Sp := fun vs H Q _ => ∃ (vk vo vr : V) (ks : List Bool) (os : List (Nat × Bool)) (n : Nat) (rs : List (List PyData)), vs = [vk, vo, .int (n : Nat), vr] ∧ Handed K H vk vo vr ks os n rs ∧ Tabs3 H pK pW pR ∧
  ∀ (H' : Hp) (p : Addr) (as : List Addr) (runs : List (List (Nat × List PyData))), Same H H' → H p = none → p ∉ as → H' p = some (.lst (as.map V.ref)) → Runs K ks H H' as runs → RunsTo (before os) ((enumP 0 rs).take n) ((enumP 0 rs).drop n) runs → runs.length ≤ 120 → Q (.ref p) H'
theorem RunsTo.permL {α : Type} {lt : α → α → Bool} {g g2 left : List α} {rs : List (List α)} (e : g2.Perm g) (h : RunsTo lt g left rs) : RunsTo lt g2 left rs := by
  cases h with
  | done =>
    have z := e.eq_nil
    subst z
    exact .done _
  | more hr t m => exact .more (fun z => hr (by rw [z] at e; exact e.symm.eq_nil)) (t.permL e) m
/-- lists of the caller's own beside a room -/
structure Own (K : PySem.W.Frag) (ks : List Bool) (H H' : Hp) (G W RS : Addr) (as : List Addr) (runs : List (List Pr)) : Prop where
  rs : H' RS = some (.lst (as.map V.ref))
  n : RS ∉ as
  g : RS ≠ G
  w : RS ≠ W
  R : Runs K ks H H' as runs
  a : ∀ a ∈ as, a ≠ G ∧ a ≠ W
theorem Runs.kp {ks : List Bool} {H H' H2 : Hp} {as : List Addr} {rs : List (List Pr)} (R : Runs K ks H H' as rs) (k : KpS H' H2) (e : ∀ a ∈ as, H2 a = H' a) : Runs K ks H H2 as rs := ⟨R.len, R.nd, R.fresh, fun i a r h1 h2 => by
  obtain ⟨x, h, d⟩ := R.at_ i a r h1 h2
  exact ⟨x, (e a (List.mem_of_getElem? h1)).trans h, dpAll_kp k _ (pairs_noL (R.ok r (List.mem_of_getElem? h2))) d⟩, R.ok⟩
section
variable {C : Addr} {ks : List Bool} {os : List (Nat × Bool)} {H0 H H' H2 : Hp} {x G W RS : Addr} {gq ww : List Pr} {lq : Option Pr} {as : List Addr} {runs : List (List Pr)}
theorem frx_at (ex : ExAt K C ks os H0 H' x G W gq ww lq) (f : Frx H' H2 x G W) {a : Addr} {xs : List V} (e : H' a = some (.lst xs)) (g : a ≠ G) (w : a ≠ W) : H2 a = some (.lst xs) := f a _ e (ex.nex e) g w
theorem Own.frx (o : Own K ks H H' G W RS as runs) (ex : ExAt K C ks os H0 H' x G W gq ww lq) (f : Frx H' H2 x G W) : Own K ks H H2 G W RS as runs :=
  ⟨frx_at ex f o.rs o.g o.w, o.n, o.g, o.w, o.R.kp (ex.kp f) fun a ha => by
    obtain ⟨y, hy⟩ := o.R.tracked ha
    rw [hy]
    exact frx_at ex f hy (o.a a ha).1 (o.a a ha).2, o.a⟩
theorem Own.same (o : Own K ks H H' G W RS as runs) (s : Same H' H2) : Own K ks H H2 G W RS as runs := ⟨s _ _ o.rs, o.n, o.g, o.w, o.R.same s, o.a⟩
theorem Own.upd_ (o : Own K ks H H' G W RS as runs) {b : Addr} {xs u : List V} (hb : H' b = some (.lst xs)) (n1 : b ≠ RS) (n2 : b ∉ as) : Own K ks H (upd H' b (.lst u)) G W RS as runs :=
  ⟨(upd_ne (Ne.symm n1)).trans o.rs, o.n, o.g, o.w, o.R.upd_ hb n2, o.a⟩
end
theorem exchanged_ok {c pK pW pR C : Addr} (D : DefAt K mg "exchanged" sExchanged c) (T : Txt K mg) (cN : Cal P w K mg base CX0 7 "numbered" ["kinds", "order", "size", "rows"] (spNumbered K pK pW pR)) (ce : Exch P w K mg base C) :
    Cal P w K mg base CX0 8 "exchanged" ["kinds", "order", "size", "rows"] (spExchanged K pK pW pR) := by
  have sc := scExchanged
  refine def_ok0 D sc (fun vs H Q E h => ?_) (fun _ _ _ _ _ _ us hl => match us, hl with | [_, _, _, _], _ => rfl) (fun f A outer s H vs Q E hr h => ?_)
  · obtain ⟨vk, vo, vr, ks, os, n, rs, rfl, _⟩ := h
    rfl
  · obtain ⟨vk, vo, vr, ks, os, n, rs, rfl, h, ht, k⟩ := h
    refine ⟨_, (pss_cons (ps_set (i := 4) sc.nd rfl (Or.inl rfl) (pe_c cN hr (by decide) (by rfl) pass0 (pa_cons (pv 0) (pa_cons (pv 1) (pa_cons (pv 2) (pa_cons (pv 3) pa_nil)))))) (pss_cons (ps_par (i := 5) (j := 6) rfl sc.nd rfl rfl (by decide) rfl rfl (pa_cons (pe_mk ce.new hr (by decide) (by rfl) pass0 (pa_cons (pv 1) pa_nil)) (pa_cons pe_int pa_nil)) (by rfl)) (pss_cons (ps_while PassesOwn.never ((pw_and (pt_cmpR op_lt (pv 6) (pe_callB call_len_seq (by rfl) T.len PySem.boot_len (pa_cons (pv 4) pa_nil)) (nomark _)) (pw_and1 (pt_cmpR op_lt (pv 6) (pv 2) (nomark _)))).pt) (pss_cons (ps_expr (pe_m ce.inn hr (by decide) pass0 (pv 5) (pa_cons (pe_ix ix_list (pv 4) (pv 6) (fun _ _ => rfl)) pa_nil))) (pss_one (ps_aug (i := 6) sc.nd rfl (Or.inl rfl) pe_int ip_add)))) (pss_cons (ps_set (i := 7) sc.nd rfl (Or.inl rfl) (pe_lst pa_nil)) (pss_cons (ps_while PassesOwn.never (pt_cmpR op_gt (pe_m0 ce.holds hr (by decide) pass0 (pv 5)) pe_int (nomark _)) (pss_cons (ps_set (i := 8) sc.nd rfl (Or.inl rfl) (pe_lst pa_nil)) (pss_cons (ps_while PassesOwn.never (pt_not (pt_val (pe_m0 ce.over hr (by decide) pass0 (pv 5)))) (pss_cons (ps_expr (pe_bm PySem.F.plainAttrs_list PySem.F.slot_list_append PySem.F.type_list_append mt_append (pv 8) (pa_cons (pe_m0 ce.out hr (by decide) pass0 (pv 5)) pa_nil))) (pss_one (ps_if (pt_cmpR op_lt (pv 6) (pe_callB call_len_seq (by rfl) T.len PySem.boot_len (pa_cons (pv 4) pa_nil)) (nomark _)) (pss_cons (ps_expr (pe_m ce.inn hr (by decide) pass0 (pv 5) (pa_cons (pe_ix ix_list (pv 4) (pv 6) (fun _ _ => rfl)) pa_nil))) (pss_one (ps_aug (i := 6) sc.nd rfl (Or.inl rfl) pe_int ip_add))) pss_nil)))) (pss_cons (ps_expr (pe_bm PySem.F.plainAttrs_list PySem.F.slot_list_append PySem.F.type_list_append mt_append (pv 7) (pa_cons (pv 8) pa_nil))) (pss_one (ps_expr (pe_m0 ce.next hr (by decide) pass0 (pv 5)))))))) (pss_one (ps_ret (pv 7)))))))), ?_⟩
    refine ⟨_, rfl, _, rfl, _, rfl, _, rfl, vk, vo, vr, ks, os, n, rs, rfl, h, ht, fun H1 C1 xs s1 hC1 hL1 hI1 => ?_⟩
    have okAll := h.rowsOk
    have rz := h.rz
    have le : (enumP 0 rs).length = rs.length := enumP_length _ _
    have lx : xs.length = rs.length := by rw [dpLen hI1, List.length_map, le]
    refine ⟨_, rfl, fun x dx hx0 hdx0 ndx => ?_⟩
    refine ⟨x, dx, vo, rfl, upd_same, fun H2 G W hG hW nGW hx2 hG2 hW2 fr2 => ⟨rfl, ?_⟩⟩
    refine ⟨_, _, rfl, ?_⟩
    have hG1 : H1 G = none := upd_no (upd_no hG)
    have hW1 : H1 W = none := upd_no (upd_no hW)
    have s2 : Same H1 H2 := fun b o e => fr2 b o (by rw [upd_ne (ne_of_none e hx0), upd_ne (ne_of_none e hdx0)]; exact e) (ne_of_none e hx0)
    have ex0 : ExAt K C ks os H1 H2 x G W [] [] none := .new s2 hx0 hG1 hW1 nGW h.oz (dp_same s1 _ h.o) hx2 hG2 hW2
    have item : ∀ {H' : Hp} {i : Nat}, Same H1 H' → i < rs.length → ∃ v q, xs[i]? = some v ∧ (enumP 0 rs)[i]? = some q ∧ Dp K H' v (pairD q) ∧ Fits os q.2 ∧ isRow ks (.tuple q.2) = true := fun {H' i} sm hi => by
      have hi2 : i < (enumP 0 rs).length := by omega
      obtain ⟨v, ev, hv⟩ := dpGet' (i := i) (d := pairD (enumP 0 rs)[i]) hI1 (by rw [List.getElem?_map, List.getElem?_eq_getElem hi2]; rfl)
      have ok := okAll _ (List.getElem_mem hi2)
      exact ⟨v, _, ev, List.getElem?_eq_getElem hi2, dp_same sm _ hv, ok.1, ok.2⟩
    -- the room is filled
    refine ⟨fun m σ H' => ∃ (j : Nat) (gq : List Pr), σ = [some vk, some vo, some (.int (n : Nat)), some vr, some (.ref C1), some (.ref x), some (.int (j : Nat)), none, none] ∧ ExAt K C ks os H1 H' x G W gq [] none ∧ gq.Perm ((enumP 0 rs).take j) ∧ j ≤ rs.length ∧ j ≤ n ∧ m = rs.length - j,
      ⟨_, 0, [], rfl, ex0, .refl _, Nat.zero_le _, Nat.zero_le _, rfl⟩, ?_⟩
    rintro m σ H' ⟨j, gq, rfl, ex, pj, hj, hjn, rfl⟩
    have lgq : gq.length = j := by rw [pj.length_eq, List.length_take]; omega
    refine cond_by (decide (j < rs.length ∧ j < n)) (fun H2 => H2 = H') (fun Q' next => ?_) (fun H2 e2 => ?_)
    · have q := next _ rfl
      refine ⟨_, rfl, _, rfl, C1, xs, rfl, .inl (ex.same.seq (SqL.of hL1)), _, _, rfl, rfl, _, rfl, ?_⟩
      refine ite2 (fun h1 => ?_) (fun h1 => ?_)
      · have h1 := of_decide_eq_true h1
        refine ⟨_, rfl, _, rfl, _, _, rfl, rfl, _, rfl, ?_⟩
        have e : decide (j < rs.length ∧ j < n) = decide (((j : Nat) : Int) < ((n : Nat) : Int)) := by
          rw [decide_eq_decide]
          constructor
          · rintro ⟨_, h⟩; omega
          · intro h; exact ⟨by omega, by omega⟩
        rw [← e]
        exact q
      · have h1 : ¬ ((j : Nat) : Int) < ((xs.length : Nat) : Int) := fun z => h1 (decide_eq_true z)
        have e : decide (j < rs.length ∧ j < n) = false := decide_eq_false (fun z => h1 (by omega))
        rw [e] at q
        exact q
    subst e2
    by_cases hc : j < rs.length ∧ j < n
    · refine iteT' (decide_eq_true hc) ⟨_, fun σ' H2 h => h, ?_⟩
      obtain ⟨v, q, ev, eq, hv, hf, hq⟩ := item ex.same hc.1
      refine ⟨_, rfl, x, ?_⟩
      obtain ⟨dx', vo', vl', hx', _⟩ := ex.ob
      refine ⟨dx', _, rfl, hx', lno (by decide +kernel) (by decide +kernel) (by decide +kernel) (by decide +kernel), ?_⟩
      refine ⟨_, rfl, _, rfl, C1, xs, _, v, rfl, rfl, ex.same.seq (SqL.of hL1), atI_nat ev, ?_⟩
      refine ⟨x, G, W, v, ks, os, H1, gq, [], none, q, rfl, ex, hv, hf, hq, by simp only [List.length_nil]; omega, fun H3 gq' ww' ex3 into fr => ?_⟩
      rcases into with ⟨l, e, _⟩ | ⟨_, pg, rfl⟩
      · cases e
      refine ⟨_, rfl, _, _, rfl, rfl, ?_⟩
      refine ⟨_, ?_, j + 1, gq', rfl, ex3, ?_, hc.1, hc.2, rfl⟩
      · omega
      · refine pg.trans ?_
        rw [List.take_add_one, eq]
        exact ((pj.cons q).trans (List.perm_append_comm (l₁ := [q]) (l₂ := (enumP 0 rs).take j)))
    refine iteF' (decide_eq_false hc) ?_
    have pn : gq.Perm ((enumP 0 rs).take n) := by
      by_cases hn : j = n
      · rw [← hn]; exact pj
      · have e : j = rs.length := by omega
        rw [List.take_of_length_le (by omega)] at pj
        rw [List.take_of_length_le (by omega)]
        exact pj
    have dn : (enumP 0 rs).drop j = (enumP 0 rs).drop n := by
      by_cases hn : j = n
      · rw [hn]
      · rw [List.drop_of_length_le (by omega), List.drop_of_length_le (by omega)]
    refine ⟨Nat.zero_le _, fun RS hRS => ?_⟩
    have exR := ex.grow (H2 := upd H2 RS (.lst [])) fun b o e => (upd_ne (ne_of_none e hRS)).trans e
    have hRS1 : H1 RS = none := ex.same.free hRS
    have hRS0 : H RS = none := s1.free hRS1
    have notR : ∀ {b : Addr} {xs : List V}, H2 b = some (.lst xs) → RS ≠ b := fun e z => by rw [← z, hRS] at e; cases e
    obtain ⟨zs0, hg0, _⟩ := ex.g
    obtain ⟨zw0, hw0⟩ := ex.w
    have own0 : Own K ks H (upd H2 RS (.lst [])) G W RS [] [] := ⟨upd_same, (fun h => nomatch h), notR hg0.g, notR hw0.g, Runs.nil, (fun _ h => nomatch h)⟩
    refine ⟨fun m σ H' => ∃ (j : Nat) (G W : Addr) (gq : List Pr) (as : List Addr) (runs : List (List Pr)) (v8 : Option V), σ = [some vk, some vo, some (.int (n : Nat)), some vr, some (.ref C1), some (.ref x), some (.int (j : Nat)), some (.ref RS), v8] ∧
      ExAt K C ks os H1 H' x G W gq [] none ∧ Own K ks H H' G W RS as runs ∧ j ≤ rs.length ∧ m = gq.length + (rs.length - j) ∧ runs.length + gq.length + (rs.length - j) ≤ 120 ∧ ∀ rest, RunsTo (before os) gq ((enumP 0 rs).drop j) rest → RunsTo (before os) ((enumP 0 rs).take n) ((enumP 0 rs).drop n) (runs ++ rest),
      ⟨_, j, G, W, gq, [], [], none, rfl, exR, own0, hj, rfl, by simp only [List.length_nil]; omega, fun rest t => by rw [dn] at t; exact t.permL pn.symm⟩, ?_⟩
    clear pn dn pj lgq hc exR own0 hg0 hw0 notR ex hjn hj
    rintro m σ H3 ⟨j, G, W, gq, as, runs, v8, rfl, ex, ow, hj, rfl, hsz, fin⟩
    obtain ⟨dx', vo', vl', hx', _⟩ := ex.ob
    refine ⟨_, rfl, x, dx', _, rfl, hx', lno (by decide +kernel) (by decide +kernel) (by decide +kernel) (by decide +kernel), x, G, W, ks, os, H1, gq, [], none, rfl, ex, ?_⟩
    refine ⟨_, _, rfl, rfl, _, rfl, ?_⟩
    refine ite2 (fun hpos => ?_) (fun hpos => ?_)
    · have hpos := of_decide_eq_true hpos
      have hne : gq ≠ [] := fun z => by rw [z] at hpos; simp at hpos
      refine ⟨_, fun σ' H2 h => h, ?_⟩
      refine ⟨Nat.zero_le _, fun R hR => ?_⟩
      have hR1 : H1 R = none := ex.same.free hR
      have hR0 : H R = none := s1.free hR1
      have sR : Same H3 (upd H3 R (.lst [])) := fun b o e => (upd_ne (ne_of_none e hR)).trans e
      have notR : ∀ {b : Addr} {xs : List V}, H3 b = some (.lst xs) → R ≠ b := fun e z => by rw [← z, hR] at e; cases e
      obtain ⟨zs0, hg0, _⟩ := ex.g
      obtain ⟨zw0, hw0⟩ := ex.w
      have nRG := notR hg0.g
      have nRW := notR hw0.g
      have nRS := notR ow.rs
      have nRas : R ∉ as := fun z => by
        obtain ⟨y, hy⟩ := ow.R.tracked z
        exact notR hy rfl
      refine ⟨fun m σ H' => ∃ (i : Nat) (gi wi rr : List Pr) (xr : List V) (lq : Option Pr), σ = [some vk, some vo, some (.int (n : Nat)), some vr, some (.ref C1), some (.ref x), some (.int (i : Nat)), some (.ref RS), some (.ref R)] ∧
        ExAt K C ks os H1 H' x G W gi wi lq ∧ Own K ks H H' G W RS as runs ∧ H' R = some (.lst xr) ∧ DpAll K H' xr (rr.map pairD) ∧ (∀ q ∈ rr, isRow ks (.tuple q.2) = true) ∧ i ≤ rs.length ∧ m = 2 * (rs.length - i) + gi.length ∧ rr.length + wi.length + gi.length + (rs.length - i) = gq.length + (rs.length - j) ∧
        ∀ r' w' l', RunTo (before os) gi ((enumP 0 rs).drop i) r' w' l' → RunTo (before os) gq ((enumP 0 rs).drop j) (rr ++ r') (wi ++ w') l',
        ⟨_, j, gq, [], [], [], none, rfl, ex.grow sR, ow.same sR, upd_same, .nil, (fun _ h => nomatch h), hj, rfl, by simp only [List.length_nil]; omega, fun r' w' l' t => t⟩, ?_⟩
      rintro m σ H4 ⟨i, gi, wi, rr, xr, lq, rfl, ex4, ow4, hR4, dR4, okR, hi, rfl, hcnt, run⟩
      obtain ⟨dx4, vo4, vl4, hx4, _⟩ := ex4.ob
      have lr : xr.length = rr.length := by rw [dpLen dR4, List.length_map]
      refine ⟨_, rfl, x, dx4, _, rfl, hx4, lno (by decide +kernel) (by decide +kernel) (by decide +kernel) (by decide +kernel), x, G, W, ks, os, H1, gi, wi, lq, rfl, ex4, _, rfl, ?_⟩
      by_cases hgi : gi = []
      · subst hgi
        refine iteF ?_
        -- the run is over
        have t := run [] [] _ (.done _)
        rw [List.append_nil, List.append_nil] at t
        refine ⟨_, rfl, .inl ⟨rfl, _, SqL.of ow4.rs⟩, _, rfl, RS, _, _, rfl, rfl, ow4.rs, small1000 (by rw [List.length_map, ow4.R.len]; omega), ?_⟩
        have las := ow4.R.len
        have R5 := ((ow4.R).upd_ (u := as.map V.ref ++ [.ref R]) ow4.rs ow4.n).snoc (a := R) (r := rr) ((upd_ne nRS).trans hR4) (dpAll_upd ow4.rs _ (pairs_noL okR) dR4) hR0 nRas okR
        have ow5 : Own K ks H (upd H4 RS (.lst (as.map V.ref ++ [.ref R]))) G W RS (as ++ [R]) (runs ++ [rr]) := by
          refine ⟨by rw [upd_same, List.map_append]; rfl, fun z => ?_, ow4.g, ow4.w, R5, fun a ha => ?_⟩
          · rcases List.mem_append.mp z with z | z
            · exact ow4.n z
            · exact nRS (List.mem_singleton.mp z).symm
          · rcases List.mem_append.mp ha with ha | ha
            · exact ow4.a a ha
            · rw [List.mem_singleton.mp ha]; exact ⟨nRG, nRW⟩
        have ex5 := ex4.upd_ (u := as.map V.ref ++ [.ref R]) ow4.rs hRS1 ow4.g ow4.w
        obtain ⟨dx5, vo5, vl5, hx5, _⟩ := ex5.ob
        refine ⟨_, rfl, x, dx5, _, rfl, hx5, lno (by decide +kernel) (by decide +kernel) (by decide +kernel) (by decide +kernel), x, G, W, ks, os, H1, [], wi, lq, rfl, ex5, by simp only [List.length_nil] at hcnt; omega, fun H6 W' gq' ex6 pg hW' fr6 => ?_⟩
        have ow6 := ow5.frx ex5 fr6
        have notW : ∀ {b : Addr} {xs : List V}, upd H4 RS (.lst (as.map V.ref ++ [.ref R])) b = some (.lst xs) → b ≠ W' := fun e z => by rw [z, hW'] at e; cases e
        have lq' := pg.length_eq
        have r1 := t.some hne
        simp only [List.length_nil] at hcnt
        refine ⟨_, ?_, i, W, W', gq', as ++ [R], runs ++ [rr], _, rfl, ex6, ⟨ow6.rs, ow6.n, ow6.w, notW ow5.rs, ow6.R, fun a ha => ⟨(ow6.a a ha).2, ?_⟩⟩, hi, rfl, by rw [List.length_append, List.length_singleton]; omega, fun rest tr => ?_⟩
        · omega
        · obtain ⟨y, hy⟩ := ow5.R.tracked ha
          exact notW hy
        · rw [List.append_assoc]
          exact fin _ (.more hne t (tr.permL pg.symm))
      · refine iteT' (by cases gi <;> simp_all) ⟨_, fun σ' H2 h => h, ?_⟩
        refine ⟨_, rfl, .inl ⟨rfl, _, SqL.of hR4⟩, _, rfl, x, dx4, _, rfl, hx4, lno (by decide +kernel) (by decide +kernel) (by decide +kernel) (by decide +kernel), x, G, W, ks, os, H1, gi, wi, lq, rfl, ex4, hgi, fun H5 v q gi' ex5 pq mb hv fr5 => ?_⟩
        have qin : q ∈ gi := pq.mem_iff.mpr List.mem_cons_self
        have qok := (ex4.gok q qin).2
        have hR5 := frx_at ex4 fr5 hR4 nRG nRW
        have dR5 := dpAll_kp (ex4.kp fr5) _ (pairs_noL okR) dR4
        have lgi := pq.length_eq
        rw [List.length_cons] at lgi
        refine ⟨R, xr, _, rfl, rfl, hR5, small1000 (by omega), ?_⟩
        have ex6 := ex5.upd_ (u := xr ++ [v]) hR5 hR1 nRG nRW
        have ow6 := (ow4.frx ex4 fr5).upd_ (u := xr ++ [v]) hR5 nRS nRas
        have okR6 : ∀ y ∈ rr ++ [q], isRow ks (.tuple y.2) = true := fun y hy => by
          rcases List.mem_append.mp hy with hy | hy
          · exact okR y hy
          · rw [List.mem_singleton.mp hy]; exact qok
        have dR6 : DpAll K (upd H5 R (.lst (xr ++ [v]))) (xr ++ [v]) ((rr ++ [q]).map pairD) := by
          rw [List.map_append]
          exact dpAll_upd hR5 _ (by rw [← List.map_append]; exact pairs_noL okR6) (dpApp dR5 (.cons hv .nil))
        refine ⟨_, rfl, _, rfl, C1, xs, rfl, .inl (ex6.same.seq (SqL.of hL1)), _, _, rfl, rfl, _, rfl, ?_⟩
        refine ite2 (fun h1 => ?_) (fun h1 => ?_)
        · have h1 := of_decide_eq_true h1
          have hi2 : i < rs.length := by omega
          obtain ⟨vE, e, evE, eqE, hE, hfE, hqE⟩ := item ex6.same hi2
          obtain ⟨dx6, vo6, vl6, hx6, _⟩ := ex6.ob
          have de : (enumP 0 rs).drop i = e :: (enumP 0 rs).drop (i + 1) := by
            have hi3 : i < (enumP 0 rs).length := by omega
            rw [List.drop_eq_getElem_cons hi3]
            rw [List.getElem?_eq_getElem hi3] at eqE
            rw [Option.some.inj eqE]
          refine ⟨_, rfl, x, dx6, _, rfl, hx6, lno (by decide +kernel) (by decide +kernel) (by decide +kernel) (by decide +kernel), _, rfl, _, rfl, C1, xs, _, vE, rfl, rfl, ex6.same.seq (SqL.of hL1), atI_nat evE, ?_⟩
          refine ⟨x, G, W, vE, ks, os, H1, gi', wi, some q, e, rfl, ex6, hE, hfE, hqE, by omega, fun H7 gi2 wi2 ex7 into fr7 => ?_⟩
          have hR7 := frx_at ex6 fr7 upd_same nRG nRW
          have dR7 := dpAll_kp (ex6.kp fr7) _ (pairs_noL okR6) dR6
          have ow7 := ow6.frx ex6 fr7
          refine ⟨_, rfl, _, _, rfl, rfl, ?_⟩
          rcases into with ⟨l, el, hb, rfl, rfl⟩ | ⟨hb, pg, rfl⟩
          · cases el
            refine ⟨_, ?_, i + 1, gi2, wi ++ [e], rr ++ [q], _, _, rfl, ex7, ow7, hR7, dR7, okR6, hi2, rfl, ?_, fun r' w' l' t => ?_⟩
            · omega
            · simp only [List.length_append, List.length_singleton]
              omega
            · rw [List.append_assoc, List.append_assoc]
              refine run _ _ _ ?_
              rw [de]
              exact .wait pq mb hb t
          · have lg2 := pg.length_eq
            rw [List.length_cons] at lg2
            refine ⟨_, ?_, i + 1, gi2, wi2, rr ++ [q], _, _, rfl, ex7, ow7, hR7, dR7, okR6, hi2, rfl, ?_, fun r' w' l' t => ?_⟩
            · omega
            · simp only [List.length_append, List.length_singleton]
              omega
            · rw [List.append_assoc]
              refine run _ _ _ ?_
              rw [de]
              exact .keep pq mb (hb q rfl) (t.permL pg.symm)
        · have h1 : ¬ ((i : Nat) : Int) < ((xs.length : Nat) : Int) := fun z => h1 (decide_eq_true z)
          have ei : i = rs.length := by omega
          subst ei
          refine ⟨_, ?_, rs.length, gi', wi, rr ++ [q], _, _, rfl, ex6, ow6, upd_same, dR6, okR6, Nat.le_refl _, rfl, ?_, fun r' w' l' t => ?_⟩
          · omega
          · simp only [List.length_append, List.length_singleton]
            omega
          · rw [List.drop_of_length_le (by omega)] at run t
            rw [List.append_assoc]
            exact run _ _ _ (.last pq mb t)
    · have e : gq = [] := by
        cases gq with
        | nil => rfl
        | cons a l => exact absurd (decide_eq_true (by simp only [List.length_cons, List.length_nil]; omega)) hpos
      subst e
      have t := fin [] (.done _)
      rw [List.append_nil] at t
      exact ⟨_, rfl, k _ RS as runs (s1.trans ex.same) hRS0 ow.n ow.rs ow.R t (by omega)⟩
end
end RS
set_option Elab.async false
set_option maxRecDepth 100000
set_option maxHeartbeats 4000000
namespace RS
open PySem PySem.Spec PyProof.Rows L2 GX
/-! ### one list of pairs -/
def LsAt (K : PySem.W.Frag) (ks : List Bool) (H : Hp) (a : Addr) (ps : List (Nat × List PyData)) : Prop := ∃ xs, H a = some (.lst xs) ∧ DpAll K H xs (ps.map pairD) ∧ ∀ p ∈ ps, isRow ks (.tuple p.2) = true
section
variable {K : PySem.W.Frag} {ks : List Bool} {H H' : Hp} {a b : Addr} {ps : List (Nat × List PyData)}
theorem LsAt.same (h : LsAt K ks H a ps) (s : Same H H') : LsAt K ks H' a ps := by
  obtain ⟨xs, h1, h2, h3⟩ := h
  exact ⟨xs, s _ _ h1, dpAll_same s _ h2, h3⟩
theorem LsAt.other (h : LsAt K ks H a ps) {ys u : List V} (hb : H b = some (.lst ys)) (ne : a ≠ b) : LsAt K ks (upd H b (.lst u)) a ps := by
  obtain ⟨xs, h1, h2, h3⟩ := h
  exact ⟨xs, (upd_ne ne).trans h1, dpAll_upd hb _ (pairs_noL h3) h2, h3⟩
theorem LsAt.new (h : LsAt K ks H a ps) {o : HO} (hb : H b = none) : LsAt K ks (upd H b o) a ps := h.same fun c u e => by
  rw [upd_ne (ne_of_none e hb)]
  exact e
theorem lsWrite {xs ys : List V} (h : H a = some (.lst ys)) (d : DpAll K H xs (ps.map pairD)) (ok : ∀ p ∈ ps, isRow ks (.tuple p.2) = true) : LsAt K ks (upd H a (.lst xs)) a ps := ⟨xs, upd_same, dpAll_upd h _ (pairs_noL ok) d, ok⟩
theorem lsNil (_h : H b = none) : LsAt K ks (upd H b (.lst [])) b [] := ⟨[], upd_same, .nil, fun _ h => nomatch h⟩
theorem LsAt.len (h : LsAt K ks H a ps) {xs : List V} (e : H a = some (.lst xs)) : xs.length = ps.length := by
  obtain ⟨xs', h1, h2, _⟩ := h
  rw [h1] at e
  cases e
  rw [dpLen h2, List.length_map]
theorem LsAt.dp (h : LsAt K ks H a ps) : Dp K H (.ref a) (.list (ps.map pairD)) := by
  obtain ⟨xs, h1, h2, h3⟩ := h
  exact .lst (SqL.of h1) h2
theorem LsAt.lst (h : LsAt K ks H a ps) : ∃ xs, H a = some (.lst xs) := ⟨_, h.choose_spec.1⟩
theorem LsAt.shaped (h : LsAt K ks H a ps) : SeqAt.shaped (.list (ps.map pairD)) = true := pairs_shaped h.choose_spec.2.2
end
/-! ### the law's way of exchanging, step by step -/
section
variable {α : Type} {lt : α → α → Bool}
/-- behind x, with what is there and what is to come -/
def Mid (lt : α → α → Bool) (x : α) (g : List α) : List α → List α → List α → List α → Prop
  | [], r, w, l => RunTo lt g [] r w l
  | e :: left, r, w, l => (lt e x = true ∧ ∃ w0, w = e :: w0 ∧ RunTo lt g left r w0 l) ∨ (lt e x = false ∧ RunTo lt (e :: g) left r w l)
theorem Mid.run {x : α} {g g' left r w l : List α} (p : g.Perm (x :: g')) (m : ∀ y ∈ g', lt y x = false) (h : Mid lt x g' left r w l) : RunTo lt g left (x :: r) w l := by
  cases left with
  | nil => exact .last p m h
  | cons e left =>
    rcases h with ⟨h1, w0, rfl, t⟩ | ⟨h1, t⟩
    · exact .wait p m h1 t
    · exact .keep p m h1 t
/-- what must still come, by the state of the filling -/
inductive Fill (lt : α → α → Bool) (n : Nat) (room left : List α) : List α → List α → List α → List α → Prop
  | start {hs ls : List α} (hz : hs.length ≤ n) (t : ∀ r w l, RunTo lt (hs ++ ls.take (n - hs.length)) (ls.drop (n - hs.length)) r w l → RunTo lt room left r w l) : Fill lt n room left [] hs [] ls
  | mid {rr hs ws ls : List α} {x : α} (hz : ls = [] ∨ hs.length + ws.length + 1 = n) (t : ∀ r w l, Mid lt x hs ls r w l → RunTo lt room left (rr ++ [x] ++ r) (ws ++ w) l) : Fill lt n room left (rr ++ [x]) hs ws ls
  | full {rr hs ws ls : List α} (hz : ls = [] ∨ hs.length + ws.length = n) (t : ∀ r w l, RunTo lt hs ls r w l → RunTo lt room left (rr ++ r) (ws ++ w) l) : Fill lt n room left rr hs ws ls
/-- one more comes in: where it goes -/
theorem Fill.step {n : Nat} {room left rr hs ws ls : List α} {e : α} (F : Fill lt n room left rr hs ws (e :: ls)) (hlt : hs.length + ws.length < n) :
    (rr = [] → Fill lt n room left rr (hs ++ [e]) ws ls) ∧ (∀ r0 x, rr = r0 ++ [x] → (lt e x = true → Fill lt n room left rr hs (ws ++ [e]) ls) ∧ (lt e x = false → Fill lt n room left rr (hs ++ [e]) ws ls)) := by
  cases F with
  | start hz t =>
    refine ⟨fun _ => .start (by rw [List.length_append, List.length_singleton]; simp at hlt; omega) fun r w l h => t r w l ?_, fun r0 x e => by simp at e⟩
    simp only [List.length_nil, Nat.add_zero] at hlt
    obtain ⟨k, hk⟩ : ∃ k, n - hs.length = k + 1 := ⟨n - hs.length - 1, by omega⟩
    have hk2 : n - (hs ++ [e]).length = k := by rw [List.length_append, List.length_singleton]; omega
    rw [hk, List.take_succ_cons, List.drop_succ_cons]
    rw [hk2, List.append_assoc] at h
    exact h
  | @mid rr0 _ _ _ x hz t =>
    refine ⟨fun e => by simp at e, fun r0 y ey => ?_⟩
    have ez : x = y := by
      have := congrArg List.getLast? ey
      simpa using this
    subst ez
    have hz' : hs.length + ws.length + 1 = n := by
      rcases hz with z | z
      · cases z
      · exact z
    refine ⟨fun h1 => .full (.inr (by rw [List.length_append, List.length_singleton]; omega)) fun r w l h => ?_, fun h1 => .full (.inr (by rw [List.length_append, List.length_singleton]; omega)) fun r w l h => ?_⟩
    · have := t r (e :: w) l (.inl ⟨h1, w, rfl, h⟩)
      rw [List.append_assoc ws [e] w]
      exact this
    · exact t r w l (.inr ⟨h1, h.permL (by exact (List.perm_append_comm (l₁ := hs) (l₂ := [e])).symm)⟩)
  | full hz t =>
    rcases hz with z | z
    · cases z
    · omega
/-- no more comes in -/
theorem Fill.stop {n : Nat} {room left rr hs ws ls : List α} (F : Fill lt n room left rr hs ws ls) (h : ls = [] ∨ n ≤ hs.length + ws.length) : (ls = [] ∨ hs.length + ws.length = n) ∧ ∀ r w l, RunTo lt hs ls r w l → RunTo lt room left (rr ++ r) (ws ++ w) l := by
  cases F with
  | start hz t =>
    simp only [List.length_nil, Nat.add_zero] at h ⊢
    refine ⟨by rcases h with h | h; exact .inl h; exact .inr (by omega), fun r w l q => t r w l ?_⟩
    rcases h with h | h
    · subst h
      simpa using q
    · rw [show n - hs.length = 0 by omega, List.take_zero, List.append_nil, List.drop_zero]
      exact q
  | mid hz t =>
    rcases h with h | h
    · subst h
      exact ⟨.inl rfl, fun r w l q => t r w l q⟩
    · rcases hz with z | z
      · subst z
        exact ⟨.inl rfl, fun r w l q => t r w l q⟩
      · omega
  | full hz t => exact ⟨hz, t⟩
theorem Fill.pop {n : Nat} {room left rr hs hs' ws ls : List α} {x : α} (hz : ls = [] ∨ hs.length + ws.length = n) (t : ∀ r w l, RunTo lt hs ls r w l → RunTo lt room left (rr ++ r) (ws ++ w) l) (p : hs.Perm (x :: hs')) (m : ∀ y ∈ hs', lt y x = false) : Fill lt n room left (rr ++ [x]) hs' ws ls := by
  refine .mid (by rcases hz with z | z; exact .inl z; right; rw [p.length_eq, List.length_cons] at z; omega) fun r w l h => ?_
  rw [List.append_assoc]
  exact t _ _ _ (h.run p m)
end
end RS
set_option Elab.async false
set_option maxRecDepth 100000
set_option maxHeartbeats 8000000
namespace RS
open PySem PySem.Spec PyProof.Rows L2 GX
section
variable {P : Program} {w : World} {K : PySem.W.Frag} {mg : Str → Option Value} {base : Heap}
theorem first_ix {α : Type} {P : α → Bool} : ∀ (l : List α) {x : α}, x ∈ l → P x = true → ∃ (j : Nat) (z : α), l[j]? = some z ∧ P z = true ∧ ∀ (m : Nat) (z' : α), m < j → l[m]? = some z' → P z' = false
  | [], _, h, _ => by cases h
  | y :: l, x, h, hx => by
    cases e : P y with
    | true => exact ⟨0, y, rfl, e, fun m z' hm => absurd hm (Nat.not_lt_zero _)⟩
    | false =>
      rcases List.mem_cons.mp h with q | q
      · subst q
        rw [hx] at e
        cases e
      · obtain ⟨j, z, h1, h2, h3⟩ := first_ix l q hx
        refine ⟨j + 1, z, h1, h2, fun m z' hm hz => ?_⟩
        cases m with
        | zero =>
          cases hz
          exact e
        | succ m => exact h3 m z' (by omega) hz
theorem eqv_val {b b' : Bool} {d d' : PyData} (h : isVal b d = true) (h' : isVal b' d' = true) (e : PyData.eqv d d' = true) : d = d' := by
  rcases val_atom h with ⟨_, x, rfl⟩ | ⟨_, n, rfl⟩
  · rcases val_atom h' with ⟨_, y, rfl⟩ | ⟨_, m, rfl⟩
    · simp [PyData.eqv] at e
      rw [e]
    · simp [PyData.eqv] at e
  · rcases val_atom h' with ⟨_, y, rfl⟩ | ⟨_, m, rfl⟩
    · simp [PyData.eqv] at e
    · simp [PyData.eqv] at e
      rw [e]
theorem eqv_vals : ∀ {r r' : List PyData}, (∀ d ∈ r, ∃ b, isVal b d = true) → (∀ d ∈ r', ∃ b, isVal b d = true) → PyData.eqvAll r r' = true → r = r'
  | [], [], _, _, _ => rfl
  | [], _ :: _, _, _, e => by simp [PyData.eqvAll] at e
  | _ :: _, [], _, _, e => by simp [PyData.eqvAll] at e
  | d :: r, d' :: r', h, h', e => by
    simp only [PyData.eqvAll, Bool.and_eq_true] at e
    obtain ⟨b, hv⟩ := h d List.mem_cons_self
    obtain ⟨b', hv'⟩ := h' d' List.mem_cons_self
    rw [eqv_val hv hv' e.1, eqv_vals (fun x hx => h x (List.mem_cons_of_mem _ hx)) (fun x hx => h' x (List.mem_cons_of_mem _ hx)) e.2]
theorem eqv_pair {ks : List Bool} {p q : Nat × List PyData} (hp : isRow ks (.tuple p.2) = true) (hq : isRow ks (.tuple q.2) = true) (e : PyData.eqv (pairD p) (pairD q) = true) : p = q := by
  simp only [pairD, PyData.eqv, PyData.eqvAll, Bool.and_eq_true] at e
  have e1 : p.1 = q.1 := by
    have := e.1
    simp at this
    omega
  have e2 := eqv_vals (fun d hd => row_val hp hd) (fun d hd => row_val hq hd) e.2.1
  obtain ⟨a, b⟩ := p
  obtain ⟨c, d⟩ := q
  simp only at e1 e2
  rw [e1, e2]
theorem pair_shaped {ks : List Bool} {p : Nat × List PyData} (h : isRow ks (.tuple p.2) = true) : SeqAt.shaped (pairD p) = true := by
  obtain ⟨h1, h2⟩ := pair_shape h
  unfold SeqAt.shaped
  rw [Bool.and_eq_true]
  exact ⟨h1, decide_eq_true (by omega)⟩
theorem eqv_vself {b : Bool} {d : PyData} (h : isVal b d = true) : PyData.eqv d d = true := by
  rcases val_atom h with ⟨_, x, rfl⟩ | ⟨_, n, rfl⟩ <;> simp [PyData.eqv]
theorem eqvAll_self : ∀ {r : List PyData}, (∀ d ∈ r, ∃ b, isVal b d = true) → PyData.eqvAll r r = true
  | [], _ => by simp [PyData.eqvAll]
  | d :: r, h => by
    obtain ⟨b, hv⟩ := h d List.mem_cons_self
    simp only [PyData.eqvAll, Bool.and_eq_true]
    exact ⟨eqv_vself hv, eqvAll_self fun x hx => h x (List.mem_cons_of_mem _ hx)⟩
theorem eqv_self {ks : List Bool} {p : Nat × List PyData} (hp : isRow ks (.tuple p.2) = true) : PyData.eqv (pairD p) (pairD p) = true := by
  have q := eqvAll_self (r := p.2) fun d hd => row_val hp hd
  simp [pairD, PyData.eqv, PyData.eqvAll, q]
theorem dpAll_erase {K : PySem.W.Frag} {H : Hp} : ∀ {xs : List V} {ds : List PyData}, DpAll K H xs ds → ∀ k : Nat, DpAll K H (xs.eraseIdx k) (ds.eraseIdx k)
  | _, _, .nil, _ => .nil
  | _, _, .cons _ t, 0 => t
  | _, _, .cons h t, k + 1 => .cons h (dpAll_erase t k)
end
end RS
set_option Elab.async false
set_option maxRecDepth 100000
set_option maxHeartbeats 4000000
namespace RS
open PySem PySem.Spec PyProof.Rows L2 GX
theorem order_shaped {os : List (Nat × Bool)} : (orderD os).canLay0 = true ∧ (orderD os).depth ≤ 2 := by
  constructor
  · simp only [orderD, PyData.canLay0]
    exact canLayAll fun d hd => by
      obtain ⟨p, _, rfl⟩ := List.mem_map.mp hd
      have : PyData.strOk (wayS p.2) = true := by cases p.2 <;> decide +kernel
      simp [partD, PyData.canLay0, PyData.canLayAll0, this]
  · simp only [orderD, PyData.depth]
    have := depthLe (n := 1) (ds := os.map partD) fun d hd => by
      obtain ⟨p, _, rfl⟩ := List.mem_map.mp hd
      simp [partD, PyData.depth, PyData.depthAll]
    omega
theorem handed_shaped {ks : List Bool} {os : List (Nat × Bool)} {rs : List (List PyData)} (h : ∀ r ∈ rs, isRow ks (.tuple r) = true) : SeqAt.shaped (.tuple [orderD os, rowsD rs]) = true := by
  obtain ⟨a1, a2⟩ := order_shaped (os := os)
  have q := rowsL_shaped h
  unfold SeqAt.shaped at q ⊢
  rw [Bool.and_eq_true] at q ⊢
  obtain ⟨b1, b2⟩ := q
  have b2 := of_decide_eq_true b2
  refine ⟨?_, decide_eq_true ?_⟩
  · simp only [PyData.canLay0, PyData.canLayAll0, Bool.and_eq_true]
    exact ⟨a1, b1, trivial⟩
  · have b3 : (rowsD rs).depth ≤ 2 := by
      simp only [rowsD, PyData.depth]
      have := depthLe (n := 1) (ds := rs.map .tuple) fun d hd => by
        obtain ⟨r, hr, rfl⟩ := List.mem_map.mp hd
        exact (row_shape (h r hr)).2
      omega
    simp only [PyData.depth, PyData.depthAll]
    omega
theorem RunsTo.len {α : Type} {lt : α → α → Bool} {g left : List α} {runs : List (List α)} (h : RunsTo lt g left runs) : ∀ r ∈ runs, r.length ≤ g.length + left.length := by
  induction h with
  | done => exact fun _ h => by cases h
  | @more room left r w l rs hr t m ih =>
    have pm := t.perm.length_eq
    simp only [List.length_append] at pm
    intro q hq
    rcases List.mem_cons.mp hq with e | hq
    · rw [e]; omega
    · have := ih q hq
      omega
theorem runs_dp {K : PySem.W.Frag} {ks : List Bool} {H H' : Hp} {as : List Addr} {runs : List (List (Nat × List PyData))} (R : Runs K ks H H' as runs) : DpAll K H' (as.map V.ref) (runs.map fun r => .list (r.map pairD)) := by
  refine dpAll_by (by rw [List.length_map, List.length_map, R.len]) fun i v d e1 e2 => ?_
  rw [List.getElem?_map] at e1 e2
  cases q1 : as[i]? with
  | none => rw [q1] at e1; cases e1
  | some a =>
    cases q2 : runs[i]? with
    | none => rw [q2] at e2; cases e2
    | some r =>
      rw [q1] at e1
      rw [q2] at e2
      cases e1
      cases e2
      obtain ⟨x, h1, h2⟩ := R.at_ i a r q1 q2
      exact .lst (SqL.of h1) h2
end RS
set_option Elab.async false
set_option maxRecDepth 100000
set_option maxHeartbeats 8000000
namespace RS
open PySem PySem.Spec PyProof.Rows L2 GX
/-- how many parts of n there are -/
def cnt (l n : Nat) : Nat := (Builtin.Range.rangeSize 0 l n).toNat
theorem small_all : ∀ l < 121, ∀ n < 25, 1 ≤ n → Builtin.Range.small 0 (l : Nat) (n : Nat) = true := by decide +kernel
theorem cnt_le : ∀ l < 121, ∀ n < 25, 1 ≤ n → cnt l n ≤ 120 := by decide +kernel
theorem rgc {l n : Nat} (hl : l ≤ 120) (h1 : 1 ≤ n) (h2 : n ≤ 24) : RgC 0 (l : Nat) (n : Nat) (cnt l n) := ⟨by omega, by omega, small_all l (by omega) n (by omega) h1, PyProof.Rows.rangeSize_toNat _ _ _⟩
theorem cutV_mid {xs : List V} {a n : Nat} : cutV xs (some ((a : Nat) : Int)) (some ((a + n : Nat) : Int)) = (xs.drop a).take n := by
  unfold cutV
  rw [HT.sIx_nat, HT.sIx_nat]
  by_cases h : a ≤ xs.length
  · rw [Nat.min_eq_left h]
    by_cases h2 : a + n ≤ xs.length
    · rw [Nat.min_eq_left h2, Nat.add_sub_cancel_left]
    · rw [Nat.min_eq_right (by omega), List.take_of_length_le (by rw [List.length_drop]; exact Nat.le_refl _), List.take_of_length_le (by rw [List.length_drop]; omega)]
  · rw [Nat.min_eq_right (show xs.length ≤ a by omega), Nat.min_eq_right (show xs.length ≤ a + n by omega), List.drop_of_length_le (Nat.le_refl _), List.drop_of_length_le (show xs.length ≤ a by omega)]
    simp
end RS
set_option Elab.async false
set_option maxRecDepth 100000
set_option maxHeartbeats 8000000
namespace RS
open PySem PySem.Spec PyProof.Rows L2 GX
section
variable {P : Program} {w : World} {K : PySem.W.Frag} {mg : Str → Option Value} {base : Heap}
/-- the parts, each in order -/
def FilledTo (os : List (Nat × Bool)) (n : Nat) (l : List (Nat × List PyData)) (runs : List (List (Nat × List PyData))) : Prop :=
  runs.length = cnt l.length n ∧ ∀ (i : Nat) (r : List (Nat × List PyData)), runs[i]? = some r → r.Perm ((l.drop (i * n)).take n) ∧ SrtO.Srtd (before os) r
theorem Handed.noT {K : PySem.W.Frag} {H : Hp} {vk vo vr : V} {ks : List Bool} {os : List (Nat × Bool)} {n : Int} {rs : List (List PyData)} (h : Handed K H vk vo vr ks os n rs) : Handed K (noT H) vk vo vr ks os n rs := { h with k := dp_noT _ h.k, o := dp_noT _ h.o, r := dp_noT _ h.r }
/-- the name of filled's lambda -/
abbrev qF : Str := (envOfC "filled" (defScope sFilled) 0 0 (.ref 0)).qual ++ "<lambda>"
def spFilled (K : PySem.W.Frag) (pK pW pR pF : Addr) : Sp := fun vs H Q _ => ∃ (vk vo vr : V) (ks : List Bool) (os : List (Nat × Bool)) (n : Nat) (rs : List (List PyData)), vs = [vk, vo, .int (n : Nat), vr] ∧ Handed K H vk vo vr ks os n rs ∧ Tabs3 H pK pW pR ∧ LamX.TabS H pF qF ∧
  ∀ (H' : Hp) (p : Addr) (as : List Addr) (runs : List (List (Nat × List PyData))), Same (noT H) H' → LamX.TabS H' pF qF → H p = none → p ∉ as → H' p = some (.lst (as.map V.ref)) → Runs K ks (noT H) H' as runs → FilledTo os n (enumP 0 rs) runs → Q (.ref p) H'
end
end RS
set_option Elab.async false
set_option maxRecDepth 100000
set_option maxHeartbeats 4000000
namespace RS
open PySem PySem.Spec PyProof.Rows L2 GX
section
variable {α : Type} {lt : α → α → Bool}
theorem RunTo.srtd (O : SrtO.Swo lt) {g left r w l : List α} (h : RunTo lt g left r w l) : SrtO.Srtd lt r ∧ ∀ x, (∀ y ∈ g, lt y x = false) → ∀ y ∈ r, lt y x = false := by
  induction h with
  | done l => exact ⟨.nil, fun _ _ _ h => nomatch h⟩
  | @last g g' r w l x p m t ih =>
    refine ⟨List.pairwise_cons.mpr ⟨ih.2 x m, ih.1⟩, fun z hz y hy => ?_⟩
    have hx := hz x (p.mem_iff.mpr List.mem_cons_self)
    rcases List.mem_cons.mp hy with e | hy
    · rw [e]; exact hx
    · exact O.tr z x y hx (ih.2 x m y hy)
  | @keep g g' left r w l x e p m h t ih =>
    have a : ∀ y ∈ e :: g', lt y x = false := fun y hy => by
      rcases List.mem_cons.mp hy with q | hy
      · rw [q]; exact h
      · exact m y hy
    refine ⟨List.pairwise_cons.mpr ⟨ih.2 x a, ih.1⟩, fun z hz y hy => ?_⟩
    have hx := hz x (p.mem_iff.mpr List.mem_cons_self)
    rcases List.mem_cons.mp hy with q | hy
    · rw [q]; exact hx
    · exact O.tr z x y hx (ih.2 x a y hy)
  | @wait g g' left r w l x e p m h t ih =>
    refine ⟨List.pairwise_cons.mpr ⟨ih.2 x m, ih.1⟩, fun z hz y hy => ?_⟩
    have hx := hz x (p.mem_iff.mpr List.mem_cons_self)
    rcases List.mem_cons.mp hy with q | hy
    · rw [q]; exact hx
    · exact O.tr z x y hx (ih.2 x m y hy)
theorem RunTo.ge {g left r w l : List α} (h : RunTo lt g left r w l) : g.length ≤ r.length := by
  induction h with
  | done l => exact Nat.le_refl _
  | last p m t ih => rw [p.length_eq, List.length_cons, List.length_cons]; omega
  | keep p m h t ih => rw [p.length_eq, List.length_cons, List.length_cons]; rw [List.length_cons] at ih; omega
  | wait p m h t ih => rw [p.length_eq, List.length_cons, List.length_cons]; omega
theorem RunTo.no_left {g left r w l : List α} (h : RunTo lt g left r w l) : left = [] → w = [] ∧ l = [] := by
  induction h with
  | done l => exact fun e => ⟨rfl, e⟩
  | last p m t ih => exact fun _ => ih rfl
  | keep p m h t ih => exact fun e => nomatch e
  | wait p m h t ih => exact fun e => nomatch e
/-- what comes in order is never ahead of what went -/
theorem RunTo.rising {g left r w l : List α} (h : RunTo lt g left r w l) : (∀ y ∈ g, ∀ z ∈ left, lt z y = false) → SrtO.Srtd lt left → w = [] ∧ (g ≠ [] → l = []) := by
  induction h with
  | done l => exact fun _ _ => ⟨rfl, fun e => absurd rfl e⟩
  | last p m t ih => exact fun _ _ => ⟨(t.no_left rfl).1, fun _ => (t.no_left rfl).2⟩
  | @keep g g' left r w l x e p m h t ih =>
    intro a s
    obtain ⟨s1, s2⟩ := List.pairwise_cons.mp s
    have q := ih (fun y hy z hz => by
      rcases List.mem_cons.mp hy with q | hy
      · rw [q]; exact s1 z hz
      · exact a y (p.mem_iff.mpr (List.mem_cons_of_mem _ hy)) z (List.mem_cons_of_mem _ hz)) s2
    exact ⟨q.1, fun _ => q.2 (by simp)⟩
  | @wait g g' left r w l x e p m h t ih =>
    intro a s
    have := a x (p.mem_iff.mpr List.mem_cons_self) e List.mem_cons_self
    rw [h] at this
    cases this
/-- what comes turned about always waits -/
theorem RunTo.falling {g left r w l : List α} (h : RunTo lt g left r w l) : (∀ y ∈ g, ∀ z ∈ left, lt z y = true) → left.Pairwise (fun a b => lt b a = true) → r.length = g.length ∧ w ++ l = left := by
  induction h with
  | done l => exact fun _ _ => ⟨rfl, rfl⟩
  | @last g g' r w l x p m t ih =>
    intro _ _
    obtain ⟨h1, h2⟩ := ih (fun _ _ z hz => nomatch hz) .nil
    exact ⟨by rw [p.length_eq, List.length_cons, List.length_cons, h1], h2⟩
  | @keep g g' left r w l x e p m h t ih =>
    intro a _
    have := a x (p.mem_iff.mpr List.mem_cons_self) e List.mem_cons_self
    rw [h] at this
    cases this
  | @wait g g' left r w l x e p m h t ih =>
    intro a s
    obtain ⟨s1, s2⟩ := List.pairwise_cons.mp s
    obtain ⟨h1, h2⟩ := ih (fun y hy z hz => a y (p.mem_iff.mpr (List.mem_cons_of_mem _ hy)) z (List.mem_cons_of_mem _ hz)) s2
    exact ⟨by rw [p.length_eq, List.length_cons, List.length_cons, h1], by rw [List.cons_append, h2]⟩
theorem RunsTo.all {g left : List α} {runs : List (List α)} (h : RunsTo lt g left runs) (hn : g = [] → left = []) : (runs.flatten).Perm (g ++ left) := by
  induction h with
  | done left => rw [hn rfl]; exact .refl _
  | @more room left r w l rs hr t m ih =>
    rw [List.flatten_cons]
    have q := ih fun e => by
      rcases t.len with z | z
      · exact z
      · rw [e] at z
        exact absurd (List.length_eq_zero_iff.mp z.symm) hr
    refine (List.Perm.append_left r q).trans ?_
    rw [← List.append_assoc]
    exact t.perm.symm
theorem RunsTo.run {g left : List α} {runs : List (List α)} (O : SrtO.Swo lt) (h : RunsTo lt g left runs) : ∀ r ∈ runs, r ≠ [] ∧ SrtO.Srtd lt r := by
  induction h with
  | done left => exact fun _ h => nomatch h
  | @more room left r w l rs hr t m ih =>
    intro q hq
    rcases List.mem_cons.mp hq with e | hq
    · rw [e]
      exact ⟨fun z => by have := t.some hr; rw [z] at this; simp at this, (t.srtd O).1⟩
    · exact ih q hq
theorem RunsTo.nil_of {left : List α} {runs : List (List α)} (h : RunsTo lt [] left runs) : runs = [] := by
  cases h with
  | done => rfl
  | more hr => exact absurd rfl hr
/-- all but the last have as many as the room -/
theorem RunsTo.most {g left : List α} {runs : List (List α)} {n : Nat} (h : RunsTo lt g left runs) (hn : left ≠ [] → g.length = n) : ∀ r ∈ runs.dropLast, n ≤ r.length := by
  induction h with
  | done left => exact fun _ h => nomatch h
  | @more room left r w l rs hr t m ih =>
    have hl : l ≠ [] → w.length = n := fun e => by
      have e2 : left ≠ [] := fun z => e (t.no_left z).2
      rcases t.len with z | z
      · exact absurd z e
      · rw [z, hn e2]
    cases rs with
    | nil => exact fun _ h => nomatch h
    | cons r2 rs =>
      intro q hq
      rw [List.dropLast_cons_cons] at hq
      rcases List.mem_cons.mp hq with e | hq
      · rw [e]
        have e2 : left ≠ [] := fun z => by
          have := (t.no_left z).1
          subst this
          exact nomatch m.nil_of
        rw [← hn e2]
        exact t.ge
      · exact ih hl q hq
theorem RunsTo.risen {g left : List α} {runs : List (List α)} (h : RunsTo lt g left runs) (a : ∀ y ∈ g, ∀ z ∈ left, lt z y = false) (s : SrtO.Srtd lt left) : runs.length = if g = [] then 0 else 1 := by
  cases h with
  | done left => rfl
  | @more room left r w l rs hr t m =>
    have q := t.rising a s
    rw [q.1] at m
    rw [m.nil_of, if_neg hr]
    rfl
theorem RunsTo.fallen {g left : List α} {runs : List (List α)} {n : Nat} (h : RunsTo lt g left runs) : (left ≠ [] → g.length = n) → (∀ y ∈ g, ∀ z ∈ left, lt z y = true) → left.Pairwise (fun a b => lt b a = true) → ∀ r ∈ runs.dropLast, r.length = n := by
  induction h with
  | done left => exact fun _ _ _ _ h => nomatch h
  | @more room left r w l rs hr t m ih =>
    intro hn a s
    obtain ⟨h1, h2⟩ := t.falling a s
    have hl : l ≠ [] → w.length = n := fun e => by
      have e2 : left ≠ [] := fun z => e (t.no_left z).2
      rcases t.len with z | z
      · exact absurd z e
      · rw [z, hn e2]
    cases rs with
    | nil => exact fun _ h => nomatch h
    | cons r2 rs =>
      intro q hq
      rw [List.dropLast_cons_cons] at hq
      rcases List.mem_cons.mp hq with e | hq
      · rw [e, h1]
        exact hn fun z => by
          have := (t.no_left z).1
          subst this
          exact nomatch m.nil_of
      · rw [← h2] at s
        obtain ⟨s1, s2, s3⟩ := List.pairwise_append.mp s
        exact ih hl s3 s2 q hq
theorem sum_ge {n : Nat} : ∀ {runs : List (List α)}, (∀ r ∈ runs.dropLast, n ≤ r.length) → (∀ r ∈ runs, r ≠ []) → runs ≠ [] → n * (runs.length - 1) + 1 ≤ runs.flatten.length
  | [], _, _, h => absurd rfl h
  | [r], _, h, _ => by
    have := h r (by simp)
    cases r with
    | nil => exact absurd rfl this
    | cons a r => simp
  | r :: r2 :: rs, h1, h2, _ => by
    have q := sum_ge (runs := r2 :: rs) (fun r' hr => h1 r' (by rw [List.dropLast_cons_cons]; exact List.mem_cons_of_mem _ hr)) (fun r' hr => h2 r' (List.mem_cons_of_mem _ hr)) (by simp)
    have q1 := h1 r (by rw [List.dropLast_cons_cons]; exact List.mem_cons_self)
    rw [List.flatten_cons, List.length_append]
    simp only [List.length_cons, Nat.add_sub_cancel] at q ⊢
    rw [Nat.mul_add, Nat.mul_one]
    omega
/-- the parts of a list -/
theorem parts_flat {l : List α} {n : Nat} : ∀ k : Nat, ((List.range k).map fun i => (l.drop (i * n)).take n).flatten = l.take (k * n)
  | 0 => by simp
  | k + 1 => by
    rw [List.range_succ, List.map_append, List.flatten_append, parts_flat k]
    simp only [List.map_cons, List.map_nil, List.flatten_cons, List.flatten_nil, List.append_nil]
    rw [Nat.add_mul, Nat.one_mul, List.take_add]
theorem perm_flat : ∀ {a b : List (List α)}, a.length = b.length → (∀ (i : Nat) (x y : List α), a[i]? = some x → b[i]? = some y → x.Perm y) → a.flatten.Perm b.flatten
  | [], [], _, _ => .refl _
  | [], _ :: _, h, _ => by simp at h
  | _ :: _, [], h, _ => by simp at h
  | x :: a, y :: b, h, p => by
    rw [List.flatten_cons, List.flatten_cons]
    exact (p 0 x y rfl rfl).append (perm_flat (by simpa using h) fun i u v hu hv => p (i + 1) u v (by simpa using hu) (by simpa using hv))
end
theorem cnt_eq : ∀ l < 121, ∀ n < 25, 1 ≤ n → cnt l n = (l + n - 1) / n := by decide +kernel
theorem cnt_all (l : Nat) (hl : l < 121) (n : Nat) (hn : n < 25) (h1 : 1 ≤ n) : l ≤ cnt l n * n ∧ ∀ i < 120, i < cnt l n → i * n < l ∧ (i + 1 < cnt l n → (i + 1) * n ≤ l) := by
  rw [cnt_eq l hl n hn h1]
  have d := Nat.div_add_mod (l + n - 1) n
  have m := Nat.mod_lt (l + n - 1) (show n > 0 by omega)
  refine ⟨?_, fun i _ hi => ⟨?_, fun hi2 => ?_⟩⟩
  · rw [Nat.mul_comm]
    omega
  · have := (Nat.le_div_iff_mul_le (show 0 < n by omega)).mp hi
    rw [Nat.succ_mul] at this
    omega
  · have := (Nat.le_div_iff_mul_le (show 0 < n by omega)).mp hi2
    rw [Nat.succ_mul] at this
    omega
section
variable {os : List (Nat × Bool)} {n : Nat} {l : List (Nat × List PyData)} {runs : List (List (Nat × List PyData))}
theorem FilledTo.all (h : FilledTo os n l runs) (hl : l.length ≤ 120) (h1 : 1 ≤ n) (h2 : n ≤ 24) : runs.flatten.Perm l := by
  obtain ⟨c1, _⟩ := cnt_all l.length (by omega) n (by omega) h1
  have q : runs.flatten.Perm ((List.range (cnt l.length n)).map fun i => (l.drop (i * n)).take n).flatten := perm_flat (by rw [h.1, List.length_map, List.length_range]) fun i x y hx hy => by
    have hi : i < cnt l.length n := by rw [← h.1]; exact (List.getElem?_eq_some_iff.mp hx).1
    rw [List.getElem?_map, List.getElem?_range hi] at hy
    cases hy
    exact (h.2 i x hx).1
  rw [parts_flat, List.take_of_length_le c1] at q
  exact q
theorem FilledTo.run (h : FilledTo os n l runs) (hl : l.length ≤ 120) (h1 : 1 ≤ n) (h2 : n ≤ 24) : ∀ r ∈ runs, r ≠ [] ∧ SrtO.Srtd (before os) r := fun r hr => by
  obtain ⟨c1, c2⟩ := cnt_all l.length (by omega) n (by omega) h1
  have cb := cnt_le l.length (by omega) n (by omega) h1
  obtain ⟨i, hi, e⟩ := List.getElem_of_mem hr
  obtain ⟨p, s⟩ := h.2 i r (by rw [List.getElem?_eq_getElem hi, e])
  rw [h.1] at hi
  have c3 := (c2 i (by omega) hi).1
  refine ⟨fun z => ?_, s⟩
  have := p.length_eq
  rw [z, List.length_take, List.length_drop, List.length_nil] at this
  omega
theorem FilledTo.most (h : FilledTo os n l runs) (hl : l.length ≤ 120) (h1 : 1 ≤ n) (h2 : n ≤ 24) : ∀ r ∈ runs.dropLast, r.length = n := fun r hr => by
  obtain ⟨c1, c2⟩ := cnt_all l.length (by omega) n (by omega) h1
  have cb := cnt_le l.length (by omega) n (by omega) h1
  obtain ⟨i, hi, e⟩ := List.getElem_of_mem hr
  rw [List.length_dropLast, h.1] at hi
  have e2 : runs[i]? = some r := by
    rw [List.getElem?_eq_getElem (by rw [h.1]; omega)]
    rw [List.getElem_dropLast] at e
    rw [e]
  obtain ⟨p, _⟩ := h.2 i r e2
  have c3 := (c2 i (by omega) (by omega)).2 (by omega)
  rw [p.length_eq, List.length_take, List.length_drop]
  rw [Nat.add_mul, Nat.one_mul] at c3
  omega
/-- by exchanging there are no more runs than by filling -/
theorem fewer {runs2 : List (List (Nat × List PyData))} (h : FilledTo os n l runs) (hl : l.length ≤ 120) (h1 : 1 ≤ n) (h2 : n ≤ 24) (t : RunsTo (before os) (l.take n) (l.drop n) runs2) : runs2.length ≤ runs.length := by
  obtain ⟨c1, _⟩ := cnt_all l.length (by omega) n (by omega) h1
  by_cases e : runs2 = []
  · rw [e]; exact Nat.zero_le _
  have hn : l.drop n ≠ [] → (l.take n).length = n := fun z => by
    have : n < l.length := by
      by_cases q : n < l.length
      · exact q
      · exact absurd (List.drop_of_length_le (by omega)) z
    rw [List.length_take]
    omega
  have q := sum_ge (t.most hn) (fun r hr => (t.run (swo_before os) r hr).1) e
  have pm := (t.all fun z => by
    have : l = [] := by
      cases l with
      | nil => rfl
      | cons a l => cases n with
        | zero => omega
        | succ n => simp at z
    rw [this, List.drop_nil]).length_eq
  rw [List.take_append_drop] at pm
  rw [pm] at q
  rw [h.1]
  have q2 : n * (runs2.length - 1) < n * cnt l.length n := by rw [Nat.mul_comm n (cnt _ _)]; omega
  have := Nat.lt_of_mul_lt_mul_left q2
  omega
end
end RS
set_option Elab.async false
set_option maxRecDepth 100000
set_option maxHeartbeats 4000000
namespace RS
open PySem PySem.Spec PyProof.Rows L2 GX
theorem lex_tot : ∀ A B : List Int, HT.lexLt A B = false → HT.lexLt B A = false → A = B
  | [], [], _, _ => rfl
  | [], y :: B, h1, _ => by rw [HT.lexLt_nil_cons] at h1; cases h1
  | x :: A, [], _, h2 => by rw [HT.lexLt_nil_cons] at h2; cases h2
  | x :: A, y :: B, h1, h2 => by
    rw [HT.lexLt_cons] at h1 h2
    by_cases e : x = y
    · subst e
      rw [if_pos rfl] at h1 h2
      rw [lex_tot A B h1 h2]
    · rw [if_neg e] at h1
      rw [if_neg (Ne.symm e)] at h2
      have a := of_decide_eq_false h1
      have b := of_decide_eq_false h2
      omega
theorem col_tot {kb b : Bool} {m t : PyData} (hm : isVal kb m = true) (ht : isVal kb t = true) (ne : m ≠ t) (h : colLt b m t = false) : colLt b t m = true := by
  obtain ⟨_, k2, k3⟩ := key_lt (b := b) hm ht ne
  obtain ⟨_, _, k4⟩ := key_lt (b := b) ht hm (Ne.symm ne)
  cases e : colLt b t m with
  | true => rfl
  | false =>
    rw [← k3] at h
    rw [← k4] at e
    exact absurd (lex_tot _ _ h e) k2
theorem Alike.symm {os : List (Nat × Bool)} {p q : Nat × List PyData} (A : Alike os p q) : Alike os q p := fun o ho => by
  obtain ⟨kb, m, t, h1, h2, v1, v2⟩ := A o ho
  exact ⟨kb, t, m, h2, h1, v2, v1⟩
/-- rows in order, numbered anew -/
theorem before_rise {p q : Nat × List PyData} {i j : Nat} (hij : i < j) : ∀ {os : List (Nat × Bool)}, Alike os p q → before os q p = false → before os (j, q.2) (i, p.2) = false
  | [], _, _ => by rw [before_nil]; exact decide_eq_false (by show ¬ j < i; omega)
  | (c, b) :: os, A, h => by
    obtain ⟨kb, m, t, h1, h2, v1, v2⟩ := A (c, b) List.mem_cons_self
    have B := before_cons (os := os) (b := b) h2 h1 v2 v1
    have B' := before_cons (os := os) (b := b) (p := (j, q.2)) (q := (i, p.2)) h2 h1 v2 v1
    by_cases e : t = m
    · rw [B'.1 e]
      rw [B.1 e] at h
      exact before_rise hij (fun o ho => A o (List.mem_cons_of_mem _ ho)) h
    · rw [B'.2 e]
      rw [B.2 e] at h
      exact h
/-- rows in order that are unlike, turned about -/
theorem before_fall {p q : Nat × List PyData} {i j : Nat} : ∀ {os : List (Nat × Bool)}, Alike os p q → before os q p = false → (∃ o ∈ os, p.2[o.1]? ≠ q.2[o.1]?) → before os (j, p.2) (i, q.2) = true
  | [], _, _, ⟨_, h, _⟩ => nomatch h
  | (c, b) :: os, A, h, u => by
    obtain ⟨kb, m, t, h1, h2, v1, v2⟩ := A (c, b) List.mem_cons_self
    have B := before_cons (os := os) (b := b) h2 h1 v2 v1
    have B' := before_cons (os := os) (b := b) (p := (j, p.2)) (q := (i, q.2)) h1 h2 v1 v2
    by_cases e : m = t
    · rw [B'.1 e]
      rw [B.1 e.symm] at h
      refine before_fall (fun o ho => A o (List.mem_cons_of_mem _ ho)) h ?_
      obtain ⟨o, ho, ne⟩ := u
      rcases List.mem_cons.mp ho with z | ho
      · rw [z] at ne
        exact absurd (by show p.2[c]? = q.2[c]?; rw [h1, h2, e]) ne
      · exact ⟨o, ho, ne⟩
    · rw [B'.2 e]
      rw [B.2 (Ne.symm e)] at h
      exact col_tot v2 v1 (Ne.symm e) h
theorem rise_all {ks : List Bool} {os : List (Nat × Bool)} (ok : OkOrder ks.length os) {qs : List (Nat × List PyData)} (hq : ∀ q ∈ qs, isRow ks (.tuple q.2) = true) (s : SrtO.Srtd (before os) qs) : SrtO.Srtd (before os) (enumP 0 (qs.map (·.2))) := by
  refine List.pairwise_iff_getElem.mpr fun i j hi hj hij => ?_
  rw [enumP_length, List.length_map] at hi hj
  have g : ∀ k (hk : k < qs.length) (h' : k < (enumP 0 (qs.map (·.2))).length), (enumP 0 (qs.map (·.2)))[k] = (k, (qs[k]).2) := fun k hk h' => by
    have e := enumP_get (l := qs.map (·.2)) (k := 0) (i := k)
    rw [List.getElem?_eq_getElem h', List.getElem?_map, List.getElem?_eq_getElem hk] at e
    have e := Option.some.inj e
    rw [e]
    simp
  rw [g i hi, g j hj]
  exact before_rise hij (alike_rows ok (hq _ (List.getElem_mem hi)) (hq _ (List.getElem_mem hj))) (List.pairwise_iff_getElem.mp s i j hi hj hij)
theorem fall_all {os : List (Nat × Bool)} {fs : List (List PyData)} (s : fs.Pairwise fun a b => ∀ i j, before os (j, b) (i, a) = true) : (enumP 0 fs).Pairwise fun a b => before os b a = true := by
  refine List.pairwise_iff_getElem.mpr fun i j hi hj hij => ?_
  rw [enumP_length] at hi hj
  have g : ∀ k (hk : k < fs.length) (h' : k < (enumP 0 fs).length), (enumP 0 fs)[k] = (k, fs[k]) := fun k hk h' => by
    have e := enumP_get (l := fs) (k := 0) (i := k)
    rw [List.getElem?_eq_getElem h', List.getElem?_eq_getElem hk] at e
    have e := Option.some.inj e
    rw [e]
    simp
  rw [g i hi, g j hj]
  exact List.pairwise_iff_getElem.mp s i j hi hj hij i j
/-- one more that is unlike the last -/
theorem fall_snoc {os : List (Nat × Bool)} {fs : List (List PyData)} {a x : List PyData} (s : (fs ++ [a]).Pairwise fun a b => ∀ i j, before os (j, b) (i, a) = true) (h : ∀ i j, before os (j, x) (i, a) = true) : (fs ++ [a] ++ [x]).Pairwise fun a b => ∀ i j, before os (j, b) (i, a) = true := by
  refine List.pairwise_append.mpr ⟨s, List.pairwise_singleton _ _, fun y hy z hz i j => ?_⟩
  rw [List.mem_singleton.mp hz]
  rcases List.mem_append.mp hy with hy | hy
  · have h1 := (List.pairwise_append.mp s).2.2 y hy a (List.mem_singleton.mpr rfl) i 0
    have h2 := h 0 j
    exact (swo_before os).ltle h2 ((swo_before os).asym _ _ h1)
  · rw [List.mem_singleton.mp hy]
    exact h i j
end RS
set_option Elab.async false
set_option maxRecDepth 100000
set_option maxHeartbeats 4000000
namespace FLs
open PySem PySem.Spec PyProof.Rows L2 PySem.W
/-! ### keys that are tuples of ints -/
def IsTi (h : Heap) (v : Value) (ns : List Int) : Prop := ∃ (a : Addr) (o : Obj) (xs : Array Value) (n : Nat), v = .ref a ∧ h.get? a = some o ∧ o.cls = .type "tuple" ∧ o.data = .seq xs n ∧ IntsAre xs.toList ns
section
variable {prog : Program} {w : World} {A : Around} {E : Value → Shared → Prop} {s : Shared}
theorem kat_ints {b : Bool} {Q : Bool → Shared → Prop} : ∀ {xs ys : List Value} {ns ms : List Int} (i : Nat) (fin : Bool), IntsAre xs ns → IntsAre ys ms → (fin = decide (ns.length < ms.length)) → Q (HT.lexLt ns ms) s → KatLex prog w A b fin Q (xs.zip ys) i s := by
  intro xs
  induction xs with
  | nil =>
    intro ys ns ms i fin hx hy hf q
    cases hx
    refine kat_nil ?_
    cases hy with
    | nil => rw [hf]; exact q
    | cons m t hy => rw [hf]; exact q
  | cons x xs ih =>
    intro ys ns ms i fin hx hy hf q
    cases hx with
    | cons n t hx =>
      cases hy with
      | nil => rw [List.zip_nil_right]; refine kat_nil ?_; rw [hf]; exact q
      | cons m u hy =>
        rw [List.zip_cons_cons]
        refine kat_cons ?_
        rw [HT.lexLt_cons] at q
        refine wpAny_eqBool_int ?_
        by_cases e : n = m
        · subst e
          have z : (n == n) = true := beq_self_eq_true n
          rw [z]
          rw [if_pos rfl] at q
          refine kat_yes (ih (i + 1) fin hx hy ?_ q)
          rw [hf]
          simp
        · have z : (n == m) = false := by simpa using e
          rw [z]
          rw [if_neg e] at q
          refine kat_no ?_
          cases hb : (b && i == 0) with
          | false => exact kat_one _ _ (PyProof.Rows.lt_int q)
          | true =>
            exact oneLt_int q
theorem ti_lt {b : Bool} {x y : Value} {ns ms : List Int} {Q : Bool → Shared → Prop} (hx : IsTi s.heap x ns) (hy : IsTi s.heap y ms) (q : Q (HT.lexLt ns ms) s) : wpAny (model prog w) A (keyLt' (tuples' b) x y) Q E s := by
  obtain ⟨a, o, xs, n, rfl, h1, _, h3, h4⟩ := hx
  obtain ⟨c, p, ys, m, rfl, g1, _, g3, g4⟩ := hy
  refine kat_lt h1 h3 g1 g3 (kat_ints 0 _ h4 g4 ?_ q)
  have l1 := h4.length
  have l2 := g4.length
  rw [Array.length_toList] at l1 l2
  rw [l1, l2]
theorem ti_tups {h : Heap} : ∀ {vs : List Value}, (∀ v ∈ vs, ∃ n ns, IsTi h v (n :: ns)) → ∃ fs, KatTups h vs fs ∧ fs.length = vs.length ∧ ∀ v ∈ fs, ∃ n t, v = .int n t
  | [], _ => ⟨[], .nil, rfl, fun _ h => nomatch h⟩
  | v :: vs, hv => by
    obtain ⟨fs, h1, h2, h3⟩ := ti_tups (vs := vs) fun u hu => hv u (List.mem_cons_of_mem _ hu)
    obtain ⟨n, ns, a, o, xs, k, rfl, g1, g2, g3, g4⟩ := hv v List.mem_cons_self
    obtain ⟨t, r, e⟩ : ∃ t r, xs.toList = .int n t :: r := by
      cases q : xs.toList with
      | nil => rw [q] at g4; cases g4
      | cons y r =>
        rw [q] at g4
        cases g4 with
        | cons _ t _ => exact ⟨t, r, rfl⟩
    refine ⟨.int n t :: fs, .cons g1 g2 g3 (by rw [← Array.getElem?_toList, e]; rfl) h1, by simp [h2], fun u hu => ?_⟩
    rcases List.mem_cons.mp hu with z | z
    · exact ⟨n, t, z⟩
    · exact h3 u z
theorem ti_kind {vs : List Value} {Q : SortKind → Shared → Prop} (hv : ∀ v ∈ vs, ∃ n ns, IsTi s.heap v (n :: ns)) (h0 : 0 < vs.length) (q : Q (tuples' true) s) : wpAny (model prog w) A (keyKind' vs.toArray) Q E s := by
  obtain ⟨fs, h1, h2, h3⟩ := ti_tups hv
  refine kat_kind (T := .type "int") h1 (by omega) (fun v hv => ?_) (by decide) q
  obtain ⟨n, t, rfl⟩ := h3 v hv
  exact .now
end
end FLs
set_option Elab.async false
set_option maxRecDepth 100000
set_option maxHeartbeats 4000000
namespace FLs
open PySem PySem.Spec PyProof.Rows L2 PySem.W RS
section
variable {X : Cx} {pins : List (Addr × Obj)} {σ : L2.St} {H : Hp} {s : Shared}
/-- the keys, one by one: the list's items stand at D no more, the keys at kS -/
theorem keys_run {q D kS : Addr} {its : List Value} {xs : List V} {kf : Nat → List Int} {b : Bool} {e1 : Nat} {R : PySem.Fin → Shared → Prop} {E : Value → Shared → Prop} {A : Around} (I : Inv X pins σ H s) (rv : Vals xs its) (hk : H kS = some (.lst [])) (hz : its.length ≤ 1000)
    (turn : ∀ (i : Nat) (v : V) (u : Value) (s' : Shared) (H' : Hp), (∀ c o, c ≠ kS → H c = some o → H' c = some o) → Inv X pins σ H' s' → xs[i]? = some v → RelV v u →
      wpAny (model X.prog X.w) A (call (.ref q) [u]) (EP X pins σ fun r H'' => Same H' H'' ∧ ∃ p, r = .ref p ∧ H'' p = some (.tup ((kf i).map V.int))) (fun _ _ => False) s')
    (h : ∀ (s' : Shared) (H' : Hp) (ps : List Addr) (kA : Array Value), (∀ c o, c ≠ kS → H c = some o → H' c = some o) → Inv X pins σ H' s' → H' kS = some (.lst (ps.map V.ref)) → ps.length = its.length → (∀ (i : Nat) p, ps[i]? = some p → H' p = some (.tup ((kf i).map V.int))) →
      Vals (ps.map V.ref) kA.toList → (∃ n, s'.heap.get? kS = some { cls := .type "list", data := .seq kA n }) → wpAny (model X.prog X.w) A (ksk_end D b its.toArray e1 (.ref kS) kA) R E s') :
    wpAny (model X.prog X.w) A (ksk_rest D (.ref q) b its.toArray e1 (.ref kS)) R E s := by
  unfold ksk_rest
  refine wpAny_bind (wpAny_rule ?_)
  first
    | rw [List.forIn_toArray]
    | (rw [← Array.forIn_toList]; simp only [List.toList_toArray])
    | rw [← Array.forIn_toList]
  refine wpAny_bind (ksk_fold (fun i s' => ∃ (H' : Hp) (ps : List Addr), (∀ c o, c ≠ kS → H c = some o → H' c = some o) ∧ Inv X pins σ H' s' ∧ H' kS = some (.lst (ps.map V.ref)) ∧ ps.length = i ∧ ∀ (j : Nat) p, ps[j]? = some p → H' p = some (.tup ((kf j).map V.int))) its 0 s
    ⟨H, [], fun c o _ e => e, I, hk, rfl, fun j p h => by simp at h⟩ ?step ?done)
  case step =>
    rintro j x s' hx ⟨H', ps, sm, I', hk', lp, hp⟩
    simp only [Nat.zero_add] at lp ⊢
    have hj : j < its.length := (List.getElem?_eq_some_iff.mp hx).1
    have lx := rv.length
    obtain ⟨u, hu, ru⟩ := rv.get (i := j) (x := xs[j]) (List.getElem?_eq_getElem (by omega))
    rw [hx] at hu
    cases hu
    refine wpAny_bind (wpAny_attempt (wpAny_mono (turn j xs[j] x s' H' sm I' (List.getElem?_eq_getElem (by omega)) ru) (fun v s'' he => ?_) fun _ _ hF => hF.elim))
    obtain ⟨r, H'', I'', rr, s12, p, er, hp''⟩ := he
    subst er
    cases rr
    try dsimp only
    have hk'' := s12 _ _ hk'
    obtain ⟨_, kits, n, kr, kl, ke⟩ := I''.lstM hk''
    have lk : kits.length = ps.length := by rw [← kr.length, List.length_map]
    have n2 : p ≠ kS := fun z => by rw [z, hk''] at hp''; cases hp''
    have z1000 : (1000 : Nat) < sizeLine := by decide
    refine wpAny_bind (listUpdate_at ke rfl ?_ (by rw [List.size_toArray]; omega) (by rw [Array.size_push, List.size_toArray]; omega))
    have I3 : Inv X pins σ (upd H'' kS (.lst ((ps ++ [p]).map V.ref))) { s'' with heap := s''.heap.update kS (Obj.mapSeq fun x => x.push (.ref p)) } :=
      I''.lset (l := kS) (ys := (ps ++ [p]).map V.ref) (its' := kits ++ [.ref p]) (f := fun x => x.push (.ref p)) (t' := s''.toks) hk'' ke (by simp) (by rw [List.map_append]; exact kr.append (.cons rfl .nil)) (by rw [List.length_map, List.length_append, List.length_singleton]; omega)
    refine wpAny_pure ⟨rfl, _, ps ++ [p], fun c o hc e => ?_, I3, upd_same, by rw [List.length_append, lp]; rfl, fun i' p' hi => ?_⟩
    · rw [upd_ne hc]
      exact s12 _ _ (sm c o hc e)
    · have np : ∀ p0, H'' p0 = some (.tup ((kf i').map V.int)) → upd H'' kS (.lst ((ps ++ [p]).map V.ref)) p0 = some (.tup ((kf i').map V.int)) := fun p0 e => by
        rw [upd_ne (fun z => by rw [z, hk''] at e; cases e)]
        exact e
      by_cases hlt : i' < ps.length
      · rw [List.getElem?_append_left hlt] at hi
        exact np p' (s12 _ _ (hp i' p' hi))
      · have h1 := (List.getElem?_eq_some_iff.mp hi).1
        rw [List.length_append, List.length_singleton] at h1
        have e1 : i' = ps.length := by omega
        subst e1
        rw [List.getElem?_append_right (Nat.le_refl _), Nat.sub_self] at hi
        cases hi
        rw [lp] at np ⊢
        exact np p hp''
  case done =>
    rintro s' ⟨H', ps, sm, I', hk', lp, hp⟩
    rw [Nat.zero_add] at lp
    obtain ⟨_, kits, n, kr, kl, ke⟩ := I'.lstM hk'
    try dsimp only
    refine wpAny_bind (listItems_at ke rfl ?_)
    exact h s' H' ps kits.toArray sm I' hk' lp hp (by simpa using kr) ⟨n, ke⟩
end
end FLs
set_option Elab.async false
set_option maxRecDepth 100000
set_option maxHeartbeats 4000000
namespace FLs
open PySem PySem.Spec PyProof.Rows L2 PySem.W RS
def kOf (h : Heap) : Value → List Int
  | .ref a => (match h.get? a with
    | some o => (match o.data with
      | .seq xs _ => xs.toList.map numOf
      | _ => [])
    | none => [])
  | _ => []
theorem kOf_ti {h : Heap} {v : Value} {ns : List Int} (t : IsTi h v ns) : kOf h v = ns := by
  obtain ⟨a, o, xs, n, rfl, h1, _, h3, h4⟩ := t
  simp only [kOf, h1, h3]
  exact h4.nums
def ltk (h : Heap) (p q : Keyed) : Bool := HT.lexLt (kOf h p.1) (kOf h q.1)
theorem swo_ltk (h : Heap) : SrtO.Swo (ltk h) := NtL.swo_lexL (fun p : Keyed => kOf h p.1)
section
variable {prog : Program} {w : World} {A : Around} {s : Shared}
theorem cmp_ltk {b : Bool} : SrtO.Cmp prog w A s (tuples' b) (fun p => ∃ ns, IsTi s.heap p.1 ns) (ltk s.heap) := by
  rintro p q ⟨ns, hp⟩ ⟨ms, hq⟩
  refine ti_lt hp hq ⟨rfl, ?_⟩
  unfold ltk
  rw [kOf_ti hp, kOf_ti hq]
end
/-- the outcome: an order of the places -/
def Outs (kf : Nat → List Int) (n : Nat) (is : List Nat) : Prop := (List.range n).Perm is ∧ SrtO.Srtd (fun i j => HT.lexLt (kf i) (kf j)) is
section
variable {prog : Program} {w : World} {A : Around} {s : Shared} {E : Value → Shared → Prop}
theorem end_run {D kS : Addr} {its : List Value} {kA : Array Value} {kf : Nat → List Int} {e1 n : Nat} {R : PySem.Fin → Shared → Prop} (hz : its.length ≤ 1000) (ne : kS ≠ D) (hl : kA.size = its.length) (hk : ∀ (i : Nat) v, kA[i]? = some v → IsTi s.heap v (kf i) ∧ kf i ≠ [])
    (gk : s.heap.get? kS = some (seqObj "list" kA n)) (gD : s.heap.get? D = some (seqObj "list" #[] e1))
    (h : ∀ is, Outs kf its.length is → R (.done (.ret .none)) { s with heap := (s.heap.update kS (Obj.mapSeq fun _ => #[])).update D (Obj.mapSeq fun _ => (is.map fun i => its.getD i .none).toArray) }) :
    wpAny (model prog w) A (ksk_end D false its.toArray e1 (.ref kS) kA) R E s := by
  have big : (1000 : Nat) < sizeLine := by decide
  have lz : kA.toList.length = its.length := by rw [Array.length_toList]; exact hl
  have ez : (kA.zip its.toArray).toList = (List.range its.length).map fun i => (kA.toList.getD i .none, its.getD i .none) := by
    rw [ksk_zip]
    refine List.ext_getElem? fun i => ?_
    rw [List.getElem?_map]
    by_cases hi : i < its.length
    · rw [List.getElem?_range hi, List.getElem?_eq_getElem (by rw [List.length_zip]; omega), List.getElem_zip]
      have h1 : i < kA.toList.length := by omega
      show _ = some (kA.toList.getD i .none, its.getD i .none)
      rw [List.getD_eq_getElem?_getD, List.getD_eq_getElem?_getD, List.getElem?_eq_getElem h1, List.getElem?_eq_getElem hi]
      rfl
    · rw [List.getElem?_eq_none (by rw [List.length_zip]; omega), List.getElem?_eq_none (by simp; omega)]
      rfl
  -- the tail
  have tail : ∀ st : SortSt, SrtO.Srtd (ltk s.heap) (arrOf st).toList → ((kA.zip its.toArray).toList).Perm (arrOf st).toList → failedOf st = none → wpAny (model prog w) A (ksk_tail D false e1 (.ref kS) st) R E s := by
    intro st hs hp hf
    rw [ez] at hp
    obtain ⟨is, p1, p2⟩ := perm_unmap hp _ rfl
    have mem : ∀ i ∈ is, i < its.length := fun i hi => List.mem_range.mp (p1.mem_iff.mpr hi)
    have hsi : SrtO.Srtd (fun i j => HT.lexLt (kf i) (kf j)) is := by
      rw [← p2] at hs
      have q := List.pairwise_map.mp hs
      refine List.Pairwise.imp_of_mem (fun {x y} hx hy hxy => ?_) q
      have kx : ∀ i, i < its.length → kOf s.heap (kA.toList.getD i .none) = kf i := fun i hi => by
        refine kOf_ti (hk i _ ?_).1
        rw [List.getD_eq_getElem?_getD, ← Array.getElem?_toList, List.getElem?_eq_getElem (by omega)]
        rfl
      unfold ltk at hxy
      simp only at hxy
      rw [kx x (mem x hx), kx y (mem y hy)] at hxy
      exact hxy
    have eo : (arrOf st).map (·.2) = (is.map fun i => its.getD i .none).toArray := by
      apply Array.toList_inj.mp
      rw [Array.toList_map, ← p2, List.map_map]
      rfl
    have lis : is.length = its.length := by rw [← p1.length_eq, List.length_range]
    unfold ksk_tail
    dsimp only
    rw [eo]
    refine wpAny_bind (listUpdate_at gk rfl ?_ (by omega) (Nat.zero_le _))
    refine wpAny_bind (wpAny_letGo ?_)
    have gD1 : (s.heap.update kS (Obj.mapSeq fun _ => (#[] : Array Value))).get? D = some (seqObj "list" #[] e1) := (Heap.get?_update_ne _ _ _ _ (Ne.symm ne)).trans gD
    refine wpAny_bind (seqEpoch_at gD1 rfl ?_)
    refine wpAny_bind (listUpdate_at gD1 rfl ?_ (Nat.zero_le _) (by simp only [Bool.false_eq_true, if_false, List.size_toArray, List.length_map]; omega))
    rw [hf]
    simp only [bne_self_eq_false, Bool.false_eq_true, if_false]
    exact wpAny_pure (h is ⟨p1, hsi⟩)
  unfold ksk_end
  dsimp only
  rw [if_neg (by decide)]
  by_cases h2 : its.toArray.size < 2
  · rw [if_pos h2, if_pos h2]
    refine wpAny_bind (wpAny_pure ?_)
    rw [StateT.run_pure]
    refine wpAny_bind (wpAny_pure ?_)
    rw [List.size_toArray] at h2
    refine tail _ ?_ (List.Perm.refl _) rfl
    have lp : (kA.zip its.toArray).toList.length < 2 := by rw [ksk_zip, List.length_zip]; omega
    show SrtO.Srtd (ltk s.heap) (kA.zip its.toArray).toList
    match (kA.zip its.toArray).toList, lp with
    | [], _ => exact .nil
    | [x], _ => exact List.pairwise_singleton _ _
  · rw [if_neg h2, if_neg h2]
    rw [List.size_toArray] at h2
    have ti : ∀ v ∈ kA.toList, ∃ n ns, IsTi s.heap v (n :: ns) := fun v hv => by
      obtain ⟨i, hi, ei⟩ := List.getElem_of_mem hv
      obtain ⟨t, nn⟩ := hk i v (by rw [← Array.getElem?_toList, List.getElem?_eq_getElem hi, ei])
      cases q : kf i with
      | nil => exact absurd q nn
      | cons n ns =>
        rw [q] at t
        exact ⟨n, ns, t⟩
    refine wpAny_bind ?_
    have ek := ti_kind (prog := prog) (w := w) (A := A) (s := s) (E := E) (Q := fun κ s' => κ = tuples' true ∧ s' = s) ti (by omega) ⟨rfl, rfl⟩
    rw [Array.toArray_toList] at ek
    refine wpAny_mono ek (fun κ s' hκ => ?_) fun _ _ e => e
    obtain ⟨rfl, rfl⟩ := hκ
    refine wpAny_bind (wpAny_mono (SrtO.wpS_sortO (st0 := SortSt.mk' (tuples' true) (if false = true then (kA.zip its.toArray).reverse else kA.zip its.toArray) #[] 7 none)
      (Q := fun _ st' => SrtO.Srtd (ltk s'.heap) (arrOf st').toList ∧ SrtO.Stb (ltk s'.heap) (arrOf st').toList (kA.zip its.toArray).toList ∧ failedOf st' = none) (swo_ltk s'.heap) cmp_ltk rfl (fun p hp => ?_) rfl rfl fun st' a1 a2 a3 => ⟨a1, a2, a3⟩) ?_ fun _ _ e => e)
    · have hp : p ∈ (kA.zip its.toArray).toList := hp
      rw [ksk_zip] at hp
      obtain ⟨n, ns, t⟩ := ti p.1 (List.of_mem_zip hp).1
      exact ⟨_, t⟩
    · rintro ⟨⟨⟩, st'⟩ s2 ⟨rfl, hp1, hp2, hf⟩
      exact tail st' hp1 hp2.perm.symm hf
end
end FLs
set_option Elab.async false
set_option maxRecDepth 100000
set_option maxHeartbeats 4000000
namespace FLs
open PySem PySem.Spec PyProof.Rows L2 PySem.W RS
section
variable {X : Cx} {pins : List (Addr × Obj)} {σ : L2.St} {H : Hp} {s : Shared}
theorem sorted_key {q a : Addr} {xs : List V} {kf : Nat → List Int} {Q : VK} (I : Inv X pins σ H s) (hS : SqL X.K H a xs) (hz : xs.length ≤ 1000) (hkf : ∀ i, i < xs.length → kf i ≠ [])
    (turn : ∀ (i : Nat) (v : V) (u : Value) (s' : Shared) (H' : Hp), Same H H' → Inv X pins σ H' s' → xs[i]? = some v → RelV v u →
      wpAny (model X.prog X.w) X.A.in1.in1 (call (.ref q) [u]) (EP X pins σ fun r H'' => Same H' H'' ∧ ∃ p, r = .ref p ∧ H'' p = some (.tup ((kf i).map V.int))) (fun _ _ => False) s')
    (h : ∀ (H' : Hp) (D : Addr) (is : List Nat), Same H H' → H D = none → Outs kf xs.length is → H' D = some (.lst (is.map fun i => xs.getD i .non)) → Q (.ref D) H') :
    wpAny (model X.prog X.w) X.A (call (.builtin "sorted") [.ref a] [(Str.ofString "key", .ref q)]) (EP X pins σ Q) X.xe s := by
  obtain ⟨its, r, pl, _⟩ := I.list hS
  have lr := r.length
  have big : (1000 : Nat) < sizeLine := by decide
  refine call_function_entry_kw kind_sorted plain_sorted entry_sorted (ksk_s1 _ _) ?_
  unfold Builtin.«sorted»
  refine wpAny_bind (m := checkCount "sorted" 1 1 _) (wpAny_pure ?_)
  refine wpAny_bind (collect_list pl.isList ?_ (by omega))
  refine wpAny_bind (wpAny_newList ?_ (by omega))
  have hsz : ((s.heap.push (seqObj "list" #[] 0)).update s.heap.objs.size (Obj.mapSeq (· ++ its.toArray))).objs.size = s.heap.objs.size + 1 := by
    rw [Heap.size_update, size_push']
  have hoL : (((s.heap.push (seqObj "list" #[] 0)).update s.heap.objs.size (Obj.mapSeq (· ++ its.toArray))).push (seqObj "list" its.toArray 0)).get? (s.heap.objs.size + 1) = some (seqObj "list" its.toArray 0) := by
    rw [← hsz]; exact Heap.get?_push_size _ rfl
  have keep : ∀ b o, s.heap.get? b = some o → (((s.heap.push (seqObj "list" #[] 0)).update s.heap.objs.size (Obj.mapSeq (· ++ its.toArray))).push (seqObj "list" its.toArray 0)).get? b = some o := fun b o q => by
    have hlt : b < s.heap.objs.size := Heap.lt_size q
    rw [Heap.get?_push_ne _ _ _ (by rw [hsz]; exact Nat.ne_of_lt (Nat.lt_succ_of_lt hlt)), Heap.get?_update_ne _ _ _ _ (Nat.ne_of_lt hlt), Heap.get?_push_ne _ _ _ (Nat.ne_of_lt hlt)]
    exact q
  obtain ⟨g, eg⟩ : ∃ g : Heap, g = ((s.heap.push (seqObj "list" #[] 0)).update s.heap.objs.size (Obj.mapSeq (· ++ its.toArray))).push (seqObj "list" its.toArray 0) := ⟨_, rfl⟩
  obtain ⟨D, eD⟩ : ∃ D : Addr, D = s.heap.objs.size + 1 := ⟨_, rfl⟩
  have gsz : g.objs.size = s.heap.objs.size + 2 := by rw [eg, size_push', hsz]
  show wpAny _ _ _ _ _ { s with heap := ((s.heap.push (seqObj "list" #[] 0)).update s.heap.objs.size (Obj.mapSeq (· ++ its.toArray))).push (seqObj "list" its.toArray 0) }
  rw [hsz, ← eD]
  rw [← eg, ← eD] at hoL
  rw [← eg] at keep ⊢
  refine wpAny_bind (wpAny_holding (wpAny_call_entry_kw slot_list_sort ⟨_, hoL, rfl⟩ entry_list_sort ?body (ksk_l1 _ _)))
  case body =>
    show wpAny (model X.prog X.w) X.A.in1.in1 (Builtin.«list.sort» ⟨[.ref D], [(Str.ofString "key", .ref q)]⟩) _ _ _
    rw [ksk_t1]
    obtain ⟨e1, ho1⟩ : ∃ e1, (g.update D (Obj.mapSeq fun _ => (#[] : Array Value))).get? D = some (seqObj "list" #[] e1) := ⟨_, get?_update_seq hoL fun _ => #[]⟩
    unfold ksk_tree
    refine wpAny_bind (listItems_at hoL rfl ?_)
    refine wpAny_bind (listUpdate_at hoL rfl ?_ (by rw [List.size_toArray]; omega) (Nat.zero_le _))
    refine wpAny_bind (seqEpoch_at ho1 rfl ?_)
    refine wpAny_bind (wpAny_newTuple ?_ (by show its.length ≤ _; omega))
    refine wpAny_bind (wpAny_newList ?_ (Nat.zero_le _))
    refine wpAny_holding ?_
    obtain ⟨g5, e5⟩ : ∃ g5 : Heap, g5 = (g.update D (Obj.mapSeq fun _ => (#[] : Array Value))).push (seqObj "tuple" its.toArray 0) := ⟨_, rfl⟩
    show wpAny _ _ (ksk_rest D (.ref q) false its.toArray e1 (.ref ((g.update D (Obj.mapSeq fun _ => (#[] : Array Value))).push (seqObj "tuple" its.toArray 0)).objs.size)) _ _ { s with heap := ((g.update D (Obj.mapSeq fun _ => (#[] : Array Value))).push (seqObj "tuple" its.toArray 0)).push (seqObj "list" #[] 0) }
    rw [← e5]
    obtain ⟨kS, eS⟩ : ∃ kS : Addr, kS = g5.objs.size := ⟨_, rfl⟩
    rw [← eS]
    have sz5 : g5.objs.size = s.heap.objs.size + 3 := by rw [e5, size_push', Heap.size_update, gsz]
    have neKD : kS ≠ D := by rw [eS, eD, sz5]; exact Nat.ne_of_gt (Nat.lt_succ_of_lt (Nat.lt_succ_self _))
    have gD6 : (g5.push (seqObj "list" #[] 0)).get? D = some (seqObj "list" #[] e1) := by
      refine Heap.get?_push_of_some _ ?_
      rw [e5]
      exact Heap.get?_push_of_some _ ho1
    have gS6 : (g5.push (seqObj "list" #[] 0)).get? kS = some (seqObj "list" #[] 0) := by
      rw [eS]
      exact Heap.get?_push_size _ rfl
    have keep6 : ∀ b o, s.heap.get? b = some o → (g5.push (seqObj "list" #[] 0)).get? b = some o := fun b o e => by
      have hlt : b < s.heap.objs.size := Heap.lt_size e
      have nb : b ≠ D := by rw [eD]; exact Nat.ne_of_lt (Nat.lt_succ_of_lt hlt)
      refine Heap.get?_push_of_some _ ?_
      rw [e5]
      exact Heap.get?_push_of_some _ ((Heap.get?_update_ne _ _ _ _ nb).trans (keep b o e))
    have HD0 : H D = none := I.hok.fresh (by rw [eD]; exact Nat.le_succ _)
    have HS0 : H kS = none := I.hok.fresh (by rw [eS, sz5]; exact Nat.le_add_right _ _)
    have I6 : Inv X pins σ (upd (upd H D (.frz (seqObj "list" #[] e1) (.lst []))) kS (.lst [])) { s with heap := g5.push (seqObj "list" #[] 0), toks := s.toks } := by
      refine laid_many I keep6 (fun b hb => ?_) (fun b o hb e => ?_)
      · rw [upd_ne (by rw [eS, sz5]; exact Nat.ne_of_lt (Nat.lt_of_lt_of_le hb (Nat.le_add_right _ _))), upd_ne (by rw [eD]; exact Nat.ne_of_lt (Nat.lt_succ_of_lt hb))]
      · by_cases h1 : b = kS
        · subst h1
          rw [upd_same] at e
          cases e
          exact ⟨Nat.zero_le _, [], 0, .nil, gS6⟩
        · rw [upd_ne h1] at e
          by_cases h2 : b = D
          · subst h2
            rw [upd_same] at e
            cases e
            exact ⟨gD6, Nat.zero_le _, [], e1, .nil, gD6⟩
          · rw [upd_ne h2, I.hok.fresh hb] at e
            cases e
    have up : ∀ H', (∀ c o, c ≠ kS → upd (upd H D (.frz (seqObj "list" #[] e1) (.lst []))) kS (.lst []) c = some o → H' c = some o) → Same H H' := fun H' sm c o e => by
      refine sm c o (ne_of_none e HS0) ?_
      rw [upd_ne (ne_of_none e HS0), upd_ne (ne_of_none e HD0)]
      exact e
    refine keys_run (kf := kf) I6 r upd_same (by omega) (fun i v u s' H' sm I' hx ru => turn i v u s' H' (up H' sm) I' hx ru) (fun s' H' ps kA sm I' hk' lp hp rk gk => ?_)
    have hDf : H' D = some (.frz (seqObj "list" #[] e1) (.lst [])) := sm D _ (Ne.symm neKD) (by rw [upd_ne (Ne.symm neKD), upd_same])
    have gD7 : s'.heap.get? D = some (seqObj "list" #[] e1) := (I'.hok D _ hDf).1
    obtain ⟨n, gk⟩ := gk
    have lk : kA.size = its.length := by
      have := rk.length
      rw [List.length_map] at this
      rw [← Array.length_toList]
      omega
    refine end_run (kf := kf) (by omega) neKD lk (fun i v hv => ?_) gk gD7 (fun is ho => ?_)
    · have hv2 : kA.toList[i]? = some v := by rw [Array.getElem?_toList]; exact hv
      have hi : i < kA.toList.length := (List.getElem?_eq_some_iff.mp hv2).1
      have hi2 : i < ps.length := by
        have := rk.length
        rw [List.length_map] at this
        omega
      obtain ⟨u, hu, ru⟩ := rk.get (i := i) (x := .ref ps[i]) (by rw [List.getElem?_map, List.getElem?_eq_getElem hi2]; rfl)
      rw [hv2] at hu
      cases hu
      cases ru
      obtain ⟨_, its2, rv2, ob, g1, g2, m, g3⟩ := I'.hok _ _ (hp i ps[i] (List.getElem?_eq_getElem hi2))
      exact ⟨⟨ps[i], ob, its2.toArray, m, rfl, g1, g2, g3, Vals.ints rv2⟩, hkf i (by omega)⟩
    · have lps : (ps.map V.ref).length = its.length := by rw [List.length_map, lp]
      have I7 : Inv X pins σ (upd H' kS (.lst [])) { s' with heap := s'.heap.update kS (Obj.mapSeq fun _ => #[]) } :=
        I'.lset (l := kS) (ys := []) (its := kA.toList) (its' := []) (f := fun _ => #[]) (t' := s'.toks) hk' (by rw [Array.toArray_toList]; exact gk) rfl .nil (Nat.zero_le _)
      have hD7 : upd H' kS (.lst []) D = some (.frz (seqObj "list" #[] e1) (.lst [])) := (upd_ne (Ne.symm neKD)).trans hDf
      have I8 := I7.unlock hD7 (fun o' u' e => by
        have q := I.base.frzs D o' u' e
        rw [HD0] at q
        cases q)
      have gD8 : (s'.heap.update kS (Obj.mapSeq fun _ => (#[] : Array Value))).get? D = some (seqObj "list" #[] e1) := (Heap.get?_update_ne _ _ _ _ (Ne.symm neKD)).trans gD7
      have vy : Vals (is.map fun i => xs.getD i .non) (is.map fun i => its.getD i .none) := by
        have mem : ∀ i ∈ is, i < its.length := fun i hi => List.mem_range.mp (ho.1.mem_iff.mpr hi)
        clear ho
        induction is with
        | nil => exact .nil
        | cons i is ih =>
          refine .cons ?_ (ih fun j hj => mem j (List.mem_cons_of_mem _ hj))
          have hi := mem i List.mem_cons_self
          obtain ⟨u, hu, ru⟩ := r.get (i := i) (x := xs[i]) (List.getElem?_eq_getElem (by omega))
          show RelV (xs.getD i .non) (its.getD i .none)
          have hx : i < xs.length := by omega
          rw [List.getD_eq_getElem?_getD, List.getD_eq_getElem?_getD, hu, List.getElem?_eq_getElem hx]
          exact ru
      have lis : is.length = its.length := by rw [← ho.1.length_eq, List.length_range]
      have I9 := I8.lset (l := D) (ys := is.map fun i => xs.getD i .non) (its := []) (its' := is.map fun i => its.getD i .none) (f := fun _ => (is.map fun i => its.getD i .none).toArray) (t' := s'.toks) upd_same gD8 rfl vy (by rw [List.length_map]; omega)
      rw [upd_upd] at I9
      refine ⟨_, rfl, wpAny_pure ⟨_, rfl, ?_⟩⟩
      refine ⟨.ref D, _, I9, rfl, h _ D is (fun c o e => ?_) HD0 (by rw [lr]; exact ho) upd_same⟩
      rw [upd_ne (ne_of_none e HD0), upd_ne (ne_of_none e HS0)]
      exact up H' sm c o e
end
end FLs
set_option Elab.async false
set_option maxRecDepth 100000
set_option maxHeartbeats 4000000
namespace FLs
open PySem PySem.Spec PyProof.Rows L2 PySem.W RS GX
/-- one parameter, no other name of its own -/
structure One (sc scope : Scope) (x : Str) : Prop where
  kind : scope.kind = .function
  par : scope.names.lookup x = some .local
  own : ∀ y ∈ scope.names, y.2 = .local → y.1 = x
  nocell : ∀ y ∈ scope.names, y.2 ≠ .cell
  free : ∀ y ∈ scope.names, y.2 = .free → sc.names.lookup y.1 = some .cell ∨ sc.names.lookup y.1 = some .free
/-- the context of its body -/
abbrev oneCx (X : Cx) (B : Around) (s0 : Shared) (H0 : Hp) (ce : Env) : Cx :=
  { X with A := B, s_0 := s0, H_0 := H0, env := ce, outer := X.stack, stack := ce :: X.stack, ex := [], fn := fun _ => false, pn := [], xe := fun _ _ => False, calm := true }
abbrev oneEnv (X : Cx) (scope : Scope) (L f c' : Addr) : Env := LamX.lamEnv X scope L f c'
section
variable {X : Cx} {pins : List (Addr × Obj)} {σ : L2.St} {H : Hp} {s : Shared}
theorem one_start {B : Around} {scope : Scope} {x : Str} {ix : Nat} {f c' : Addr} {v : V} {u : Value} {h₁ : Heap} {tk : Nat} (I : Inv X pins σ H s) (L : One X.env.scope scope x) (hN : X.N.Nodup) (hix : X.N[ix]? = some x) (hB : B.handled = none)
    (hF : B.frames = some (oneEnv X scope s.heap.objs.size f c' :: X.stack)) (rv : RelV v u) (hns : h₁.Ns s.heap.objs.size fun y => [(x, u)].reverse.lookup y) (kp : ∀ b o, s.heap.get? b = some o → h₁.get? b = some o) :
    Inv (oneCx X B s H (oneEnv X scope s.heap.objs.size f c')) [] (σ.set ix (some v)) H { s with heap := h₁, toks := tk } := by
  have caught : ∀ y ∈ scope.names, y.2 = .free → ∃ c, X.env.cells.lookup y.1 = some c := fun y hy e =>
    (L.free y hy e).elim (fun z => I.ok.has _ (.inl z)) (fun z => I.ok.has _ (.inr z))
  have down : ∀ {y c}, (oneEnv X scope s.heap.objs.size f c').cells.lookup y = some c → X.env.cells.lookup y = some c := fun {y c} e => by
    have e' : (cloFrom X.env.cells scope.names []).lookup y = some c := e
    rcases cloFrom_mem (PySem.mem_of_lookup e') with q | ⟨q1, q2⟩
    · cases q
    · obtain ⟨c', hc'⟩ := caught _ q1 rfl
      have hc2 : X.env.cells.lookup y = some c' := hc'
      rw [hc2] at q2
      have q3 : c = c' := q2
      subst q3
      exact hc2
  have up : ∀ {y}, scope.names.lookup y = some .free → ∃ c, (oneEnv X scope s.heap.objs.size f c').cells.lookup y = some c ∧ X.env.cells.lookup y = some c := fun {y} hl => by
    obtain ⟨c, e⟩ := mem_lookup (cloFrom_has (cells := X.env.cells) (acc := []) (PySem.mem_of_lookup hl))
    exact ⟨c, e, down e⟩
  have okG : (oneCx X B s H (oneEnv X scope s.heap.objs.size f c')).Ok := by
    refine ⟨I.ok.mod, L.kind, rfl, rfl, Nat.le_refl _, fun y z c e1 e2 => I.ok.inj y z c (down e1) (down e2), fun y hy => ?_,
      (fun y c z _ => nomatch z), fun _ => hB, hF, .inr ⟨rfl, rfl⟩, (fun b hb => nomatch hb), I.bs, Nat.le_trans I.ok.bsz I.sz, (fun b o e hb => nomatch hb), (fun b hb => nomatch hb), I.stack, I.stkFree⟩
    rcases hy with z | z
    · exact absurd rfl (L.nocell _ (PySem.mem_of_lookup z))
    · obtain ⟨c, e, _⟩ := up z
      exact ⟨c, e⟩
  refine ⟨okG, rfl, I.bare, Un.kept kp, ⟨_, hns, fun i y av e1 e2 e3 => ?_⟩, fun y c e => ?_, I.hok.fresh (Nat.le_refl _), fun y c e => I.freeC y c (down e), (fun p hp => nomatch (show p ∈ ([] : List (Addr × Obj)) ++ [] from hp)), I.hok.kept kp, by rw [List.length_set]; exact I.len⟩
  · rcases e3 with z | z | z
    · have ey : y = x := L.own _ (PySem.mem_of_lookup z) rfl
      subst ey
      have ei : i = ix := nodup_ix hN e1 hix
      subst ei
      have hl : i < σ.length := by
        have := (List.getElem?_eq_some_iff.mp e2).1
        rwa [List.length_set] at this
      rw [List.getElem?_set_self hl] at e2
      cases e2
      refine ⟨u, rv, .inl ⟨z, ?_⟩⟩
      simp [List.lookup]
    · exact absurd rfl (L.nocell _ (PySem.mem_of_lookup z))
    · have hfree : scope.names.lookup y = some .free := z
      have nyx : y ≠ x := fun q => by
        rw [q, L.par] at hfree
        cases hfree
      have nix : ix ≠ i := fun q => by
        rw [← q] at e1
        have e1' : X.N[ix]? = some y := e1
        rw [hix] at e1'
        exact nyx (Option.some.inj e1').symm
      rw [List.getElem?_set_ne nix] at e2
      obtain ⟨m', _, hl⟩ := I.loc
      have q0 := L.free _ (PySem.mem_of_lookup hfree) rfl
      have hv : Vis X.env.scope y := q0.elim (fun z => .inr (.inl z)) (fun z => .inr (.inr z))
      obtain ⟨u', r, q⟩ := hl i y av e1 e2 hv
      obtain ⟨c, h1, h2⟩ := up hfree
      refine ⟨u', r, .inr ⟨.inr hfree, c, h1, ?_⟩⟩
      rcases q with ⟨k, _⟩ | ⟨_, c2, e', z⟩
      · have k' : X.env.scope.names.lookup y = some .local := k
        rcases q0 with z | z
        · have z' : X.env.scope.names.lookup y = some .cell := z
          rw [z'] at k'
          cases k'
        · have z' : X.env.scope.names.lookup y = some .free := z
          rw [z'] at k'
          cases k'
      · rw [h2] at e'
        cases e'
        obtain ⟨o, ho, hd⟩ := z
        exact ⟨o, kp _ _ ho, hd⟩
  · obtain ⟨w', o, ho, hd⟩ := I.cell y c (down e)
    exact ⟨w', o, kp _ _ ho, hd⟩
end
end FLs
set_option Elab.async false
set_option maxRecDepth 100000
set_option maxHeartbeats 4000000
namespace FLs
open PySem PySem.Spec PyProof.Rows L2 PySem.W RS GX
section
variable {X : Cx} {pins : List (Addr × Obj)} {σ : L2.St} {H : Hp} {s : Shared}
/-- the lambda at f is called with one value -/
theorem one_call {B : Around} {scope : Scope} {params : Arguments} {body : Expr} {x : Str} {ix k : Nat} {f c' : Addr} {pm ctv : Value} {v : V} {u : Value} {oc : Obj} {cvs : Array Value} {t : Tok} {tb : TE} {Q : VK} {nm : Str} (I : Inv X pins σ H s) (L : One X.env.scope scope x) (co : scope.isCoroutine = false) (gen : scope.isGenerator = false) (hN : X.N.Nodup) (hix : X.N[ix]? = some x)
    (hr : Room (k + 1) B) (hF : B.frames = some X.stack) (hf : s.heap.get? f = some (kla_obj "<lambda>" (X.env.qual ++ "<lambda>") params body scope (cloFrom X.env.cells scope.names []) pm c' ctv))
    (hc : s.heap.get? c' = some oc) (hcd : oc.data = .fields cvs) (hcv : cvs[1]? = some (.str (X.env.qual ++ "<lambda>") t))
    (hbind : ∀ u : Value, bindArgs (kla_fn "<lambda>" (X.env.qual ++ "<lambda>") params body scope (cloFrom X.env.cells scope.names []) pm (.ref c') ctv) ⟨[u], []⟩ = pure [(x, u)])
    (hbody : ∀ (B' : Around) (s' : Shared) (H' : Hp), Room k B' → PE (oneCx X B' s' H' (oneEnv X scope s'.heap.objs.size f c')) body tb) (rv : RelV v u) (q : tb (σ.set ix (some v)) H Q) :
    wpAny (model X.prog X.w) B (call (.ref f) [u]) (EP X pins σ Q) (fun _ _ => False) s := by
  refine wpAny_call ?_
  refine kla_callFunE hr.depth hf rfl co gen rfl ⟨c', oc, cvs, t, rfl, hc, hcd, hcv⟩ ?_
  rw [hbind]
  refine wpAny_pure (wpAny_newFunctionEnv (fun y hy => L.nocell y hy) (fun y hy => ?_) (fun h₁ hns hsb => ⟨I.nolimit.fresh _ hsb, ?_⟩) L.kind)
  · have e : y = (x, u) := by simpa using hy
    rw [e]
    exact L.par
  · show codeAny _ _ (.expr body (oneEnv X scope s.heap.objs.size f c')) _ _
    have kp : ∀ b o, s.heap.get? b = some o → h₁.get? b = some o := fun b o e => hsb.extBut b o (Nat.ne_of_lt (Heap.lt_size e)) (Heap.get?_push_of_some _ e)
    have J := one_start (B := B.deeper (oneEnv X scope s.heap.objs.size f c')) (tk := s.toks + ([(x, u)] : List (Str × Value)).length) I L hN hix hr.hd (Around.frames_deeper hF) rv hns kp
    refine kla_codeExpr (wpAny_mono ((hbody _ s H (hr.deeper _)).run [] _ _ H Q J q) (fun w' s' hq => ?_) fun e s' hq => False.elim hq)
    obtain ⟨r, H', J', rr, q'⟩ := hq
    exact ⟨r, H', I.call' (ch := []) J'.os J'.base J'.hok J'.bare (fun b hb => nomatch hb), rr, q'⟩
end
end FLs
set_option Elab.async false
set_option maxRecDepth 100000
set_option maxHeartbeats 4000000
namespace FLs
open PySem PySem.Spec PyProof.Rows L2 PySem.W RS GX
def sortR (K : PySem.W.Frag) (P : Addr) (qn : Str) (ix : Nat) (tb : TE) (σ : L2.St) (Q : VK) : V → Hp → Prop := fun v H1 => ∃ (a : Addr) (xs : List V) (kf : Nat → List Int), v = .ref a ∧ xs.length ≤ 1000 ∧ (∀ i, i < xs.length → kf i ≠ []) ∧ LamX.TabS H1 P qn ∧
  ∀ H2, LamX.ExtN H1 H2 → LamX.TabS H2 P qn → SqL K H2 a xs ∧ (∀ (i : Nat) (w : V) (H3 : Hp), Same H2 H3 → xs[i]? = some w → tb (σ.set ix (some w)) H3 fun r H4 => Same H3 H4 ∧ ∃ p, r = .ref p ∧ H4 p = some (.tup ((kf i).map V.int))) ∧
    ∀ (H' : Hp) (D : Addr) (is : List Nat), Same H2 H' → H2 D = none → Outs kf xs.length is → H' D = some (.lst (is.map fun i => xs.getD i .non)) → Q (.ref D) H'
def tSortLam (K : PySem.W.Frag) (P : Addr) (qn : Str) (ix : Nat) (te tb : TE) : TE := fun σ H Q => te σ H (sortR K P qn ix tb σ Q)
section
variable {X : Cx}
theorem pe_sortLam {c P : Addr} {params : Arguments} {body e : Expr} {scope : Scope} {x : Str} {ix k : Nat} {te tb : TE} {p pos kpos lpos : Pos} (hc : X.calm = true) (hg : Gl X "sorted") (hm : X.mg "sorted" = none) (TB : LamX.TabB X.base X.mg c P) (hcode : X.env.code = .ref c) (hdef : defaultsOf params X.env = ([], []))
    (L : One X.env.scope scope x) (co : scope.isCoroutine = false) (gen : scope.isGenerator = false) (hN : X.N.Nodup) (hix : X.N[ix]? = some x) (hr : Room (k + 3) X.A)
    (hbind : ∀ (pm ctv u : Value) (c' : Addr) (cl : List (Str × Addr)), bindArgs (kla_fn "<lambda>" (X.env.qual ++ "<lambda>") params body scope cl pm (.ref c') ctv) ⟨[u], []⟩ = pure [(x, u)])
    (he : PE X e te) (hbody : ∀ (B' : Around) (s' : Shared) (H' : Hp) (f c' : Addr), Room k B' → PE (oneCx X B' s' H' (oneEnv X scope s'.heap.objs.size f c')) body tb)
    (h0 : starEach [e] X.env = (false, eval e X.env) :: starEach [] X.env := by rfl)
    (h1 : backTo pos (starEach [e] X.env) = (false, eval e X.env) :: backTo pos (starEach [] X.env) := by rfl) (h2 : (backTo pos (starEach [e] X.env)).any (·.1) = false := by rfl) :
    PE X (.Call (.Name "sorted" p) [e] [⟨some "key", .Lambda params body scope lpos, kpos⟩] pos) (tSortLam X.K P (X.env.qual ++ "<lambda>") ix te tb) := by
  refine ⟨fun pins s σ H Q I h => ?_⟩
  have hb : bootBuiltins "sorted" = some (.builtin "sorted") := by decide +kernel
  refine wpAny_Call_Name_kw (ld_blt I hg hm hb ?_ (by decide) (by decide))
  refine callWith_kw ?_ h1 h2 rfl rfl
  refine thn ((pa_cons he pa_nil h0).run pos pins s σ H (fun vs H1 => match vs with | [v] => sortR X.K P (X.env.qual ++ "<lambda>") ix tb σ Q v H1 | _ => False) I ?_) fun us s1 ⟨vs, H1, I1, r1, q1⟩ => ?_
  · exact h
  · obtain ⟨v, rfl⟩ : ∃ v, vs = [v] := by
      match vs, q1 with
      | [v], _ => exact ⟨v, rfl⟩
    obtain ⟨u, rfl, ru⟩ := r1.one
    obtain ⟨a, xs, kf, ev, hz, hkf, hT, q2⟩ := q1
    have ev : v = .ref a := ev
    subst ev
    cases ru
    show wpAny _ _ (evalAll [(do let v ← eval (.Lambda params body scope lpos) X.env; standAt pos; pure v)]) _ _ s1
    refine wpAny_evalAll_cons (wpAny_bind ?_)
    have hfree : ∀ y ∈ scope.names, y.2 = .free → ∃ c, X.env.cells.lookup y.1 = some c := fun y hy e =>
      (L.free y hy e).elim (fun z => I.ok.has _ (.inl z)) (fun z => I.ok.has _ (.inr z))
    refine LamX.lam_make2 (T := [(P, X.env.qual ++ "<lambda>")]) I1 TB hcode (by simp) (fun p hp _ => by rw [List.mem_singleton.mp hp]) (fun p hp => by rw [List.mem_singleton.mp hp]; exact hT) hdef hfree fun f c' pm ctv H2 s2 I2 hx hT2 hf hf0 hfs hcO => ?_
    refine wpAny_bind (wpAny_standAt (wpAny_pure (wpAny_evalAll_nil ?_)))
    show wpAny _ _ (call (.builtin "sorted") [.ref a] [(Str.ofString "key", .ref f)]) _ _ s2
    obtain ⟨hS, hturn, hend⟩ := q2 H2 hx (hT2 (P, X.env.qual ++ "<lambda>") (List.mem_singleton.mpr rfl))
    have nL : f ≠ X.env.locals := fun z => by
      obtain ⟨m, ⟨o, es, ep, ho, hd, _⟩, _⟩ := I2.loc
      rw [← z, hf] at ho
      cases ho
      cases hd
    have nfs : f ∉ X.fs := fun z => hfs (by
      rcases I2.ok.stk with e | ⟨e, _⟩
      · rw [e]; exact z
      · rw [e]
        unfold frs
        rw [List.filterMap_cons]
        split
        · exact z
        · exact List.mem_cons_of_mem _ z)
    have I3 : Inv X ((f, kla_obj "<lambda>" (X.env.qual ++ "<lambda>") params body scope (cloFrom X.env.cells scope.names []) pm c' ctv) :: pins) σ H2 s2 := I2.pins_of fun p hp => by
      rcases List.mem_cons.mp hp with e | hp
      · rw [e]
        exact ⟨hf, hf0, nL, nfs, fun v z => by cases z⟩
      · exact I2.pin p (List.mem_append_right _ hp)
    refine wpAny_mono (sorted_key (kf := kf) (q := f) I3 hS hz hkf (fun i w u s' H' sm I' hxi rw' => ?_) hend) (fun r s' hq => ?_) fun _ _ e => e
    · obtain ⟨⟨oc, cvs, t, g1, g2, g3⟩, _, _⟩ := I'.hok c' _ (sm _ _ hcO)
      have hf' := (I'.pin (f, kla_obj "<lambda>" (X.env.qual ++ "<lambda>") params body scope (cloFrom X.env.cells scope.names []) pm c' ctv) (List.mem_append_right _ List.mem_cons_self)).1
      exact one_call (nm := "<lambda>") (k := k) I' L co gen hN hix hr.in1.in1 I'.ok.frames hf' g1 g2 g3 (fun u => hbind pm ctv u c' _) (fun B' s'' H'' hB => hbody B' s'' H'' f c' hB) rw' (hturn i w H' sm hxi)
    · obtain ⟨w, H', J, rr, qq⟩ := hq
      exact ⟨w, H', J.pins_of fun p hp => J.pin p (List.mem_append_right _ (List.mem_cons_of_mem _ hp)), rr, qq⟩
end
end FLs
set_option Elab.async false
set_option maxRecDepth 100000
set_option maxHeartbeats 4000000
namespace RS
open PySem PySem.Spec PyProof.Rows L2 GX FLs
section
variable {P : Program} {w : World} {K : PySem.W.Frag} {mg : Str → Option Value} {base : Heap}
theorem scFilled : FnScope ["kinds", "order", "size", "rows", "coming", "parts", "begin", "part", "told"] ["kinds", "order", "size", "rows"] (defScope sFilled) := ⟨rfl, rfl, rfl, by decide +kernel, rfl, by decide +kernel, by decide +kernel⟩
theorem sl_listC {X : Cx} {K : PySem.W.Frag} (e : X.K = K) : SlR X (rSlL K) := by
  subst e
  exact sl_list
theorem Runs.noT2 {K : PySem.W.Frag} {ks : List Bool} {H H' : Hp} {as : List Addr} {rs : List (List Pr)} (R : Runs K ks H H' as rs) : Runs K ks H (noT H') as rs := ⟨R.len, R.nd, R.fresh, fun i a r h1 h2 => by
  obtain ⟨x, h, d⟩ := R.at_ i a r h1 h2
  exact ⟨x, noT_at h (fun _ z => by cases z), dpAll_noT _ d⟩, R.ok⟩
/-- a list is changed: the tables stay -/
theorem tabS_upd {H : Hp} {P a : Addr} {q : Str} {xs u : List V} (t : LamX.TabS H P q) (h : H a = some (.lst xs)) : LamX.TabS (upd H a (.lst u)) P q := by
  obtain ⟨ps, h1, h2, h3⟩ := t
  refine ⟨ps, (upd_ne (fun z => by rw [z, h] at h1; cases h1)).trans h1, h2, fun pos cv hc => ?_⟩
  obtain ⟨c, e1, e2⟩ := h3 pos cv hc
  refine ⟨c, e1, (upd_ne (fun z => ?_)).trans e2⟩
  rw [z, h] at e2
  unfold LamX.CodeO at e2
  cases e2
theorem freeL {y : Str × NameKind} {a b c : Str} (hy : y ∈ [(a, NameKind.local), (b, NameKind.free), (c, NameKind.globalImplicit)]) (e : y.2 = .free) : y.1 = b := by
  simp only [List.mem_cons, List.not_mem_nil, or_false] at hy
  rcases hy with rfl | rfl | rfl
  · cases e
  · rfl
  · cases e
theorem filled_ok {c pK pW pR pF : Addr} (D : DefAt K mg "filled" sFilled c) (T : Txt K mg) (TB : LamX.TabB base mg c pF) (cN : Cal P w K mg base CX0 7 "numbered" ["kinds", "order", "size", "rows"] (spNumbered K pK pW pR)) (cR : Cal P w K mg base CX0 2 "rank" ["order", "told"] (spRank K)) :
    Cal P w K mg base CX0 10 "filled" ["kinds", "order", "size", "rows"] (spFilled K pK pW pR pF) := by
  have sc := scFilled
  refine def_ok0 D sc (fun vs H Q E h => ?_) (fun _ _ _ _ _ _ us hl => match us, hl with | [_, _, _, _], _ => rfl) (fun f A outer s H vs Q E hr h => ?_)
  · obtain ⟨vk, vo, vr, ks, os, n, rs, rfl, _⟩ := h
    rfl
  · obtain ⟨vk, vo, vr, ks, os, n, rs, rfl, h, ht, hT, k⟩ := h
    refine ⟨_, (pss_cons (ps_set (i := 4) sc.nd rfl (Or.inr rfl) (pe_c cN hr (by decide) (by rfl) pass0 (pa_cons (pv 0) (pa_cons (pv 1) (pa_cons (pv 2) (pa_cons (pv 3) pa_nil)))))) (pss_cons (ps_setLc (own := [("begin", 6)]) (tt := tYes) rfl sc.nd (i := 5) rfl rfl (by rfl) (pi_range3 (by rfl) T.range (pa_cons pe_int (pa_cons (pe_callB call_len_seq (by rfl) T.len PySem.boot_len (pa_cons (pv 4) pa_nil)) (pa_cons (pv 2) pa_nil)))) (blkOk_by (N := ["kinds", "order", "size", "rows", "coming", "parts", "begin", "part", "told"]) (sc := defScope sFilled) (own := [("begin", 6)]) (by decide +kernel)) (fun _ _ _ _ _ => (pg_name (i := 6) sc.nd rfl (Or.inl rfl))) (fun _ _ _ _ _ => pts_nil) (fun _ _ _ _ _ => pe_slice (sl_listC (K := K) rfl) (pv 4) (po_some (pv 6)) (po_some (pe_op op_add (pv 6) (pv 2))))) (pss_one (ps_ret (pe_lc (own := [("part", 7)]) (g := gName 7) (tt := tYes) (te := tSortLam K pF qF 8 (tVar 7) (tCall (spRank K) [] E0 (tCons (tVar 1) (tCons (tVar 8) tNil)))) rfl sc.nd (pi_list (pv 5)) (blkOk_by (N := ["kinds", "order", "size", "rows", "coming", "parts", "begin", "part", "told"]) (sc := defScope sFilled) (own := [("part", 7)]) (by decide +kernel)) (fun _ _ _ _ _ => (pg_name (i := 7) sc.nd rfl (Or.inl rfl))) (fun _ _ _ _ _ => pts_nil) (fun _ _ _ _ _ =>
        pe_sortLam (P := pF) (x := "told") (ix := 8) (k := 6) rfl (by rfl) T.sorted TB rfl rfl ⟨rfl, rfl, by decide +kernel, by decide +kernel, fun y hy e => (by rw [freeL hy e]; first | exact Or.inl rfl | exact Or.inr rfl)⟩ rfl rfl sc.nd rfl hr (fun _ _ _ _ _ => rfl) (pv 7) (fun B' s' H' f c' hB => pe_c cR hB (by decide) (by rfl) pass0 (pa_cons (pv 1) (pa_cons (pv 8) pa_nil))))))))), ?_⟩
    refine ⟨_, rfl, _, rfl, _, rfl, _, rfl, vk, vo, vr, ks, os, n, rs, rfl, h, ht, fun H1 C1 xs s1 hC1 hL1 hI1 => ?_⟩
    have okAll := h.rowsOk
    have rz := h.rz
    have n1 : 1 ≤ n := by have := h.n1; omega
    have n24 : n ≤ 24 := by have := h.n24; omega
    have le : (enumP 0 rs).length = rs.length := enumP_length _ _
    have lx : xs.length = rs.length := by rw [dpLen hI1, List.length_map, le]
    have cb := cnt_le rs.length (by omega) n (by omega) n1
    refine ⟨_, rfl, C1, xs, rfl, .inl (SqL.of hL1), _, rfl, ?_⟩
    rw [lx]
    refine ⟨0, _, (n : Nat), cnt rs.length n, rfl, rgc rz n1 n24, fun PT hPT => ?_⟩
    refine lc_by (cnt rs.length n) (fun j H' => Same H1 H' ∧ ∃ ps : List Addr, H' PT = some (.lst (ps.map V.ref)) ∧ ps.length = j ∧ PT ∉ ps ∧ ∀ (i : Nat) (a : Addr), ps[i]? = some a → H' a = some (.lst ((xs.drop (i * n)).take n)))
      ⟨fun b o e => (upd_ne (ne_of_none e hPT)).trans e, [], upd_same, rfl, (fun h => nomatch h), fun i a h => by simp at h⟩ ?_ ?_
    · rintro j H' hj ⟨sm, ps, hP, lp, nP, hat⟩
      refine ⟨hj, fun y H2 ⟨e2, ey⟩ => ?_⟩
      subst e2 ey
      refine ⟨rfl, _, rfl, ?_⟩
      refine ⟨_, rfl, _, rfl, _, rfl, _, rfl, _, _, rfl, rfl, _, rfl, C1, xs, rfl, sm.seq (SqL.of hL1), fun p hp => ?_⟩
      have hcut : cutV xs (some (0 + (j : Nat) * (n : Nat))) (some (0 + (j : Nat) * (n : Nat) + (n : Nat))) = (xs.drop (j * n)).take n := by
        have e1 : (0 + (j : Nat) * (n : Nat) : Int) = ((j * n : Nat) : Int) := by rw [Int.zero_add, Int.natCast_mul]
        have e2 : ((j * n : Nat) : Int) + (n : Nat) = ((j * n + n : Nat) : Int) := by rw [Int.natCast_add]
        rw [e1, e2]
        exact cutV_mid
      rw [hcut]
      have nPp : PT ≠ p := fun z => by rw [← z, hP] at hp; cases hp
      have s2 : Same H2 (upd H2 p (.lst ((xs.drop (j * n)).take n))) := fun b o e => (upd_ne (ne_of_none e hp)).trans e
      refine ⟨_, s2 _ _ hP, small1000 (by rw [List.length_map]; omega), fun b o e => ?_, ps ++ [p], ?_, by rw [List.length_append, lp]; rfl, ?_, fun i a hi => ?_⟩
      · rw [upd_ne (ne_of_none e hPT)]
        exact s2 _ _ (sm _ _ e)
      · rw [upd_same, List.map_append]
        rfl
      · intro z
        rcases List.mem_append.mp z with z | z
        · exact nP z
        · exact nPp (List.mem_singleton.mp z)
      · by_cases hi2 : i < ps.length
        · rw [List.getElem?_append_left hi2] at hi
          have ha := hat i a hi
          rw [upd_ne (fun z => nP (by rw [← z]; exact List.mem_of_getElem? hi))]
          exact s2 _ _ ha
        · have h1 := (List.getElem?_eq_some_iff.mp hi).1
          rw [List.length_append, List.length_singleton] at h1
          have e1 : i = ps.length := by omega
          rw [e1, List.getElem?_append_right (Nat.le_refl _), Nat.sub_self] at hi
          cases hi
          rw [upd_ne (Ne.symm nPp), upd_same, e1, lp]
    · rintro H2 ⟨sm, ps, hP, lp, nP, hat⟩
      refine ⟨Nat.le_refl _, ?_⟩
      have sH2 : Same H H2 := s1.trans sm
      refine ⟨_, rfl, PT, rfl, ⟨_, SqL.of hP⟩, fun DD hDD => ?_⟩
      have hDD0 : H DD = none := sH2.free hDD
      have hN : noT H2 DD = none := noT_none hDD
      have part : ∀ j, DpAll K (noT H2) ((xs.drop (j * n)).take n) ((((enumP 0 rs).drop (j * n)).take n).map pairD) := fun j => dpAll_take' (dpAll_drop' (dpAll_noT _ (dpAll_same sm _ hI1)) (j * n)) n
      refine lc_list (K := K) (a := PT) (xs := ps.map V.ref) (fun j H' => ∃ (as : List Addr) (runs : List (List Pr)), Same (noT H2) H' ∧ LamX.TabS H' pF qF ∧ H' DD = some (.lst (as.map V.ref)) ∧ DD ∉ as ∧ Runs K ks (noT H2) H' as runs ∧ runs.length = j ∧
        ∀ (i : Nat) (r : List Pr), runs[i]? = some r → r.Perm (((enumP 0 rs).drop (i * n)).take n) ∧ SrtO.Srtd (before os) r)
        ⟨[], [], fun b o e => (upd_ne (ne_of_none e hN)).trans (noT_same _ _ _ e), ?_, upd_same, (fun h => nomatch h), Runs.nil, rfl, (fun i r h => by simp at h)⟩ (fun j H' _ ⟨_, _, s, _⟩ => s.seq (sqL_noT (SqL.of hP))) ?_ ?_
      · exact (hT.ext sH2).ext fun b o e => (upd_ne (ne_of_none e hDD)).trans e
      · rintro j x H3 hx ⟨as, runs, s3, t3, hD3, nD, R, lr, hch⟩
        obtain ⟨aj, eaj, rfl⟩ : ∃ aj, ps[j]? = some aj ∧ x = V.ref aj := by
          rw [List.getElem?_map] at hx
          cases q : ps[j]? with
          | none => rw [q] at hx; cases hx
          | some b => rw [q] at hx; exact ⟨b, rfl, (Option.some.inj hx).symm⟩
        have hj : j < cnt rs.length n := by
          have := (List.getElem?_eq_some_iff.mp eaj).1
          omega
        have haj : noT H2 aj = some (.lst ((xs.drop (j * n)).take n)) := noT_at (hat j aj eaj) (fun _ z => by cases z)
        obtain ⟨xj, exj⟩ : ∃ xj, xj = (xs.drop (j * n)).take n := ⟨_, rfl⟩
        obtain ⟨qj, eqj⟩ : ∃ qj, qj = ((enumP 0 rs).drop (j * n)).take n := ⟨_, rfl⟩
        have pj := part j
        rw [← exj] at haj pj
        rw [← eqj] at pj
        have ljx : xj.length = qj.length := by rw [dpLen pj, List.length_map]
        have ljz : qj.length ≤ 120 := by rw [eqj, List.length_take, List.length_drop]; omega
        have okj : ∀ q ∈ qj, Fits os q.2 ∧ isRow ks (.tuple q.2) = true := fun q hq => okAll q (by rw [eqj] at hq; exact List.mem_of_mem_drop (List.mem_of_mem_take hq))
        refine ⟨rfl, _, rfl, aj, xj, fun i => rankOf os (qj.getD i (0, [])), rfl, by omega, fun i _ => by simp [rankOf], t3, fun H4 e4 t4 => ?_⟩
        have s4 : Same (noT H2) H4 := fun b o e => e4 b o (s3 b o e) (noT_of e).2
        refine ⟨s4.seq (SqL.of haj), fun i w H5 s5 hw => ?_, fun H5 D is s5 hD hout hD5 => ?_⟩
        · obtain ⟨d, ed, hwd⟩ := dpGet pj hw
          obtain ⟨q, eq, rfl⟩ : ∃ q, qj[i]? = some q ∧ d = pairD q := by
            rw [List.getElem?_map] at ed
            cases e : qj[i]? with
            | none => rw [e] at ed; cases ed
            | some q => rw [e] at ed; exact ⟨q, rfl, (Option.some.inj ed).symm⟩
          have s25 := s4.trans s5
          refine ⟨_, rfl, _, rfl, vo, w, os, q, rfl, dp_same s25 _ (dp_noT _ (dp_same sH2 _ h.o)), dp_same s25 _ hwd, h.oz, (okj q (List.mem_of_getElem? eq)).1, fun H6 p s6 hp6 hL6 => ⟨s6, p, rfl, ?_⟩⟩
          rw [hL6]
          show _ = some (HO.tup ((rankOf os (qj.getD i (0, []))).map V.int))
          rw [List.getD_eq_getElem?_getD, eq]
          rfl
        · have s25 := s4.trans s5
          have hD4 := e4 _ _ hD3 (fun _ z => by cases z)
          have hD5' := s5 _ _ hD4
          have nDD : D ≠ DD := fun z => by rw [z, hD4] at hD; cases hD
          have mem : ∀ i ∈ is, i < qj.length := fun i hi => by
            have := List.mem_range.mp (hout.1.mem_iff.mpr hi)
            omega
          have pr : (is.map fun i => qj.getD i (0, [])).Perm qj := by
            have h1 := (hout.1.map fun i => qj.getD i ((0, []) : Pr)).symm
            refine h1.trans ?_
            rw [ljx]
            refine List.Perm.of_eq (List.ext_getElem? fun i => ?_)
            rw [List.getElem?_map]
            by_cases hi : i < qj.length
            · rw [List.getElem?_range hi, Option.map_some, List.getD_eq_getElem?_getD, List.getElem?_eq_getElem hi]
              rfl
            · rw [List.getElem?_eq_none (l := List.range qj.length) (by rw [List.length_range]; omega), List.getElem?_eq_none (l := qj) (by omega)]
              rfl
          have sr : SrtO.Srtd (before os) (is.map fun i => qj.getD i (0, [])) := List.pairwise_map.mpr hout.2
          have okr : ∀ q ∈ is.map fun i => qj.getD i (0, []), isRow ks (.tuple q.2) = true := fun q hq => (okj q (pr.mem_iff.mp hq)).2
          have dr : DpAll K H5 (is.map fun i => xj.getD i .non) ((is.map fun i => qj.getD i (0, [])).map pairD) := by
            have pj5 := dpAll_same s25 _ pj
            clear hout pr sr okr hD5
            induction is with
            | nil => exact .nil
            | cons i is ih =>
              have hi := mem i List.mem_cons_self
              refine .cons ?_ (ih fun a ha => mem a (List.mem_cons_of_mem _ ha))
              obtain ⟨v, ev, hv⟩ := dpGet' (i := i) (d := pairD qj[i]) pj5 (by rw [List.getElem?_map, List.getElem?_eq_getElem hi]; rfl)
              show Dp K H5 (xj.getD i .non) (pairD (qj.getD i (0, [])))
              rw [List.getD_eq_getElem?_getD, List.getD_eq_getElem?_getD, ev, List.getElem?_eq_getElem hi]
              exact hv
          have R5 : Runs K ks (noT H2) H5 as runs := (R.noT2.same (noT_ext e4)).same s5
          have nDas : D ∉ as := fun z => by
            obtain ⟨y, hy⟩ := (R.noT2.same (noT_ext e4)).tracked z
            rw [hy] at hD
            cases hD
          have okR : ∀ r ∈ runs, ∀ q ∈ r, isRow ks (.tuple q.2) = true := R.ok
          have hDn : noT H2 D = none := s4.free hD
          have R6 := (R5.upd_ (u := as.map V.ref ++ [.ref D]) hD5' nD).snoc (a := D) (r := is.map fun i => qj.getD i (0, [])) ((upd_ne nDD).trans hD5) (dpAll_upd hD5' _ (pairs_noL okr) dr) hDn nDas okr
          have las := R.len
          refine ⟨_, hD5', small1000 (by rw [List.length_map]; omega), as ++ [D], runs ++ [is.map fun i => qj.getD i (0, [])], fun b o e => ?_, ?_, by rw [upd_same, List.map_append]; rfl, fun z => ?_, R6, by rw [List.length_append, lr]; rfl, fun i r hr => ?_⟩
          · rw [upd_ne (ne_of_none e hN)]
            exact s25 _ _ e
          · exact tabS_upd (t4.ext s5) hD5'
          · rcases List.mem_append.mp z with z | z
            · exact nD z
            · exact nDD (List.mem_singleton.mp z).symm
          · by_cases hi2 : i < runs.length
            · rw [List.getElem?_append_left hi2] at hr
              exact hch i r hr
            · have h1 := (List.getElem?_eq_some_iff.mp hr).1
              rw [List.length_append, List.length_singleton] at h1
              have e1 : i = j := by omega
              subst e1
              rw [← lr, List.getElem?_append_right (Nat.le_refl _), Nat.sub_self] at hr
              cases hr
              exact ⟨eqj ▸ pr, sr⟩
      · rintro H3 ⟨as, runs, s3, t3, hD3, nD, R, lr, hch⟩
        rw [List.length_map, lp] at lr
        refine k H3 DD as runs ((noT_mono sH2).trans s3) t3 hDD0 nD hD3 ⟨R.len, R.nd, fun a ha => (noT_mono sH2).free (R.fresh a ha), R.at_, R.ok⟩ ⟨by rw [le]; exact lr, hch⟩
end
end RS
set_option Elab.async false
set_option maxRecDepth 100000
set_option maxHeartbeats 4000000
namespace RS
open PySem PySem.Spec PyProof.Rows L2 GX HQ LM
theorem rep_sorted {ks : List Bool} {os : List (Nat × Bool)} (ok : OkOrder ks.length os) {r : List PyData} (hr : isRow ks (.tuple r) = true) (n : Nat) : SrtO.Srtd (before os) (enumP 0 (List.replicate n r)) := by
  refine List.pairwise_iff_getElem.mpr fun i j hi hj hij => ?_
  rw [enumP_length, List.length_replicate] at hi hj
  have g : ∀ k (hk : k < n) (h' : k < (enumP 0 (List.replicate n r)).length), (enumP 0 (List.replicate n r))[k] = (k, r) := fun k hk h' => by
    have e := enumP_get (l := List.replicate n r) (k := 0) (i := k)
    rw [List.getElem?_eq_getElem h', List.getElem?_replicate, if_pos hk] at e
    have e := Option.some.inj e
    rw [e]
    simp
  rw [g i hi, g j hj]
  exact before_rise (p := (0, r)) (q := (0, r)) hij (alike_rows ok hr hr) ((swo_before os).refl (0, r))
theorem rep_runs {ks : List Bool} {os : List (Nat × Bool)} (ok : OkOrder ks.length os) {r : List PyData} (hr : isRow ks (.tuple r) = true) {runs : List (List Pr)} (h : RunsTo (before os) ((enumP 0 (List.replicate 120 r)).take 24) ((enumP 0 (List.replicate 120 r)).drop 24) runs) : runs.length = 1 := by
  have s := rep_sorted ok hr 120
  rw [← List.take_append_drop 24 (enumP 0 (List.replicate 120 r))] at s
  obtain ⟨_, s2, s3⟩ := List.pairwise_append.mp s
  rw [h.risen (fun y hy z hz => s3 y hy z hz) s2, if_neg]
  intro z
  have := congrArg List.length z
  rw [List.length_take, enumP_length, List.length_replicate] at this
  cases this
theorem rep_filled {os : List (Nat × Bool)} {r : List PyData} {runs : List (List Pr)} (h : FilledTo os 1 (enumP 0 (List.replicate 120 r)) runs) : runs.length = 120 := by
  have := h.1
  rw [enumP_length, List.length_replicate] at this
  rw [this]
  decide +kernel
def holdXG (H : Hp) (x G : Addr) : Hp := fun b => if b = x ∨ b = G then none else H b
theorem holdXG_at {H : Hp} {x G b : Addr} {o : HO} (e : H b = some o) (n1 : b ≠ x) (n2 : b ≠ G) : holdXG H x G b = some o := by
  unfold holdXG
  rw [if_neg (by rintro (z | z); exact n1 z; exact n2 z)]
  exact e
theorem sv_new {K : PySem.W.Frag} {C dx x G O' : Addr} {ks : List Bool} {os : List (Nat × Bool)} {vk : V} {xo : List V} {H5 H7 : Hp} (s57 : Same H5 H7) (hk : Dp K H5 vk (kindsD ks)) (hd : DpAll K H5 xo (os.map partD)) (hO : H7 O' = some (.lst xo)) (nOx : O' ≠ x) (nOG : O' ≠ G) (hx5 : H5 x = none) (hG5 : H5 G = none)
    (hx7 : H7 x = some (.ins C dx (fldsS vk (.ref O') 0 G))) (hG7 : H7 G = some (.lst [])) (oz : os.length ≤ 1000) : SvAt K C ks os (holdXG H7 x G) H7 x G 0 [] := by
  have s5 : Same H5 (holdXG H7 x G) := fun b o e => holdXG_at (s57 _ _ e) (ne_of_none e hx5) (ne_of_none e hG5)
  have sh : Same (holdXG H7 x G) H7 := fun b o e => by
    unfold holdXG at e
    split at e
    · cases e
    · exact e
  refine ⟨sh, by unfold holdXG; rw [if_pos (.inl rfl)], by unfold holdXG; rw [if_pos (.inr rfl)], oz, ⟨dx, vk, _, hx7, dp_same s5 _ hk, .lst (SqL.of (holdXG_at hO nOx nOG)) (dpAll_same s5 _ hd)⟩, ⟨[], ⟨hG7, rfl, fun z h => nomatch h⟩, fun i _ h => nomatch h⟩, fun q h => nomatch h⟩
/-! ### frames beside a table -/
theorem frg_x {B L p : Addr} {H H' : Hp} {ps : Array Value} (f : FrG B L p H H') (h : H p = some (.tbl ps)) : SameX B L (noT H) H' := fun b o n1 n2 e => f b o (noT_of e).1 n1 n2 fun z => by
  obtain ⟨e1, e2⟩ := noT_of e
  rw [z, h] at e1
  exact e2 ps (Option.some.inj e1).symm
theorem tabS_frg {B L p P : Addr} {q : Str} {H H' : Hp} {ps : Array Value} (t : LamX.TabS H P q) (b : BoxAt H B L) (f : FrG B L p H H') (h : H p = some (.tbl ps)) (n : P ≠ p) : LamX.TabS H' P q := by
  obtain ⟨_, ⟨st, hb'⟩, ⟨ms, hl'⟩⟩ := b
  obtain ⟨qs, h1, h2, h3⟩ := t
  refine ⟨qs, f _ _ h1 (fun z => by rw [z, hb'] at h1; cases h1) (fun z => by rw [z, hl'] at h1; cases h1) n, h2, fun pos cv hc => ?_⟩
  obtain ⟨c, e1, e2⟩ := h3 pos cv hc
  refine ⟨c, e1, f _ _ e2 (fun z => ?_) (fun z => ?_) (fun z => ?_)⟩
  · rw [z, hb'] at e2
    unfold LamX.CodeO at e2
    cases e2
  · rw [z, hl'] at e2
    unfold LamX.CodeO at e2
    cases e2
  · rw [z, h] at e2
    exact LamX.codeO_ne ps (Option.some.inj e2).symm
theorem tabS_tbl {H : Hp} {P : Addr} {q : Str} (t : LamX.TabS H P q) : ∃ ps, H P = some (.tbl ps) := by
  obtain ⟨ps, h, _⟩ := t
  exact ⟨ps, h⟩
end RS
set_option Elab.async false
set_option maxRecDepth 100000
set_option maxHeartbeats 4000000
namespace RS
open PySem PySem.Spec PyProof.Rows L2 GX
/-! ### tables that are empty at the entry, as tables of any size -/
def extOf (T : List Addr) (H : Hp) : Hp := fun b => if b ∈ T then some (.ext (TabE b)) else H b
def tabAt (h : Heap) (b : Addr) : Array Value := match h.get? b with
  | some o => (match o.data with
    | .fields rs => rs
    | _ => #[])
  | none => #[]
def tblOf (T : List Addr) (h : Heap) (H : Hp) : Hp := fun b => if b ∈ T then some (.tbl (tabAt h b)) else H b
/-- a promise that speaks of tables of any size, asked where they are empty -/
def spT (T : List Addr) (sp : Sp) : Sp := fun vs H Q E => (∀ b ∈ T, H b = some (.tbl #[])) ∧ sp vs (extOf T H) (fun v H' => (∀ b ∈ T, Tab H' b) ∧ ∀ H2, Q v H2) E
theorem ext_in {T : List Addr} {H : Hp} {b : Addr} (h : b ∈ T) : extOf T H b = some (.ext (TabE b)) := if_pos h
theorem ext_out {T : List Addr} {H : Hp} {b : Addr} (h : b ∉ T) : extOf T H b = H b := if_neg h
theorem tbl_in {T : List Addr} {g : Heap} {H : Hp} {b : Addr} (h : b ∈ T) : tblOf T g H b = some (.tbl (tabAt g b)) := if_pos h
theorem tbl_out {T : List Addr} {g : Heap} {H : Hp} {b : Addr} (h : b ∉ T) : tblOf T g H b = H b := if_neg h
theorem FnOk.tables {P : Program} {w : World} {K : PySem.W.Frag} {mg : Str → Option Value} {base : Heap} {k : Nat} {f : Addr} {fd : FuncData} {ps : List Str} {sp : Sp} {T : List Addr} (F : FnOk P w K mg base CX0 k f fd ps sp) : FnOk P w K mg base CX0 k f fd ps (spT T sp) := by
  refine ⟨fun vs H Q E h => F.len _ _ _ _ h.2, fun A outer s H args us vs Q E hr e0 hb hv ⟨hT, hs⟩ => ?_⟩
  have nT : ∀ b, H b = none → b ∉ T := fun b e hb => by
    rw [hT b hb] at e
    cases e
  have nT2 : ∀ b o, H b = some o → (∀ ps, o ≠ .tbl ps) → b ∉ T := fun b o e n hb => by
    rw [hT b hb] at e
    exact n #[] (Option.some.inj e).symm
  have e2 : Env0 P w K mg base A outer s (extOf T H) := by
    refine ⟨e0.frames, e0.mod, fun b o e => ⟨(e0.bs b o e).1, by rw [ext_out (nT b (e0.bs b o e).2)]; exact (e0.bs b o e).2⟩, e0.bsz, e0.funs, fun b hb => by rw [ext_out (nT b (e0.frf b hb))]; exact e0.frf b hb, fun b o e => ?_, e0.bare⟩
    by_cases hb : b ∈ T
    · rw [ext_in hb] at e
      cases e
      have q := e0.hok b _ (hT b hb)
      exact ⟨⟨#[], q, trivial⟩, ⟨_, q⟩, tabE_stable⟩
    · rw [ext_out hb] at e
      refine (e0.hok b o e).stay (fun c u _ q => q) (fun c q => ?_) (fun c xs q => ?_)
      · rw [ext_out (nT2 c _ q (fun ps z => by cases z))]
        exact q
      · rw [ext_out (nT2 c _ q (fun ps z => by cases z))]
        exact q
  refine codeAny_mono (F.run A outer s (extOf T H) args us vs _ E hr e2 hb hv hs) fun r s' hq => ?_
  cases r with
  | error e => exact hq
  | ok fl =>
    cases fl with
    | next => exact hq
    | brk => exact hq
    | cont => exact hq
    | ret u =>
      obtain ⟨v, H', os, bare, un, hok', r', hT', q⟩ := hq
      refine ⟨v, tblOf T s'.heap H', os, bare, ⟨fun b o e n => un.keep b o e (by rw [ext_out (nT b n)]; exact n), fun b o e n => un.slot b o e (by rw [ext_out (nT b n)]; exact n), fun b o e n hx => ?_, un.there, fun b xs e => ?_, fun b o u e => ?_, fun b ps e => ?_⟩, fun b o e => ?_, r', q _⟩
      · rw [tbl_out (nT b n)]
        exact un.free b o e (by rw [ext_out (nT b n)]; exact n) hx
      · have hb := nT2 b _ e (fun ps z => by cases z)
        rw [tbl_out hb]
        exact un.tups b xs (by rw [ext_out hb]; exact e)
      · have hb := nT2 b _ e (fun ps z => by cases z)
        rw [tbl_out hb]
        exact un.frzs b o u (by rw [ext_out hb]; exact e)
      · by_cases hb : b ∈ T
        · rw [hT b hb] at e
          cases e
          exact ⟨tabAt s'.heap b, by rw [tbl_in hb, Array.empty_append]⟩
        · rw [tbl_out hb]
          exact un.tbls b ps (by rw [ext_out hb]; exact e)
      · have inT : ∀ c, c ∈ T → ∃ rs : Array Value, s'.heap.get? c = some { cls := .none, data := .fields rs } := fun c hc => by
          obtain ⟨⟨rs, h1, _⟩, _⟩ := hok' c _ (hT' c hc)
          exact ⟨rs, h1⟩
        by_cases hb : b ∈ T
        · rw [tbl_in hb] at e
          cases e
          obtain ⟨rs, h1⟩ := inT b hb
          have e2 : tabAt s'.heap b = rs := by
            unfold tabAt
            rw [h1]
          show s'.heap.get? b = some { cls := .none, data := .fields (tabAt s'.heap b) }
          rw [e2]
          exact h1
        · rw [tbl_out hb] at e
          have nT3 : ∀ c o, H' c = some o → (∀ φ, o ≠ .ext φ) → c ∉ T := fun c o e n hc => by
            have z : H' c = some (.ext (TabE c)) := hT' c hc
            rw [e] at z
            exact n _ (Option.some.inj z)
          refine (hok' b o e).stay (fun c u _ q => q) (fun c q => ?_) (fun c xs q => ?_)
          · rw [tbl_out (nT3 c _ q (fun φ z => by cases z))]
            exact q
          · rw [tbl_out (nT3 c _ q (fun φ z => by cases z))]
            exact q
section
variable {P : Program} {w : World} {K : PySem.W.Frag} {mg : Str → Option Value} {base : Heap}
theorem fn_of0 {f c : Addr} {oc kV doc pm ct : Value} {od an : Option Addr} {osl : Array (Option Value)} {x : Str} {st : Stmt} {N ps : List Str} {k : Nat} {sp : Sp}
    (lk : K.lookup f = some ⟨oc, od, .func (PySem.W.fnOf x x (defArgs st) (defBody st) (defScope st) .none kV doc pm an (.ref c) ct), osl⟩) (hcd : PySem.W.codeIn K (.ref c) x = true) (S : FnScope N ps (defScope st)) (len : ∀ vs H Q E, sp vs H Q E → vs.length = ps.length)
    (hbody : ∀ (f : Addr) (A : Around) (outer : List Env) (s : Shared) (H : Hp) (vs : List V) (Q : VK) (E : XK), Room k (A.deeper (envOfC x (defScope st) s.heap.objs.size f (.ref c))) → sp vs H Q E →
      ∃ t, PSs (cxOf CX0 P w K mg base N x (defScope st) f (.ref c) A outer s H E).nox (defBody st) t ∧ t { nx := fun _ H' => Q .non H', rt := Q } (start N vs) H) :
    FnOk P w K mg base CX0 (k + 1) f (PySem.W.fnOf x x (defArgs st) (defBody st) (defScope st) .none kV doc pm an (.ref c) ct) ps sp :=
  fn_of lk hcd S len fun A outer s H vs Q E hr hsp => by
    obtain ⟨t, ht, q⟩ := hbody f A outer s H vs Q E hr hsp
    exact ⟨t, ht.nox, q⟩
end
end RS
set_option Elab.async false
set_option maxRecDepth 100000
set_option maxHeartbeats 4000000
namespace RS
open PySem PySem.Spec PyProof.Rows L2 GX
/-- the end: the tables of the defs are empty at the law's entry -/
theorem walk_tabs {l : PySem.W.OpenLaw} {n k : Nat} {q : Program} {loose : List Str} {XP : (Str → Option Value) → Heap → Prop} {YP : World → Heap → Prop} {d : DefRec} {K : Params → PySem.W.Frag} {x : Str}
    (hn : l.most = some n) (hn2 : n ≤ sizeLine) (hdf : d.params.defaults = []) (hr : Room k callerA) (hY : ∀ (w : World) (h : Heap), YP w h → (K w.params).In h)
    (F : ∀ (w : World) (mg : Str → Option Value) (fa : Addr) (h : Heap), (K w.params).In h → h.Ns mainGlobals mg → mg d.name = some (.ref fa) →
      (∀ (y : Str) (d' : DefRec) (c P : Addr), (recsOf q).find? (fun e => e.name == y) = some d' → PySem.W.tabIn (K w.params) y = some (c, P) → PySem.W.CodeHd h c P ∧ h.get? P = some { cls := .none, data := .fields #[] }) →
      LamX.LawAtS l w (K w.params) CX0 k n x mg fa h) :
    PySem.W.WalkO q loose XP YP l.row.toRowW d [] (fun f vs => PySem.call f vs) := by
  refine Att.attach_callB hn hdf fun w s₀ s₁ mg mb fa o pm cd doc a vs ns G Y ho hd hcd hmg hobj hints hlen hbits hg => ?_
  have KX := hY w _ Y
  obtain ⟨fd, cs, sp, hT, nT, C, hb, hsp, hF⟩ := F w mg fa _ KX G.T.g hmg fun y d' c P e1 e2 => PySem.W.tab_of G.T KX e1 e2
  exact LamX.law_callTs KX G.T.g G.T.b G.T.builtins G.T.nolimit hg hT nT C G.T.bmain hobj hints (Nat.le_trans hlen hn2) hr hF hb (fun H hH hS => hsp H a ns hlen hbits hH hS) fun H e s' z => z
end RS
set_option Elab.async false
set_option maxRecDepth 100000
set_option maxHeartbeats 8000000
set_option pp.maxSteps 400
namespace RS
open PySem PySem.Spec PyProof.Rows L2 GX HQ LM
abbrev qL2 : Str := (envOfC "law" (defScope sLaw) 0 0 (.ref 0)).qual ++ "<lambda>"
abbrev N2L : List Str := ["_law_script", "_law_box", "_law_kinds_here", "_law_order_here", "_law_good", "_law_size", "_law_works", "_law_bad", "_law_at", "_law_many", "_law_odd", "_law_kind"]
structure Parts2 (P : Program) (w : World) (K : PySem.W.Frag) (mg : Str → Option Value) (base : Heap) (SE : Addr) (C15 : Nat → Addr) (CS CM CR pK pW pR pF pG : Addr) : Prop where
  begun : Cal P w K mg base CX0 1 "_law_begun" ["_law_script"] (spBegun K)
  take : Cal P w K mg base CX0 1 "_law_take" ["_law_box", "_law_many"] spTake
  kinds : Cal P w K mg base CX0 2 "_law_kinds" ["_law_box"] (spKinds K)
  order : Cal P w K mg base CX0 2 "_law_order" ["_law_box", "_law_kinds_here"] (spOrder K)
  value : Cal P w K mg base CX0 2 "_law_value" ["_law_box", "_law_kind"] (spValueL K)
  heads : Cal P w K mg base CX0 44 "_law_heads_right" ["_law_box", "_law_kinds_here", "_law_order_here"] (spHR K pK pG)
  badrs : Cal P w K mg base CX0 4 "_law_bad_rows" ["_law_box", "_law_kinds_here", "_law_most"] (spBadRs K)
  badrow : Cal P w K mg base CX0 3 "_law_bad_row" ["_law_box", "_law_kinds_here", "_law_row"] (spBadRow K)
  all : Cal P w K mg base CX0 43 "_law_all" ["_law_works", "_law_due"] (spAll P w K mg base SE C15 11)
  fiB : Cal P w K mg base (L2.CX P w) 8 "filled" ["kinds", "order", "size", "rows"] (spNumB K CM CR pK pW pR)
  exB : Cal P w K mg base (L2.CX P w) 8 "exchanged" ["kinds", "order", "size", "rows"] (spNumB K CM CR pK pW pR)
  fiG : Cal P w K mg base CX0 10 "filled" ["kinds", "order", "size", "rows"] (spFilled K pK pW pR pF)
  exG : Cal P w K mg base CX0 8 "exchanged" ["kinds", "order", "size", "rows"] (spExchanged K pK pW pR)
  svI : MakC P w K mg base CX0 4 "Sieve" CS ["self", "kinds", "order"] (spSvI K CS pK)
  svP : MetC P w K mg base (L2.CX P w) 6 CS "put" ["self", "row"] (spSvPut K CS CR pW pR)
def spLaw2 (K : PySem.W.Frag) (pK pW pR pF pG pZ : Addr) : Sp := fun vs H Q _ => ∃ (a : Addr) (ns : List Int), vs = [.ref a] ∧ SqL K H a (ns.map V.int) ∧ Tab H pK ∧ Tab H pW ∧ Tab H pR ∧ LamX.TabS H pF qF ∧ LamX.TabS H pG qH2 ∧ LamX.TabS H pZ qL2 ∧ ∀ H', Tab H' pK → Tab H' pW → Tab H' pR → Q (.bl true) H'
theorem size4 {w x : Int} (h0 : 0 ≤ w) (x0 : 0 ≤ x) (x4 : x < 4) : ∃ z : Int, atI [V.int 0, .int (-1), .int 25, .int (25 + w)] x = some (.int z) ∧ (z < 1 ∨ 24 < z) := by
  have : x = 0 ∨ x = 1 ∨ x = 2 ∨ x = 3 := by omega
  rcases this with rfl | rfl | rfl | rfl
  · exact ⟨0, rfl, by decide⟩
  · exact ⟨-1, rfl, by decide⟩
  · exact ⟨25, rfl, by decide⟩
  · exact ⟨25 + w, rfl, by omega⟩
/-- what the law goes on with -/
structure G2 (K : PySem.W.Frag) (B L pK pW pR O tp : Addr) (vk : V) (ks : List Bool) (os : List (Nat × Bool)) (gd : List PyData) (H : Hp) : Prop where
  b : BoxAt H B L
  k : Dp K H vk (kindsD ks)
  o : ∃ xo, H O = some (.lst xo) ∧ DpAll K H xo (os.map partD)
  g : Dp K H (.ref tp) (.tuple gd)
  tK : Tab H pK
  tW : Tab H pW
  tR : Tab H pR
section
variable {K : PySem.W.Frag} {B L pK pW pR O tp : Addr} {vk : V} {ks : List Bool} {os : List (Nat × Bool)} {gd : List PyData} {H H' : Hp}
theorem G2.ext (g : G2 K B L pK pW pR O tp vk ks os gd H) (e : LamX.ExtN H H') : G2 K B L pK pW pR O tp vk ks os gd H' := by
  obtain ⟨xo, h1, h2⟩ := g.o
  exact ⟨box_ext2 g.b e, dp_ext2 e g.k, ⟨xo, e _ _ h1 (fun ps z => nomatch z), dpAll_ext2 e h2⟩, dp_ext2 e g.g, tab_ext2 e g.tK, tab_ext2 e g.tW, tab_ext2 e g.tR⟩
theorem G2.same (g : G2 K B L pK pW pR O tp vk ks os gd H) (s : Same H H') : G2 K B L pK pW pR O tp vk ks os gd H' := g.ext (LamX.ExtN.of s)
theorem G2.x (g : G2 K B L pK pW pR O tp vk ks os gd H) (s : SameX B L H H') (b : BoxAt H' B L) (nO : O ≠ B ∧ O ≠ L) (ng : noLs gd = true) : G2 K B L pK pW pR O tp vk ks os gd H' := by
  obtain ⟨xo, h1, h2⟩ := g.o
  exact ⟨b, dp_x g.b s _ (kinds_noL ks) g.k, ⟨xo, s _ _ nO.1 nO.2 h1, dpAll_x g.b s _ (parts_noL os) h2⟩, dp_x g.b s _ ng g.g, tab_x2 g.b s g.tK, tab_x2 g.b s g.tW, tab_x2 g.b s g.tR⟩
theorem G2.nT (g : G2 K B L pK pW pR O tp vk ks os gd H) : G2 K B L pK pW pR O tp vk ks os gd (noT H) := by
  obtain ⟨xo, h1, h2⟩ := g.o
  exact ⟨box_noT g.b, dp_noT _ g.k, ⟨xo, noT_at h1 (fun ps z => nomatch z), dpAll_noT _ h2⟩, dp_noT _ g.g, noT_at g.tK (fun ps z => nomatch z), noT_at g.tW (fun ps z => nomatch z), noT_at g.tR (fun ps z => nomatch z)⟩
theorem G2.ord (g : G2 K B L pK pW pR O tp vk ks os gd H) : Dp K H (.ref O) (orderD os) := by
  obtain ⟨xo, h1, h2⟩ := g.o
  exact .lst (SqL.of h1) h2
end
theorem dpAll_repG {K : PySem.W.Frag} {H : Hp} {v : V} {d : PyData} (h : Dp K H v d) : ∀ n : Nat, DpAll K H (List.replicate n v) (List.replicate n d)
  | 0 => .nil
  | n + 1 => .cons h (dpAll_repG h n)
section
variable {P : Program} {w : World} {K : PySem.W.Frag} {mg : Str → Option Value} {base : Heap}
theorem scLaw2 : FnScope N2L ["_law_script"] (defScope sLaw) := ⟨rfl, rfl, rfl, by decide +kernel, rfl, by decide +kernel, by decide +kernel⟩
theorem law2_fn {f c SE CS CM CR pK pW pR pF pG pZ : Addr} {C15 : Nat → Addr} {oc kV doc pm ct : Value} {od an : Option Addr} {osl : Array (Option Value)} (lk : K.lookup f = some ⟨oc, od, .func (PySem.W.fnOf "law" "law" (defArgs sLaw) (defBody sLaw) (defScope sLaw) .none kV doc pm an (.ref c) ct), osl⟩) (hcd : PySem.W.codeIn K (.ref c) "law" = true)
    (T : Txt K mg) (TB : LamX.TabB base mg c pZ) (nFG : pF ≠ pG) (nFZ : pF ≠ pZ) (nGZ : pG ≠ pZ) (eM : ErrP K SE C15 CM 4) (eR : ErrR K SE C15 CR) (C : Parts2 P w K mg base SE C15 CS CM CR pK pW pR pF pG) : FnOk P w K mg base CX0 45 f (PySem.W.fnOf "law" "law" (defArgs sLaw) (defBody sLaw) (defScope sLaw) .none kV doc pm an (.ref c) ct) ["_law_script"] (spLaw2 K pK pW pR pF pG pZ) := by
  have sc := scLaw2
  refine fn_of0 lk hcd sc (fun vs H Q E h => ?_) (fun f A outer s H vs Q E hr h => ?_)
  · obtain ⟨a, ns, rfl, _⟩ := h
    rfl
  · obtain ⟨a, ns, rfl, hS, tK, tW, tR, tF, tG, tZ, k⟩ := h
    have hu := hr.units
    refine ⟨_, (pss_cons (ps_set (i := 1) sc.nd rfl (Or.inr rfl) (pe_c C.begun hr (by decide) (by rfl) pass0 (pa_cons (pv 0) pa_nil))) (pss_cons (ps_set (i := 2) sc.nd rfl (Or.inr rfl) (pe_c C.kinds hr (by decide) (by rfl) pass0 (pa_cons (pv 1) pa_nil))) (pss_cons (ps_set (i := 3) sc.nd rfl (Or.inr rfl) (pe_c C.order hr (by decide) (by rfl) pass0 (pa_cons (pv 1) (pa_cons (pv 2) pa_nil)))) (pss_cons (ps_set (i := 4) sc.nd rfl (Or.inl rfl) (pe_callTy call_tuple_of (by rfl) T.tuple_ (by decide +kernel) (pa_cons (pe_lc (own := [("_law_kind", 11)]) (tt := tYes)  rfl sc.nd (pi_tup (pv 2)) (blkOk_by (N := N2L) (sc := defScope sLaw) (own := [("_law_kind", 11)]) (by decide +kernel)) (fun _ _ _ _ _ => (pg_name (i := 11) sc.nd rfl (Or.inl rfl))) (fun _ _ _ _ _ => pts_nil) (fun _ _ _ _ _ => (pe_c C.value hr (by decide) (by rfl) pass0 (pa_cons (pv 1) (pa_cons (pv 11) pa_nil))))) pa_nil))) (pss_cons (ps_if (pt_not (pt_val (pe_c C.heads hr (by decide) (by rfl) pass0 (pa_cons (pv 1) (pa_cons (pv 2) (pa_cons (pv 3) pa_nil)))))) (pss_one (ps_ret pe_bl)) pss_nil) (pss_cons (ps_set (i := 5) sc.nd rfl (Or.inr rfl) (pe_ix ix_list (pe_lst (pa_cons pe_int (pa_cons (pe_un un_neg pe_int) (pa_cons pe_int (pa_cons (pe_op op_add pe_int (pe_c C.take hr (by decide) (by rfl) pass0 (pa_cons (pv 1) (pa_cons (pe_op op_pow pe_int pe_int) pa_nil)))) pa_nil))))) (pe_c C.take hr (by decide) (by rfl) pass0 (pa_cons (pv 1) (pa_cons pe_int pa_nil))) (fun _ _ => rfl))) (pss_cons (ps_set (i := 6) sc.nd rfl (Or.inl rfl) (pe_lst (pa_cons (pe_lamP TB rfl (LamX.lamS_by (sc := defScope sLaw) (by decide +kernel)) (by rfl)) (pa_cons (pe_lamDP TB rfl (lamSD_by (N := N2L) (sc := defScope sLaw) (p := "_law_a") (by decide +kernel)) rfl rfl pe_int) pa_nil)))) (pss_cons (ps_if (pt_not (pt_val (pe_cP C.all hr (by decide) (fun _ => rfl) (by rfl) (pa_cons (pv 6) (pa_cons (pe_tup (pa_cons pe_str (pa_cons pe_int pa_nil))) pa_nil))))) (pss_one (ps_ret pe_bl)) pss_nil) (pss_cons (ps_asg (pe_c C.badrs hr (by decide) (by rfl) pass0 (pa_cons (pv 1) (pa_cons (pv 2) (pa_cons pe_int pa_nil)))) (pg_tup (by rfl) (pgs_cons (pg_name (i := 7) sc.nd rfl (Or.inr rfl)) (pgs_cons (pg_name (i := 8) sc.nd rfl (Or.inl rfl)) pgs_nil)))) (pss_cons (ps_set (i := 9) sc.nd rfl (Or.inr rfl) (pe_op op_rep (pe_lst (pa_cons (pv 4) pa_nil)) (pe_op op_add pe_int (pe_c C.take hr (by decide) (by rfl) pass0 (pa_cons (pv 1) (pa_cons pe_int pa_nil)))))) (pss_cons (ps_set (i := 6) sc.nd rfl (Or.inl rfl) (pe_lst (pa_cons (pe_lamP TB rfl (LamX.lamS_by (sc := defScope sLaw) (by decide +kernel)) (by rfl)) (pa_cons (pe_lamDP TB rfl (lamSD_by (N := N2L) (sc := defScope sLaw) (p := "_law_a") (by decide +kernel)) rfl rfl pe_int) pa_nil)))) (pss_cons (ps_if (pt_not (pt_val (pe_cP C.all hr (by decide) (fun _ => rfl) (by rfl) (pa_cons (pv 6) (pa_cons (pe_tup (pa_cons pe_str (pa_cons (pv 8) pa_nil))) pa_nil))))) (pss_one (ps_ret pe_bl)) pss_nil) (pss_cons (ps_set (i := 6) sc.nd rfl (Or.inl rfl) (pe_lst (pa_cons (pe_lamP TB rfl (LamX.lamS_by (sc := defScope sLaw) (by decide +kernel)) (by rfl)) (pa_cons (pe_lamDP TB rfl (lamSD_by (N := N2L) (sc := defScope sLaw) (p := "_law_a") (by decide +kernel)) rfl rfl pe_int) pa_nil)))) (pss_cons (ps_if (pt_not (pt_val (pe_cP C.all hr (by decide) (fun _ => rfl) (by rfl) (pa_cons (pv 6) (pa_cons (pe_tup (pa_cons pe_str (pa_cons pe_int pa_nil))) pa_nil))))) (pss_one (ps_ret pe_bl)) pss_nil) (pss_cons (ps_set (i := 10) sc.nd rfl (Or.inr rfl) (pe_c C.badrow hr (by decide) (by rfl) pass0 (pa_cons (pv 1) (pa_cons (pv 2) (pa_cons (pv 4) pa_nil))))) (pss_cons (ps_if (pt_not (pt_val (pe_cP C.all hr (by decide) (fun _ => rfl) (by rfl) (pa_cons (pe_lst (pa_cons (pe_lamP TB rfl (LamX.lamS_by (sc := defScope sLaw) (by decide +kernel)) (by rfl)) pa_nil)) (pa_cons (pe_tup (pa_cons pe_str (pa_cons pe_int pa_nil))) pa_nil))))) (pss_one (ps_ret pe_bl)) pss_nil) (pss_one (ps_ret (pe_and (pe_cmpR op_eq (pe_callB call_len_seq (by rfl) T.len PySem.boot_len (pa_cons (pe_c C.fiG hr (by decide) (by rfl) pass0 (pa_cons (pv 2) (pa_cons (pv 3) (pa_cons pe_int (pa_cons (pe_slice sl_list (pv 9) po_none (po_some pe_int)) pa_nil))))) pa_nil)) pe_int (nomark _)) (pe_one (pe_cmpR op_eq (pe_callB call_len_seq (by rfl) T.len PySem.boot_len (pa_cons (pe_c C.exG hr (by decide) (by rfl) pass0 (pa_cons (pv 2) (pa_cons (pv 3) (pa_cons pe_int (pa_cons (pe_slice sl_list (pv 9) po_none (po_some pe_int)) pa_nil))))) pa_nil)) pe_int (nomark _)))))))))))))))))))))), ?_⟩
    have big : (1000000 : Nat) ≤ sizeLine := by decide
    obtain ⟨psG, hpG⟩ := tabS_tbl tG
    refine ⟨_, rfl, a, ns, rfl, hS, fun H0 B L s0 _ _ b0 => ?_⟩
    refine ⟨_, rfl, B, L, rfl, b0, fun H1 vk ks s1 b1 k1 k4 hk => ?_⟩
    refine ⟨_, rfl, _, rfl, B, L, vk, ks, rfl, b1, hk, k1, k4, fun H2 O os xo s2 b2 oko l4 fO hO hdO => ?_⟩
    have nO := b1.nb fO
    have hk2 := dp_x b1 s2 _ (kinds_noL ks) hk
    have x02 := s1.trans s2
    -- a good row
    obtain ⟨aK, xk, rfl, hSK, hIK⟩ : ∃ aK xk, vk = .ref aK ∧ SqT K H2 aK xk ∧ DpAll K H2 xk (ks.map fun b => .str (kindS b)) := by
      cases hk2 with
      | @tup a xs _ h1 h2 => exact ⟨a, xs, rfl, h1, h2⟩
    refine ⟨_, rfl, aK, rfl, ⟨_, hSK⟩, fun DD hD => ?_⟩
    obtain ⟨sd, bd, nDB, nDL⟩ := al (o := .lst []) SameX.refl b2 b2 hD
    refine lc_tup (K := K) (a := aK) (xs := xk) (fun j H4 => SameX B L H2 H4 ∧ BoxAt H4 B L ∧ ∃ (ds : List PyData) (ys : List V), ds.length = j ∧ Vals1 ks ds ∧ H4 DD = some (.lst ys) ∧ DpAll K H4 ys ds)
      ⟨sd, bd, [], [], rfl, (fun j d h => by simp at h), upd_same, .nil⟩ (fun j H4 _ h => sqT_x b2 h.1 hSK) ?_ ?_
    · rintro j y H4 hy ⟨s6, b6, ds, ys, ld, hv, hl, hdd⟩
      obtain ⟨dk, ek, hdk⟩ := dpGet hIK hy
      obtain ⟨bk, ebk, rfl⟩ : ∃ b, ks[j]? = some b ∧ dk = .str (kindS b) := by
        rw [List.getElem?_map] at ek
        cases q : ks[j]? with
        | none => rw [q] at ek; cases ek
        | some b => rw [q] at ek; exact ⟨b, rfl, (Option.some.inj ek).symm⟩
      cases hdk
      have hj : j < ks.length := (List.getElem?_eq_some_iff.mp ebk).1
      have ly : ys.length = ds.length := dpLen hdd
      refine ⟨rfl, _, rfl, _, rfl, B, L, bk, rfl, b6, fun H5 v d s7 b7 hv2 hd2 => ?_⟩
      have hl5 := s7 _ _ nDB nDL hl
      have vs2 := vals_snoc hv (by rw [ld]; exact ebk) hv2
      refine ⟨ys, hl5, small1000 (by omega), (s6.trans s7).new hD, b7.upd_ nDB nDL, ds ++ [d], ys ++ [v], by rw [List.length_append, ld]; rfl, vs2, upd_same, ?_⟩
      exact dpAll_upd hl5 _ (vals_noL vs2) (dpApp (dpAll_x b6 s7 _ (vals_noL hv) hdd) (.cons hd2 .nil))
    rintro H3 ⟨s3, b3, gd, ys, ld, hv, hl, hdd⟩
    have lk : xk.length = ks.length := by rw [dpLen hIK, List.length_map]
    have okg : isRow ks (.tuple gd) = true := isRow_get.mpr ⟨by omega, hv⟩
    have nog : noLs gd = true := vals_noL hv
    refine ⟨DD, ys, rfl, .inl ⟨SqL.of hl, fun tp ntp => ?_⟩⟩
    have s4 := sameNew (o := .tup ys) (Same.refl H3) ntp
    have htp : upd H3 tp (.tup ys) tp = some (.tup ys) := upd_same
    generalize upd H3 tp (.tup ys) = H4 at s4 htp ⊢
    have x04 : SameX B L H0 H4 := (x02.trans s3).trans (SameX.of s4)
    have x24 : SameX B L H2 H4 := s3.trans (SameX.of s4)
    have b4 := b3.same s4
    have tF4 := tabS_x b0 x04 (tF.ext s0)
    have tG4 := tabS_x b0 x04 (tG.ext s0)
    have tZ4 := tabS_x b0 x04 (tZ.ext s0)
    have g4 : G2 K B L pK pW pR O tp (.ref aK) ks os gd H4 := ⟨b4, dp_x b2 x24 _ (kinds_noL ks) (.tup hSK hIK), ⟨xo, x24 _ _ nO.1 nO.2 hO, dpAll_x b2 x24 _ (parts_noL os) hdO⟩, .tup (SqT.of htp) (dpAll_same s4 _ hdd), tab_x2 b0 x04 (s0 _ _ tK), tab_x2 b0 x04 (s0 _ _ tW), tab_x2 b0 x04 (s0 _ _ tR)⟩
    clear hD sd bd hl hdd
    -- the heads
    obtain ⟨xo4, hO4, hdO4⟩ := g4.o
    refine ⟨_, rfl, _, rfl, _, rfl, B, L, O, .ref aK, ks, os, xo4, rfl, b4, g4.k, k1, k4, nO.1, nO.2, hO4, hdO4, oko, l4, g4.tK, tG4, fun H5 f5 b5 tG5 => ⟨_, rfl, iteF ?_⟩⟩
    obtain ⟨ps4, hp4⟩ := tabS_tbl tG4
    have g5 := g4.nT.x (frg_x f5 hp4) b5 nO nog
    have tF5 := tabS_frg tF4 b4 f5 hp4 nFG
    have tZ5 := tabS_frg tZ4 b4 f5 hp4 (Ne.symm nGZ)
    -- a room that may not be
    have pw : ((10 : Int) ^ (18 : Int).toNat) = 1000000000000000000 := by decide +kernel
    refine ⟨1, rfl, _, rfl, _, _, rfl, rfl, ⟨by decide, by decide, by decide⟩, B, L, _, rfl, b5, by rw [pw]; decide, by rw [pw]; decide, fun H6 fw s6 b6 fw0 fw1 => ⟨_, _, rfl, rfl, by show 4 ≤ sizeLine; decide, fun e2 ne2 => ?_⟩⟩
    obtain ⟨ne2B, ne2L⟩ := b6.nb ne2
    have s7 := sameNew (o := .lst [.int 0, .int (-1), .int 25, .int (25 + fw)]) (Same.refl H6) ne2
    have he2 : upd H6 e2 (.lst [.int 0, .int (-1), .int 25, .int (25 + fw)]) e2 = some (.lst [.int 0, .int (-1), .int 25, .int (25 + fw)]) := upd_same
    generalize upd H6 e2 (.lst [.int 0, .int (-1), .int 25, .int (25 + fw)]) = H7 at s7 he2 ⊢
    refine ⟨_, rfl, B, L, 4, rfl, b6.same s7, by decide, by decide, fun H8 fx s8 b8 fx0 fx4 => ?_⟩
    obtain ⟨z, hz, hzb⟩ := size4 fw0 fx0 fx4
    refine ⟨e2, _, fx, _, rfl, rfl, SqL.of (s8 _ _ ne2B ne2L he2), hz, ?_⟩
    have x58 : SameX B L H5 H8 := (s6.trans (SameX.of s7)).trans s8
    have g8 := g5.x x58 b8 nO nog
    have tF8 := tabS_x b5 x58 tF5
    have tZ8 := tabS_x b5 x58 tZ5
    dsimp only [gName, List.set]
    refine ⟨tZ8, fun af0 aA0 ae0 ax0 at0 ai0 an0 => ⟨at0, fun af1 aA1 ae1 ax1 at1 ai1 an1 => ⟨by show 2 ≤ sizeLine; decide, fun aW0 naW0 => ?_⟩⟩⟩
    have saW0 := sameNew (o := .lst [.ref af0, .ref af1]) (Same.refl aA1) naW0
    have haW0 : upd aA1 aW0 (.lst [.ref af0, .ref af1]) aW0 = some (.lst [.ref af0, .ref af1]) := upd_same
    generalize upd aA1 aW0 (.lst [.ref af0, .ref af1]) = aHaW0 at saW0 haW0 ⊢
    refine ⟨_, rfl, by show 2 ≤ sizeLine; decide, fun aTT naTT => ?_⟩
    have saTT := sameNew (o := .tup [.str "BadRoom", .int 0]) (Same.refl aHaW0) naTT
    have haTT : upd aHaW0 aTT (.tup [.str "BadRoom", .int 0]) aTT = some (.tup [.str "BadRoom", .int 0]) := upd_same
    generalize upd aHaW0 aTT (.tup [.str "BadRoom", .int 0]) = aH at saTT haTT ⊢
    intro aGp ca
    have aeF : LamX.ExtN H8 aH := (ae0.trans (ae1.trans ((LamX.ExtN.of saW0).trans (LamX.ExtN.of saTT))))
    have gD2 : ∀ {Hx : Hp}, Same aH Hx → G2 K B L pK pW pR O tp (.ref aK) ks os gd Hx := fun {Hx} s => (g8.ext aeF).same s
    have ahW := (LamX.ExtN.of saTT) _ _ haW0 (fun ps z => nomatch z)
    refine ⟨aW0, [af0, af1], .ref aTT, .tuple [.str "BadRoom", .int 0], rfl, ca.some ahW, by show 2 ≤ 20; decide, .tup (SqT.of (ca.some haTT)) (.cons (.str _) (.cons (.int _) .nil)), by simp [few, fews], by simp [PyData.depth, PyData.depthAll], fun g hg => ?_, fun aZ asZ => ?_⟩
    · simp only [List.mem_cons, List.not_mem_nil, or_false] at hg
      rcases hg with rfl | rfl
      · refine works_pl eM rfl ca (LamX.lamS_by (sc := defScope sLaw) (by decide +kernel)) (ai0.ext (ae1.trans ((LamX.ExtN.of saW0).trans (LamX.ExtN.of saTT)))) (fun _ _ _ _ _ => rfl) (fun A outer s H E c' hr' => pe_c C.fiB hr' (by decide) (by rfl) (passes_call (takes_of rfl rfl rfl rfl) fun _ _ _ _ h => h) (pa_cons (pv 2) (pa_cons (pv 3) (pa_cons (pv 5) (pa_cons (pe_lst (pa_cons (pe_tup pa_nil) pa_nil)) pa_nil))))) fun Hx E Q sx q => ?_
        have gx := gD2 sx
        refine ⟨_, rfl, _, rfl, _, rfl, by show 0 ≤ sizeLine; decide, fun u0 nu0 => ?_⟩
        have su0 := sameNew (o := .tup []) (Same.refl Hx) nu0
        have hu0 : upd Hx u0 (.tup []) u0 = some (.tup []) := upd_same
        generalize upd Hx u0 (.tup []) = Hu0 at su0 hu0 ⊢
        refine ⟨by show 1 ≤ sizeLine; decide, fun u1 nu1 => ?_⟩
        have su1 := sameNew (o := .lst [.ref u0]) (Same.refl Hu0) nu1
        have hu1 : upd Hu0 u1 (.lst [.ref u0]) u1 = some (.lst [.ref u0]) := upd_same
        generalize upd Hu0 u1 (.lst [.ref u0]) = Hu1 at su1 hu1 ⊢
        have gy := gx.same (su0.trans su1)
        exact ⟨_, _, _, _, rfl, ⟨gy.tK, gy.tW, gy.tR⟩, ks, os, gy.k, k1, k4, gy.ord, oko, by omega, .inl ⟨hzb, fun H' s' => q H' ((su0.trans su1).trans s')⟩⟩
      · refine works_plD eM rfl ca (lamSD_by (N := N2L) (sc := defScope sLaw) (p := "_law_a") (by decide +kernel)) (ai1.ext ((LamX.ExtN.of saW0).trans (LamX.ExtN.of saTT))) (fun s q cl T0 u doc pm cv ctv h => BindsTo.of_defaults rfl h rfl rfl rfl) (fun A outer s H E c' hr' => pe_c C.exB hr' (by decide) (by rfl) (passes_call (takes_of rfl rfl rfl rfl) fun _ _ _ _ h => h) (pa_cons (pv 2) (pa_cons (pv 3) (pa_cons (pv 5) (pa_cons (pe_lst (pa_cons (pe_tup pa_nil) pa_nil)) pa_nil))))) fun Hx E Q sx q => ?_
        have gx := gD2 sx
        refine ⟨_, rfl, _, rfl, _, rfl, by show 0 ≤ sizeLine; decide, fun u0 nu0 => ?_⟩
        have su0 := sameNew (o := .tup []) (Same.refl Hx) nu0
        have hu0 : upd Hx u0 (.tup []) u0 = some (.tup []) := upd_same
        generalize upd Hx u0 (.tup []) = Hu0 at su0 hu0 ⊢
        refine ⟨by show 1 ≤ sizeLine; decide, fun u1 nu1 => ?_⟩
        have su1 := sameNew (o := .lst [.ref u0]) (Same.refl Hu0) nu1
        have hu1 : upd Hu0 u1 (.lst [.ref u0]) u1 = some (.lst [.ref u0]) := upd_same
        generalize upd Hu0 u1 (.lst [.ref u0]) = Hu1 at su1 hu1 ⊢
        have gy := gx.same (su0.trans su1)
        exact ⟨_, _, _, _, rfl, ⟨gy.tK, gy.tW, gy.tR⟩, ks, os, gy.k, k1, k4, gy.ord, oko, by omega, .inl ⟨hzb, fun H' s' => q H' ((su0.trans su1).trans s')⟩⟩
    have asf := caught_same ca asZ
    refine ⟨_, rfl, iteF ?_⟩
    have aeZ := aeF.trans (LamX.ExtN.of asf)
    have atZ := ((at1.ext saW0).ext saTT).ext asf
    have afrZ : FrG B L pZ H8 _ := ((FrG.t ax0).trans (((FrG.t ax1).trans (((FrG.of saW0).trans (FrG.of saTT)))))).trans (FrG.of asf)
    generalize off _ aZ = aHZ at asf aeZ atZ afrZ ⊢
    clear ca
    have gA := g8.ext aeZ
    obtain ⟨psZ, hpZ8⟩ := tabS_tbl tZ8
    have tFA := tabS_frg tF8 b8 afrZ hpZ8 nFZ
    -- rows that are none
    refine ⟨_, rfl, _, rfl, B, L, .ref aK, ks, rfl, gA.b, gA.k, k1, k4, fun H9 t pb yb db ib s9 b9 ht npb hpb hdb bad => ?_⟩
    refine ⟨t, _, rfl, SqT.of ht, rfl, _, _, rfl, _, _, rfl, rfl, ?_⟩
    have g9 := gA.x s9 b9 nO nog
    have tF9 := tabS_x gA.b s9 tFA
    have tZ9 := tabS_x gA.b s9 atZ
    obtain ⟨bl, bfit, bi, bgood, bd0, ebd, bbd⟩ := bad
    have nodb : noLs db = true := noLs_iff.mpr fun d hd => (bfit d hd).2
    -- many rows
    refine ⟨_, rfl, by show 1 ≤ sizeLine; decide, fun lm nlm => ?_⟩
    obtain ⟨nlmB, nlmL⟩ := b9.nb nlm
    have sA := sameNew (o := .lst [.ref tp]) (Same.refl H9) nlm
    have hlm : upd H9 lm (.lst [.ref tp]) lm = some (.lst [.ref tp]) := upd_same
    generalize upd H9 lm (.lst [.ref tp]) = HA at sA hlm ⊢
    refine ⟨_, rfl, B, L, 3, rfl, b9.same sA, by decide, by decide, fun HB mx sB bB mx0 mx3 => ⟨_, _, rfl, rfl, lm, _, _, rfl, rfl, sB _ _ nlmB nlmL hlm, by omega, by omega, by show 1 * _ ≤ sizeLine; omega, fun M nM => ?_⟩⟩
    obtain ⟨mn, emn, mn121, mn123⟩ : ∃ mn : Nat, (121 + mx).toNat = mn ∧ 121 ≤ mn ∧ mn ≤ 123 := ⟨(121 + mx).toNat, rfl, by omega, by omega⟩
    have erep : (List.replicate (121 + mx).toNat [V.ref tp]).flatten = List.replicate mn (V.ref tp) := by
      rw [emn]
      clear emn mn121 mn123
      induction mn with
      | zero => rfl
      | succ q ih => rw [List.replicate_succ, List.flatten_cons, ih, List.replicate_succ]; rfl
    rw [erep]
    obtain ⟨nMB, nML⟩ := bB.nb nM
    have sC := sameNew (o := .lst (List.replicate mn (V.ref tp))) (Same.refl HB) nM
    have hM : upd HB M (.lst (List.replicate mn (V.ref tp))) M = some (.lst (List.replicate mn (V.ref tp))) := upd_same
    generalize upd HB M (.lst (List.replicate mn (V.ref tp))) = HC at sC hM ⊢
    have x9B : SameX B L H9 HB := (SameX.of sA).trans sB
    have gB := g9.x x9B bB nO nog
    have gC := gB.same sC
    have tFC := (tabS_x b9 x9B tF9).ext sC
    have tZC := (tabS_x b9 x9B tZ9).ext sC
    have hpbC := sC _ _ (x9B _ _ npb.1 npb.2 hpb)
    have hdbC := dpAll_same sC _ (dpAll_x b9 x9B _ nodb hdb)
    dsimp only [gName, List.set]
    refine ⟨tZC, fun bf0 bA0 be0 bx0 bt0 bi0 bn0 => ⟨bt0, fun bf1 bA1 be1 bx1 bt1 bi1 bn1 => ⟨by show 2 ≤ sizeLine; decide, fun bW0 nbW0 => ?_⟩⟩⟩
    have sbW0 := sameNew (o := .lst [.ref bf0, .ref bf1]) (Same.refl bA1) nbW0
    have hbW0 : upd bA1 bW0 (.lst [.ref bf0, .ref bf1]) bW0 = some (.lst [.ref bf0, .ref bf1]) := upd_same
    generalize upd bA1 bW0 (.lst [.ref bf0, .ref bf1]) = bHbW0 at sbW0 hbW0 ⊢
    refine ⟨_, rfl, _, rfl, by show 2 ≤ sizeLine; decide, fun bTT nbTT => ?_⟩
    have sbTT := sameNew (o := .tup [.str "BadRows", .int (ib : Nat)]) (Same.refl bHbW0) nbTT
    have hbTT : upd bHbW0 bTT (.tup [.str "BadRows", .int (ib : Nat)]) bTT = some (.tup [.str "BadRows", .int (ib : Nat)]) := upd_same
    generalize upd bHbW0 bTT (.tup [.str "BadRows", .int (ib : Nat)]) = bH at sbTT hbTT ⊢
    intro bGp ca
    have beF : LamX.ExtN HC bH := (be0.trans (be1.trans ((LamX.ExtN.of sbW0).trans (LamX.ExtN.of sbTT))))
    have gD2 : ∀ {Hx : Hp}, Same bH Hx → G2 K B L pK pW pR O tp (.ref aK) ks os gd Hx := fun {Hx} s => (gC.ext beF).same s
    have gP2 : ∀ {Hx : Hp}, Same bH Hx → Hx pb = some (.lst yb) ∧ DpAll K Hx yb db := fun {Hx} s => ⟨s _ _ (beF _ _ hpbC (fun ps z => nomatch z)), dpAll_same s _ (dpAll_ext2 beF hdbC)⟩
    have bhW := (LamX.ExtN.of sbTT) _ _ hbW0 (fun ps z => nomatch z)
    refine ⟨bW0, [bf0, bf1], .ref bTT, .tuple [.str "BadRows", .int (ib : Nat)], rfl, ca.some bhW, by show 2 ≤ 20; decide, .tup (SqT.of (ca.some hbTT)) (.cons (.str _) (.cons (.int _) .nil)), by simp [few, fews], by simp [PyData.depth, PyData.depthAll], fun g hg => ?_, fun bZ bsZ => ?_⟩
    · simp only [List.mem_cons, List.not_mem_nil, or_false] at hg
      rcases hg with rfl | rfl
      · refine works_rw (n := ib) eR ca (LamX.lamS_by (sc := defScope sLaw) (by decide +kernel)) (bi0.ext (be1.trans ((LamX.ExtN.of sbW0).trans (LamX.ExtN.of sbTT)))) (fun _ _ _ _ _ => rfl) (fun A outer s H E c' hr' => pe_c C.fiB hr' (by decide) (by rfl) (passes_call (takes_of rfl rfl rfl rfl) fun _ _ _ _ h => h) (pa_cons (pv 2) (pa_cons (pv 3) (pa_cons pe_int (pa_cons (pv 7) pa_nil))))) fun Hx E Q sx q => ?_
        have gx := gD2 sx
        refine ⟨_, rfl, _, rfl, _, rfl, ?_⟩
        have gy := gx.same (Same.refl Hx)
        have gp := gP2 sx
        exact ⟨_, _, _, _, rfl, ⟨gy.tK, gy.tW, gy.tR⟩, ks, os, gy.k, k1, k4, gy.ord, oko, by omega, .inr ⟨by decide, by decide, db, ib, bd0, .lst (SqL.of (((Same.refl Hx)) _ _ gp.1)) (dpAll_same ((Same.refl Hx)) _ gp.2), by omega, fun d hd => (bfit d hd).1, ebd, bi, bgood, bbd, fun H' dd s' h => q H' dd (((Same.refl Hx)).trans s') h⟩⟩
      · refine works_rwD (n := ib) eR ca (lamSD_by (N := N2L) (sc := defScope sLaw) (p := "_law_a") (by decide +kernel)) (bi1.ext ((LamX.ExtN.of sbW0).trans (LamX.ExtN.of sbTT))) (fun s q cl T0 u doc pm cv ctv h => BindsTo.of_defaults rfl h rfl rfl rfl) (fun A outer s H E c' hr' => pe_c C.exB hr' (by decide) (by rfl) (passes_call (takes_of rfl rfl rfl rfl) fun _ _ _ _ h => h) (pa_cons (pv 2) (pa_cons (pv 3) (pa_cons pe_int (pa_cons (pv 7) pa_nil))))) fun Hx E Q sx q => ?_
        have gx := gD2 sx
        refine ⟨_, rfl, _, rfl, _, rfl, ?_⟩
        have gy := gx.same (Same.refl Hx)
        have gp := gP2 sx
        exact ⟨_, _, _, _, rfl, ⟨gy.tK, gy.tW, gy.tR⟩, ks, os, gy.k, k1, k4, gy.ord, oko, by omega, .inr ⟨by decide, by decide, db, ib, bd0, .lst (SqL.of (((Same.refl Hx)) _ _ gp.1)) (dpAll_same ((Same.refl Hx)) _ gp.2), by omega, fun d hd => (bfit d hd).1, ebd, bi, bgood, bbd, fun H' dd s' h => q H' dd (((Same.refl Hx)).trans s') h⟩⟩
    have bsf := caught_same ca bsZ
    refine ⟨_, rfl, iteF ?_⟩
    have beZ := beF.trans (LamX.ExtN.of bsf)
    have btZ := ((bt1.ext sbW0).ext sbTT).ext bsf
    have bfrZ : FrG B L pZ HC _ := ((FrG.t bx0).trans (((FrG.t bx1).trans (((FrG.of sbW0).trans (FrG.of sbTT)))))).trans (FrG.of bsf)
    generalize off _ bZ = bHZ at bsf beZ btZ bfrZ ⊢
    clear ca
    have gD := gC.ext beZ
    obtain ⟨psC, hpZC⟩ := tabS_tbl tZC
    have tFD := tabS_frg tFC gC.b bfrZ hpZC nFZ
    have hMD := beZ _ _ hM (fun ps z => nomatch z)
    dsimp only [gName, List.set]
    refine ⟨btZ, fun cf0 cA0 ce0 cx0 ct0 ci0 cn0 => ⟨ct0, fun cf1 cA1 ce1 cx1 ct1 ci1 cn1 => ⟨by show 2 ≤ sizeLine; decide, fun cW0 ncW0 => ?_⟩⟩⟩
    have scW0 := sameNew (o := .lst [.ref cf0, .ref cf1]) (Same.refl cA1) ncW0
    have hcW0 : upd cA1 cW0 (.lst [.ref cf0, .ref cf1]) cW0 = some (.lst [.ref cf0, .ref cf1]) := upd_same
    generalize upd cA1 cW0 (.lst [.ref cf0, .ref cf1]) = cHcW0 at scW0 hcW0 ⊢
    refine ⟨_, rfl, by show 2 ≤ sizeLine; decide, fun cTT ncTT => ?_⟩
    have scTT := sameNew (o := .tup [.str "BadRows", .int 120]) (Same.refl cHcW0) ncTT
    have hcTT : upd cHcW0 cTT (.tup [.str "BadRows", .int 120]) cTT = some (.tup [.str "BadRows", .int 120]) := upd_same
    generalize upd cHcW0 cTT (.tup [.str "BadRows", .int 120]) = cH at scTT hcTT ⊢
    intro cGp ca
    have ceF : LamX.ExtN bHZ cH := (ce0.trans (ce1.trans ((LamX.ExtN.of scW0).trans (LamX.ExtN.of scTT))))
    have gD2 : ∀ {Hx : Hp}, Same cH Hx → G2 K B L pK pW pR O tp (.ref aK) ks os gd Hx := fun {Hx} s => (gD.ext ceF).same s
    have gM2 : ∀ {Hx : Hp}, Same cH Hx → Hx M = some (.lst (List.replicate mn (V.ref tp))) := fun {Hx} s => s _ _ (ceF _ _ hMD (fun ps z => nomatch z))
    have chW := (LamX.ExtN.of scTT) _ _ hcW0 (fun ps z => nomatch z)
    refine ⟨cW0, [cf0, cf1], .ref cTT, .tuple [.str "BadRows", .int 120], rfl, ca.some chW, by show 2 ≤ 20; decide, .tup (SqT.of (ca.some hcTT)) (.cons (.str _) (.cons (.int _) .nil)), by simp [few, fews], by simp [PyData.depth, PyData.depthAll], fun g hg => ?_, fun cZ csZ => ?_⟩
    · simp only [List.mem_cons, List.not_mem_nil, or_false] at hg
      rcases hg with rfl | rfl
      · refine works_rw (n := 120) eR ca (LamX.lamS_by (sc := defScope sLaw) (by decide +kernel)) (ci0.ext (ce1.trans ((LamX.ExtN.of scW0).trans (LamX.ExtN.of scTT)))) (fun _ _ _ _ _ => rfl) (fun A outer s H E c' hr' => pe_c C.fiB hr' (by decide) (by rfl) (passes_call (takes_of rfl rfl rfl rfl) fun _ _ _ _ h => h) (pa_cons (pv 2) (pa_cons (pv 3) (pa_cons pe_int (pa_cons (pv 9) pa_nil))))) fun Hx E Q sx q => ?_
        have gx := gD2 sx
        refine ⟨_, rfl, _, rfl, _, rfl, ?_⟩
        have gy := gx.same (Same.refl Hx)
        have gm := gM2 sx
        exact ⟨_, _, _, _, rfl, ⟨gy.tK, gy.tW, gy.tR⟩, ks, os, gy.k, k1, k4, gy.ord, oko, by omega, .inr ⟨by decide, by decide, List.replicate mn (.tuple gd), 120, .tuple gd, .lst (SqL.of gm) (dpAll_repG gy.g mn), by rw [List.length_replicate]; omega, fun d hd => by rw [List.eq_of_mem_replicate hd]; exact row_fit k4 okg, by rw [List.getElem?_replicate, if_pos (by omega)], Nat.le_refl _, fun d hd => by rw [List.eq_of_mem_replicate (List.mem_of_mem_take hd)]; exact okg, .inl rfl, fun H' dd s' h => q H' dd (((Same.refl Hx)).trans s') h⟩⟩
      · refine works_rwD (n := 120) eR ca (lamSD_by (N := N2L) (sc := defScope sLaw) (p := "_law_a") (by decide +kernel)) (ci1.ext ((LamX.ExtN.of scW0).trans (LamX.ExtN.of scTT))) (fun s q cl T0 u doc pm cv ctv h => BindsTo.of_defaults rfl h rfl rfl rfl) (fun A outer s H E c' hr' => pe_c C.exB hr' (by decide) (by rfl) (passes_call (takes_of rfl rfl rfl rfl) fun _ _ _ _ h => h) (pa_cons (pv 2) (pa_cons (pv 3) (pa_cons pe_int (pa_cons (pv 9) pa_nil))))) fun Hx E Q sx q => ?_
        have gx := gD2 sx
        refine ⟨_, rfl, _, rfl, _, rfl, ?_⟩
        have gy := gx.same (Same.refl Hx)
        have gm := gM2 sx
        exact ⟨_, _, _, _, rfl, ⟨gy.tK, gy.tW, gy.tR⟩, ks, os, gy.k, k1, k4, gy.ord, oko, by omega, .inr ⟨by decide, by decide, List.replicate mn (.tuple gd), 120, .tuple gd, .lst (SqL.of gm) (dpAll_repG gy.g mn), by rw [List.length_replicate]; omega, fun d hd => by rw [List.eq_of_mem_replicate hd]; exact row_fit k4 okg, by rw [List.getElem?_replicate, if_pos (by omega)], Nat.le_refl _, fun d hd => by rw [List.eq_of_mem_replicate (List.mem_of_mem_take hd)]; exact okg, .inl rfl, fun H' dd s' h => q H' dd (((Same.refl Hx)).trans s') h⟩⟩
    have csf := caught_same ca csZ
    refine ⟨_, rfl, iteF ?_⟩
    have ceZ := ceF.trans (LamX.ExtN.of csf)
    have ctZ := ((ct1.ext scW0).ext scTT).ext csf
    have cfrZ : FrG B L pZ bHZ _ := ((FrG.t cx0).trans (((FrG.t cx1).trans (((FrG.of scW0).trans (FrG.of scTT)))))).trans (FrG.of csf)
    generalize off _ cZ = cHZ at csf ceZ ctZ cfrZ ⊢
    clear ca
    have gE := gD.ext ceZ
    obtain ⟨psD, hpZD⟩ := tabS_tbl btZ
    have tFE := tabS_frg tFD gD.b cfrZ hpZD nFZ
    have hME := ceZ _ _ hMD (fun ps z => nomatch z)
    -- a row that is none
    refine ⟨_, rfl, _, rfl, _, rfl, B, L, .ref aK, .ref tp, ks, gd, rfl, gE.b, gE.k, k1, k4, gE.g, okg, fun HI vo d sI bI hod odb fitd nold => ?_⟩
    have gI := gE.x sI bI nO nog
    have tFI := tabS_x gE.b sI tFE
    have tZI := tabS_x gE.b sI ctZ
    have hMI := sI _ _ nMB nML hME
    dsimp only [gName, List.set]
    refine ⟨tZI, fun df0 dA0 de0 dx0 dt0 di0 dn0 => ⟨by show 1 ≤ sizeLine; decide, fun dW0 ndW0 => ?_⟩⟩
    have sdW0 := sameNew (o := .lst [.ref df0]) (Same.refl dA0) ndW0
    have hdW0 : upd dA0 dW0 (.lst [.ref df0]) dW0 = some (.lst [.ref df0]) := upd_same
    generalize upd dA0 dW0 (.lst [.ref df0]) = dHdW0 at sdW0 hdW0 ⊢
    refine ⟨by show 2 ≤ sizeLine; decide, fun dTT ndTT => ?_⟩
    have sdTT := sameNew (o := .tup [.str "BadRows", .int 0]) (Same.refl dHdW0) ndTT
    have hdTT : upd dHdW0 dTT (.tup [.str "BadRows", .int 0]) dTT = some (.tup [.str "BadRows", .int 0]) := upd_same
    generalize upd dHdW0 dTT (.tup [.str "BadRows", .int 0]) = dH at sdTT hdTT ⊢
    intro dGp ca
    have deF : LamX.ExtN HI dH := (de0.trans ((LamX.ExtN.of sdW0).trans (LamX.ExtN.of sdTT)))
    have gD2 : ∀ {Hx : Hp}, Same dH Hx → G2 K B L pK pW pR O tp (.ref aK) ks os gd Hx := fun {Hx} s => (gI.ext deF).same s
    have gO2 : ∀ {Hx : Hp}, Same dH Hx → Dp K Hx vo d := fun {Hx} s => dp_same s _ (dp_ext2 deF hod)
    have dhW := (LamX.ExtN.of sdTT) _ _ hdW0 (fun ps z => nomatch z)
    refine ⟨dW0, [df0], .ref dTT, .tuple [.str "BadRows", .int 0], rfl, ca.some dhW, by show 1 ≤ 20; decide, .tup (SqT.of (ca.some hdTT)) (.cons (.str _) (.cons (.int _) .nil)), by simp [few, fews], by simp [PyData.depth, PyData.depthAll], fun g hg => ?_, fun dZ dsZ => ?_⟩
    · simp only [List.mem_cons, List.not_mem_nil, or_false] at hg
      subst hg
      · refine works_rw (n := 0) eR ca (LamX.lamS_by (sc := defScope sLaw) (by decide +kernel)) (di0.ext ((LamX.ExtN.of sdW0).trans (LamX.ExtN.of sdTT))) (fun _ _ _ _ _ => rfl) (fun A outer s H E c' hr' => pe_m C.svP hr' (by decide) (passes_call (takes_of rfl rfl rfl rfl) fun _ _ _ _ h => h) (pe_mk C.svI hr' (by decide) (by rfl) pass0 (pa_cons (pv 2) (pa_cons (pv 3) pa_nil))) (pa_cons (pv 10) pa_nil)) fun Hx E Q sx q => ?_
        have gx := gD2 sx
        have hox := gO2 sx
        obtain ⟨xo5, hO5, hdO5⟩ := gx.o
        refine ⟨_, rfl, _, rfl, fun x dx hx0 hdx0 ned => ?_⟩
        have s6 := sameNew (o := .ins CS dx []) (sameNew (o := .own x) (Same.refl Hx) hdx0) ((upd_ne (Ne.symm ned)).trans hx0)
        have hx6 : upd (upd Hx dx (.own x)) x (.ins CS dx []) x = some (.ins CS dx []) := upd_same
        generalize upd (upd Hx dx (.own x)) x (.ins CS dx []) = H6 at s6 hx6 ⊢
        refine ⟨x, dx, O, .ref aK, ks, os, xo5, rfl, hx6, dp_same s6 _ gx.k, k1, k4, SqL.of (s6 _ _ hO5), dpAll_same s6 _ hdO5, oko, by omega, s6 _ _ gx.tK, fun H7 O' G nO' nG nOG nOx hx7 hO7 hG7 fr7 => ⟨rfl, ?_⟩⟩
        have s57 : Same Hx H7 := fun b o e => fr7 b o (s6 _ _ e) (ne_of_none e hx0)
        have sv := sv_new (C := CS) s57 gx.k hdO5 hO7 nOx nOG hx0 (s6.free nG) hx7 hG7 (by omega)
        refine ⟨x, dx, _, rfl, hx7, fs_no (by decide +kernel) (by decide +kernel) (by decide +kernel) (by decide +kernel), ?_⟩
        exact ⟨_, rfl, x, G, vo, d, ks, os, _, 0, [], rfl, sv, dp_same s57 _ hox, fitd, by omega, s57 _ _ gx.tW, s57 _ _ gx.tR, by show 0 ≤ 900; decide, .inl ⟨odb, fun H' dd s' h => q H' dd (s57.trans s') h⟩⟩
    have dsf := caught_same ca dsZ
    refine ⟨_, rfl, iteF ?_⟩
    have deZ := deF.trans (LamX.ExtN.of dsf)
    have dtZ := ((dt0.ext sdW0).ext sdTT).ext dsf
    have dfrZ : FrG B L pZ HI _ := ((FrG.t dx0).trans (((FrG.of sdW0).trans (FrG.of sdTT)))).trans (FrG.of dsf)
    generalize off _ dZ = dHZ at dsf deZ dtZ dfrZ ⊢
    clear ca
    have gJ := gI.ext deZ
    obtain ⟨psI, hpZI⟩ := tabS_tbl tZI
    have tFJ := tabS_frg tFI gI.b dfrZ hpZI nFZ
    have hMJ := deZ _ _ hMI (fun ps z => nomatch z)
    -- the good ones
    have e120 : (List.replicate mn (V.ref tp)).take 120 = List.replicate 120 (V.ref tp) := by rw [List.take_replicate, Nat.min_eq_left (by omega)]
    have rws : ∀ {H' : Hp} {m : Addr}, G2 K B L pK pW pR O tp (.ref aK) ks os gd H' → H' m = some (.lst (List.replicate 120 (V.ref tp))) → Dp K H' (.ref m) (rowsD (List.replicate 120 gd)) := fun {H' m} g h => .lst (SqL.of h) (by rw [List.map_replicate]; exact dpAll_repG g.g 120)
    have hd2 : ∀ {H' : Hp} {m : Addr} {n : Int}, G2 K B L pK pW pR O tp (.ref aK) ks os gd H' → H' m = some (.lst (List.replicate 120 (V.ref tp))) → 1 ≤ n → n ≤ 24 → Handed K H' (.ref aK) (.ref O) (.ref m) ks os n (List.replicate 120 gd) := fun {H' m n} g h n1 n24 => ⟨g.k, g.ord, rws g h, k1, k4, oko, by omega, n1, n24, by rw [List.length_replicate]; exact Nat.le_refl _, fun r hr => by rw [List.eq_of_mem_replicate hr]; exact ⟨okg, row_fit k4 okg⟩⟩
    refine ⟨_, rfl, _, rfl, _, rfl, ?_⟩
    dsimp only [tNoPart]
    refine ⟨_, rfl, ?_⟩
    refine sl_any2 (lo := none) (hi := some 120) hMJ fun m1 HK sK nm1 hm1 => ?_
    rw [show cutV (List.replicate mn (V.ref tp)) none (some 120) = List.replicate 120 (V.ref tp) from (cutV_to2 (k := 120)).trans e120] at hm1
    have gK := gJ.same sK
    refine ⟨.ref aK, .ref O, .ref m1, ks, os, 1, List.replicate 120 gd, rfl, hd2 gK hm1 (by decide) (by decide), ⟨gK.tK, gK.tW, gK.tR⟩, tFJ.ext sK, fun HL p as runs sL tFL np npa hp R ft => ?_⟩
    have l120 : (as.map V.ref).length = 120 := by rw [List.length_map, R.len, rep_filled ft]
    refine ⟨p, _, rfl, .inl (SqL.of hp), rfl, _, rfl, ?_⟩
    rw [l120]
    refine iteT' (decide_eq_true rfl) ?_
    have gL := gK.nT.same sL
    have hML := sL _ _ (noT_at (sK _ _ hMJ) (fun ps z => nomatch z))
    refine ⟨_, rfl, _, rfl, _, rfl, ?_⟩
    dsimp only [tNoPart]
    refine ⟨_, rfl, ?_⟩
    refine sl_any2 (lo := none) (hi := some 120) hML fun m2 HM sM nm2 hm2 => ?_
    rw [show cutV (List.replicate mn (V.ref tp)) none (some 120) = List.replicate 120 (V.ref tp) from (cutV_to2 (k := 120)).trans e120] at hm2
    have gM := gL.same sM
    refine ⟨.ref aK, .ref O, .ref m2, ks, os, 24, List.replicate 120 gd, rfl, hd2 gM hm2 (by decide) (by decide), ⟨gM.tK, gM.tW, gM.tR⟩, fun HN p2 as2 runs2 sN np2 npa2 hp2 R2 rt l2 => ?_⟩
    have l1 : (as2.map V.ref).length = 1 := by rw [List.length_map, R2.len, rep_runs oko okg rt]
    refine ⟨p2, _, rfl, .inl (SqL.of hp2), rfl, ?_⟩
    rw [l1]
    have gN := gM.same sN
    exact k _ gN.tK gN.tW gN.tR
end
end RS
set_option Elab.async false
set_option maxRecDepth 100000
set_option maxHeartbeats 4000000
namespace RS
open PySem PySem.Spec PyProof.Rows L2 GX LM
/-! ### what one reads of the classes of the errors -/
theorem kit_ne {K : PySem.W.Frag} {D C : Addr} {b : Bool} (hne : D ≠ C) (h1 : PySem.W.isClsIn K C = true) (h2 : PySem.W.typeIn K (.ref C) = some (.type "type")) (h3 : PySem.W.subIn K (.ref D) (.ref C) = some b) : PySem.W.kitOne K (.ref D) (.ref C) = some b := by
  have e0 : ((Value.ref D : Value) == .ref C) = false := by
    rw [beq_eq_false_iff_ne]
    exact fun z => hne (Value.ref.inj z)
  have e2 : ((PySem.W.clsIn K C).isSome && PySem.W.typeIn K (.ref C) == some (.type "type")) = true := by
    have h1' : (PySem.W.clsIn K C).isSome = true := h1
    rw [h1', h2] <;> rfl
  unfold PySem.W.kitOne
  rw [if_neg (by rw [e0]; decide)]
  show (if ((PySem.W.clsIn K C).isSome && PySem.W.typeIn K (.ref C) == some (.type "type")) = true then PySem.W.subIn K (.ref D) (.ref C) else none) = some b
  rw [if_pos e2]
  exact h3
theorem kit_same {K : PySem.W.Frag} {D : Addr} : PySem.W.kitOne K (.ref D) (.ref D) = some true := by
  unfold PySem.W.kitOne
  rw [if_pos (beq_self_eq_true _)]
theorem kit_ve {K : PySem.W.Frag} {D : Addr} (h : PySem.W.subIn K (.ref D) (.type "ValueError") = some true) : PySem.W.kitOne K (.ref D) (.type "ValueError") = some true := by
  unfold PySem.W.kitOne
  rw [if_neg (show ¬((Value.ref D : Value) == .type "ValueError") = true from fun z => by have := beq_iff_eq.mp z; cases this)]
  show (if PySem.W.kitMeta "ValueError" = true then PySem.W.subIn K (.ref D) (.type "ValueError") else none) = some true
  rw [if_pos (by decide +kernel)]
  exact h
theorem exm_mk {K : PySem.W.Frag} {D S : Addr} (h1 : PySem.W.subIn K (.ref S) (.type "BaseException") = some true) (h2 : PySem.W.isClsIn K S = true) (h3 : PySem.W.typeIn K (.ref S) = some (.type "type")) (h4 : PySem.W.subIn K (.ref D) (.ref S) = some true) :
    PySem.W.exmOne K (.ref D) (.ref S) = some true := by
  have e1 : (PySem.W.subIn K (.ref S) (.type "BaseException") == some true) = true := by rw [h1] <;> rfl
  have e2 : ((PySem.W.clsIn K S).isSome && PySem.W.typeIn K (.ref S) == some (.type "type")) = true := by
    have h2' : (PySem.W.clsIn K S).isSome = true := h2
    rw [h2', h3] <;> rfl
  show (if (PySem.W.subIn K (.ref S) (.type "BaseException") == some true) = true then (if ((PySem.W.clsIn K S).isSome && PySem.W.typeIn K (.ref S) == some (.type "type")) = true then PySem.W.subIn K (.ref D) (.ref S) else none) else none) = some true
  rw [if_pos e1, if_pos e2]
  exact h4
/-- what one class of an error shows -/
structure OneE (K : PySem.W.Frag) (SE D : Addr) : Prop where
  exc : ExcC K D
  ve : PySem.W.subIn K (.ref D) (.type "ValueError") = some true
  se : PySem.W.exmOne K (.ref D) (.ref SE) = some true
theorem own15_mk {K : PySem.W.Frag} {C : Nat → Addr} {SE : Addr} {j : Nat} (hj : j < 15) (E : OneE K SE (C j)) (cl : ∀ i < 15, PySem.W.isClsIn K (C i) = true ∧ PySem.W.typeIn K (.ref (C i)) = some (.type "type")) (no : ∀ i < 15, i ≠ j → C j ≠ C i ∧ PySem.W.subIn K (.ref (C j)) (.ref (C i)) = some false) : Own15 K C (C j) j := by
  refine ⟨hj, E.exc, fun i hi => ?_, kit_ve E.ve⟩
  by_cases e : i = j
  · subst e
    rw [kit_same, decide_eq_true rfl]
  · obtain ⟨n1, n2⟩ := no i hi e
    rw [kit_ne n1 (cl i hi).1 (cl i hi).2 n2, decide_eq_false e]
def listC (cs : List Addr) : Nat → Addr := fun i => cs.getD i 0
end RS
set_option Elab.async false
set_option maxRecDepth 100000
set_option maxHeartbeats 8000000
namespace RS
open PySem PySem.Spec PyProof.Rows L2 GX HQ LM
theorem def_at {K : PySem.W.Frag} {h : Heap} {mg : Str → Option Value} {x : Str} {st : Stmt} {f c : Addr} {oc kV doc pm ct : Value} {od an : Option Addr} {osl : Array (Option Value)} (X : K.In h) (G : h.Ns mainGlobals mg) (a : PySem.W.nsIn K mainGlobals x = some (some (.ref f)))
    (l : K.lookup f = some ⟨oc, od, .func (PySem.W.fnOf x x (defArgs st) (defBody st) (defScope st) .none kV doc pm an (.ref c) ct), osl⟩) (e : PySem.W.codeIn K (.ref c) x = true) (k : PySem.W.keepIn K (.ref f) = true) : DefAt K mg x st c :=
  ⟨f, oc, od, kV, doc, pm, an, ct, osl, PySem.W.mg_of X G a, l, e, k⟩
theorem two_in {K : PySem.W.Frag} {a : Addr} {x y : Str} {t u : Tok} {od : Option Addr} {n : Nat} {sl : Array (Option Value)} (h : K.lookup a = some ⟨.type "tuple", od, .seq #[.str x t, .str y u] n, sl⟩) : ∀ H, SqT K H a [.str x, .str y] :=
  fun _ => .inr ⟨_, #[.str x t, .str y u], n, h, rfl, rfl, by show 2 ≤ sizeLine; decide, .cons ⟨t, rfl⟩ (.cons ⟨u, rfl⟩ .nil)⟩
theorem tabB_of {base : Heap} {mg : Str → Option Value} {c P : Addr} (h : LamX.TabB base mg c P) : GxR.TabB base mg c P := ⟨h.code, h.bm, h.gP⟩
theorem tab_in {K : PySem.W.Frag} {x : Str} {st : Stmt} {f c P : Addr} {oc kV doc pm ct e : Value} {od an dd : Option Addr} {osl sl : Array (Option Value)} {vs : Array Value} (a : PySem.W.nsIn K mainGlobals x = some (some (.ref f)))
    (l : K.lookup f = some ⟨oc, od, .func (PySem.W.fnOf x x (defArgs st) (defBody st) (defScope st) .none kV doc pm an (.ref c) ct), osl⟩) (h1 : K.lookup c = some ⟨e, dd, .fields vs, sl⟩) (h2 : vs[11]? = some (.ref P)) : PySem.W.tabIn K x = some (c, P) := by
  unfold PySem.W.tabIn
  rw [a]
  dsimp only
  rw [l]
  show (match K.lookup c with
    | some ⟨_, _, .fields vs, _⟩ => (match (vs[11]? : Option Value) with
      | some (.ref P) => some (c, P)
      | _ => none)
    | _ => none) = some (c, P)
  rw [h1]
  dsimp only
  rw [h2]
theorem all_mk {l : PySem.W.OpenLaw} {w : World} {K : PySem.W.Frag} {h : Heap} {mg : Str → Option Value} {fa pW pR pK pF pG pZ aK aW : Addr} {q : Program} {dW dR dK dF dG dZ : DefRec} {eW eR eK eF eG eZ : Value} {ddW ddR ddK ddF ddG ddZ : Option Addr} {vsW vsR vsK vsF vsG vsZ : Array Value} {stW stR stK stF stG stZ : Array (Option Value)} (tabs : ∀ (y : Str) (d' : DefRec) (c P : Addr), (recsOf q).find? (fun e => e.name == y) = some d' → PySem.W.tabIn K y = some (c, P) → PySem.W.CodeHd h c P ∧ h.get? P = some { cls := .none, data := .fields #[] }) (X : K.In h) (G : h.Ns mainGlobals mg) (hfa : mg "law" = some (.ref fa))
    {f0 c0 : Addr} {oc0 kV0 dc0 pm0 ct0 : Value} {od0 an0 : Option Addr} {sl0 : Array (Option Value)}
    {f1 c1 : Addr} {oc1 kV1 dc1 pm1 ct1 : Value} {od1 an1 : Option Addr} {sl1 : Array (Option Value)}
    {f2 c2 : Addr} {oc2 kV2 dc2 pm2 ct2 : Value} {od2 an2 : Option Addr} {sl2 : Array (Option Value)}
    {f3 c3 : Addr} {oc3 kV3 dc3 pm3 ct3 : Value} {od3 an3 : Option Addr} {sl3 : Array (Option Value)}
    {f4 c4 : Addr} {oc4 kV4 dc4 pm4 ct4 : Value} {od4 an4 : Option Addr} {sl4 : Array (Option Value)}
    {f5 c5 : Addr} {oc5 kV5 dc5 pm5 ct5 : Value} {od5 an5 : Option Addr} {sl5 : Array (Option Value)}
    {f6 c6 : Addr} {oc6 kV6 dc6 pm6 ct6 : Value} {od6 an6 : Option Addr} {sl6 : Array (Option Value)}
    {f7 c7 : Addr} {oc7 kV7 dc7 pm7 ct7 : Value} {od7 an7 : Option Addr} {sl7 : Array (Option Value)}
    {f8 c8 : Addr} {oc8 kV8 dc8 pm8 ct8 : Value} {od8 an8 : Option Addr} {sl8 : Array (Option Value)}
    {f9 c9 : Addr} {oc9 kV9 dc9 pm9 ct9 : Value} {od9 an9 : Option Addr} {sl9 : Array (Option Value)}
    {f10 c10 : Addr} {oc10 kV10 dc10 pm10 ct10 : Value} {od10 an10 : Option Addr} {sl10 : Array (Option Value)}
    {f11 c11 : Addr} {oc11 kV11 dc11 pm11 ct11 : Value} {od11 an11 : Option Addr} {sl11 : Array (Option Value)}
    {f12 c12 : Addr} {oc12 kV12 dc12 pm12 ct12 : Value} {od12 an12 : Option Addr} {sl12 : Array (Option Value)}
    {f13 c13 : Addr} {oc13 kV13 dc13 pm13 ct13 : Value} {od13 an13 : Option Addr} {sl13 : Array (Option Value)}
    {f14 c14 : Addr} {oc14 kV14 dc14 pm14 ct14 : Value} {od14 an14 : Option Addr} {sl14 : Array (Option Value)}
    {f15 c15 : Addr} {oc15 kV15 dc15 pm15 ct15 : Value} {od15 an15 : Option Addr} {sl15 : Array (Option Value)}
    {f16 c16 : Addr} {oc16 kV16 dc16 pm16 ct16 : Value} {od16 an16 : Option Addr} {sl16 : Array (Option Value)}
    {f17 c17 : Addr} {oc17 kV17 dc17 pm17 ct17 : Value} {od17 an17 : Option Addr} {sl17 : Array (Option Value)}
    {f18 c18 : Addr} {oc18 kV18 dc18 pm18 ct18 : Value} {od18 an18 : Option Addr} {sl18 : Array (Option Value)}
    {f19 c19 : Addr} {oc19 kV19 dc19 pm19 ct19 : Value} {od19 an19 : Option Addr} {sl19 : Array (Option Value)}
    {f20 c20 : Addr} {oc20 kV20 dc20 pm20 ct20 : Value} {od20 an20 : Option Addr} {sl20 : Array (Option Value)}
    {f21 c21 : Addr} {oc21 kV21 dc21 pm21 ct21 : Value} {od21 an21 : Option Addr} {sl21 : Array (Option Value)}
    {f22 c22 : Addr} {oc22 kV22 dc22 pm22 ct22 : Value} {od22 an22 : Option Addr} {sl22 : Array (Option Value)}
    {f23 c23 : Addr} {oc23 kV23 dc23 pm23 ct23 : Value} {od23 an23 : Option Addr} {sl23 : Array (Option Value)}
    {f24 c24 : Addr} {oc24 kV24 dc24 pm24 ct24 : Value} {od24 an24 : Option Addr} {sl24 : Array (Option Value)}
    {f25 c25 : Addr} {oc25 kV25 dc25 pm25 ct25 : Value} {od25 an25 : Option Addr} {sl25 : Array (Option Value)}
    {f26 c26 : Addr} {oc26 kV26 dc26 pm26 ct26 : Value} {od26 an26 : Option Addr} {sl26 : Array (Option Value)}
    {f27 c27 : Addr} {oc27 kV27 dc27 pm27 ct27 : Value} {od27 an27 : Option Addr} {sl27 : Array (Option Value)}
    {f28 c28 : Addr} {oc28 kV28 dc28 pm28 ct28 : Value} {od28 an28 : Option Addr} {sl28 : Array (Option Value)}
    {f29 c29 : Addr} {oc29 kV29 dc29 pm29 ct29 : Value} {od29 an29 : Option Addr} {sl29 : Array (Option Value)}
    {f30 c30 : Addr} {oc30 kV30 dc30 pm30 ct30 : Value} {od30 an30 : Option Addr} {sl30 : Array (Option Value)}
    {f31 c31 : Addr} {oc31 kV31 dc31 pm31 ct31 : Value} {od31 an31 : Option Addr} {sl31 : Array (Option Value)}
    {f32 c32 : Addr} {oc32 kV32 dc32 pm32 ct32 : Value} {od32 an32 : Option Addr} {sl32 : Array (Option Value)}
    {f33 c33 : Addr} {oc33 kV33 dc33 pm33 ct33 : Value} {od33 an33 : Option Addr} {sl33 : Array (Option Value)}
    {t1 t2 t3 t4 t5 t6 t7 u1 u2 u3 u4 tx0 tx1 : Tok} {odK : Option Addr} {nK : Nat} {slK : Array (Option Value)} {odW : Option Addr} {nW : Nat} {slW : Array (Option Value)}
    {CExchange : Addr}
    {mfExchange0 : Addr} {mocExchange0 mkVExchange0 mdcExchange0 mpmExchange0 mctExchange0 mcdExchange0 : Value} {modExchange0 manExchange0 : Option Addr} {mslExchange0 : Array (Option Value)}
    {mfExchange1 : Addr} {mocExchange1 mkVExchange1 mdcExchange1 mpmExchange1 mctExchange1 mcdExchange1 : Value} {modExchange1 manExchange1 : Option Addr} {mslExchange1 : Array (Option Value)}
    {mfExchange2 : Addr} {mocExchange2 mkVExchange2 mdcExchange2 mpmExchange2 mctExchange2 mcdExchange2 : Value} {modExchange2 manExchange2 : Option Addr} {mslExchange2 : Array (Option Value)}
    {mfExchange3 : Addr} {mocExchange3 mkVExchange3 mdcExchange3 mpmExchange3 mctExchange3 mcdExchange3 : Value} {modExchange3 manExchange3 : Option Addr} {mslExchange3 : Array (Option Value)}
    {mfExchange4 : Addr} {mocExchange4 mkVExchange4 mdcExchange4 mpmExchange4 mctExchange4 mcdExchange4 : Value} {modExchange4 manExchange4 : Option Addr} {mslExchange4 : Array (Option Value)}
    {mfExchange5 : Addr} {mocExchange5 mkVExchange5 mdcExchange5 mpmExchange5 mctExchange5 mcdExchange5 : Value} {modExchange5 manExchange5 : Option Addr} {mslExchange5 : Array (Option Value)}
    {CSieve : Addr}
    {mfSieve0 : Addr} {mocSieve0 mkVSieve0 mdcSieve0 mpmSieve0 mctSieve0 mcdSieve0 : Value} {modSieve0 manSieve0 : Option Addr} {mslSieve0 : Array (Option Value)}
    {mfSieve1 : Addr} {mocSieve1 mkVSieve1 mdcSieve1 mpmSieve1 mctSieve1 mcdSieve1 : Value} {modSieve1 manSieve1 : Option Addr} {mslSieve1 : Array (Option Value)}
    {CDisk : Addr}
    {mfDisk0 : Addr} {mocDisk0 mkVDisk0 mdcDisk0 mpmDisk0 mctDisk0 mcdDisk0 : Value} {modDisk0 manDisk0 : Option Addr} {mslDisk0 : Array (Option Value)}
    {mfDisk1 : Addr} {mocDisk1 mkVDisk1 mdcDisk1 mpmDisk1 mctDisk1 mcdDisk1 : Value} {modDisk1 manDisk1 : Option Addr} {mslDisk1 : Array (Option Value)}
    {mfDisk2 : Addr} {mocDisk2 mkVDisk2 mdcDisk2 mpmDisk2 mctDisk2 mcdDisk2 : Value} {modDisk2 manDisk2 : Option Addr} {mslDisk2 : Array (Option Value)}
    {CSorter : Addr}
    {mfSorter0 : Addr} {mocSorter0 mkVSorter0 mdcSorter0 mpmSorter0 mctSorter0 mcdSorter0 : Value} {modSorter0 manSorter0 : Option Addr} {mslSorter0 : Array (Option Value)}
    {SE CC0 CC1 CC2 CC3 CC4 CC5 CC6 CC7 CC8 CC9 CC10 CC11 CC12 CC13 CC14 : Addr}
    {enm2 eq2 : Str} {eN2 : Addr} {ebs2 esub2 : List Value} {esn2 : List Str} {eab2 : Bool} {ecol2 : Option Bool} {edd2 : Option Addr} {em02 em12 em22 em32 em52 : Option Value}
    {bf2 : Addr} {boc2 bkV2 bdc2 bpm2 bct2 bcd2 : Value} {bod2 ban2 : Option Addr} {bsl2 : Array (Option Value)}
    (xCExchange : PySem.W.nsIn K mainGlobals "Exchange" = some (some (.ref CExchange)))
    (xpgExchange : PySem.W.plainGet K CExchange Str.empty = true)
    (xhdExchange : PySem.W.hasDictIn K CExchange = true)
    (xpoExchange : PySem.W.plainOver K CExchange = true)
    (xsaExchange : PySem.W.findIn K (.ref CExchange) "__setattr__" = some (some (.builtin "object.__setattr__")))
    (xmkExchange : PySem.W.makesIn K CExchange = true)
    (xkcExchange : PySem.W.keepIn K (.ref CExchange) = true)
    (xnExchange0 : PySem.W.findIn K (.ref CExchange) "order" = some none)
    (xnExchange1 : PySem.W.findIn K (.ref CExchange) "going" = some none)
    (xnExchange2 : PySem.W.findIn K (.ref CExchange) "waiting" = some none)
    (xnExchange3 : PySem.W.findIn K (.ref CExchange) "last" = some none)
    (maExchange0 : PySem.W.findIn K (.ref CExchange) "__init__" = some (some (.ref mfExchange0)))
    (miExchange0 : PySem.W.isFn K (.ref mfExchange0) = true)
    (mlExchange0 : K.lookup mfExchange0 = some ⟨mocExchange0, modExchange0, .func (PySem.W.fnOf "__init__" "Exchange.__init__" (defArgs sXInit) (defBody sXInit) (defScope sXInit) .none mkVExchange0 mdcExchange0 mpmExchange0 manExchange0 mcdExchange0 mctExchange0), mslExchange0⟩)
    (mcExchange0 : PySem.W.codeIn K mcdExchange0 "Exchange.__init__" = true)
    (mkExchange0 : PySem.W.keepIn K (.ref mfExchange0) = true)
    (maExchange1 : PySem.W.findIn K (.ref CExchange) "let_in" = some (some (.ref mfExchange1)))
    (miExchange1 : PySem.W.isFn K (.ref mfExchange1) = true)
    (mlExchange1 : K.lookup mfExchange1 = some ⟨mocExchange1, modExchange1, .func (PySem.W.fnOf "let_in" "Exchange.let_in" (defArgs sLetIn) (defBody sLetIn) (defScope sLetIn) .none mkVExchange1 mdcExchange1 mpmExchange1 manExchange1 mcdExchange1 mctExchange1), mslExchange1⟩)
    (mcExchange1 : PySem.W.codeIn K mcdExchange1 "Exchange.let_in" = true)
    (mkExchange1 : PySem.W.keepIn K (.ref mfExchange1) = true)
    (maExchange2 : PySem.W.findIn K (.ref CExchange) "let_out" = some (some (.ref mfExchange2)))
    (miExchange2 : PySem.W.isFn K (.ref mfExchange2) = true)
    (mlExchange2 : K.lookup mfExchange2 = some ⟨mocExchange2, modExchange2, .func (PySem.W.fnOf "let_out" "Exchange.let_out" (defArgs sLetOut) (defBody sLetOut) (defScope sLetOut) .none mkVExchange2 mdcExchange2 mpmExchange2 manExchange2 mcdExchange2 mctExchange2), mslExchange2⟩)
    (mcExchange2 : PySem.W.codeIn K mcdExchange2 "Exchange.let_out" = true)
    (mkExchange2 : PySem.W.keepIn K (.ref mfExchange2) = true)
    (maExchange3 : PySem.W.findIn K (.ref CExchange) "is_over" = some (some (.ref mfExchange3)))
    (miExchange3 : PySem.W.isFn K (.ref mfExchange3) = true)
    (mlExchange3 : K.lookup mfExchange3 = some ⟨mocExchange3, modExchange3, .func (PySem.W.fnOf "is_over" "Exchange.is_over" (defArgs sIsOver) (defBody sIsOver) (defScope sIsOver) .none mkVExchange3 mdcExchange3 mpmExchange3 manExchange3 mcdExchange3 mctExchange3), mslExchange3⟩)
    (mcExchange3 : PySem.W.codeIn K mcdExchange3 "Exchange.is_over" = true)
    (mkExchange3 : PySem.W.keepIn K (.ref mfExchange3) = true)
    (maExchange4 : PySem.W.findIn K (.ref CExchange) "holds" = some (some (.ref mfExchange4)))
    (miExchange4 : PySem.W.isFn K (.ref mfExchange4) = true)
    (mlExchange4 : K.lookup mfExchange4 = some ⟨mocExchange4, modExchange4, .func (PySem.W.fnOf "holds" "Exchange.holds" (defArgs sHolds) (defBody sHolds) (defScope sHolds) .none mkVExchange4 mdcExchange4 mpmExchange4 manExchange4 mcdExchange4 mctExchange4), mslExchange4⟩)
    (mcExchange4 : PySem.W.codeIn K mcdExchange4 "Exchange.holds" = true)
    (mkExchange4 : PySem.W.keepIn K (.ref mfExchange4) = true)
    (maExchange5 : PySem.W.findIn K (.ref CExchange) "begin_next" = some (some (.ref mfExchange5)))
    (miExchange5 : PySem.W.isFn K (.ref mfExchange5) = true)
    (mlExchange5 : K.lookup mfExchange5 = some ⟨mocExchange5, modExchange5, .func (PySem.W.fnOf "begin_next" "Exchange.begin_next" (defArgs sNext) (defBody sNext) (defScope sNext) .none mkVExchange5 mdcExchange5 mpmExchange5 manExchange5 mcdExchange5 mctExchange5), mslExchange5⟩)
    (mcExchange5 : PySem.W.codeIn K mcdExchange5 "Exchange.begin_next" = true)
    (mkExchange5 : PySem.W.keepIn K (.ref mfExchange5) = true)
    (xCSieve : PySem.W.nsIn K mainGlobals "Sieve" = some (some (.ref CSieve)))
    (xpgSieve : PySem.W.plainGet K CSieve Str.empty = true)
    (xhdSieve : PySem.W.hasDictIn K CSieve = true)
    (xpoSieve : PySem.W.plainOver K CSieve = true)
    (xsaSieve : PySem.W.findIn K (.ref CSieve) "__setattr__" = some (some (.builtin "object.__setattr__")))
    (xmkSieve : PySem.W.makesIn K CSieve = true)
    (xkcSieve : PySem.W.keepIn K (.ref CSieve) = true)
    (xnSieve0 : PySem.W.findIn K (.ref CSieve) "kinds" = some none)
    (xnSieve1 : PySem.W.findIn K (.ref CSieve) "order" = some none)
    (xnSieve2 : PySem.W.findIn K (.ref CSieve) "came" = some none)
    (xnSieve3 : PySem.W.findIn K (.ref CSieve) "queue" = some none)
    (maSieve0 : PySem.W.findIn K (.ref CSieve) "__init__" = some (some (.ref mfSieve0)))
    (miSieve0 : PySem.W.isFn K (.ref mfSieve0) = true)
    (mlSieve0 : K.lookup mfSieve0 = some ⟨mocSieve0, modSieve0, .func (PySem.W.fnOf "__init__" "Sieve.__init__" (defArgs s_Sieve_init) (defBody s_Sieve_init) (defScope s_Sieve_init) .none mkVSieve0 mdcSieve0 mpmSieve0 manSieve0 mcdSieve0 mctSieve0), mslSieve0⟩)
    (mcSieve0 : PySem.W.codeIn K mcdSieve0 "Sieve.__init__" = true)
    (mkSieve0 : PySem.W.keepIn K (.ref mfSieve0) = true)
    (maSieve1 : PySem.W.findIn K (.ref CSieve) "put" = some (some (.ref mfSieve1)))
    (miSieve1 : PySem.W.isFn K (.ref mfSieve1) = true)
    (mlSieve1 : K.lookup mfSieve1 = some ⟨mocSieve1, modSieve1, .func (PySem.W.fnOf "put" "Sieve.put" (defArgs s_Sieve_put) (defBody s_Sieve_put) (defScope s_Sieve_put) .none mkVSieve1 mdcSieve1 mpmSieve1 manSieve1 mcdSieve1 mctSieve1), mslSieve1⟩)
    (mcSieve1 : PySem.W.codeIn K mcdSieve1 "Sieve.put" = true)
    (mkSieve1 : PySem.W.keepIn K (.ref mfSieve1) = true)
    (xCDisk : PySem.W.nsIn K mainGlobals "Disk" = some (some (.ref CDisk)))
    (xpgDisk : PySem.W.plainGet K CDisk Str.empty = true)
    (xhdDisk : PySem.W.hasDictIn K CDisk = true)
    (xpoDisk : PySem.W.plainOver K CDisk = true)
    (xsaDisk : PySem.W.findIn K (.ref CDisk) "__setattr__" = some (some (.builtin "object.__setattr__")))
    (xmkDisk : PySem.W.makesIn K CDisk = true)
    (xkcDisk : PySem.W.keepIn K (.ref CDisk) = true)
    (xnDisk0 : PySem.W.findIn K (.ref CDisk) "certain" = some none)
    (xnDisk1 : PySem.W.findIn K (.ref CDisk) "newest" = some none)
    (xnDisk2 : PySem.W.findIn K (.ref CDisk) "unsettled" = some none)
    (xnDisk3 : PySem.W.findIn K (.ref CDisk) "has_stopped" = some none)
    (xnDisk4 : PySem.W.findIn K (.ref CDisk) "deeds_left" = some none)
    (xnDisk5 : PySem.W.findIn K (.ref CDisk) "picks" = some none)
    (maDisk0 : PySem.W.findIn K (.ref CDisk) "__init__" = some (some (.ref mfDisk0)))
    (miDisk0 : PySem.W.isFn K (.ref mfDisk0) = true)
    (mlDisk0 : K.lookup mfDisk0 = some ⟨mocDisk0, modDisk0, .func (PySem.W.fnOf "__init__" "Disk.__init__" (defArgs s_Disk_init) (defBody s_Disk_init) (defScope s_Disk_init) .none mkVDisk0 mdcDisk0 mpmDisk0 manDisk0 mcdDisk0 mctDisk0), mslDisk0⟩)
    (mcDisk0 : PySem.W.codeIn K mcdDisk0 "Disk.__init__" = true)
    (mkDisk0 : PySem.W.keepIn K (.ref mfDisk0) = true)
    (maDisk1 : PySem.W.findIn K (.ref CDisk) "read" = some (some (.ref mfDisk1)))
    (miDisk1 : PySem.W.isFn K (.ref mfDisk1) = true)
    (mlDisk1 : K.lookup mfDisk1 = some ⟨mocDisk1, modDisk1, .func (PySem.W.fnOf "read" "Disk.read" (defArgs s_Disk_read) (defBody s_Disk_read) (defScope s_Disk_read) .none mkVDisk1 mdcDisk1 mpmDisk1 manDisk1 mcdDisk1 mctDisk1), mslDisk1⟩)
    (mcDisk1 : PySem.W.codeIn K mcdDisk1 "Disk.read" = true)
    (mkDisk1 : PySem.W.keepIn K (.ref mfDisk1) = true)
    (maDisk2 : PySem.W.findIn K (.ref CDisk) "check_runs" = some (some (.ref mfDisk2)))
    (miDisk2 : PySem.W.isFn K (.ref mfDisk2) = true)
    (mlDisk2 : K.lookup mfDisk2 = some ⟨mocDisk2, modDisk2, .func (PySem.W.fnOf "check_runs" "Disk.check_runs" (defArgs s_Disk_check_runs) (defBody s_Disk_check_runs) (defScope s_Disk_check_runs) .none mkVDisk2 mdcDisk2 mpmDisk2 manDisk2 mcdDisk2 mctDisk2), mslDisk2⟩)
    (mcDisk2 : PySem.W.codeIn K mcdDisk2 "Disk.check_runs" = true)
    (mkDisk2 : PySem.W.keepIn K (.ref mfDisk2) = true)
    (xCSorter : PySem.W.nsIn K mainGlobals "Sorter" = some (some (.ref CSorter)))
    (xpgSorter : PySem.W.plainGet K CSorter Str.empty = true)
    (xhdSorter : PySem.W.hasDictIn K CSorter = true)
    (xpoSorter : PySem.W.plainOver K CSorter = true)
    (xsaSorter : PySem.W.findIn K (.ref CSorter) "__setattr__" = some (some (.builtin "object.__setattr__")))
    (xmkSorter : PySem.W.makesIn K CSorter = true)
    (xkcSorter : PySem.W.keepIn K (.ref CSorter) = true)
    (maSorter0 : PySem.W.findIn K (.ref CSorter) "__init__" = some (some (.ref mfSorter0)))
    (miSorter0 : PySem.W.isFn K (.ref mfSorter0) = true)
    (mlSorter0 : K.lookup mfSorter0 = some ⟨mocSorter0, modSorter0, .func (PySem.W.fnOf "__init__" "Sorter.__init__" (defArgs s_Sorter_init) (defBody s_Sorter_init) (defScope s_Sorter_init) .none mkVSorter0 mdcSorter0 mpmSorter0 manSorter0 mcdSorter0 mctSorter0), mslSorter0⟩)
    (mcSorter0 : PySem.W.codeIn K mcdSorter0 "Sorter.__init__" = true)
    (mkSorter0 : PySem.W.keepIn K (.ref mfSorter0) = true)
    (sg : PySem.W.nsIn K mainGlobals "SortError" = some (some (.ref SE)))
    (scl : PySem.W.isClsIn K SE = true)
    (sty : PySem.W.typeIn K (.ref SE) = some (.type "type"))
    (sbe : PySem.W.subIn K (.ref SE) (.type "BaseException") = some true)
    (srd : PySem.W.readsIn K SE (.type "type") = true)
    (sga : PySem.W.specialIn K (.ref SE) "__getattribute__" = some (some (.builtin "type.__getattribute__")))
    (sfi : PySem.W.findCls K (.ref SE) (.type "type") "__init__" = some (.val (.builtin "ValueError.__init__")))
    (ohn : PySem.W.specialIn K (.builtin "object.__class__") "__get__" = some (some (.builtin "getset_descriptor.__get__")))
    (oht : PySem.W.takesIn K (.builtin "object.__class__") = some true)
    (cg0 : PySem.W.nsIn K mainGlobals "BadKinds" = some (some (.ref CC0)))
    (cc0 : PySem.W.isClsIn K CC0 = true)
    (cy0 : PySem.W.typeIn K (.ref CC0) = some (.type "type"))
    (cg1 : PySem.W.nsIn K mainGlobals "BadOrder" = some (some (.ref CC1)))
    (cc1 : PySem.W.isClsIn K CC1 = true)
    (cy1 : PySem.W.typeIn K (.ref CC1) = some (.type "type"))
    (cg2 : PySem.W.nsIn K mainGlobals "BadRows" = some (some (.ref CC2)))
    (cc2 : PySem.W.isClsIn K CC2 = true)
    (cy2 : PySem.W.typeIn K (.ref CC2) = some (.type "type"))
    (cg3 : PySem.W.nsIn K mainGlobals "BadRuns" = some (some (.ref CC3)))
    (cc3 : PySem.W.isClsIn K CC3 = true)
    (cy3 : PySem.W.typeIn K (.ref CC3) = some (.type "type"))
    (cg4 : PySem.W.nsIn K mainGlobals "BadRoom" = some (some (.ref CC4)))
    (cc4 : PySem.W.isClsIn K CC4 = true)
    (cy4 : PySem.W.typeIn K (.ref CC4) = some (.type "type"))
    (cg5 : PySem.W.nsIn K mainGlobals "BadLengths" = some (some (.ref CC5)))
    (cc5 : PySem.W.isClsIn K CC5 = true)
    (cy5 : PySem.W.typeIn K (.ref CC5) = some (.type "type"))
    (cg6 : PySem.W.nsIn K mainGlobals "BadPlan" = some (some (.ref CC6)))
    (cc6 : PySem.W.isClsIn K CC6 = true)
    (cy6 : PySem.W.typeIn K (.ref CC6) = some (.type "type"))
    (cg7 : PySem.W.nsIn K mainGlobals "BadPaper" = some (some (.ref CC7)))
    (cc7 : PySem.W.isClsIn K CC7 = true)
    (cy7 : PySem.W.typeIn K (.ref CC7) = some (.type "type"))
    (cg8 : PySem.W.nsIn K mainGlobals "BadCount" = some (some (.ref CC8)))
    (cc8 : PySem.W.isClsIn K CC8 = true)
    (cy8 : PySem.W.typeIn K (.ref CC8) = some (.type "type"))
    (cg9 : PySem.W.nsIn K mainGlobals "BadBlock" = some (some (.ref CC9)))
    (cc9 : PySem.W.isClsIn K CC9 = true)
    (cy9 : PySem.W.typeIn K (.ref CC9) = some (.type "type"))
    (cg10 : PySem.W.nsIn K mainGlobals "Stopped" = some (some (.ref CC10)))
    (cc10 : PySem.W.isClsIn K CC10 = true)
    (cy10 : PySem.W.typeIn K (.ref CC10) = some (.type "type"))
    (cg11 : PySem.W.nsIn K mainGlobals "Shut" = some (some (.ref CC11)))
    (cc11 : PySem.W.isClsIn K CC11 = true)
    (cy11 : PySem.W.typeIn K (.ref CC11) = some (.type "type"))
    (cg12 : PySem.W.nsIn K mainGlobals "NotYet" = some (some (.ref CC12)))
    (cc12 : PySem.W.isClsIn K CC12 = true)
    (cy12 : PySem.W.typeIn K (.ref CC12) = some (.type "type"))
    (cg13 : PySem.W.nsIn K mainGlobals "Empty" = some (some (.ref CC13)))
    (cc13 : PySem.W.isClsIn K CC13 = true)
    (cy13 : PySem.W.typeIn K (.ref CC13) = some (.type "type"))
    (cg14 : PySem.W.nsIn K mainGlobals "BadText" = some (some (.ref CC14)))
    (cc14 : PySem.W.isClsIn K CC14 = true)
    (cy14 : PySem.W.typeIn K (.ref CC14) = some (.type "type"))
    (hg0 : PySem.W.findIn K (.ref CC0) "__getattribute__" = some (some (.builtin "BaseException.__getattribute__")))
    (hk0 : PySem.W.findIn K (.ref CC0) "__getattr__" = some none)
    (hs0 : PySem.W.subIn K (.ref CC0) (.type "BaseException") = some true)
    (hd0 : PySem.W.hasDictIn K CC0 = true)
    (ha0 : PySem.W.findIn K (.ref CC0) "__class__" = some (some (.builtin "object.__class__")))
    (hm0 : PySem.W.mroIn K CC0 (.type "object") = some true)
    (hv0 : PySem.W.subIn K (.ref CC0) (.type "ValueError") = some true)
    (hS0 : PySem.W.subIn K (.ref CC0) (.ref SE) = some true)
    (kc0 : PySem.W.keepIn K (.ref CC0) = true)
    (no0_1 : PySem.W.subIn K (.ref CC0) (.ref CC1) = some false)
    (ne0_1 : CC0 ≠ CC1)
    (no0_2 : PySem.W.subIn K (.ref CC0) (.ref CC2) = some false)
    (ne0_2 : CC0 ≠ CC2)
    (no0_3 : PySem.W.subIn K (.ref CC0) (.ref CC3) = some false)
    (ne0_3 : CC0 ≠ CC3)
    (no0_4 : PySem.W.subIn K (.ref CC0) (.ref CC4) = some false)
    (ne0_4 : CC0 ≠ CC4)
    (no0_5 : PySem.W.subIn K (.ref CC0) (.ref CC5) = some false)
    (ne0_5 : CC0 ≠ CC5)
    (no0_6 : PySem.W.subIn K (.ref CC0) (.ref CC6) = some false)
    (ne0_6 : CC0 ≠ CC6)
    (no0_7 : PySem.W.subIn K (.ref CC0) (.ref CC7) = some false)
    (ne0_7 : CC0 ≠ CC7)
    (no0_8 : PySem.W.subIn K (.ref CC0) (.ref CC8) = some false)
    (ne0_8 : CC0 ≠ CC8)
    (no0_9 : PySem.W.subIn K (.ref CC0) (.ref CC9) = some false)
    (ne0_9 : CC0 ≠ CC9)
    (no0_10 : PySem.W.subIn K (.ref CC0) (.ref CC10) = some false)
    (ne0_10 : CC0 ≠ CC10)
    (no0_11 : PySem.W.subIn K (.ref CC0) (.ref CC11) = some false)
    (ne0_11 : CC0 ≠ CC11)
    (no0_12 : PySem.W.subIn K (.ref CC0) (.ref CC12) = some false)
    (ne0_12 : CC0 ≠ CC12)
    (no0_13 : PySem.W.subIn K (.ref CC0) (.ref CC13) = some false)
    (ne0_13 : CC0 ≠ CC13)
    (no0_14 : PySem.W.subIn K (.ref CC0) (.ref CC14) = some false)
    (ne0_14 : CC0 ≠ CC14)
    (hg1 : PySem.W.findIn K (.ref CC1) "__getattribute__" = some (some (.builtin "BaseException.__getattribute__")))
    (hk1 : PySem.W.findIn K (.ref CC1) "__getattr__" = some none)
    (hs1 : PySem.W.subIn K (.ref CC1) (.type "BaseException") = some true)
    (hd1 : PySem.W.hasDictIn K CC1 = true)
    (ha1 : PySem.W.findIn K (.ref CC1) "__class__" = some (some (.builtin "object.__class__")))
    (hm1 : PySem.W.mroIn K CC1 (.type "object") = some true)
    (hv1 : PySem.W.subIn K (.ref CC1) (.type "ValueError") = some true)
    (hS1 : PySem.W.subIn K (.ref CC1) (.ref SE) = some true)
    (kc1 : PySem.W.keepIn K (.ref CC1) = true)
    (no1_0 : PySem.W.subIn K (.ref CC1) (.ref CC0) = some false)
    (ne1_0 : CC1 ≠ CC0)
    (no1_2 : PySem.W.subIn K (.ref CC1) (.ref CC2) = some false)
    (ne1_2 : CC1 ≠ CC2)
    (no1_3 : PySem.W.subIn K (.ref CC1) (.ref CC3) = some false)
    (ne1_3 : CC1 ≠ CC3)
    (no1_4 : PySem.W.subIn K (.ref CC1) (.ref CC4) = some false)
    (ne1_4 : CC1 ≠ CC4)
    (no1_5 : PySem.W.subIn K (.ref CC1) (.ref CC5) = some false)
    (ne1_5 : CC1 ≠ CC5)
    (no1_6 : PySem.W.subIn K (.ref CC1) (.ref CC6) = some false)
    (ne1_6 : CC1 ≠ CC6)
    (no1_7 : PySem.W.subIn K (.ref CC1) (.ref CC7) = some false)
    (ne1_7 : CC1 ≠ CC7)
    (no1_8 : PySem.W.subIn K (.ref CC1) (.ref CC8) = some false)
    (ne1_8 : CC1 ≠ CC8)
    (no1_9 : PySem.W.subIn K (.ref CC1) (.ref CC9) = some false)
    (ne1_9 : CC1 ≠ CC9)
    (no1_10 : PySem.W.subIn K (.ref CC1) (.ref CC10) = some false)
    (ne1_10 : CC1 ≠ CC10)
    (no1_11 : PySem.W.subIn K (.ref CC1) (.ref CC11) = some false)
    (ne1_11 : CC1 ≠ CC11)
    (no1_12 : PySem.W.subIn K (.ref CC1) (.ref CC12) = some false)
    (ne1_12 : CC1 ≠ CC12)
    (no1_13 : PySem.W.subIn K (.ref CC1) (.ref CC13) = some false)
    (ne1_13 : CC1 ≠ CC13)
    (no1_14 : PySem.W.subIn K (.ref CC1) (.ref CC14) = some false)
    (ne1_14 : CC1 ≠ CC14)
    (hg2 : PySem.W.findIn K (.ref CC2) "__getattribute__" = some (some (.builtin "BaseException.__getattribute__")))
    (hk2 : PySem.W.findIn K (.ref CC2) "__getattr__" = some none)
    (hs2 : PySem.W.subIn K (.ref CC2) (.type "BaseException") = some true)
    (hd2 : PySem.W.hasDictIn K CC2 = true)
    (ha2 : PySem.W.findIn K (.ref CC2) "__class__" = some (some (.builtin "object.__class__")))
    (hm2 : PySem.W.mroIn K CC2 (.type "object") = some true)
    (hv2 : PySem.W.subIn K (.ref CC2) (.type "ValueError") = some true)
    (hS2 : PySem.W.subIn K (.ref CC2) (.ref SE) = some true)
    (kc2 : PySem.W.keepIn K (.ref CC2) = true)
    (no2_0 : PySem.W.subIn K (.ref CC2) (.ref CC0) = some false)
    (ne2_0 : CC2 ≠ CC0)
    (no2_1 : PySem.W.subIn K (.ref CC2) (.ref CC1) = some false)
    (ne2_1 : CC2 ≠ CC1)
    (no2_3 : PySem.W.subIn K (.ref CC2) (.ref CC3) = some false)
    (ne2_3 : CC2 ≠ CC3)
    (no2_4 : PySem.W.subIn K (.ref CC2) (.ref CC4) = some false)
    (ne2_4 : CC2 ≠ CC4)
    (no2_5 : PySem.W.subIn K (.ref CC2) (.ref CC5) = some false)
    (ne2_5 : CC2 ≠ CC5)
    (no2_6 : PySem.W.subIn K (.ref CC2) (.ref CC6) = some false)
    (ne2_6 : CC2 ≠ CC6)
    (no2_7 : PySem.W.subIn K (.ref CC2) (.ref CC7) = some false)
    (ne2_7 : CC2 ≠ CC7)
    (no2_8 : PySem.W.subIn K (.ref CC2) (.ref CC8) = some false)
    (ne2_8 : CC2 ≠ CC8)
    (no2_9 : PySem.W.subIn K (.ref CC2) (.ref CC9) = some false)
    (ne2_9 : CC2 ≠ CC9)
    (no2_10 : PySem.W.subIn K (.ref CC2) (.ref CC10) = some false)
    (ne2_10 : CC2 ≠ CC10)
    (no2_11 : PySem.W.subIn K (.ref CC2) (.ref CC11) = some false)
    (ne2_11 : CC2 ≠ CC11)
    (no2_12 : PySem.W.subIn K (.ref CC2) (.ref CC12) = some false)
    (ne2_12 : CC2 ≠ CC12)
    (no2_13 : PySem.W.subIn K (.ref CC2) (.ref CC13) = some false)
    (ne2_13 : CC2 ≠ CC13)
    (no2_14 : PySem.W.subIn K (.ref CC2) (.ref CC14) = some false)
    (ne2_14 : CC2 ≠ CC14)
    (hg4 : PySem.W.findIn K (.ref CC4) "__getattribute__" = some (some (.builtin "BaseException.__getattribute__")))
    (hk4 : PySem.W.findIn K (.ref CC4) "__getattr__" = some none)
    (hs4 : PySem.W.subIn K (.ref CC4) (.type "BaseException") = some true)
    (hd4 : PySem.W.hasDictIn K CC4 = true)
    (ha4 : PySem.W.findIn K (.ref CC4) "__class__" = some (some (.builtin "object.__class__")))
    (hm4 : PySem.W.mroIn K CC4 (.type "object") = some true)
    (hv4 : PySem.W.subIn K (.ref CC4) (.type "ValueError") = some true)
    (hS4 : PySem.W.subIn K (.ref CC4) (.ref SE) = some true)
    (kc4 : PySem.W.keepIn K (.ref CC4) = true)
    (no4_0 : PySem.W.subIn K (.ref CC4) (.ref CC0) = some false)
    (ne4_0 : CC4 ≠ CC0)
    (no4_1 : PySem.W.subIn K (.ref CC4) (.ref CC1) = some false)
    (ne4_1 : CC4 ≠ CC1)
    (no4_2 : PySem.W.subIn K (.ref CC4) (.ref CC2) = some false)
    (ne4_2 : CC4 ≠ CC2)
    (no4_3 : PySem.W.subIn K (.ref CC4) (.ref CC3) = some false)
    (ne4_3 : CC4 ≠ CC3)
    (no4_5 : PySem.W.subIn K (.ref CC4) (.ref CC5) = some false)
    (ne4_5 : CC4 ≠ CC5)
    (no4_6 : PySem.W.subIn K (.ref CC4) (.ref CC6) = some false)
    (ne4_6 : CC4 ≠ CC6)
    (no4_7 : PySem.W.subIn K (.ref CC4) (.ref CC7) = some false)
    (ne4_7 : CC4 ≠ CC7)
    (no4_8 : PySem.W.subIn K (.ref CC4) (.ref CC8) = some false)
    (ne4_8 : CC4 ≠ CC8)
    (no4_9 : PySem.W.subIn K (.ref CC4) (.ref CC9) = some false)
    (ne4_9 : CC4 ≠ CC9)
    (no4_10 : PySem.W.subIn K (.ref CC4) (.ref CC10) = some false)
    (ne4_10 : CC4 ≠ CC10)
    (no4_11 : PySem.W.subIn K (.ref CC4) (.ref CC11) = some false)
    (ne4_11 : CC4 ≠ CC11)
    (no4_12 : PySem.W.subIn K (.ref CC4) (.ref CC12) = some false)
    (ne4_12 : CC4 ≠ CC12)
    (no4_13 : PySem.W.subIn K (.ref CC4) (.ref CC13) = some false)
    (ne4_13 : CC4 ≠ CC13)
    (no4_14 : PySem.W.subIn K (.ref CC4) (.ref CC14) = some false)
    (ne4_14 : CC4 ≠ CC14)
    (xl2 : K.lookup CC2 = some (excClassObj enm2 eq2 CC2 eN2 ebs2 [.ref SE, .type "ValueError", .type "Exception", .type "BaseException", .type "object"] true esn2 esub2 eab2 ecol2 edd2 em02 em12 em22 em32 em52 "ValueError.__new__"))
    (sa2 : PySem.W.findIn K (.ref CC2) "__setattr__" = some (some (.builtin "object.__setattr__")))
    (bi2 : PySem.W.findIn K (.ref CC2) "__init__" = some (some (.ref bf2)))
    (bt2 : PySem.W.typeIn K (.ref bf2) = some (.type "function"))
    (bl2 : K.lookup bf2 = some ⟨boc2, bod2, .func (PySem.W.fnOf "__init__" "BadRows.__init__" (defArgs s_BadRows_init) (defBody s_BadRows_init) (defScope s_BadRows_init) .none bkV2 bdc2 bpm2 ban2 bcd2 bct2), bsl2⟩)
    (bc2 : PySem.W.codeIn K bcd2 "BadRows.__init__" = true)
    (bk2 : PySem.W.keepIn K (.ref bf2) = true)
    (bp2 : PySem.W.findIn K (.ref CC2) "place" = some none)
    (xE0 : PySem.W.excIn K CC0 [.type "ValueError", .type "Exception", .type "BaseException", .type "object"] "ValueError.__new__" = true)
    (xE1 : PySem.W.excIn K CC1 [.type "ValueError", .type "Exception", .type "BaseException", .type "object"] "ValueError.__new__" = true)
    (xE4 : PySem.W.excIn K CC4 [.type "ValueError", .type "Exception", .type "BaseException", .type "object"] "ValueError.__new__" = true)
    (a0 : PySem.W.nsIn K mainGlobals "is_number" = some (some (.ref f0))) (l0 : K.lookup f0 = some ⟨oc0, od0, .func (PySem.W.fnOf "is_number" "is_number" (defArgs sIsNumber) (defBody sIsNumber) (defScope sIsNumber) .none kV0 dc0 pm0 an0 (.ref c0) ct0), sl0⟩) (e0 : PySem.W.codeIn K (.ref c0) "is_number" = true) (k0 : PySem.W.keepIn K (.ref f0) = true)
    (a1 : PySem.W.nsIn K mainGlobals "is_word" = some (some (.ref f1))) (l1 : K.lookup f1 = some ⟨oc1, od1, .func (PySem.W.fnOf "is_word" "is_word" (defArgs sIsWord) (defBody sIsWord) (defScope sIsWord) .none kV1 dc1 pm1 an1 (.ref c1) ct1), sl1⟩) (e1 : PySem.W.codeIn K (.ref c1) "is_word" = true) (k1 : PySem.W.keepIn K (.ref f1) = true)
    (a2 : PySem.W.nsIn K mainGlobals "is_value" = some (some (.ref f2))) (l2 : K.lookup f2 = some ⟨oc2, od2, .func (PySem.W.fnOf "is_value" "is_value" (defArgs sIsValue) (defBody sIsValue) (defScope sIsValue) .none kV2 dc2 pm2 an2 (.ref c2) ct2), sl2⟩) (e2 : PySem.W.codeIn K (.ref c2) "is_value" = true) (k2 : PySem.W.keepIn K (.ref f2) = true)
    (a3 : PySem.W.nsIn K mainGlobals "is_row" = some (some (.ref f3))) (l3 : K.lookup f3 = some ⟨oc3, od3, .func (PySem.W.fnOf "is_row" "is_row" (defArgs sIsRow) (defBody sIsRow) (defScope sIsRow) .none kV3 dc3 pm3 an3 (.ref c3) ct3), sl3⟩) (e3 : PySem.W.codeIn K (.ref c3) "is_row" = true) (k3 : PySem.W.keepIn K (.ref f3) = true)
    (a4 : PySem.W.nsIn K mainGlobals "is_part" = some (some (.ref f4))) (l4 : K.lookup f4 = some ⟨oc4, od4, .func (PySem.W.fnOf "is_part" "is_part" (defArgs sIsPart) (defBody sIsPart) (defScope sIsPart) .none kV4 dc4 pm4 an4 (.ref c4) ct4), sl4⟩) (e4 : PySem.W.codeIn K (.ref c4) "is_part" = true) (k4 : PySem.W.keepIn K (.ref f4) = true)
    (a5 : PySem.W.nsIn K mainGlobals "check_kinds" = some (some (.ref f5))) (l5 : K.lookup f5 = some ⟨oc5, od5, .func (PySem.W.fnOf "check_kinds" "check_kinds" (defArgs sCheckKinds) (defBody sCheckKinds) (defScope sCheckKinds) .none kV5 dc5 pm5 an5 (.ref c5) ct5), sl5⟩) (e5 : PySem.W.codeIn K (.ref c5) "check_kinds" = true) (k5 : PySem.W.keepIn K (.ref f5) = true)
    (a6 : PySem.W.nsIn K mainGlobals "check_order" = some (some (.ref f6))) (l6 : K.lookup f6 = some ⟨oc6, od6, .func (PySem.W.fnOf "check_order" "check_order" (defArgs sCheckOrder) (defBody sCheckOrder) (defScope sCheckOrder) .none kV6 dc6 pm6 an6 (.ref c6) ct6), sl6⟩) (e6 : PySem.W.codeIn K (.ref c6) "check_order" = true) (k6 : PySem.W.keepIn K (.ref f6) = true)
    (a7 : PySem.W.nsIn K mainGlobals "check_rows" = some (some (.ref f7))) (l7 : K.lookup f7 = some ⟨oc7, od7, .func (PySem.W.fnOf "check_rows" "check_rows" (defArgs sCheckRows) (defBody sCheckRows) (defScope sCheckRows) .none kV7 dc7 pm7 an7 (.ref c7) ct7), sl7⟩) (e7 : PySem.W.codeIn K (.ref c7) "check_rows" = true) (k7 : PySem.W.keepIn K (.ref f7) = true)
    (a8 : PySem.W.nsIn K mainGlobals "worths" = some (some (.ref f8))) (l8 : K.lookup f8 = some ⟨oc8, od8, .func (PySem.W.fnOf "worths" "worths" (defArgs sWorths) (defBody sWorths) (defScope sWorths) .none kV8 dc8 pm8 an8 (.ref c8) ct8), sl8⟩) (e8 : PySem.W.codeIn K (.ref c8) "worths" = true) (k8 : PySem.W.keepIn K (.ref f8) = true)
    (a9 : PySem.W.nsIn K mainGlobals "rank" = some (some (.ref f9))) (l9 : K.lookup f9 = some ⟨oc9, od9, .func (PySem.W.fnOf "rank" "rank" (defArgs sRank) (defBody sRank) (defScope sRank) .none kV9 dc9 pm9 an9 (.ref c9) ct9), sl9⟩) (e9 : PySem.W.codeIn K (.ref c9) "rank" = true) (k9 : PySem.W.keepIn K (.ref f9) = true)
    (a10 : PySem.W.nsIn K mainGlobals "check_size" = some (some (.ref f10))) (l10 : K.lookup f10 = some ⟨oc10, od10, .func (PySem.W.fnOf "check_size" "check_size" (defArgs sCheckSize) (defBody sCheckSize) (defScope sCheckSize) .none kV10 dc10 pm10 an10 (.ref c10) ct10), sl10⟩) (e10 : PySem.W.codeIn K (.ref c10) "check_size" = true) (k10 : PySem.W.keepIn K (.ref f10) = true)
    (a11 : PySem.W.nsIn K mainGlobals "numbered" = some (some (.ref f11))) (l11 : K.lookup f11 = some ⟨oc11, od11, .func (PySem.W.fnOf "numbered" "numbered" (defArgs sNumbered) (defBody sNumbered) (defScope sNumbered) .none kV11 dc11 pm11 an11 (.ref c11) ct11), sl11⟩) (e11 : PySem.W.codeIn K (.ref c11) "numbered" = true) (k11 : PySem.W.keepIn K (.ref f11) = true)
    (a12 : PySem.W.nsIn K mainGlobals "filled" = some (some (.ref f12))) (l12 : K.lookup f12 = some ⟨oc12, od12, .func (PySem.W.fnOf "filled" "filled" (defArgs sFilled) (defBody sFilled) (defScope sFilled) .none kV12 dc12 pm12 an12 (.ref c12) ct12), sl12⟩) (e12 : PySem.W.codeIn K (.ref c12) "filled" = true) (k12 : PySem.W.keepIn K (.ref f12) = true)
    (a13 : PySem.W.nsIn K mainGlobals "exchanged" = some (some (.ref f13))) (l13 : K.lookup f13 = some ⟨oc13, od13, .func (PySem.W.fnOf "exchanged" "exchanged" (defArgs sExchanged) (defBody sExchanged) (defScope sExchanged) .none kV13 dc13 pm13 an13 (.ref c13) ct13), sl13⟩) (e13 : PySem.W.codeIn K (.ref c13) "exchanged" = true) (k13 : PySem.W.keepIn K (.ref f13) = true)
    (a14 : PySem.W.nsIn K mainGlobals "check_block" = some (some (.ref f14))) (l14 : K.lookup f14 = some ⟨oc14, od14, .func (PySem.W.fnOf "check_block" "check_block" (defArgs s_check_block) (defBody s_check_block) (defScope s_check_block) .none kV14 dc14 pm14 an14 (.ref c14) ct14), sl14⟩) (e14 : PySem.W.codeIn K (.ref c14) "check_block" = true) (k14 : PySem.W.keepIn K (.ref f14) = true)
    (a15 : PySem.W.nsIn K mainGlobals "merged" = some (some (.ref f15))) (l15 : K.lookup f15 = some ⟨oc15, od15, .func (PySem.W.fnOf "merged" "merged" (defArgs s_merged) (defBody s_merged) (defScope s_merged) .none kV15 dc15 pm15 an15 (.ref c15) ct15), sl15⟩) (e15 : PySem.W.codeIn K (.ref c15) "merged" = true) (k15 : PySem.W.keepIn K (.ref f15) = true)
    (a16 : PySem.W.nsIn K mainGlobals "written_order" = some (some (.ref f16))) (l16 : K.lookup f16 = some ⟨oc16, od16, .func (PySem.W.fnOf "written_order" "written_order" (defArgs s_written_order) (defBody s_written_order) (defScope s_written_order) .none kV16 dc16 pm16 an16 (.ref c16) ct16), sl16⟩) (e16 : PySem.W.codeIn K (.ref c16) "written_order" = true) (k16 : PySem.W.keepIn K (.ref f16) = true)
    (a17 : PySem.W.nsIn K mainGlobals "read_order" = some (some (.ref f17))) (l17 : K.lookup f17 = some ⟨oc17, od17, .func (PySem.W.fnOf "read_order" "read_order" (defArgs s_read_order) (defBody s_read_order) (defScope s_read_order) .none kV17 dc17 pm17 an17 (.ref c17) ct17), sl17⟩) (e17 : PySem.W.codeIn K (.ref c17) "read_order" = true) (k17 : PySem.W.keepIn K (.ref f17) = true)
    (a18 : PySem.W.nsIn K mainGlobals "_law_begun" = some (some (.ref f18))) (l18 : K.lookup f18 = some ⟨oc18, od18, .func (PySem.W.fnOf "_law_begun" "_law_begun" (defArgs sBegun) (defBody sBegun) (defScope sBegun) .none kV18 dc18 pm18 an18 (.ref c18) ct18), sl18⟩) (e18 : PySem.W.codeIn K (.ref c18) "_law_begun" = true) (k18 : PySem.W.keepIn K (.ref f18) = true)
    (a19 : PySem.W.nsIn K mainGlobals "_law_take" = some (some (.ref f19))) (l19 : K.lookup f19 = some ⟨oc19, od19, .func (PySem.W.fnOf "_law_take" "_law_take" (defArgs sTake) (defBody sTake) (defScope sTake) .none kV19 dc19 pm19 an19 (.ref c19) ct19), sl19⟩) (e19 : PySem.W.codeIn K (.ref c19) "_law_take" = true) (k19 : PySem.W.keepIn K (.ref f19) = true)
    (a20 : PySem.W.nsIn K mainGlobals "_law_alike" = some (some (.ref f20))) (l20 : K.lookup f20 = some ⟨oc20, od20, .func (PySem.W.fnOf "_law_alike" "_law_alike" (defArgs sAlike) (defBody sAlike) (defScope sAlike) .none kV20 dc20 pm20 an20 (.ref c20) ct20), sl20⟩) (e20 : PySem.W.codeIn K (.ref c20) "_law_alike" = true) (k20 : PySem.W.keepIn K (.ref f20) = true)
    (a21 : PySem.W.nsIn K mainGlobals "_law_class" = some (some (.ref f21))) (l21 : K.lookup f21 = some ⟨oc21, od21, .func (PySem.W.fnOf "_law_class" "_law_class" (defArgs sClass) (defBody sClass) (defScope sClass) .none kV21 dc21 pm21 an21 (.ref c21) ct21), sl21⟩) (e21 : PySem.W.codeIn K (.ref c21) "_law_class" = true) (k21 : PySem.W.keepIn K (.ref f21) = true)
    (a22 : PySem.W.nsIn K mainGlobals "_law_told" = some (some (.ref f22))) (l22 : K.lookup f22 = some ⟨oc22, od22, .func (PySem.W.fnOf "_law_told" "_law_told" (defArgs sTold) (defBody sTold) (defScope sTold) .none kV22 dc22 pm22 an22 (.ref c22) ct22), sl22⟩) (e22 : PySem.W.codeIn K (.ref c22) "_law_told" = true) (k22 : PySem.W.keepIn K (.ref f22) = true)
    (a23 : PySem.W.nsIn K mainGlobals "_law_all" = some (some (.ref f23))) (l23 : K.lookup f23 = some ⟨oc23, od23, .func (PySem.W.fnOf "_law_all" "_law_all" (defArgs sAll) (defBody sAll) (defScope sAll) .none kV23 dc23 pm23 an23 (.ref c23) ct23), sl23⟩) (e23 : PySem.W.codeIn K (.ref c23) "_law_all" = true) (k23 : PySem.W.keepIn K (.ref f23) = true)
    (a24 : PySem.W.nsIn K mainGlobals "_law_kinds" = some (some (.ref f24))) (l24 : K.lookup f24 = some ⟨oc24, od24, .func (PySem.W.fnOf "_law_kinds" "_law_kinds" (defArgs sKinds) (defBody sKinds) (defScope sKinds) .none kV24 dc24 pm24 an24 (.ref c24) ct24), sl24⟩) (e24 : PySem.W.codeIn K (.ref c24) "_law_kinds" = true) (k24 : PySem.W.keepIn K (.ref f24) = true)
    (a25 : PySem.W.nsIn K mainGlobals "_law_order" = some (some (.ref f25))) (l25 : K.lookup f25 = some ⟨oc25, od25, .func (PySem.W.fnOf "_law_order" "_law_order" (defArgs sOrder) (defBody sOrder) (defScope sOrder) .none kV25 dc25 pm25 an25 (.ref c25) ct25), sl25⟩) (e25 : PySem.W.codeIn K (.ref c25) "_law_order" = true) (k25 : PySem.W.keepIn K (.ref f25) = true)
    (a26 : PySem.W.nsIn K mainGlobals "_law_value" = some (some (.ref f26))) (l26 : K.lookup f26 = some ⟨oc26, od26, .func (PySem.W.fnOf "_law_value" "_law_value" (defArgs sValue) (defBody sValue) (defScope sValue) .none kV26 dc26 pm26 an26 (.ref c26) ct26), sl26⟩) (e26 : PySem.W.codeIn K (.ref c26) "_law_value" = true) (k26 : PySem.W.keepIn K (.ref f26) = true)
    (a27 : PySem.W.nsIn K mainGlobals "_law_rows" = some (some (.ref f27))) (l27 : K.lookup f27 = some ⟨oc27, od27, .func (PySem.W.fnOf "_law_rows" "_law_rows" (defArgs sRows) (defBody sRows) (defScope sRows) .none kV27 dc27 pm27 an27 (.ref c27) ct27), sl27⟩) (e27 : PySem.W.codeIn K (.ref c27) "_law_rows" = true) (k27 : PySem.W.keepIn K (.ref f27) = true)
    (a28 : PySem.W.nsIn K mainGlobals "_law_bad_row" = some (some (.ref f28))) (l28 : K.lookup f28 = some ⟨oc28, od28, .func (PySem.W.fnOf "_law_bad_row" "_law_bad_row" (defArgs sBadRow) (defBody sBadRow) (defScope sBadRow) .none kV28 dc28 pm28 an28 (.ref c28) ct28), sl28⟩) (e28 : PySem.W.codeIn K (.ref c28) "_law_bad_row" = true) (k28 : PySem.W.keepIn K (.ref f28) = true)
    (a29 : PySem.W.nsIn K mainGlobals "_law_bad_rows" = some (some (.ref f29))) (l29 : K.lookup f29 = some ⟨oc29, od29, .func (PySem.W.fnOf "_law_bad_rows" "_law_bad_rows" (defArgs s__law_bad_rows) (defBody s__law_bad_rows) (defScope s__law_bad_rows) .none kV29 dc29 pm29 an29 (.ref c29) ct29), sl29⟩) (e29 : PySem.W.codeIn K (.ref c29) "_law_bad_rows" = true) (k29 : PySem.W.keepIn K (.ref f29) = true)
    (a30 : PySem.W.nsIn K mainGlobals "_law_bad_kinds" = some (some (.ref f30))) (l30 : K.lookup f30 = some ⟨oc30, od30, .func (PySem.W.fnOf "_law_bad_kinds" "_law_bad_kinds" (defArgs s__law_bad_kinds) (defBody s__law_bad_kinds) (defScope s__law_bad_kinds) .none kV30 dc30 pm30 an30 (.ref c30) ct30), sl30⟩) (e30 : PySem.W.codeIn K (.ref c30) "_law_bad_kinds" = true) (k30 : PySem.W.keepIn K (.ref f30) = true)
    (a31 : PySem.W.nsIn K mainGlobals "_law_bad_order" = some (some (.ref f31))) (l31 : K.lookup f31 = some ⟨oc31, od31, .func (PySem.W.fnOf "_law_bad_order" "_law_bad_order" (defArgs s__law_bad_order) (defBody s__law_bad_order) (defScope s__law_bad_order) .none kV31 dc31 pm31 an31 (.ref c31) ct31), sl31⟩) (e31 : PySem.W.codeIn K (.ref c31) "_law_bad_order" = true) (k31 : PySem.W.keepIn K (.ref f31) = true)
    (a32 : PySem.W.nsIn K mainGlobals "_law_heads_right" = some (some (.ref f32))) (l32 : K.lookup f32 = some ⟨oc32, od32, .func (PySem.W.fnOf "_law_heads_right" "_law_heads_right" (defArgs s__law_heads_right) (defBody s__law_heads_right) (defScope s__law_heads_right) .none kV32 dc32 pm32 an32 (.ref c32) ct32), sl32⟩) (e32 : PySem.W.codeIn K (.ref c32) "_law_heads_right" = true) (k32 : PySem.W.keepIn K (.ref f32) = true)
    (a33 : PySem.W.nsIn K mainGlobals "law" = some (some (.ref f33))) (l33 : K.lookup f33 = some ⟨oc33, od33, .func (PySem.W.fnOf "law" "law" (defArgs sLaw) (defBody sLaw) (defScope sLaw) .none kV33 dc33 pm33 an33 (.ref c33) ct33), sl33⟩) (e33 : PySem.W.codeIn K (.ref c33) "law" = true) (k33 : PySem.W.keepIn K (.ref f33) = true)
    (z0 : PySem.W.nsIn K mainGlobals "isinstance" = some none)
    (z1 : PySem.W.nsIn K mainGlobals "int" = some none)
    (z2 : PySem.W.nsIn K mainGlobals "bool" = some none)
    (z3 : PySem.W.nsIn K mainGlobals "str" = some none)
    (z4 : PySem.W.nsIn K mainGlobals "list" = some none)
    (z5 : PySem.W.nsIn K mainGlobals "tuple" = some none)
    (z6 : PySem.W.nsIn K mainGlobals "len" = some none)
    (z7 : PySem.W.nsIn K mainGlobals "all" = some none)
    (z8 : PySem.W.nsIn K mainGlobals "zip" = some none)
    (z9 : PySem.W.nsIn K mainGlobals "enumerate" = some none)
    (z10 : PySem.W.nsIn K mainGlobals "ord" = some none)
    (z11 : PySem.W.nsIn K mainGlobals "range" = some none)
    (z12 : PySem.W.nsIn K mainGlobals "sorted" = some none)
    (z13 : PySem.W.nsIn K mainGlobals "max" = some none)
    (z14 : PySem.W.nsIn K mainGlobals "min" = some none)
    (y0 : PySem.W.nsIn K mainGlobals "MOST_COLUMNS" = some (some (.int 4 t1)))
    (y1 : PySem.W.nsIn K mainGlobals "MOST_NUMBER" = some (some (.int 999 t2)))
    (y2 : PySem.W.nsIn K mainGlobals "MOST_LETTERS" = some (some (.int 6 t3)))
    (y3 : PySem.W.nsIn K mainGlobals "MOST_ROWS" = some (some (.int 120 t4)))
    (y4 : PySem.W.nsIn K mainGlobals "MOST_ROOM" = some (some (.int 24 t5)))
    (y5 : PySem.W.nsIn K mainGlobals "LEAST_WAYS" = some (some (.int 2 t6)))
    (y6 : PySem.W.nsIn K mainGlobals "MOST_WAYS" = some (some (.int 5 t7)))
    (yx0 : PySem.W.nsIn K mainGlobals "MANY_BLOCKS" = some (some (.int 600 tx0)))
    (yx1 : PySem.W.nsIn K mainGlobals "ROOT" = some (some (.int 0 tx1)))
    (ak : PySem.W.nsIn K mainGlobals "KINDS" = some (some (.ref aK))) (lk : K.lookup aK = some ⟨.type "tuple", odK, .seq #[.str "number" u1, .str "word" u2] nK, slK⟩)
    (aw : PySem.W.nsIn K mainGlobals "WAYS" = some (some (.ref aW))) (lw : K.lookup aW = some ⟨.type "tuple", odW, .seq #[.str "up" u3, .str "down" u4] nW, slW⟩)
    (q0 : PySem.W.nsIn K mainGlobals "heapify" = some (some (.builtin "_heapq.heapify")))
    (q1 : PySem.W.nsIn K mainGlobals "heappush" = some (some (.builtin "_heapq.heappush")))
    (q2 : PySem.W.nsIn K mainGlobals "heappop" = some (some (.builtin "_heapq.heappop")))
    (zzValueError : PySem.W.nsIn K mainGlobals "ValueError" = some none)
    (rW : (recsOf q).find? (fun e => e.name == ("is_word" : Str)) = some dW) (hW : K.lookup c1 = some ⟨eW, ddW, .fields vsW, stW⟩) (iW : vsW[11]? = some (.ref pW)) (nW' : K.lookup pW = none)
    (rR : (recsOf q).find? (fun e => e.name == ("is_row" : Str)) = some dR) (hR : K.lookup c3 = some ⟨eR, ddR, .fields vsR, stR⟩) (iR : vsR[11]? = some (.ref pR)) (nR' : K.lookup pR = none)
    (rK : (recsOf q).find? (fun e => e.name == ("check_kinds" : Str)) = some dK) (hK : K.lookup c5 = some ⟨eK, ddK, .fields vsK, stK⟩) (iK : vsK[11]? = some (.ref pK)) (nK' : K.lookup pK = none)
    (rF : (recsOf q).find? (fun e => e.name == ("filled" : Str)) = some dF) (hF : K.lookup c12 = some ⟨eF, ddF, .fields vsF, stF⟩) (iF : vsF[11]? = some (.ref pF)) (nF' : K.lookup pF = none)
    (rG : (recsOf q).find? (fun e => e.name == ("_law_heads_right" : Str)) = some dG) (hG : K.lookup c32 = some ⟨eG, ddG, .fields vsG, stG⟩) (iG : vsG[11]? = some (.ref pG)) (nG' : K.lookup pG = none)
    (rZ : (recsOf q).find? (fun e => e.name == ("law" : Str)) = some dZ) (hZ : K.lookup c33 = some ⟨eZ, ddZ, .fields vsZ, stZ⟩) (iZ : vsZ[11]? = some (.ref pZ)) (nZ' : K.lookup pZ = none)
    (dFW' : pF ≠ pW)
    (dFR' : pF ≠ pR)
    (dFK' : pF ≠ pK)
    (dGW' : pG ≠ pW)
    (dGR' : pG ≠ pR)
    (dGK' : pG ≠ pK)
    (dZW' : pZ ≠ pW)
    (dZR' : pZ ≠ pR)
    (dZK' : pZ ≠ pK)
    (dFG' : pF ≠ pG)
    (dFZ' : pF ≠ pZ)
    (dGZ' : pG ≠ pZ)
    : LamX.LawAtS l w K CX0 45 63 "_law_script" mg fa h := by
  have efa := hfa.symm.trans (PySem.W.mg_of X G a33)
  cases efa
  have gW := tabs "is_word" dW c1 pW rW (tab_in (st := sIsWord) a1 l1 hW iW)
  have gR := tabs "is_row" dR c3 pR rR (tab_in (st := sIsRow) a3 l3 hR iR)
  have gK := tabs "check_kinds" dK c5 pK rK (tab_in (st := sCheckKinds) a5 l5 hK iK)
  have gF := tabs "filled" dF c12 pF rF (tab_in (st := sFilled) a12 l12 hF iF)
  have gG := tabs "_law_heads_right" dG c32 pG rG (tab_in (st := s__law_heads_right) a32 l32 hG iG)
  have gZ := tabs "law" dZ c33 pZ rZ (tab_in (st := sLaw) a33 l33 hZ iZ)
  have T : Txt K mg := ⟨PySem.W.mg_none_of X G z0, PySem.W.mg_none_of X G z1, PySem.W.mg_none_of X G z2, PySem.W.mg_none_of X G z3, PySem.W.mg_none_of X G z4, PySem.W.mg_none_of X G z5, PySem.W.mg_none_of X G z6, PySem.W.mg_none_of X G z7, PySem.W.mg_none_of X G z8, PySem.W.mg_none_of X G z9, PySem.W.mg_none_of X G z10, PySem.W.mg_none_of X G z11, PySem.W.mg_none_of X G z12, PySem.W.mg_none_of X G z13, PySem.W.mg_none_of X G z14, ⟨t1, PySem.W.mg_of X G y0⟩, ⟨t2, PySem.W.mg_of X G y1⟩, ⟨t3, PySem.W.mg_of X G y2⟩, ⟨t4, PySem.W.mg_of X G y3⟩, ⟨t5, PySem.W.mg_of X G y4⟩, ⟨t6, PySem.W.mg_of X G y5⟩, ⟨t7, PySem.W.mg_of X G y6⟩, ⟨aK, PySem.W.mg_of X G ak, two_in lk⟩, ⟨aW, PySem.W.mg_of X G aw, two_in lw⟩⟩
  have ZValueError : mg "ValueError" = none := PySem.W.mg_none_of X G zzValueError
  have D0 := def_at (st := sIsNumber) X G a0 l0 e0 k0
  have D1 := def_at (st := sIsWord) X G a1 l1 e1 k1
  have D2 := def_at (st := sIsValue) X G a2 l2 e2 k2
  have D3 := def_at (st := sIsRow) X G a3 l3 e3 k3
  have D4 := def_at (st := sIsPart) X G a4 l4 e4 k4
  have D5 := def_at (st := sCheckKinds) X G a5 l5 e5 k5
  have D6 := def_at (st := sCheckOrder) X G a6 l6 e6 k6
  have D7 := def_at (st := sCheckRows) X G a7 l7 e7 k7
  have D8 := def_at (st := sWorths) X G a8 l8 e8 k8
  have D9 := def_at (st := sRank) X G a9 l9 e9 k9
  have D10 := def_at (st := sCheckSize) X G a10 l10 e10 k10
  have D11 := def_at (st := sNumbered) X G a11 l11 e11 k11
  have D12 := def_at (st := sFilled) X G a12 l12 e12 k12
  have D13 := def_at (st := sExchanged) X G a13 l13 e13 k13
  have D14 := def_at (st := s_check_block) X G a14 l14 e14 k14
  have D15 := def_at (st := s_merged) X G a15 l15 e15 k15
  have D16 := def_at (st := s_written_order) X G a16 l16 e16 k16
  have D17 := def_at (st := s_read_order) X G a17 l17 e17 k17
  have D18 := def_at (st := sBegun) X G a18 l18 e18 k18
  have D19 := def_at (st := sTake) X G a19 l19 e19 k19
  have D20 := def_at (st := sAlike) X G a20 l20 e20 k20
  have D21 := def_at (st := sClass) X G a21 l21 e21 k21
  have D22 := def_at (st := sTold) X G a22 l22 e22 k22
  have D23 := def_at (st := sAll) X G a23 l23 e23 k23
  have D24 := def_at (st := sKinds) X G a24 l24 e24 k24
  have D25 := def_at (st := sOrder) X G a25 l25 e25 k25
  have D26 := def_at (st := sValue) X G a26 l26 e26 k26
  have D27 := def_at (st := sRows) X G a27 l27 e27 k27
  have D28 := def_at (st := sBadRow) X G a28 l28 e28 k28
  have D29 := def_at (st := s__law_bad_rows) X G a29 l29 e29 k29
  have D30 := def_at (st := s__law_bad_kinds) X G a30 l30 e30 k30
  have D31 := def_at (st := s__law_bad_order) X G a31 l31 e31 k31
  have D32 := def_at (st := s__law_heads_right) X G a32 l32 e32 k32
  have D33 := def_at (st := sLaw) X G a33 l33 e33 k33
  refine ⟨PySem.W.fnOf "law" "law" (defArgs sLaw) (defBody sLaw) (defScope sLaw) .none kV33 dc33 pm33 an33 (.ref c33) ct33, [(c1, pW), (c3, pR), (c5, pK), (c12, pF), (c32, pG), (c33, pZ)], spT [pW, pR, pK] (spLaw2 K pK pW pR pF pG pZ), ?_, ?_, ?_, fun s v => .of_eq rfl, ?_, fun base KB GB TB => ?_⟩
  · intro p hp
    simp only [List.mem_cons, List.not_mem_nil, or_false] at hp
    rcases hp with rfl | rfl | rfl | rfl | rfl | rfl
    · exact gW.2
    · exact gR.2
    · exact gK.2
    · exact gF.2
    · exact gG.2
    · exact gZ.2
  · intro p hp
    simp only [List.mem_cons, List.not_mem_nil, or_false] at hp
    rcases hp with rfl | rfl | rfl | rfl | rfl | rfl
    · exact nW'
    · exact nR'
    · exact nK'
    · exact nF'
    · exact nG'
    · exact nZ'
  · intro p hp
    simp only [List.mem_cons, List.not_mem_nil, or_false] at hp
    rcases hp with rfl | rfl | rfl | rfl | rfl | rfl
    · exact gW.1
    · exact gR.1
    · exact gK.1
    · exact gF.1
    · exact gG.1
    · exact gZ.1
  · intro H a ns hl hb hT hS
    have hT2 : ∀ b ∈ [pW, pR, pK], H b = some (.tbl #[]) := fun b hb => by
      simp only [List.mem_cons, List.not_mem_nil, or_false] at hb
      rcases hb with rfl | rfl | rfl
      · exact hT (c1, b) (by simp)
      · exact hT (c3, b) (by simp)
      · exact hT (c5, b) (by simp)
    have hFF : H pF = some (.tbl #[]) := hT (c12, pF) (by simp)
    have hFG : H pG = some (.tbl #[]) := hT (c32, pG) (by simp)
    have hFZ : H pZ = some (.tbl #[]) := hT (c33, pZ) (by simp)
    refine ⟨hT2, a, ns, rfl, ?_, ext_in (by simp), ext_in (by simp), ext_in (by simp), .nil ((ext_out (by simp [dFW', dFR', dFK'])).trans hFF), .nil ((ext_out (by simp [dGW', dGR', dGK'])).trans hFG), .nil ((ext_out (by simp [dZW', dZR', dZK'])).trans hFZ), fun H' tK tW tR => ⟨fun b hb => ?_, fun _ => rfl⟩⟩
    · rcases hS with (hS | ⟨o, hS⟩) | hS
      · refine .inl (.inl ?_)
        rw [ext_out fun hb => by rw [hT2 a hb] at hS; cases hS]
        exact hS
      · refine .inl (.inr ⟨o, ?_⟩)
        rw [ext_out fun hb => by rw [hT2 a hb] at hS; cases hS]
        exact hS
      · exact .inr hS
    · simp only [List.mem_cons, List.not_mem_nil, or_false] at hb
      rcases hb with rfl | rfl | rfl
      · exact tW
      · exact tR
      · exact tK
  · have bW := TB (c1, pW) (by simp)
    have bR := TB (c3, pR) (by simp)
    have bK := TB (c5, pK) (by simp)
    have bF := TB (c12, pF) (by simp)
    have bG := TB (c32, pG) (by simp)
    have bZ := TB (c33, pZ) (by simp)
    let CC : Nat → Addr := listC [CC0, CC1, CC2, CC3, CC4, CC5, CC6, CC7, CC8, CC9, CC10, CC11, CC12, CC13, CC14]
    have gSE := PySem.W.mg_of X G sg
    have G15 : Cls15 mg CC := ⟨PySem.W.mg_of X G cg0, PySem.W.mg_of X G cg1, PySem.W.mg_of X G cg2, PySem.W.mg_of X G cg3, PySem.W.mg_of X G cg4, PySem.W.mg_of X G cg5, PySem.W.mg_of X G cg6, PySem.W.mg_of X G cg7, PySem.W.mg_of X G cg8, PySem.W.mg_of X G cg9, PySem.W.mg_of X G cg10, PySem.W.mg_of X G cg11, PySem.W.mg_of X G cg12, PySem.W.mg_of X G cg13, PySem.W.mg_of X G cg14⟩
    have cl15 : ∀ i < 15, PySem.W.isClsIn K (CC i) = true ∧ PySem.W.typeIn K (.ref (CC i)) = some (.type "type") := fun i hi => match i, hi with
      | 0, _ => ⟨cc0, cy0⟩
      | 1, _ => ⟨cc1, cy1⟩
      | 2, _ => ⟨cc2, cy2⟩
      | 3, _ => ⟨cc3, cy3⟩
      | 4, _ => ⟨cc4, cy4⟩
      | 5, _ => ⟨cc5, cy5⟩
      | 6, _ => ⟨cc6, cy6⟩
      | 7, _ => ⟨cc7, cy7⟩
      | 8, _ => ⟨cc8, cy8⟩
      | 9, _ => ⟨cc9, cy9⟩
      | 10, _ => ⟨cc10, cy10⟩
      | 11, _ => ⟨cc11, cy11⟩
      | 12, _ => ⟨cc12, cy12⟩
      | 13, _ => ⟨cc13, cy13⟩
      | 14, _ => ⟨cc14, cy14⟩
    have oe0 : OneE K SE CC0 := ⟨⟨hg0, hk0, hs0, hd0, ha0, ohn, oht, hm0⟩, hv0, exm_mk sbe scl sty hS0⟩
    have o15_0 : Own15 K CC CC0 0 := own15_mk (C := CC) (j := 0) (by decide) oe0 cl15 fun i hi n => match i, hi, n with
      | 0, _, n => absurd rfl n
      | 1, _, _ => ⟨ne0_1, no0_1⟩
      | 2, _, _ => ⟨ne0_2, no0_2⟩
      | 3, _, _ => ⟨ne0_3, no0_3⟩
      | 4, _, _ => ⟨ne0_4, no0_4⟩
      | 5, _, _ => ⟨ne0_5, no0_5⟩
      | 6, _, _ => ⟨ne0_6, no0_6⟩
      | 7, _, _ => ⟨ne0_7, no0_7⟩
      | 8, _, _ => ⟨ne0_8, no0_8⟩
      | 9, _, _ => ⟨ne0_9, no0_9⟩
      | 10, _, _ => ⟨ne0_10, no0_10⟩
      | 11, _, _ => ⟨ne0_11, no0_11⟩
      | 12, _, _ => ⟨ne0_12, no0_12⟩
      | 13, _, _ => ⟨ne0_13, no0_13⟩
      | 14, _, _ => ⟨ne0_14, no0_14⟩
    have oe1 : OneE K SE CC1 := ⟨⟨hg1, hk1, hs1, hd1, ha1, ohn, oht, hm1⟩, hv1, exm_mk sbe scl sty hS1⟩
    have o15_1 : Own15 K CC CC1 1 := own15_mk (C := CC) (j := 1) (by decide) oe1 cl15 fun i hi n => match i, hi, n with
      | 0, _, _ => ⟨ne1_0, no1_0⟩
      | 1, _, n => absurd rfl n
      | 2, _, _ => ⟨ne1_2, no1_2⟩
      | 3, _, _ => ⟨ne1_3, no1_3⟩
      | 4, _, _ => ⟨ne1_4, no1_4⟩
      | 5, _, _ => ⟨ne1_5, no1_5⟩
      | 6, _, _ => ⟨ne1_6, no1_6⟩
      | 7, _, _ => ⟨ne1_7, no1_7⟩
      | 8, _, _ => ⟨ne1_8, no1_8⟩
      | 9, _, _ => ⟨ne1_9, no1_9⟩
      | 10, _, _ => ⟨ne1_10, no1_10⟩
      | 11, _, _ => ⟨ne1_11, no1_11⟩
      | 12, _, _ => ⟨ne1_12, no1_12⟩
      | 13, _, _ => ⟨ne1_13, no1_13⟩
      | 14, _, _ => ⟨ne1_14, no1_14⟩
    have oe2 : OneE K SE CC2 := ⟨⟨hg2, hk2, hs2, hd2, ha2, ohn, oht, hm2⟩, hv2, exm_mk sbe scl sty hS2⟩
    have o15_2 : Own15 K CC CC2 2 := own15_mk (C := CC) (j := 2) (by decide) oe2 cl15 fun i hi n => match i, hi, n with
      | 0, _, _ => ⟨ne2_0, no2_0⟩
      | 1, _, _ => ⟨ne2_1, no2_1⟩
      | 2, _, n => absurd rfl n
      | 3, _, _ => ⟨ne2_3, no2_3⟩
      | 4, _, _ => ⟨ne2_4, no2_4⟩
      | 5, _, _ => ⟨ne2_5, no2_5⟩
      | 6, _, _ => ⟨ne2_6, no2_6⟩
      | 7, _, _ => ⟨ne2_7, no2_7⟩
      | 8, _, _ => ⟨ne2_8, no2_8⟩
      | 9, _, _ => ⟨ne2_9, no2_9⟩
      | 10, _, _ => ⟨ne2_10, no2_10⟩
      | 11, _, _ => ⟨ne2_11, no2_11⟩
      | 12, _, _ => ⟨ne2_12, no2_12⟩
      | 13, _, _ => ⟨ne2_13, no2_13⟩
      | 14, _, _ => ⟨ne2_14, no2_14⟩
    have oe4 : OneE K SE CC4 := ⟨⟨hg4, hk4, hs4, hd4, ha4, ohn, oht, hm4⟩, hv4, exm_mk sbe scl sty hS4⟩
    have o15_4 : Own15 K CC CC4 4 := own15_mk (C := CC) (j := 4) (by decide) oe4 cl15 fun i hi n => match i, hi, n with
      | 0, _, _ => ⟨ne4_0, no4_0⟩
      | 1, _, _ => ⟨ne4_1, no4_1⟩
      | 2, _, _ => ⟨ne4_2, no4_2⟩
      | 3, _, _ => ⟨ne4_3, no4_3⟩
      | 4, _, n => absurd rfl n
      | 5, _, _ => ⟨ne4_5, no4_5⟩
      | 6, _, _ => ⟨ne4_6, no4_6⟩
      | 7, _, _ => ⟨ne4_7, no4_7⟩
      | 8, _, _ => ⟨ne4_8, no4_8⟩
      | 9, _, _ => ⟨ne4_9, no4_9⟩
      | 10, _, _ => ⟨ne4_10, no4_10⟩
      | 11, _, _ => ⟨ne4_11, no4_11⟩
      | 12, _, _ => ⟨ne4_12, no4_12⟩
      | 13, _, _ => ⟨ne4_13, no4_13⟩
      | 14, _, _ => ⟨ne4_14, no4_14⟩
    have oxc2 : OexC K CC2 := ⟨⟨_, _, _, _, _, _, _, _, _, _, _, _, _, _, _, xl2, by rfl⟩, sa2, hs2, cy2, kc2⟩
    have NE : NumE l.prog w K mg base "BadRows" "place" CC2 := init_place (fun_mk bl2 bc2 bk2) oxc2 bi2 bt2 (PySem.W.mg_of X G cg2) bp2 gSE ⟨srd, sga⟩ sfi
    have X0 : TxS K CSieve := ⟨⟨xpgSieve, xhdSieve, xpoSieve, xsaSieve⟩, xnSieve0, xnSieve1, xnSieve2, xnSieve3⟩
    have XX : TxX K CExchange := ⟨⟨xpgExchange, xhdExchange, xpoExchange, xsaExchange⟩, xnExchange0, xnExchange1, xnExchange2, xnExchange3⟩
    have XD : TxD K CDisk := ⟨⟨xpgDisk, xhdDisk, xpoDisk, xsaDisk⟩, xnDisk0, xnDisk1, xnDisk2, xnDisk3, xnDisk4, xnDisk5⟩
    have TQ : TxtQ mg := ⟨PySem.W.mg_of X G q0, PySem.W.mg_of X G q1, PySem.W.mg_of X G q2⟩
    have XPK : PlE K mg "BadKinds" CC0 := ⟨xE0, PySem.W.mg_of X G cg0, kc0, hs0, cy0⟩
    have erK : ErrP K SE CC CC0 0 := ⟨o15_0, oe0.se, by decide⟩
    have XPO : PlE K mg "BadOrder" CC1 := ⟨xE1, PySem.W.mg_of X G cg1, kc1, hs1, cy1⟩
    have erO : ErrP K SE CC CC1 1 := ⟨o15_1, oe1.se, by decide⟩
    have XPM : PlE K mg "BadRoom" CC4 := ⟨xE4, PySem.W.mg_of X G cg4, kc4, hs4, cy4⟩
    have erM : ErrP K SE CC CC4 4 := ⟨o15_4, oe4.se, by decide⟩
    have erR : ErrR K SE CC CC2 := ⟨o15_2, oe2.se, ⟨hg2, hk2, hs2, hd2⟩, bp2⟩
    have P0 : Cal l.prog w K mg base CX0 1 "is_number" ["value"] (spNum K) := is_number_ok D0 T
    have P1 : Cal l.prog w K mg base CX0 2 "is_word" ["value"] (spWord K pW) := is_word_ok D1 T (tabB_of bW)
    have P2 : Cal l.prog w K mg base CX0 3 "is_value" ["kind", "value"] (spValue K pW) := is_value_ok D2 T P1 P0
    have P3 : Cal l.prog w K mg base CX0 5 "is_row" ["kinds", "row"] (spRow K pW pR) := is_row_ok D3 T (tabB_of bR) P2
    have P4 : Cal l.prog w K mg base CX0 2 "is_part" ["kinds", "part"] (spPart K) := is_part_ok D4 T P0
    have P5 : Cal l.prog w K mg base CX0 2 "check_kinds" ["kinds"] (spCheckKinds K pK) := check_kinds_ok D5 T (tabB_of bK)
    have P6 : Cal l.prog w K mg base CX0 3 "check_order" ["kinds", "order"] (spCheckOrder K) := check_order_ok D6 T P4
    have P7 : Cal l.prog w K mg base CX0 6 "check_rows" ["kinds", "rows", "most"] (spCheckRows K pW pR) := check_rows_ok D7 T P3
    have P8 : Cal l.prog w K mg base CX0 1 "worths" ["value"] (spWorths K) := worths_ok D8 T
    have P9 : Cal l.prog w K mg base CX0 2 "rank" ["order", "told"] (spRank K) := rank_ok D9 T P8
    have P10 : Cal l.prog w K mg base CX0 2 "check_size" ["size"] (spCheckSize) := check_size_ok D10 T P0
    have P11 : Cal l.prog w K mg base CX0 7 "numbered" ["kinds", "order", "size", "rows"] (spNumbered K pK pW pR) := numbered_ok D11 T P5 P6 P10 P7
    have P12 : Cal l.prog w K mg base CX0 10 "filled" ["kinds", "order", "size", "rows"] (spFilled K pK pW pR pF) := filled_ok D12 T bF P11 P9
    have PE0 : Exch l.prog w K mg base CExchange := ⟨xinit_ok ⟨xmkExchange, maExchange0, miExchange0, xkcExchange⟩ (fun_mk mlExchange0 mcExchange0 mkExchange0) XX (PySem.W.mg_of X G xCExchange), let_in_ok XX ⟨⟨maExchange1, miExchange1, mkExchange1⟩, fun_mk mlExchange1 mcExchange1 mkExchange1⟩ TQ P9, let_out_ok XX ⟨⟨maExchange2, miExchange2, mkExchange2⟩, fun_mk mlExchange2 mcExchange2 mkExchange2⟩ TQ, is_over_ok XX ⟨⟨maExchange3, miExchange3, mkExchange3⟩, fun_mk mlExchange3 mcExchange3 mkExchange3⟩, holds_ok XX ⟨⟨maExchange4, miExchange4, mkExchange4⟩, fun_mk mlExchange4 mcExchange4 mkExchange4⟩ T, next_ok XX ⟨⟨maExchange5, miExchange5, mkExchange5⟩, fun_mk mlExchange5 mcExchange5 mkExchange5⟩ TQ⟩
    have P13 : Cal l.prog w K mg base CX0 8 "exchanged" ["kinds", "order", "size", "rows"] (spExchanged K pK pW pR) := exchanged_ok D13 T P11 PE0
    have P14 : Cal l.prog w K mg base CX0 2 "check_block" ["block"] (spBlk) := check_block_ok D14 (PySem.W.mg_of X G yx0) P0
    have P18 : Cal l.prog w K mg base CX0 1 "_law_begun" ["_law_script"] (spBegun K) := begun_ok D18 T
    have P19 : Cal l.prog w K mg base CX0 1 "_law_take" ["_law_box", "_law_many"] (spTake) := take_ok D19
    have P20 : Cal l.prog w K mg base CX0 42 "_law_alike" ["_law_found", "_law_due"] (spAlike K 40) := alike_ok D20 T 40
    have P21 : CalW l.prog w K mg base 1 "_law_class" ["_law_e"] (spClass K CC) := class_ok D21 T G15 ZValueError
    have P22 : Cal l.prog w K mg base CX0 12 "_law_told" ["_law_work"] (spTold l.prog w K mg base SE CC 11) := told_ok D22 11 (by decide) gSE P21
    have P23 : Cal l.prog w K mg base CX0 43 "_law_all" ["_law_works", "_law_due"] (spAll l.prog w K mg base SE CC 11) := all_ok D23 11 42 (by decide) (by decide) P22 P20
    have P24 : Cal l.prog w K mg base CX0 2 "_law_kinds" ["_law_box"] (spKinds K) := kinds_ok D24 T P19
    have P25 : Cal l.prog w K mg base CX0 2 "_law_order" ["_law_box", "_law_kinds_here"] (spOrder K) := order_ok D25 T P19
    have P26 : Cal l.prog w K mg base CX0 2 "_law_value" ["_law_box", "_law_kind"] (spValueL K) := value_ok D26 T P19
    have P27 : Cal l.prog w K mg base CX0 3 "_law_rows" ["_law_box", "_law_kinds_here", "_law_most"] (spRows K) := rows_ok D27 T P19 P26
    have P28 : Cal l.prog w K mg base CX0 3 "_law_bad_row" ["_law_box", "_law_kinds_here", "_law_row"] (spBadRow K) := badrow_ok D28 T P19 P26
    have P29 : Cal l.prog w K mg base CX0 4 "_law_bad_rows" ["_law_box", "_law_kinds_here", "_law_most"] (spBadRs K) := badrs_ok D29 T P19 P26 P27 P28
    have P30 : Cal l.prog w K mg base CX0 3 "_law_bad_kinds" ["_law_box"] (spBadKs K) := badks_ok D30 T P19 P24
    have P31 : Cal l.prog w K mg base CX0 2 "_law_bad_order" ["_law_box", "_law_kinds_here", "_law_order_here"] (spBadO K) := bado_ok D31 T P19
    have Pke : Cal l.prog w K mg base (L2.CX l.prog w) 2 "check_kinds" ["kinds"] (spKindsE K CC0 pK) := check_kindsE_ok D5 T (tabB_of bK) XPK
    have PpartG : Cal l.prog w K mg base CX0 2 "is_part" ["kinds", "part"] (spPartG K) := is_partG_ok D4 T P0
    have Poe : Cal l.prog w K mg base (L2.CX l.prog w) 3 "check_order" ["kinds", "order"] (spOrderE K CC1) := check_orderE_ok D6 T XPO PpartG
    have Pheads : Heads l.prog w K mg base CC0 CC1 pK := ⟨P5, P6, Pke, Poe⟩
    have PnumH : Cal l.prog w K mg base (L2.CX l.prog w) 4 "numbered" ["kinds", "order", "size", "rows"] (spHead K CC0 CC1 pK 2) := numberedH_ok D11 Pheads
    have PfiH : Cal l.prog w K mg base (L2.CX l.prog w) 5 "filled" ["kinds", "order", "size", "rows"] (spHead K CC0 CC1 pK 2) := filledH_ok D12 PnumH
    have PexH : Cal l.prog w K mg base (L2.CX l.prog w) 5 "exchanged" ["kinds", "order", "size", "rows"] (spHead K CC0 CC1 pK 2) := exchangedH_ok D13 PnumH
    have Pme : Cal l.prog w K mg base (L2.CX l.prog w) 4 "merged" ["kinds", "order", "runs"] (spHead K CC0 CC1 pK 1) := mergedH_ok D15 Pheads
    have Pwo : Cal l.prog w K mg base (L2.CX l.prog w) 4 "written_order" ["kinds", "order"] (spHead K CC0 CC1 pK 0) := written_orderH_ok D16 Pheads
    have Pro : Cal l.prog w K mg base (L2.CX l.prog w) 4 "read_order" ["kinds", "text"] (spKindsT K CC0 pK) := read_orderH_ok D17 Pheads
    have PsvH : MakC l.prog w K mg base (L2.CX l.prog w) 4 "Sieve" CSieve ["self", "kinds", "order"] (spSvH K CC0 CC1 pK) := svinitH_ok ⟨xmkSieve, maSieve0, miSieve0, xkcSieve⟩ (fun_mk mlSieve0 mcSieve0 mkSieve0) (PySem.W.mg_of X G xCSieve) Pheads
    have PdkI : MakC l.prog w K mg base CX0 1 "Disk" CDisk ["self"] (spDkI CDisk) := dkinit_ok ⟨xmkDisk, maDisk0, miDisk0, xkcDisk⟩ (fun_mk mlDisk0 mcDisk0 mkDisk0) XD (PySem.W.mg_of X G xCDisk) (PySem.W.mg_of X G yx0)
    have PdkC : MetC l.prog w K mg base CX0 1 CDisk "check_runs" ["self"] (spDkC CDisk) := dkruns_ok XD ⟨⟨maDisk2, miDisk2, mkDisk2⟩, fun_mk mlDisk2 mcDisk2 mkDisk2⟩
    have PdkR : MetC l.prog w K mg base CX0 3 CDisk "read" ["self", "block"] (spDkRd CDisk) := dkread_ok XD ⟨⟨maDisk1, miDisk1, mkDisk1⟩, fun_mk mlDisk1 mcDisk1 mkDisk1⟩ P14 PdkC
    have PsoH : MakC l.prog w K mg base (L2.CX l.prog w) 5 "Sorter" CSorter ["self", "disk", "kinds", "order", "room", "page", "ways"] (spSoH K CDisk CC0 CC1 pK) := soinitH_ok ⟨xmkSorter, maSorter0, miSorter0, xkcSorter⟩ (fun_mk mlSorter0 mcSorter0 mkSorter0) (PySem.W.mg_of X G xCSorter) (PySem.W.mg_of X G yx1) PdkR Pheads
    have P32 : Cal l.prog w K mg base CX0 44 "_law_heads_right" ["_law_box", "_law_kinds_here", "_law_order_here"] (spHR K pK pG) := heads_ok D32 T bG erK erO ⟨⟨PfiH, PexH, Pme, Pwo, Pro, PsvH, PdkI, PsoH⟩, P19, P30, P31, P23⟩
    have Psze : Cal l.prog w K mg base (L2.CX l.prog w) 2 "check_size" ["size"] (spSizeE CC4) := check_sizeE_ok D10 T XPM P0
    have Prwe : Cal l.prog w K mg base (L2.CX l.prog w) 6 "check_rows" ["kinds", "rows", "most"] (spRowsE K CC2 pW pR) := check_rowsE_ok D7 T NE P3
    have PnumB : Cal l.prog w K mg base (L2.CX l.prog w) 7 "numbered" ["kinds", "order", "size", "rows"] (spNumB K CC4 CC2 pK pW pR) := numberedB_ok D11 T Pheads P10 Psze Prwe
    have PfiB : Cal l.prog w K mg base (L2.CX l.prog w) 8 "filled" ["kinds", "order", "size", "rows"] (spNumB K CC4 CC2 pK pW pR) := filledB_ok D12 PnumB
    have PexB : Cal l.prog w K mg base (L2.CX l.prog w) 8 "exchanged" ["kinds", "order", "size", "rows"] (spNumB K CC4 CC2 pK pW pR) := exchangedB_ok D13 PnumB
    have PSvInit : MakC l.prog w K mg base CX0 4 "Sieve" CSieve ["self", "kinds", "order"] (spSvI K CSieve pK) := svinit_ok ⟨xmkSieve, maSieve0, miSieve0, xkcSieve⟩ (fun_mk mlSieve0 mcSieve0 mkSieve0) X0 T (PySem.W.mg_of X G xCSieve) P5 P6
    have PSvPut : MetC l.prog w K mg base (L2.CX l.prog w) 6 CSieve "put" ["self", "row"] (spSvPut K CSieve CC2 pW pR) := svput_ok X0 ⟨⟨maSieve1, miSieve1, mkSieve1⟩, fun_mk mlSieve1 mcSieve1 mkSieve1⟩ T (PySem.W.mg_of X G q1) NE P3 P9
    exact FnOk.tables (law2_fn l33 e33 T bZ dFG' dFZ' dGZ' erM erR ⟨P18, P19, P24, P25, P26, P32, P29, P28, P23, PfiB, PexB, P12, P13, PSvInit, PSvPut⟩)
end RS
set_option Elab.async false
open PySem PySem.W PyProof.Rows in
set_option maxRecDepth 100000 in
set_option maxHeartbeats 0 in
theorem PySem.Challenge.cw_runsorts_k02_refused_holds : PySem.Challenge.rw_runsorts_k02_refused.Holds := by
  w_on; o_law; refine RS.head_km (r := PySem.W.OpenLaw.row PySem.Challenge.rw_runsorts_k02_refused) (q := RS.qv) (K := RS.pre.heap_39) (as := RS.asK) (ts := RS.tsK) (e := RS.eK) (M := 40000) (loose := RS.loo) (d := HandSHeadRun.topDef (PySem.W.OpenLaw.row PySem.Challenge.rw_runsorts_k02_refused).prog 99) (kwd := []) RS.runK
    (by kernel_rfl) (by kernel_rfl) (by kernel_rfl) (by rfl) (by first | assumption | decide +kernel) (by decide +kernel) ⟨rfl, rfl, rfl, rfl, rfl, by decide +kernel⟩ ?hw ?hc; (case hw => w_witness2)
  k_fill
  refine RS.walk_tabs (l := PySem.Challenge.rw_runsorts_k02_refused) (n := 63) (k := 45) (x := "_law_script") rfl (by decide) rfl ⟨rfl, by decide, by decide⟩ (fun w h Y => PySem.W.km_in_of Y) ?F
  case F =>
    intro w mg fa h KX G hmg tabs
    refine' RS.all_mk tabs KX G hmg ?xCExchange ?xpgExchange ?xhdExchange ?xpoExchange ?xsaExchange ?xmkExchange ?xkcExchange ?xnExchange0 ?xnExchange1 ?xnExchange2 ?xnExchange3 ?maExchange0 ?miExchange0 ?mlExchange0 ?mcExchange0 ?mkExchange0 ?maExchange1 ?miExchange1 ?mlExchange1 ?mcExchange1 ?mkExchange1 ?maExchange2 ?miExchange2 ?mlExchange2 ?mcExchange2 ?mkExchange2 ?maExchange3 ?miExchange3 ?mlExchange3 ?mcExchange3 ?mkExchange3 ?maExchange4 ?miExchange4 ?mlExchange4 ?mcExchange4 ?mkExchange4 ?maExchange5 ?miExchange5 ?mlExchange5 ?mcExchange5 ?mkExchange5 ?xCSieve ?xpgSieve ?xhdSieve ?xpoSieve ?xsaSieve ?xmkSieve ?xkcSieve ?xnSieve0 ?xnSieve1 ?xnSieve2 ?xnSieve3 ?maSieve0 ?miSieve0 ?mlSieve0 ?mcSieve0 ?mkSieve0 ?maSieve1 ?miSieve1 ?mlSieve1 ?mcSieve1 ?mkSieve1 ?xCDisk ?xpgDisk ?xhdDisk ?xpoDisk ?xsaDisk ?xmkDisk ?xkcDisk ?xnDisk0 ?xnDisk1 ?xnDisk2 ?xnDisk3 ?xnDisk4 ?xnDisk5 ?maDisk0 ?miDisk0 ?mlDisk0 ?mcDisk0 ?mkDisk0 ?maDisk1 ?miDisk1 ?mlDisk1 ?mcDisk1 ?mkDisk1 ?maDisk2 ?miDisk2 ?mlDisk2 ?mcDisk2 ?mkDisk2 ?xCSorter ?xpgSorter ?xhdSorter ?xpoSorter ?xsaSorter ?xmkSorter ?xkcSorter ?maSorter0 ?miSorter0 ?mlSorter0 ?mcSorter0 ?mkSorter0 ?sg ?scl ?sty ?sbe ?srd ?sga ?sfi ?ohn ?oht ?cg0 ?cc0 ?cy0 ?cg1 ?cc1 ?cy1 ?cg2 ?cc2 ?cy2 ?cg3 ?cc3 ?cy3 ?cg4 ?cc4 ?cy4 ?cg5 ?cc5 ?cy5 ?cg6 ?cc6 ?cy6 ?cg7 ?cc7 ?cy7 ?cg8 ?cc8 ?cy8 ?cg9 ?cc9 ?cy9 ?cg10 ?cc10 ?cy10 ?cg11 ?cc11 ?cy11 ?cg12 ?cc12 ?cy12 ?cg13 ?cc13 ?cy13 ?cg14 ?cc14 ?cy14 ?hg0 ?hk0 ?hs0 ?hd0 ?ha0 ?hm0 ?hv0 ?hS0 ?kc0 ?no0_1 ?ne0_1 ?no0_2 ?ne0_2 ?no0_3 ?ne0_3 ?no0_4 ?ne0_4 ?no0_5 ?ne0_5 ?no0_6 ?ne0_6 ?no0_7 ?ne0_7 ?no0_8 ?ne0_8 ?no0_9 ?ne0_9 ?no0_10 ?ne0_10 ?no0_11 ?ne0_11 ?no0_12 ?ne0_12 ?no0_13 ?ne0_13 ?no0_14 ?ne0_14 ?hg1 ?hk1 ?hs1 ?hd1 ?ha1 ?hm1 ?hv1 ?hS1 ?kc1 ?no1_0 ?ne1_0 ?no1_2 ?ne1_2 ?no1_3 ?ne1_3 ?no1_4 ?ne1_4 ?no1_5 ?ne1_5 ?no1_6 ?ne1_6 ?no1_7 ?ne1_7 ?no1_8 ?ne1_8 ?no1_9 ?ne1_9 ?no1_10 ?ne1_10 ?no1_11 ?ne1_11 ?no1_12 ?ne1_12 ?no1_13 ?ne1_13 ?no1_14 ?ne1_14 ?hg2 ?hk2 ?hs2 ?hd2 ?ha2 ?hm2 ?hv2 ?hS2 ?kc2 ?no2_0 ?ne2_0 ?no2_1 ?ne2_1 ?no2_3 ?ne2_3 ?no2_4 ?ne2_4 ?no2_5 ?ne2_5 ?no2_6 ?ne2_6 ?no2_7 ?ne2_7 ?no2_8 ?ne2_8 ?no2_9 ?ne2_9 ?no2_10 ?ne2_10 ?no2_11 ?ne2_11 ?no2_12 ?ne2_12 ?no2_13 ?ne2_13 ?no2_14 ?ne2_14 ?hg4 ?hk4 ?hs4 ?hd4 ?ha4 ?hm4 ?hv4 ?hS4 ?kc4 ?no4_0 ?ne4_0 ?no4_1 ?ne4_1 ?no4_2 ?ne4_2 ?no4_3 ?ne4_3 ?no4_5 ?ne4_5 ?no4_6 ?ne4_6 ?no4_7 ?ne4_7 ?no4_8 ?ne4_8 ?no4_9 ?ne4_9 ?no4_10 ?ne4_10 ?no4_11 ?ne4_11 ?no4_12 ?ne4_12 ?no4_13 ?ne4_13 ?no4_14 ?ne4_14 ?xl2 ?sa2 ?bi2 ?bt2 ?bl2 ?bc2 ?bk2 ?bp2 ?xE0 ?xE1 ?xE4 ?a0 ?l0 ?e0 ?k0 ?a1 ?l1 ?e1 ?k1 ?a2 ?l2 ?e2 ?k2 ?a3 ?l3 ?e3 ?k3 ?a4 ?l4 ?e4 ?k4 ?a5 ?l5 ?e5 ?k5 ?a6 ?l6 ?e6 ?k6 ?a7 ?l7 ?e7 ?k7 ?a8 ?l8 ?e8 ?k8 ?a9 ?l9 ?e9 ?k9 ?a10 ?l10 ?e10 ?k10 ?a11 ?l11 ?e11 ?k11 ?a12 ?l12 ?e12 ?k12 ?a13 ?l13 ?e13 ?k13 ?a14 ?l14 ?e14 ?k14 ?a15 ?l15 ?e15 ?k15 ?a16 ?l16 ?e16 ?k16 ?a17 ?l17 ?e17 ?k17 ?a18 ?l18 ?e18 ?k18 ?a19 ?l19 ?e19 ?k19 ?a20 ?l20 ?e20 ?k20 ?a21 ?l21 ?e21 ?k21 ?a22 ?l22 ?e22 ?k22 ?a23 ?l23 ?e23 ?k23 ?a24 ?l24 ?e24 ?k24 ?a25 ?l25 ?e25 ?k25 ?a26 ?l26 ?e26 ?k26 ?a27 ?l27 ?e27 ?k27 ?a28 ?l28 ?e28 ?k28 ?a29 ?l29 ?e29 ?k29 ?a30 ?l30 ?e30 ?k30 ?a31 ?l31 ?e31 ?k31 ?a32 ?l32 ?e32 ?k32 ?a33 ?l33 ?e33 ?k33 ?z0 ?z1 ?z2 ?z3 ?z4 ?z5 ?z6 ?z7 ?z8 ?z9 ?z10 ?z11 ?z12 ?z13 ?z14 ?y0 ?y1 ?y2 ?y3 ?y4 ?y5 ?y6 ?yx0 ?yx1 ?ak ?lk ?aw ?lw ?q0 ?q1 ?q2 ?zzValueError ?rW ?hW ?iW ?nW2 ?rR ?hR ?iR ?nR2 ?rK ?hK ?iK ?nK2 ?rF ?hF ?iF ?nF2 ?rG ?hG ?iG ?nG2 ?rZ ?hZ ?iZ ?nZ2 ?dFW2 ?dFR2 ?dFK2 ?dGW2 ?dGR2 ?dGK2 ?dZW2 ?dZR2 ?dZK2 ?dFG2 ?dFZ2 ?dGZ2
    (case xCExchange => k_is)
    (case xpgExchange => k_is)
    (case xhdExchange => k_is)
    (case xpoExchange => k_is)
    (case xsaExchange => k_is)
    (case xmkExchange => k_is)
    (case xkcExchange => k_is)
    (case xnExchange0 => k_is)
    (case xnExchange1 => k_is)
    (case xnExchange2 => k_is)
    (case xnExchange3 => k_is)
    (case maExchange0 => k_is)
    (case miExchange0 => k_is)
    (case mlExchange0 => k_is)
    (case mcExchange0 => k_is)
    (case mkExchange0 => k_is)
    (case maExchange1 => k_is)
    (case miExchange1 => k_is)
    (case mlExchange1 => k_is)
    (case mcExchange1 => k_is)
    (case mkExchange1 => k_is)
    (case maExchange2 => k_is)
    (case miExchange2 => k_is)
    (case mlExchange2 => k_is)
    (case mcExchange2 => k_is)
    (case mkExchange2 => k_is)
    (case maExchange3 => k_is)
    (case miExchange3 => k_is)
    (case mlExchange3 => k_is)
    (case mcExchange3 => k_is)
    (case mkExchange3 => k_is)
    (case maExchange4 => k_is)
    (case miExchange4 => k_is)
    (case mlExchange4 => k_is)
    (case mcExchange4 => k_is)
    (case mkExchange4 => k_is)
    (case maExchange5 => k_is)
    (case miExchange5 => k_is)
    (case mlExchange5 => k_is)
    (case mcExchange5 => k_is)
    (case mkExchange5 => k_is)
    (case xCSieve => k_is)
    (case xpgSieve => k_is)
    (case xhdSieve => k_is)
    (case xpoSieve => k_is)
    (case xsaSieve => k_is)
    (case xmkSieve => k_is)
    (case xkcSieve => k_is)
    (case xnSieve0 => k_is)
    (case xnSieve1 => k_is)
    (case xnSieve2 => k_is)
    (case xnSieve3 => k_is)
    (case maSieve0 => k_is)
    (case miSieve0 => k_is)
    (case mlSieve0 => k_is)
    (case mcSieve0 => k_is)
    (case mkSieve0 => k_is)
    (case maSieve1 => k_is)
    (case miSieve1 => k_is)
    (case mlSieve1 => k_is)
    (case mcSieve1 => k_is)
    (case mkSieve1 => k_is)
    (case xCDisk => k_is)
    (case xpgDisk => k_is)
    (case xhdDisk => k_is)
    (case xpoDisk => k_is)
    (case xsaDisk => k_is)
    (case xmkDisk => k_is)
    (case xkcDisk => k_is)
    (case xnDisk0 => k_is)
    (case xnDisk1 => k_is)
    (case xnDisk2 => k_is)
    (case xnDisk3 => k_is)
    (case xnDisk4 => k_is)
    (case xnDisk5 => k_is)
    (case maDisk0 => k_is)
    (case miDisk0 => k_is)
    (case mlDisk0 => k_is)
    (case mcDisk0 => k_is)
    (case mkDisk0 => k_is)
    (case maDisk1 => k_is)
    (case miDisk1 => k_is)
    (case mlDisk1 => k_is)
    (case mcDisk1 => k_is)
    (case mkDisk1 => k_is)
    (case maDisk2 => k_is)
    (case miDisk2 => k_is)
    (case mlDisk2 => k_is)
    (case mcDisk2 => k_is)
    (case mkDisk2 => k_is)
    (case xCSorter => k_is)
    (case xpgSorter => k_is)
    (case xhdSorter => k_is)
    (case xpoSorter => k_is)
    (case xsaSorter => k_is)
    (case xmkSorter => k_is)
    (case xkcSorter => k_is)
    (case maSorter0 => k_is)
    (case miSorter0 => k_is)
    (case mlSorter0 => k_is)
    (case mcSorter0 => k_is)
    (case mkSorter0 => k_is)
    (case sg => k_is)
    (case scl => k_is)
    (case sty => k_is)
    (case sbe => k_is)
    (case srd => k_is)
    (case sga => k_is)
    (case sfi => k_is)
    (case ohn => k_is)
    (case oht => k_is)
    (case cg0 => k_is)
    (case cc0 => k_is)
    (case cy0 => k_is)
    (case cg1 => k_is)
    (case cc1 => k_is)
    (case cy1 => k_is)
    (case cg2 => k_is)
    (case cc2 => k_is)
    (case cy2 => k_is)
    (case cg3 => k_is)
    (case cc3 => k_is)
    (case cy3 => k_is)
    (case cg4 => k_is)
    (case cc4 => k_is)
    (case cy4 => k_is)
    (case cg5 => k_is)
    (case cc5 => k_is)
    (case cy5 => k_is)
    (case cg6 => k_is)
    (case cc6 => k_is)
    (case cy6 => k_is)
    (case cg7 => k_is)
    (case cc7 => k_is)
    (case cy7 => k_is)
    (case cg8 => k_is)
    (case cc8 => k_is)
    (case cy8 => k_is)
    (case cg9 => k_is)
    (case cc9 => k_is)
    (case cy9 => k_is)
    (case cg10 => k_is)
    (case cc10 => k_is)
    (case cy10 => k_is)
    (case cg11 => k_is)
    (case cc11 => k_is)
    (case cy11 => k_is)
    (case cg12 => k_is)
    (case cc12 => k_is)
    (case cy12 => k_is)
    (case cg13 => k_is)
    (case cc13 => k_is)
    (case cy13 => k_is)
    (case cg14 => k_is)
    (case cc14 => k_is)
    (case cy14 => k_is)
    (case hg0 => k_is)
    (case hk0 => k_is)
    (case hs0 => k_is)
    (case hd0 => k_is)
    (case ha0 => k_is)
    (case hm0 => k_is)
    (case hv0 => k_is)
    (case hS0 => k_is)
    (case kc0 => k_is)
    (case no0_1 => k_is)
    (case ne0_1 => decide)
    (case no0_2 => k_is)
    (case ne0_2 => decide)
    (case no0_3 => k_is)
    (case ne0_3 => decide)
    (case no0_4 => k_is)
    (case ne0_4 => decide)
    (case no0_5 => k_is)
    (case ne0_5 => decide)
    (case no0_6 => k_is)
    (case ne0_6 => decide)
    (case no0_7 => k_is)
    (case ne0_7 => decide)
    (case no0_8 => k_is)
    (case ne0_8 => decide)
    (case no0_9 => k_is)
    (case ne0_9 => decide)
    (case no0_10 => k_is)
    (case ne0_10 => decide)
    (case no0_11 => k_is)
    (case ne0_11 => decide)
    (case no0_12 => k_is)
    (case ne0_12 => decide)
    (case no0_13 => k_is)
    (case ne0_13 => decide)
    (case no0_14 => k_is)
    (case ne0_14 => decide)
    (case hg1 => k_is)
    (case hk1 => k_is)
    (case hs1 => k_is)
    (case hd1 => k_is)
    (case ha1 => k_is)
    (case hm1 => k_is)
    (case hv1 => k_is)
    (case hS1 => k_is)
    (case kc1 => k_is)
    (case no1_0 => k_is)
    (case ne1_0 => decide)
    (case no1_2 => k_is)
    (case ne1_2 => decide)
    (case no1_3 => k_is)
    (case ne1_3 => decide)
    (case no1_4 => k_is)
    (case ne1_4 => decide)
    (case no1_5 => k_is)
    (case ne1_5 => decide)
    (case no1_6 => k_is)
    (case ne1_6 => decide)
    (case no1_7 => k_is)
    (case ne1_7 => decide)
    (case no1_8 => k_is)
    (case ne1_8 => decide)
    (case no1_9 => k_is)
    (case ne1_9 => decide)
    (case no1_10 => k_is)
    (case ne1_10 => decide)
    (case no1_11 => k_is)
    (case ne1_11 => decide)
    (case no1_12 => k_is)
    (case ne1_12 => decide)
    (case no1_13 => k_is)
    (case ne1_13 => decide)
    (case no1_14 => k_is)
    (case ne1_14 => decide)
    (case hg2 => k_is)
    (case hk2 => k_is)
    (case hs2 => k_is)
    (case hd2 => k_is)
    (case ha2 => k_is)
    (case hm2 => k_is)
    (case hv2 => k_is)
    (case hS2 => k_is)
    (case kc2 => k_is)
    (case no2_0 => k_is)
    (case ne2_0 => decide)
    (case no2_1 => k_is)
    (case ne2_1 => decide)
    (case no2_3 => k_is)
    (case ne2_3 => decide)
    (case no2_4 => k_is)
    (case ne2_4 => decide)
    (case no2_5 => k_is)
    (case ne2_5 => decide)
    (case no2_6 => k_is)
    (case ne2_6 => decide)
    (case no2_7 => k_is)
    (case ne2_7 => decide)
    (case no2_8 => k_is)
    (case ne2_8 => decide)
    (case no2_9 => k_is)
    (case ne2_9 => decide)
    (case no2_10 => k_is)
    (case ne2_10 => decide)
    (case no2_11 => k_is)
    (case ne2_11 => decide)
    (case no2_12 => k_is)
    (case ne2_12 => decide)
    (case no2_13 => k_is)
    (case ne2_13 => decide)
    (case no2_14 => k_is)
    (case ne2_14 => decide)
    (case hg4 => k_is)
    (case hk4 => k_is)
    (case hs4 => k_is)
    (case hd4 => k_is)
    (case ha4 => k_is)
    (case hm4 => k_is)
    (case hv4 => k_is)
    (case hS4 => k_is)
    (case kc4 => k_is)
    (case no4_0 => k_is)
    (case ne4_0 => decide)
    (case no4_1 => k_is)
    (case ne4_1 => decide)
    (case no4_2 => k_is)
    (case ne4_2 => decide)
    (case no4_3 => k_is)
    (case ne4_3 => decide)
    (case no4_5 => k_is)
    (case ne4_5 => decide)
    (case no4_6 => k_is)
    (case ne4_6 => decide)
    (case no4_7 => k_is)
    (case ne4_7 => decide)
    (case no4_8 => k_is)
    (case ne4_8 => decide)
    (case no4_9 => k_is)
    (case ne4_9 => decide)
    (case no4_10 => k_is)
    (case ne4_10 => decide)
    (case no4_11 => k_is)
    (case ne4_11 => decide)
    (case no4_12 => k_is)
    (case ne4_12 => decide)
    (case no4_13 => k_is)
    (case ne4_13 => decide)
    (case no4_14 => k_is)
    (case ne4_14 => decide)
    (case xl2 => k_is)
    (case sa2 => k_is)
    (case bi2 => k_is)
    (case bt2 => k_is)
    (case bl2 => k_is)
    (case bc2 => k_is)
    (case bk2 => k_is)
    (case bp2 => k_is)
    (case xE0 => k_exc)
    (case xE1 => k_exc)
    (case xE4 => k_exc)
    (case a0 => k_is)
    (case l0 => k_is)
    (case e0 => k_is)
    (case k0 => k_is)
    (case a1 => k_is)
    (case l1 => k_is)
    (case e1 => k_is)
    (case k1 => k_is)
    (case a2 => k_is)
    (case l2 => k_is)
    (case e2 => k_is)
    (case k2 => k_is)
    (case a3 => k_is)
    (case l3 => k_is)
    (case e3 => k_is)
    (case k3 => k_is)
    (case a4 => k_is)
    (case l4 => k_is)
    (case e4 => k_is)
    (case k4 => k_is)
    (case a5 => k_is)
    (case l5 => k_is)
    (case e5 => k_is)
    (case k5 => k_is)
    (case a6 => k_is)
    (case l6 => k_is)
    (case e6 => k_is)
    (case k6 => k_is)
    (case a7 => k_is)
    (case l7 => k_is)
    (case e7 => k_is)
    (case k7 => k_is)
    (case a8 => k_is)
    (case l8 => k_is)
    (case e8 => k_is)
    (case k8 => k_is)
    (case a9 => k_is)
    (case l9 => k_is)
    (case e9 => k_is)
    (case k9 => k_is)
    (case a10 => k_is)
    (case l10 => k_is)
    (case e10 => k_is)
    (case k10 => k_is)
    (case a11 => k_is)
    (case l11 => k_is)
    (case e11 => k_is)
    (case k11 => k_is)
    (case a12 => k_is)
    (case l12 => k_is)
    (case e12 => k_is)
    (case k12 => k_is)
    (case a13 => k_is)
    (case l13 => k_is)
    (case e13 => k_is)
    (case k13 => k_is)
    (case a14 => k_is)
    (case l14 => k_is)
    (case e14 => k_is)
    (case k14 => k_is)
    (case a15 => k_is)
    (case l15 => k_is)
    (case e15 => k_is)
    (case k15 => k_is)
    (case a16 => k_is)
    (case l16 => k_is)
    (case e16 => k_is)
    (case k16 => k_is)
    (case a17 => k_is)
    (case l17 => k_is)
    (case e17 => k_is)
    (case k17 => k_is)
    (case a18 => k_is)
    (case l18 => k_is)
    (case e18 => k_is)
    (case k18 => k_is)
    (case a19 => k_is)
    (case l19 => k_is)
    (case e19 => k_is)
    (case k19 => k_is)
    (case a20 => k_is)
    (case l20 => k_is)
    (case e20 => k_is)
    (case k20 => k_is)
    (case a21 => k_is)
    (case l21 => k_is)
    (case e21 => k_is)
    (case k21 => k_is)
    (case a22 => k_is)
    (case l22 => k_is)
    (case e22 => k_is)
    (case k22 => k_is)
    (case a23 => k_is)
    (case l23 => k_is)
    (case e23 => k_is)
    (case k23 => k_is)
    (case a24 => k_is)
    (case l24 => k_is)
    (case e24 => k_is)
    (case k24 => k_is)
    (case a25 => k_is)
    (case l25 => k_is)
    (case e25 => k_is)
    (case k25 => k_is)
    (case a26 => k_is)
    (case l26 => k_is)
    (case e26 => k_is)
    (case k26 => k_is)
    (case a27 => k_is)
    (case l27 => k_is)
    (case e27 => k_is)
    (case k27 => k_is)
    (case a28 => k_is)
    (case l28 => k_is)
    (case e28 => k_is)
    (case k28 => k_is)
    (case a29 => k_is)
    (case l29 => k_is)
    (case e29 => k_is)
    (case k29 => k_is)
    (case a30 => k_is)
    (case l30 => k_is)
    (case e30 => k_is)
    (case k30 => k_is)
    (case a31 => k_is)
    (case l31 => k_is)
    (case e31 => k_is)
    (case k31 => k_is)
    (case a32 => k_is)
    (case l32 => k_is)
    (case e32 => k_is)
    (case k32 => k_is)
    (case a33 => k_is)
    (case l33 => k_is)
    (case e33 => k_is)
    (case k33 => k_is)
    (case z0 => k_is)
    (case z1 => k_is)
    (case z2 => k_is)
    (case z3 => k_is)
    (case z4 => k_is)
    (case z5 => k_is)
    (case z6 => k_is)
    (case z7 => k_is)
    (case z8 => k_is)
    (case z9 => k_is)
    (case z10 => k_is)
    (case z11 => k_is)
    (case z12 => k_is)
    (case z13 => k_is)
    (case z14 => k_is)
    (case y0 => k_is)
    (case y1 => k_is)
    (case y2 => k_is)
    (case y3 => k_is)
    (case y4 => k_is)
    (case y5 => k_is)
    (case y6 => k_is)
    (case yx0 => k_is)
    (case yx1 => k_is)
    (case ak => k_is)
    (case lk => k_is)
    (case aw => k_is)
    (case lw => k_is)
    (case q0 => k_is)
    (case q1 => k_is)
    (case q2 => k_is)
    (case zzValueError => k_is)
    (case rW => rfl)
    (case hW => k_is)
    (case iW => rfl)
    (case nW2 => first | kernel_rfl | rfl)
    (case rR => rfl)
    (case hR => k_is)
    (case iR => rfl)
    (case nR2 => first | kernel_rfl | rfl)
    (case rK => rfl)
    (case hK => k_is)
    (case iK => rfl)
    (case nK2 => first | kernel_rfl | rfl)
    (case rF => rfl)
    (case hF => k_is)
    (case iF => rfl)
    (case nF2 => first | kernel_rfl | rfl)
    (case rG => rfl)
    (case hG => k_is)
    (case iG => rfl)
    (case nG2 => first | kernel_rfl | rfl)
    (case rZ => rfl)
    (case hZ => k_is)
    (case iZ => rfl)
    (case nZ2 => first | kernel_rfl | rfl)
    (case dFW2 => decide)
    (case dFR2 => decide)
    (case dFK2 => decide)
    (case dGW2 => decide)
    (case dGR2 => decide)
    (case dGK2 => decide)
    (case dZW2 => decide)
    (case dZR2 => decide)
    (case dZK2 => decide)
    (case dFG2 => decide)
    (case dFZ2 => decide)
    (case dGZ2 => decide)
