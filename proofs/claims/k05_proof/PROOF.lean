import PyProof.Rows.All
import Wide.All
import OpenK.AllK
import Wide.FinOn
import HandS.ForMost
import HandS.AnyAll
import HandS.GenList
import HandS.IsInst
import HandS.Zip
import HandS.Deep
import HandS.StrMore
import HandS.Codes
import HandS.FStr
import KE.KDictZip
import HandS.SortOrd
import KE.LtData
import KE.KMinKey
import HandS.NamedTupSort
import HandS.More
import HandS.Wide
import HandS.Iter
import HandS.Conv
import HandS.Gcd
import HandS.Lambda
import HandS.ExcOwn
import HandS.HotCalls
import HandS.ExcIs
import HandS.ExcField
import KE.KExcIs
import HandS.ExcInit
import HandS.ClsMeth
import HandS.WordsExc
import HandS.Dict
import HandS.WordsDict
import HandS.TupAny
import HandS.Style
import HandS.EndTab
import PyProof.Rows.ChunkLeaf
import HandS.TryOnly
import PySem.Challenge.RW_runsorts_k05_merges
set_option Elab.async false
set_option maxRecDepth 100000
set_option maxHeartbeats 4000000
namespace GX
open PySem PySem.Spec PyProof.Rows L2

/-- the table of a def's code objects, whatever has come into it -/
def TabE (P : Addr) : Heap → Prop := fun g =>
  ∃ rs : Array Value, g.get? P = some { cls := .none, data := .fields rs } ∧ TriplesOk rs.toList
def Tab (H : Hp) (P : Addr) : Prop := H P = some (.ext (TabE P))
theorem tabE_stable {P : Addr} : ∀ g1 g2 : Heap, TabE P g1 → (∀ o, g1.get? P = some o → g2.get? P = some o) → TabE P g2 :=
  fun _ _ ⟨rs, e, t⟩ k => ⟨rs, k _ e, t⟩

section
variable {X : Cx} {pins : List (Addr × Obj)} {σ : L2.St} {H : Hp} {s : Shared}

/-- the table has grown; what else stood is kept -/
theorem tab_grown {P : Addr} {rs : Array Value} {g : Heap} {G : Array GenState} {dd : Drawn} {tk : Nat}
    (I : Inv X pins σ H s) (hP : Tab H P)
    (kp : ∀ b o, b ≠ P → s.heap.get? b = some o → g.get? b = some o)
    (at_ : g.get? P = some { cls := .none, data := .fields rs }) (ht : TriplesOk rs.toList) (hG : AllBare G) :
    Inv X pins σ H { s with heap := g, gens := G, drawn := dd, toks := tk } := by
  have free_ne : ∀ b, H b = none → b ≠ P := fun b e z => by
    subst z
    have q : H b = some (.ext (TabE b)) := hP
    rw [q] at e
    cases e
  have own_ne : ∀ b c, H b = some (.own c) → b ≠ P := fun b c e z => by
    subst z
    have q : H b = some (.ext (TabE b)) := hP
    rw [q] at e
    cases e
  refine I.step (g' := G) (d' := dd) (ch := []) (fun b hb => by cases hb) (fun b o _ _ _ e n => kp b o (free_ne b n) e)
    (fun b o _ _ _ e n => ⟨o.slots, kp b o (free_ne b n) e⟩) (fun _ _ _ _ n => n) (fun b o _ e => ?_)
    (fun _ _ e => e) (fun _ _ _ e => e) (fun b qs e => ⟨#[], by rw [e, Array.append_empty]⟩) (fun m hm => ?_) (fun b u e => ?_) hG
  · by_cases z : b = P
    · subst z
      exact ⟨_, at_⟩
    · exact ⟨o, kp b o z e⟩
  · obtain ⟨o, es, ep, ho, r⟩ := hm
    exact ⟨o, es, ep, kp _ o (free_ne _ I.free) ho, r⟩
  · by_cases z : b = P
    · subst z
      have q : H b = some (.ext (TabE b)) := hP
      rw [q] at e
      cases e
      exact ⟨⟨rs, at_, ht⟩, ⟨_, at_⟩, tabE_stable⟩
    · refine (I.hok b u e).stay (fun c o hc q => kp c o ?_ q) (fun _ q => q) (fun _ _ q => q)
      rcases hc with y | y
      · rw [y]
        exact z
      · exact own_ne c b y

/-- the context of a generator expression's element -/
abbrev genCx (X : Cx) (B : Around) (s0 : Shared) (H0 : Hp) (ce : Env) (fp : List Addr) (pn : List (Addr × Obj)) : Cx :=
  { X with A := B, s_0 := s0, H_0 := H0, env := ce, outer := X.stack, stack := ce :: X.stack, ex := fp, fn := fun _ => false, pn := pn, xe := fun _ _ => False }
/-- its environment -/
abbrev gEnv (X : Cx) (sc : Scope) (C : Addr) (cv : Value) : Env :=
  genEnv sc (cloFrom X.env.cells sc.names []) C cv builtinsNs X.env

theorem gen_start {B : Around} {sc : Scope} {own : List (Str × Nat)} {fp : List Addr} {cv : Value} {g : Heap} {go fo : Obj} {m : Str → Option Value} {gs : GenState} {tk : Nat}
    (I : Inv X pins σ H s) (ok : BlkOk X.N X.env.scope sc own) (nocell : ∀ y ∈ sc.names, y.2 ≠ .cell) (hN : X.N.Nodup)
    (hfp : ∀ b ∈ fp, FpOk X pins H b ∧ b < s.heap.objs.size) (hB : X.calm = true → B.handled = none)
    (hF : B.frames = some (gEnv X sc s.heap.objs.size cv :: X.stack))
    (hn : g.Ns s.heap.objs.size m) (hs : Heap.SameBut s.heap.objs.size (s.heap.push fo) g)
    (hgo : ∀ v, go.data ≠ .cell v) (hgp : (g.push go).get? g.objs.size = some go) (hgs : gs.bare = true) :
    Inv (genCx X B s H (gEnv X sc s.heap.objs.size cv) fp [(g.objs.size, go)]) [] (wipe σ (own.map (·.2))) H
      { s with gens := s.gens.push gs, toks := tk, heap := g.push go } := by
  have caught : ∀ y ∈ sc.names, y.2 = .free → ∃ c, X.env.cells.lookup y.1 = some c := fun y hy e =>
    (ok.free y hy e).elim (fun z => I.ok.has _ (.inl z)) (fun z => I.ok.has _ (.inr z))
  have gsz : g.objs.size = s.heap.objs.size + 1 := by rw [hs.1, Heap.size_push]
  have kp1 : ∀ b o, s.heap.get? b = some o → g.get? b = some o := fun b o e =>
    hs.extBut b o (Nat.ne_of_lt (Heap.lt_size e)) (Heap.get?_push_of_some _ e)
  have kp : ∀ b o, s.heap.get? b = some o → (g.push go).get? b = some o := fun b o e => Heap.get?_push_of_some _ (kp1 b o e)
  have down : ∀ {y c}, (gEnv X sc s.heap.objs.size cv).cells.lookup y = some c → X.env.cells.lookup y = some c ∧ c < s.heap.objs.size := fun {y c} e => by
    have e' : (cloFrom X.env.cells sc.names []).lookup y = some c := e
    rcases cloFrom_mem (PySem.mem_of_lookup e') with q | ⟨q1, q2⟩
    · cases q
    · obtain ⟨c', hc'⟩ := caught _ q1 rfl
      have hc2 : X.env.cells.lookup y = some c' := hc'
      rw [hc2] at q2
      have q3 : c = c' := q2
      subst q3
      obtain ⟨v, z⟩ := I.cell _ _ hc2
      exact ⟨hc2, z.lt⟩
  have up : ∀ {y}, sc.names.lookup y = some .free → ∃ c, (gEnv X sc s.heap.objs.size cv).cells.lookup y = some c ∧ X.env.cells.lookup y = some c := fun {y} hl => by
    obtain ⟨c, e⟩ := mem_lookup (cloFrom_has (cells := X.env.cells) (acc := []) (PySem.mem_of_lookup hl))
    exact ⟨c, e, (down e).1⟩
  have young : ∀ b, b < s.heap.objs.size → b ≠ s.heap.objs.size := fun b hb => Nat.ne_of_lt hb
  have okG : (genCx X B s H (gEnv X sc s.heap.objs.size cv) fp [(g.objs.size, go)]).Ok := by
    refine ⟨I.ok.mod, ok.kind, I.ok.glob, rfl, Nat.le_refl _, fun y z c e1 e2 => I.ok.inj y z c (down e1).1 (down e2).1, fun y hy => ?_,
      (fun y c z _ => nomatch z), hB, hF, .inr ⟨rfl, rfl⟩, fun b hb => ⟨young b (hfp b hb).2, fun y c e z => ?_⟩, I.bs, Nat.le_trans I.ok.bsz I.sz,
      fun b o e hb => ?_, fun b hb z => ?_, I.stack, I.stkFree⟩
    · rcases hy with z | z
      · exact absurd rfl (nocell _ (PySem.mem_of_lookup z))
      · obtain ⟨c, e, _⟩ := up z
        exact ⟨c, e⟩
    · exact (hfp b hb).1.2.2.2.2.1 y c (down e).1 z
    · rcases (hfp b hb).1.2.2.2.1 with z | z
      · exact I.ok.noex b o e z
      · exact Nat.lt_irrefl _ (Nat.lt_of_lt_of_le (Heap.lt_size e) (Nat.le_trans I.ok.bsz z))
    · rcases List.mem_cons.mp (I.stkSub b z) with y | y
      · exact (hfp b hb).1.2.1 y
      · exact (hfp b hb).1.2.2.1 y
  refine ⟨okG, rfl, I.bare.push hgs, Un.kept kp, ⟨m, ?_, fun i y av e1 e2 e3 => ?_⟩, fun y c e => ?_, I.hok.fresh (Nat.le_refl _), fun y c e => I.freeC y c (down e).1, fun p hp => ?_, I.hok.kept kp, by rw [wipe_length]; exact I.len⟩
  · exact hn.push _
  · obtain ⟨e2, ne⟩ := wipe_some e2
    have notOwn : ∀ k, sc.names.lookup y = some k → k = .local ∨ k = .cell → False := fun k hk hk' => by
      rcases ok.own _ (PySem.mem_of_lookup hk) hk' with q | q
      · obtain ⟨p, hp, hpy⟩ := List.mem_map.mp q
        have e4 := ok.ix p hp
        have hpy' : p.1 = y := hpy
        rw [hpy'] at e4
        exact ne (List.mem_map.mpr ⟨p, hp, nodup_ix hN e4 e1⟩)
      · exact q (List.mem_of_getElem? e1)
    have hfree : sc.names.lookup y = some .free := by
      rcases e3 with z | z | z
      · exact (notOwn _ z (.inl rfl)).elim
      · exact (notOwn _ z (.inr rfl)).elim
      · exact z
    obtain ⟨m', _, hl⟩ := I.loc
    have q0 := ok.free _ (PySem.mem_of_lookup hfree) rfl
    have hv : Vis X.env.scope y := q0.elim (fun z => .inr (.inl z)) (fun z => .inr (.inr z))
    obtain ⟨u, r, q⟩ := hl i y av e1 e2 hv
    obtain ⟨c, h1, h2⟩ := up hfree
    refine ⟨u, r, .inr ⟨.inr hfree, c, h1, ?_⟩⟩
    rcases q with ⟨k, _⟩ | ⟨_, c', e', z⟩
    · have k' : X.env.scope.names.lookup y = some .local := k
      rcases q0 with z | z
      · have z' : X.env.scope.names.lookup y = some .cell := z
        rw [z'] at k'
        cases k'
      · have z' : X.env.scope.names.lookup y = some .free := z
        rw [z'] at k'
        cases k'
    · rw [h2] at e'
      cases e'
      exact z.keeps kp
  · obtain ⟨v, z⟩ := I.cell y c (down e).1
    exact ⟨v, z.keeps kp⟩
  · have e : p = (g.objs.size, go) := by simpa using hp
    subst e
    refine ⟨hgp, I.hok.fresh (by rw [gsz]; exact Nat.le_succ _), ?_, fun z => ?_, hgo⟩
    · show g.objs.size ≠ s.heap.objs.size
      rw [gsz]
      exact Nat.succ_ne_self _
    · have z' : g.objs.size ∈ frs X.stack := z
      obtain ⟨_, o, ho, _⟩ := I.stack.mem z'
      have q := Heap.lt_size ho
      rw [gsz] at q
      exact absurd q (Nat.not_lt.mpr (Nat.le_succ _))
end
end GX
set_option Elab.async false
set_option maxRecDepth 100000
set_option maxHeartbeats 4000000
namespace GX
open PySem PySem.Spec PyProof.Rows L2

/-- what is known when an element has been handed out: a truth; where it is true, the generator goes on at any state with the same heap -/
def YAll (Y : Cx) (τ : L2.St) (Qf : Hp → Prop) : Protocol := fun _ _ v s kap =>
  ∃ (b : Bool) (H : Hp), v = .bool b ∧ Inv Y [] τ H s ∧ (b = false → Qf H) ∧
    (b = true → ∀ s2 : Shared, s2.heap = s.heap → s2.os = s.os → AllBare s2.gens → kap (.send .none) s2)
abbrev RAll (Y : Cx) (τ : L2.St) (Qt : Hp → Prop) : Nat → Shared → Shared → Prop := fun _ _ s =>
  ∃ H : Hp, Inv Y [] τ H s ∧ Qt H
theorem inv_samehp {Y : Cx} {pins : List (Addr × Obj)} {τ : L2.St} {H : Hp} {s s2 : Shared} (I : Inv Y pins τ H s) (h : s2.heap = s.heap) (ho : s2.os = s.os) (hb : AllBare s2.gens) : Inv Y pins τ H s2 := by
  have J := I.call' (s' := s2) (H' := H) (ch := []) ho (by rw [h]; exact Un.refl) (by rw [h]; exact I.hok) hb (fun b z => by cases z)
  exact J

section
variable {Y : Cx} {B : Around} {elt tg iter : Expr} {sc : Scope} {gpos : Pos} {it : Addr} {fp : List Addr} {tn : Nat → Heap → Prop} {J : It} {g : TG} {te : TE} {vs : List Nat}

/-- one turn of the walk that a generator expression's elements pass -/
def Step (J : It) (g : TG) (te : TE) (vs : List Nat) (τ : L2.St) (Qt Qf : Hp → Prop) (W : Nat → Nat → Hp → Prop) : Prop :=
  ∀ i m H, W i m H → (J.stop i H ∧ Qt H) ∨ (J.go i H ∧ ∀ x H', J.yld i H x H' → g x τ H' fun τ2 H2 => wipe τ2 vs = τ ∧
    te τ2 H2 fun y H3 => ∃ b, y = V.bl b ∧ (b = true → ∃ m', m' < m ∧ W (i + 1) m' H3) ∧ (b = false → Qf H3))

theorem seg_all {τ : L2.St} {Qt Qf : Hp → Prop} {W : Nat → Nat → Hp → Prop}
    (hA : Y.A = B.over (.compLoop (.GeneratorExp elt [⟨tg, iter, [], 0⟩] sc gpos) 0 (.ref it) .none Y.env) [])
    (hc : Y.calm = true) (hco : Y.env.scope.isCoroutine = false) (hfp : ∀ b ∈ fp, b ∈ Y.ex) (hpn : ∀ p ∈ Y.pn, p.1 ∉ fp)
    (xe : Y.xe = fun _ _ => False)
    (pg : PG Y tg g) (pe : PE Y elt te) (T : Turn Y.prog Y.w Y.K tg J fp it tn) (turn : Step J g te vs τ Qt Qf W) (hτ : ∀ τ2, wipe τ2 vs = τ → ∀ (k : Nat) v, τ[k]? = some (some v) → τ2[k]? = some (some v)) :
    ∀ (n i m : Nat) (s0 s : Shared) (H : Hp), m < n → Inv Y [] τ H s → tn i s.heap → (∀ b ∈ fp, H b = none) → W i m H →
      Seg (model Y.prog Y.w) B (fun n s₀ r s₁ => r = .ok .next ∧ RAll Y τ Qt n s₀ s₁) (YAll Y τ Qf) n s0
        (.compLoop (.GeneratorExp elt [⟨tg, iter, [], 0⟩] sc gpos) 0 (.ref it) .none Y.env)
        ((model Y.prog Y.w).den (.compLoop (.GeneratorExp elt [⟨tg, iter, [], 0⟩] sc gpos) 0 (.ref it) .none Y.env)) [] s := by
  intro n
  induction n with
  | zero => intro i m s0 s H hm; exact absurd hm (Nat.not_lt_zero _)
  | succ n ih =>
    intro i m s0 s H hm I st nf w0
    have fpo : ∀ {pins' : List (Addr × Obj)} {τ' : L2.St} {H' : Hp} {s' : Shared}, Inv Y pins' τ' H' s' → (∀ p ∈ pins', p.1 ∉ fp) → (∀ b ∈ fp, H' b = none) → ∀ b ∈ fp, FpOk Y pins' H' b := fun {pins' τ' H' s'} I' hp hn b hb =>
      ⟨hn b hb, (I'.ok.exf b (hfp b hb)).1, I'.ok.exfs b (hfp b hb), .inl (hfp b hb), fun x c e => (I'.ok.exf b (hfp b hb)).2 x c e, fun p q z => by
        rcases List.mem_append.mp q with q | q
        · exact hpn p q (by rw [z]; exact hb)
        · exact hp p q (by rw [z]; exact hb)⟩
    show Seg _ B _ _ _ s0 _ ((compTurn (.GeneratorExp elt [⟨tg, iter, [], 0⟩] sc gpos) 0 (.ref it) .none Y.env).onRaise (leaving Y.env)) [] s
    rw [compTurn_gen, Sem.onRaise_eq_wrap]
    apply seg_bind_wrap
    apply wpAny_standAt
    apply seg_bind_wrap
    rw [← hA]
    rcases turn i m H w0 with ⟨stop, q⟩ | ⟨go, step⟩
    · refine wpAny_mono (T.done Y rfl rfl rfl hc i [] s τ H (fun _ _ => False) I (fpo I (fun _ z => by cases z) nf) st stop) (fun r s1 h1 => ?_) (fun _ _ z => z.elim)
      obtain ⟨hr, I1⟩ := h1
      subst hr
      exact seg_end (.ok .next) ⟨rfl, H, I1, q⟩
    · refine wpAny_mono (T.item Y rfl rfl rfl hc i [] s τ H (fun _ _ => False) I (fpo I (fun _ z => by cases z) nf) st go) (fun r s1 h1 => ?_) (fun _ _ z => z.elim)
      obtain ⟨u, hr, h1⟩ := h1
      subst hr
      apply seg_bind_wrap
      rw [← hA]
      refine wpAny_mono h1 (fun _ s2 h2 => ?_) (fun _ _ z => z.elim)
      obtain ⟨x, H2, I2, r2, y2, st2, n2⟩ := h2
      have I2' := I2.pinned (fpo I2 (fun _ z => by cases z) n2) (T.obj _ _ st2)
      apply seg_bind_wrap
      rw [← hA]
      refine wpAny_mono (pg.run _ s2 τ H2 x u _ I2' r2 (step x H2 y2)) (fun _ s3 h3 => ?_) (fun e s3 z => by rw [xe] at z; exact z.elim)
      obtain ⟨τ3, H3, I3, hw3, q3⟩ := h3
      have hy : ∀ v, yieldOut Y.env v = yieldValue v := fun v => by simp only [yieldOut, hco, Bool.false_eq_true, if_false]
      simp only [List.forIn_nil, pure_bind, if_true, hy]
      rw [Sem.bind_eq_wrap', Sem.bind_eq_wrap', Sem.wrap_wrap, Sem.wrap_wrap]
      apply seg_wrap
      rw [← hA]
      refine wpAny_mono (pe.run _ s3 τ3 H3 _ I3 q3) (fun v s4 h4 => ?_) (fun e s4 z => by rw [xe] at z; exact z.elim)
      obtain ⟨yv, H4, I4, r4, b, rfl, ht, hf⟩ := h4
      have hv : v = .bool b := r4
      subst hv
      have kp : ∀ b' ∈ fp, ∀ o, s2.heap.get? b' = some o → s4.heap.get? b' = some o ∧ H4 b' = none := fun b' hb o e => by
        have z := I4.pin (b', o) (List.mem_append_right _ (List.mem_append_right _ (mem_pinsAt hb e)))
        exact ⟨z.1, z.2.1⟩
      have J4 : Inv Y [] τ H4 s4 := (I4.unpinned (pins := [])).weak (by rw [← hw3, wipe_length]) fun k v e => hτ τ3 hw3 k v e
      refine seg_at (seg_yield rfl rfl rfl ⟨b, H4, rfl, J4, hf, fun hb s5 e5 o5 b5 => ?_⟩)
      obtain ⟨m', hm', w'⟩ := ht hb
      refine seg_again rfl (ih (i + 1) m' s5 s5 H4 (by omega) (inv_samehp J4 e5 o5 b5) ?_ (fun b' hb' => ?_) w')
      · rw [e5]
        exact T.keep _ _ _ st2 fun b' hb' o e => (kp b' hb' o e).1
      · obtain ⟨o, e, _⟩ := T.obj _ _ st2 b' hb'
        exact (kp b' hb' o e).2
end
end GX
set_option Elab.async false
set_option maxRecDepth 100000
set_option maxHeartbeats 4000000
namespace GX
open PySem PySem.Spec PyProof.Rows L2

theorem seg_all_start {P : Program} {w : World} {K : PySem.W.Frag} {B : Around} {R : GenEnd} {Yp : Protocol} {n : Nat} {s0 s : Shared} {elt tg iter : Expr} {sc : Scope} {gpos : Pos} {it : Addr} {fp : List Addr} {tn : Nat → Heap → Prop} {J : It} {ce : Env}
    (T : Turn P w K tg J fp it tn) (st : tn 0 s.heap)
    (loop : Seg (model P w) B R Yp n s0 (.compLoop (.GeneratorExp elt [⟨tg, iter, [], 0⟩] sc gpos) 0 (.ref it) .none ce)
      ((model P w).den (.compLoop (.GeneratorExp elt [⟨tg, iter, [], 0⟩] sc gpos) 0 (.ref it) .none ce)) [] s) :
    Seg (model P w) B R Yp n s0 (.compStart (.GeneratorExp elt [⟨tg, iter, [], 0⟩] sc gpos) 0 (.ref it) .none ce)
      ((model P w).den (.compStart (.GeneratorExp elt [⟨tg, iter, [], 0⟩] sc gpos) 0 (.ref it) .none ce)) [] s := by
  show Seg _ B _ _ _ s0 _ ((compStart (.GeneratorExp elt [⟨tg, iter, [], 0⟩] sc gpos) 0 (.ref it) .none ce).onRaise (leaving ce)) [] s
  unfold compStart
  rw [Sem.onRaise_eq_wrap]
  show Seg _ B _ _ _ s0 _ ((ask >>= _).wrap _ _ _ _) [] s
  apply seg_bind_wrap
  apply wpAny_askSetting
  split
  · exact seg_again rfl loop
  · apply seg_bind_wrap
    apply wpAny_rule
    show Seg _ B _ _ _ s0 _ ((standAt iter.pos >>= _).wrap _ _ _ _) [] s
    apply seg_bind_wrap
    apply wpAny_standAt
    apply seg_bind_wrap
    exact T.self _ 0 s _ _ st (seg_again rfl loop)

section
variable {Y : Cx} {A : Around} {a : Addr} {g : Nat} {go : Obj} {τ : L2.St} {Qt Qf : Hp → Prop}
theorem code_all {R : Result → Shared → Prop} (hh : A.handled = none) (hroom : A.depth < recursionLimit) (hpin : (a, go) ∈ Y.pn) (hgen : ∀ h : Heap, h.get? a = some go → h.IsGen a g)
    (hT : ∀ s H, Inv Y [] τ H s → Qt H → R (.ok (.ret (.bool true))) s) (hF : ∀ s H, Inv Y [] τ H s → Qf H → R (.ok (.ret (.bool false))) s) :
    ∀ (n : Nat) (s : Shared) (gs : GenState), s.heap.IsGen a g → s.heap.NoLimit → AllBare s.gens → s.gens[g]? = some gs →
      (∀ s2 : Shared, s2.heap = s.heap → s2.os = s.os → AllBare s2.gens →
        gs.Goes (model Y.prog Y.w) A.in1.in1 (fun n s₀ r s₁ => r = .ok .next ∧ RAll Y τ Qt n s₀ s₁) (YAll Y τ Qf) n (.send .none) s2) →
      codeAny (model Y.prog Y.w) A (.builtin "all.loop" ⟨[.ref a], []⟩) R s := by
  intro n
  induction n with
  | zero =>
    intro s gs hg hl hb hgs hgo
    refine codeAny_builtin F.entry_all_loop ?_
    rw [Around.under_plainId F.plain_all_loop _]
    show wpAny _ A.in1 (pyNext (.ref a) >>= _) _ _ s
    refine wpAny_bind (GenW.wpAny_gsz (n := g + 1) (Array.getElem?_eq_some_iff.mp hgs).1 (wpAny_pyNext_genexpQ (A := A.in1) (P := RAll Y τ Qt) hh hl hroom hg hgs (hgo _ rfl rfl (allBare_setGen hb rfl)) (fun v s1 gs' hb' hv hsz => ?_) (fun s1 hp h' hk hsz => ?_)))
    · obtain ⟨b, H, rfl, I, hf, ht⟩ := hv
      apply wpAny_bind
      apply wpAny_holding
      apply wpAny_truthy_bool
      apply wpAny_bind
      apply wpAny_letGo
      cases b with
      | true => exact (ht rfl s1 rfl rfl I.bare).elim
      | false =>
        simp only [Bool.false_eq_true, if_false]
        apply wpAny_bind
        apply wpAny_rule
        apply wpAny_pure
        exact hF _ H (inv_samehp I rfl rfl (allBare_setGen I.bare hb')) (hf rfl)
    · obtain ⟨H, I, q⟩ := hp
      apply wpAny_bind
      apply wpAny_rule
      apply wpAny_pure
      have I2 := inv_samehp (s2 := s1.setGen g .finished) I rfl rfl (allBare_setGen I.bare rfl)
      exact hT _ H (I2.kept (t' := (s1.setGen g .finished).toks) hk) q
  | succ n ih =>
    intro s gs hg hl hb hgs hgo
    refine codeAny_builtin F.entry_all_loop ?_
    rw [Around.under_plainId F.plain_all_loop _]
    show wpAny _ A.in1 (pyNext (.ref a) >>= _) _ _ s
    refine wpAny_bind (GenW.wpAny_gsz (n := g + 1) (Array.getElem?_eq_some_iff.mp hgs).1 (wpAny_pyNext_genexpQ (A := A.in1) (P := RAll Y τ Qt) hh hl hroom hg hgs (hgo _ rfl rfl (allBare_setGen hb rfl)) (fun v s1 gs' hb' hv hsz => ?_) (fun s1 hp h' hk hsz => ?_)))
    · obtain ⟨b, H, rfl, I, hf, ht⟩ := hv
      apply wpAny_bind
      apply wpAny_holding
      apply wpAny_truthy_bool
      apply wpAny_bind
      apply wpAny_letGo
      cases b with
      | true =>
        simp only [if_true]
        apply wpAny_pure
        refine ⟨plainId_quiet F.plain_all_loop _, ih _ gs' (hgen _ (I.pin (a, go) (List.mem_append_left _ hpin)).1) I.nolimit (allBare_setGen I.bare hb') (setGen_at ?_) fun s2 e1 e2 e3 => ht rfl s2 e1 e2 e3⟩
        rw [GenW.setGen_size] at hsz
        exact hsz
      | false =>
        simp only [Bool.false_eq_true, if_false]
        apply wpAny_bind
        apply wpAny_rule
        apply wpAny_pure
        exact hF _ H (inv_samehp I rfl rfl (allBare_setGen I.bare hb')) (hf rfl)
    · obtain ⟨H, I, q⟩ := hp
      apply wpAny_bind
      apply wpAny_rule
      apply wpAny_pure
      have I2 := inv_samehp (s2 := s1.setGen g .finished) I rfl rfl (allBare_setGen I.bare rfl)
      exact hT _ H (I2.kept (t' := (s1.setGen g .finished).toks) hk) q
end
end GX
set_option Elab.async false
set_option maxRecDepth 100000
set_option maxHeartbeats 4000000
namespace GX
open PySem PySem.Spec PyProof.Rows L2

section
variable {X : Cx} {pins : List (Addr × Obj)} {σ : L2.St} {H : Hp} {s : Shared}

/-- a generator expression has been made, ready to be walked, in the state s5; what stood ahead of its frame: s4 -/
structure Ready (X : Cx) (pins : List (Addr × Obj)) (σ : L2.St) (own : List (Str × Nat)) (sc : Scope) (elt tg iter : Expr) (gpos : Pos) (J : It) (H1 : Hp) (a : Addr) (s5 : Shared)
    (s4 : Shared) (cv : Value) (g : Nat) (go : Obj) (it : Addr) (fp : List Addr) (tn : Nat → Heap → Prop) : Prop where
  outer : Inv X pins σ H1 s4
  fps : ∀ b ∈ fp, FpOk X pins H1 b ∧ b < s4.heap.objs.size
  turn : Turn X.prog X.w X.K tg J fp it tn
  st : tn 0 s5.heap
  inner : ∀ B : Around, (X.calm = true → B.handled = none) → B.frames = some (gEnv X sc s4.heap.objs.size cv :: X.stack) →
    Inv (genCx X B s4 H1 (gEnv X sc s4.heap.objs.size cv) fp [(a, go)]) [] (wipe σ (own.map (·.2))) H1 s5
  gen : ∀ h : Heap, h.get? a = some go → h.IsGen a g
  at_ : s5.heap.get? a = some go
  old : a ∉ fp
  gs : s5.gens[g]? = some (.fresh (.compStart (.GeneratorExp elt [⟨tg, iter, [], 0⟩] sc gpos) 0 (.ref it) .none (gEnv X sc s4.heap.objs.size cv)))
  lim : s5.heap.NoLimit
  bare : AllBare s5.gens

theorem gx_make {c P : Addr} {own : List (Str × Nat)} {sc : Scope} {elt tg iter : Expr} {gpos : Pos} {wi : TI} {k : Nat} {R : It → Hp → Prop} {Q' : Value → Shared → Prop}
    (hr : Room k X.A) (TB : GxR.TabB X.base X.mg c P) (hcode : X.env.code = .ref c) (hN : X.N.Nodup)
    (ok : BlkOk X.N X.env.scope sc own) (nocell : ∀ y ∈ sc.names, y.2 ≠ .cell) (dot : sc.names.lookup (".0" : Str) = some NameKind.local) (hco : sc.isCoroutine = false)
    (hi : PI X tg iter wi) (hs : ∀ v, genFold iter X.env v = pure v)
    (I : Inv X pins σ H s) (h : wi σ H fun J H1 => Tab H1 P ∧ R J H1)
    (hQ : ∀ J H1 a s5 s4 cv g go it fp tn, R J H1 → Ready X pins σ own sc elt tg iter gpos J H1 a s5 s4 cv g go it fp tn → Q' (.ref a) s5) :
    wpAny (model X.prog X.w) X.A (eval (.GeneratorExp elt [⟨tg, iter, [], 0⟩] sc gpos) X.env) Q' X.xe s := by
  have caught : ∀ y ∈ sc.names, y.2 = .free → ∃ c, X.env.cells.lookup y.1 = some c := fun y hy e =>
    (ok.free y hy e).elim (fun z => I.ok.has _ (.inl z)) (fun z => I.ok.has _ (.inr z))
  refine wpAny_GeneratorExp_make hco (closure_ok caught) nocell dot ok.kind (by have := hr.dp; omega) ?_ hs
  refine thn (hi.run pins s σ H _ I h) fun xv s1 h1 => thn h1 fun itv s2 h2 => ?_
  obtain ⟨it, fp, tn, J, H2, rfl, I2, T, st2, f2, hT, hR⟩ := h2
  obtain ⟨⟨rs, hPs, ht⟩, _, _⟩ := I2.hok P _ hT
  have cd : PySem.W.CodeHd s2.heap c P := TB.code.keeps I2.bk
  refine ⟨I2.nolimit, ?_⟩
  have fsz : ∀ b ∈ fp, b < s2.heap.objs.size := fun b hb => by
    obtain ⟨o, e, _⟩ := T.obj _ _ st2 b hb
    exact Heap.lt_size e
  have neP : ∀ b ∈ fp, b ≠ P := fun b hb z => by
    have q := (f2 b hb).1
    have q2 : H2 P = some (.ext (TabE P)) := hT
    rw [z, q2] at q
    cases q
  have cont : ∀ (cv : Value) (s4 : Shared), Inv X pins σ H2 s4 → (∀ b o, b ≠ P → s2.heap.get? b = some o → s4.heap.get? b = some o) → s2.heap.objs.size ≤ s4.heap.objs.size →
      wpAny (model X.prog X.w) X.A (builtinsFor X.env.globals X.env.builtins) (fun bi s₄ => ∀ h', h'.Ns s₄.heap.objs.size (fun y => if y = ".0" then some (Value.ref it) else none) →
        Heap.SameBut s₄.heap.objs.size (s₄.heap.push { cls := .type "frame", data := .dict #[] }) h' →
          Q' (.ref h'.objs.size) { s₄ with
            gens := s₄.gens.push (.fresh (.compStart (.GeneratorExp elt [⟨tg, iter, [], 0⟩] sc gpos) 0 (.ref it) .none (genEnv sc (cloFrom X.env.cells sc.names []) s₄.heap.objs.size cv bi X.env))),
            toks := s₄.toks + 1 + 1 + 1,
            heap := h'.push { cls := .type "generator", data := .fields #[.int s₄.gens.size 0, .str "<genexpr>" (s₄.toks + 1), .str (X.env.qual ++ "<genexpr>") (s₄.toks + 1 + 1)] } }) X.xe s4 := by
    intro cv s4 I4 kp sz
    obtain ⟨bm, ob, e1, e2, e3, e4, e5, e6, e7, e8⟩ := TB.bm
    refine wpAny_builtinsFor (m := X.mg) (by rw [I4.ok.glob]; exact I4.mod.glob.keeps I4.bk) e1 e2 (I4.bk _ _ e5) e6 e7 e8 ?_
    intro h' hn' hs'
    have hsz : h'.objs.size = s4.heap.objs.size + 1 := by rw [hs'.1, Heap.size_push]
    have kp4 : ∀ b o, s4.heap.get? b = some o → (h'.push { cls := .type "generator", data := .fields #[.int s4.gens.size 0, .str "<genexpr>" (s4.toks + 1), .str (X.env.qual ++ "<genexpr>") (s4.toks + 1 + 1)] }).get? b = some o := fun b o e =>
      Heap.get?_push_of_some _ (hs'.extBut b o (Nat.ne_of_lt (Heap.lt_size e)) (Heap.get?_push_of_some _ e))
    have fok : ∀ b ∈ fp, FpOk X pins H2 b ∧ b < s4.heap.objs.size := fun b hb => ⟨f2 b hb, Nat.lt_of_lt_of_le (fsz b hb) sz⟩
    refine hQ J H2 h'.objs.size _ s4 cv s4.gens.size { cls := .type "generator", data := .fields #[.int s4.gens.size 0, .str "<genexpr>" (s4.toks + 1), .str (X.env.qual ++ "<genexpr>") (s4.toks + 1 + 1)] } it fp tn hR
      ⟨I4, fok, T, ?_, fun B hB hF => gen_start I4 ok nocell hN fok hB hF hn' hs' (fun v z => by cases z) (Heap.get?_push_size _ rfl) rfl, fun h e => ⟨_, _, _, e, rfl, rfl, rfl⟩, Heap.get?_push_size _ rfl, fun z => ?_, Array.getElem?_push_size .., I4.nolimit.keeps kp4, I4.bare.push rfl⟩
    · refine T.keep _ _ _ st2 fun b hb o e => kp4 b o (kp b o (neP b hb) e)
    · have q := (fok _ z).2
      rw [hsz] at q
      exact absurd q (Nat.not_lt.mpr (Nat.le_succ _))
  cases hf : codeAmong gpos rs.toList with
  | none =>
    refine wpAny_genexprCodeX hcode (cd.code hPs ht) (cd.tab hPs) hf fun c' h' tk hx hge hlt hco' _ htab' _ => ?_
    obtain ⟨o1, vs, f1, tf, fl, tg', inF, tx, tt, op, _, _, _, _, _, _, _, _, _, htr, _⟩ := hco'
    exact cont _ { s2 with heap := h', toks := tk } (tab_grown (tk := tk) (dd := s2.drawn) (G := s2.gens) I2 hT (fun b o hb e => hx b o hb e) htab'.2 htr I2.bare) (fun b o hb e => hx b o hb e) (Nat.le_trans hge (Nat.le_of_lt hlt))
  | some cv =>
    refine wpAny_genexprCode_hit hcode (cd.code hPs ht) hf ?_
    exact cont cv s2 I2 (fun b o _ e => e) (Nat.le_refl _)

/-- all(e for x in xs): J what is walked; W by the turn and a measure -/
def tAll (P : Addr) (wi : TI) (g : TG) (te : TE) (vs : List Nat) : TE := fun σ H Q => wi σ H fun J H1 => Tab H1 P ∧
  ∃ W : Nat → Nat → Hp → Prop, (∃ m, W 0 m H1) ∧ Step J g te vs (wipe σ vs) (Q (.bl true)) (Q (.bl false)) W

theorem over_gx {A : Around} {elt tg iter : Expr} {sc : Scope} {gpos : Pos} {it : Addr} {ce : Env} :
    (A.over (.compLoop (.GeneratorExp elt [⟨tg, iter, [], 0⟩] sc gpos) 0 (.ref it) .none ce) []).frames = A.frames.map (ce :: ·) := by
  show pushEnvs [ce] (pushEnvs [] A.frames) = _
  cases A.frames <;> rfl
theorem room_gx {A : Around} {k : Nat} {elt tg iter : Expr} {sc : Scope} {gpos : Pos} {it : Addr} {ce : Env} (r : Room (k + 1) A) :
    Room k (A.in1.in1.over (.compLoop (.GeneratorExp elt [⟨tg, iter, [], 0⟩] sc gpos) 0 (.ref it) .none ce) []) := by
  refine ⟨r.hd, ?_, ?_⟩
  · have := r.dp
    show A.depth + 0 + 1 + 3 * k + 5 < _
    omega
  · have := r.un
    show A.units + 1 + 1 + 0 + 3 + 16 * k + 200 < _
    omega

theorem pe_all {c P : Addr} {own : List (Str × Nat)} {sc : Scope} {elt tg iter : Expr} {p pos gpos : Pos} {wi : TI} {g : TG} {te : TE} {k : Nat}
    (hr : Room (k + 1) X.A) (hg : Gl X "all") (hm : X.mg "all" = none) (TB : GxR.TabB X.base X.mg c P) (hcode : X.env.code = .ref c) (hc : X.calm = true) (hN : X.N.Nodup)
    (ok : BlkOk X.N X.env.scope sc own) (nocell : ∀ y ∈ sc.names, y.2 ≠ .cell) (dot : sc.names.lookup (".0" : Str) = some NameKind.local) (hco : sc.isCoroutine = false)
    (hi : PI X tg iter wi) (pg : ∀ (B : Around) (s0 : Shared) (H0 : Hp) (C : Addr) (cv : Value) (fp : List Addr) (pn : List (Addr × Obj)), PG (genCx X B s0 H0 (gEnv X sc C cv) fp pn) tg g)
    (pe : ∀ (B : Around) (s0 : Shared) (H0 : Hp) (C : Addr) (cv : Value) (fp : List Addr) (pn : List (Addr × Obj)), Room k B → PE (genCx X B s0 H0 (gEnv X sc C cv) fp pn) elt te)
    (hs : ∀ v, genFold iter X.env v = pure v := by intro _; rfl)
    (he : starEach [.GeneratorExp elt [⟨tg, iter, [], 0⟩] sc gpos] X.env = (false, eval (.GeneratorExp elt [⟨tg, iter, [], 0⟩] sc gpos) X.env) :: starEach [] X.env := by rfl) :
    PE X (.Call (.Name "all" p) [.GeneratorExp elt [⟨tg, iter, [], 0⟩] sc gpos] [] pos) (tAll P wi g te (own.map (·.2))) := by
  refine ⟨fun pins s σ H Q I h => ?_⟩
  refine wpAny_Call_Name_kw (ld_blt I hg hm (show bootBuiltins "all" = some (.builtin "all") by decide +kernel) ?_)
  refine PyProof.Rows.callWith_builtin1 ?_ he (by rfl)
  rw [he]
  show wpAny _ _ (spliced ((false, eval (.GeneratorExp elt [⟨tg, iter, [], 0⟩] sc gpos) X.env) :: backTo pos (starEach [] X.env))) _ _ s
  refine Calls.spliced_cons (gx_make (own := own) (R := fun J H1 => ∃ W : Nat → Nat → Hp → Prop, (∃ m, W 0 m H1) ∧ Step J g te (List.map Prod.snd own) (wipe σ (List.map Prod.snd own)) (Q (.bl true)) (Q (.bl false)) W)
    hr TB hcode hN ok nocell dot hco hi hs I h fun J H1 a s5 s4 cv gn go it fp tn hR rd => ?_)
  obtain ⟨W, ⟨m0, w0⟩, step⟩ := hR
  refine Calls.spliced_nil ?_
  refine call_function_tree F.kind_all F.plain_all F.entry_all (F.args_all1 _) ?_
  unfold Builtin.«all»
  apply wpAny_bind (m := oneArg "all" _)
  apply wpAny_pure
  apply wpAny_bind
  refine wpAny_pyIter_gen (rd.gen _ rd.at_) ?_
  apply wpAny_pure
  refine ⟨plainId_quiet F.plain_all_loop _, ?_⟩
  -- the element's context
  have hB : X.calm = true → (X.A.in1.in1.over (.compLoop (.GeneratorExp elt [⟨tg, iter, [], 0⟩] sc gpos) 0 (.ref it) .none (gEnv X sc s4.heap.objs.size cv)) []).handled = none := fun z => I.ok.hd z
  have hF : (X.A.in1.in1.over (.compLoop (.GeneratorExp elt [⟨tg, iter, [], 0⟩] sc gpos) 0 (.ref it) .none (gEnv X sc s4.heap.objs.size cv)) []).frames = some (gEnv X sc s4.heap.objs.size cv :: X.stack) := by
    rw [over_gx]
    show X.A.frames.map _ = _
    rw [I.ok.frames]
    rfl
  have J5 := rd.inner _ hB hF
  have back : ∀ (s6 : Shared) (H6 : Hp), Inv (genCx X (X.A.in1.in1.over (.compLoop (.GeneratorExp elt [⟨tg, iter, [], 0⟩] sc gpos) 0 (.ref it) .none (gEnv X sc s4.heap.objs.size cv)) []) s4 H1 (gEnv X sc s4.heap.objs.size cv) fp [(a, go)]) [] (wipe σ (own.map (·.2))) H6 s6 →
      Inv X pins σ H6 s6 := fun s6 H6 I6 => by
    exact rd.outer.call' (ch := fp) I6.os I6.base I6.hok I6.bare fun b hb => ⟨(rd.fps b hb).1.2.2.2.1, (rd.fps b hb).1.2.1, (rd.fps b hb).1.2.2.2.2.1, (rd.fps b hb).1.2.2.2.2.2⟩
  refine code_all (Y := genCx X (X.A.in1.in1.over (.compLoop (.GeneratorExp elt [⟨tg, iter, [], 0⟩] sc gpos) 0 (.ref it) .none (gEnv X sc s4.heap.objs.size cv)) []) s4 H1 (gEnv X sc s4.heap.objs.size cv) fp [(a, go)])
    (A := X.A) (go := go) (g := gn) (τ := wipe σ (own.map (·.2))) (Qt := Q (.bl true)) (Qf := Q (.bl false)) hr.hd hr.depth (by simp) rd.gen
    (fun s6 H6 I6 q6 => ⟨.bl true, H6, back s6 H6 I6, rfl, q6⟩) (fun s6 H6 I6 q6 => ⟨.bl false, H6, back s6 H6 I6, rfl, q6⟩) (m0 + 1) s5 _ (rd.gen _ rd.at_) rd.lim rd.bare rd.gs (fun s7 e7 o7 b7 => ?_)
  have J7 := inv_samehp J5 e7 o7 b7
  have st7 : tn 0 s7.heap := by
    rw [e7]
    exact rd.st
  refine ⟨rfl, seg_all_start rd.turn st7 ?_⟩
  refine seg_all (Y := genCx X (X.A.in1.in1.over (.compLoop (.GeneratorExp elt [⟨tg, iter, [], 0⟩] sc gpos) 0 (.ref it) .none (gEnv X sc s4.heap.objs.size cv)) []) s4 H1 (gEnv X sc s4.heap.objs.size cv) fp [(a, go)])
    rfl hc hco (fun b hb => hb) (fun q hq => ?_) rfl (pg _ _ _ _ _ _ _) (pe _ _ _ _ _ _ _ (room_gx hr)) rd.turn step (fun τ2 hw k v e => ?_) (m0 + 1) 0 m0 s7 s7 H1 (Nat.lt_succ_self _) J7 st7 (fun b hb => (rd.fps b hb).1.1) w0
  · have e : q = (a, go) := by simpa using hq
    subst e
    exact rd.old
  · rw [← hw] at e
    exact (wipe_some e).1
end
end GX
set_option Elab.async false
set_option maxRecDepth 100000
set_option maxHeartbeats 4000000
namespace GX
open PySem PySem.Spec PyProof.Rows L2

/-- a walk of n turns by a word of its own: the next turn is reached -/
def AllNx (n : Nat) (Pv : Nat → Hp → Prop) (i : Nat) (H : Hp) : Prop := ∃ m', m' < n - i ∧ (m' = n - (i + 1) ∧ i + 1 ≤ n ∧ Pv (i + 1) H)
theorem AllNx.mk {n : Nat} {Pv : Nat → Hp → Prop} {i : Nat} {H : Hp} (hi : i < n) (p : Pv (i + 1) H) : AllNx n Pv i H := ⟨n - (i + 1), by omega, rfl, hi, p⟩
theorem all_by {J : It} {g : TG} {te : TE} {vs : List Nat} {τ : L2.St} {Qt Qf : Hp → Prop} {H1 : Hp} (n : Nat) (Pv : Nat → Hp → Prop) (h0 : Pv 0 H1)
    (turn : ∀ i H, i < n → Pv i H → J.go i H ∧ ∀ x H', J.yld i H x H' → g x τ H' fun τ2 H2 => wipe τ2 vs = τ ∧ te τ2 H2 fun y H3 => ∃ b, y = V.bl b ∧ (b = true → AllNx n Pv i H3) ∧ (b = false → Qf H3))
    (stop : ∀ H, Pv n H → J.stop n H ∧ Qt H) :
    ∃ W : Nat → Nat → Hp → Prop, (∃ m, W 0 m H1) ∧ Step J g te vs τ Qt Qf W := by
  refine ⟨fun i m H => m = n - i ∧ i ≤ n ∧ Pv i H, ⟨n, rfl, Nat.zero_le _, h0⟩, ?_⟩
  rintro i m H ⟨rfl, hi, p⟩
  by_cases hlt : i < n
  · obtain ⟨go, nx⟩ := turn i H hlt p
    exact .inr ⟨go, nx⟩
  · have e : i = n := by omega
    subst e
    exact .inl (stop H p)
theorem bf {b : Bool} (h : ¬ b = true) : b = false := by
  cases b with
  | true => exact absurd rfl h
  | false => rfl
end GX

namespace RS
open PySem PySem.Spec PyProof.Rows L2 GX
/-! ### defs as constants of the module -/
/-- the def st stands as the module's x; c: its code object -/
structure DefAt (K : PySem.W.Frag) (mg : Str → Option Value) (x : Str) (st : Stmt) (c : Addr) : Prop where
  ex : ∃ (f : Addr) (oc : Value) (od : Option Addr) (kV doc pm : Value) (an : Option Addr) (ct : Value) (osl : Array (Option Value)),
    mg x = some (.ref f) ∧ K.lookup f = some ⟨oc, od, .func (PySem.W.fnOf x x (defArgs st) (defBody st) (defScope st) .none kV doc pm an (.ref c) ct), osl⟩ ∧
    PySem.W.codeIn K (.ref c) x = true ∧ PySem.W.keepIn K (.ref f) = true
/-- what a caller needs of a def: its promise -/
structure Cal (P : Program) (w : World) (K : PySem.W.Frag) (mg : Str → Option Value) (base : Heap) (CX : CXT) (k : Nat) (x : Str) (ps : List Str) (sp : Sp) : Prop where
  ex : ∃ (f : Addr) (fd : FuncData), FnOk P w K mg base CX k f fd ps sp ∧ mg x = some (.ref f) ∧ PySem.W.keepIn K (.ref f) = true ∧ Binds K fd ps []
section
variable {P : Program} {w : World} {K : PySem.W.Frag} {mg : Str → Option Value} {base : Heap}
theorem def_ok {CX : CXT} {x : Str} {st : Stmt} {c : Addr} {N ps : List Str} {k : Nat} {sp : Sp} (D : DefAt K mg x st c) (S : FnScope N ps (defScope st)) (len : ∀ vs H Q E, sp vs H Q E → vs.length = ps.length)
    (hb : ∀ (kV doc pm : Value) (an : Option Addr) (cdv ct : Value) (us : List Value), us.length = ps.length → bindArgs (PySem.W.fnOf x x (defArgs st) (defBody st) (defScope st) .none kV doc pm an cdv ct) ⟨us, []⟩ = pure (ps.zip us))
    (hbody : ∀ (f : Addr) (A : Around) (outer : List Env) (s : Shared) (H : Hp) (vs : List V) (Q : VK) (E : XK), Room k (A.deeper (envOfC x (defScope st) s.heap.objs.size f (.ref c))) → sp vs H Q E →
      ∃ t, PSs (cxOf CX P w K mg base N x (defScope st) f (.ref c) A outer s H E) (defBody st) t ∧ t { nx := fun _ H' => Q .non H', rt := Q } (start N vs) H) :
    Cal P w K mg base CX (k + 1) x ps sp := by
  obtain ⟨f, oc, od, kV, doc, pm, an, ct, osl, hm, lk, hcd, kp⟩ := D.ex
  exact ⟨f, _, fn_of lk hcd S len fun A outer s H vs Q E hr hsp => hbody f A outer s H vs Q E hr hsp, hm, kp, .all (hb kV doc pm an (.ref c) ct)⟩
/-- .. that no exception leaves -/
theorem def_ok0 {x : Str} {st : Stmt} {c : Addr} {N ps : List Str} {k : Nat} {sp : Sp} (D : DefAt K mg x st c) (S : FnScope N ps (defScope st)) (len : ∀ vs H Q E, sp vs H Q E → vs.length = ps.length)
    (hb : ∀ (kV doc pm : Value) (an : Option Addr) (cdv ct : Value) (us : List Value), us.length = ps.length → bindArgs (PySem.W.fnOf x x (defArgs st) (defBody st) (defScope st) .none kV doc pm an cdv ct) ⟨us, []⟩ = pure (ps.zip us))
    (hbody : ∀ (f : Addr) (A : Around) (outer : List Env) (s : Shared) (H : Hp) (vs : List V) (Q : VK) (E : XK), Room k (A.deeper (envOfC x (defScope st) s.heap.objs.size f (.ref c))) → sp vs H Q E →
      ∃ t, PSs (cxOf CX0 P w K mg base N x (defScope st) f (.ref c) A outer s H E).nox (defBody st) t ∧ t { nx := fun _ H' => Q .non H', rt := Q } (start N vs) H) :
    Cal P w K mg base CX0 (k + 1) x ps sp :=
  def_ok D S len hb fun f A outer s H vs Q E hr hsp => by
    obtain ⟨t, ht, q⟩ := hbody f A outer s H vs Q E hr hsp
    exact ⟨t, ht.nox, q⟩
end
section
variable {X : Cx} {CX : CXT} {k j : Nat} {ps : List Str} {sp : Sp} {E : XK} {x : Str} {p pos : Pos} {e : Expr} {es : List Expr} {t : TA}
theorem pe_c (c : Cal X.prog X.w X.K X.mg X.base CX k x ps sp) (hr : Room j X.A) (hk : k ≤ j) (hg : Gl X x) (hx : Passes CX X E) (ha : PA X (e :: es) t) (hdb : (x == ("__debug__" : Str)) = false := by decide)
    (he : starEach (e :: es) X.env = (false, eval e X.env) :: starEach es X.env := by rfl) (hpl : (backTo pos (starEach es X.env)).any (·.1) = false := by rfl) :
    PE X (.Call (.Name x p) (e :: es) [] pos) (tCall sp [] E t) := by
  obtain ⟨f, fd, F, hm, kp, hb⟩ := c.ex
  exact pe_call F (hr.mono hk) hg hm kp hb .nil hx ha hdb he hpl
end

/-! ### data -/
theorem sqT_same {K : PySem.W.Frag} {H H' : Hp} {a : Addr} {xs : List V} (e : Same H H') (h : SqT K H a xs) : SqT K H' a xs := by
  rcases h with (h | ⟨o, h⟩) | h
  · exact .inl (.inl (e _ _ h))
  · exact .inl (.inr ⟨o, e _ _ h⟩)
  · exact .inr h
mutual
theorem dp_same {K : PySem.W.Frag} {H H' : Hp} (e : Same H H') : ∀ (d : PyData) {v : V}, Dp K H v d → Dp K H' v d
  | .none, _, .non => .non
  | .bool b, _, .bl _ => .bl b
  | .int i, _, .int _ => .int i
  | .str x, _, .str _ => .str x
  | .list ds, _, .lst h hs => .lst (e.seq h) (dpAll_same e ds hs)
  | .tuple ds, _, .tup h hs => .tup (sqT_same e h) (dpAll_same e ds hs)
  | .dict _, _, h => nomatch h
theorem dpAll_same {K : PySem.W.Frag} {H H' : Hp} (e : Same H H') : ∀ (ds : List PyData) {vs : List V}, DpAll K H vs ds → DpAll K H' vs ds
  | [], _, .nil => .nil
  | d :: ds, _, .cons h hs => .cons (dp_same e d h) (dpAll_same e ds hs)
end
theorem dpLen {K : PySem.W.Frag} {H : Hp} : ∀ {vs : List V} {ds : List PyData}, DpAll K H vs ds → vs.length = ds.length
  | _, _, .nil => rfl
  | _, _, .cons _ t => congrArg (· + 1) (dpLen t)
theorem dpGet {K : PySem.W.Frag} {H : Hp} : ∀ {vs : List V} {ds : List PyData} {i : Nat} {v : V}, DpAll K H vs ds → vs[i]? = some v → ∃ d, ds[i]? = some d ∧ Dp K H v d
  | _, _, _, _, .nil, e => by simp at e
  | _, _, 0, _, .cons h _, e => by
    simp at e
    subst e
    exact ⟨_, rfl, h⟩
  | _, _, i + 1, v, .cons _ t, e => by
    obtain ⟨d, h1, h2⟩ := dpGet (i := i) (v := v) t (by simpa using e)
    exact ⟨d, by simpa using h1, h2⟩
theorem dpGet' {K : PySem.W.Frag} {H : Hp} {vs : List V} {ds : List PyData} {i : Nat} {d : PyData} (h : DpAll K H vs ds) (e : ds[i]? = some d) : ∃ v, vs[i]? = some v ∧ Dp K H v d := by
  have hl := dpLen h
  have hi : i < vs.length := by
    rw [hl]
    exact (List.getElem?_eq_some_iff.mp e).1
  obtain ⟨d', e', h'⟩ := dpGet h (List.getElem?_eq_getElem hi)
  rw [e] at e'
  cases e'
  exact ⟨_, List.getElem?_eq_getElem hi, h'⟩
theorem dpApp {K : PySem.W.Frag} {H : Hp} : ∀ {vs ws : List V} {ds es : List PyData}, DpAll K H vs ds → DpAll K H ws es → DpAll K H (vs ++ ws) (ds ++ es)
  | _, _, _, _, .nil, h => h
  | _, _, _, _, .cons h t, q => .cons h (dpApp t q)

/-- the name of a datum's type -/
def tyN : PyData → String
  | .none => "NoneType"
  | .bool _ => "bool"
  | .int _ => "int"
  | .str _ => "str"
  | .list _ => "list"
  | .tuple _ => "tuple"
  | .dict _ => "dict"
/-- isinstance(d, T), d's type being n -/
def isT (T n : String) : Bool := T == n || (T == "int" && n == "bool")
def isI (T : String) (d : PyData) : Bool := isT T (tyN d)
theorem kit_names : ∀ n ∈ ["NoneType", "bool", "int", "str", "list", "tuple"], ∀ T ∈ ["int", "bool", "str", "list", "tuple"], kitB n T = some (isT T n) := by decide +kernel
theorem dp_ty {K : PySem.W.Frag} {H : Hp} {v : V} {d : PyData} (h : Dp K H v d) : TyX K H v (.type (tyN d)) := by
  cases h with
  | non => exact .base .non
  | bl b => exact .base (.bl b)
  | int i => exact .base (.int i)
  | str x => exact .base (.str x)
  | lst q _ =>
    rcases q with (q | ⟨o, q⟩) | ⟨o, its, n, q, c, _⟩
    · exact .base (.lst q)
    · exact .base (.frz q)
    · exact .kList q c
  | tup q _ =>
    rcases q with (q | ⟨o, q⟩) | ⟨o, its, n, q, c, _⟩
    · exact .base (.tup q)
    · exact .fTuple q
    · exact .kTuple q c
theorem kit_isI {K : PySem.W.Frag} {T : String} (hT : T ∈ ["int", "bool", "str", "list", "tuple"]) {H : Hp} {v : V} {d : PyData} (h : Dp K H v d) : PySem.W.kitOne K (.type (tyN d)) (.type T) = some (isI T d) := by
  refine kit_ty (kit_names _ ?_ _ hT)
  cases h <;> simp [tyN]
theorem isi_at {K : PySem.W.Frag} {H : Hp} {v : V} {d : PyData} {T : String} {Q : VK} (h : Dp K H v d) (q : Q (.bl (isI T d)) H) (hT : T ∈ ["int", "bool", "str", "list", "tuple"] := by simp) : rIsi K [v, .ty T] H Q :=
  ⟨v, .ty T, _, _, isI T d, rfl, .ty T, dp_ty h, kit_isI hT h, q⟩
end RS
set_option Elab.async false
set_option maxRecDepth 100000
set_option maxHeartbeats 4000000
namespace RS
open PySem PySem.Spec PyProof.Rows L2 GX
section
variable {X : Cx}
/-! ### rules whose readings speak of data -/
/-- isinstance(x, T) -/
theorem call_isiD : CallR X (.builtin "isinstance") (fun xs H Q => ∃ x T d, xs = [x, .ty T] ∧ T ∈ ["int", "bool", "str", "list", "tuple"] ∧ Dp X.K H x d ∧ Q (.bl (isI T d)) H) := by
  intro pins s σ H xs us Q I r ⟨x, T, d, e, hT, hd, q⟩
  subst e
  exact call_isi pins s σ H _ us Q I r ⟨x, .ty T, _, _, isI T d, rfl, .ty T, dp_ty hd, kit_isI hT hd, q⟩
/-- how many items -/
def lenD : PyData → Option Nat
  | .list ds => some ds.length
  | .tuple ds => some ds.length
  | .str x => if x.length ≤ sizeLine then some x.length else none
  | _ => none
/-- len(x) of a list, a tuple, a text -/
theorem call_lenD : CallR X (.builtin "len") (fun xs H Q => ∃ x d n, xs = [x] ∧ Dp X.K H x d ∧ lenD d = some n ∧ Q (.int n) H) := by
  intro pins s σ H xs us Q I r ⟨x, d, n, e, hd, hn, q⟩
  subst e
  cases hd with
  | non => cases hn
  | bl _ => cases hn
  | int _ => cases hn
  | str y =>
    simp only [lenD] at hn
    split at hn
    · rename_i hz
      cases hn
      exact call_len_str pins s σ H _ us Q I r ⟨y, rfl, hz, q⟩
    · cases hn
  | @lst a ys ds h hs =>
    cases hn
    rw [← dpLen hs] at q
    exact call_len_seq pins s σ H _ us Q I r ⟨a, ys, rfl, .inl h, q⟩
  | @tup a ys ds h hs =>
    cases hn
    rw [← dpLen hs] at q
    exact call_len_seq pins s σ H _ us Q I r ⟨a, ys, rfl, .inr h, q⟩
/-- the items of a list or tuple -/
def itemsD : PyData → Option (List PyData)
  | .list ds => some ds
  | .tuple ds => some ds
  | _ => none
/-- x[i] of a list or a tuple -/
theorem ixD : IxR X (fun x y H Q => ∃ d ds i d', Dp X.K H x d ∧ itemsD d = some ds ∧ y = .int i ∧ atI ds i = some d' ∧ ∀ v, Dp X.K H v d' → Q v H) := by
  intro value slice pins s σ H x y v u Q I rx ry ⟨d, ds, i, d', hd, hi, ey, ha, q⟩ hs
  have at_ : ∀ {vs : List V}, DpAll X.K H vs ds → ∃ v, atI vs i = some v ∧ Dp X.K H v d' := fun {vs} hv => by
    unfold atI at ha ⊢
    rw [← dpLen hv] at ha
    cases hx : ixN vs.length i with
    | none => rw [hx] at ha; cases ha
    | some j =>
      rw [hx] at ha
      exact dpGet' hv ha
  cases hd with
  | non => cases hi
  | bl _ => cases hi
  | int _ => cases hi
  | str _ => cases hi
  | @lst a ys es h hes =>
    cases hi
    obtain ⟨z, hz, hzd⟩ := at_ hes
    exact ix_list value slice pins s σ H _ y v u Q I rx ry ⟨a, ys, i, z, rfl, ey, h, hz, q z hzd⟩ hs
  | @tup a ys es h hes =>
    cases hi
    obtain ⟨z, hz, hzd⟩ := at_ hes
    exact ix_tup value slice pins s σ H _ y v u Q I rx ry ⟨a, ys, i, z, rfl, ey, h, hz, q z hzd⟩ hs
end
end RS
set_option Elab.async false
set_option maxRecDepth 100000
set_option maxHeartbeats 4000000
namespace RS
open PySem L2
def top (i : Nat) : Stmt := PySem.Challenge.pw_runsorts_k05_merges.main.body.getD i (.Pass ⟨0, 0, 0, 0⟩)

abbrev s_BadRows_init : Stmt := inClass (top 4) 0
abbrev s_BadRuns_init : Stmt := inClass (top 5) 0
abbrev s_BadText_init : Stmt := inClass (top 16) 0
abbrev sIsNumber : Stmt := top 23
abbrev sIsWord : Stmt := top 24
abbrev sIsValue : Stmt := top 25
abbrev sIsRow : Stmt := top 26
abbrev sIsPart : Stmt := top 27
abbrev sCheckKinds : Stmt := top 28
abbrev sCheckOrder : Stmt := top 29
abbrev sWorths : Stmt := top 30
abbrev sRank : Stmt := top 31
abbrev s_goes_ahead : Stmt := top 32
abbrev s_is_told : Stmt := top 35
abbrev s_is_run : Stmt := top 36
abbrev s_check_runs : Stmt := top 37
abbrev s_merged : Stmt := top 38
abbrev s_merged_pair : Stmt := top 39
abbrev sBegun : Stmt := top 41
abbrev sTake : Stmt := top 42
abbrev sAlike : Stmt := top 43
abbrev sClass : Stmt := top 44
abbrev sTold : Stmt := top 45
abbrev sAll : Stmt := top 46
abbrev sKinds : Stmt := top 47
abbrev sOrder : Stmt := top 48
abbrev sValue : Stmt := top 49
abbrev sRows : Stmt := top 50
abbrev sAhead : Stmt := top 51
abbrev sSorted : Stmt := top 52
abbrev sPairs : Stmt := top 53
abbrev s__law_parts : Stmt := top 54
abbrev s__law_bad : Stmt := top 55
abbrev sLaw : Stmt := top 56

abbrev nKinds : Str := "_law_kinds_here"

/-- what the module's names hold -/
structure Txt (K : PySem.W.Frag) (mg : Str → Option Value) : Prop where
  isinstance : mg "isinstance" = none
  int_ : mg "int" = none
  bool_ : mg "bool" = none
  str_ : mg "str" = none
  list_ : mg "list" = none
  tuple_ : mg "tuple" = none
  len : mg "len" = none
  all : mg "all" = none
  zip : mg "zip" = none
  enumerate : mg "enumerate" = none
  ord : mg "ord" = none
  range : mg "range" = none
  sorted : mg "sorted" = none
  max : mg "max" = none
  min : mg "min" = none
  columns : ∃ t, mg "MOST_COLUMNS" = some (.int 4 t)
  number : ∃ t, mg "MOST_NUMBER" = some (.int 999 t)
  letters : ∃ t, mg "MOST_LETTERS" = some (.int 6 t)
  kinds : ∃ a, mg "KINDS" = some (.ref a) ∧ ∀ H, SqT K H a [.str "number", .str "word"]
  ways : ∃ a, mg "WAYS" = some (.ref a) ∧ ∀ H, SqT K H a [.str "up", .str "down"]
end RS
set_option Elab.async false
set_option maxRecDepth 100000
set_option maxHeartbeats 4000000
namespace RS
open PySem PySem.Spec PyProof.Rows L2 GX

/-! ### the mathematics: what a number, a word, a value, a row is -/
def isNum (d : PyData) : Bool := isI "int" d && !isI "bool" d

section
variable {P : Program} {w : World} {K : PySem.W.Frag} {mg : Str → Option Value} {base : Heap}
theorem scIsNumber : FnScope ["value"] ["value"] (defScope sIsNumber) := ⟨rfl, rfl, rfl, by decide +kernel, rfl, by decide +kernel, by decide +kernel⟩
def spNum (K : PySem.W.Frag) : Sp := fun vs H Q _ => ∃ (v : V) (d : PyData), vs = [v] ∧ Dp K H v d ∧ Q (.bl (isNum d)) H
theorem is_number_ok {c : Addr} (D : DefAt K mg "is_number" sIsNumber c) (T : Txt K mg) : Cal P w K mg base CX0 1 "is_number" ["value"] (spNum K) := by
  have sc := scIsNumber
  refine def_ok0 D sc (fun vs H Q E h => ?_) (fun _ _ _ _ _ _ us hl => match us, hl with | [_], _ => rfl) (fun f A outer s H vs Q E hr h => ?_)
  · obtain ⟨v, d, rfl, _⟩ := h
    rfl
  · obtain ⟨v, d, rfl, hd, k⟩ := h
    refine ⟨_, (pss_one (ps_ret (pe_and (pe_callB call_isiD (by rfl) T.isinstance (by decide +kernel) (pa_cons (pv 0) (pa_cons (pe_bltn (v := V.ty "int") (u := Value.type "int") (by rfl) T.int_ (by decide +kernel) rfl) pa_nil))) (pe_one (pe_not (pe_callB call_isiD (by rfl) T.isinstance (by decide +kernel) (pa_cons (pv 0) (pa_cons (pe_bltn (v := V.ty "bool") (u := Value.type "bool") (by rfl) T.bool_ (by decide +kernel) rfl) pa_nil)))))))), ?_⟩
    refine ⟨_, rfl, _, _, _, rfl, by simp, hd, _, rfl, ?_⟩
    refine ite2 (fun h1 => ?_) (fun h1 => ?_)
    · refine ⟨_, rfl, _, _, _, rfl, by simp, hd, _, rfl, ?_⟩
      have e : isNum d = !isI "bool" d := by unfold isNum; rw [h1, Bool.true_and]
      rw [← e]
      exact k
    · have e : isNum d = false := by unfold isNum; rw [bf h1, Bool.false_and]
      rw [← e]
      exact k

end
end RS
set_option Elab.async false
set_option maxRecDepth 100000
set_option maxHeartbeats 4000000
namespace RS
open PySem PySem.Spec PyProof.Rows L2 GX

/-! ### kinds, values, rows -/
/-- the name of a kind: true a word's, false a number's -/
def kindS (b : Bool) : Str := if b then "word" else "number"
def kindsD (ks : List Bool) : PyData := .tuple (ks.map fun b => .str (kindS b))
theorem kindS_word (b : Bool) : decide (V.str (kindS b) = V.str "word") = b := by
  cases b
  · decide +kernel
  · decide +kernel
theorem isNum_int {K : PySem.W.Frag} {H : Hp} {v : V} {d : PyData} (h : Dp K H v d) (e : isNum d = true) : ∃ n, d = .int n ∧ v = .int n := by
  cases h <;> first | exact ⟨_, rfl, rfl⟩ | (simp [isNum, isI, isT, tyN] at e)

end RS
set_option Elab.async false
set_option maxRecDepth 100000
set_option maxHeartbeats 4000000
namespace RS
open PySem PySem.Spec PyProof.Rows L2 GX

/-- many new objects are laid and tracked at once -/
theorem laid_many {X : Cx} {pins : List (Addr × Obj)} {σ : L2.St} {H H2 : Hp} {s : Shared} {g : Heap} {tk : Nat} (I : Inv X pins σ H s) (kp : ∀ b u, s.heap.get? b = some u → g.get? b = some u)
    (old : ∀ b, b < s.heap.objs.size → H2 b = H b) (new : ∀ b o, s.heap.objs.size ≤ b → H2 b = some o → ObjOk X.prog X.w H2 g b o) : Inv X pins σ H2 { s with heap := g, toks := tk } := by
  have up : ∀ b o, H b = some o → H2 b = some o := fun b o e => by rw [old b (I.hok.lt e)]; exact e
  refine I.un (t' := tk) ⟨fun b o e _ _ _ => kp b o e, fun b o e _ _ _ => ⟨o.slots, kp b o e⟩, fun b o e n _ => by rw [old b (Heap.lt_size e)]; exact n, fun b o e _ => ⟨o, kp b o e⟩,
    fun b xs e => up b _ e, fun b o u e => up b _ e, fun b ps e => ⟨#[], by rw [up b _ e, Array.append_empty]⟩⟩ (fun b o e => ?_)
  by_cases hb : b < s.heap.objs.size
  · rw [old b hb] at e
    exact (I.hok b o e).stay (fun c u _ q => kp c u q) (fun c q => up c _ q) (fun c xs q => up c _ q)
  · exact new b o (Nat.le_of_not_lt hb) e

theorem enum_no_len : typeLookup (.type "enumerate") "__len__" = pure none := by rw [typeLookup_type, builtinLookup_eq_fast]; kernel_rfl
theorem enum_no_hint : typeLookup (.type "enumerate") "__length_hint__" = pure none := by rw [typeLookup_type, builtinLookup_eq_fast]; kernel_rfl

/-- the enumeration e over the iterator it of the list l stands ahead of item i -/
def EnumAt (h : Heap) (e it l : Addr) (i : Nat) : Prop :=
  h.IsListIter it l i ∧ ((i = 0 ∧ IsEnum h e it 0 .none) ∨ ∃ (T : Addr) (f : Bool) (x : Value) (o : Obj), IsEnumHeld h e it (i : Int) x T f ∧ h.get? T = some o ∧ T ≠ e ∧ T ≠ it)
/-- the pairs that have been put into acc -/
def Pairs (h : Heap) (lo : Nat) (items : Array Value) (acc : Array Value) : Prop :=
  ∀ j v, acc[j]? = some v → ∃ (T : Addr) (tk : Nat) (x : Value), v = .ref T ∧ lo ≤ T ∧ items[j]? = some x ∧ h.get? T = some { cls := .type "tuple", data := .seq #[.int (j : Nat) tk, x] }
section
variable {prog : Program} {w : World} {A : Around} {s0 : Shared} {S e it l : Addr} {items : Array Value}
theorem enum_next {E : Value → Shared → Prop} {s : Shared} {i : Nat} {x : Value} {Q : Option Value → Shared → Prop} (hs : EnumAt s.heap e it l i) (hl : s.heap.IsList l items) (hx : items[i]? = some x) (hne : e ≠ it)
    (he : e < s.heap.objs.size) (hi : it < s.heap.objs.size)
    (hQ : ∀ g, EnumAt g e it l (i + 1) → g.get? s.heap.objs.size = some { cls := .type "tuple", data := .seq #[.int (i : Nat) s.toks, x] } → (∀ b o, b ≠ e → b ≠ it → s.heap.get? b = some o → g.get? b = some o) →
      Q (some (.ref s.heap.objs.size)) { s with heap := g, toks := s.toks + 1 }) : wpAny (model prog w) A (pyNext (.ref e)) Q E s := by
  obtain ⟨hit, ⟨rfl, h0⟩ | ⟨T, f, y, o, h1, hT, hTe, hTi⟩⟩ := hs
  · refine wpAny_pyNext_enum_item (i := 0) h0 hit hl hx hne fun g a b c _ d => hQ g ⟨b, .inr ⟨_, _, _, _, a, c, Nat.ne_of_gt he, Nat.ne_of_gt hi⟩⟩ c d
  · exact wpAny_pyNext_enum_item_held h1 hT hTe hTi hit hl hx hne fun g a b c _ d => hQ g ⟨b, .inr ⟨T, true, y, o, a, d T o hTe hTi hT, hTe, hTi⟩⟩ c d
theorem enum_stop {E : Value → Shared → Prop} {s : Shared} {i : Nat} {Q : Option Value → Shared → Prop} (hh : A.handled = none) (hs : EnumAt s.heap e it l i) (hl : s.heap.IsList l items) (hx : items[i]? = none)
    (hQ : ∀ g, Heap.ExtBut it s.heap g → Q none { s with heap := g }) : wpAny (model prog w) A (pyNext (.ref e)) Q E s := by
  obtain ⟨hit, ⟨rfl, h0⟩ | ⟨T, f, y, o, h1, hT, hTe, hTi⟩⟩ := hs
  · exact wpAny_pyNext_enum_end hh h0 hit hl hx hQ
  · exact wpAny_pyNext_enum_end_held hh h1 hit hl hx hQ

theorem enum_loop {R : Result → Shared → Prop} {res : Value} (hh : A.handled = none) (hne : e ≠ it) (hSe : S ≠ e) (hSi : S ≠ it) (hSl : S ≠ l) (hle : l ≠ e) (hli : l ≠ it) (lo : Nat) (hz : items.size ≤ sizeLine)
    (hend : ∀ g tk acc c, g.get? S = some (lstObj acc c) → acc.size = items.size → Pairs g lo items acc → (∀ b o, b ≠ e → b ≠ it → b ≠ S → s0.heap.get? b = some o → g.get? b = some o) → R (.ok (.ret res)) { s0 with heap := g, toks := tk }) :
    ∀ (k i : Nat) (g : Heap) (tk : Nat) (acc : Array Value) (c : Nat), items.size - i = k → i ≤ items.size → acc.size = i → g.get? S = some (lstObj acc c) → EnumAt g e it l i → g.IsList l items → lo ≤ g.objs.size → e < lo → it < lo → S < lo →
      Pairs g lo items acc → (∀ b o, b ≠ e → b ≠ it → b ≠ S → s0.heap.get? b = some o → g.get? b = some o) →
      codeAny (model prog w) A (.builtin "list.extend.loop" ⟨[.ref S, .ref e, res], []⟩) R { s0 with heap := g, toks := tk } := by
  intro k
  induction k with
  | zero =>
    intro i g tk acc c hk hi ha hS he hl hlo helo hilo hSlo hp hkp
    have hin : i = items.size := by omega
    refine codeAny_builtin F.entry_extend_loop ?_
    rw [Around.under_plainId F.plain_extend_loop _]
    show wpAny _ A.in1 (pyNext (.ref e) >>= _) _ _ _
    refine wpAny_bind (enum_stop (s := { s0 with heap := g, toks := tk }) hh he hl (by rw [hin]; simp) fun g2 ext => ?_)
    refine wpAny_pure (hend g2 tk acc c (ext S _ hSi hS) (by omega) (fun j v hv => ?_) (fun b o h1 h2 h3 q => ext b o h2 (hkp b o h1 h2 h3 q)))
    obtain ⟨T, tk', x, e1, e2, e3, e4⟩ := hp j v hv
    exact ⟨T, tk', x, e1, e2, e3, ext T _ (Nat.ne_of_gt (Nat.lt_of_lt_of_le hilo e2)) e4⟩
  | succ k ih =>
    intro i g tk acc c hk hi ha hS he hl hlo helo hilo hSlo hp hkp
    have hlt : i < items.size := by omega
    refine codeAny_builtin F.entry_extend_loop ?_
    rw [Around.under_plainId F.plain_extend_loop _]
    show wpAny _ A.in1 (pyNext (.ref e) >>= _) _ _ _
    refine wpAny_bind (enum_next (s := { s0 with heap := g, toks := tk }) he hl (Array.getElem?_eq_getElem hlt) hne (Nat.lt_of_lt_of_le helo hlo) (Nat.lt_of_lt_of_le hilo hlo) fun g2 he2 hT2 hk2 => ?_)
    have hS2 : g2.get? S = some (lstObj acc c) := hk2 S _ hSe hSi hS
    have gT : g.objs.size ≠ S := fun z => Nat.lt_irrefl _ (Nat.lt_of_lt_of_le (by rw [z]; exact hSlo) hlo)
    have gTe : g.objs.size ≠ e := fun z => Nat.lt_irrefl _ (Nat.lt_of_lt_of_le (by rw [z]; exact helo) hlo)
    have gTi : g.objs.size ≠ it := fun z => Nat.lt_irrefl _ (Nat.lt_of_lt_of_le (by rw [z]; exact hilo) hlo)
    show wpAny _ A.in1 (updateSeq S (·.push (.ref g.objs.size)) >>= _) _ _ _
    apply wpAny_bind
    refine wpAny_updateSeq hS2 rfl (wpAny_pure ⟨plainId_quiet F.plain_extend_loop _, ?_⟩) (by omega) (by show (acc.push _).size ≤ sizeLine + 1; rw [Array.size_push]; omega)
    have up : ∀ b o, b ≠ S → g2.get? b = some o → (g2.update S (Obj.mapSeq (·.push (.ref g.objs.size)))).get? b = some o := fun b o hb q => (Heap.get?_update_other _ _ (Ne.symm hb)).trans q
    have lt2 : g.objs.size < g2.objs.size := Heap.lt_size hT2
    refine ih (i + 1) _ _ (acc.push (.ref g.objs.size)) _ (by omega) hlt (by rw [Array.size_push]; omega) (Heap.get?_update_self _ hS2 rfl) ?_ ?_ ?_ helo hilo hSlo (fun j v hv => ?_) (fun b o h1 h2 h3 q => up b o h3 (hk2 b o h1 h2 (hkp b o h1 h2 h3 q)))
    · obtain ⟨⟨oi, hoi, r⟩, hd⟩ := he2
      refine ⟨⟨oi, up it oi (Ne.symm hSi) hoi, r⟩, ?_⟩
      rcases hd with ⟨z, q⟩ | ⟨T, f, x, o, q1, q2, q3, q4⟩
      · exact .inl ⟨z, up e _ (Ne.symm hSe) q⟩
      · by_cases hTS : T = S
        · subst hTS
          exact .inr ⟨T, f, x, _, up e _ (Ne.symm hSe) q1, Heap.get?_update_self _ hS2 rfl, q3, q4⟩
        · exact .inr ⟨T, f, x, o, up e _ (Ne.symm hSe) q1, up T o hTS q2, q3, q4⟩
    · obtain ⟨ol, hol, r⟩ := hl
      exact ⟨ol, up l ol (Ne.symm hSl) (hk2 l ol hle hli hol), r⟩
    · rw [Heap.size_update]
      exact Nat.le_trans hlo (Nat.le_of_lt lt2)
    · rw [Array.getElem?_push] at hv
      split at hv
      · rename_i hj
        cases hv
        have ej : j = i := by omega
        subst ej
        exact ⟨g.objs.size, tk, items[j], rfl, hlo, Array.getElem?_eq_getElem hlt, up _ _ gT hT2⟩
      · obtain ⟨T, tk', x, e1, e2, e3, e4⟩ := hp j v hv
        have nTS : T ≠ S := Nat.ne_of_gt (Nat.lt_of_lt_of_le hSlo e2)
        exact ⟨T, tk', x, e1, e2, e3, up T _ nTS (hk2 T _ (Nat.ne_of_gt (Nat.lt_of_lt_of_le helo e2)) (Nat.ne_of_gt (Nat.lt_of_lt_of_le hilo e2)) e4)⟩
end
end RS
set_option Elab.async false
set_option maxRecDepth 100000
set_option maxHeartbeats 4000000
namespace RS
open PySem PySem.Spec PyProof.Rows L2 GX

/-- list(e), e an enumeration of the list l that has just been made -/
theorem list_of_enum {P : Program} {w : World} {A : Around} {E : Value → Shared → Prop} {s : Shared} {e it l : Addr} {items : Array Value} {Q : Value → Shared → Prop} (hh : A.handled = none) (he : IsEnum s.heap e it 0 .none) (hit : s.heap.IsListIter it l 0) (hl : s.heap.IsList l items)
    (hne : e ≠ it) (hle : l ≠ e) (hli : l ≠ it) (hz : items.size ≤ sizeLine)
    (hQ : ∀ g tk acc c, g.get? s.heap.objs.size = some (lstObj acc c) → acc.size = items.size → Pairs g (s.heap.objs.size + 1) items acc → (∀ b o, b ≠ e → b ≠ it → s.heap.get? b = some o → g.get? b = some o) → Q (.ref s.heap.objs.size) { s with heap := g, toks := tk }) :
    wpAny (model P w) A (call (.type "list") [.ref e]) Q E s := by
  have lte : e < s.heap.objs.size := Heap.lt_size he
  have lti : it < s.heap.objs.size := by obtain ⟨o, ho, _⟩ := hit; exact Heap.lt_size ho
  have ltl : l < s.heap.objs.size := by obtain ⟨o, ho, _⟩ := hl; exact Heap.lt_size ho
  have hSe : s.heap.objs.size ≠ e := Nat.ne_of_gt lte
  have tyE : ∀ {g : Heap}, (∀ b o, s.heap.get? b = some o → g.get? b = some o) → ({ s with heap := g } : Shared).TypeIs (.ref e) "enumerate" := fun {g} q => ⟨_, q _ _ he, rfl⟩
  refine callType_codes (Q₁ := fun obj s₁ => obj = .ref s.heap.objs.size ∧ s₁ = { s with heap := s.heap.push { cls := .type "list", data := .seq #[] } }) PySem.F.called_list (PySem.F.typeCall_list_1 _) PySem.F.entry_list_init
    (code_list_new _ ⟨rfl, rfl⟩) fun obj s₁ h₁ => ?_
  obtain ⟨rfl, rfl⟩ := h₁
  have hS : (s.heap.push { cls := .type "list", data := .seq #[] }).get? s.heap.objs.size = some { cls := .type "list", data := .seq #[] } := Heap.get?_push_size _ rfl
  refine ⟨⟨_, hS, rfl⟩, PySem.F.args_list_init_2 _ _, ?_⟩
  show wpAny _ A.in1.in1 (do
    let old ← Builtin.List.listItems (.ref s.heap.objs.size)
    Builtin.List.listUpdate (.ref s.heap.objs.size) (fun _ => #[])
    letGo old.toList.reverse
    Builtin.List.listExtendWith (.ref s.heap.objs.size) (.ref e) .none) _ _ _
  apply wpAny_bind
  unfold Builtin.List.listItems
  refine wpAny_bind (wpAny_seqItems hS rfl (wpAny_pure ?_))
  show wpAny _ A.in1.in1 (updateSeq s.heap.objs.size (fun _ => #[]) >>= fun _ => letGo (#[] : Array Value).toList.reverse >>= fun _ =>
    Builtin.List.listExtendWith (.ref s.heap.objs.size) (.ref e) .none) _ _ _
  refine wpAny_bind (wpAny_updateSeq hS rfl ?_)
  have hS2 := Heap.get?_update_self (Obj.mapSeq (fun _ => (#[] : Array Value))) hS rfl
  apply wpAny_bind
  apply wpAny_letGo
  unfold Builtin.List.listExtendWith
  have up : ∀ (h : Heap) (f : Obj → Obj), (∀ b o, s.heap.get? b = some o → h.get? b = some o) → ∀ b o, s.heap.get? b = some o → (h.update s.heap.objs.size f).get? b = some o := fun h f q b o y =>
    (Heap.get?_update_other _ _ (Ne.symm (Nat.ne_of_lt (Heap.lt_size y)))).trans (q b o y)
  have k1 : ∀ b o, s.heap.get? b = some o → (s.heap.push { cls := .type "list", data := .seq #[] }).get? b = some o := fun b o y => Heap.get?_push_of_some _ y
  have k2 := up _ (Obj.mapSeq (fun _ => (#[] : Array Value))) k1
  apply wpAny_bind
  refine wpAny_typeOf (tyE k2) ?_
  have h1 : Builtin.List.listSameRef (.ref s.heap.objs.size) (.ref e) = false := by simp [Builtin.List.listSameRef, hSe]
  have h2 : (Value.type "enumerate" == Value.type "list") = false := by decide
  have h3 : (Value.type "enumerate" == Value.type "tuple") = false := by decide
  simp only [h1, h2, h3, Bool.or_false, Bool.false_eq_true, if_false]
  apply wpAny_bind
  refine wpAny_pyIter_enum (s := { s with heap := _ }) (k2 _ _ he) ?_
  apply wpAny_bind
  apply wpAny_holding
  unfold Builtin.List.listLengthHint
  apply wpAny_bind
  refine wpAny_specialOf (tyE k2) enum_no_len ?_
  show wpAny _ A.in1.in1 (specialOf (Value.ref e) (Str.ofString "__length_hint__") >>= _) _ _ _
  apply wpAny_bind
  refine wpAny_specialOf (tyE k2) enum_no_hint ?_
  apply wpAny_pure
  show wpAny _ A.in1.in1 (rule "list.extend.makes-room" >>= fun _ => Builtin.List.listTouch (.ref s.heap.objs.size) >>= fun _ =>
    again (.builtin "list.extend.loop" ⟨[.ref s.heap.objs.size, .ref e, .none], []⟩)) _ _ _
  apply wpAny_bind
  apply wpAny_rule
  apply wpAny_bind
  show wpAny _ A.in1.in1 (updateSeq s.heap.objs.size (·.push .none) >>= fun _ => updateSeq s.heap.objs.size (·.pop)) _ _ _
  refine wpAny_bind (wpAny_updateSeq hS2 rfl ?_)
  have hS3 := Heap.get?_update_self (Obj.mapSeq (·.push Value.none)) hS2 rfl
  refine wpAny_updateSeq (hz := by seq_fits) hS3 rfl ?_
  have hS4 := Heap.get?_update_self (Obj.mapSeq (·.pop)) hS3 rfl
  have k4 := up _ (Obj.mapSeq (·.pop)) (up _ (Obj.mapSeq (·.push Value.none)) k2)
  refine wpAny_pure ⟨plainId_quiet PySem.F.plain_extend_loop _, ?_⟩
  refine enum_loop (s0 := s) (A := A.in1) (S := s.heap.objs.size) hh hne hSe (Nat.ne_of_gt lti) (Nat.ne_of_gt ltl) hle hli (s.heap.objs.size + 1) hz
    (fun g tk acc c q1 q2 q3 q4 => ⟨rfl, hQ g tk acc c q1 q2 q3 fun b o n1 n2 y => q4 b o n1 n2 (Nat.ne_of_lt (Heap.lt_size y)) y⟩) items.size 0 _ s.toks #[] _ (Nat.sub_zero _) (Nat.zero_le _) rfl hS4 ⟨?_, .inl ⟨rfl, k4 _ _ he⟩⟩ ?_ ?_
    (Nat.lt_succ_of_lt lte) (Nat.lt_succ_of_lt lti) (Nat.lt_succ_self _) (fun j v hv => by simp at hv) (fun b o _ _ _ y => k4 b o y)
  · obtain ⟨o, ho, r⟩ := hit
    exact ⟨o, k4 _ _ ho, r⟩
  · obtain ⟨o, ho, r⟩ := hl
    exact ⟨o, k4 _ _ ho, r⟩
  · exact Heap.lt_size hS4

/-- list(enumerate(e)) -/
def tLE (K : PySem.W.Frag) (te : TE) : TE := fun σ H Q => te σ H fun v H1 => ∃ a xs, v = .ref a ∧ SqL K H1 a xs ∧
  ∀ (H2 : Hp) (p : Addr) (ts : List Addr), Same H1 H2 → H1 p = none → H2 p = some (.lst (ts.map V.ref)) → ts.length = xs.length →
    (∀ (i : Nat) (x : V), xs[i]? = some x → ∃ T, ts[i]? = some T ∧ H1 T = none ∧ H2 T = some (.tup [.int i, x])) → Q (.ref p) H2
section
variable {X : Cx} {e : Expr} {te : TE} {p1 p2 q1 q2 : Pos}
theorem pe_le (hc : X.calm = true) (hg : Gl X "list") (hm : X.mg "list" = none) (hg2 : Gl X "enumerate") (hm2 : X.mg "enumerate" = none) (he : PE X e te)
    (hs : starEach [e] X.env = [(false, eval e X.env)] := by rfl)
    (hs2 : starEach [.Call (.Name "enumerate" q1) [e] [] q2] X.env = [(false, eval (.Call (.Name "enumerate" q1) [e] [] q2) X.env)] := by rfl) :
    PE X (.Call (.Name "list" p1) [.Call (.Name "enumerate" q1) [e] [] q2] [] p2) (tLE X.K te) := by
  refine ⟨fun pins s σ H Q I h => ?_⟩
  refine wpAny_Call_Name_kw (ld_blt I hg hm (show bootBuiltins "list" = some (.type "list") by decide +kernel) ?_)
  refine PyProof.Rows.callWith_type1 ?_ hs2 rfl
  rw [hs2]
  show wpAny _ _ (spliced [(false, eval (.Call (.Name "enumerate" q1) [e] [] q2) X.env)]) _ _ s
  refine Calls.spliced_cons ?_
  refine wpAny_Call_Name_kw (ld_blt I hg2 hm2 (show bootBuiltins "enumerate" = some (.type "enumerate") by decide +kernel) ?_)
  refine PyProof.Rows.callWith_type1 ?_ hs rfl
  rw [hs]
  show wpAny _ _ (spliced [(false, eval e X.env)]) _ _ s
  refine Calls.spliced_cons (thn (he.run pins s σ H _ I h) fun u s1 ⟨v, H1, I1, r1, a, xs, ev, hq, q⟩ => ?_)
  subst ev
  cases r1
  obtain ⟨its, rv, pl, hz⟩ := I1.list hq
  have lits : its.toArray.size = xs.length := by rw [List.size_toArray]; exact rv.length.symm
  have lta : a < s1.heap.objs.size := by obtain ⟨o, ho, _⟩ := pl.isList; exact Heap.lt_size ho
  refine Calls.spliced_nil ?_
  refine call_enumerate_list pl.isList fun g hen hit hsz hk => ?_
  refine Calls.spliced_nil ?_
  have I2 : Inv X pins σ H1 { s1 with heap := g } := I1.kept (t' := s1.toks) hk
  have hl2 : g.IsList a its.toArray := by
    obtain ⟨o, ho, r⟩ := pl.isList
    exact ⟨o, hk _ _ ho, r⟩
  refine list_of_enum (s := { s1 with heap := g }) (I1.ok.hd hc) hen hit hl2 (Nat.succ_ne_self _) (Nat.ne_of_lt (Nat.lt_succ_of_lt lta)) (Nat.ne_of_lt lta) (by rw [lits]; exact hz) fun g2 tk acc c hS ha hp hk2 => ?_
  -- what is new
  have szg : g.objs.size = s1.heap.objs.size + 2 := hsz
  have kall : ∀ b o, s1.heap.get? b = some o → g2.get? b = some o := fun b o y => by
    have lt := Heap.lt_size y
    exact hk2 b o (Nat.ne_of_lt (Nat.lt_succ_of_lt lt)) (Nat.ne_of_lt lt) (hk b o y)
  have sym : ∀ (i : Nat) (x : V), xs[i]? = some x → ∃ (T : Addr) (tk' : Nat) (u : Value), acc[i]? = some (.ref T) ∧ g.objs.size + 1 ≤ T ∧ RelV x u ∧ g2.get? T = some { cls := .type "tuple", data := .seq #[.int (i : Nat) tk', u] } := fun i x hx => by
    have hi : i < acc.size := by
      rw [ha, lits]
      exact (List.getElem?_eq_some_iff.mp hx).1
    obtain ⟨T, tk', u, e1, e2, e3, e4⟩ := hp i _ (Array.getElem?_eq_getElem hi)
    obtain ⟨u', hu', ru⟩ := rv.get hx
    have e3' : its[i]? = some u := by simpa using e3
    rw [hu'] at e3'
    cases e3'
    exact ⟨T, tk', u, by rw [Array.getElem?_eq_getElem hi, e1], e2, ru, e4⟩
  let adr : Value → Addr := fun v => match v with | .ref b => b | _ => 0
  have hts : ∀ v ∈ acc.toList, v = .ref (adr v) := fun v hv => by
    obtain ⟨j, hj⟩ := List.getElem?_of_mem hv
    obtain ⟨T, _, _, e1, _⟩ := hp j v (by simpa using hj)
    rw [e1]
  have tlen : (acc.toList.map adr).length = xs.length := by rw [List.length_map, Array.length_toList, ha, lits]
  have tget : ∀ (i : Nat) (x : V), xs[i]? = some x → ∃ (T : Addr) (tk' : Nat) (u : Value), (acc.toList.map adr)[i]? = some T ∧ g.objs.size + 1 ≤ T ∧ RelV x u ∧ g2.get? T = some { cls := .type "tuple", data := .seq #[.int (i : Nat) tk', u] } := fun i x hx => by
    obtain ⟨T, tk', u, e1, e2, e3, e4⟩ := sym i x hx
    refine ⟨T, tk', u, ?_, e2, e3, e4⟩
    rw [List.getElem?_map, Array.getElem?_toList, e1]
    rfl
  -- the new abstract heap
  let mk : Addr → Option HO := fun b => if b = g.objs.size then some (.lst ((acc.toList.map adr).map V.ref)) else
    match (List.range xs.length).find? (fun i => (acc.toList.map adr)[i]? == some b) with
    | some i => (xs[i]?).map fun x => .tup [.int (i : Nat), x]
    | none => none
  let H2 : Hp := fun b => if b < g.objs.size then H1 b else mk b
  have at_T : ∀ (i : Nat) (x : V) (T : Addr), xs[i]? = some x → (acc.toList.map adr)[i]? = some T → H2 T = some (.tup [.int (i : Nat), x]) := fun i x T hx hT => by
    obtain ⟨T', tk', u, f1, f2, _, f4⟩ := tget i x hx
    rw [hT] at f1
    cases f1
    show (if T < g.objs.size then H1 T else if T = g.objs.size then _ else _) = _
    rw [if_neg (Nat.not_lt.mpr (Nat.le_of_succ_le f2)), if_neg (Nat.ne_of_gt f2)]
    cases hf : (List.range xs.length).find? (fun i => (acc.toList.map adr)[i]? == some T) with
    | none =>
      have z := List.find?_eq_none.mp hf i (List.mem_range.mpr (List.getElem?_eq_some_iff.mp hx).1)
      rw [hT] at z
      simp at z
    | some j =>
      have hj := List.find?_some hf
      have hj2 := List.mem_range.mp (List.mem_of_find?_eq_some hf)
      have hj3 : (acc.toList.map adr)[j]? = some T := by simpa using hj
      obtain ⟨T2, tk2, u2, g1, _, g3, g4⟩ := tget j xs[j] (List.getElem?_eq_getElem hj2)
      rw [hj3] at g1
      cases g1
      rw [f4] at g4
      have e0 : (#[Value.int (i : Nat) tk', u] : Array Value) = #[.int (j : Nat) tk2, u2] := by
        injection (Option.some.inj g4) with _ _ d
        injection d
      have e5 : i = j := by
        have z := congrArg (fun a : Array Value => a[0]?) e0
        simp at z
        omega
      subst e5
      show Option.map (fun x => HO.tup [V.int (i : Nat), x]) xs[i]? = _
      rw [hx]
      rfl
  have I3 : Inv X pins σ H2 { s1 with heap := g2, toks := tk } := by
    have I3 := laid_many (H2 := H2) (g := g2) (tk := tk) I1 kall (fun b hb => if_pos (show b < g.objs.size by omega)) (fun b o hb e => ?_)
    · exact I3
    · by_cases h1 : b < g.objs.size
      · have e' : H1 b = some o := (if_pos h1).symm.trans e
        rw [I1.hok.fresh hb] at e'
        cases e'
      · have e' : mk b = some o := (if_neg h1).symm.trans e
        by_cases h2 : b = g.objs.size
        · have e2 : some (HO.lst ((acc.toList.map adr).map V.ref)) = some o := (if_pos h2).symm.trans e'
          cases e2
          subst h2
          refine ⟨by rw [List.length_map, tlen]; exact hz, acc.toList, c, ?_, by rw [Array.toArray_toList]; exact hS⟩
          have vals : ∀ l : List Value, (∀ v ∈ l, v = .ref (adr v)) → Vals ((l.map adr).map V.ref) l := fun l => by
            induction l with
            | nil => intro _; exact .nil
            | cons v r ih => intro hv; exact .cons (hv v List.mem_cons_self) (ih fun u hu => hv u (List.mem_cons_of_mem _ hu))
          exact vals _ hts
        · have e2 : (match (List.range xs.length).find? (fun i => (acc.toList.map adr)[i]? == some b) with
              | some i => (xs[i]?).map fun x => HO.tup [.int (i : Nat), x]
              | none => none) = some o := (if_neg h2).symm.trans e'
          cases hf : (List.range xs.length).find? (fun i => (acc.toList.map adr)[i]? == some b) with
          | none =>
            rw [hf] at e2
            cases e2
          | some j =>
            rw [hf] at e2
            have hj := List.find?_some hf
            have hj2 := List.mem_range.mp (List.mem_of_find?_eq_some hf)
            have hj3 : (acc.toList.map adr)[j]? = some b := by simpa using hj
            have e3 : some (HO.tup [.int (j : Nat), xs[j]]) = some o := by
              rw [← e2]
              show _ = Option.map (fun x => HO.tup [V.int (j : Nat), x]) xs[j]?
              rw [List.getElem?_eq_getElem hj2]
              rfl
            cases e3
            obtain ⟨T2, tk2, u2, g1, _, g3, g4⟩ := tget j xs[j] (List.getElem?_eq_getElem hj2)
            rw [hj3] at g1
            cases g1
            exact ⟨by show 2 ≤ sizeLine; decide, [.int (j : Nat) tk2, u2], .cons ⟨_, rfl⟩ (.cons g3 .nil), ⟨_, g4, rfl, _, rfl⟩⟩
  have same : Same H1 H2 := fun b o y => by
    show (if b < g.objs.size then H1 b else mk b) = some o
    rw [if_pos (show b < g.objs.size from Nat.lt_of_lt_of_le (I1.hok.lt y) (by rw [szg]; exact Nat.le_add_right _ _))]
    exact y
  have Snone : H1 g.objs.size = none := I1.hok.fresh (by omega)
  refine ⟨.ref g.objs.size, H2, I3, rfl, q H2 g.objs.size (acc.toList.map adr) same Snone ?_ tlen fun i x hx => ?_⟩
  · show (if g.objs.size < g.objs.size then H1 _ else mk _) = _
    rw [if_neg (Nat.lt_irrefl _)]
    exact if_pos rfl
  · obtain ⟨T, tk', u, e1, e2, e3, e4⟩ := tget i x hx
    exact ⟨T, e1, I1.hok.fresh (by omega), at_T i x T hx e1⟩
end
end RS
set_option Elab.async false
set_option maxRecDepth 100000
set_option maxHeartbeats 4000000
namespace RS
open PySem PySem.Spec PyProof.Rows L2 GX
/-- a for of n turns by a word of its own: the next turn -/
def ForNx (n : Nat) (Pv : Nat → L2.St → Hp → Prop) (i : Nat) (σ : L2.St) (H : Hp) : Prop := Pv (i + 1) σ H
theorem for_by {J : It} {g : TG} {tb : TS} {D : Ends} {σ : L2.St} {H : Hp} (n : Nat) (Pv : Nat → L2.St → Hp → Prop) (h0 : Pv 0 σ H)
    (turn : ∀ i σ H, i < n → Pv i σ H → J.go i H ∧ ∀ x H', J.yld i H x H' → g x σ H' fun σ2 H2 => tb { D with nx := Pv (i + 1), ct := Pv (i + 1), bk := D.nx } σ2 H2)
    (stop : ∀ σ H, Pv n σ H → J.stop n H ∧ D.nx σ H) :
    ∃ W : Nat → Nat → L2.St → Hp → Prop, (∃ m, W 0 m σ H) ∧ ∀ i m σ H, W i m σ H →
      (J.stop i H ∧ D.nx σ H) ∨ (J.go i H ∧ ∃ N : L2.St → Hp → Prop, (∀ σ' H', N σ' H' → ∃ m', m' < m ∧ W (i + 1) m' σ' H') ∧ ∀ x H', J.yld i H x H' → g x σ H' fun σ2 H2 => tb { D with nx := N, ct := N, bk := D.nx } σ2 H2) := by
  refine ⟨fun i m σ H => m = n - i ∧ i ≤ n ∧ Pv i σ H, ⟨n, rfl, Nat.zero_le _, h0⟩, ?_⟩
  rintro i m σ H ⟨rfl, hi, p⟩
  by_cases hlt : i < n
  · obtain ⟨go, nx⟩ := turn i σ H hlt p
    exact .inr ⟨go, Pv (i + 1), fun σ' H' p' => ⟨n - (i + 1), by omega, rfl, hlt, p'⟩, nx⟩
  · have e : i = n := by omega
    subst e
    exact .inl (stop σ H p)
theorem lc_by {J : It} {g : TG} {tt : TT} {te : TE} {vs : List Nat} {σ : L2.St} {H1 : Hp} {D : Addr} {Qd : Hp → Prop} (n : Nat) (Pv : Nat → Hp → Prop) (h0 : Pv 0 (upd H1 D (.lst [])))
    (turn : ∀ i H, i < n → Pv i H → J.go i H ∧ ∀ x H', J.yld i H x H' → g x (wipe σ vs) H' fun σ2 H2 => wipe σ2 vs = wipe σ vs ∧ tt σ2 H2 fun b H3 =>
      if b = true then te σ2 H3 fun y H4 => ∃ acc, H4 D = some (.lst acc) ∧ acc.length < sizeLine ∧ Pv (i + 1) (upd H4 D (.lst (acc ++ [y]))) else Pv (i + 1) H3)
    (stop : ∀ H, Pv n H → J.stop n H ∧ Qd H) :
    ∃ W : Nat → Nat → Hp → Prop, (∃ m, W 0 m (upd H1 D (.lst []))) ∧ ∀ i m H, W i m H →
      (J.stop i H ∧ Qd H) ∨ (J.go i H ∧ ∃ Nx : Hp → Prop, (∀ H', Nx H' → ∃ m', m' < m ∧ W (i + 1) m' H') ∧ ∀ x H', J.yld i H x H' → g x (wipe σ vs) H' fun σ2 H2 => wipe σ2 vs = wipe σ vs ∧ tt σ2 H2 fun b H3 =>
        if b = true then te σ2 H3 fun y H4 => ∃ acc, H4 D = some (.lst acc) ∧ acc.length < sizeLine ∧ Nx (upd H4 D (.lst (acc ++ [y]))) else Nx H3) := by
  refine ⟨fun i m H => m = n - i ∧ i ≤ n ∧ Pv i H, ⟨n, rfl, Nat.zero_le _, h0⟩, ?_⟩
  rintro i m H ⟨rfl, hi, p⟩
  by_cases hlt : i < n
  · obtain ⟨go, nx⟩ := turn i H hlt p
    exact .inr ⟨go, Pv (i + 1), fun H' p' => ⟨n - (i + 1), by omega, rfl, hlt, p'⟩, nx⟩
  · have e : i = n := by omega
    subst e
    exact .inl (stop H p)

/-! ### numbered things -/
def enumP {α : Type} : Nat → List α → List (Nat × α)
  | _, [] => []
  | k, x :: xs => (k, x) :: enumP (k + 1) xs
theorem enumP_get {α : Type} : ∀ (l : List α) (k i : Nat), (enumP k l)[i]? = l[i]?.map fun x => (k + i, x)
  | [], k, i => by simp [enumP]
  | x :: xs, k, 0 => by simp [enumP]
  | x :: xs, k, i + 1 => by
    show (enumP (k + 1) xs)[i]? = _
    rw [enumP_get xs (k + 1) i]
    have e : k + 1 + i = k + (i + 1) := by omega
    rw [e]
    simp
theorem enumP_length {α : Type} : ∀ (l : List α) (k : Nat), (enumP k l).length = l.length
  | [], _ => rfl
  | _ :: xs, k => congrArg (· + 1) (enumP_length xs (k + 1))
/-- a (number, row) -/
def pairD (q : Nat × List PyData) : PyData := .tuple [.int q.1, .tuple q.2]
def pairsD (l : List (Nat × List PyData)) : PyData := .list (l.map pairD)

/-- data by places -/
theorem dpAll_by {K : PySem.W.Frag} {H : Hp} : ∀ {vs : List V} {ds : List PyData}, vs.length = ds.length → (∀ (i : Nat) (v : V) (d : PyData), vs[i]? = some v → ds[i]? = some d → Dp K H v d) → DpAll K H vs ds
  | [], [], _, _ => .nil
  | [], _ :: _, h, _ => by simp at h
  | _ :: _, [], h, _ => by simp at h
  | v :: vs, d :: ds, h, k => .cons (k 0 v d rfl rfl) (dpAll_by (by simpa using h) fun i v d e1 e2 => k (i + 1) v d (by simpa using e1) (by simpa using e2))
end RS
set_option Elab.async false
set_option maxRecDepth 100000
set_option maxHeartbeats 4000000
namespace RS
open PySem PySem.Spec PyProof.Rows L2 GX

/-! ### orders -/
def wayS (b : Bool) : Str := if b then "down" else "up"
def partD (p : Nat × Bool) : PyData := .tuple [.int p.1, .str (wayS p.2)]
def orderD (os : List (Nat × Bool)) : PyData := .list (os.map partD)
structure OkOrder (n : Nat) (os : List (Nat × Bool)) : Prop where
  some_ : os ≠ []
  col : ∀ p ∈ os, p.1 < n
  nd : (os.map (·.1)).Nodup
def rowsD (rs : List (List PyData)) : PyData := .list (rs.map .tuple)

theorem inV_kind (b : Bool) : inV (.str (kindS b)) [.str "number", .str "word"] = true := by
  cases b
  · decide +kernel
  · decide +kernel
theorem inV_way (b : Bool) : inV (.str (wayS b)) [.str "up", .str "down"] = true := by
  cases b
  · decide +kernel
  · decide +kernel

theorem nodup_nat {l : List Nat} (h : l.Nodup) {i j c : Nat} (a : l[i]? = some c) (b : l[j]? = some c) : i = j := by
  obtain ⟨h1, e1⟩ := List.getElem?_eq_some_iff.mp a
  obtain ⟨h2, e2⟩ := List.getElem?_eq_some_iff.mp b
  exact (List.getElem_inj h).mp (e1.trans e2.symm)
section
variable {P : Program} {w : World} {K : PySem.W.Frag} {mg : Str → Option Value} {base : Heap}
theorem scIsPart : FnScope ["kinds", "part", "column", "way"] ["kinds", "part"] (defScope sIsPart) := ⟨rfl, rfl, rfl, by decide +kernel, rfl, by decide +kernel, by decide +kernel⟩
def spPart (K : PySem.W.Frag) : Sp := fun vs H Q _ => ∃ (vk vp : V) (ks : List Bool) (p : Nat × Bool), vs = [vk, vp] ∧ Dp K H vk (kindsD ks) ∧ Dp K H vp (partD p) ∧ p.1 < ks.length ∧ Q (.bl true) H
theorem is_part_ok {c : Addr} (D : DefAt K mg "is_part" sIsPart c) (T : Txt K mg) (cN : Cal P w K mg base CX0 1 "is_number" ["value"] (spNum K)) : Cal P w K mg base CX0 2 "is_part" ["kinds", "part"] (spPart K) := by
  have sc := scIsPart
  obtain ⟨aW, hW, hWS⟩ := T.ways
  refine def_ok0 D sc (fun vs H Q E h => ?_) (fun _ _ _ _ _ _ us hl => match us, hl with | [_, _], _ => rfl) (fun f A outer s H vs Q E hr h => ?_)
  · obtain ⟨vk, vp, ks, p, rfl, _⟩ := h
    rfl
  · obtain ⟨vk, vp, ks, ⟨c, b⟩, rfl, hk, hp, hc, k⟩ := h
    refine ⟨_, (pss_cons (ps_if ((pw_or (pt_not (pt_val (pe_callB call_isiD (by rfl) T.isinstance (by decide +kernel) (pa_cons (pv 1) (pa_cons (pe_bltn (v := V.ty "tuple") (u := Value.type "tuple") (by rfl) T.tuple_ (by decide +kernel) rfl) pa_nil))))) (pw_or1 (pt_cmpR op_ne (pe_callB call_lenD (by rfl) T.len PySem.boot_len (pa_cons (pv 1) pa_nil)) pe_int (nomark _)))).pt) (pss_one (ps_ret pe_bl)) pss_nil) (pss_cons (ps_asg (pv 1) (pg_tup (by rfl) (pgs_cons (pg_name (i := 2) sc.nd rfl (Or.inl rfl)) (pgs_cons (pg_name (i := 3) sc.nd rfl (Or.inl rfl)) pgs_nil)))) (pss_one (ps_ret (pe_and (pe_c cN hr (by decide) (by rfl) pass0 (pa_cons (pv 2) pa_nil)) (pe_and (pe_chain op_le op_lt pe_int (pv 2) (pe_callB call_lenD (by rfl) T.len PySem.boot_len (pa_cons (pv 0) pa_nil))) (pe_one (pe_cmpR op_in_seq (pv 3) (pe_glob (v := V.ref aW) (by rfl) hW rfl) (by rfl))))))))), ?_⟩
    refine ⟨_, rfl, _, _, _, rfl, by simp, hp, _, rfl, ?_⟩
    refine iteF ⟨_, rfl, _, _, 2, rfl, hp, rfl, rfl, _, rfl, ?_⟩
    refine iteF ⟨_, rfl, ?_⟩
    cases hp with
    | @tup a xs _ hS hI =>
      cases hI with
      | cons h1 hI =>
        cases hI with
        | cons h2 hI =>
          cases hI
          cases h1
          cases h2
          refine ⟨a, _, rfl, hS, rfl, _, _, rfl, _, _, rfl, rfl, ?_⟩
          refine ⟨_, rfl, _, _, rfl, .int (c : Int), _, rfl, ?_⟩
          have hn : isNum (.int (c : Int)) = true := by simp [isNum, isI, isT, tyN]
          rw [hn]
          refine iteT ?_
          refine ⟨_, rfl, _, _, rfl, rfl, _, rfl, ?_⟩
          have h0 : decide ((0 : Int) ≤ (c : Int)) = true := decide_eq_true (Int.natCast_nonneg c)
          rw [h0]
          refine iteT ⟨_, rfl, _, _, (ks.map fun b => PyData.str (kindS b)).length, rfl, hk, rfl, _, _, rfl, rfl, _, rfl, ?_⟩
          have h3 : decide ((c : Int) < ((ks.map fun b => PyData.str (kindS b)).length : Nat)) = true := decide_eq_true (by
            rw [List.length_map]
            exact Int.ofNat_lt.mpr hc)
          rw [h3]
          refine iteT ⟨_, rfl, aW, _, rfl, .inr (hWS _), rfl, rfl, ?_⟩
          show Q (.bl (if false then _ else inV (.str (wayS b)) [.str "up", .str "down"])) H
          rw [inV_way]
          exact k

theorem scCheckKinds : FnScope ["kinds", "kind"] ["kinds"] (defScope sCheckKinds) := ⟨rfl, rfl, rfl, by decide +kernel, rfl, by decide +kernel, by decide +kernel⟩
def spCheckKinds (K : PySem.W.Frag) (p : Addr) : Sp := fun vs H Q _ => ∃ (vk : V) (ks : List Bool), vs = [vk] ∧ Dp K H vk (kindsD ks) ∧ 1 ≤ ks.length ∧ ks.length ≤ 4 ∧ Tab H p ∧ Q .non H
theorem check_kinds_ok {c p : Addr} (D : DefAt K mg "check_kinds" sCheckKinds c) (T : Txt K mg) (TB : GxR.TabB base mg c p) : Cal P w K mg base CX0 2 "check_kinds" ["kinds"] (spCheckKinds K p) := by
  have sc := scCheckKinds
  obtain ⟨aK, hK, hKS⟩ := T.kinds
  obtain ⟨tCol, hC⟩ := T.columns
  refine def_ok0 D sc (fun vs H Q E h => ?_) (fun _ _ _ _ _ _ us hl => match us, hl with | [_], _ => rfl) (fun f A outer s H vs Q E hr h => ?_)
  · obtain ⟨vk, ks, rfl, _⟩ := h
    rfl
  · obtain ⟨vk, ks, rfl, hk, h1, h4, ht, k⟩ := h
    refine ⟨_, (pss_cons (ps_if ((pw_or (pt_not (pt_val (pe_callB call_isiD (by rfl) T.isinstance (by decide +kernel) (pa_cons (pv 0) (pa_cons (pe_bltn (v := V.ty "tuple") (u := Value.type "tuple") (by rfl) T.tuple_ (by decide +kernel) rfl) pa_nil))))) (pw_or1 (pt_not (pt_chain op_le op_le pe_int (pe_callB call_lenD (by rfl) T.len PySem.boot_len (pa_cons (pv 0) pa_nil)) (pe_glob (v := V.int 4) (by rfl) hC ⟨_, rfl⟩))))).pt) pss_never pss_nil) (pss_one (ps_if (pt_not (pt_val (pe_all (own := [("kind", 1)]) (te := tOp (rIn K false) (tVar 1) (tC (.ref aK))) hr rfl T.all TB rfl rfl sc.nd (blkOk_by (N := ["kinds", "kind"]) (sc := defScope sCheckKinds) (own := [("kind", 1)]) (by decide +kernel)) (by decide +kernel) rfl rfl (pi_tup (pv 0)) (fun _ _ _ _ _ _ _ => (pg_name (i := 1) sc.nd rfl (Or.inl rfl))) (fun _ _ _ _ _ _ _ hr => pe_cmpR op_in_seq (pv 1) (pe_glob (v := V.ref aK) (by rfl) hK rfl) (by rfl))))) pss_never pss_nil))), ?_⟩
    refine ⟨_, rfl, _, _, _, rfl, by simp, hk, _, rfl, ?_⟩
    refine iteF ⟨_, rfl, _, _, (ks.map fun b => PyData.str (kindS b)).length, rfl, hk, rfl, _, _, rfl, rfl, _, rfl, ?_⟩
    rw [List.length_map]
    have e1 : decide ((1 : Int) ≤ (ks.length : Nat)) = true := decide_eq_true (by omega)
    have e2 : decide (((ks.length : Nat) : Int) ≤ 4) = true := decide_eq_true (by omega)
    rw [e1]
    refine iteT ⟨_, _, rfl, rfl, _, rfl, ?_⟩
    rw [e2]
    refine iteF ?_
    cases hk with
    | @tup a xs _ hS hI =>
      refine ⟨_, rfl, a, rfl, ⟨xs, hS⟩, ht, ?_⟩
      have lx : xs.length = ks.length := by rw [dpLen hI, List.length_map]
      refine all_by xs.length (fun i H' => H' = H) rfl (fun i H' hi e => ?_) (fun H' e => ?_)
      · subst e
        refine ⟨⟨xs, xs[i], hS, List.getElem?_eq_getElem hi⟩, fun y H2 ⟨e, hy⟩ => ?_⟩
        subst e
        have ey := hy xs hS
        obtain ⟨d, ed, hd⟩ := dpGet hI ey
        obtain ⟨b, rfl⟩ : ∃ b, d = PyData.str (kindS b) := by
          rw [List.getElem?_map] at ed
          cases q : ks[i]? with
          | none => rw [q] at ed; cases ed
          | some b => rw [q] at ed; exact ⟨b, (Option.some.inj ed).symm⟩
        cases hd
        refine ⟨rfl, _, rfl, aK, _, rfl, .inr (hKS _), rfl, rfl, ?_⟩
        refine ⟨true, ?_, fun _ => .mk hi rfl, fun z => nomatch z⟩
        show V.bl (if false then _ else inV (.str (kindS b)) [.str "number", .str "word"]) = _
        rw [inV_kind]
        rfl
      · subst e
        exact ⟨⟨xs, hS, Nat.le_refl _⟩, _, rfl, iteF k⟩

theorem scCheckOrder : FnScope ["kinds", "order", "columns", "part"] ["kinds", "order"] (defScope sCheckOrder) := ⟨rfl, rfl, rfl, by decide +kernel, rfl, by decide +kernel, by decide +kernel⟩
def spCheckOrder (K : PySem.W.Frag) : Sp := fun vs H Q _ => ∃ (vk vo : V) (ks : List Bool) (os : List (Nat × Bool)), vs = [vk, vo] ∧ Dp K H vk (kindsD ks) ∧ Dp K H vo (orderD os) ∧ OkOrder ks.length os ∧ os.length ≤ 1000 ∧ ∀ H', Same H H' → Q .non H'
theorem check_order_ok {c : Addr} (D : DefAt K mg "check_order" sCheckOrder c) (T : Txt K mg) (cP : Cal P w K mg base CX0 2 "is_part" ["kinds", "part"] (spPart K)) : Cal P w K mg base CX0 3 "check_order" ["kinds", "order"] (spCheckOrder K) := by
  have sc := scCheckOrder
  refine def_ok0 D sc (fun vs H Q E h => ?_) (fun _ _ _ _ _ _ us hl => match us, hl with | [_, _], _ => rfl) (fun f A outer s H vs Q E hr h => ?_)
  · obtain ⟨vk, vo, ks, os, rfl, _⟩ := h
    rfl
  · obtain ⟨vk, vo, ks, os, rfl, hk, ho, hok, hz, k⟩ := h
    refine ⟨_, (pss_cons (ps_if ((pw_or (pt_not (pt_val (pe_callB call_isiD (by rfl) T.isinstance (by decide +kernel) (pa_cons (pv 1) (pa_cons (pe_bltn (v := V.ty "list") (u := Value.type "list") (by rfl) T.list_ (by decide +kernel) rfl) pa_nil))))) (pw_or1 (pt_not (pt_truth (pv 1) (by intro _; rfl))))).pt) pss_never pss_nil) (pss_cons (ps_set (i := 2) sc.nd rfl (Or.inl rfl) (pe_lst pa_nil)) (pss_one (ps_for PassesOwn.never rfl (pi_list (pv 1)) (pg_name (i := 3) sc.nd rfl (Or.inl rfl)) (pss_cons (ps_if ((pw_or (pt_not (pt_val (pe_c cP hr (by decide) (by rfl) pass0 (pa_cons (pv 0) (pa_cons (pv 3) pa_nil))))) (pw_or1 (pt_cmpR op_in_seq (pe_ix ixD (pv 3) pe_int (fun _ _ => rfl)) (pv 2) (by rfl)))).pt) pss_never pss_nil) (pss_one (ps_expr (pe_bm PySem.F.plainAttrs_list PySem.F.slot_list_append PySem.F.type_list_append mt_append (pv 2) (pa_cons (pe_ix ixD (pv 3) pe_int (fun _ _ => rfl)) pa_nil))))))))), ?_⟩
    refine ⟨_, rfl, _, _, _, rfl, by simp, ho, _, rfl, ?_⟩
    cases ho with
    | @lst a xs _ hS hI =>
      have lx : xs.length = os.length := by rw [dpLen hI, List.length_map]
      have ne : xs.isEmpty = false := by
        cases xs with
        | nil =>
          have : os.length = 0 := by rw [← lx]; rfl
          exact absurd (List.eq_nil_of_length_eq_zero this) hok.some_
        | cons _ _ => rfl
      refine iteF ⟨_, rfl, !xs.isEmpty, .inl ⟨xs, hS, rfl⟩, ?_⟩
      rw [ne]
      refine iteF ⟨Nat.zero_le _, fun p hp => ?_⟩
      have s0 : Same H (upd H p (.lst [])) := fun b o e => by rw [upd_ne (ne_of_none e hp)]; exact e
      refine ⟨_, rfl, a, rfl, ⟨_, s0.seq hS⟩, for_list (K := K) (a := a) (xs := xs) (fun i σ H' => ∃ v3 : Option V, σ = [some vk, some (.ref a), some (.ref p), v3] ∧ Same H H' ∧ H' p = some (.lst ((os.take i).map fun q => V.int q.1)))
        ⟨none, rfl, s0, upd_same⟩ (fun i σ H' _ ⟨_, _, sm, _⟩ => sm.seq hS) ?_ ?_⟩
      · rintro i y σ H' hi ⟨v3, rfl, sm, hL⟩
        obtain ⟨d, ed, hd⟩ := dpGet hI hi
        obtain ⟨⟨c, b⟩, eq, rfl⟩ : ∃ q, os[i]? = some q ∧ d = partD q := by
          rw [List.getElem?_map] at ed
          cases q : os[i]? with
          | none => rw [q] at ed; cases ed
          | some b => rw [q] at ed; exact ⟨b, rfl, (Option.some.inj ed).symm⟩
        have hm := List.mem_of_getElem? eq
        have hd' := dp_same sm _ hd
        have hi' : i < os.length := (List.getElem?_eq_some_iff.mp eq).1
        refine ⟨_, rfl, _, rfl, vk, y, ks, (c, b), rfl, dp_same sm _ hk, hd', hok.col _ hm, _, rfl, ?_⟩
        refine iteF ⟨_, rfl, _, _, 0, .int c, hd', rfl, rfl, rfl, fun v hv => ?_⟩
        cases hv
        have notin : inV (.int c) ((os.take i).map fun q => V.int q.1) = false := by
          rw [Bool.eq_false_iff]
          intro z
          unfold inV at z
          obtain ⟨u, hu, he⟩ := List.any_eq_true.mp z
          obtain ⟨q, hq, rfl⟩ := List.mem_map.mp hu
          obtain ⟨j, hj⟩ := List.getElem?_of_mem hq
          rw [List.getElem?_take] at hj
          split at hj
          · rename_i hji
            have e1 : q.1 = c := by
              simp [eqV] at he
              omega
            have h1 : (os.map (·.1))[j]? = some c := by rw [List.getElem?_map, hj, ← e1]; rfl
            have h2 : (os.map (·.1))[i]? = some c := by rw [List.getElem?_map, eq]; rfl
            have := nodup_nat hok.nd h1 h2
            omega
          · cases hj
        refine ⟨_, rfl, p, _, rfl, .inl (SqL.of hL), rfl, ?_, ?_⟩
        · rw [List.all_eq_true]
          intro z hz
          obtain ⟨q, _, rfl⟩ := List.mem_map.mp hz
          rfl
        show ∃ k, V.bl (if false then _ else inV (.int c) ((os.take i).map fun q => V.int q.1)) = V.bl k ∧ _
        rw [notin]
        refine ⟨false, rfl, iteF ?_⟩
        refine ⟨_, rfl, .inl ⟨rfl, _, SqL.of hL⟩, _, rfl, _, _, 0, .int c, hd', rfl, rfl, rfl, fun v hv => ?_⟩
        cases hv
        refine ⟨p, _, _, rfl, rfl, hL, small1000 (by rw [List.length_map, List.length_take]; omega), ?_⟩
        refine ⟨_, rfl, fun b' o e => ?_, ?_⟩
        · rw [upd_ne (fun z => by subst z; rw [hp] at e; cases e)]
          exact sm b' o e
        · rw [upd_same, List.take_add_one, eq, List.map_append]
          rfl
      · rintro σ H' ⟨v3, rfl, sm, hL⟩
        exact k _ sm
end
end RS
set_option Elab.async false
set_option maxRecDepth 100000
set_option maxHeartbeats 4000000
namespace RS
open PySem PySem.Spec PyProof.Rows L2 GX
def signOk (c : Nat) : Bool := !decide (([c] : List Nat) < [97]) && !decide (([122] : List Nat) < [c])
def isWord (d : PyData) : Bool := match d with
  | .str x => decide ((x.length : Int) ≤ 6) && x.cps.toList.all signOk
  | _ => false
/-- a text has its size -/
def fitD : PyData → Prop
  | .str x => x.length ≤ sizeLine
  | _ => True
section
variable {P : Program} {w : World} {K : PySem.W.Frag} {mg : Str → Option Value} {base : Heap}
theorem scIsWord : FnScope ["value", "sign"] ["value"] (defScope sIsWord) := ⟨rfl, rfl, rfl, by decide +kernel, rfl, by decide +kernel, by decide +kernel⟩
def spWord (K : PySem.W.Frag) (P : Addr) : Sp := fun vs H Q _ => ∃ (v : V) (d : PyData), vs = [v] ∧ Dp K H v d ∧ fitD d ∧ Tab H P ∧ Q (.bl (isWord d)) H
theorem is_word_ok {c p : Addr} (D : DefAt K mg "is_word" sIsWord c) (T : Txt K mg) (TB : GxR.TabB base mg c p) : Cal P w K mg base CX0 2 "is_word" ["value"] (spWord K p) := by
  have sc := scIsWord
  obtain ⟨tL, hL⟩ := T.letters
  refine def_ok0 D sc (fun vs H Q E h => ?_) (fun _ _ _ _ _ _ us hl => match us, hl with | [_], _ => rfl) (fun f A outer s H vs Q E hr h => ?_)
  · obtain ⟨v, d, rfl, _⟩ := h
    rfl
  · obtain ⟨v, d, rfl, hd, hz, ht, k⟩ := h
    refine ⟨_, (pss_one (ps_ret (pe_and (pe_callB call_isiD (by rfl) T.isinstance (by decide +kernel) (pa_cons (pv 0) (pa_cons (pe_bltn (v := V.ty "str") (u := Value.type "str") (by rfl) T.str_ (by decide +kernel) rfl) pa_nil))) (pe_and (pe_cmpR op_le (pe_callB call_lenD (by rfl) T.len PySem.boot_len (pa_cons (pv 0) pa_nil)) (pe_glob (v := V.int 6) rfl hL ⟨_, rfl⟩) (nomark _))
      (pe_one (pe_all (own := [("sign", 1)]) hr rfl T.all TB rfl rfl sc.nd (blkOk_by (N := ["value", "sign"]) (sc := defScope sIsWord) (own := [("sign", 1)]) (by decide +kernel)) (by decide +kernel) rfl rfl (pi_str (pv 0)) (fun _ _ _ _ _ _ _ => (pg_name (i := 1) sc.nd rfl (Or.inl rfl))) (fun _ _ _ _ _ _ _ hr => pe_chain op_le_str op_le_str pe_str (pv 1) pe_str))))))), ?_⟩
    refine ⟨_, rfl, _, _, _, rfl, by simp, hd, _, rfl, ?_⟩
    refine ite2 (fun h1 => ?_) (fun h1 => ?_)
    · cases hd <;> simp [isI, isT, tyN] at h1
      rename_i x
      refine ⟨_, rfl, _, _, _, rfl, .str x, if_pos hz, _, _, rfl, rfl, _, rfl, ?_⟩
      refine ite2 (fun h2 => ?_) (fun h2 => ?_)
      · refine ⟨_, rfl, _, rfl, ht, ?_⟩
        have full : isWord (.str x) = x.cps.toList.all signOk := by
          show (decide ((x.length : Int) ≤ 6) && x.cps.toList.all signOk) = _
          rw [h2, Bool.true_and]
        rw [full] at k
        refine all_by x.cps.size (fun i H' => H' = H ∧ (x.cps.toList.take i).all signOk = true) ⟨rfl, by simp⟩ (fun i H' hi hp => ?_) (fun H' hp => ?_)
        · obtain ⟨rfl, hp⟩ := hp
          refine ⟨hi, fun y H2 ⟨e, c, hc, ey⟩ => ⟨rfl, ?_⟩⟩
          subst e ey
          have hc2 : x.cps.toList[i]? = some c := by simpa using hc
          have step : signOk c = true → (x.cps.toList.take (i + 1)).all signOk = true := fun h => by
            rw [List.take_add_one, hc2]
            simp only [Option.toList_some, List.all_append, hp, List.all_cons, h, List.all_nil, Bool.and_self]
          have fail : signOk c = false → Q (.bl false) H2 := fun h => by
            have e : x.cps.toList.all signOk = false := by
              rw [Bool.eq_false_iff]
              intro z
              have z2 := List.all_eq_true.mp z c (List.mem_of_getElem? hc2)
              rw [h] at z2
              cases z2
            rw [← e]
            exact k
          have ea : ∀ z : Nat, (!decide ((⟨#[z]⟩ : Str).cps.toList < (Str.ofString "a").cps.toList)) = !decide (([z] : List Nat) < [97]) := fun z => rfl
          have ez : ∀ z : Nat, (!decide ((Str.ofString "z").cps.toList < (⟨#[z]⟩ : Str).cps.toList)) = !decide (([122] : List Nat) < [z]) := fun z => rfl
          refine ⟨_, rfl, _, _, rfl, rfl, _, rfl, ?_⟩
          refine ite2 (fun h3 => ?_) (fun h3 => ?_)
          · refine ⟨_, _, rfl, rfl, _, rfl, fun h4 => .mk hi ⟨rfl, step ?_⟩, fun h4 => fail ?_⟩
            · rw [ea] at h3
              rw [ez] at h4
              unfold signOk
              rw [h3, h4]
              rfl
            · rw [ea] at h3
              rw [ez] at h4
              unfold signOk
              rw [h3, h4]
              rfl
          · refine ⟨_, rfl, fun z => (nomatch z), fun _ => fail ?_⟩
            have h3 := bf h3
            rw [ea] at h3
            unfold signOk
            rw [h3, Bool.false_and]
        · obtain ⟨rfl, hp⟩ := hp
          refine ⟨Nat.le_refl _, ?_⟩
          have e : x.cps.toList.take x.cps.size = x.cps.toList := by rw [List.take_of_length_le (by simp)]
          rw [e] at hp
          show Q (.bl true) H'
          rw [← hp]
          exact k
      · have e : isWord (.str x) = false := by
          show (decide ((x.length : Int) ≤ 6) && x.cps.toList.all signOk) = _
          rw [bf h2, Bool.false_and]
        rw [← e]
        exact k
    · have e : isWord d = false := by
        cases hd <;> first | rfl | (simp [isI, isT, tyN] at h1)
      rw [← e]
      exact k
end
end RS
set_option Elab.async false
set_option maxRecDepth 100000
set_option maxHeartbeats 4000000
namespace RS
open PySem PySem.Spec PyProof.Rows L2 GX
def inBand (d : PyData) : Bool := match d with
  | .int n => decide (-999 ≤ n) && decide (n ≤ 999)
  | _ => false
def isVal (b : Bool) (d : PyData) : Bool := if b then isWord d else isNum d && inBand d
def isRow (ks : List Bool) (d : PyData) : Bool := match d with
  | .tuple ds => decide (ds.length = ks.length) && (ks.zip ds).all fun p => isVal p.1 p.2
  | _ => false
/-- the texts in a row have their size -/
def fitR (d : PyData) : Prop := match d with
  | .tuple ds => ds.length ≤ 1000 ∧ ∀ e ∈ ds, fitD e
  | .list ds => ds.length ≤ 1000
  | d => fitD d

section
variable {P : Program} {w : World} {K : PySem.W.Frag} {mg : Str → Option Value} {base : Heap}
theorem scIsValue : FnScope ["kind", "value"] ["kind", "value"] (defScope sIsValue) := ⟨rfl, rfl, rfl, by decide +kernel, rfl, by decide +kernel, by decide +kernel⟩
def spValue (K : PySem.W.Frag) (P : Addr) : Sp := fun vs H Q _ => ∃ (b : Bool) (v : V) (d : PyData), vs = [.str (kindS b), v] ∧ Dp K H v d ∧ fitD d ∧ Tab H P ∧ Q (.bl (isVal b d)) H
theorem is_value_ok {c p : Addr} (D : DefAt K mg "is_value" sIsValue c) (T : Txt K mg) (cW : Cal P w K mg base CX0 2 "is_word" ["value"] (spWord K p)) (cN : Cal P w K mg base CX0 1 "is_number" ["value"] (spNum K)) :
    Cal P w K mg base CX0 3 "is_value" ["kind", "value"] (spValue K p) := by
  have sc := scIsValue
  obtain ⟨tN, hN⟩ := T.number
  refine def_ok0 D sc (fun vs H Q E h => ?_) (fun _ _ _ _ _ _ us hl => match us, hl with | [_, _], _ => rfl) (fun f A outer s H vs Q E hr h => ?_)
  · obtain ⟨b, v, d, rfl, _⟩ := h
    rfl
  · obtain ⟨b, v, d, rfl, hd, hz, ht, k⟩ := h
    refine ⟨_, (pss_cons (ps_if (pt_cmpR op_eq (pv 0) pe_str (nomark _)) (pss_one (ps_ret (pe_c cW hr (by decide) (by rfl) pass0 (pa_cons (pv 1) pa_nil)))) pss_nil) (pss_one (ps_ret (pe_and (pe_c cN hr (by decide) (by rfl) pass0 (pa_cons (pv 1) pa_nil)) (pe_one (pe_chain op_le op_le (pe_un un_neg (pe_glob (v := V.int 999) rfl hN ⟨_, rfl⟩)) (pv 1) (pe_glob (v := V.int 999) rfl hN ⟨_, rfl⟩))))))), ?_⟩
    refine ⟨_, rfl, rfl, _, rfl, ?_⟩
    have hb : decide (V.str (kindS b) = V.str (Str.ofString "word")) = b := kindS_word b
    rw [hb]
    cases b with
    | true => exact iteT ⟨_, rfl, v, d, rfl, hd, hz, ht, k⟩
    | false =>
      refine iteF ⟨_, rfl, v, d, rfl, hd, _, rfl, ?_⟩
      refine ite2 (fun h1 => ?_) (fun h1 => ?_)
      · obtain ⟨n, rfl, rfl⟩ := isNum_int hd h1
        have ev : isVal false (.int n) = (decide (-999 ≤ n) && decide (n ≤ 999)) := by
          show (isNum (.int n) && inBand (.int n)) = _
          rw [h1, Bool.true_and]
          rfl
        rw [ev] at k
        refine ⟨_, rfl, _, rfl, _, _, rfl, rfl, _, rfl, ?_⟩
        refine ite2 (fun h2 => ?_) (fun h2 => ?_)
        · rw [h2, Bool.true_and] at k
          exact ⟨_, _, rfl, rfl, k⟩
        · rw [bf h2, Bool.false_and] at k
          exact k
      · have ev : isVal false d = false := by
          show (isNum d && inBand d) = false
          rw [bf h1, Bool.false_and]
        rw [ev] at k
        exact k

theorem scIsRow : FnScope ["kinds", "row", "kind", "value"] ["kinds", "row"] (defScope sIsRow) := ⟨rfl, rfl, rfl, by decide +kernel, rfl, by decide +kernel, by decide +kernel⟩
def spRow (K : PySem.W.Frag) (pW pR : Addr) : Sp := fun vs H Q _ => ∃ (vk vr : V) (ks : List Bool) (d : PyData), vs = [vk, vr] ∧ Dp K H vk (kindsD ks) ∧ Dp K H vr d ∧ ks.length ≤ 1000 ∧ fitR d ∧ Tab H pW ∧ Tab H pR ∧ ∀ H', Same H H' → Q (.bl (isRow ks d)) H'
theorem is_row_ok {c pW pR : Addr} (D : DefAt K mg "is_row" sIsRow c) (T : Txt K mg) (TB : GxR.TabB base mg c pR) (cV : Cal P w K mg base CX0 3 "is_value" ["kind", "value"] (spValue K pW)) :
    Cal P w K mg base CX0 5 "is_row" ["kinds", "row"] (spRow K pW pR) := by
  have sc := scIsRow
  refine def_ok0 D sc (fun vs H Q E h => ?_) (fun _ _ _ _ _ _ us hl => match us, hl with | [_, _], _ => rfl) (fun f A outer s H vs Q E hr h => ?_)
  · obtain ⟨vk, vr, ks, d, rfl, _⟩ := h
    rfl
  · obtain ⟨vk, vr, ks, d, rfl, hk, hd, hlk, hz, hW, hR, k⟩ := h
    refine ⟨_, (pss_cons (ps_if ((pw_or (pt_not (pt_val (pe_callB call_isiD (by rfl) T.isinstance (by decide +kernel) (pa_cons (pv 1) (pa_cons (pe_bltn (v := V.ty "tuple") (u := Value.type "tuple") (by rfl) T.tuple_ (by decide +kernel) rfl) pa_nil))))) (pw_or1 (pt_cmpR op_ne (pe_callB call_lenD (by rfl) T.len PySem.boot_len (pa_cons (pv 1) pa_nil)) (pe_callB call_lenD (by rfl) T.len PySem.boot_len (pa_cons (pv 0) pa_nil)) (nomark _)))).pt) (pss_one (ps_ret pe_bl)) pss_nil) (pss_one (ps_ret (pe_all (own := [("kind", 2), ("value", 3)]) (g := gTup K 2 (gCons (gName 2) (gCons (gName 3) gNil))) hr rfl T.all TB rfl rfl sc.nd (blkOk_by (N := ["kinds", "row", "kind", "value"]) (sc := defScope sIsRow) (own := [("kind", 2), ("value", 3)]) (by decide +kernel)) (by decide +kernel) rfl rfl (RZ.pi_zipA (by rfl) T.zip (pa_cons (pv 0) (pa_cons (pv 1) pa_nil))) (fun _ _ _ _ _ _ _ => (pg_tup (by rfl) (pgs_cons (pg_name (i := 2) sc.nd rfl (Or.inl rfl)) (pgs_cons (pg_name (i := 3) sc.nd rfl (Or.inl rfl)) pgs_nil)))) (fun _ _ _ _ _ _ _ hr => (pe_c cV hr (by decide) (by rfl) pass0 (pa_cons (pv 2) (pa_cons (pv 3) pa_nil)))))))), ?_⟩
    refine ⟨_, rfl, _, _, _, rfl, by simp, hd, _, rfl, ?_⟩
    have nf : isRow ks d = false → Q (.bl false) H := fun e => by
      rw [← e]
      exact k H (Same.refl H)
    cases hd with
    | non => exact iteT (iteT (nf rfl))
    | bl _ => exact iteT (iteT (nf rfl))
    | int _ => exact iteT (iteT (nf rfl))
    | str _ => exact iteT (iteT (nf rfl))
    | lst _ _ => exact iteT (iteT (nf rfl))
    | @tup a xs ds hS hI =>
      refine iteF ⟨_, rfl, _, _, ds.length, rfl, .tup hS hI, rfl, _, rfl, _, _, (ks.map fun b => PyData.str (kindS b)).length, rfl, hk, rfl, rfl, _, rfl, ?_⟩
      rw [List.length_map]
      obtain ⟨hz1, hz2⟩ : ds.length ≤ 1000 ∧ ∀ e ∈ ds, fitD e := hz
      refine ite2 (fun h1 => ?_) (fun h1 => ?_)
      · refine nf ?_
        have e : ¬ ds.length = ks.length := fun z => by
          rw [z] at h1
          simp at h1
        show (decide (ds.length = ks.length) && _) = false
        rw [decide_eq_false e, Bool.false_and]
      · have e : ds.length = ks.length := by
          by_cases z : ds.length = ks.length
          · exact z
          · exact absurd (by simp; omega) h1
        have full : isRow ks (.tuple ds) = (ks.zip ds).all fun p => isVal p.1 p.2 := by
          show (decide (ds.length = ks.length) && _) = _
          rw [decide_eq_true e, Bool.true_and]
        rw [full] at k
        obtain ⟨aK, kv, rfl, hKS, hKI⟩ : ∃ aK kv, vk = .ref aK ∧ SqT K H aK kv ∧ DpAll K H kv (ks.map fun b => PyData.str (kindS b)) := by
          cases hk with
          | tup h1 h2 => exact ⟨_, _, rfl, h1, h2⟩
        have lk : kv.length = ks.length := by rw [dpLen hKI, List.length_map]
        have lx : xs.length = ds.length := dpLen hI
        refine ⟨_, rfl, _, rfl, aK, a, kv, xs, rfl, .inr ⟨hKS, hS, hR, ?_⟩⟩
        refine all_by ks.length (fun i H' => Same H H' ∧ ((ks.zip ds).take i).all (fun p => isVal p.1 p.2) = true) ⟨Same.refl H, by simp⟩ (fun i H' hi hp => ?_) (fun H' hp => ?_)
        · obtain ⟨sm, hp⟩ := hp
          have hiv : i < kv.length := by omega
          have hix : i < xs.length := by omega
          refine ⟨⟨kv, xs, kv[i], xs[i], sqT_same sm hKS, sqT_same sm hS, List.getElem?_eq_getElem hiv, List.getElem?_eq_getElem hix⟩, fun y H2 ⟨TT, x1, y1, ey, hTT, eH, hx, hy⟩ => ?_⟩
          subst ey eH
          have ex := hx kv (sqT_same sm hKS)
          have ey := hy xs (sqT_same sm hS)
          obtain ⟨dk, edk, hdk⟩ := dpGet hKI ex
          obtain ⟨dx, edx, hdx⟩ := dpGet hI ey
          obtain ⟨b, eb, rfl⟩ : ∃ b, ks[i]? = some b ∧ PyData.str (kindS b) = dk := by
            rw [List.getElem?_map] at edk
            cases q : ks[i]? with
            | none => rw [q] at edk; cases edk
            | some b => rw [q] at edk; exact ⟨b, rfl, Option.some.inj edk⟩
          have sm2 : Same H (upd H' TT (.tup [x1, y1])) := fun c o q => by
            rw [upd_ne (ne_of_none (sm c o q) hTT)]
            exact sm c o q
          have ez : (ks.zip ds)[i]? = some (b, dx) := by
            rw [List.getElem?_zip_eq_some]
            exact ⟨eb, edx⟩
          cases hdk
          refine ⟨TT, [_, y1], rfl, SqT.of upd_same, rfl, _, _, rfl, _, _, rfl, rfl, rfl, ?_⟩
          refine ⟨_, rfl, _, rfl, b, y1, dx, rfl, dp_same sm2 _ hdx, hz2 dx (List.mem_of_getElem? edx), sm2 _ _ hW, ?_⟩
          refine ⟨_, rfl, fun h2 => .mk hi ⟨sm2, ?_⟩, fun h2 => ?_⟩
          · rw [List.take_add_one, ez]
            simp only [Option.toList_some, List.all_append, hp, List.all_cons, h2, List.all_nil, Bool.and_self]
          · have e2 : (ks.zip ds).all (fun p => isVal p.1 p.2) = false := by
              rw [Bool.eq_false_iff]
              intro z
              have z2 := List.all_eq_true.mp z _ (List.mem_of_getElem? ez)
              rw [h2] at z2
              cases z2
            rw [← e2]
            exact k _ sm2
        · obtain ⟨sm, hp⟩ := hp
          refine ⟨⟨kv, xs, sqT_same sm hKS, sqT_same sm hS, .inl (by omega)⟩, ?_⟩
          rw [List.take_of_length_le (by rw [List.length_zip]; omega)] at hp
          rw [← hp]
          exact k _ sm
end
end RS
set_option Elab.async false
set_option maxRecDepth 100000
set_option maxHeartbeats 4000000
namespace RS
open PySem PySem.Spec PyProof.Rows L2 GX

/-! ### ranks -/
def pad6 (l : List Nat) : List Nat := l ++ List.replicate (6 - l.length) 32
def worthsOf : PyData → List Int
  | .int n => [n]
  | .str x => (pad6 x.cps.toList).map Int.ofNat
  | _ => []
theorem len_cps (x : Str) : x.cps.toList.length = x.length := by simp [Str.length]
theorem isWord_len {x : Str} (h : isWord (.str x) = true) : x.length ≤ 6 := by
  have h' : (decide ((x.length : Int) ≤ 6) && x.cps.toList.all signOk) = true := h
  rw [Bool.and_eq_true] at h'
  have := of_decide_eq_true h'.1
  omega
theorem ljust6 {x : Str} (h : x.length ≤ 6) : (Txt.ljust x 6).cps.toList = pad6 x.cps.toList := by
  unfold Txt.ljust pad6
  split
  · rename_i q
    have e : x.length = 6 := by omega
    rw [len_cps, e]
    simp
  · show (Array.replicate 0 32 ++ x.cps ++ Array.replicate ((6 : Int).toNat - x.length) 32).toList = _
    rw [len_cps]
    simp
theorem pad6_len {l : List Nat} (h : l.length ≤ 6) : (pad6 l).length = 6 := by
  unfold pad6
  rw [List.length_append, List.length_replicate]
  omega
theorem worths_len {b : Bool} {d : PyData} (h : isVal b d = true) : (worthsOf d).length ≤ 6 := by
  cases d with
  | int n => exact (by decide : 1 ≤ 6)
  | str x =>
    show ((pad6 x.cps.toList).map Int.ofNat).length ≤ 6
    rw [List.length_map, pad6_len (by
      rw [len_cps]
      cases b with
      | true => exact isWord_len h
      | false => simp [isVal, isNum, isI, isT, tyN] at h)]
    exact Nat.le_refl _
  | _ => exact Nat.zero_le _
/-- what a column of an order makes of a row -/
def keyP (row : List PyData) (p : Nat × Bool) : List Int := (worthsOf (row.getD p.1 .none)).map fun z => if p.2 then -z else z
def rankOf (os : List (Nat × Bool)) (q : Nat × List PyData) : List Int := os.flatMap (keyP q.2) ++ [(q.1 : Int)]
/-- the row has what the order asks -/
def Fits (os : List (Nat × Bool)) (row : List PyData) : Prop := ∀ p ∈ os, ∃ b d, row[p.1]? = some d ∧ isVal b d = true
theorem key_len {os : List (Nat × Bool)} {row : List PyData} (h : Fits os row) : ∀ p ∈ os, (keyP row p).length ≤ 6 := fun p hp => by
  obtain ⟨b, d, e, v⟩ := h p hp
  unfold keyP
  rw [List.length_map, List.getD_eq_getElem?_getD, e]
  exact worths_len v
theorem flat_len {α β : Type} (f : α → List β) (n : Nat) : ∀ l : List α, (∀ x ∈ l, (f x).length ≤ n) → (l.flatMap f).length ≤ n * l.length
  | [], _ => by simp
  | x :: l, h => by
    rw [List.flatMap_cons, List.length_append, List.length_cons]
    have h1 := h x List.mem_cons_self
    have h2 := flat_len f n l fun y hy => h y (List.mem_cons_of_mem _ hy)
    rw [Nat.mul_add, Nat.mul_one]
    omega

section
variable {P : Program} {w : World} {K : PySem.W.Frag} {mg : Str → Option Value} {base : Heap}
theorem scWorths : FnScope ["value", "sign"] ["value"] (defScope sWorths) := ⟨rfl, rfl, rfl, by decide +kernel, rfl, by decide +kernel, by decide +kernel⟩
def spWorths (K : PySem.W.Frag) : Sp := fun vs H Q _ => ∃ (v : V) (d : PyData) (b : Bool), vs = [v] ∧ Dp K H v d ∧ isVal b d = true ∧
  ∀ (H' : Hp) (p : Addr), Same H H' → H p = none → H' p = some (.lst ((worthsOf d).map V.int)) → Q (.ref p) H'
theorem worths_ok {c : Addr} (D : DefAt K mg "worths" sWorths c) (T : Txt K mg) : Cal P w K mg base CX0 1 "worths" ["value"] (spWorths K) := by
  have sc := scWorths
  obtain ⟨tL, hL⟩ := T.letters
  refine def_ok0 D sc (fun vs H Q E h => ?_) (fun _ _ _ _ _ _ us hl => match us, hl with | [_], _ => rfl) (fun f A outer s H vs Q E hr h => ?_)
  · obtain ⟨v, d, b, rfl, _⟩ := h
    rfl
  · obtain ⟨v, d, b, rfl, hd, hv, k⟩ := h
    refine ⟨_, (pss_cons (ps_if (pt_val (pe_callB call_isiD (by rfl) T.isinstance (by decide +kernel) (pa_cons (pv 0) (pa_cons (pe_bltn (v := V.ty "str") (u := Value.type "str") (by rfl) T.str_ (by decide +kernel) rfl) pa_nil)))) (pss_one (ps_ret (pe_lc (own := [("sign", 1)]) (tt := tYes)  rfl sc.nd (pi_str (pe_bm PySem.F.plainAttrs_str PySem.F.slot_str_ljust PySem.F.type_str_ljust mt_ljust (pv 0) (pa_cons (pe_glob (v := V.int 6) (by rfl) hL ⟨_, rfl⟩) pa_nil))) (blkOk_by (N := ["value", "sign"]) (sc := defScope sWorths) (own := [("sign", 1)]) (by decide +kernel)) (fun _ _ _ _ _ => (pg_name (i := 1) sc.nd rfl (Or.inl rfl))) (fun _ _ _ _ _ => pts_nil) (fun _ _ _ _ _ => (pe_callB call_ord (by rfl) T.ord (by decide +kernel) (pa_cons (pv 1) pa_nil)))))) pss_nil) (pss_one (ps_ret (pe_lst (pa_cons (pv 0) pa_nil))))), ?_⟩
    refine ⟨_, rfl, _, _, _, rfl, by simp, hd, _, rfl, ?_⟩
    cases hd with
    | non => cases b <;> simp [isVal, isNum, isI, isT, tyN, isWord] at hv
    | bl _ => cases b <;> simp [isVal, isNum, isI, isT, tyN, isWord] at hv
    | lst _ _ => cases b <;> simp [isVal, isNum, isI, isT, tyN, isWord] at hv
    | tup _ _ => cases b <;> simp [isVal, isNum, isI, isT, tyN, isWord] at hv
    | int n =>
      have e : isI "str" (.int n) = false := by simp [isI, isT, tyN]
      rw [e]
      refine iteF ⟨_, rfl, by show 1 ≤ sizeLine; decide, fun p hp => ?_⟩
      exact k _ p (fun b' o q => by rw [upd_ne (ne_of_none q hp)]; exact q) hp upd_same
    | str x =>
      have e : isI "str" (.str x) = true := by simp [isI, isT, tyN]
      rw [e]
      have hx : x.length ≤ 6 := by
        cases b with
        | true => exact isWord_len hv
        | false => simp [isVal, isNum, isI, isT, tyN] at hv
      refine iteT ⟨_, rfl, rfl, x, 6, rfl, rfl, by decide +kernel, _, rfl, fun p hp => ?_⟩
      refine lc_by (Txt.ljust x 6).cps.size (fun i H' => Same H H' ∧ H' p = some (.lst (((pad6 x.cps.toList).take i).map fun c => V.int (Int.ofNat c)))) ⟨fun b' o q => by rw [upd_ne (ne_of_none q hp)]; exact q, upd_same⟩ ?_ ?_
      · rintro i H' hi ⟨sm, hl⟩
        refine ⟨hi, fun y H2 ⟨e2, cc, hc, ey⟩ => ?_⟩
        subst e2 ey
        have hc2 : (pad6 x.cps.toList)[i]? = some cc := by
          rw [← ljust6 hx]
          simpa using hc
        have li : i < 6 := by
          rw [← pad6_len (by rw [len_cps]; exact hx)]
          exact (List.getElem?_eq_some_iff.mp hc2).1
        refine ⟨rfl, _, rfl, _, rfl, rfl, _, hl, small1000 (by rw [List.length_map, List.length_take]; omega), ?_, ?_⟩
        · exact fun b' o q => by rw [upd_ne (ne_of_none q hp)]; exact sm b' o q
        · rw [upd_same, List.take_add_one, hc2, List.map_append]
          rfl
      · rintro H' ⟨sm, hl⟩
        refine ⟨Nat.le_refl _, ?_⟩
        have ez : (pad6 x.cps.toList).take (Txt.ljust x 6).cps.size = pad6 x.cps.toList := by
          rw [List.take_of_length_le]
          rw [← ljust6 hx]
          simp
        rw [ez] at hl
        refine k H' p sm hp ?_
        rw [hl]
        show _ = some (HO.lst (((pad6 x.cps.toList).map Int.ofNat).map V.int))
        rw [List.map_map]
        rfl

theorem scRank : FnScope ["order", "told", "number", "row", "ranked", "column", "way", "worth"] ["order", "told"] (defScope sRank) := ⟨rfl, rfl, rfl, by decide +kernel, rfl, by decide +kernel, by decide +kernel⟩
def spRank (K : PySem.W.Frag) : Sp := fun vs H Q _ => ∃ (vo vt : V) (os : List (Nat × Bool)) (q : Nat × List PyData), vs = [vo, vt] ∧ Dp K H vo (orderD os) ∧ Dp K H vt (pairD q) ∧ os.length ≤ 1000 ∧ Fits os q.2 ∧
  ∀ (H' : Hp) (p : Addr), Same H H' → H p = none → H' p = some (.tup ((rankOf os q).map V.int)) → Q (.ref p) H'
theorem rank_ok {c : Addr} (D : DefAt K mg "rank" sRank c) (T : Txt K mg) (cW : Cal P w K mg base CX0 1 "worths" ["value"] (spWorths K)) : Cal P w K mg base CX0 2 "rank" ["order", "told"] (spRank K) := by
  have sc := scRank
  refine def_ok0 D sc (fun vs H Q E h => ?_) (fun _ _ _ _ _ _ us hl => match us, hl with | [_, _], _ => rfl) (fun f A outer s H vs Q E hr h => ?_)
  · obtain ⟨vo, vt, os, q, rfl, _⟩ := h
    rfl
  · obtain ⟨vo, vt, os, ⟨n, row⟩, rfl, ho, hq, hz, hf, k⟩ := h
    refine ⟨_, (pss_cons (ps_asg (pv 1) (pg_tup (by rfl) (pgs_cons (pg_name (i := 2) sc.nd rfl (Or.inl rfl)) (pgs_cons (pg_name (i := 3) sc.nd rfl (Or.inl rfl)) pgs_nil)))) (pss_cons (ps_set (i := 4) sc.nd rfl (Or.inl rfl) (pe_lst pa_nil)) (pss_cons (ps_for PassesOwn.never rfl (pi_list (pv 0)) (pg_tup (by rfl) (pgs_cons (pg_name (i := 5) sc.nd rfl (Or.inl rfl)) (pgs_cons (pg_name (i := 6) sc.nd rfl (Or.inl rfl)) pgs_nil))) (pss_one (ps_if (pt_cmpR op_eq (pv 6) pe_str (nomark _)) (pss_one (ps_expr (pe_bm PySem.F.plainAttrs_list PySem.F.slot_list_extend PySem.F.type_list_extend mt_extend (pv 4) (pa_cons (pe_c cW hr (by decide) (by rfl) pass0 (pa_cons (pe_ix ixD (pv 3) (pv 5) (fun _ _ => rfl)) pa_nil)) pa_nil)))) (pss_one (ps_expr (pe_bm PySem.F.plainAttrs_list PySem.F.slot_list_extend PySem.F.type_list_extend mt_extend (pv 4) (pa_cons (pe_lc (own := [("worth", 7)]) (tt := tYes)  rfl sc.nd (pi_list (pe_c cW hr (by decide) (by rfl) pass0 (pa_cons (pe_ix ixD (pv 3) (pv 5) (fun _ _ => rfl)) pa_nil))) (blkOk_by (N := ["order", "told", "number", "row", "ranked", "column", "way", "worth"]) (sc := defScope sRank) (own := [("worth", 7)]) (by decide +kernel)) (fun _ _ _ _ _ => (pg_name (i := 7) sc.nd rfl (Or.inl rfl))) (fun _ _ _ _ _ => pts_nil) (fun _ _ _ _ _ => pe_un un_neg (pv 7))) pa_nil))))))) (pss_one (ps_ret (pe_callTy call_tuple_of (by rfl) T.tuple_ (by decide +kernel) (pa_cons (pe_op op_cat (pv 4) (pe_lst (pa_cons (pv 2) pa_nil))) pa_nil))))))), ?_⟩
    cases ho with
    | @lst ao xo _ hSo hIo =>
      cases hq with
      | @tup at_ xt _ hSt hIt =>
        cases hIt with
        | cons h1 hIt =>
          cases hIt with
          | cons h2 hIt =>
            cases hIt
            cases h1
            rename_i vr
            have lo : xo.length = os.length := by rw [dpLen hIo, List.length_map]
            refine ⟨_, rfl, at_, _, rfl, hSt, rfl, _, _, rfl, _, _, rfl, rfl, ?_⟩
            refine ⟨Nat.zero_le _, fun pr hp => ?_⟩
            have s0 : Same H (upd H pr (.lst [])) := fun b' o e => by rw [upd_ne (ne_of_none e hp)]; exact e
            refine ⟨_, rfl, ao, rfl, ⟨_, s0.seq hSo⟩, for_list (K := K) (a := ao) (xs := xo) (fun i σ H' => ∃ v5 v6 : Option V, σ = [some (.ref ao), some (.ref at_), some (.int (n : Int)), some vr, some (.ref pr), v5, v6, none] ∧ Same H H' ∧ H' pr = some (.lst (((os.take i).flatMap (keyP row)).map V.int)))
              ⟨none, none, rfl, s0, upd_same⟩ (fun i σ H' _ ⟨_, _, _, sm, _⟩ => sm.seq hSo) ?_ ?_⟩
            · rintro i y σ H' hi ⟨v5, v6, rfl, sm, hL⟩
              obtain ⟨d, ed, hd⟩ := dpGet hIo hi
              obtain ⟨⟨c, b⟩, eq, rfl⟩ : ∃ q, os[i]? = some q ∧ d = partD q := by
                rw [List.getElem?_map] at ed
                cases q : os[i]? with
                | none => rw [q] at ed; cases ed
                | some b => rw [q] at ed; exact ⟨b, rfl, (Option.some.inj ed).symm⟩
              have hm := List.mem_of_getElem? eq
              have hi' : i < os.length := (List.getElem?_eq_some_iff.mp eq).1
              obtain ⟨b', d, er, hv⟩ := hf _ hm
              have er : row[c]? = some d := er
              cases hd with
              | @tup ap xp _ hSp hIp =>
                cases hIp with
                | cons g1 hIp =>
                  cases hIp with
                  | cons g2 hIp =>
                    cases hIp
                    cases g1
                    cases g2
                    have ekey : keyP row (c, b) = (worthsOf d).map fun z => if b then -z else z := by
                      unfold keyP
                      rw [List.getD_eq_getElem?_getD, er]
                      rfl
                    have full : (os.take (i + 1)).flatMap (keyP row) = (os.take i).flatMap (keyP row) ++ keyP row (c, b) := by
                      rw [List.take_add_one, eq, List.flatMap_append]
                      simp
                    have l1 : ((os.take i).flatMap (keyP row)).length ≤ 6000 := by
                      have := flat_len (keyP row) 6 (os.take i) fun x hx => key_len hf x (List.mem_of_mem_take hx)
                      rw [List.length_take] at this
                      omega
                    have l2 : (worthsOf d).length ≤ 6 := worths_len hv
                    have big : (6006 : Nat) ≤ sizeLine := by decide
                    refine ⟨ap, _, rfl, sqT_same sm hSp, rfl, _, _, rfl, _, _, rfl, rfl, ?_⟩
                    refine ⟨_, rfl, rfl, _, rfl, ?_⟩
                    have hw : decide (V.str (wayS b) = V.str (Str.ofString "up")) = !b := by cases b <;> decide +kernel
                    rw [hw]
                    cases b with
                    | false =>
                      refine iteT ⟨_, rfl, .inl ⟨rfl, _, SqL.of hL⟩, _, rfl, _, rfl, _, row, c, d, dp_same sm _ h2, rfl, rfl, atI_nat er, fun v hv' => ?_⟩
                      refine ⟨v, d, b', rfl, hv', hv, fun H2 p2 s2 hp2 hL2 => ?_⟩
                      have ne2 : p2 ≠ pr := fun z => by rw [z, hL] at hp2; cases hp2
                      refine ⟨pr, p2, _, _, rfl, rfl, s2 _ _ hL, hL2, by simp only [List.length_map]; omega, ?_⟩
                      refine ⟨_, _, rfl, fun q o e => ?_, ?_⟩
                      · rw [upd_ne (fun z => by subst z; rw [hp] at e; cases e)]
                        exact s2 _ _ (sm q o e)
                      · rw [upd_same, full, List.map_append, ekey]
                        simp
                    | true =>
                      refine iteF ⟨_, rfl, .inl ⟨rfl, _, SqL.of hL⟩, _, rfl, _, rfl, _, row, c, d, dp_same sm _ h2, rfl, rfl, atI_nat er, fun v hv' => ?_⟩
                      refine ⟨v, d, b', rfl, hv', hv, fun H2 p2 s2 hp2 hL2 => ?_⟩
                      have ne2 : p2 ≠ pr := fun z => by rw [z, hL] at hp2; cases hp2
                      refine ⟨p2, rfl, ⟨_, SqL.of hL2⟩, fun DD hD => ?_⟩
                      have neD : p2 ≠ DD := fun z => by rw [← z, hL2] at hD; cases hD
                      have neD2 : pr ≠ DD := fun z => by rw [← z, s2 _ _ hL] at hD; cases hD
                      refine lc_list (K := K) (a := p2) (xs := (worthsOf d).map V.int) (fun j H3 => Same H2 H3 ∧ H3 DD = some (.lst (((worthsOf d).take j).map fun z => V.int (-z)))) ⟨fun q o e => by rw [upd_ne (ne_of_none e hD)]; exact e, upd_same⟩
                        (fun j H3 _ hp3 => SqL.of (hp3.1 _ _ hL2)) ?_ ?_
                      · rintro j x H3 hx ⟨sm3, hl3⟩
                        obtain ⟨z, ez, rfl⟩ : ∃ z, (worthsOf d)[j]? = some z ∧ x = V.int z := by
                          rw [List.getElem?_map] at hx
                          cases q : (worthsOf d)[j]? with
                          | none => rw [q] at hx; cases hx
                          | some z => rw [q] at hx; exact ⟨z, rfl, (Option.some.inj hx).symm⟩
                        refine ⟨rfl, _, rfl, _, rfl, _, hl3, small1000 (by rw [List.length_map, List.length_take]; omega), fun q o e => ?_, ?_⟩
                        · rw [upd_ne (fun z' => by subst z'; rw [hD] at e; cases e)]
                          exact sm3 q o e
                        · rw [upd_same, List.take_add_one, ez, List.map_append]
                          rfl
                      · rintro H3 ⟨sm3, hl3⟩
                        rw [List.length_map, List.take_length] at hl3
                        refine ⟨pr, DD, _, _, rfl, rfl, sm3 _ _ (s2 _ _ hL), hl3, by simp only [List.length_map]; omega, ?_⟩
                        refine ⟨_, _, rfl, fun q o e => ?_, ?_⟩
                        · rw [upd_ne (fun z => by subst z; rw [hp] at e; cases e)]
                          exact sm3 _ _ (s2 _ _ (sm q o e))
                        · rw [upd_same, full, List.map_append, ekey]
                          simp
            · rintro σ H' ⟨v5, v6, rfl, sm, hL⟩
              rw [lo, List.take_length] at hL
              have l1 : (os.flatMap (keyP row)).length ≤ 6000 := by
                have := flat_len (keyP row) 6 os fun x hx => key_len hf x hx
                omega
              have big : (6006 : Nat) ≤ sizeLine := by decide
              refine ⟨_, rfl, _, rfl, by show 1 ≤ sizeLine; decide, fun p1 hp1 => ?_⟩
              have ne1 : pr ≠ p1 := fun z => by rw [← z, hL] at hp1; cases hp1
              refine ⟨pr, p1, _, _, rfl, rfl, by rw [upd_ne ne1]; exact hL, upd_same, by simp only [List.length_map, List.length_cons, List.length_nil]; omega, fun p2 hp2 => ?_⟩
              refine ⟨p2, _, rfl, .inl ⟨SqL.of upd_same, fun p3 hp3 => ?_⟩⟩
              have s1 : Same H' (upd H' p1 (.lst [V.int (n : Int)])) := fun q o e => by rw [upd_ne (ne_of_none e hp1)]; exact e
              have s2 : Same H' (upd (upd H' p1 (.lst [V.int (n : Int)])) p2 (.lst ((os.flatMap (keyP row)).map V.int ++ [V.int (n : Int)]))) := fun q o e => by rw [upd_ne (ne_of_none (s1 q o e) hp2)]; exact s1 q o e
              refine k _ p3 (fun q o e => ?_) ((sm.trans s2).free hp3) ?_
              · have e2 := s2 q o (sm q o e)
                rw [upd_ne (ne_of_none e2 hp3)]
                exact e2
              · rw [upd_same]
                unfold rankOf
                rw [List.map_append]
                rfl
end
end RS
set_option Elab.async false
set_option maxRecDepth 100000
set_option maxHeartbeats 4000000
/-! heaps over places 0 .. n - 1, f what stands there -/
namespace HQ
section
variable {α : Type} {lt : α → α → Bool}
def par (i : Nat) : Nat := (i - 1) / 2
/-- each thing whose parent stands at k or behind it is no less than that parent -/
def From (lt : α → α → Bool) (n : Nat) (f : Nat → α) (k : Nat) : Prop := ∀ i, 1 ≤ i → i < n → k ≤ par i → lt (f i) (f (par i)) = false
def swp (f : Nat → α) (i j : Nat) : Nat → α := fun k => if k = i then f j else if k = j then f i else f k
inductive Desc (top : Nat) : Nat → Prop
  | refl : Desc top top
  | step {c : Nat} (h : 1 ≤ c) (d : Desc top (par c)) : Desc top c
/-- what lies under pos is no less than what lies over it -/
def Over (lt : α → α → Bool) (n : Nat) (f : Nat → α) (top pos : Nat) : Prop :=
  pos = top ∨ (1 ≤ pos ∧ Desc top (par pos) ∧ ∀ c, 1 ≤ c → c < n → par c = pos → lt (f c) (f (par pos)) = false)
structure Down (lt : α → α → Bool) (n : Nat) (f : Nat → α) (top pos : Nat) : Prop where
  ds : Desc top pos
  ok : ∀ i, 1 ≤ i → i < n → top ≤ par i → par i ≠ pos → i ≠ pos → lt (f i) (f (par i)) = false
  over : Over lt n f top pos
structure Up (lt : α → α → Bool) (n : Nat) (f : Nat → α) (top pos : Nat) : Prop where
  ds : Desc top pos
  ok : ∀ i, 1 ≤ i → i < n → top ≤ par i → i ≠ pos → lt (f i) (f (par i)) = false
  over : Over lt n f top pos
theorem par_lt {i : Nat} (h : 1 ≤ i) : par i < i := by unfold par; omega
theorem Desc.le {top p : Nat} (h : Desc top p) : top ≤ p := by
  induction h with
  | refl => exact Nat.le_refl _
  | step h _ ih => exact Nat.le_trans ih (Nat.le_of_lt (par_lt h))
theorem Desc.zero : ∀ p : Nat, Desc 0 p := fun p => by
  induction p using Nat.strongRecOn with
  | ind p ih =>
    by_cases h : 1 ≤ p
    · exact .step h (ih _ (par_lt h))
    · have e : p = 0 := by omega
      subst e
      exact .refl
theorem Desc.up {top p : Nat} (h : Desc top p) (ne : p ≠ top) : 1 ≤ p ∧ Desc top (par p) := by
  cases h with
  | refl => exact absurd rfl ne
  | step h d => exact ⟨h, d⟩
theorem par_left (i : Nat) : par (2 * i + 1) = i := by unfold par; omega
theorem par_right (i : Nat) : par (2 * i + 2) = i := by unfold par; omega
theorem par_iff {i p : Nat} (h : 1 ≤ i) : par i = p ↔ i = 2 * p + 1 ∨ i = 2 * p + 2 := by unfold par; omega
theorem From.down {n : Nat} {f : Nat → α} {k : Nat} (h : From lt n f (k + 1)) : Down lt n f k k :=
  ⟨.refl, fun i h1 h2 h3 h4 _ => h i h1 h2 (by omega), .inl rfl⟩
theorem Down.leaf {n : Nat} {f : Nat → α} {top pos : Nat} (h : Down lt n f top pos) (hl : ¬ pos < n / 2) : Up lt n f top pos :=
  ⟨h.ds, fun i h1 h2 h3 h4 => h.ok i h1 h2 h3 (fun e => by
    rcases (par_iff h1).mp e with z | z <;> omega) h4, h.over⟩
/-- the lesser child goes up -/
theorem Down.step (O : SrtO.Swo lt) {n : Nat} {f : Nat → α} {top pos c : Nat} (h : Down lt n f top pos) (hc : c < n) (hp : c = 2 * pos + 1 ∨ c = 2 * pos + 2)
    (hm : ∀ d, (d = 2 * pos + 1 ∨ d = 2 * pos + 2) → d < n → lt (f d) (f c) = false) : Down lt n (swp f c pos) top c := by
  have pc : par c = pos := (par_iff (by omega)).mpr hp
  have hle := h.ds.le
  refine ⟨.step (by omega) (by rw [pc]; exact h.ds), fun i h1 h2 h3 h4 h5 => ?_, .inr ⟨by omega, by rw [pc]; exact h.ds, fun d h1 h2 h3 => ?_⟩⟩
  · -- i is not c, its parent is not c
    have si : swp f c pos i = if i = pos then f c else f i := by
      unfold swp
      rw [if_neg h5]
    have sp : swp f c pos (par i) = if par i = pos then f c else f (par i) := by
      unfold swp
      rw [if_neg h4]
    rw [si, sp]
    have nn : ¬ (i = pos ∧ par i = pos) := fun z => by
      have := par_lt h1
      omega
    by_cases e1 : i = pos
    · have e2 : ¬ par i = pos := fun z => nn ⟨e1, z⟩
      rw [if_pos e1, if_neg e2]
      rcases h.over with z | ⟨z1, z2, z3⟩
      · rw [e1] at h3
        have := par_lt (i := pos) (by omega)
        omega
      · rw [e1]
        exact z3 c (by omega) hc pc
    · rw [if_neg e1]
      by_cases e2 : par i = pos
      · rw [if_pos e2]
        exact hm i ((par_iff h1).mp e2) h2
      · rw [if_neg e2]
        exact h.ok i h1 h2 h3 e2 e1
  · -- d under c
    have e1 : d ≠ c := fun z => by
      have := par_lt h1
      omega
    have e2 : d ≠ pos := fun z => by
      have := par_lt h1
      have := par_lt (i := c) (by omega)
      omega
    have s1 : swp f c pos d = f d := by
      unfold swp
      rw [if_neg e1, if_neg e2]
    have s2 : swp f c pos (par c) = f c := by
      unfold swp
      rw [pc, if_neg (by have := par_lt (i := c) (by omega); omega), if_pos rfl]
    rw [s1, s2]
    have := h.ok d h1 h2 (by rw [h3]; omega) (by rw [h3]; have := par_lt (i := c) (by omega); omega) e2
    rw [h3] at this
    exact this
/-- it goes up past its parent -/
theorem Up.step (O : SrtO.Swo lt) {n : Nat} {f : Nat → α} {top pos : Nat} (h : Up lt n f top pos) (hn : pos < n) (ht : top < pos) (hl : lt (f pos) (f (par pos)) = true) : Up lt n (swp f (par pos) pos) top (par pos) := by
  have hpp := par_lt (i := pos) (by omega)
  rcases h.over with z | ⟨z1, z2, z3⟩
  · omega
  refine ⟨z2, fun i h1 h2 h3 h4 => ?_, ?_⟩
  · have si : swp f (par pos) pos i = if i = pos then f (par pos) else f i := by
      unfold swp
      rw [if_neg h4]
    rw [si]
    by_cases e1 : i = pos
    · rw [if_pos e1]
      have sp : swp f (par pos) pos (par i) = f pos := by
        unfold swp
        rw [e1, if_pos rfl]
      rw [sp]
      exact O.asym _ _ hl
    · rw [if_neg e1]
      by_cases e2 : par i = par pos
      · have sp : swp f (par pos) pos (par i) = f pos := by
          unfold swp
          rw [if_pos e2]
        rw [sp]
        have a := h.ok i h1 h2 h3 e1
        rw [e2] at a
        exact O.tr _ _ _ (O.asym _ _ hl) a
      · by_cases e3 : par i = pos
        · have sp : swp f (par pos) pos (par i) = f (par pos) := by
            unfold swp
            rw [if_neg e2, if_pos e3]
          rw [sp]
          exact z3 i h1 h2 e3
        · have sp : swp f (par pos) pos (par i) = f (par i) := by
            unfold swp
            rw [if_neg e2, if_neg e3]
          rw [sp]
          exact h.ok i h1 h2 h3 e1
  · by_cases e : par pos = top
    · exact .inl e
    · obtain ⟨g1, g2⟩ := z2.up e
      refine .inr ⟨g1, g2, fun c c1 c2 c3 => ?_⟩
      have hq := par_lt g1
      have sq : swp f (par pos) pos (par (par pos)) = f (par (par pos)) := by
        unfold swp
        rw [if_neg (by omega), if_neg (by omega)]
      have a : lt (f (par pos)) (f (par (par pos))) = false := h.ok _ g1 (by omega) g2.le (by omega)
      rw [sq]
      have hc := par_lt c1
      by_cases e1 : c = pos
      · have sc : swp f (par pos) pos c = f (par pos) := by
          unfold swp
          rw [if_neg (by omega), if_pos e1]
        rw [sc]
        exact a
      · have sc : swp f (par pos) pos c = f c := by
          unfold swp
          rw [if_neg (by omega), if_neg e1]
        rw [sc]
        have b := h.ok c c1 c2 (by rw [c3]; exact z2.le) e1
        rw [c3] at b
        exact O.tr _ _ _ a b
theorem Up.top {n : Nat} {f : Nat → α} {top pos : Nat} (h : Up lt n f top pos) (hp : ¬ top < pos) : From lt n f top := fun i h1 h2 h3 => h.ok i h1 h2 h3 fun e => by
  have := par_lt h1
  omega
theorem Up.stop {n : Nat} {f : Nat → α} {top pos : Nat} (h : Up lt n f top pos) (hl : lt (f pos) (f (par pos)) = false) : From lt n f top := fun i h1 h2 h3 => by
  by_cases e : i = pos
  · rw [e]; exact hl
  · exact h.ok i h1 h2 h3 e
theorem From.push {n : Nat} {f g : Nat → α} (h : From lt n f 0) (e : ∀ i, i < n → g i = f i) : Up lt (n + 1) g 0 n := by
  refine ⟨.zero _, fun i h1 h2 h3 h4 => ?_, ?_⟩
  · have := par_lt h1
    rw [e i (by omega), e (par i) (by omega)]
    exact h i h1 (by omega) (Nat.zero_le _)
  · by_cases z : n = 0
    · exact .inl z
    · refine .inr ⟨by omega, .zero _, fun c c1 c2 c3 => ?_⟩
      have := par_lt c1
      omega
theorem From.root {n : Nat} {f g : Nat → α} (h : From lt n f 0) (e : ∀ i, 1 ≤ i → i < n → g i = f i) : Down lt n g 0 0 :=
  ⟨.refl, fun i h1 h2 _ h4 _ => by
    have := par_lt h1
    rw [e i h1 h2, e (par i) (by omega) (by omega)]
    exact h i h1 h2 (Nat.zero_le _), .inl rfl⟩
theorem From.less {n m : Nat} {f : Nat → α} {k : Nat} (h : From lt n f k) (hm : m ≤ n) : From lt m f k := fun i h1 h2 h3 => h i h1 (by omega) h3
theorem From.half {n : Nat} {f : Nat → α} : From lt n f (n / 2) := fun i h1 h2 h3 => by
  have : par i = (i - 1) / 2 := rfl
  omega
theorem From.few {n : Nat} {f : Nat → α} (h : n < 2) : From lt n f 0 := fun i h1 h2 _ => by omega
theorem From.least (O : SrtO.Swo lt) {n : Nat} {f : Nat → α} (h : From lt n f 0) : ∀ i, i < n → lt (f i) (f 0) = false := fun i => by
  induction i using Nat.strongRecOn with
  | ind i ih =>
    intro hi
    by_cases h1 : 1 ≤ i
    · have hp := par_lt h1
      exact O.tr _ _ _ (ih _ hp (by omega)) (h i h1 hi (Nat.zero_le _))
    · have e : i = 0 := by omega
      subst e
      exact O.refl _
end
end HQ
set_option Elab.async false
set_option maxRecDepth 100000
set_option maxHeartbeats 2000000
namespace HQ
open PySem PySem.Spec PyProof.Rows L2 PySem.SeqAt
/-! ### tuples whose first numbers differ -/
theorem tupLt2 (a b : Addr) (xs ys : Array Value) (n m : Nat) (da db : Option Addr) (sa sb : Array (Option Value)) (e r : Nat → Bool) :
    Meets (Builtin.«tuple.__lt__» ⟨[.ref a, .ref b], []⟩) (fun A R s => s.heap.get? a = some ⟨.type "tuple", da, .seq xs n, sa⟩ ∧ s.heap.get? b = some ⟨.type "tuple", db, .seq ys m, sb⟩ ∧
        (∀ j (p : j < xs.size) (q : j < ys.size), (∀ i < j, e i = true) → EqAt A.in1 s xs[j] ys[j] (e j)) ∧ (∀ j (p : j < xs.size) (q : j < ys.size), (∀ i < j, e i = true) → e j = false → RcLt A.in1 s xs[j] ys[j] (r j)) ∧
        R (.ok (.ret (.bool (firstLt e r (decide (xs.size < ys.size)) (List.range (min xs.size ys.size)))))) s) := .of_wp fun prog w A R s H => by
    obtain ⟨hp, g, d, tk, os⟩ := s
    obtain ⟨ha, hb, he, hr, H⟩ := H
    have sub := AutoSeq1.sub_tuple_tuple
    have lZ : (xs.toList.zip ys.toList).length = min xs.size ys.size := by simp
    wp_walk using AutoSeq1.wpAny_loadPart' ha, AutoSeq1.wpAny_loadPart' hb, wpAny_forIn_list _ (fun rest c s' => c.1 = none ∧ s' = ⟨hp, g, d, tk, os⟩ ∧ ∃ i, rest = (xs.toList.zip ys.toList).drop i ∧ (∀ k < i, e k = true) ∧ R (.ok (.ret (.bool (firstLt e r (decide (xs.size < ys.size)) ((List.range (min xs.size ys.size)).drop i))))) ⟨hp, g, d, tk, os⟩) _
    case turn =>
      rintro ⟨y, x⟩ rest c s' ⟨hc, rfl, i, hz, hk, hR⟩
      have hlt : i < (xs.toList.zip ys.toList).length := by
        by_cases z : i < (xs.toList.zip ys.toList).length
        · exact z
        · rw [List.drop_of_length_le (Nat.le_of_not_lt z)] at hz
          cases hz
      have hm : i < min xs.size ys.size := by rw [← lZ]; exact hlt
      have i1 : i < xs.size := by omega
      have i2 : i < ys.size := by omega
      rw [List.drop_eq_getElem_cons hlt] at hz
      obtain ⟨hyx, hrest⟩ := List.cons.inj hz
      have ey : y = xs[i] := by simpa using congrArg Prod.fst hyx
      have ex : x = ys[i] := by simpa using congrArg Prod.snd hyx
      subst ey ex
      have ed : (List.range (min xs.size ys.size)).drop i = i :: (List.range (min xs.size ys.size)).drop (i + 1) := by
        simp [List.drop_eq_getElem_cons, hm]
      rw [ed] at hR
      refine wpAny_bind (he i i1 i2 hk prog w _ _ ?_)
      by_cases ei : e i = true
      · rw [firstLt_yes ei] at hR
        rw [ei]
        wp_walk
        refine ⟨rfl, rfl, i + 1, hrest, fun k kk => ?_, hR⟩
        by_cases z : k = i
        · rw [z]; exact ei
        · exact hk k (by omega)
      · have ei : e i = false := by simpa using ei
        rw [firstLt_no ei] at hR
        rw [ei]
        generalize hrc : PySem.richCompare = rc
        wp_walk
        subst hrc
        refine hr i i1 i2 hk ei prog w _ _ ?_
        wp_walk
        exact ⟨_, rfl, hR⟩
    case fin =>
      rintro ⟨c1, c2⟩ s' ⟨hc, rfl, i, hz, _, hR⟩
      simp only at hc
      subst hc
      have hge : min xs.size ys.size ≤ i := by
        by_cases z : i < (xs.toList.zip ys.toList).length
        · rw [List.drop_eq_getElem_cons z] at hz
          cases hz
        · rw [← lZ]
          omega
      rw [List.drop_of_length_le (by simpa using hge)] at hR
      wp_walk
      exact ⟨_, rfl, by simpa [Builtin.Tuple.tupleCompareSizes, firstLt] using hR⟩
    case h =>
      exact ⟨rfl, rfl, 0, rfl, fun k kk => absurd kk (Nat.not_lt_zero _), by simpa using H⟩
def eTri (x1 x2 y1 y2 : Int) (j : Nat) : Bool := if j = 0 then decide (x1 = y1) else if j = 1 then decide (x2 = y2) else false
def rTri (x1 x2 y1 y2 : Int) (j : Nat) : Bool := if j = 0 then decide (x1 < y1) else decide (x2 < y2)
theorem triLt {x1 x2 y1 y2 : Int} {d d' : PyData} (h : x1 ≠ y1 ∨ x2 ≠ y2) : PySem.W.dataLt (.tuple [.int x1, .int x2, d]) (.tuple [.int y1, .int y2, d']) = (if x1 = y1 then decide (x2 < y2) else decide (x1 < y1)) := by
  have al : ∀ a b : Int, PySem.W.alike (.int a) (.int b) = true := fun a b => by simp [PySem.W.alike]
  have ev : ∀ a b : Int, PyData.eqv (.int a) (.int b) = decide (a = b) := fun a b => by by_cases q : a = b <;> simp [q, PyData.eqv]
  rw [PySem.W.dataLt_tuple]
  by_cases e1 : x1 = y1
  · have e2 : ¬ x2 = y2 := fun z => h.elim (fun q => q e1) fun q => q z
    rw [if_pos e1, PySem.W.dataLt_all_yes (al x1 y1) (by rw [ev]; exact decide_eq_true e1), PySem.W.dataLt_all_no (al x2 y2) (by rw [ev]; exact decide_eq_false e2), PySem.W.dataLt_int]
  · rw [if_neg e1, PySem.W.dataLt_all_no (al x1 y1) (by rw [ev]; exact decide_eq_false e1), PySem.W.dataLt_int]
theorem three {h : Heap} {l : List Value} {a b c : PyData} {as : List Addr} (r : ReadsAll h l [a, b, c] as) : ∃ v1 v2 v3 : Value, l = [v1, v2, v3] ∧ (∃ z, Reads h v1 a z) ∧ ∃ z, Reads h v2 b z := by
  cases r with
  | cons r1 t1 =>
    cases t1 with
    | cons r2 t2 =>
      cases t2 with
      | cons r3 t3 =>
        cases t3
        exact ⟨_, _, _, rfl, ⟨_, r1⟩, ⟨_, r2⟩⟩
theorem rc_tri {x1 x2 y1 y2 : Int} {d d' : PyData} {A : Around} {s : Shared} {u v : Value} {as bs : List Addr} (ra : Reads s.heap u (.tuple [.int x1, .int x2, d]) as) (rb : Reads s.heap v (.tuple [.int y1, .int y2, d']) bs) (h : x1 ≠ y1 ∨ x2 ≠ y2) (hu : A.units + 1 < cLine) :
    RcLt A s u v (PySem.W.dataLt (.tuple [.int x1, .int x2, d]) (.tuple [.int y1, .int y2, d'])) := by
  rw [triLt h]
  cases ra with
  | @tuple l o vs n _ as₁ h1 h2 h3 h4 =>
    cases rb with
    | @tuple l' o' vs' n' _ bs₁ k1 k2 k3 k4 =>
      obtain ⟨p1, p2, p3, ep, ⟨z1, r1⟩, ⟨z2, r2⟩⟩ := three h4
      obtain ⟨q1, q2, q3, eq, ⟨w1, t1⟩, ⟨w2, t2⟩⟩ := three k4
      have ep : vs = #[p1, p2, p3] := Array.toList_inj.mp ep
      have eq : vs' = #[q1, q2, q3] := Array.toList_inj.mp eq
      subst ep eq
      have al : ∀ a b : Int, PySem.W.alike (.int a) (.int b) = true := fun a b => by simp [PySem.W.alike]
      have ev : ∀ a b : Int, PyData.eqv (.int a) (.int b) = decide (a = b) := fun a b => by by_cases q : a = b <;> simp [q, PyData.eqv]
      have room : ∀ a b : Int, A.in1.units + min (PyData.int a).depth (PyData.int b).depth < cLine := fun a b => by
        show A.units + 1 + min (PyData.int a).depth (PyData.int b).depth < cLine
        simp only [PyData.depth, Nat.min_self]
        omega
      have E1 := PySem.W.eqAt_alike (.int x1) (.int y1) A.in1 s p1 q1 _ _ r1 t1 (al _ _) (room _ _)
      have E2 := PySem.W.eqAt_alike (.int x2) (.int y2) A.in1 s p2 q2 _ _ r2 t2 (al _ _) (room _ _)
      have L1 := PySem.W.rcLt_alike (.int x1) (.int y1) A.in1 s p1 q1 _ _ r1 t1 (al _ _) (by simp) (room _ _)
      have L2 := PySem.W.rcLt_alike (.int x2) (.int y2) A.in1 s p2 q2 _ _ r2 t2 (al _ _) (by simp) (room _ _)
      rw [ev] at E1 E2
      rw [PySem.W.dataLt_int] at L1 L2
      obtain ⟨oc, od, ot, osl⟩ := o
      obtain ⟨oc', od', ot', osl'⟩ := o'
      simp only at h2 h3 k2 k3
      subst h2 h3 k2 k3
      intro prog w E Q hq
      refine richCompare_meets_room (op := .Lt) ⟨_, h1, rfl⟩ ⟨_, k1, rfl⟩ F.slot_tuple_lt F.entry_tuple_lt (F.args_tuple_lt_2 _ _) (tupLt2 l l' #[p1, p2, p3] #[q1, q2, q3] n n' od od' osl osl' (eTri x1 x2 y1 y2) (rTri x1 x2 y1 y2)) ⟨h1, k1, fun j a b hj => ?_, fun j a b hj _ => ?_, (fun x => nomatch x), ?_⟩ (by omega)
      · match j, a, hj with
        | 0, _, _ => exact E1
        | 1, _, _ => exact E2
        | 2, _, hj =>
          have a1 := hj 0 (by decide)
          have a2 := hj 1 (by decide)
          simp [eTri] at a1 a2
          exact absurd a2 (h.resolve_left fun z => z a1)
      · match j, a, hj with
        | 0, _, _ => exact L1
        | 1, _, _ => exact L2
        | 2, _, hj =>
          have a1 := hj 0 (by decide)
          have a2 := hj 1 (by decide)
          simp [eTri] at a1 a2
          exact absurd a2 (h.resolve_left fun z => z a1)
      · have e : firstLt (eTri x1 x2 y1 y2) (rTri x1 x2 y1 y2) (decide ((#[p1, p2, p3] : Array Value).size < (#[q1, q2, q3] : Array Value).size)) (List.range (min (#[p1, p2, p3] : Array Value).size (#[q1, q2, q3] : Array Value).size)) = if x1 = y1 then decide (x2 < y2) else decide (x1 < y1) := by
          show firstLt _ _ _ [0, 1, 2] = _
          by_cases e1 : x1 = y1
          · have e2 : ¬ x2 = y2 := fun z => h.elim (fun q => q e1) fun q => q z
            simp [firstLt, eTri, rTri, e1, e2]
          · simp [firstLt, eTri, rTri, e1]
        rw [e]
        exact hq
end HQ
set_option Elab.async false
set_option maxRecDepth 100000
set_option maxHeartbeats 4000000
namespace HQ
open PySem PySem.Spec PyProof.Rows L2 RS

/-! ### entries -/
theorem en_sift : entryFor table "_heapq.heapify.sift" = some Builtin.«_heapq.heapify.sift» := entryFor_of_fast (by kernel_rfl)
theorem en_heapify : entryFor table "_heapq.heapify" = some Builtin.«_heapq.heapify» := entryFor_of_fast (by kernel_rfl)
theorem en_push : entryFor table "_heapq.heappush" = some Builtin.«_heapq.heappush» := entryFor_of_fast (by kernel_rfl)
theorem en_pop : entryFor table "_heapq.heappop" = some Builtin.«_heapq.heappop» := entryFor_of_fast (by kernel_rfl)
theorem pl_sift : plainId "_heapq.heapify.sift" = true := by decide +kernel
theorem pl_heapify : plainId "_heapq.heapify" = true := by decide +kernel
theorem pl_push : plainId "_heapq.heappush" = true := by decide +kernel
theorem pl_pop : plainId "_heapq.heappop" = true := by decide +kernel
theorem ki_heapify : builtinKind "_heapq.heapify" = none := by decide +kernel
theorem ki_push : builtinKind "_heapq.heappush" = none := by decide +kernel
theorem ki_pop : builtinKind "_heapq.heappop" = none := by decide +kernel
theorem ar_heapify (a : Value) : argsOk "_heapq.heapify" ⟨[a], []⟩ := by unfold argsOk; kernel_rfl
theorem ar_push (a b : Value) : argsOk "_heapq.heappush" ⟨[a, b], []⟩ := by unfold argsOk; kernel_rfl
theorem ar_pop (a : Value) : argsOk "_heapq.heappop" ⟨[a], []⟩ := by unfold argsOk; kernel_rfl

/-! ### the order of data -/
abbrev Z := V × PyData
def ltz (x y : Z) : Bool := PySem.W.dataLt x.2 y.2
theorem swo_z : SrtO.Swo ltz := by
  refine ⟨fun x y h => ?_, fun x y z h1 h2 => ?_⟩
  · cases q : ltz y x with
    | false => rfl
    | true =>
      have t := (PyProof.Rows.listOrd PyProof.Rows.itemOrd).trans _ _ _ h q
      rw [(PyProof.Rows.listOrd PyProof.Rows.itemOrd).irrefl] at t
      cases t
  · cases q : ltz z x with
    | false => rfl
    | true =>
      rcases (PyProof.Rows.listOrd PyProof.Rows.itemOrd).negTrans _ (PySem.W.keyToks y.2) _ q with t | t
      · exact t.symm.trans h2
      · exact t.symm.trans h1

/-! ### lists as heaps -/
def dz : Z := (.non, .none)
def nth (zs : List Z) (i : Nat) : Z := zs.getD i dz
def sw (zs : List Z) (i j : Nat) : List Z := (zs.set i (nth zs j)).set j (nth zs i)
theorem nth_eq {zs : List Z} {i : Nat} (h : i < zs.length) : nth zs i = zs[i] := by
  unfold nth
  rw [List.getD_eq_getElem?_getD, List.getElem?_eq_getElem h]
  rfl
theorem nth_at {zs : List Z} {i : Nat} (h : i < zs.length) : zs[i]? = some (nth zs i) := by rw [nth_eq h, List.getElem?_eq_getElem h]
theorem nth_mem {zs : List Z} {i : Nat} (h : i < zs.length) : nth zs i ∈ zs := by rw [nth_eq h]; exact List.getElem_mem h
theorem sw_len (zs : List Z) (i j : Nat) : (sw zs i j).length = zs.length := by unfold sw; rw [List.length_set, List.length_set]
theorem sw_perm {zs : List Z} {i j : Nat} (hi : i < zs.length) (hj : j < zs.length) : (sw zs i j).Perm zs := by
  unfold sw
  rw [nth_eq hi, nth_eq hj]
  exact List.set_set_perm hi hj
theorem sw_nth {zs : List Z} {i j : Nat} (hi : i < zs.length) (hj : j < zs.length) (ne : i ≠ j) : nth (sw zs i j) = swp (nth zs) i j := by
  funext k
  unfold swp
  unfold nth sw
  simp only [List.getD_eq_getElem?_getD, List.getElem?_set, List.length_set]
  by_cases e1 : j = k
  · subst e1
    rw [if_pos rfl, if_pos hj, if_neg (Ne.symm ne), if_pos rfl]
    rfl
  · rw [if_neg e1]
    by_cases e2 : i = k
    · subst e2
      rw [if_pos rfl, if_pos hi, if_pos rfl]
      rfl
    · rw [if_neg e2, if_neg (Ne.symm e2), if_neg (Ne.symm e1)]

/-- two that can be compared: alike, or of three parts with the first numbers unlike -/
def Cmp (d d' : PyData) : Prop := PySem.W.alike d d' = true ∨ ∃ (x1 x2 y1 y2 : Int) (e e' : PyData), d = .tuple [.int x1, .int x2, e] ∧ d' = .tuple [.int y1, .int y2, e'] ∧ (x1 ≠ y1 ∨ x2 ≠ y2)
/-- items that may stand in the heap at a -/
structure Good (K : PySem.W.Frag) (H : Hp) (a : Addr) (zs : List Z) : Prop where
  dp : ∀ z ∈ zs, ∀ u, Dp K (upd H a (.lst u)) z.1 z.2
  nn : ∀ z ∈ zs, z.2 ≠ .none
  dep : ∀ z ∈ zs, z.2.depth ≤ 60
  al : ∀ z ∈ zs, ∀ y ∈ zs, Cmp z.2 y.2
theorem Good.perm {K : PySem.W.Frag} {H : Hp} {a : Addr} {zs ys : List Z} (G : Good K H a zs) (p : ys.Perm zs) : Good K H a ys :=
  ⟨fun z h => G.dp z (p.mem_iff.mp h), fun z h => G.nn z (p.mem_iff.mp h), fun z h => G.dep z (p.mem_iff.mp h), fun z h y g => G.al z (p.mem_iff.mp h) y (p.mem_iff.mp g)⟩
theorem Good.sub {K : PySem.W.Frag} {H : Hp} {a : Addr} {zs ys : List Z} (G : Good K H a zs) (p : ∀ y ∈ ys, y ∈ zs) : Good K H a ys :=
  ⟨fun z h => G.dp z (p _ h), fun z h => G.nn z (p _ h), fun z h => G.dep z (p _ h), fun z h y g => G.al z (p _ h) y (p _ g)⟩
abbrev hp (H : Hp) (a : Addr) (zs : List Z) : Hp := upd H a (.lst (zs.map (·.1)))
section
variable {X : Cx} {pins : List (Addr × Obj)} {σ : L2.St} {H : Hp} {a : Addr} {zs : List Z} {s : Shared}
theorem less_ {x y : Z} {u v : Value} {E : Value → Shared → Prop} {Q : Value → Shared → Prop} {A : Around} (hu : A.units + 61 < cLine) (G : Good X.K H a zs) (I : Inv X pins σ (hp H a zs) s) (hx : x ∈ zs) (hy : y ∈ zs) (rx : RelV x.1 u) (ry : RelV y.1 v)
    (h : Q (.bool (ltz x y)) s) : wpAny (model X.prog X.w) A (richCompare .Lt u v) Q E s := by
  obtain ⟨as, r1⟩ := Dp.reads I _ _ _ (G.dp x hx _) rx
  obtain ⟨bs, r2⟩ := Dp.reads I _ _ _ (G.dp y hy _) ry
  rcases G.al x hx y hy with al | ⟨x1, x2, y1, y2, e, e', e1, e2, ne⟩
  · exact PySem.W.rcLt_alike x.2 y.2 A s u v as bs r1 r2 al (G.nn x hx) (by have := G.dep x hx; omega) X.prog X.w E Q h
  · unfold ltz at h
    rw [e1] at r1 h
    rw [e2] at r2 h
    exact rc_tri r1 r2 ne (by omega) X.prog X.w E Q h
/-- what the sifting does next -/
def Nx (X : Cx) (a : Addr) (after : Int) (res : Value) (R : Result → Shared → Prop) (s : Shared) : Prop :=
  if after < 0 then R (.ok (.ret res)) s else codeAny (model X.prog X.w) X.A (.builtin "_heapq.heapify.sift" ⟨[.ref a, .bool false, .bool true, rawInt (after.toNat : Nat), rawInt (after.toNat : Nat), res, rawInt (after - 1)], []⟩) R s

theorem at_ {M : Model} {A : Around} {xs : Array Value} {i : Nat} {u : Value} {f : Sem Value} {Q : Value → Shared → Prop} {E : Value → Shared → Prop} {s : Shared} (h : xs[i]? = some u) (q : Q u s) :
    wpAny M A (match xs[i]? with | some v => pure v | none => f) Q E s := by
  rw [h]
  exact wpAny_pure q
theorem vals_at {zs : List Z} {its : List Value} (r : Vals (zs.map (·.1)) its) {i : Nat} (h : i < zs.length) : ∃ u, its[i]? = some u ∧ its.toArray[i]? = some u ∧ RelV (nth zs i).1 u := by
  obtain ⟨u, h1, h2⟩ := r.get (i := i) (x := (nth zs i).1) (by rw [List.getElem?_map, nth_at h]; rfl)
  exact ⟨u, h1, by rw [← Array.getElem?_toList]; exact h1, h2⟩
theorem sw_map {zs : List Z} {i j : Nat} {its : List Value} (r : Vals (zs.map (·.1)) its) {u v : Value} (hu : RelV (nth zs i).1 u) (hv : RelV (nth zs j).1 v) :
    Vals ((sw zs i j).map (·.1)) ((its.set i v).set j u) := by
  unfold sw
  rw [List.map_set, List.map_set]
  exact (r.set hv i).set hu j
theorem swap_inv {i j : Nat} {its : List Value} {n : Nat} (I : Inv X pins σ (hp H a zs) s) (r : Vals (zs.map (·.1)) its) (e : s.heap.get? a = some { cls := .type "list", data := .seq its.toArray n }) (z : zs.length ≤ sizeLine) {u v : Value}
    (hu : RelV (nth zs i).1 u) (hv : RelV (nth zs j).1 v) :
    Inv X pins σ (hp H a (sw zs i j)) { s with heap := s.heap.update a (Obj.mapSeq fun xs => (xs.setIfInBounds i v).setIfInBounds j u) } := by
  have q := I.lset (l := a) (its' := (its.set i v).set j u) (f := fun xs => (xs.setIfInBounds i v).setIfInBounds j u) (t' := s.toks) upd_same e (by simp) (sw_map (i := i) (j := j) r hu hv) (by rw [List.length_map, sw_len]; exact z)
  rw [upd_upd] at q
  exact q
theorem up_run (hu : X.A.units + 64 < cLine) {top : Nat} {after : Int} {res : Value} {R : Result → Shared → Prop} (hz : zs.length ≤ sizeLine) (G : Good X.K H a zs)
    (hend : ∀ s' ys, ys.Perm zs → From ltz zs.length (nth ys) top → Inv X pins σ (hp H a ys) s' → Nx X a after res R s') :
    ∀ (m pos : Nat) (ys : List Z) (s : Shared), pos ≤ m → pos < zs.length → ys.Perm zs → Up ltz zs.length (nth ys) top pos → Inv X pins σ (hp H a ys) s →
      codeAny (model X.prog X.w) X.A (.builtin "_heapq.heapify.sift" ⟨[.ref a, .bool false, .bool false, rawInt pos, rawInt top, res, rawInt after], []⟩) R s := by
  intro m
  induction m using Nat.strongRecOn with
  | ind m ih =>
    intro pos ys s hm hp p U I
    obtain ⟨z, its, n, r, hl, e⟩ := I.lstM (l := a) (xs := ys.map (·.1)) upd_same
    rw [List.length_map] at hl z
    have lz := p.length_eq
    refine codeAny_builtin en_sift ?_
    rw [Around.under_plainId pl_sift _]
    show wpAny _ X.A.in1 (_ >>= _) _ _ _
    refine wpAny_bind (wpAny_bind (wpAny_seqItems e rfl (wpAny_pure ?_)))
    show wpAny _ X.A.in1 (if pos > top then _ else _) _ _ _
    have stop : ∀ s' : Shared, Nx X a after res R s' → wpAny (model X.prog X.w) X.A.in1 (if after < 0 then ret res else again (.builtin "_heapq.heapify.sift" ⟨[.ref a, .bool false, .bool true, rawInt (after.toNat : Nat), rawInt (after.toNat : Nat), res, rawInt (after - 1)], []⟩))
        (fun fin s' => match fin with | .done f => R (.ok f) s' | .again c' => c'.quiet = true ∧ codeAny (model X.prog X.w) X.A c' R s') (fun e s' => R (.error e) s') s' := by
      intro s' q
      unfold Nx at q
      by_cases g : after < 0
      · rw [if_pos g] at q ⊢
        exact wpAny_pure q
      · rw [if_neg g] at q ⊢
        exact wpAny_pure ⟨plainId_quiet pl_sift _, q⟩
    by_cases h1 : pos > top
    · rw [if_pos h1]
      have hpp := par_lt (i := pos) (by omega)
      obtain ⟨u, u1, u2, u3⟩ := vals_at r (i := pos) (by omega)
      obtain ⟨v, v1, v2, v3⟩ := vals_at r (i := par pos) (by omega)
      refine wpAny_bind (at_ u2 ?_)
      refine wpAny_bind (at_ v2 ?_)
      show wpAny _ X.A.in1 (_ >>= _) _ _ _
      refine wpAny_bind (wpAny_bind (wpAny_holding (wpAny_bind (less_ (x := nth ys pos) (y := nth ys (par pos)) (by show X.A.units + 1 + 61 < cLine; omega) (G.perm p) I (nth_mem (by omega)) (nth_mem (by omega)) u3 v3 (wpAny_truthy_bool ?_)))))
      refine wpAny_bind (wpAny_bind (wpAny_seqItems e rfl (wpAny_pure ?_)))
      show wpAny _ X.A.in1 (if (its.toArray.size != its.toArray.size) = true then _ else _) _ _ _
      rw [if_neg (by simp)]
      refine wpAny_pure ?_
      show wpAny _ X.A.in1 (if ltz (nth ys pos) (nth ys (par pos)) = true then _ else _) _ _ _
      by_cases h2 : ltz (nth ys pos) (nth ys (par pos)) = true
      · rw [if_pos h2]
        refine wpAny_bind (wpAny_bind (wpAny_bind (wpAny_seqItems e rfl (wpAny_pure ?_))))
        refine wpAny_bind (at_ v2 ?_)
        refine wpAny_bind (at_ u2 ?_)
        refine wpAny_updateSeq e rfl ?_ (by rw [List.size_toArray]; omega) (by simp only [Array.size_setIfInBounds, List.size_toArray]; omega)
        refine wpAny_pure ⟨plainId_quiet pl_sift _, ?_⟩
        have I2 := swap_inv (i := par pos) (j := pos) I r e z v3 u3
        have U2 := U.step swo_z hp h1 h2
        rw [← sw_nth (by omega) (by omega) (by omega)] at U2
        exact ih (par pos) (by omega) (par pos) _ _ (Nat.le_refl _) (by omega) ((sw_perm (by omega) (by omega)).trans p) U2 I2
      · rw [if_neg h2]
        exact stop _ (hend s ys p (U.stop (by
          cases q : ltz (nth ys pos) (nth ys (par pos)) with
          | false => rfl
          | true => exact absurd q h2)) I)
    · rw [if_neg h1]
      exact stop _ (hend s ys p (U.top h1) I)

theorem down_run (hu : X.A.units + 64 < cLine) {top : Nat} {after : Int} {res : Value} {R : Result → Shared → Prop} (hz : zs.length ≤ sizeLine) (G : Good X.K H a zs)
    (hend : ∀ s' ys, ys.Perm zs → From ltz zs.length (nth ys) top → Inv X pins σ (hp H a ys) s' → Nx X a after res R s') :
    ∀ (m pos : Nat) (ys : List Z) (s : Shared), zs.length - pos ≤ m → pos < zs.length → ys.Perm zs → Down ltz zs.length (nth ys) top pos → Inv X pins σ (hp H a ys) s →
      codeAny (model X.prog X.w) X.A (.builtin "_heapq.heapify.sift" ⟨[.ref a, .bool false, .bool true, rawInt pos, rawInt top, res, rawInt after], []⟩) R s := by
  intro m
  induction m using Nat.strongRecOn with
  | ind m ih =>
    intro pos ys s hm hp p D I
    obtain ⟨z, its, n, r, hl, e⟩ := I.lstM (l := a) (xs := ys.map (·.1)) upd_same
    rw [List.length_map] at hl z
    have lz := p.length_eq
    have sz : its.toArray.size = zs.length := by rw [List.size_toArray, ← hl, lz]
    refine codeAny_builtin en_sift ?_
    rw [Around.under_plainId pl_sift _]
    show wpAny _ X.A.in1 (_ >>= _) _ _ _
    refine wpAny_bind (wpAny_bind (wpAny_seqItems e rfl (wpAny_pure ?_)))
    show wpAny _ X.A.in1 (if pos < its.toArray.size / 2 then _ else _) _ _ _
    rw [sz]
    by_cases h1 : pos < zs.length / 2
    · rw [if_pos h1]
      obtain ⟨u, u1, u2, u3⟩ := vals_at r (i := pos) (by omega)
      obtain ⟨l, l1, l2, l3⟩ := vals_at r (i := 2 * pos + 1) (by omega)
      have nxt : ∀ c, (c = 2 * pos + 1 ∨ c = 2 * pos + 2) → c < zs.length → (∀ d, (d = 2 * pos + 1 ∨ d = 2 * pos + 2) → d < zs.length → ltz (nth ys d) (nth ys c) = false) → ∀ w, RelV (nth ys c).1 w →
          codeAny (model X.prog X.w) X.A (.builtin "_heapq.heapify.sift" ⟨[.ref a, .bool false, .bool true, rawInt c, rawInt top, res, rawInt after], []⟩) R { s with heap := s.heap.update a (Obj.mapSeq fun xs => (xs.setIfInBounds c u).setIfInBounds pos w) } := by
        intro c hc hl2 hmin w rw'
        have I2 := swap_inv (i := c) (j := pos) I r e z rw' u3
        have D2 := D.step swo_z hl2 hc hmin
        rw [← sw_nth (by omega) (by omega) (by omega)] at D2
        exact ih (zs.length - c) (by omega) c _ _ (Nat.le_refl _) hl2 ((sw_perm (by omega) (by omega)).trans p) D2 I2
      by_cases h2 : 2 * pos + 1 + 1 < zs.length
      · rw [if_pos (show 2 * (pos : Int).toNat + 1 + 1 < zs.length from h2)]
        obtain ⟨q, q1, q2, q3⟩ := vals_at r (i := 2 * pos + 1 + 1) (by omega)
        refine wpAny_bind (at_ l2 ?_)
        refine wpAny_bind (at_ q2 ?_)
        show wpAny _ X.A.in1 (_ >>= _) _ _ _
        refine wpAny_bind (wpAny_bind (wpAny_holding (wpAny_bind (less_ (x := nth ys (2 * pos + 1)) (y := nth ys (2 * pos + 1 + 1)) (by show X.A.units + 1 + 61 < cLine; omega) (G.perm p) I (nth_mem (by omega)) (nth_mem (by omega)) l3 q3 (wpAny_truthy_bool ?_)))))
        refine wpAny_bind (wpAny_bind (wpAny_seqItems e rfl (wpAny_pure ?_)))
        show wpAny _ X.A.in1 (if (its.toArray.size != zs.length) = true then _ else _) _ _ _
        rw [if_neg (by rw [sz]; simp)]
        refine wpAny_pure ?_
        show wpAny _ X.A.in1 (if (!ltz (nth ys (2 * pos + 1)) (nth ys (2 * pos + 1 + 1))) = true then _ else _) _ _ _
        by_cases h3 : ltz (nth ys (2 * pos + 1)) (nth ys (2 * pos + 1 + 1)) = true
        · rw [if_neg (by rw [h3]; decide)]
          refine wpAny_bind (wpAny_bind (wpAny_bind (wpAny_seqItems e rfl (wpAny_pure ?_))))
          refine wpAny_bind (at_ l2 ?_)
          refine wpAny_bind (at_ u2 ?_)
          refine wpAny_updateSeq e rfl ?_ (by rw [List.size_toArray]; omega) (by simp only [Array.size_setIfInBounds, List.size_toArray]; omega)
          refine wpAny_pure ⟨plainId_quiet pl_sift _, ?_⟩
          exact nxt _ (.inl rfl) (by omega) (fun d hd _ => by
                      rcases hd with e1 | e1
                      · subst e1; exact swo_z.refl _
                      · subst e1; exact swo_z.asym _ _ h3) l l3
        · have h3' : ltz (nth ys (2 * pos + 1)) (nth ys (2 * pos + 1 + 1)) = false := by
            cases q : ltz (nth ys (2 * pos + 1)) (nth ys (2 * pos + 1 + 1)) with
            | false => rfl
            | true => exact absurd q h3
          rw [if_pos (by rw [h3']; decide)]
          refine wpAny_bind (wpAny_bind (wpAny_bind (wpAny_seqItems e rfl (wpAny_pure ?_))))
          refine wpAny_bind (at_ q2 ?_)
          refine wpAny_bind (at_ u2 ?_)
          refine wpAny_updateSeq e rfl ?_ (by rw [List.size_toArray]; omega) (by simp only [Array.size_setIfInBounds, List.size_toArray]; omega)
          refine wpAny_pure ⟨plainId_quiet pl_sift _, ?_⟩
          exact nxt _ (.inr rfl) (by omega) (fun d hd _ => by
                      rcases hd with e1 | e1
                      · subst e1; exact h3'
                      · subst e1; exact swo_z.refl _) q q3
      · rw [if_neg (show ¬ 2 * (pos : Int).toNat + 1 + 1 < zs.length from h2)]
        refine wpAny_bind (wpAny_bind (wpAny_bind (wpAny_seqItems e rfl (wpAny_pure ?_))))
        refine wpAny_bind (at_ l2 ?_)
        refine wpAny_bind (at_ u2 ?_)
        refine wpAny_updateSeq e rfl ?_ (by rw [List.size_toArray]; omega) (by simp only [Array.size_setIfInBounds, List.size_toArray]; omega)
        refine wpAny_pure ⟨plainId_quiet pl_sift _, ?_⟩
        exact nxt _ (.inl rfl) (by omega) (fun d hd hd2 => by
                  rcases hd with e1 | e1
                  · subst e1; exact swo_z.refl _
                  · omega) l l3
    · rw [if_neg h1]
      refine wpAny_pure ⟨plainId_quiet pl_sift _, ?_⟩
      exact up_run hu hz G hend pos pos ys s (Nat.le_refl _) hp p (D.leaf h1) I
end
end HQ
set_option Elab.async false
set_option maxRecDepth 100000
set_option maxHeartbeats 4000000
namespace HQ
open PySem PySem.Spec PyProof.Rows L2 RS
section
variable {X : Cx} {pins : List (Addr × Obj)} {σ : L2.St} {H : Hp} {a : Addr} {zs : List Z} {s : Shared}

theorem heapify_run (hu : X.A.units + 64 < cLine) {res : Value} {R : Result → Shared → Prop} (hz : zs.length ≤ sizeLine) (G : Good X.K H a zs)
    (hend : ∀ s' ys, ys.Perm zs → From ltz zs.length (nth ys) 0 → Inv X pins σ (hp H a ys) s' → R (.ok (.ret res)) s') :
    ∀ (k : Nat) (ys : List Z) (s : Shared), k < zs.length → ys.Perm zs → Down ltz zs.length (nth ys) k k → Inv X pins σ (hp H a ys) s →
      codeAny (model X.prog X.w) X.A (.builtin "_heapq.heapify.sift" ⟨[.ref a, .bool false, .bool true, rawInt k, rawInt k, res, rawInt ((k : Int) - 1)], []⟩) R s := by
  intro k
  induction k with
  | zero =>
    intro ys s hk p D I
    refine down_run hu hz G (fun s' ys' p' F I' => ?_) _ 0 ys s (Nat.le_refl _) hk p D I
    unfold Nx
    rw [if_pos (by decide)]
    exact hend s' ys' p' F I'
  | succ k ih =>
    intro ys s hk p D I
    refine down_run hu hz G (fun s' ys' p' F I' => ?_) _ (k + 1) ys s (Nat.le_refl _) hk p D I
    unfold Nx
    rw [if_neg (by omega)]
    have e : (((k + 1 : Nat) : Int) - 1).toNat = k := by omega
    have e2 : (((k + 1 : Nat) : Int) - 1) - 1 = (k : Int) - 1 := by omega
    rw [e, e2]
    exact ih ys' s' (by omega) p' F.down I'
end
section
variable {X : Cx}
def rHeapify (K : PySem.W.Frag) : List V → Hp → VK → Prop := fun vs H Q => ∃ (a : Addr) (zs : List Z), vs = [.ref a] ∧ H a = some (.lst (zs.map (·.1))) ∧ Good K H a zs ∧ zs.length ≤ 2500 ∧
  ∀ ys : List Z, ys.Perm zs → From ltz ys.length (nth ys) 0 → Q .non (hp H a ys)
theorem hp_self {H : Hp} {a : Addr} {zs : List Z} (h : H a = some (.lst (zs.map (·.1)))) : hp H a zs = H := by
  funext b
  by_cases e : b = a
  · subst e
    exact upd_same.trans h.symm
  · exact upd_ne e
theorem call_heapify (hu : X.A.units + 64 < cLine) : CallR X (.builtin "_heapq.heapify") (rHeapify X.K) := by
  intro pins s σ H xs us Q I r ⟨a, zs, e, hH, G, hl, q⟩
  subst e
  obtain ⟨u, rfl, ru⟩ := r.one
  cases ru
  obtain ⟨z, its, n, r, hl2, e⟩ := I.lstM hH
  rw [List.length_map] at hl2 z
  refine kmk_tree ki_heapify pl_heapify en_heapify (ar_heapify _) ?_
  show wpAny _ X.A.in1 (_ >>= _) _ _ _
  refine wpAny_bind (wpAny_bind (wpAny_pure ?_))
  refine wpAny_bind (wpAny_bind (wpAny_isInstance (T := "list") ⟨_, e, rfl⟩ AutoSeq1.sub_list_list ?_))
  refine wpAny_pure (wpAny_pure ?_)
  show wpAny _ X.A.in1 (_ >>= _) _ _ _
  refine wpAny_bind (wpAny_bind (wpAny_seqItems e rfl (wpAny_pure ?_)))
  have sz : its.toArray.size = zs.length := by rw [List.size_toArray, ← hl2]
  show wpAny _ X.A.in1 (if its.toArray.size > 2500 then _ else _) _ _ _
  rw [sz, if_neg (by omega)]
  show wpAny _ X.A.in1 (if zs.length < 2 then _ else _) _ _ _
  have I0 : Inv X pins σ (hp H a zs) s := by rw [hp_self hH]; exact I
  by_cases h2 : zs.length < 2
  · rw [if_pos h2]
    refine wpAny_pure ?_
    exact ⟨.non, _, I0, rfl, q zs (List.Perm.refl _) (.few h2)⟩
  · rw [if_neg h2]
    refine wpAny_pure ⟨plainId_quiet pl_sift _, ?_⟩
    have e2 : ((zs.length / 2 : Nat) : Int) - 2 = ((zs.length / 2 - 1 : Nat) : Int) - 1 := by omega
    rw [e2]
    have F : From ltz zs.length (nth zs) (zs.length / 2 - 1 + 1) := by
      rw [show zs.length / 2 - 1 + 1 = zs.length / 2 by omega]
      exact .half
    exact heapify_run hu (by omega) G (fun s' ys p F' I' => ⟨.non, _, I', rfl, q ys p (by rw [p.length_eq]; exact F')⟩) (zs.length / 2 - 1) zs s (by omega) (List.Perm.refl _) F.down I0

def rPush (K : PySem.W.Frag) : List V → Hp → VK → Prop := fun vs H Q => ∃ (a : Addr) (zs : List Z) (z : Z), vs = [.ref a, z.1] ∧ H a = some (.lst (zs.map (·.1))) ∧ Good K H a (zs ++ [z]) ∧ zs.length < sizeLine ∧ From ltz zs.length (nth zs) 0 ∧
  ∀ ys : List Z, ys.Perm (zs ++ [z]) → From ltz ys.length (nth ys) 0 → Q .non (hp H a ys)
theorem nth_app {zs ws : List Z} {i : Nat} (h : i < zs.length) : nth (zs ++ ws) i = nth zs i := by
  unfold nth
  rw [List.getD_eq_getElem?_getD, List.getD_eq_getElem?_getD, List.getElem?_append_left h]
theorem call_push (hu : X.A.units + 64 < cLine) : CallR X (.builtin "_heapq.heappush") (rPush X.K) := by
  intro pins s σ H xs us Q I r ⟨a, zs, y, e, hH, G, hl, F, q⟩
  subst e
  obtain ⟨u, v, rfl, ru, rv⟩ := r.two
  cases ru
  obtain ⟨z, its, n, r, hl2, e⟩ := I.lstM hH
  rw [List.length_map] at hl2 z
  refine kmk_tree ki_push pl_push en_push (ar_push _ _) ?_
  show wpAny _ X.A.in1 (_ >>= _) _ _ _
  refine wpAny_bind (wpAny_bind (wpAny_pure ?_))
  refine wpAny_bind (wpAny_of_eq (show checkCount "heappush" 2 2 2 = pure () from rfl) ?_)
  refine wpAny_bind (wpAny_bind (wpAny_isInstance (T := "list") ⟨_, e, rfl⟩ AutoSeq1.sub_list_list ?_))
  refine wpAny_pure (wpAny_pure ?_)
  show wpAny _ X.A.in1 (_ >>= _) _ _ _
  refine wpAny_bind (wpAny_updateSeq e rfl ?_ (by rw [List.size_toArray]; omega) (by rw [Array.size_push, List.size_toArray]; omega))
  have I1 : Inv X pins σ (hp H a (zs ++ [y])) { s with heap := s.heap.update a (Obj.mapSeq fun x => x.push v) } := by
    have q := I.lset (l := a) (ys := (zs ++ [y]).map (·.1)) (its' := its ++ [v]) (f := fun x => x.push v) (t' := s.toks) hH e (by simp) (by rw [List.map_append]; exact r.append (.cons rv .nil)) (by rw [List.length_map, List.length_append, List.length_singleton]; omega)
    exact q
  obtain ⟨_, its2, n2, r2, hl3, e2⟩ := I1.lstM (l := a) (xs := (zs ++ [y]).map (·.1)) upd_same
  rw [List.length_map, List.length_append, List.length_singleton] at hl3
  refine wpAny_bind (wpAny_bind (wpAny_seqItems e2 rfl (wpAny_pure ?_)))
  refine wpAny_pure ⟨plainId_quiet pl_sift _, ?_⟩
  have e3 : its2.toArray.size - 1 = zs.length := by rw [List.size_toArray]; omega
  rw [e3]
  have ln : (zs ++ [y]).length = zs.length + 1 := by rw [List.length_append, List.length_singleton]
  have U : Up ltz (zs ++ [y]).length (nth (zs ++ [y])) 0 zs.length := by
    rw [ln]
    exact F.push fun i hi => nth_app hi
  refine up_run hu (by omega) G (fun s' ys p F' I' => ?_) zs.length zs.length (zs ++ [y]) _ (Nat.le_refl _) (by omega) (List.Perm.refl _) U I1
  unfold Nx
  rw [if_pos (by decide)]
  exact ⟨.non, _, I', rfl, q ys p (by rw [p.length_eq]; exact F')⟩

def rPopH (K : PySem.W.Frag) : List V → Hp → VK → Prop := fun vs H Q => ∃ (a : Addr) (zs : List Z), vs = [.ref a] ∧ H a = some (.lst (zs.map (·.1))) ∧ 0 < zs.length ∧ Good K H a zs ∧ From ltz zs.length (nth zs) 0 ∧
  ∀ (z : Z) (ys : List Z), zs.Perm (z :: ys) → From ltz ys.length (nth ys) 0 → (∀ y ∈ ys, ltz y z = false) → Q z.1 (hp H a ys)
theorem least_all {zs : List Z} {x : Z} {M : List Z} (e : zs = x :: M) (F : From ltz zs.length (nth zs) 0) : ∀ y ∈ zs, ltz y x = false := fun y hy => by
  obtain ⟨i, hi, ei⟩ := List.getElem_of_mem hy
  have q := F.least swo_z i hi
  rw [nth_eq hi, ei] at q
  rw [e] at q
  exact q
theorem snoc_z : ∀ {l : List Z}, 0 < l.length → ∃ M z, l = M ++ [z] := fun h => SrtO.snoc_of h
theorem call_popH (hu : X.A.units + 64 < cLine) : CallR X (.builtin "_heapq.heappop") (rPopH X.K) := by
  intro pins s σ H xs us Q I r ⟨a, zs, e, hH, h0, G, F, q⟩
  subst e
  obtain ⟨u, rfl, ru⟩ := r.one
  cases ru
  obtain ⟨z, its, n, r, hl2, e⟩ := I.lstM hH
  rw [List.length_map] at hl2 z
  obtain ⟨M, y, rfl⟩ := snoc_z h0
  refine kmk_tree ki_pop pl_pop en_pop (ar_pop _) ?_
  show wpAny _ X.A.in1 (_ >>= _) _ _ _
  refine wpAny_bind (wpAny_bind (wpAny_pure ?_))
  refine wpAny_bind (wpAny_bind (wpAny_isInstance (T := "list") ⟨_, e, rfl⟩ AutoSeq1.sub_list_list ?_))
  refine wpAny_pure (wpAny_pure ?_)
  show wpAny _ X.A.in1 (_ >>= _) _ _ _
  refine wpAny_bind (wpAny_bind (wpAny_seqItems e rfl (wpAny_pure ?_)))
  obtain ⟨iM, v, rfl⟩ := SrtO.snoc_of (l := its) (by omega)
  have rM : Vals (M.map (·.1)) iM := by
    have t := r.dropLast
    rw [List.map_append] at t
    simpa using t
  have lM : M.length = iM.length := by simpa using hl2
  have rv : RelV y.1 v := by
    obtain ⟨v', h1, h2⟩ := r.get (i := M.length) (x := y.1) (by simp)
    rw [lM] at h1
    simp at h1
    rw [h1]
    exact h2
  have hb : (iM ++ [v]).toArray.back? = some v := by simp
  rw [hb]
  have zM : (M ++ [y]).length = M.length + 1 := by rw [List.length_append, List.length_singleton]
  have I1 : Inv X pins σ (hp H a M) { s with heap := s.heap.update a (Obj.mapSeq fun x => x.pop) } :=
    I.lset (l := a) (ys := M.map (·.1)) (its' := iM) (f := fun x => x.pop) (t' := s.toks) hH e (by simp) rM (by rw [List.length_map]; omega)
  refine wpAny_bind (wpAny_updateSeq e rfl ?_ (by rw [List.size_toArray]; omega) (by rw [Array.size_pop, List.size_toArray]; omega))
  show wpAny _ X.A.in1 (if ((iM ++ [v]).toArray.size == 1) = true then _ else _) _ _ _
  have sz : (iM ++ [v]).toArray.size = M.length + 1 := by rw [List.size_toArray, ← hl2, zM]
  rw [sz]
  cases M with
  | nil =>
    rw [if_pos (by decide)]
    refine wpAny_pure ?_
    exact ⟨y.1, _, I1, rv, q y [] (List.Perm.refl _) (.few (by decide)) (fun _ h => nomatch h)⟩
  | cons x M =>
    rw [if_neg (by simp)]
    cases rM with
    | cons rx rM' =>
      rename_i u iM'
      have x0 : (u :: iM' ++ [v]).toArray[0]? = some u := rfl
      refine wpAny_bind (at_ (f := pure u) x0 ?_)
      obtain ⟨_, its2, n2, r2, hl3, e2⟩ := I1.lstM (l := a) (xs := (x :: M).map (·.1)) upd_same
      have I2 : Inv X pins σ (hp H a (y :: M)) { s with heap := (s.heap.update a (Obj.mapSeq fun x => x.pop)).update a (Obj.mapSeq fun xs => xs.setIfInBounds 0 v) } := by
        have t := I1.lset (l := a) (ys := (y :: M).map (fun p : Z => p.1)) (its' := its2.set 0 v) (f := fun xs => xs.setIfInBounds 0 v) (t' := s.toks) upd_same e2 (by simp) (show Vals ((y :: M).map (fun p : Z => p.1)) (its2.set 0 v) from r2.set rv 0) (by simp at *; omega)
        rw [upd_upd] at t
        exact t
      have ln : (y :: M).length = (x :: M).length := rfl
      refine wpAny_bind (wpAny_updateSeq e2 rfl ?_ (by rw [List.size_toArray]; simp at *; omega) (by rw [Array.size_setIfInBounds, List.size_toArray]; simp at *; omega))
      refine wpAny_pure ⟨plainId_quiet pl_sift _, ?_⟩
      have pe : (x :: M ++ [y]).Perm (x :: (y :: M)) := (List.perm_append_comm (l₁ := M) (l₂ := [y])).cons x
      have D : Down ltz (y :: M).length (nth (y :: M)) 0 0 := (F.less (m := (y :: M).length) (by simp)).root fun i h1 h2 => by
        cases i with
        | zero => omega
        | succ i => exact (nth_app (zs := x :: M) (ws := [y]) h2).symm
      have Gy : Good X.K H a (y :: M) := G.sub fun t ht => pe.mem_iff.mpr (List.mem_cons_of_mem _ ht)
      refine down_run hu (by simp at *; omega) Gy (fun s' ys p F' I' => ?_) _ 0 (y :: M) _ (Nat.le_refl _) (by simp) (List.Perm.refl _) D I2
      unfold Nx
      rw [if_pos (by decide)]
      exact ⟨x.1, _, I', rx, q x ys (pe.trans ((p.symm).cons x)) (by rw [p.length_eq]; exact F') fun t ht => least_all (zs := x :: M ++ [y]) rfl F t (pe.mem_iff.mpr (List.mem_cons_of_mem _ (p.mem_iff.mp ht)))⟩
end
end HQ
set_option Elab.async false
set_option maxRecDepth 100000
set_option maxHeartbeats 4000000
namespace RS
open PySem PySem.Spec PyProof.Rows L2 GX

/-! ### runs that come of exchanging -/
section
variable {α : Type} {lt : α → α → Bool}
inductive RunTo (lt : α → α → Bool) : List α → List α → List α → List α → List α → Prop
  | done (l : List α) : RunTo lt [] l [] [] l
  | last {g g' r w l : List α} {x : α} (p : g.Perm (x :: g')) (m : ∀ y ∈ g', lt y x = false) (t : RunTo lt g' [] r w l) : RunTo lt g [] (x :: r) w l
  | keep {g g' left r w l : List α} {x e : α} (p : g.Perm (x :: g')) (m : ∀ y ∈ g', lt y x = false) (h : lt e x = false) (t : RunTo lt (e :: g') left r w l) : RunTo lt g (e :: left) (x :: r) w l
  | wait {g g' left r w l : List α} {x e : α} (p : g.Perm (x :: g')) (m : ∀ y ∈ g', lt y x = false) (h : lt e x = true) (t : RunTo lt g' left r w l) : RunTo lt g (e :: left) (x :: r) (e :: w) l
theorem RunTo.perm {g left r w l : List α} (h : RunTo lt g left r w l) : (g ++ left).Perm (r ++ w ++ l) := by
  induction h with
  | done l => exact List.Perm.refl _
  | last p m t ih => exact (p.append_right _).trans (ih.cons _)
  | @keep g g' left r w l x e p m h t ih =>
    refine (p.append_right _).trans ?_
    refine List.Perm.trans ?_ (ih.cons x)
    exact (List.perm_middle (l₁ := g') (a := e) (l₂ := left)).cons x
  | @wait g g' left r w l x e p m h t ih =>
    refine (p.append_right _).trans ?_
    have q : (g' ++ e :: left).Perm (r ++ (e :: w) ++ l) := by
      refine (List.perm_middle (l₁ := g') (a := e) (l₂ := left)).trans ?_
      refine (ih.cons e).trans ?_
      rw [List.append_assoc, List.append_assoc]
      exact (List.perm_middle (l₁ := r) (a := e) (l₂ := w ++ l)).symm
    exact q.cons x
theorem RunTo.len {g left r w l : List α} (h : RunTo lt g left r w l) : l = [] ∨ w.length = g.length := by
  induction h with
  | done l => exact .inr rfl
  | last p m t ih =>
    rcases ih with e | e
    · exact .inl e
    · have h := t.perm.length_eq
      simp only [List.length_append, List.length_nil] at h
      refine .inl (List.length_eq_zero_iff.mp (by omega))
  | keep p m h t ih =>
    rcases ih with e | e
    · exact .inl e
    · right
      rw [e, p.length_eq, List.length_cons, List.length_cons]
  | wait p m h t ih =>
    rcases ih with e | e
    · exact .inl e
    · right
      rw [List.length_cons, e, p.length_eq, List.length_cons]
theorem RunTo.some {g left r w l : List α} (h : RunTo lt g left r w l) (hg : g ≠ []) : 1 ≤ r.length := by
  cases h with
  | done => exact absurd rfl hg
  | last => simp
  | keep => simp
  | wait => simp
theorem perm_head {S : α → Prop} (U : ∀ x y, S x → S y → lt x y = false → lt y x = false → x = y) {g g2 a b : List α} {x y : α} (e : g.Perm g2) (p : g.Perm (x :: a)) (q : g2.Perm (y :: b)) (mx : ∀ z ∈ a, lt z x = false) (my : ∀ z ∈ b, lt z y = false)
    (hS : ∀ z ∈ g, S z) : x = y ∧ a.Perm b := by
  have pq : (x :: a).Perm (y :: b) := p.symm.trans (e.trans q)
  have hx : S x := hS x (p.mem_iff.mpr List.mem_cons_self)
  have hy : S y := hS y (e.mem_iff.mpr (q.mem_iff.mpr List.mem_cons_self))
  have exy : x = y := by
    rcases List.mem_cons.mp (pq.mem_iff.mp (List.mem_cons_self (a := x) (l := a))) with z | z
    · exact z
    · rcases List.mem_cons.mp (pq.mem_iff.mpr (List.mem_cons_self (a := y) (l := b))) with v | v
      · exact v.symm
      · exact U x y hx hy (my x z) (mx y v)
  subst exy
  exact ⟨rfl, List.Perm.cons_inv pq⟩
theorem RunTo.det {S : α → Prop} (U : ∀ x y, S x → S y → lt x y = false → lt y x = false → x = y) {g left r w l : List α} (h : RunTo lt g left r w l) :
    ∀ {g2 r2 w2 l2 : List α}, g.Perm g2 → (∀ z ∈ g, S z) → (∀ z ∈ left, S z) → RunTo lt g2 left r2 w2 l2 → r = r2 ∧ w = w2 ∧ l = l2 := by
  induction h with
  | done l =>
    intro g2 r2 w2 l2 e _ _ h2
    have e2 := e.symm.eq_nil
    subst e2
    cases h2 with
    | done => exact ⟨rfl, rfl, rfl⟩
    | last p => exact absurd p.length_eq (by simp)
    | keep p => exact absurd p.length_eq (by simp)
    | wait p => exact absurd p.length_eq (by simp)
  | last p m t ih =>
    intro g2 r2 w2 l2 e s1 s2 h2
    cases h2 with
    | done => exact absurd (e.symm.trans p).length_eq (by simp)
    | last p2 m2 t2 =>
      obtain ⟨rfl, pa⟩ := perm_head U e p p2 m m2 s1
      obtain ⟨rfl, rfl, rfl⟩ := ih pa (fun z hz => s1 z (p.mem_iff.mpr (List.mem_cons_of_mem _ hz))) s2 t2
      exact ⟨rfl, rfl, rfl⟩
  | keep p m h t ih =>
    intro g2 r2 w2 l2 e s1 s2 h2
    cases h2 with
    | done => exact absurd (e.symm.trans p).length_eq (by simp)
    | keep p2 m2 h2 t2 =>
      obtain ⟨rfl, pa⟩ := perm_head U e p p2 m m2 s1
      obtain ⟨rfl, rfl, rfl⟩ := ih (pa.cons _) (fun z hz => by
        rcases List.mem_cons.mp hz with e | hz
        · rw [e]; exact s2 _ List.mem_cons_self
        · exact s1 z (p.mem_iff.mpr (List.mem_cons_of_mem _ hz))) (fun z hz => s2 z (List.mem_cons_of_mem _ hz)) t2
      exact ⟨rfl, rfl, rfl⟩
    | wait p2 m2 h2 t2 =>
      obtain ⟨rfl, pa⟩ := perm_head U e p p2 m m2 s1
      rw [h] at h2
      cases h2
  | wait p m h t ih =>
    intro g2 r2 w2 l2 e s1 s2 h2
    cases h2 with
    | done => exact absurd (e.symm.trans p).length_eq (by simp)
    | keep p2 m2 h2 t2 =>
      obtain ⟨rfl, pa⟩ := perm_head U e p p2 m m2 s1
      rw [h] at h2
      cases h2
    | wait p2 m2 h2 t2 =>
      obtain ⟨rfl, pa⟩ := perm_head U e p p2 m m2 s1
      obtain ⟨rfl, rfl, rfl⟩ := ih pa (fun z hz => s1 z (p.mem_iff.mpr (List.mem_cons_of_mem _ hz))) (fun z hz => s2 z (List.mem_cons_of_mem _ hz)) t2
      exact ⟨rfl, rfl, rfl⟩
inductive RunsTo (lt : α → α → Bool) : List α → List α → List (List α) → Prop
  | done (left : List α) : RunsTo lt [] left []
  | more {room left r w l : List α} {rs : List (List α)} (hr : room ≠ []) (t : RunTo lt room left r w l) (m : RunsTo lt w l rs) : RunsTo lt room left (r :: rs)
theorem RunsTo.det {S : α → Prop} (U : ∀ x y, S x → S y → lt x y = false → lt y x = false → x = y) {g left : List α} {rs : List (List α)} (h : RunsTo lt g left rs) :
    ∀ {rs2 : List (List α)}, (∀ z ∈ g, S z) → (∀ z ∈ left, S z) → RunsTo lt g left rs2 → rs = rs2 := by
  induction h with
  | done left =>
    intro rs2 _ _ h2
    cases h2 with
    | done => rfl
    | more hr => exact absurd rfl hr
  | @more room left r w l rs hr t m ih =>
    intro rs2 s1 s2 h2
    cases h2 with
    | done => exact absurd rfl hr
    | more hr2 t2 m2 =>
      obtain ⟨rfl, rfl, rfl⟩ := t.det U (List.Perm.refl _) s1 s2 t2
      have all : ∀ z ∈ r ++ w ++ l, S z := fun z hz => by
        rcases List.mem_append.mp (t.perm.mem_iff.mpr hz) with q | q
        · exact s1 z q
        · exact s2 z q
      rw [ih (fun z hz => all z (by simp [hz])) (fun z hz => all z (by simp [hz])) m2]
end

/-! ### which pair goes ahead -/
def before (os : List (Nat × Bool)) (a b : Nat × List PyData) : Bool := HT.lexLt (rankOf os a) (rankOf os b)
theorem swo_before (os : List (Nat × Bool)) : SrtO.Swo (before os) := NtL.swo_lexL (rankOf os)
end RS
set_option Elab.async false
set_option maxRecDepth 100000
set_option maxHeartbeats 4000000
set_option pp.maxSteps 400
namespace RS
open PySem PySem.Spec PyProof.Rows L2 GX
/-! ### a (number, row) of any kind -/
abbrev TPr := Int × List PyData
def toldD (t : TPr) : PyData := .tuple [.int t.1, .tuple t.2]
def okT (ks : List Bool) (t : TPr) : Bool := decide (0 ≤ t.1) && isRow ks (.tuple t.2)
def natT (t : TPr) : Nat × List PyData := (t.1.toNat, t.2)
def fitT (t : TPr) : Prop := t.2.length ≤ 1000 ∧ ∀ e ∈ t.2, fitD e
theorem toldD_pair (q : Nat × List PyData) : toldD ((q.1 : Int), q.2) = pairD q := rfl
theorem toldD_nat {ks : List Bool} {t : TPr} (h : okT ks t = true) : toldD t = pairD (natT t) := by
  obtain ⟨n, r⟩ := t
  have h0 : (0 : Int) ≤ n := by
    have := Bool.and_eq_true_iff.mp h
    exact of_decide_eq_true this.1
  show PyData.tuple [.int n, .tuple r] = .tuple [.int ((n.toNat : Nat) : Int), .tuple r]
  rw [Int.toNat_of_nonneg h0]
/-- each one stands ahead of the next one -/
def adj (os : List (Nat × Bool)) (ts : List TPr) : Bool := (ts.zip ts.tail).all fun p => before os (natT p.1) (natT p.2)
def okRun (ks : List Bool) (os : List (Nat × Bool)) (ts : List TPr) : Bool := ts.all (okT ks) && adj os ts
section
variable {P : Program} {w : World} {K : PySem.W.Frag} {mg : Str → Option Value} {base : Heap}
theorem scGoes : FnScope ["order", "one", "other"] ["order", "one", "other"] (defScope s_goes_ahead) := ⟨rfl, rfl, rfl, by decide +kernel, rfl, by decide +kernel, by decide +kernel⟩
def spGoes (K : PySem.W.Frag) : Sp := fun vs H Q _ => ∃ (vo v1 v2 : V) (os : List (Nat × Bool)) (p q : Nat × List PyData), vs = [vo, v1, v2] ∧ Dp K H vo (orderD os) ∧ Dp K H v1 (pairD p) ∧ Dp K H v2 (pairD q) ∧ os.length ≤ 1000 ∧ Fits os p.2 ∧ Fits os q.2 ∧
  ∀ H', Same H H' → Q (.bl (before os p q)) H'
theorem goes_ok {c : Addr} (D : DefAt K mg "goes_ahead" s_goes_ahead c) (cR : Cal P w K mg base CX0 2 "rank" ["order", "told"] (spRank K)) : Cal P w K mg base CX0 3 "goes_ahead" ["order", "one", "other"] (spGoes K) := by
  have sc := scGoes
  refine def_ok0 D sc (fun vs H Q E h => ?_) (fun _ _ _ _ _ _ us hl => match us, hl with | [_, _, _], _ => rfl) (fun f A outer s H vs Q E hr h => ?_)
  · obtain ⟨vo, v1, v2, os, p, q, rfl, _⟩ := h
    rfl
  · obtain ⟨vo, v1, v2, os, p, q, rfl, ho, h1, h2, hz, f1, f2, k⟩ := h
    have hu0 := hr.units0
    refine ⟨_, (pss_one (ps_ret (pe_cmpR (op_ltT hu0) (pe_c cR hr (by decide) (by rfl) pass0 (pa_cons (pv 0) (pa_cons (pv 1) pa_nil))) (pe_c cR hr (by decide) (by rfl) pass0 (pa_cons (pv 0) (pa_cons (pv 2) pa_nil))) (nomark _)))), ?_⟩
    refine ⟨_, rfl, _, rfl, vo, v1, os, p, rfl, ho, h1, hz, f1, fun H1 p1 s1 n1 g1 => ?_⟩
    refine ⟨_, rfl, _, rfl, vo, v2, os, q, rfl, dp_same s1 _ ho, dp_same s1 _ h2, hz, f2, fun H2 p2 s2 n2 g2 => ?_⟩
    exact ⟨p1, p2, _, _, rfl, rfl, SqT.of (s2 _ _ g1), SqT.of g2, k _ (s1.trans s2)⟩
theorem scIsTold : FnScope ["kinds", "told", "number", "row"] ["kinds", "told"] (defScope s_is_told) := ⟨rfl, rfl, rfl, by decide +kernel, rfl, by decide +kernel, by decide +kernel⟩
def spIsTold (K : PySem.W.Frag) (pW pR : Addr) : Sp := fun vs H Q _ => ∃ (vk vt : V) (ks : List Bool) (t : TPr), vs = [vk, vt] ∧ Dp K H vk (kindsD ks) ∧ Dp K H vt (toldD t) ∧ ks.length ≤ 1000 ∧ fitT t ∧ Tab H pW ∧ Tab H pR ∧ ∀ H', Same H H' → Q (.bl (okT ks t)) H'
theorem is_told_ok {c pW pR : Addr} (D : DefAt K mg "is_told" s_is_told c) (T : Txt K mg) (cN : Cal P w K mg base CX0 1 "is_number" ["value"] (spNum K)) (cR : Cal P w K mg base CX0 5 "is_row" ["kinds", "row"] (spRow K pW pR)) : Cal P w K mg base CX0 6 "is_told" ["kinds", "told"] (spIsTold K pW pR) := by
  have sc := scIsTold
  refine def_ok0 D sc (fun vs H Q E h => ?_) (fun _ _ _ _ _ _ us hl => match us, hl with | [_, _], _ => rfl) (fun f A outer s H vs Q E hr h => ?_)
  · obtain ⟨vk, vt, ks, t, rfl, _⟩ := h
    rfl
  · obtain ⟨vk, vt, ks, ⟨n, r⟩, rfl, hk, ht, hlk, hz, hW, hR, k⟩ := h
    refine ⟨_, (pss_cons (ps_if ((pw_or (pt_not (pt_val (pe_callB call_isiD (by rfl) T.isinstance (by decide +kernel) (pa_cons (pv 1) (pa_cons (pe_bltn (v := V.ty "tuple") (u := Value.type "tuple") (by rfl) T.tuple_ (by decide +kernel) rfl) pa_nil))))) (pw_or1 (pt_cmpR op_ne (pe_callB call_lenD (by rfl) T.len PySem.boot_len (pa_cons (pv 1) pa_nil)) pe_int (nomark _)))).pt) (pss_one (ps_ret pe_bl)) pss_nil) (pss_cons (ps_asg (pv 1) (pg_tup (by rfl) (pgs_cons (pg_name (i := 2) sc.nd rfl (Or.inl rfl)) (pgs_cons (pg_name (i := 3) sc.nd rfl (Or.inl rfl)) pgs_nil)))) (pss_one (ps_ret (pe_and (pe_c cN hr (by decide) (by rfl) pass0 (pa_cons (pv 2) pa_nil)) (pe_and (pe_cmpR op_ge (pv 2) pe_int (nomark _)) (pe_one (pe_c cR hr (by decide) (by rfl) pass0 (pa_cons (pv 0) (pa_cons (pv 3) pa_nil)))))))))), ?_⟩
    refine ⟨_, rfl, _, _, _, rfl, by simp, ht, _, rfl, ?_⟩
    refine iteF ⟨_, rfl, _, _, 2, rfl, ht, rfl, rfl, _, rfl, ?_⟩
    refine iteF ⟨_, rfl, ?_⟩
    cases ht with
    | @tup a xs _ hS hI =>
      cases hI with
      | cons h1 hI =>
        cases hI with
        | cons h2 hI =>
          cases hI
          cases h1
          refine ⟨a, _, rfl, hS, rfl, _, _, rfl, _, _, rfl, rfl, ?_⟩
          refine ⟨_, rfl, _, _, rfl, .int n, _, rfl, ?_⟩
          have hn : isNum (.int n) = true := by simp [isNum, isI, isT, tyN]
          rw [hn]
          refine iteT ?_
          refine ⟨_, rfl, _, _, rfl, rfl, _, rfl, ?_⟩
          have e0 : okT ks (n, r) = (decide (0 ≤ n) && isRow ks (.tuple r)) := rfl
          rw [e0] at k
          refine ite2 (fun h0 => ?_) (fun h0 => ?_)
          · have h0' : decide (0 ≤ n) = true := h0
            rw [h0', Bool.true_and] at k
            exact ⟨_, rfl, _, rfl, vk, _, ks, .tuple r, rfl, hk, h2, hlk, hz, hW, hR, k⟩
          · have h0' : decide (0 ≤ n) = false := by
              rw [Bool.eq_false_iff]
              exact h0
            have k' := k H (Same.refl H)
            rw [h0', Bool.false_and] at k'
            exact k'
end
end RS
set_option Elab.async false
set_option maxRecDepth 100000
set_option maxHeartbeats 4000000
namespace RS
open PySem PySem.Spec PyProof.Rows L2 GX
/-! ### data without lists -/
mutual
def noL : PyData → Bool
  | .list _ => false
  | .dict _ => false
  | .tuple ds => noLs ds
  | _ => true
def noLs : List PyData → Bool
  | [] => true
  | d :: ds => noL d && noLs ds
end
theorem noLs_iff : ∀ {ds : List PyData}, noLs ds = true ↔ ∀ d ∈ ds, noL d = true
  | [] => by simp [noLs]
  | d :: ds => by
    unfold noLs
    rw [Bool.and_eq_true, noLs_iff]
    simp
theorem sqT_upd {K : PySem.W.Frag} {H : Hp} {a b : Addr} {xs u ys : List V} (hH : H a = some (.lst xs)) (h : SqT K H b ys) : SqT K (upd H a (.lst u)) b ys := by
  rcases h with (h | ⟨o, h⟩) | h
  · refine .inl (.inl ?_)
    rw [upd_ne (fun z => by rw [z, hH] at h; cases h)]
    exact h
  · refine .inl (.inr ⟨o, ?_⟩)
    rw [upd_ne (fun z => by rw [z, hH] at h; cases h)]
    exact h
  · exact .inr h
mutual
theorem dp_upd {K : PySem.W.Frag} {H : Hp} {a : Addr} {xs u : List V} (hH : H a = some (.lst xs)) : ∀ (d : PyData) {v : V}, noL d = true → Dp K H v d → Dp K (upd H a (.lst u)) v d
  | .none, _, _, .non => .non
  | .bool b, _, _, .bl _ => .bl b
  | .int i, _, _, .int _ => .int i
  | .str x, _, _, .str _ => .str x
  | .list ds, _, h, _ => by cases h
  | .tuple ds, _, h, .tup q hs => .tup (sqT_upd hH q) (dpAll_upd hH ds h hs)
  | .dict _, _, h, _ => by cases h
theorem dpAll_upd {K : PySem.W.Frag} {H : Hp} {a : Addr} {xs u : List V} (hH : H a = some (.lst xs)) : ∀ (ds : List PyData) {vs : List V}, noLs ds = true → DpAll K H vs ds → DpAll K (upd H a (.lst u)) vs ds
  | [], _, _, .nil => .nil
  | d :: ds, _, h, .cons q hs => by
    unfold noLs at h
    rw [Bool.and_eq_true] at h
    exact .cons (dp_upd hH d h.1 q) (dpAll_upd hH ds h.2 hs)
end
/-- a list is changed that is none of those ahead -/
theorem dp_upd' {K : PySem.W.Frag} {H H' : Hp} {a : Addr} {xs u : List V} (s : Same H H') (hn : H a = none) {d : PyData} {v : V} (q : Dp K H v d) : Dp K (upd H' a (.lst u)) v d :=
  dp_same (fun b o e => by rw [upd_ne (ne_of_none e hn)]; exact s b o e) d q

theorem depth0 : ∀ {ds : List PyData}, (∀ d ∈ ds, d.depth = 0) → PyData.depthAll ds = 0
  | [], _ => by simp [PyData.depthAll]
  | d :: ds, h => by
    simp only [PyData.depthAll]
    rw [h d List.mem_cons_self, depth0 fun e he => h e (List.mem_cons_of_mem _ he)]
    rfl
theorem upd_no {H : Hp} {a b : Addr} {o : HO} (e : upd H a o b = none) : H b = none := by
  by_cases z : b = a
  · rw [z, upd_same] at e
    cases e
  · rw [upd_ne z] at e
    exact e
theorem cond_by {tc : TT} {σ : L2.St} {H : Hp} {Q : Bool → Hp → Prop} (b : Bool) (N : Hp → Prop) (h1 : ∀ Q' : Bool → Hp → Prop, (∀ H2, N H2 → Q' b H2) → tc σ H Q') (h2 : ∀ H2, N H2 → Q b H2) : tc σ H Q := h1 Q h2
theorem iteT' {b : Bool} {A B : Prop} (e : b = true) (h : A) : if b = true then A else B := by
  rw [if_pos e]
  exact h
theorem iteF' {b : Bool} {A B : Prop} (e : b = false) (h : B) : if b = true then A else B := by
  rw [if_neg (by rw [e]; decide)]
  exact h
end RS
set_option Elab.async false
set_option maxRecDepth 100000
set_option maxHeartbeats 4000000
namespace RS
open PySem PySem.Spec PyProof.Rows L2 GX
/-! ### the drawer -/
structure BoxAt (H : Hp) (B L : Addr) : Prop where
  ne : B ≠ L
  b : ∃ s : Int, H B = some (.lst [.ref L, .int s])
  l : ∃ ms : List Int, H L = some (.lst (ms.map V.int))
/-- all but the drawer stays -/
def SameX (B L : Addr) (H H' : Hp) : Prop := ∀ b o, b ≠ B → b ≠ L → H b = some o → H' b = some o
theorem SameX.refl {B L : Addr} {H : Hp} : SameX B L H H := fun _ _ _ _ e => e
theorem SameX.trans {B L : Addr} {H H1 H2 : Hp} (a : SameX B L H H1) (b : SameX B L H1 H2) : SameX B L H H2 := fun c o h1 h2 e => b c o h1 h2 (a c o h1 h2 e)
theorem SameX.of {B L : Addr} {H H' : Hp} (s : Same H H') : SameX B L H H' := fun b o _ _ e => s b o e
theorem BoxAt.same {H H' : Hp} {B L : Addr} (h : BoxAt H B L) (s : Same H H') : BoxAt H' B L := by
  obtain ⟨n, ⟨x, hb⟩, ⟨ms, hl⟩⟩ := h
  exact ⟨n, ⟨x, s _ _ hb⟩, ⟨ms, s _ _ hl⟩⟩
section
variable {P : Program} {w : World} {K : PySem.W.Frag} {mg : Str → Option Value} {base : Heap}
theorem dpInts {K : PySem.W.Frag} {H : Hp} : ∀ {ns : List Int}, DpAll K H (ns.map V.int) (ns.map .int)
  | [] => .nil
  | n :: _ => .cons (.int n) dpInts
theorem scBegun : FnScope ["_law_script", "_law_stirred", "_law_cell"] ["_law_script"] (defScope sBegun) := ⟨rfl, rfl, rfl, by decide +kernel, rfl, by decide +kernel, by decide +kernel⟩
def spBegun (K : PySem.W.Frag) : Sp := fun vs H Q _ => ∃ (a : Addr) (ns : List Int), vs = [.ref a] ∧ SqL K H a (ns.map V.int) ∧
  ∀ (H' : Hp) (B L : Addr), Same H H' → H B = none → H L = none → BoxAt H' B L → Q (.ref B) H'
theorem begun_ok {c : Addr} (D : DefAt K mg "_law_begun" sBegun c) (T : Txt K mg) : Cal P w K mg base CX0 1 "_law_begun" ["_law_script"] (spBegun K) := by
  have sc := scBegun
  refine def_ok0 D sc (fun vs H Q E h => ?_) (fun _ _ _ _ _ _ us hl => match us, hl with | [_], _ => rfl) (fun f A outer s H vs Q E hr h => ?_)
  · obtain ⟨a, ns, rfl, _⟩ := h
    rfl
  · obtain ⟨a, ns, rfl, hS, k⟩ := h
    refine ⟨_, (pss_cons (ps_set (i := 1) sc.nd rfl (Or.inl rfl) pe_int) (pss_cons (ps_for PassesOwn.never rfl (pi_list (pv 0)) (pg_name (i := 2) sc.nd rfl (Or.inl rfl)) (pss_one (ps_set (i := 1) sc.nd rfl (Or.inl rfl) (pe_op op_mod (pe_op op_add (pe_op op_add (pe_op op_mul (pv 1) pe_int) (pe_op op_mul (pv 2) pe_int)) pe_int) pe_int)))) (pss_one (ps_ret (pe_lst (pa_cons (pe_callTy call_list_of (by rfl) T.list_ (by decide +kernel) (pa_cons (pv 0) pa_nil)) (pa_cons (pe_op op_mul (pv 1) (pe_callTy call_int1 (by rfl) T.int_ (by decide +kernel) (pa_cons (pe_cmpR op_gt (pe_callB call_lenD (by rfl) T.len PySem.boot_len (pa_cons (pv 0) pa_nil)) pe_int (nomark _)) pa_nil))) pa_nil))))))), ?_⟩
    refine ⟨_, rfl, a, rfl, ⟨_, hS⟩, for_list (K := K) (a := a) (xs := ns.map V.int) (fun i σ H' => ∃ (st : Int) (v2 : Option V), σ = [some (.ref a), some (.int st), v2] ∧ 0 ≤ st ∧ st < 2147483647 ∧ H' = H)
      ⟨0, none, rfl, by decide, by decide, rfl⟩ (fun i σ H' _ ⟨_, _, _, _, _, e⟩ => by rw [e]; exact hS) ?_ ?_⟩
    · rintro i x σ H' hx ⟨st, v2, rfl, h0, h1, rfl⟩
      obtain ⟨n, en, rfl⟩ : ∃ n, ns[i]? = some n ∧ x = V.int n := by
        rw [List.getElem?_map] at hx
        cases q : ns[i]? with
        | none => rw [q] at hx; cases hx
        | some b => rw [q] at hx; exact ⟨b, rfl, (Option.some.inj hx).symm⟩
      refine ⟨_, rfl, _, _, rfl, rfl, .inl ⟨by omega, by omega⟩, ?_⟩
      refine ⟨_, rfl, _, _, rfl, rfl, .inr ⟨by omega, by omega⟩, ?_⟩
      refine ⟨_, _, rfl, rfl, _, _, rfl, rfl, _, _, rfl, rfl, (by show (0 : Int) < 2147483647; decide), ?_⟩
      exact ⟨_, _, rfl, Int.emod_nonneg _ (by decide), Int.emod_lt_of_pos _ (by decide), rfl⟩
    · rintro σ H' ⟨st, v2, rfl, h0, h1, rfl⟩
      refine ⟨_, rfl, a, _, rfl, .inl hS, fun L hL => ?_⟩
      have s1 : Same H' (upd H' L (.lst (ns.map V.int))) := fun b o e => by
        rw [upd_ne (ne_of_none e hL)]
        exact e
      refine ⟨_, rfl, _, rfl, .ref a, _, _, rfl, .lst (s1.seq hS) dpInts, rfl, _, _, rfl, rfl, .inr ⟨_, rfl, ?_⟩⟩
      refine ⟨_, _, rfl, rfl, .inl ⟨by omega, by omega⟩, ?_⟩
      refine ⟨by show 2 ≤ sizeLine; decide, fun B hB => ?_⟩
      have n1 : L ≠ B := fun z => by rw [← z, upd_same] at hB; cases hB
      exact k _ B L (fun b o e => by rw [upd_ne (ne_of_none (s1 _ _ e) hB)]; exact s1 _ _ e) (s1.free hB) hL ⟨Ne.symm n1, ⟨_, upd_same⟩, ⟨ns, (upd_ne n1).trans upd_same⟩⟩
end
end RS
set_option Elab.async false
set_option maxRecDepth 100000
set_option maxHeartbeats 4000000
namespace RS
open PySem PySem.Spec PyProof.Rows L2 GX
section
variable {P : Program} {w : World} {K : PySem.W.Frag} {mg : Str → Option Value} {base : Heap}
theorem scTake : FnScope ["_law_box", "_law_many", "_law_number"] ["_law_box", "_law_many"] (defScope sTake) := ⟨rfl, rfl, rfl, by decide +kernel, rfl, by decide +kernel, by decide +kernel⟩
def spTake : Sp := fun vs H Q _ => ∃ (B L : Addr) (m : Int), vs = [.ref B, .int m] ∧ BoxAt H B L ∧ 1 ≤ m ∧ m ≤ 1000000000000000000 ∧
  ∀ (H' : Hp) (k : Int), SameX B L H H' → BoxAt H' B L → 0 ≤ k → k < m → Q (.int k) H'
theorem eqv_nil (ds : List PyData) : PyData.eqv (.list ds) (.list []) = ds.isEmpty := by
  cases ds <;> simp [PyData.eqv, PyData.eqvAll]
theorem shaped_ints (ms : List Int) : SeqAt.shaped (.list (ms.map .int)) = true := by
  have h1 : PyData.canLayAll0 (ms.map .int) = true := by
    induction ms with
    | nil => simp [PyData.canLayAll0]
    | cons m ms ih => simp [PyData.canLayAll0, PyData.canLay0, ih]
  have h2 : PyData.depthAll (ms.map .int) = 0 := depth0 fun d hd => by
    obtain ⟨n, _, rfl⟩ := List.mem_map.mp hd
    simp [PyData.depth]
  simp [SeqAt.shaped, PyData.canLay0, PyData.depth, h1, h2]
theorem take_ok {c : Addr} (D : DefAt K mg "_law_take" sTake c) : Cal P w K mg base CX0 1 "_law_take" ["_law_box", "_law_many"] spTake := by
  have sc := scTake
  refine def_ok0 D sc (fun vs H Q E h => ?_) (fun _ _ _ _ _ _ us hl => match us, hl with | [_, _], _ => rfl) (fun f A outer s H vs Q E hr h => ?_)
  · obtain ⟨B, L, m, rfl, _⟩ := h
    rfl
  · obtain ⟨B, L, m, rfl, ⟨nBL, ⟨st, hB⟩, ⟨ms, hL⟩⟩, hm, hm2, k⟩ := h
    have hu := hr.units
    refine ⟨_, (pss_cons (ps_if (pt_cmpR (op_eqD hu) (pe_ix ix_list (pv 0) pe_int (fun _ _ => rfl)) (pe_lst pa_nil) (nomark _)) (pss_cons (ps_asg (pe_op op_mod (pe_op op_mul (pe_ix ix_list (pv 0) pe_int (fun _ _ => rfl)) pe_int) pe_int) (pg_sub (pv 0) pe_int set_list)) (pss_one (ps_ret (pe_op op_mod (pe_op op_fdiv (pe_ix ix_list (pv 0) pe_int (fun _ _ => rfl)) pe_int) (pv 1))))) pss_nil) (pss_cons (ps_set (i := 2) sc.nd rfl (Or.inl rfl) (pe_ix ix_list (pe_ix ix_list (pv 0) pe_int (fun _ _ => rfl)) pe_int (fun _ _ => rfl))) (pss_cons (ps_asg (pe_op op_fdivW (pv 2) (pv 1)) (pg_sub (pe_ix ix_list (pv 0) pe_int (fun _ _ => rfl)) pe_int set_list)) (pss_cons (ps_if ((pw_or (pt_cmpR op_eq (pe_ix ix_list (pe_ix ix_list (pv 0) pe_int (fun _ _ => rfl)) pe_int (fun _ _ => rfl)) pe_int (nomark _)) (pw_or1 (pt_cmpR op_eq (pe_ix ix_list (pe_ix ix_list (pv 0) pe_int (fun _ _ => rfl)) pe_int (fun _ _ => rfl)) (pe_un un_neg pe_int) (nomark _)))).pt) (pss_one (ps_expr (pe_bm PySem.F.plainAttrs_list PySem.F.slot_list_pop PySem.F.type_list_pop mt_popAt (pe_ix ix_list (pv 0) pe_int (fun _ _ => rfl)) (pa_cons pe_int pa_nil)))) pss_nil) (pss_one (ps_ret (pe_op op_mod (pv 2) (pv 1)))))))), ?_⟩
    refine ⟨_, rfl, B, _, _, _, rfl, rfl, SqL.of hB, rfl, Nat.zero_le _, fun e0 he0 => ?_⟩
    have s0 : Same H (upd H e0 (.lst [])) := fun b o e => by
      rw [upd_ne (ne_of_none e he0)]
      exact e
    refine ⟨.list (ms.map .int), .list [], .lst (s0.seq (SqL.of hL)) dpInts, .lst (SqL.of upd_same) .nil, ?_, rfl, _, rfl, ?_⟩
    · exact shaped_ints ms
    rw [eqv_nil]
    have hB0 := s0 _ _ hB
    have hL0 := s0 _ _ hL
    cases ms with
    | nil =>
      refine iteT ⟨_, rfl, B, _, _, _, rfl, rfl, SqL.of hB0, atI_nat (j := 1) rfl, _, _, rfl, rfl, .inr ⟨by decide, by decide⟩, ?_⟩
      refine ⟨_, _, rfl, rfl, (by show (0 : Int) < 2147483647; decide), ?_⟩
      refine ⟨_, rfl, B, _, _, 1, rfl, rfl, hB0, rfl, ?_⟩
      refine ⟨_, rfl, B, _, _, _, rfl, rfl, SqL.of upd_same, atI_nat (j := 1) rfl, ?_⟩
      refine ⟨_, _, rfl, rfl, ⟨by decide, by decide⟩, _, rfl, _, _, rfl, rfl, (by show (0 : Int) < m; omega), ?_⟩
      refine k _ _ (fun b o h1 h2 e => ?_) ⟨nBL, ⟨_, upd_same⟩, ⟨[], (upd_ne (Ne.symm nBL)).trans hL0⟩⟩ (Int.emod_nonneg _ (by omega)) (Int.emod_lt_of_pos _ (by omega))
      rw [upd_ne h1]
      exact s0 _ _ e
    | cons m0 ms =>
      refine iteF ⟨_, rfl, B, _, _, _, rfl, rfl, SqL.of hB0, atI_nat (j := 0) rfl, L, _, _, _, rfl, rfl, SqL.of hL0, atI_nat (j := 0) rfl, ?_⟩
      refine ⟨_, rfl, _, rfl, _, _, rfl, rfl, wide_div (b := 64) (by omega) (by show m.natAbs < 18446744073709551616; omega) (by decide) (by decide), ?_⟩
      refine ⟨_, rfl, B, _, _, _, rfl, rfl, SqL.of hB0, atI_nat (j := 0) rfl, L, _, _, 0, rfl, rfl, hL0, by simp [ixN], ?_⟩
      have hB1 : upd (upd H e0 (.lst [])) L (.lst (((m0 :: ms).map V.int).set 0 (.int (m0 / m)))) B = some (.lst [.ref L, .int st]) := (upd_ne nBL).trans hB0
      refine ⟨_, rfl, B, _, _, _, rfl, rfl, SqL.of hB1, atI_nat (j := 0) rfl, L, _, _, _, rfl, rfl, SqL.of upd_same, atI_nat (j := 0) rfl, ?_⟩
      have sx : ∀ (u : HO) (b : Addr) (o : HO), b ≠ B → b ≠ L → H b = some o → upd (upd H e0 (.lst [])) L u b = some o := fun u b o h1 h2 e => by
        rw [upd_ne h2]
        exact s0 _ _ e
      have ret : ∀ (H2 : Hp), SameX B L H H2 → BoxAt H2 B L → (∃ v, (some (V.int m0) : Option V) = some v ∧ v = .int m0) → Q (.int (m0 % m)) H2 := fun H2 s2 b2 _ => k H2 _ s2 b2 (Int.emod_nonneg _ (by omega)) (Int.emod_lt_of_pos _ (by omega))
      have box1 : BoxAt (upd (upd H e0 (.lst [])) L (.lst (V.int (m0 / m) :: ms.map V.int))) B L := ⟨nBL, ⟨_, hB1⟩, ⟨m0 / m :: ms, upd_same⟩⟩
      have box2 : BoxAt (upd (upd (upd H e0 (.lst [])) L (.lst (V.int (m0 / m) :: ms.map V.int))) L (.lst (ms.map V.int))) B L := ⟨nBL, ⟨_, (upd_ne nBL).trans hB1⟩, ⟨ms, upd_same⟩⟩
      have sx2 : SameX B L H (upd (upd (upd H e0 (.lst [])) L (.lst (V.int (m0 / m) :: ms.map V.int))) L (.lst (ms.map V.int))) := fun b o h1 h2 e => by
        rw [upd_ne h2]
        exact sx _ b o h1 h2 e
      have sk : seqIndex? 0 (V.int (m0 / m) :: ms.map V.int).length = some 0 := by
        simp [seqIndex?]
      refine ⟨rfl, _, rfl, ?_⟩
      refine ite2 (fun h1 => ?_) (fun h1 => ?_)
      · refine iteT ⟨_, rfl, B, _, _, _, rfl, rfl, SqL.of hB1, atI_nat (j := 0) rfl, .inl ⟨rfl, _, SqL.of upd_same⟩, L, _, 0, 0, _, rfl, rfl, upd_same, by decide, by decide, sk, rfl, ?_⟩
        exact ⟨_, rfl, _, rfl, _, _, rfl, rfl, (by show (0 : Int) < m; omega), ret _ sx2 box2 ⟨_, rfl, rfl⟩⟩
      · refine ⟨_, rfl, B, _, _, _, rfl, rfl, SqL.of hB1, atI_nat (j := 0) rfl, L, _, _, _, rfl, rfl, SqL.of upd_same, atI_nat (j := 0) rfl, ?_⟩
        refine ⟨_, rfl, rfl, _, rfl, ?_⟩
        refine ite2 (fun h1 => ?_) (fun h1 => ?_)
        · refine ⟨_, rfl, B, _, _, _, rfl, rfl, SqL.of hB1, atI_nat (j := 0) rfl, .inl ⟨rfl, _, SqL.of upd_same⟩, L, _, 0, 0, _, rfl, rfl, upd_same, by decide, by decide, sk, rfl, ?_⟩
          exact ⟨_, rfl, _, rfl, _, _, rfl, rfl, (by show (0 : Int) < m; omega), ret _ sx2 box2 ⟨_, rfl, rfl⟩⟩
        · exact ⟨_, rfl, _, rfl, _, _, rfl, rfl, (by show (0 : Int) < m; omega), ret _ (sx _) box1 ⟨_, rfl, rfl⟩⟩
end
end RS
set_option Elab.async false
set_option maxRecDepth 100000
set_option maxHeartbeats 8000000
namespace RS
open PySem PySem.Spec PyProof.Rows L2 GX
mutual
def few : PyData → Prop
  | .list ds => ds.length ≤ 1000000 ∧ fews ds
  | .tuple ds => ds.length ≤ 1000000 ∧ fews ds
  | .dict _ => False
  | _ => True
def fews : List PyData → Prop
  | [] => True
  | d :: ds => few d ∧ fews ds
end
theorem fews_iff : ∀ {ds : List PyData}, fews ds ↔ ∀ d ∈ ds, few d
  | [] => by simp [fews]
  | d :: ds => by
    unfold fews
    rw [fews_iff]
    simp
theorem depth_mem : ∀ {ds : List PyData} {d : PyData}, d ∈ ds → d.depth ≤ PyData.depthAll ds
  | [], _, h => by cases h
  | e :: ds, d, h => by
    simp only [PyData.depthAll]
    rcases List.mem_cons.mp h with q | q
    · subst q
      omega
    · have := depth_mem q
      omega
end RS
set_option Elab.async false
set_option maxRecDepth 100000
set_option maxHeartbeats 4000000
namespace RS
open PySem PySem.Spec PyProof.Rows L2 GX

/-! ### ranks as data -/
def intsD (l : List Int) : PyData := .tuple (l.map .int)
theorem toks_ints : ∀ xs ys : List Int, PyProof.Rows.lexLt PyProof.Rows.itemOrd (PySem.W.keyToksAll (xs.map .int)) (PySem.W.keyToksAll (ys.map .int)) = HT.lexLt xs ys
  | [], [] => by decide
  | [], y :: ys => by
    rw [HT.lexLt_nil_cons]
    exact PyProof.Rows.lex_true.mpr (.inl (by decide))
  | x :: xs, [] => by
    rw [HT.lexLt_cons_nil]
    exact PyProof.Rows.lex_false.mpr ⟨by decide, .inl (by decide)⟩
  | x :: xs, y :: ys => by
    have ih := toks_ints xs ys
    rw [HT.lexLt_cons]
    show PyProof.Rows.lexLt PyProof.Rows.itemOrd (Sum.inl 1 :: Sum.inl x :: PySem.W.keyToksAll (xs.map .int)) (Sum.inl 1 :: Sum.inl y :: PySem.W.keyToksAll (ys.map .int)) = _
    rw [PyProof.Rows.lex_cons, PyProof.Rows.lex_cons]
    show ((decide ((1 : Int) < 1)) || (!(decide ((1 : Int) < 1)) && (decide (x < y) || (!(decide (y < x)) && _)))) = _
    rw [ih]
    by_cases e : x = y
    · subst e
      rw [if_pos rfl]
      simp
    · rw [if_neg e]
      by_cases h : x < y
      · simp [h]
      · have h2 : y < x := by omega
        simp [h, h2]
theorem lt_ints (xs ys : List Int) : PySem.W.dataLt (intsD xs) (intsD ys) = HT.lexLt xs ys := (PySem.W.dataLt_tuple _ _).trans (toks_ints xs ys)
theorem alike_ints : ∀ xs ys : List Int, PySem.W.alikeAll (xs.map .int) (ys.map .int) = true
  | [], _ => by simp [PySem.W.alikeAll]
  | _ :: _, [] => by simp [PySem.W.alikeAll]
  | x :: xs, y :: ys => by simp [PySem.W.alikeAll, PySem.W.alike, alike_ints xs ys]
theorem noL_ints (xs : List Int) : noLs (xs.map .int) = true := noLs_iff.mpr fun d hd => by
  obtain ⟨n, _, rfl⟩ := List.mem_map.mp hd
  rfl
/-- what stands in the heap: the rank and the pair -/
def itemD (os : List (Nat × Bool)) (q : Nat × List PyData) : PyData := .tuple [intsD (rankOf os q), pairD q]
theorem item_le {os : List (Nat × Bool)} {a b : Nat × List PyData} (h : PySem.W.dataLt (itemD os a) (itemD os b) = false) : before os a b = false := by
  have al : PySem.W.alike (intsD (rankOf os a)) (intsD (rankOf os b)) = true := by
    simp [intsD, PySem.W.alike, alike_ints]
  cases e : PyData.eqv (intsD (rankOf os a)) (intsD (rankOf os b)) with
  | true =>
    have t := (PySem.W.toks_eqv _ _ al).1 e
    have q : PySem.W.dataLt (intsD (rankOf os a)) (intsD (rankOf os b)) = false := by
      unfold PySem.W.dataLt
      rw [t]
      exact (PyProof.Rows.listOrd PyProof.Rows.itemOrd).irrefl _
    rw [lt_ints] at q
    exact q
  | false =>
    have t := PySem.W.dataLt_all_no (xs := [pairD a]) (ys := [pairD b]) al e
    rw [lt_ints] at t
    exact t.symm.trans ((PySem.W.dataLt_tuple _ _).symm.trans h)
/-! ### rows that may be compared -/
theorem val_atom {b : Bool} {d : PyData} (h : isVal b d = true) : (b = true ∧ ∃ x, d = .str x) ∨ (b = false ∧ ∃ n, d = .int n) := by
  cases b with
  | true =>
    cases d with
    | str x => exact .inl ⟨rfl, x, rfl⟩
    | _ => simp [isVal, isWord] at h
  | false =>
    cases d with
    | int n => exact .inr ⟨rfl, n, rfl⟩
    | _ => simp [isVal, isNum, isI, isT, tyN] at h
theorem row_alike : ∀ {ks : List Bool} {r r' : List PyData}, (ks.zip r).all (fun p => isVal p.1 p.2) = true → (ks.zip r').all (fun p => isVal p.1 p.2) = true → r.length = ks.length → r'.length = ks.length → PySem.W.alikeAll r r' = true
  | _, [], _, _, _, _, _ => by simp [PySem.W.alikeAll]
  | _, _ :: _, [], _, _, _, _ => by simp [PySem.W.alikeAll]
  | [], _ :: _, _ :: _, _, _, h, _ => by simp at h
  | k :: ks, d :: r, d' :: r', h, h', l, l' => by
    rw [List.zip_cons_cons, List.all_cons, Bool.and_eq_true] at h h'
    have ih := row_alike h.2 h'.2 (by simpa using l) (by simpa using l')
    have q : PySem.W.alike d d' = true := by
      rcases val_atom h.1 with ⟨e, x, rfl⟩ | ⟨e, n, rfl⟩
      · rcases val_atom h'.1 with ⟨_, y, rfl⟩ | ⟨e', _⟩
        · simp [PySem.W.alike]
        · simp only at e e'; rw [e] at e'; cases e'
      · rcases val_atom h'.1 with ⟨e', _⟩ | ⟨_, m, rfl⟩
        · simp only at e e'; rw [e] at e'; cases e'
        · simp [PySem.W.alike]
    simp [PySem.W.alikeAll, q, ih]
theorem isRow_iff {ks : List Bool} {r : List PyData} : isRow ks (.tuple r) = true ↔ r.length = ks.length ∧ (ks.zip r).all (fun p => isVal p.1 p.2) = true := by
  show (decide (r.length = ks.length) && (ks.zip r).all fun p => isVal p.1 p.2) = true ↔ _
  rw [Bool.and_eq_true]
  simp
theorem row_val {ks : List Bool} {r : List PyData} (h : isRow ks (.tuple r) = true) {d : PyData} (hd : d ∈ r) : ∃ b, isVal b d = true := by
  obtain ⟨hl, ha⟩ := isRow_iff.mp h
  obtain ⟨i, hi, rfl⟩ := List.getElem_of_mem hd
  have hi2 : i < ks.length := by omega
  refine ⟨ks[i], List.all_eq_true.mp ha (ks[i], r[i]) ?_⟩
  rw [List.mem_iff_getElem]
  exact ⟨i, by rw [List.length_zip]; omega, by simp⟩
theorem item_alike {ks : List Bool} {os : List (Nat × Bool)} {a b : Nat × List PyData} (ha : isRow ks (.tuple a.2) = true) (hb : isRow ks (.tuple b.2) = true) : PySem.W.alike (itemD os a) (itemD os b) = true := by
  obtain ⟨l1, h1⟩ := isRow_iff.mp ha
  obtain ⟨l2, h2⟩ := isRow_iff.mp hb
  have q := row_alike h1 h2 l1 l2
  simp [itemD, intsD, pairD, PySem.W.alike, PySem.W.alikeAll, alike_ints, q]
theorem pair_noL {ks : List Bool} {a : Nat × List PyData} (ha : isRow ks (.tuple a.2) = true) : noL (pairD a) = true := by
  have q : noLs a.2 = true := noLs_iff.mpr fun d hd => by
    obtain ⟨b, hv⟩ := row_val ha hd
    rcases val_atom hv with ⟨_, x, rfl⟩ | ⟨_, n, rfl⟩ <;> rfl
  simp [pairD, noL, noLs, q]
theorem item_noL {ks : List Bool} {os : List (Nat × Bool)} {a : Nat × List PyData} (ha : isRow ks (.tuple a.2) = true) : noL (itemD os a) = true := by
  have q := pair_noL ha
  simp [itemD, intsD, noL, noLs, q, noL_ints]
theorem item_depth {ks : List Bool} {os : List (Nat × Bool)} {a : Nat × List PyData} (ha : isRow ks (.tuple a.2) = true) : (itemD os a).depth ≤ 60 := by
  have q : PyData.depthAll a.2 = 0 := depth0 fun d hd => by
    obtain ⟨b, hv⟩ := row_val ha hd
    rcases val_atom hv with ⟨_, x, rfl⟩ | ⟨_, n, rfl⟩ <;> simp [PyData.depth]
  have q2 : PyData.depthAll ((rankOf os a).map .int) = 0 := depth0 fun d hd => by
    obtain ⟨n, _, rfl⟩ := List.mem_map.mp hd
    simp [PyData.depth]
  simp [itemD, intsD, pairD, PyData.depth, PyData.depthAll, q, q2]
end RS
set_option Elab.async false
set_option maxRecDepth 100000
set_option maxHeartbeats 4000000
namespace RS
open PySem PySem.Spec PyProof.Rows L2 GX
/-! ### ranks, column by column -/
theorem lex_irr : ∀ l : List Int, HT.lexLt l l = false
  | [] => rfl
  | x :: l => by rw [HT.lexLt_cons, if_pos rfl]; exact lex_irr l
theorem lexLt_app : ∀ (A B X Y : List Int), A.length = B.length → HT.lexLt (A ++ X) (B ++ Y) = if A = B then HT.lexLt X Y else HT.lexLt A B
  | [], [], X, Y, _ => by rw [if_pos rfl]; rfl
  | [], _ :: _, _, _, h => by simp at h
  | _ :: _, [], _, _, h => by simp at h
  | a :: A, b :: B, X, Y, h => by
    rw [List.cons_append, List.cons_append, HT.lexLt_cons, HT.lexLt_cons]
    by_cases e : a = b
    · subst e
      rw [if_pos rfl, if_pos rfl, lexLt_app A B X Y (by simpa using h)]
      by_cases e2 : A = B
      · rw [if_pos e2, if_pos (by rw [e2])]
      · rw [if_neg e2, if_neg (fun z => e2 (List.cons.inj z).2)]
    · rw [if_neg e, if_neg e, if_neg (fun z => e (List.cons.inj z).1)]
def sg (b : Bool) (z : Int) : Int := if b then -z else z
def padL (k : Nat) (l : List Nat) : List Nat := l ++ List.replicate (k - l.length) 32
def padI (b : Bool) (k : Nat) (l : List Nat) : List Int := ((padL k l).map Int.ofNat).map (sg b)
theorem padI_cons (b : Bool) (k : Nat) (x : Nat) (l : List Nat) : padI b (k + 1) (x :: l) = sg b (x : Nat) :: padI b k l := by
  unfold padI padL
  rw [List.length_cons, Nat.add_sub_add_right]
  rfl
theorem padI_nil (b : Bool) (k : Nat) : padI b (k + 1) [] = sg b 32 :: padI b k [] := by
  unfold padI padL
  rfl
theorem sg_lt {b : Bool} {x y : Nat} : decide (sg b (x : Nat) < sg b (y : Nat)) = if b then decide (y < x) else decide (x < y) := by
  cases b
  · show decide ((x : Int) < (y : Int)) = decide (x < y)
    simp
  · show decide (-(x : Int) < -(y : Int)) = decide (y < x)
    congr 1
    simp
theorem sg_inj {b : Bool} {x y : Nat} (h : sg b (x : Nat) = sg b (y : Nat)) : x = y := by
  cases b
  · have h : (x : Int) = (y : Int) := h
    omega
  · have h : -(x : Int) = -(y : Int) := h
    omega
theorem nil_lt (x : Nat) (l : List Nat) : decide (([] : List Nat) < x :: l) = true := by simp
theorem lt_nil (l : List Nat) : decide (l < ([] : List Nat)) = false := by simp
theorem cons_lt (x y : Nat) (l m : List Nat) : decide (x :: l < y :: m) = if x = y then decide (l < m) else decide (x < y) := by
  by_cases e : x = y
  · subst e
    rw [if_pos rfl]
    congr 1
    simp
  · rw [if_neg e]
    congr 1
    rw [List.cons_lt_cons_iff]
    simp [e]
theorem pad_lt (b : Bool) : ∀ (k : Nat) (l m : List Nat), l.length ≤ k → m.length ≤ k → (∀ c ∈ l, 32 < c) → (∀ c ∈ m, 32 < c) → HT.lexLt (padI b k l) (padI b k m) = if b then decide (m < l) else decide (l < m)
  | 0, [], [], _, _, _, _ => by cases b <;> rfl
  | 0, _ :: _, _, h, _, _, _ => by simp at h
  | 0, _, _ :: _, _, h, _, _ => by simp at h
  | k + 1, [], [], _, _, _, _ => by
    rw [lex_irr]
    cases b <;> simp
  | k + 1, [], y :: m, _, _, _, hm => by
    have hy := hm y List.mem_cons_self
    rw [padI_cons, padI_nil, HT.lexLt_cons]
    have ne : ¬ sg b 32 = sg b (y : Nat) := fun z => by
      have := sg_inj (b := b) (x := 32) (y := y) z
      omega
    rw [if_neg ne]
    have := sg_lt (b := b) (x := 32) (y := y)
    rw [nil_lt, lt_nil]
    refine this.trans ?_
    cases b
    · simp [hy]
    · simp
      omega
  | k + 1, x :: l, [], _, _, hl, _ => by
    have hx := hl x List.mem_cons_self
    rw [padI_cons, padI_nil, HT.lexLt_cons]
    have ne : ¬ sg b (x : Nat) = sg b 32 := fun z => by
      have := sg_inj (b := b) (x := x) (y := 32) z
      omega
    rw [if_neg ne]
    have := sg_lt (b := b) (x := x) (y := 32)
    rw [nil_lt, lt_nil]
    refine this.trans ?_
    cases b
    · simp
      omega
    · simp [hx]
  | k + 1, x :: l, y :: m, h1, h2, hl, hm => by
    have ih := pad_lt b k l m (by simpa using h1) (by simpa using h2) (fun c hc => hl c (List.mem_cons_of_mem _ hc)) (fun c hc => hm c (List.mem_cons_of_mem _ hc))
    rw [padI_cons, padI_cons, HT.lexLt_cons, cons_lt, cons_lt]
    by_cases e : x = y
    · subst e
      rw [if_pos rfl, if_pos rfl, if_pos rfl]
      exact ih
    · rw [if_neg (fun z => e (sg_inj z)), if_neg e, if_neg (Ne.symm e)]
      exact sg_lt
theorem lt_total {l m : List Nat} (h : l ≠ m) : l < m ∨ m < l := by
  induction l generalizing m with
  | nil =>
    cases m with
    | nil => exact absurd rfl h
    | cons y m => exact .inl (by simp)
  | cons x l ih =>
    cases m with
    | nil => exact .inr (by simp)
    | cons y m =>
      by_cases e : x = y
      · subst e
        rcases ih (m := m) (fun z => h (by rw [z])) with q | q
        · exact .inl (List.cons_lt_cons_iff.mpr (.inr ⟨rfl, q⟩))
        · exact .inr (List.cons_lt_cons_iff.mpr (.inr ⟨rfl, q⟩))
      · rcases Nat.lt_or_gt_of_ne e with q | q
        · exact .inl (List.cons_lt_cons_iff.mpr (.inl q))
        · exact .inr (List.cons_lt_cons_iff.mpr (.inl q))
theorem pad_ne (b : Bool) {k : Nat} {l m : List Nat} (h1 : l.length ≤ k) (h2 : m.length ≤ k) (hl : ∀ c ∈ l, 32 < c) (hm : ∀ c ∈ m, 32 < c) (ne : l ≠ m) : padI b k l ≠ padI b k m := fun z => by
  have a := pad_lt b k l m h1 h2 hl hm
  have c := pad_lt b k m l h2 h1 hm hl
  rw [z, lex_irr] at a
  rw [z, lex_irr] at c
  rcases lt_total ne with q | q
  · cases b
    · simp [q] at a
    · simp [q] at c
  · cases b
    · simp [q] at c
    · simp [q] at a
end RS
set_option Elab.async false
set_option maxRecDepth 100000
set_option maxHeartbeats 4000000
namespace RS
open PySem PySem.Spec PyProof.Rows L2 GX
theorem BoxAt.nb {H : Hp} {B L a : Addr} (h : BoxAt H B L) (ha : H a = none) : a ≠ B ∧ a ≠ L := by
  obtain ⟨_, ⟨s, hb⟩, ⟨ms, hl⟩⟩ := h
  exact ⟨fun z => (by rw [z, hb] at ha; cases ha), fun z => (by rw [z, hl] at ha; cases ha)⟩
theorem BoxAt.upd_ {H : Hp} {B L a : Addr} {o : HO} (h : BoxAt H B L) (nB : a ≠ B) (nL : a ≠ L) : BoxAt (upd H a o) B L := by
  obtain ⟨n, ⟨s, hb⟩, ⟨ms, hl⟩⟩ := h
  exact ⟨n, ⟨s, (upd_ne (Ne.symm nB)).trans hb⟩, ⟨ms, (upd_ne (Ne.symm nL)).trans hl⟩⟩
theorem SameX.new {B L a : Addr} {H H' : Hp} {o : HO} (s : SameX B L H H') (ha : H a = none) : SameX B L H (upd H' a o) := fun b u h1 h2 e => by
  rw [upd_ne (ne_of_none e ha)]
  exact s b u h1 h2 e
theorem SameX.free {B L a : Addr} {H H' : Hp} (s : SameX B L H H') (_b : BoxAt H B L) (ha : H' a = none) (b' : BoxAt H' B L) : H a = none := by
  cases e : H a with
  | none => rfl
  | some o =>
    obtain ⟨n1, n2⟩ := b'.nb ha
    rw [s a o n1 n2 e] at ha
    cases ha
theorem ix_listC {X : Cx} {K : PySem.W.Frag} (e : X.K = K) : IxR X (rIxL K) := by
  subst e
  exact ix_list
theorem ix_tupC {X : Cx} {K : PySem.W.Frag} (e : X.K = K) : IxR X (rIxT K) := by
  subst e
  exact ix_tup
theorem ixDC {X : Cx} {K : PySem.W.Frag} (e : X.K = K) : IxR X (fun x y H Q => ∃ d ds i d', Dp K H x d ∧ itemsD d = some ds ∧ y = .int i ∧ atI ds i = some d' ∧ ∀ v, Dp K H v d' → Q v H) := by
  subst e
  exact ixD
/-- what has no list of its own stays -/
theorem sqT_x {K : PySem.W.Frag} {H H' : Hp} {B L a : Addr} {xs : List V} (b : BoxAt H B L) (s : SameX B L H H') (h : SqT K H a xs) : SqT K H' a xs := by
  obtain ⟨_, ⟨st, hb⟩, ⟨ms, hl⟩⟩ := b
  rcases h with (h | ⟨o, h⟩) | h
  · exact .inl (.inl (s a _ (fun z => by rw [z, hb] at h; cases h) (fun z => by rw [z, hl] at h; cases h) h))
  · exact .inl (.inr ⟨o, s a _ (fun z => by rw [z, hb] at h; cases h) (fun z => by rw [z, hl] at h; cases h) h⟩)
  · exact .inr h
mutual
theorem dp_x {K : PySem.W.Frag} {H H' : Hp} {B L : Addr} (b : BoxAt H B L) (s : SameX B L H H') : ∀ (d : PyData) {v : V}, noL d = true → Dp K H v d → Dp K H' v d
  | .none, _, _, .non => .non
  | .bool x, _, _, .bl _ => .bl x
  | .int i, _, _, .int _ => .int i
  | .str x, _, _, .str _ => .str x
  | .list ds, _, h, _ => by cases h
  | .tuple ds, _, h, .tup q hs => .tup (sqT_x b s q) (dpAll_x b s ds h hs)
  | .dict _, _, h, _ => by cases h
theorem dpAll_x {K : PySem.W.Frag} {H H' : Hp} {B L : Addr} (b : BoxAt H B L) (s : SameX B L H H') : ∀ (ds : List PyData) {vs : List V}, noLs ds = true → DpAll K H vs ds → DpAll K H' vs ds
  | [], _, _, .nil => .nil
  | d :: ds, _, h, .cons q hs => by
    unfold noLs at h
    rw [Bool.and_eq_true] at h
    exact .cons (dp_x b s d h.1 q) (dpAll_x b s ds h.2 hs)
end
end RS
set_option Elab.async false
set_option maxRecDepth 100000
set_option maxHeartbeats 4000000
namespace RS
open PySem PySem.Spec PyProof.Rows L2 GX
theorem kinds_noL (ks : List Bool) : noL (kindsD ks) = true := noLs_iff.mpr fun d hd => by
  obtain ⟨b, _, rfl⟩ := List.mem_map.mp hd
  rfl
section
variable {P : Program} {w : World} {K : PySem.W.Frag} {mg : Str → Option Value} {base : Heap}
theorem dpKinds {H : Hp} : ∀ ks : List Bool, DpAll K H (ks.map fun b => V.str (kindS b)) (ks.map fun b => .str (kindS b))
  | [] => .nil
  | _ :: ks => .cons (.str _) (dpKinds ks)
theorem scKinds : FnScope ["_law_box", "_law_k"] ["_law_box"] (defScope sKinds) := ⟨rfl, rfl, rfl, by decide +kernel, rfl, by decide +kernel, by decide +kernel⟩
def spKinds (K : PySem.W.Frag) : Sp := fun vs H Q _ => ∃ (B L : Addr), vs = [.ref B] ∧ BoxAt H B L ∧
  ∀ (H' : Hp) (v : V) (ks : List Bool), SameX B L H H' → BoxAt H' B L → 1 ≤ ks.length → ks.length ≤ 4 → Dp K H' v (kindsD ks) → Q v H'
theorem two_at {k : Int} (h0 : 0 ≤ k) (h1 : k < 2) : ∃ b, atI [V.str "number", V.str "word"] k = some (.str (kindS b)) := by
  rcases (by omega : k = 0 ∨ k = 1) with e | e
  · subst e
    exact ⟨false, atI_nat (j := 0) rfl⟩
  · subst e
    exact ⟨true, atI_nat (j := 1) rfl⟩
theorem kinds_ok {c : Addr} (D : DefAt K mg "_law_kinds" sKinds c) (T : Txt K mg) (cT : Cal P w K mg base CX0 1 "_law_take" ["_law_box", "_law_many"] spTake) : Cal P w K mg base CX0 2 "_law_kinds" ["_law_box"] (spKinds K) := by
  have sc := scKinds
  refine def_ok0 D sc (fun vs H Q E h => ?_) (fun _ _ _ _ _ _ us hl => match us, hl with | [_], _ => rfl) (fun f A outer s H vs Q E hr h => ?_)
  · obtain ⟨B, L, rfl, _⟩ := h
    rfl
  · obtain ⟨B, L, rfl, hb, k⟩ := h
    refine ⟨_, (pss_one (ps_ret (pe_callTy call_tuple_of (by rfl) T.tuple_ (by decide +kernel) (pa_cons (pe_lc (own := [("_law_k", 1)]) (tt := tYes)  rfl sc.nd (pi_range1 (by rfl) T.range (pa_cons (pe_op op_add pe_int (pe_c cT hr (by decide) (by rfl) pass0 (pa_cons (pv 0) (pa_cons pe_int pa_nil)))) pa_nil)) (blkOk_by (N := ["_law_box", "_law_k"]) (sc := defScope sKinds) (own := [("_law_k", 1)]) (by decide +kernel)) (fun _ _ _ _ _ => (pg_name (i := 1) sc.nd rfl (Or.inl rfl))) (fun _ _ _ _ _ => pts_nil) (fun _ _ _ _ _ => (pe_ix (ix_listC (K := K) rfl) (pe_lst (pa_cons pe_str (pa_cons pe_str pa_nil))) (pe_c cT hr (by decide) (by rfl) pass0 (pa_cons (pv 0) (pa_cons pe_int pa_nil))) (fun _ _ => rfl)))) pa_nil)))), ?_⟩
    refine ⟨_, rfl, B, L, 4, rfl, hb, by decide, by decide, fun H1 n s1 b1 n0 n1 => ?_⟩
    refine ⟨_, _, rfl, rfl, _, rfl, by omega, by omega, fun DD hD => ?_⟩
    obtain ⟨nB, nL⟩ := b1.nb hD
    have e1 : (1 + n).toNat = n.toNat + 1 := by omega
    rw [e1]
    refine lc_range (fun i H2 => SameX B L H1 H2 ∧ BoxAt H2 B L ∧ ∃ ks : List Bool, ks.length = i ∧ H2 DD = some (.lst (ks.map fun b => V.str (kindS b)))) ⟨SameX.refl.new hD, b1.upd_ nB nL, [], rfl, upd_same⟩ ?_ ?_
    · rintro i H2 hi ⟨s2, b2, ks, lk, hl⟩
      refine ⟨rfl, by show 2 ≤ sizeLine; decide, fun e he => ?_⟩
      obtain ⟨neB, neL⟩ := b2.nb he
      have neD : DD ≠ e := fun z => by rw [← z, hl] at he; cases he
      refine ⟨_, rfl, B, L, 2, rfl, b2.upd_ neB neL, by decide, by decide, fun H3 k' s3 b3 h0 h1 => ?_⟩
      obtain ⟨bb, hbb⟩ := two_at h0 h1
      refine ⟨e, _, k', _, rfl, rfl, SqL.of (s3 e _ neB neL upd_same), hbb, ?_⟩
      refine ⟨_, s3 DD _ nB nL ((upd_ne neD).trans hl), small1000 (by rw [List.length_map]; omega), ?_, b3.upd_ nB nL, ks ++ [bb], by rw [List.length_append, lk]; rfl, ?_⟩
      · exact (s2.trans ((SameX.refl.new he).trans s3)).new hD
      · rw [upd_same, List.map_append]
        rfl
    · rintro H2 ⟨s2, b2, ks, lk, hl⟩
      refine ⟨DD, _, rfl, .inl ⟨SqL.of hl, fun p hp => ?_⟩⟩
      obtain ⟨npB, npL⟩ := b2.nb hp
      have s12 := s1.trans s2
      exact k _ (.ref p) ks (s12.new (s12.free hb hp b2)) (b2.upd_ npB npL) (by omega) (by omega) (.tup (SqT.of upd_same) (dpKinds ks))
end
end RS
set_option Elab.async false
set_option maxRecDepth 100000
set_option maxHeartbeats 4000000
namespace RS
open PySem PySem.Spec PyProof.Rows L2 GX
theorem perm_erase {α : Type} : ∀ {l : List α} {k : Nat} {x : α}, l[k]? = some x → l.Perm (x :: l.eraseIdx k)
  | [], k, x, h => by simp at h
  | y :: l, 0, x, h => by
    simp at h
    subst h
    exact List.Perm.refl _
  | y :: l, k + 1, x, h => by
    have ih := perm_erase (l := l) (k := k) (x := x) (by simpa using h)
    exact (ih.cons y).trans (List.Perm.swap x y _)
theorem map_erase {α β : Type} (f : α → β) : ∀ (l : List α) (k : Nat), (l.map f).eraseIdx k = (l.eraseIdx k).map f
  | [], _ => rfl
  | _ :: _, 0 => rfl
  | x :: l, k + 1 => by
    show f x :: (l.map f).eraseIdx k = f x :: (l.eraseIdx k).map f
    rw [map_erase f l k]
theorem seqIx {k n : Nat} (h : k < n) : seqIndex? (k : Int) n = some k := by
  simp [seqIndex?]
  omega
section
variable {P : Program} {w : World} {K : PySem.W.Frag} {mg : Str → Option Value} {base : Heap}
theorem dpNats {H : Hp} : ∀ ns : List Nat, DpAll K H (ns.map fun c => V.int (c : Nat)) (ns.map fun c => .int (c : Nat))
  | [] => .nil
  | _ :: ns => .cons (.int _) (dpNats ns)
end
end RS
set_option Elab.async false
set_option maxRecDepth 100000
set_option maxHeartbeats 4000000
namespace RS
open PySem PySem.Spec PyProof.Rows L2 GX
section
variable {P : Program} {w : World} {K : PySem.W.Frag} {mg : Str → Option Value} {base : Heap}
theorem two_ways {k : Int} (h0 : 0 ≤ k) (h1 : k < 2) : ∃ b, atI [V.str "up", V.str "down"] k = some (.str (wayS b)) := by
  rcases (by omega : k = 0 ∨ k = 1) with e | e
  · subst e
    exact ⟨false, atI_nat (j := 0) rfl⟩
  · subst e
    exact ⟨true, atI_nat (j := 1) rfl⟩
theorem parts_noL (os : List (Nat × Bool)) : noLs (os.map partD) = true := noLs_iff.mpr fun d hd => by
  obtain ⟨p, _, rfl⟩ := List.mem_map.mp hd
  rfl
theorem scOrder : FnScope ["_law_box", "_law_kinds_here", "_law_left", "_law_found", "_law_turn"] ["_law_box", "_law_kinds_here"] (defScope sOrder) := ⟨rfl, rfl, rfl, by decide +kernel, rfl, by decide +kernel, by decide +kernel⟩
def spOrder (K : PySem.W.Frag) : Sp := fun vs H Q _ => ∃ (B L : Addr) (vk : V) (ks : List Bool), vs = [.ref B, vk] ∧ BoxAt H B L ∧ Dp K H vk (kindsD ks) ∧ 1 ≤ ks.length ∧ ks.length ≤ 4 ∧
  ∀ (H' : Hp) (a : Addr) (os : List (Nat × Bool)) (xs : List V), SameX B L H H' → BoxAt H' B L → OkOrder ks.length os → os.length ≤ 4 → H a = none → H' a = some (.lst xs) → DpAll K H' xs (os.map partD) → Q (.ref a) H'
theorem order_ok {c : Addr} (D : DefAt K mg "_law_order" sOrder c) (T : Txt K mg) (cT : Cal P w K mg base CX0 1 "_law_take" ["_law_box", "_law_many"] spTake) : Cal P w K mg base CX0 2 "_law_order" ["_law_box", "_law_kinds_here"] (spOrder K) := by
  have sc := scOrder
  refine def_ok0 D sc (fun vs H Q E h => ?_) (fun _ _ _ _ _ _ us hl => match us, hl with | [_, _], _ => rfl) (fun f A outer s H vs Q E hr h => ?_)
  · obtain ⟨B, L, vk, ks, rfl, _⟩ := h
    rfl
  · obtain ⟨B, L, vk, ks, rfl, hb, hk, k1, k4, k⟩ := h
    refine ⟨_, (pss_cons (ps_set (i := 2) sc.nd rfl (Or.inl rfl) (pe_listRg rfl (by rfl) T.list_ (prg_1 (by rfl) T.range (pe_callB call_lenD (by rfl) T.len PySem.boot_len (pa_cons (pv 1) pa_nil))))) (pss_cons (ps_set (i := 3) sc.nd rfl (Or.inl rfl) (pe_lst pa_nil)) (pss_cons (ps_for PassesOwn.never rfl (pi_range1 (by rfl) T.range (pa_cons (pe_op op_add pe_int (pe_c cT hr (by decide) (by rfl) pass0 (pa_cons (pv 0) (pa_cons (pe_callB call_lenD (by rfl) T.len PySem.boot_len (pa_cons (pv 1) pa_nil)) pa_nil)))) pa_nil)) (pg_name (i := 4) sc.nd rfl (Or.inl rfl)) (pss_one (ps_expr (pe_bm PySem.F.plainAttrs_list PySem.F.slot_list_append PySem.F.type_list_append mt_append (pv 3) (pa_cons (pe_tup (pa_cons (pe_bm PySem.F.plainAttrs_list PySem.F.slot_list_pop PySem.F.type_list_pop mt_popAt (pv 2) (pa_cons (pe_c cT hr (by decide) (by rfl) pass0 (pa_cons (pv 0) (pa_cons (pe_callB call_lenD (by rfl) T.len PySem.boot_len (pa_cons (pv 2) pa_nil)) pa_nil))) pa_nil)) (pa_cons (pe_ix ix_list (pe_lst (pa_cons pe_str (pa_cons pe_str pa_nil))) (pe_c cT hr (by decide) (by rfl) pass0 (pa_cons (pv 0) (pa_cons pe_int pa_nil))) (fun _ _ => rfl)) pa_nil))) pa_nil))))) (pss_one (ps_ret (pv 3)))))), ?_⟩
    have lk : (ks.map fun b => PyData.str (kindS b)).length = ks.length := List.length_map _
    refine ⟨_, rfl, vk, _, _, rfl, hk, rfl, _, rfl, .of_le (by decide) (by omega) (by decide) (by omega), fun Lf hLf => ?_⟩
    refine ⟨Nat.zero_le _, fun Fd hFd => ?_⟩
    obtain ⟨nfB, nfL⟩ := hb.nb hLf
    have hFd0 := upd_no hFd
    obtain ⟨ndB, ndL⟩ := hb.nb hFd0
    have nFL : Fd ≠ Lf := fun z => by rw [z, upd_same] at hFd; cases hFd
    have s1 : Same H (upd (upd H Lf (.lst (rgV 0 ((ks.map fun b => PyData.str (kindS b)).length : Nat)))) Fd (.lst [])) := fun b o e => by
      rw [upd_ne (ne_of_none e hFd0), upd_ne (ne_of_none e hLf)]
      exact e
    refine ⟨_, rfl, _, rfl, vk, _, _, rfl, dp_same s1 _ hk, rfl, B, L, _, rfl, hb.same s1, by omega, by omega, fun H1 n s2 b2 n0 n1 => ?_⟩
    refine ⟨_, _, rfl, rfl, _, rfl, by omega, by omega, ?_⟩
    rw [show (1 + n).toNat = n.toNat + 1 by omega]
    have hL1 : H1 Lf = some (.lst ((List.range ks.length).map fun c => V.int (c : Nat))) := by
      rw [s2 Lf (.lst (rgV 0 ((ks.map fun b => PyData.str (kindS b)).length : Nat))) nfB nfL ((upd_ne (Ne.symm nFL)).trans upd_same)]
      simp [rgV]
    have sHX : SameX B L H H1 := (SameX.of s1).trans s2
    have hF1 : H1 Fd = some (.lst []) := s2 Fd _ ndB ndL upd_same
    refine for_range (fun i σ H2 => ∃ (v4 : Option V) (cols : List Nat) (os : List (Nat × Bool)) (xs : List V), σ = [some (.ref B), some vk, some (.ref Lf), some (.ref Fd), v4] ∧ SameX B L H H2 ∧ BoxAt H2 B L ∧
      H2 Lf = some (.lst (cols.map fun c => V.int (c : Nat))) ∧ H2 Fd = some (.lst xs) ∧ DpAll K H2 xs (os.map partD) ∧ os.length = i ∧ cols.length + i = ks.length ∧ (os.map (·.1) ++ cols).Nodup ∧ ∀ c ∈ os.map (·.1) ++ cols, c < ks.length)
      ⟨none, List.range ks.length, [], [], rfl, sHX, b2, hL1, hF1, .nil, rfl, by rw [List.length_range]; rfl, List.nodup_range, fun c hc => List.mem_range.mp hc⟩ ?_ ?_
    · rintro i σ H2 hi ⟨v4, cols, os, xs, rfl, sm, b3, hL, hF, hd, lo, lc, nd, lt⟩
      have lc2 : (cols.map fun c => PyData.int (c : Nat)).length = cols.length := List.length_map _
      refine ⟨_, rfl, .inl ⟨rfl, _, SqL.of hF⟩, _, rfl, .inl ⟨rfl, _, SqL.of hL⟩, _, rfl, _, rfl, .ref Lf, _, _, rfl, .lst (SqL.of hL) (dpNats cols), rfl, B, L, _, rfl, b3, by omega, by omega, fun H3 k1 s4 b4 h0 h1 => ?_⟩
      obtain ⟨kn, rfl⟩ : ∃ kn : Nat, k1 = (kn : Int) := ⟨k1.toNat, by omega⟩
      have hkn : kn < cols.length := by omega
      have hL3 := s4 _ _ nfB nfL hL
      have hF3 := s4 _ _ ndB ndL hF
      refine ⟨Lf, _, (kn : Int), kn, .int (cols[kn] : Nat), rfl, rfl, hL3, by omega, by omega, seqIx (by rw [List.length_map]; exact hkn), by rw [List.getElem?_map, List.getElem?_eq_getElem hkn]; rfl, ?_⟩
      rw [map_erase]
      have b5 := b4.upd_ (o := .lst ((cols.eraseIdx kn).map fun c => V.int (c : Nat))) nfB nfL
      refine ⟨by show 2 ≤ sizeLine; decide, fun e he => ?_⟩
      obtain ⟨neB, neL⟩ := b5.nb he
      refine ⟨_, rfl, B, L, 2, rfl, b5.upd_ neB neL, by decide, by decide, fun H5 k2 s6 b6 g0 g1 => ?_⟩
      obtain ⟨bb, hbb⟩ := two_ways g0 g1
      refine ⟨e, _, k2, _, rfl, rfl, SqL.of (s6 e _ neB neL upd_same), hbb, ?_⟩
      refine ⟨by show 2 ≤ sizeLine; decide, fun p hp => ?_⟩
      obtain ⟨npB, npL⟩ := b6.nb hp
      have hF4 : upd H3 Lf (.lst ((cols.eraseIdx kn).map fun c => V.int (c : Nat))) Fd = some (.lst xs) := (upd_ne nFL).trans hF3
      have neF : Fd ≠ e := fun z => by rw [← z, hF4] at he; cases he
      have neLf : Lf ≠ e := fun z => by rw [← z, upd_same] at he; cases he
      have hF5 : H5 Fd = some (.lst xs) := s6 _ _ ndB ndL ((upd_ne neF).trans hF4)
      have hL5 : H5 Lf = some (.lst ((cols.eraseIdx kn).map fun c => V.int (c : Nat))) := s6 _ _ nfB nfL ((upd_ne neLf).trans upd_same)
      have npF : Fd ≠ p := fun z => by rw [← z, hF5] at hp; cases hp
      have npLf : Lf ≠ p := fun z => by rw [← z, hL5] at hp; cases hp
      have lx : xs.length = os.length := by rw [dpLen hd, List.length_map]
      refine ⟨Fd, xs, _, rfl, rfl, (upd_ne npF).trans hF5, small1000 (by omega), ?_⟩
      have he3 : H3 e = none := upd_no he
      have sH3 : SameX B L H H3 := sm.trans s4
      have hE0 := sH3.free hb he3 b4
      have sH5 : SameX B L H H5 := ((sH3.new hLf).new hE0).trans s6
      have hP0 := sH5.free hb hp b6
      have pn := parts_noL os
      have pn2 := parts_noL (os ++ [(cols[kn], bb)])
      have hd4 := dpAll_upd (u := (cols.eraseIdx kn).map fun c => V.int (c : Nat)) hL3 _ pn (dpAll_x b3 s4 _ pn hd)
      have hd5 : DpAll K H5 xs (os.map partD) := dpAll_x (b5.upd_ neB neL) s6 _ pn (dpAll_same (fun b o q => by rw [upd_ne (ne_of_none q he)]; exact q) _ hd4)
      have hd6 : DpAll K (upd H5 p (.tup [.int (cols[kn] : Nat), .str (wayS bb)])) (xs ++ [.ref p]) ((os ++ [(cols[kn], bb)]).map partD) := by
        rw [List.map_append]
        exact dpApp (dpAll_same (fun b o q => by rw [upd_ne (ne_of_none q hp)]; exact q) _ hd5) (.cons (.tup (SqT.of upd_same) (.cons (.int _) (.cons (.str _) .nil))) .nil)
      have pm := perm_erase (List.getElem?_eq_getElem hkn)
      have pq : ((os ++ [(cols[kn], bb)]).map (·.1) ++ cols.eraseIdx kn).Perm (os.map (·.1) ++ cols) := by
        rw [List.map_append, List.append_assoc]
        exact (pm.symm).append_left _
      have lE : (cols.eraseIdx kn).length + 1 = cols.length := by
        have := pm.length_eq
        rw [List.length_cons] at this
        omega
      refine ⟨_, cols.eraseIdx kn, os ++ [(cols[kn], bb)], _, rfl, (sH5.new hP0).new hFd0, (b6.upd_ npB npL).upd_ ndB ndL, (upd_ne (Ne.symm nFL)).trans ((upd_ne npLf).trans hL5), upd_same, dpAll_upd ((upd_ne npF).trans hF5) _ pn2 hd6, by rw [List.length_append, lo]; rfl, by omega, pq.nodup_iff.mpr nd, fun c hc => lt c (pq.mem_iff.mp hc)⟩
    · rintro σ H2 ⟨v4, cols, os, xs, rfl, sm, b3, hL, hF, hd, lo, lc, nd, lt⟩
      refine ⟨_, rfl, k H2 Fd os xs sm b3 ⟨fun z => ?_, fun p hp => lt _ (List.mem_append_left _ (List.mem_map.mpr ⟨p, hp, rfl⟩)), (List.nodup_append.mp nd).1⟩ (by omega) hFd0 hF hd⟩
      rw [z] at lo
      simp at lo
end
end RS
set_option Elab.async false
set_option maxRecDepth 100000
set_option maxHeartbeats 4000000
namespace RS
open PySem PySem.Spec PyProof.Rows L2 GX
section
variable {X : Cx}
/-- a, b, c = x, y, z with plain local names -/
def tPar3 (i j l : Nat) (ta : TA) : TS := fun D σ H => ta σ H fun vs H1 => ∃ v w z, vs = [v, w, z] ∧ D.nx (((σ.set i (some v)).set j (some w)).set l (some z)) H1
theorem ps_par3 {i j l : Nat} {x y z : Str} {a b c : Expr} {ta : TA} {px py pz pt pos : Pos} {kt k2 pt2} (hc : X.calm = true) (hN : X.N.Nodup) (hi : X.N[i]? = some x) (hj : X.N[j]? = some y) (hl : X.N[l]? = some z) (hij : i ≠ j) (hil : i ≠ l) (hjl : j ≠ l)
    (hx : X.env.scope.names.lookup x = some .local) (hy : X.env.scope.names.lookup y = some .local) (hz : X.env.scope.names.lookup z = some .local) (ha : PA X [a, b, c] ta)
    (hw : swappedStores [.Tuple [.Name x px, .Name y py, .Name z pz] kt pt] (.Tuple [a, b, c] k2 pt2) X.env = pure (some [x, y, z]))
    (hs : swapsWithSole [.Tuple [.Name x px, .Name y py, .Name z pz] kt pt] (.Tuple [a, b, c] k2 pt2) pos.line X.env = pure false := by rfl) :
    PS X (.Assign [.Tuple [.Name x px, .Name y py, .Name z pz] kt pt] (.Tuple [a, b, c] k2 pt2) pos) (tPar3 i j l ta) := by
  refine ⟨fun pins s σ H D I h => ?_⟩
  rw [exec_Assign_arm]
  refine wpAny_bind (wpAny_standAt ?_)
  rw [hs]
  refine wpAny_bind (wpAny_pure ?_)
  rw [if_neg (by decide)]
  refine wpAny_bind (Tuple_ (thn (ha.run _ pins s σ H _ I h) fun us s1 ⟨vs, H1, I1, r1, q1⟩ => ?_))
  obtain ⟨v, w, q, e1, q1⟩ := q1
  subst e1
  obtain ⟨u1, u2, u3, rfl, rv, rw', rq⟩ : ∃ u1 u2 u3, us = [u1, u2, u3] ∧ RelV v u1 ∧ RelV w u2 ∧ RelV q u3 := by
    cases r1 with
    | cons p q =>
      cases q with
      | cons p' q' =>
        cases q' with
        | cons p2 q2 =>
          cases q2
          exact ⟨_, _, _, rfl, p, p', p2⟩
  refine wpAny_newObj_type ?_ (by show 3 ≤ sizeLine; decide)
  have I2 : Inv X pins σ H1 { s1 with heap := s1.heap.push { cls := .type "tuple", data := .seq [u1, u2, u3].toArray } } := I1.kept (t' := s1.toks) fun b o e => Heap.get?_push_of_some _ e
  rw [hw]
  refine wpAny_bind (wpAny_pure ?_)
  show wpAny (model X.prog X.w) X.A (do rule "assign.swapped-stores"; let items ← unpackItems (.ref s1.heap.objs.size) 3 none; assignInOrder [fun v => bindName X.env z v, fun v => bindName X.env y v, fun v => bindName X.env x v] items.reverse; pure Flow.next) _ _ _
  refine wpAny_bind (wpAny_rule (wpAny_bind (unpackItems_tuple (items := #[u1, u2, u3]) (I.ok.hd hc) (IsTup.new s1.heap _) fun h' hx' => ?_)))
  have I3 := I2.kept (h' := h') (t' := s1.toks) fun b o e => hx' b o (Nat.ne_of_lt (Heap.lt_size e)) e
  show wpAny _ _ (assignInOrder [fun v => bindName X.env z v, fun v => bindName X.env y v, fun v => bindName X.env x v] [u3, u2, u1] >>= fun _ => pure Flow.next) _ _ _
  refine wpAny_bind (assignInOrder_cons (wpAny_bindName (store_ok I3 hN hl (.inl hz) rq (fun s2 I4 => ?_) (.inr hz))))
  refine assignInOrder_cons (wpAny_bindName (store_ok I4 hN hj (.inl hy) rw' (fun s3 I5 => ?_) (.inr hy)))
  refine assignInOrder_cons (wpAny_bindName (store_ok I5 hN hi (.inl hx) rv (fun s4 I6 => assignInOrder_nil (wpAny_pure ?_)) (.inr hx)))
  rw [List.set_comm _ _ (Ne.symm hij), List.set_comm _ _ (Ne.symm hil), List.set_comm _ _ (Ne.symm hjl)] at I6
  exact ⟨_, H1, I6, q1⟩
end
end RS
set_option Elab.async false
set_option maxRecDepth 100000
set_option maxHeartbeats 4000000
namespace RS
open PySem PySem.Spec PyProof.Rows L2 GX HQ

/-- what the module took of heapq -/
structure TxtQ (mg : Str → Option Value) : Prop where
  heapify : mg "heapify" = some (.builtin "_heapq.heapify")
  push : mg "heappush" = some (.builtin "_heapq.heappush")
  pop : mg "heappop" = some (.builtin "_heapq.heappop")
theorem perm_unmap {α β : Type} {f : α → β} {x m : List β} (p : x.Perm m) : ∀ l : List α, l.map f = x → ∃ l', l.Perm l' ∧ l'.map f = m := by
  induction p with
  | nil => exact fun l e => ⟨l, .refl _, e⟩
  | cons a p ih =>
    intro l e
    cases l with
    | nil => cases e
    | cons b l =>
      rw [List.map_cons] at e
      injection e with e1 e2
      obtain ⟨l', p', e'⟩ := ih l e2
      exact ⟨b :: l', p'.cons b, by rw [List.map_cons, e1, e']⟩
  | swap a b l0 =>
    intro l e
    cases l with
    | nil => cases e
    | cons c l =>
      cases l with
      | nil => cases e
      | cons d l =>
        rw [List.map_cons, List.map_cons] at e
        injection e with e1 e2
        injection e2 with e2 e3
        exact ⟨d :: c :: l, .swap d c l, by rw [List.map_cons, List.map_cons, e1, e2, e3]⟩
  | trans p q ih1 ih2 =>
    intro l e
    obtain ⟨l1, p1, e1⟩ := ih1 l e
    obtain ⟨l2, p2, e2⟩ := ih2 l1 e1
    exact ⟨l2, p1.trans p2, e2⟩
theorem dpAll_ints {K : PySem.W.Frag} {H : Hp} : ∀ {ns : List Int} {xs : List V}, DpAll K H xs (ns.map .int) → xs = ns.map V.int
  | [], _, .nil => rfl
  | n :: ns, _, .cons h t => by
    cases h
    rw [dpAll_ints t]
    rfl
theorem dp_ints {K : PySem.W.Frag} {H : Hp} {v : V} {ns : List Int} (h : Dp K H v (intsD ns)) : ∃ a, v = .ref a ∧ SqT K H a (ns.map V.int) := by
  cases h with
  | tup q hs => exact ⟨_, rfl, by rw [← dpAll_ints hs]; exact q⟩
theorem ints_dp {K : PySem.W.Frag} {H : Hp} {ns : List Int} {a : Addr} (h : SqT K H a (ns.map V.int)) : Dp K H (.ref a) (intsD ns) := by
  refine .tup h ?_
  clear h
  induction ns with
  | nil => exact .nil
  | cons n ns ih => exact .cons (.int n) ih

theorem pairs_noL {ks : List Bool} {l : List (Nat × List PyData)} (h : ∀ q ∈ l, isRow ks (.tuple q.2) = true) : noLs (l.map pairD) = true := noLs_iff.mpr fun d hd => by
  obtain ⟨q, hq, rfl⟩ := List.mem_map.mp hd
  exact pair_noL (h q hq)
def RowsOk (os : List (Nat × Bool)) (ks : List Bool) (l : List (Nat × List PyData)) : Prop := ∀ q ∈ l, Fits os q.2 ∧ isRow ks (.tuple q.2) = true
theorem RunTo.permL {α : Type} {lt : α → α → Bool} {g g2 left r w l : List α} (e : g2.Perm g) (h : RunTo lt g left r w l) : RunTo lt g2 left r w l := by
  cases h with
  | done =>
    have z := e.eq_nil
    subst z
    exact .done _
  | last p m t => exact .last (e.trans p) m t
  | keep p m h t => exact .keep (e.trans p) m h t
  | wait p m h t => exact .wait (e.trans p) m h t
theorem cutV_from {xs : List V} {k : Nat} (h : k ≤ xs.length) : cutV xs (some (k : Nat)) none = xs.drop k := by
  unfold cutV
  rw [HT.sIx_nat, HT.sIx_none, Nat.min_eq_left h, List.take_of_length_le]
  rw [List.length_drop]
  exact Nat.le_refl _
theorem dpAll_drop {K : PySem.W.Frag} {H : Hp} : ∀ {xs : List V} {ds : List PyData}, DpAll K H xs ds → ∀ k : Nat, DpAll K H (xs.drop k) (ds.drop k)
  | _, _, h, 0 => h
  | _, _, .nil, _ + 1 => .nil
  | _, _, .cons _ t, k + 1 => dpAll_drop t k
theorem dpAll_take {K : PySem.W.Frag} {H : Hp} : ∀ {xs : List V} {ds : List PyData}, DpAll K H xs ds → ∀ k : Nat, DpAll K H (xs.take k) (ds.take k)
  | _, _, _, 0 => .nil
  | _, _, .nil, _ + 1 => .nil
  | _, _, .cons h t, k + 1 => .cons h (dpAll_take t k)
theorem zmem {α : Type} {f : α → PyData} {zs : List Z} {l : List α} (e : zs.map (·.2) = l.map f) {z : Z} (hz : z ∈ zs) : ∃ q ∈ l, z.2 = f q := by
  have : z.2 ∈ l.map f := by
    rw [← e]
    exact List.mem_map.mpr ⟨z, hz, rfl⟩
  obtain ⟨q, hq, e⟩ := List.mem_map.mp this
  exact ⟨q, hq, e.symm⟩
theorem good_of {K : PySem.W.Frag} {ks : List Bool} {os : List (Nat × Bool)} {H' : Hp} {G : Addr} {zs : List Z} {xs : List V} {l : List (Nat × List PyData)} (hG : H' G = some (.lst xs)) (e : zs.map (·.2) = l.map (itemD os)) (h : ∀ z ∈ zs, Dp K H' z.1 z.2) (ok : ∀ q ∈ l, isRow ks (.tuple q.2) = true) : Good K H' G zs := by
  refine ⟨fun z hz u => ?_, fun z hz => ?_, fun z hz => ?_, fun z hz y hy => ?_⟩
  · obtain ⟨q', hq', e⟩ := zmem e hz
    refine dp_upd hG _ ?_ (h z hz)
    rw [e]
    exact item_noL (ok q' hq')
  · obtain ⟨q', hq', e⟩ := zmem e hz
    rw [e]
    exact fun q => nomatch q
  · obtain ⟨q', hq', e⟩ := zmem e hz
    rw [e]
    exact item_depth (ok q' hq')
  · obtain ⟨q', hq', e1⟩ := zmem e hz
    obtain ⟨q2, hq2, e2⟩ := zmem e hy
    rw [e1, e2]
    exact .inl (item_alike (ok q' hq') (ok q2 hq2))

/-! ### a target that is an attribute -/
def gFld (K : PySem.W.Frag) (to : TE) (f : Str) : TG := fun v σ H Q => to σ H fun x H2 => ∃ a C dx fs, x = .ref a ∧ H2 a = some (.ins C dx fs) ∧ Cls K C ∧ NoAttr K C f ∧ fs.length < 1000 ∧ Q σ (upd H2 a (.ins C dx (putF f v fs)))
theorem pg_fld {X : Cx} {o : Expr} {f : Str} {pos : Pos} {to : TE} (ho : PE X o to) : PG X (.Attribute o f pos) (gFld X.K to f) := by
  refine ⟨fun pins s σ H v u Q I r h => ?_⟩
  rw [arm_assign_Attribute]
  refine wpAny_bind (wpAny_holding (thn (ho.run pins s σ H _ I h) fun ov s1 ⟨x, H1, I1, r1, a, C, dx, fs, ex, ea, c, n, l, q⟩ => ?_))
  subst ex
  obtain rfl : ov = Value.ref a := r1
  refine wpAny_bind (wpAny_standAt (wpAny_bind (wpAny_holding (setattr_ok I1 ea c n l r fun s2 I2 => ?_))))
  exact wpAny_release ⟨σ, _, I2, q⟩
/-! ### methods as constants of a class -/
structure MetC (P : Program) (w : World) (K : PySem.W.Frag) (mg : Str → Option Value) (base : Heap) (CX : CXT) (k : Nat) (C : Addr) (m : Str) (ps : List Str) (sp : Sp) : Prop where
  ex : ∃ (f : Addr) (fd : FuncData), Cls K C ∧ Meth K C m f ∧ FnOk P w K mg base CX k f fd ps sp ∧ Binds K fd ps []
structure MakC (P : Program) (w : World) (K : PySem.W.Frag) (mg : Str → Option Value) (base : Heap) (CX : CXT) (k : Nat) (x : Str) (C : Addr) (ps : List Str) (sp : Sp) : Prop where
  ex : ∃ (f : Addr) (fd : FuncData), Mk K C f ∧ FnOk P w K mg base CX k f fd ps sp ∧ mg x = some (.ref C) ∧ Binds K fd ps []
section
variable {X : Cx} {CX : CXT} {k j : Nat} {C : Addr} {ps : List Str} {sp : Sp} {E : XK} {x m : Str} {p pos apos : Pos} {e o : Expr} {es : List Expr} {ta : TE} {t : TA}
theorem pe_m {pl : Sem Bool} (c : MetC X.prog X.w X.K X.mg X.base CX k C m ps sp) (hr : Room j X.A) (hk : k ≤ j) (hx : Passes CX X E) (he : PE X o ta) (ha : PA X (e :: es) t)
    (hst : starEach (e :: es) X.env = (false, eval e X.env) :: starEach es X.env := by rfl) (hpl : (backTo pos (starEach es X.env)).any (·.1) = false := by rfl)
    (ht : eval (.Call (.Attribute o m apos) (e :: es) [] pos) X.env = (do
      let ov ← eval o X.env
      standAt apos.atName
      let (f, first) ← holding [ov] (getMethod ov m pl)
      callWith pos f first (backTo pos (starEach (e :: es) X.env)) (backToKw pos (keywordEach [] X.env))) := by rfl) :
    PE X (.Call (.Attribute o m apos) (e :: es) [] pos) (tMeth C m sp [] E ta t) := by
  obtain ⟨f, fd, cl, hm, F, hb⟩ := c.ex
  exact pe_meth he cl hm F (hr.mono hk) hb .nil hx ha hst hpl ht
theorem pe_m0 {pl : Sem Bool} (c : MetC X.prog X.w X.K X.mg X.base CX k C m ps sp) (hr : Room j X.A) (hk : k ≤ j) (hx : Passes CX X E) (he : PE X o ta)
    (ht : eval (.Call (.Attribute o m apos) [] [] pos) X.env = (do
      let ov ← eval o X.env
      standAt apos.atName
      let (f, first) ← holding [ov] (getMethod ov m pl)
      callWith pos f first (backTo pos (starEach [] X.env)) (backToKw pos (keywordEach [] X.env))) := by rfl) :
    PE X (.Call (.Attribute o m apos) [] [] pos) (tMeth C m sp [] E ta tNil) := by
  obtain ⟨f, fd, cl, hm, F, hb⟩ := c.ex
  exact pe_meth0 he cl hm F (hr.mono hk) hb .nil hx ht
theorem pe_mk (c : MakC X.prog X.w X.K X.mg X.base CX k x C ps sp) (hr : Room j X.A) (hk : k + 1 ≤ j) (hg : Gl X x) (hx : Passes CX X E) (ha : PA X (e :: es) t) (hdb : (x == ("__debug__" : Str)) = false := by decide)
    (he : starEach (e :: es) X.env = (false, eval e X.env) :: starEach es X.env := by rfl) (hpl : (backTo pos (starEach es X.env)).any (·.1) = false := by rfl) :
    PE X (.Call (.Name x p) (e :: es) [] pos) (tMake C sp [] E t) := by
  obtain ⟨f, fd, M, F, hm, hb⟩ := c.ex
  exact pe_make M F (hr.mono hk) hg hm hb .nil hx ha hdb he hpl
theorem pe_mk0 (c : MakC X.prog X.w X.K X.mg X.base CX k x C ps sp) (hr : Room j X.A) (hk : k + 1 ≤ j) (hg : Gl X x) (hx : Passes CX X E) (hdb : (x == ("__debug__" : Str)) = false := by decide) :
    PE X (.Call (.Name x p) [] [] pos) (tMake C sp [] E tNil) := by
  obtain ⟨f, fd, M, F, hm, hb⟩ := c.ex
  exact pe_make0 M F (hr.mono hk) hg hm hb .nil hx hdb
end
/-! ### attributes in a list -/
theorem putF_eq {f : Str} {v w : V} {r : List (Str × V)} : putF f v ((f, w) :: r) = (f, v) :: r := if_pos rfl
theorem putF_ne {f g : Str} {v w : V} {r : List (Str × V)} (h : ¬ g = f) : putF f v ((g, w) :: r) = (g, w) :: putF f v r := if_neg h
theorem lk_eq {f : Str} {v : V} {r : List (Str × V)} : ((f, v) :: r).lookup f = some v := by simp [List.lookup]
theorem lk_ne {f g : Str} {v : V} {r : List (Str × V)} (h : ¬ f = g) : ((g, v) :: r).lookup f = r.lookup f := by
  have e : (f == g) = false := beq_eq_false_iff_ne.mpr h
  simp [List.lookup, e]
/-! ### all but lists and instances stays -/
def KpS (H H' : Hp) : Prop := ∀ b o, H b = some o → (∀ xs, o ≠ .lst xs) → (∀ C dx fs, o ≠ .ins C dx fs) → H' b = some o
theorem KpS.of {H H' : Hp} (s : Same H H') : KpS H H' := fun b o e _ _ => s b o e
theorem KpS.trans {H H1 H2 : Hp} (a : KpS H H1) (b : KpS H1 H2) : KpS H H2 := fun c o e n1 n2 => b c o (a c o e n1 n2) n1 n2
theorem KpS.lst {H : Hp} {a : Addr} {xs u : List V} (h : H a = some (.lst xs)) : KpS H (upd H a (.lst u)) := fun b o e n _ => by
  rw [upd_ne (fun z => by rw [z, h] at e; exact n _ (Option.some.inj e).symm)]
  exact e
theorem KpS.ins {H : Hp} {a C dx : Addr} {fs : List (Str × V)} {o' : HO} (h : H a = some (.ins C dx fs)) : KpS H (upd H a o') := fun b o e _ n => by
  rw [upd_ne (fun z => by rw [z, h] at e; exact n _ _ _ (Option.some.inj e).symm)]
  exact e
theorem sqT_kp {K : PySem.W.Frag} {H H' : Hp} {a : Addr} {xs : List V} (k : KpS H H') (h : SqT K H a xs) : SqT K H' a xs := by
  rcases h with (h | ⟨o, h⟩) | h
  · exact .inl (.inl (k _ _ h (fun _ z => by cases z) (fun _ _ _ z => by cases z)))
  · exact .inl (.inr ⟨o, k _ _ h (fun _ z => by cases z) (fun _ _ _ z => by cases z)⟩)
  · exact .inr h
mutual
theorem dp_kp {K : PySem.W.Frag} {H H' : Hp} (k : KpS H H') : ∀ (d : PyData) {v : V}, noL d = true → Dp K H v d → Dp K H' v d
  | .none, _, _, .non => .non
  | .bool b, _, _, .bl _ => .bl b
  | .int i, _, _, .int _ => .int i
  | .str x, _, _, .str _ => .str x
  | .list ds, _, h, _ => by cases h
  | .tuple ds, _, h, .tup q hs => .tup (sqT_kp k q) (dpAll_kp k ds h hs)
  | .dict _, _, h, _ => by cases h
theorem dpAll_kp {K : PySem.W.Frag} {H H' : Hp} (k : KpS H H') : ∀ (ds : List PyData) {vs : List V}, noLs ds = true → DpAll K H vs ds → DpAll K H' vs ds
  | [], _, _, .nil => .nil
  | d :: ds, _, h, .cons q hs => by
    unfold noLs at h
    rw [Bool.and_eq_true] at h
    exact .cons (dp_kp k d h.1 q) (dpAll_kp k ds h.2 hs)
end
end RS
set_option Elab.async false
set_option maxRecDepth 100000
set_option maxHeartbeats 4000000
namespace RS
open PySem PySem.Spec PyProof.Rows L2 GX HQ
abbrev Pr := Nat × List PyData
/-! ### the room of an Exchange as it lies in the heap -/
def fldsX (vo : V) (G W : Addr) (vl : V) : List (Str × V) := [("order", vo), ("going", .ref G), ("waiting", .ref W), ("last", vl)]
theorem xog : ¬ (("order" : Str) = "going") := by decide +kernel
theorem xow : ¬ (("order" : Str) = "waiting") := by decide +kernel
theorem xol : ¬ (("order" : Str) = "last") := by decide +kernel
theorem xgo : ¬ (("going" : Str) = "order") := by decide +kernel
theorem xgw : ¬ (("going" : Str) = "waiting") := by decide +kernel
theorem xgl : ¬ (("going" : Str) = "last") := by decide +kernel
theorem xwo : ¬ (("waiting" : Str) = "order") := by decide +kernel
theorem xwg : ¬ (("waiting" : Str) = "going") := by decide +kernel
theorem xwl : ¬ (("waiting" : Str) = "last") := by decide +kernel
theorem xlo : ¬ (("last" : Str) = "order") := by decide +kernel
theorem xlg : ¬ (("last" : Str) = "going") := by decide +kernel
theorem xlw : ¬ (("last" : Str) = "waiting") := by decide +kernel
section
variable {vo vl v : V} {G W G' : Addr}
theorem fx_order : (fldsX vo G W vl).lookup ("order" : Str) = some vo := lk_eq
theorem fx_going : (fldsX vo G W vl).lookup ("going" : Str) = some (.ref G) := (lk_ne xgo).trans lk_eq
theorem fx_waiting : (fldsX vo G W vl).lookup ("waiting" : Str) = some (.ref W) := (lk_ne xwo).trans ((lk_ne xwg).trans lk_eq)
theorem fx_last : (fldsX vo G W vl).lookup ("last" : Str) = some vl := (lk_ne xlo).trans ((lk_ne xlg).trans ((lk_ne xlw).trans lk_eq))
theorem fp_going : putF "going" (.ref G') (fldsX vo G W vl) = fldsX vo G' W vl := by
  unfold fldsX
  rw [putF_ne xog, putF_eq]
theorem fp_waiting : putF "waiting" (.ref G') (fldsX vo G W vl) = fldsX vo G G' vl := by
  unfold fldsX
  rw [putF_ne xow, putF_ne xgw, putF_eq]
theorem fp_last : putF "last" v (fldsX vo G W vl) = fldsX vo G W v := by
  unfold fldsX
  rw [putF_ne xol, putF_ne xgl, putF_ne xwl, putF_eq]
end
theorem lenF1 {f : Str} {v : V} {fs : List (Str × V)} {n : Nat} (h : fs.length ≤ n) : (putF f v fs).length ≤ n + 1 := Nat.le_trans (length_putF f v fs) (Nat.succ_le_succ h)
theorem lenF {f : Str} {v : V} {fs : List (Str × V)} {n : Nat} (h : fs.length ≤ n) (hn : n + 1 < 1000) : (putF f v fs).length < 1000 := Nat.lt_of_le_of_lt (lenF1 h) hn
/-- a list of items -/
structure LstI (K : PySem.W.Frag) (os : List (Nat × Bool)) (H : Hp) (G : Addr) (zs : List Z) (gq : List Pr) : Prop where
  g : H G = some (.lst (zs.map (·.1)))
  gd : zs.map (·.2) = gq.map (itemD os)
  zd : ∀ z ∈ zs, Dp K H z.1 z.2
def LastV (K : PySem.W.Frag) (os : List (Nat × Bool)) (H : Hp) (vl : V) (lq : Option Pr) : Prop := (vl = .non ∧ lq = none) ∨ ∃ l a, lq = some l ∧ vl = .ref a ∧ SqT K H a ((rankOf os l).map V.int)
structure ExAt (K : PySem.W.Frag) (C : Addr) (ks : List Bool) (os : List (Nat × Bool)) (H0 H : Hp) (x G W : Addr) (gq ww : List Pr) (lq : Option Pr) : Prop where
  same : Same H0 H
  x0 : H0 x = none
  g0 : H0 G = none
  w0 : H0 W = none
  gw : G ≠ W
  oz : os.length ≤ 1000
  ob : ∃ dx vo vl, H x = some (.ins C dx (fldsX vo G W vl)) ∧ Dp K H0 vo (orderD os) ∧ LastV K os H vl lq
  g : ∃ zs : List Z, LstI K os H G zs gq ∧ From ltz zs.length (nth zs) 0
  w : ∃ zs : List Z, LstI K os H W zs ww
  gok : RowsOk os ks gq
  wok : RowsOk os ks ww
/-- all but x, G and W stays -/
def Frx (H H' : Hp) (x G W : Addr) : Prop := ∀ b o, H b = some o → b ≠ x → b ≠ G → b ≠ W → H' b = some o
section
variable {K : PySem.W.Frag} {C : Addr} {ks : List Bool} {os : List (Nat × Bool)} {H0 H H2 : Hp} {x G W : Addr} {zs : List Z} {gq ww : List Pr} {lq : Option Pr} {vl : V}
theorem Frx.refl : Frx H H x G W := fun _ _ e _ _ _ => e
theorem Frx.trans {H1 : Hp} (a : Frx H H1 x G W) (b : Frx H1 H2 x G W) : Frx H H2 x G W := fun c o e n1 n2 n3 => b c o (a c o e n1 n2 n3) n1 n2 n3
theorem Frx.of (s : Same H H2) : Frx H H2 x G W := fun c o e _ _ _ => s c o e
theorem Frx.updG {o : HO} : Frx H (upd H G o) x G W := fun c o e _ n _ => (upd_ne n).trans e
theorem Frx.updW {o : HO} : Frx H (upd H W o) x G W := fun c o e _ _ n => (upd_ne n).trans e
theorem Frx.updx {o : HO} : Frx H (upd H x o) x G W := fun c o e n _ _ => (upd_ne n).trans e
theorem LstI.len (h : LstI K os H G zs gq) : zs.length = gq.length := by
  have := congrArg List.length h.gd
  simpa using this
theorem LstI.zq (h : LstI K os H G zs gq) {z : Z} (hz : z ∈ zs) : ∃ q ∈ gq, z.2 = itemD os q := zmem h.gd hz
theorem LstI.move (h : LstI K os H G zs gq) (ok : RowsOk os ks gq) (k : KpS H H2) (e : H2 G = some (.lst (zs.map (·.1)))) : LstI K os H2 G zs gq := ⟨e, h.gd, fun z hz => by
  obtain ⟨q, hq, e'⟩ := h.zq hz
  exact dp_kp k _ (by rw [e']; exact item_noL (ok q hq).2) (h.zd z hz)⟩
theorem LstI.good (h : LstI K os H G zs gq) (ok : RowsOk os ks gq) : HQ.Good K H G zs := good_of h.g h.gd h.zd fun q hq => (ok q hq).2
theorem LstI.put (h : LstI K os H G zs gq) {u : V} {q : Pr} (hu : Dp K H u (itemD os q)) (ok : RowsOk os ks gq) (hq : isRow ks (.tuple q.2) = true) : LstI K os (upd H G (.lst ((zs ++ [(u, itemD os q)]).map (·.1)))) G (zs ++ [(u, itemD os q)]) (gq ++ [q]) := by
  refine ⟨upd_same, by rw [List.map_append, h.gd, List.map_append]; rfl, fun z hz => ?_⟩
  rcases List.mem_append.mp hz with hz | hz
  · obtain ⟨q', hq', e⟩ := h.zq hz
    exact dp_upd h.g _ (by rw [e]; exact item_noL (ok q' hq').2) (h.zd z hz)
  · rw [List.mem_singleton.mp hz]
    exact dp_upd h.g _ (item_noL hq) hu
theorem LastV.move (h : LastV K os H vl lq) (k : KpS H H2) : LastV K os H2 vl lq := by
  rcases h with h | ⟨l, a, e1, e2, h⟩
  · exact .inl h
  · exact .inr ⟨l, a, e1, e2, sqT_kp k h⟩
theorem ExAt.kp (h : ExAt K C ks os H0 H x G W gq ww lq) (f : Frx H H2 x G W) : KpS H H2 := fun b o e n1 n2 => by
  obtain ⟨dx, vo, vl, hx, _⟩ := h.ob
  obtain ⟨zs, hg, _⟩ := h.g
  obtain ⟨zw, hw⟩ := h.w
  exact f b o e (fun z => by rw [z, hx] at e; exact n2 _ _ _ (Option.some.inj e).symm) (fun z => by rw [z, hg.g] at e; exact n1 _ (Option.some.inj e).symm) (fun z => by rw [z, hw.g] at e; exact n1 _ (Option.some.inj e).symm)
theorem ExAt.same2 (h : ExAt K C ks os H0 H x G W gq ww lq) (f : Frx H H2 x G W) : Same H0 H2 := fun b o e => f b o (h.same b o e) (ne_of_none e h.x0) (ne_of_none e h.g0) (ne_of_none e h.w0)
/-- other things come or change -/
theorem ExAt.grow (h : ExAt K C ks os H0 H x G W gq ww lq) (s : Same H H2) : ExAt K C ks os H0 H2 x G W gq ww lq := by
  obtain ⟨dx, vo, vl, hx, ho, hl⟩ := h.ob
  obtain ⟨zs, hg, F⟩ := h.g
  obtain ⟨zw, hw⟩ := h.w
  exact ⟨h.same.trans s, h.x0, h.g0, h.w0, h.gw, h.oz, ⟨dx, vo, vl, s _ _ hx, ho, hl.move (.of s)⟩, ⟨zs, hg.move h.gok (.of s) (s _ _ hg.g), F⟩, ⟨zw, hw.move h.wok (.of s) (s _ _ hw.g)⟩, h.gok, h.wok⟩
theorem ExAt.nex (h : ExAt K C ks os H0 H x G W gq ww lq) {a : Addr} {xs : List V} (e : H a = some (.lst xs)) : a ≠ x := fun z => by
  obtain ⟨dx, vo, vl, hx, _⟩ := h.ob
  rw [z, hx] at e
  cases e
theorem ExAt.upd_ (h : ExAt K C ks os H0 H x G W gq ww lq) {a : Addr} {xs u : List V} (e : H a = some (.lst xs)) (h0 : H0 a = none) (nG : a ≠ G) (nW : a ≠ W) : ExAt K C ks os H0 (upd H a (.lst u)) x G W gq ww lq := by
  obtain ⟨dx, vo, vl, hx, ho, hl⟩ := h.ob
  obtain ⟨zs, hg, F⟩ := h.g
  obtain ⟨zw, hw⟩ := h.w
  have k : KpS H (upd H a (.lst u)) := .lst e
  exact ⟨fun b o q => (upd_ne (ne_of_none q h0)).trans (h.same b o q), h.x0, h.g0, h.w0, h.gw, h.oz, ⟨dx, vo, vl, (upd_ne (Ne.symm (h.nex e))).trans hx, ho, hl.move k⟩, ⟨zs, hg.move h.gok k ((upd_ne (Ne.symm nG)).trans hg.g), F⟩, ⟨zw, hw.move h.wok k ((upd_ne (Ne.symm nW)).trans hw.g)⟩, h.gok, h.wok⟩
/-- a new one -/
theorem ExAt.new {dx : Addr} {vo : V} (s : Same H0 H) (x0 : H0 x = none) (g0 : H0 G = none) (w0 : H0 W = none) (gw : G ≠ W) (oz : os.length ≤ 1000) (ho : Dp K H0 vo (orderD os)) (hx : H x = some (.ins C dx (fldsX vo G W .non))) (hg : H G = some (.lst [])) (hw : H W = some (.lst [])) :
    ExAt K C ks os H0 H x G W [] [] none :=
  ⟨s, x0, g0, w0, gw, oz, ⟨dx, vo, .non, hx, ho, .inl ⟨rfl, rfl⟩⟩, ⟨[], ⟨hg, rfl, fun _ h => nomatch h⟩, .few (by decide)⟩, ⟨[], hw, rfl, fun _ h => nomatch h⟩, (fun _ h => nomatch h), (fun _ h => nomatch h)⟩
end
/-! ### the promises -/
def spXInit (C : Addr) : Sp := fun vs H Q _ => ∃ (x dx : Addr) (vo : V), vs = [.ref x, vo] ∧ H x = some (.ins C dx []) ∧
  ∀ (H' : Hp) (G W : Addr), H G = none → H W = none → G ≠ W → H' x = some (.ins C dx (fldsX vo G W .non)) → H' G = some (.lst []) → H' W = some (.lst []) → (∀ b o, H b = some o → b ≠ x → H' b = some o) → Q .non H'
def Into (lt : Pr → Pr → Bool) (lq : Option Pr) (q : Pr) (gq ww gq' ww' : List Pr) : Prop :=
  (∃ l, lq = some l ∧ lt q l = true ∧ gq' = gq ∧ ww' = ww ++ [q]) ∨ ((∀ l, lq = some l → lt q l = false) ∧ gq'.Perm (q :: gq) ∧ ww' = ww)
def spLetIn (K : PySem.W.Frag) (C : Addr) : Sp := fun vs H Q _ => ∃ (x G W : Addr) (vt : V) (ks : List Bool) (os : List (Nat × Bool)) (H0 : Hp) (gq ww : List Pr) (lq : Option Pr) (q : Pr), vs = [.ref x, vt] ∧ ExAt K C ks os H0 H x G W gq ww lq ∧ Dp K H vt (pairD q) ∧ Fits os q.2 ∧ isRow ks (.tuple q.2) = true ∧ gq.length + ww.length ≤ 900 ∧
  ∀ (H' : Hp) (gq' ww' : List Pr), ExAt K C ks os H0 H' x G W gq' ww' lq → Into (before os) lq q gq ww gq' ww' → Frx H H' x G W → Q .non H'
def spLetOut (K : PySem.W.Frag) (C : Addr) : Sp := fun vs H Q _ => ∃ (x G W : Addr) (ks : List Bool) (os : List (Nat × Bool)) (H0 : Hp) (gq ww : List Pr) (lq : Option Pr), vs = [.ref x] ∧ ExAt K C ks os H0 H x G W gq ww lq ∧ gq ≠ [] ∧
  ∀ (H' : Hp) (v : V) (q : Pr) (gq' : List Pr), ExAt K C ks os H0 H' x G W gq' ww (some q) → gq.Perm (q :: gq') → (∀ y ∈ gq', before os y q = false) → Dp K H' v (pairD q) → Frx H H' x G W → Q v H'
def spIsOver (K : PySem.W.Frag) (C : Addr) : Sp := fun vs H Q _ => ∃ (x G W : Addr) (ks : List Bool) (os : List (Nat × Bool)) (H0 : Hp) (gq ww : List Pr) (lq : Option Pr), vs = [.ref x] ∧ ExAt K C ks os H0 H x G W gq ww lq ∧ Q (.bl gq.isEmpty) H
def spHolds (K : PySem.W.Frag) (C : Addr) : Sp := fun vs H Q _ => ∃ (x G W : Addr) (ks : List Bool) (os : List (Nat × Bool)) (H0 : Hp) (gq ww : List Pr) (lq : Option Pr), vs = [.ref x] ∧ ExAt K C ks os H0 H x G W gq ww lq ∧ Q (.int ((gq.length + ww.length : Nat) : Int)) H
def spNext (K : PySem.W.Frag) (C : Addr) : Sp := fun vs H Q _ => ∃ (x G W : Addr) (ks : List Bool) (os : List (Nat × Bool)) (H0 : Hp) (gq ww : List Pr) (lq : Option Pr), vs = [.ref x] ∧ ExAt K C ks os H0 H x G W gq ww lq ∧ ww.length ≤ 1000 ∧
  ∀ (H' : Hp) (W' : Addr) (gq' : List Pr), ExAt K C ks os H0 H' x W W' gq' [] none → gq'.Perm ww → H W' = none → Frx H H' x G W → Q .non H'
/-- the class as the top has made it -/
structure TxX (K : PySem.W.Frag) (C : Addr) : Prop where
  cl : Cls K C
  nO : NoAttr K C "order"
  nG : NoAttr K C "going"
  nW : NoAttr K C "waiting"
  nL : NoAttr K C "last"
/-- a method as it stands -/
structure MethAt (K : PySem.W.Frag) (C : Addr) (m qual : Str) (st : Stmt) (f : Addr) (fd : FuncData) : Prop where
  me : Meth K C m f
  fn : L2.Fun K m qual st f fd
theorem dpAll_take' {K : PySem.W.Frag} {H : Hp} {xs : List V} {ds : List (Nat × List PyData)} (h : DpAll K H xs (ds.map pairD)) (n : Nat) : DpAll K H (xs.take n) ((ds.take n).map pairD) := by
  rw [List.map_take]
  exact dpAll_take h n
theorem dpAll_drop' {K : PySem.W.Frag} {H : Hp} {xs : List V} {ds : List (Nat × List PyData)} (h : DpAll K H xs (ds.map pairD)) (n : Nat) : DpAll K H (xs.drop n) ((ds.drop n).map pairD) := by
  rw [List.map_drop]
  exact dpAll_drop h n
theorem row_fits {ks : List Bool} {os : List (Nat × Bool)} {r : List PyData} (h : isRow ks (.tuple r) = true) (o : OkOrder ks.length os) : Fits os r := fun p hp => by
  obtain ⟨hl, ha⟩ := isRow_iff.mp h
  have h1 := o.col p hp
  have h2 : p.1 < r.length := by omega
  obtain ⟨b, hv⟩ := row_val h (List.getElem_mem h2)
  exact ⟨b, _, List.getElem?_eq_getElem h2, hv⟩
theorem enumP_mem {α : Type} {l : List α} {k : Nat} {q : Nat × α} (h : q ∈ enumP k l) : q.2 ∈ l := by
  obtain ⟨i, hi, e⟩ := List.getElem_of_mem h
  have e2 : (enumP k l)[i]? = some q := by rw [List.getElem?_eq_getElem hi, e]
  rw [enumP_get] at e2
  cases q' : l[i]? with
  | none => rw [q'] at e2; cases e2
  | some x =>
    rw [q'] at e2
    cases e2
    exact List.mem_of_getElem? q'
end RS
set_option Elab.async false
set_option maxRecDepth 100000
set_option maxHeartbeats 4000000
namespace RS
open PySem PySem.Spec PyProof.Rows L2 GX
/-- a new object in a heap that differs by the drawer -/
theorem al {B L e : Addr} {H H1 : Hp} {o : HO} (s : SameX B L H H1) (hb : BoxAt H B L) (b : BoxAt H1 B L) (he : H1 e = none) : SameX B L H (upd H1 e o) ∧ BoxAt (upd H1 e o) B L ∧ e ≠ B ∧ e ≠ L := by
  obtain ⟨n1, n2⟩ := b.nb he
  exact ⟨s.new (s.free hb he b), b.upd_ n1 n2, n1, n2⟩
theorem joinL_nil : ∀ ps : List (List Nat), TL.joinL [] ps = ps.flatten
  | [] => rfl
  | [p] => by simp [TL.joinL]
  | p :: q :: r => by
    show p ++ ([] ++ TL.joinL [] (q :: r)) = _
    rw [joinL_nil (q :: r), List.nil_append, List.flatten_cons, List.flatten_cons, List.flatten_cons]
def oneS (c : Nat) : Str := ⟨#[c]⟩
theorem flat_one : ∀ cs : List Nat, (cs.map (TL.tl ∘ oneS)).flatten = cs
  | [] => rfl
  | c :: cs => by
    rw [List.map_cons, List.flatten_cons, flat_one cs]
    rfl
theorem join_signs (cs : List Nat) : (Txt.join (Str.ofString "") (cs.map oneS)).cps.toList = cs := by
  have e := TL.tl_join (Str.ofString "") (cs.map oneS)
  rw [← TL.join_eq] at e
  have e2 : TL.tl (Str.ofString "") = [] := by decide +kernel
  rw [e2, joinL_nil, List.map_map, flat_one] at e
  exact e
theorem sum_ones : ∀ cs : List Nat, ((cs.map oneS).map (·.length)).sum = cs.length
  | [] => rfl
  | c :: cs => by
    rw [List.map_cons, List.map_cons, List.sum_cons, sum_ones cs]
    show 1 + cs.length = cs.length + 1
    omega
section
variable {P : Program} {w : World} {K : PySem.W.Frag} {mg : Str → Option Value} {base : Heap}
theorem scValue : FnScope ["_law_box", "_law_kind", "_law_many", "_law_letters", "_law_k"] ["_law_box", "_law_kind"] (defScope sValue) := ⟨rfl, rfl, rfl, by decide +kernel, rfl, by decide +kernel, by decide +kernel⟩
def spValueL (K : PySem.W.Frag) : Sp := fun vs H Q _ => ∃ (B L : Addr) (b : Bool), vs = [.ref B, .str (kindS b)] ∧ BoxAt H B L ∧
  ∀ (H' : Hp) (v : V) (d : PyData), SameX B L H H' → BoxAt H' B L → isVal b d = true → Dp K H' v d → Q v H'
theorem letters_ok {k : Int} (h0 : 0 ≤ k) (h1 : k < 2) : ∃ z : Str, atI [V.str "abz", V.str "abcdefghijklmnopqrstuvwxyz"] k = some (.str z) ∧ 1 ≤ z.length ∧ z.length ≤ 26 ∧ ∀ c ∈ z.cps.toList, signOk c = true := by
  rcases (by omega : k = 0 ∨ k = 1) with e | e
  · subst e
    exact ⟨_, atI_nat (j := 0) rfl, by decide +kernel, by decide +kernel, by decide +kernel⟩
  · subst e
    exact ⟨_, atI_nat (j := 1) rfl, by decide +kernel, by decide +kernel, by decide +kernel⟩
theorem num_isVal {n : Int} (h1 : -999 ≤ n) (h2 : n ≤ 999) : isVal false (.int n) = true := by
  simp [isVal, isNum, inBand, isI, isT, tyN, h1, h2]
theorem word_isVal {x : Str} (h : x.length ≤ 6) (ok : ∀ c ∈ x.cps.toList, signOk c = true) : isVal true (.str x) = true := by
  show (decide ((x.length : Int) ≤ 6) && x.cps.toList.all signOk) = true
  rw [Bool.and_eq_true]
  exact ⟨decide_eq_true (by omega), List.all_eq_true.mpr ok⟩
theorem value_ok {c : Addr} (D : DefAt K mg "_law_value" sValue c) (T : Txt K mg) (cT : Cal P w K mg base CX0 1 "_law_take" ["_law_box", "_law_many"] spTake) : Cal P w K mg base CX0 2 "_law_value" ["_law_box", "_law_kind"] (spValueL K) := by
  have sc := scValue
  refine def_ok0 D sc (fun vs H Q E h => ?_) (fun _ _ _ _ _ _ us hl => match us, hl with | [_, _], _ => rfl) (fun f A outer s H vs Q E hr h => ?_)
  · obtain ⟨B, L, b, rfl, _⟩ := h
    rfl
  · obtain ⟨B, L, b, rfl, hb, k⟩ := h
    refine ⟨_, (pss_cons (ps_if (pt_cmpR op_eq (pv 1) pe_str (nomark _)) (pss_one (ps_ret (pe_ix ix_list (pe_lst (pa_cons (pe_c cT hr (by decide) (by rfl) pass0 (pa_cons (pv 0) (pa_cons pe_int pa_nil))) (pa_cons (pe_op op_sub (pe_c cT hr (by decide) (by rfl) pass0 (pa_cons (pv 0) (pa_cons pe_int pa_nil))) pe_int) (pa_cons (pe_ix ix_list (pe_lst (pa_cons (pe_un un_neg pe_int) (pa_cons pe_int (pa_cons pe_int pa_nil)))) (pe_c cT hr (by decide) (by rfl) pass0 (pa_cons (pv 0) (pa_cons pe_int pa_nil))) (fun _ _ => rfl)) pa_nil)))) (pe_c cT hr (by decide) (by rfl) pass0 (pa_cons (pv 0) (pa_cons pe_int pa_nil))) (fun _ _ => rfl)))) pss_nil) (pss_cons (ps_set (i := 2) sc.nd rfl (Or.inl rfl) (pe_c cT hr (by decide) (by rfl) pass0 (pa_cons (pv 0) (pa_cons (pe_ix ix_list (pe_lst (pa_cons pe_int (pa_cons pe_int pa_nil))) (pe_c cT hr (by decide) (by rfl) pass0 (pa_cons (pv 0) (pa_cons pe_int pa_nil))) (fun _ _ => rfl)) pa_nil)))) (pss_cons (ps_set (i := 3) sc.nd rfl (Or.inr rfl) (pe_ix ix_list (pe_lst (pa_cons pe_str (pa_cons pe_str pa_nil))) (pe_c cT hr (by decide) (by rfl) pass0 (pa_cons (pv 0) (pa_cons pe_int pa_nil))) (fun _ _ => rfl))) (pss_one (ps_ret (pe_bm PySem.F.plainAttrs_str PySem.F.slot_str_join PySem.F.type_str_join mt_join pe_str (pa_cons (pe_lc (own := [("_law_k", 4)]) (tt := tYes)  rfl sc.nd (pi_range1 (by rfl) T.range (pa_cons (pv 2) pa_nil)) (blkOk_by (N := ["_law_box", "_law_kind", "_law_many", "_law_letters", "_law_k"]) (sc := defScope sValue) (own := [("_law_k", 4)]) (by decide +kernel)) (fun _ _ _ _ _ => (pg_name (i := 4) sc.nd rfl (Or.inl rfl))) (fun _ _ _ _ _ => pts_nil) (fun _ _ _ _ _ => pe_ix ix_str (pv 3) (pe_c cT hr (by decide) (by rfl) pass0 (pa_cons (pv 0) (pa_cons (pe_callB call_len_str (by rfl) T.len PySem.boot_len (pa_cons (pv 3) pa_nil)) pa_nil))) (fun _ _ => rfl))) pa_nil))))))), ?_⟩
    refine ⟨_, rfl, rfl, _, rfl, ?_⟩
    have ek : decide (V.str (kindS b) = V.str "number") = !b := by cases b <;> decide +kernel
    rw [ek]
    cases b with
    | false =>
      refine iteT ⟨_, rfl, B, L, 4, rfl, hb, by decide, by decide, fun H1 n1 s1 b1 a0 a1 => ?_⟩
      refine ⟨_, rfl, B, L, 1999, rfl, b1, by decide, by decide, fun H2 n2 s2 b2 c0 c1 => ?_⟩
      refine ⟨_, _, rfl, rfl, _, rfl, by show 3 ≤ sizeLine; decide, fun e1 he1 => ?_⟩
      have s12 := s1.trans s2
      obtain ⟨s3, b3, ne1, ne2⟩ := al (o := .lst [.int (-999), .int 999, .int 0]) s12 hb b2 he1
      refine ⟨_, rfl, B, L, 3, rfl, b3, by decide, by decide, fun H3 n3 s4 b4 d0 d1 => ?_⟩
      obtain ⟨w3, hw3, lo3, hi3⟩ : ∃ w3 : Int, atI [V.int (-999), V.int 999, V.int 0] n3 = some (.int w3) ∧ -999 ≤ w3 ∧ w3 ≤ 999 := by
        rcases (by omega : n3 = 0 ∨ n3 = 1 ∨ n3 = 2) with e | e | e
        · subst e; exact ⟨_, atI_nat (j := 0) rfl, by decide, by decide⟩
        · subst e; exact ⟨_, atI_nat (j := 1) rfl, by decide, by decide⟩
        · subst e; exact ⟨_, atI_nat (j := 2) rfl, by decide, by decide⟩
      refine ⟨e1, _, n3, _, rfl, rfl, SqL.of (s4 _ _ ne1 ne2 upd_same), hw3, by show 3 ≤ sizeLine; decide, fun e2 he2 => ?_⟩
      obtain ⟨s5, b5, me1, me2⟩ := al (o := .lst [.int n1, .int (n2 - 999), .int w3]) (s3.trans s4) hb b4 he2
      refine ⟨_, rfl, B, L, 3, rfl, b5, by decide, by decide, fun H4 n4 s6 b6 f0 f1 => ?_⟩
      obtain ⟨w4, hw4, lo4, hi4⟩ : ∃ w4 : Int, atI [V.int n1, V.int (n2 - 999), V.int w3] n4 = some (.int w4) ∧ -999 ≤ w4 ∧ w4 ≤ 999 := by
        rcases (by omega : n4 = 0 ∨ n4 = 1 ∨ n4 = 2) with e | e | e
        · subst e; exact ⟨_, atI_nat (j := 0) rfl, by omega, by omega⟩
        · subst e; exact ⟨_, atI_nat (j := 1) rfl, by omega, by omega⟩
        · subst e; exact ⟨_, atI_nat (j := 2) rfl, by omega, by omega⟩
      exact ⟨e2, _, n4, _, rfl, rfl, SqL.of (s6 _ _ me1 me2 upd_same), hw4, k _ _ (.int w4) (s5.trans s6) b6 (num_isVal lo4 hi4) (.int w4)⟩
    | true =>
      refine iteF ⟨_, rfl, by show 2 ≤ sizeLine; decide, fun e1 he1 => ?_⟩
      obtain ⟨s1, b1, ne1, ne2⟩ := al (o := .lst [.int 3, .int 7]) SameX.refl hb hb he1
      refine ⟨_, rfl, B, L, 2, rfl, b1, by decide, by decide, fun H1 n1 s2 b2 a0 a1 => ?_⟩
      obtain ⟨w1, hw1, lo1, hi1⟩ : ∃ w1 : Int, atI [V.int 3, V.int 7] n1 = some (.int w1) ∧ 1 ≤ w1 ∧ w1 ≤ 7 := by
        rcases (by omega : n1 = 0 ∨ n1 = 1) with e | e
        · subst e; exact ⟨_, atI_nat (j := 0) rfl, by decide, by decide⟩
        · subst e; exact ⟨_, atI_nat (j := 1) rfl, by decide, by decide⟩
      refine ⟨e1, _, n1, _, rfl, rfl, SqL.of (s2 _ _ ne1 ne2 upd_same), hw1, B, L, w1, rfl, b2, by omega, by omega, fun H2 n2 s3 b3 c0 c1 => ?_⟩
      have sA := (s1.trans s2).trans s3
      refine ⟨by show 2 ≤ sizeLine; decide, fun e2 he2 => ?_⟩
      obtain ⟨s4, b4, me1, me2⟩ := al (o := .lst [.str "abz", .str "abcdefghijklmnopqrstuvwxyz"]) sA hb b3 he2
      refine ⟨_, rfl, B, L, 2, rfl, b4, by decide, by decide, fun H3 n3 s5 b5 d0 d1 => ?_⟩
      obtain ⟨z, hz, z1, z26, zok⟩ := letters_ok d0 d1
      have big : (26 : Nat) ≤ sizeLine := by decide
      refine ⟨e2, _, n3, _, rfl, rfl, SqL.of (s5 _ _ me1 me2 upd_same), hz, ?_⟩
      have sB := s4.trans s5
      refine ⟨rfl, _, rfl, _, rfl, by omega, by omega, fun DD hD => ?_⟩
      obtain ⟨s6, b6, nDB, nDL⟩ := al (o := .lst []) sB hb b5 hD
      have hD0 := sB.free hb hD b5
      refine lc_range (fun i H' => SameX B L H H' ∧ BoxAt H' B L ∧ ∃ cs : List Nat, cs.length = i ∧ (∀ c ∈ cs, signOk c = true) ∧ H' DD = some (.lst (cs.map fun c => V.str (oneS c)))) ⟨s6, b6, [], rfl, (fun _ h => nomatch h), upd_same⟩ ?_ ?_
      · rintro i H4 hi ⟨s7, b7, cs, lc, okc, hl⟩
        refine ⟨rfl, _, rfl, _, rfl, _, rfl, z, rfl, by omega, B, L, _, rfl, b7, by omega, by omega, fun H5 n5 s8 b8 f0 f1 => ?_⟩
        obtain ⟨kn, rfl⟩ : ∃ kn : Nat, n5 = (kn : Int) := ⟨n5.toNat, by omega⟩
        have hkn : kn < z.cps.toList.length := by rw [len_cps]; omega
        refine ⟨z, _, z.cps.toList[kn], rfl, rfl, by omega, atI_nat (List.getElem?_eq_getElem hkn), ?_⟩
        refine ⟨_, s8 _ _ nDB nDL hl, small1000 (by rw [List.length_map]; omega), (s7.trans s8).new hD0, b8.upd_ nDB nDL, cs ++ [z.cps.toList[kn]], by rw [List.length_append, lc]; rfl, fun c hc => ?_, ?_⟩
        · rcases List.mem_append.mp hc with hc | hc
          · exact okc c hc
          · rw [List.mem_singleton.mp hc]
            exact zok _ (List.getElem_mem hkn)
        · rw [upd_same, List.map_append]
          rfl
      · rintro H4 ⟨s7, b7, cs, lc, okc, hl⟩
        have js := join_signs cs
        refine ⟨_, DD, cs.map oneS, rfl, rfl, .inl (SqL.of (by rw [List.map_map]; exact hl)), ?_, ?_⟩
        · rw [sum_ones, List.length_map]
          have e0 : (Str.ofString "").length = 0 := by decide +kernel
          show cs.length + cs.length * (Str.ofString "").length ≤ 16777216
          rw [e0]
          omega
        · refine k _ _ (.str _) s7 b7 (word_isVal ?_ ?_) (.str _)
          · rw [← len_cps, js]
            omega
          · rw [js]
            exact okc
end
end RS
set_option Elab.async false
set_option maxRecDepth 100000
set_option maxHeartbeats 4000000
namespace RS
open PySem PySem.Spec PyProof.Rows L2 GX
section
variable {P : Program} {w : World} {K : PySem.W.Frag} {mg : Str → Option Value} {base : Heap}
def Vals1 (ks : List Bool) (r : List PyData) : Prop := ∀ (j : Nat) (d : PyData), r[j]? = some d → ∃ b, ks[j]? = some b ∧ isVal b d = true
theorem isRow_get {ks : List Bool} {r : List PyData} : isRow ks (.tuple r) = true ↔ r.length = ks.length ∧ Vals1 ks r := by
  rw [isRow_iff]
  constructor
  · rintro ⟨hl, ha⟩
    refine ⟨hl, fun j d hj => ?_⟩
    have h1 := (List.getElem?_eq_some_iff.mp hj).1
    have h2 : j < ks.length := by omega
    refine ⟨ks[j], List.getElem?_eq_getElem h2, List.all_eq_true.mp ha (ks[j], d) ?_⟩
    rw [List.mem_iff_getElem]
    refine ⟨j, by rw [List.length_zip]; omega, ?_⟩
    rw [List.getElem_zip, (List.getElem?_eq_some_iff.mp hj).2]
  · rintro ⟨hl, ha⟩
    refine ⟨hl, List.all_eq_true.mpr fun p hp => ?_⟩
    obtain ⟨j, hj, e⟩ := List.getElem_of_mem hp
    rw [List.length_zip] at hj
    rw [List.getElem_zip] at e
    obtain ⟨b, h1, h2⟩ := ha j r[j] (List.getElem?_eq_getElem (by omega))
    rw [List.getElem?_eq_getElem (by omega)] at h1
    cases h1
    rw [← e]
    exact h2
theorem vals_noL {ks : List Bool} {r : List PyData} (h : Vals1 ks r) : noLs r = true := noLs_iff.mpr fun d hd => by
  obtain ⟨j, hj, e⟩ := List.getElem_of_mem hd
  obtain ⟨b, _, hv⟩ := h j d (by rw [List.getElem?_eq_getElem hj, e])
  rcases val_atom hv with ⟨_, x, rfl⟩ | ⟨_, n, rfl⟩ <;> rfl
theorem vals_snoc {ks : List Bool} {r : List PyData} {b : Bool} {d : PyData} (h : Vals1 ks r) (hb : ks[r.length]? = some b) (hv : isVal b d = true) : Vals1 ks (r ++ [d]) := fun j e hj => by
  by_cases hlt : j < r.length
  · rw [List.getElem?_append_left hlt] at hj
    exact h j e hj
  · have h1 := (List.getElem?_eq_some_iff.mp hj).1
    rw [List.length_append, List.length_singleton] at h1
    have e1 : j = r.length := by omega
    subst e1
    rw [List.getElem?_append_right (Nat.le_refl _), Nat.sub_self] at hj
    cases hj
    exact ⟨b, hb, hv⟩
theorem vals_set0 {ks : List Bool} {r : List PyData} {d : PyData} (h : Vals1 ks r) (hb : ks[0]? = some false) (hv : isVal false d = true) : Vals1 ks (r.set 0 d) := fun j e hj => by
  cases j with
  | zero =>
    cases r with
    | nil => cases hj
    | cons x r =>
      cases hj
      exact ⟨false, hb, hv⟩
  | succ j =>
    cases r with
    | nil => cases hj
    | cons x r => exact h (j + 1) e hj
theorem dpAll_set0 {K : PySem.W.Frag} {H : Hp} {xs : List V} {ds : List PyData} {v : V} {d : PyData} (h : DpAll K H xs ds) (hv : Dp K H v d) : DpAll K H (xs.set 0 v) (ds.set 0 d) := by
  cases h with
  | nil => exact .nil
  | cons _ t => exact .cons hv t
theorem rowsL_noL {ks : List Bool} {rs : List (List PyData)} (h : ∀ r ∈ rs, isRow ks (.tuple r) = true) : noLs (rs.map .tuple) = true := noLs_iff.mpr fun d hd => by
  obtain ⟨r, hr, rfl⟩ := List.mem_map.mp hd
  exact vals_noL (isRow_get.mp (h r hr)).2
theorem signOk_le {c : Nat} (h : signOk c = true) : c ≤ 122 := by
  unfold signOk at h
  rw [Bool.and_eq_true] at h
  have h2 : ¬ ([122] : List Nat) < [c] := by simpa using h.2
  by_cases q : c ≤ 122
  · exact q
  · exact absurd (List.cons_lt_cons_iff.mpr (.inl (by omega))) h2
theorem sign_strOk {x : Str} (h : isWord (.str x) = true) : PyData.strOk x = true := by
  have h' : (decide ((x.length : Int) ≤ 6) && x.cps.toList.all signOk) = true := h
  rw [Bool.and_eq_true] at h'
  unfold PyData.strOk
  rw [Array.all_eq_true']
  intro c hc
  have := signOk_le (List.all_eq_true.mp h'.2 c (Array.mem_toList_iff.mpr hc))
  exact decide_eq_true (by omega)
theorem val_shape {b : Bool} {d : PyData} (h : isVal b d = true) : d.canLay0 = true ∧ d.depth = 0 := by
  rcases val_atom h with ⟨e, x, rfl⟩ | ⟨e, n, rfl⟩
  · subst e
    exact ⟨by simp only [PyData.canLay0]; exact sign_strOk h, by simp [PyData.depth]⟩
  · exact ⟨by simp [PyData.canLay0], by simp [PyData.depth]⟩
theorem canLayAll {ds : List PyData} (h : ∀ d ∈ ds, d.canLay0 = true) : PyData.canLayAll0 ds = true := by
  induction ds with
  | nil => simp [PyData.canLayAll0]
  | cons d ds ih =>
    simp only [PyData.canLayAll0, Bool.and_eq_true]
    exact ⟨h d List.mem_cons_self, ih fun e he => h e (List.mem_cons_of_mem _ he)⟩
theorem depthLe {n : Nat} : ∀ {ds : List PyData}, (∀ d ∈ ds, d.depth ≤ n) → PyData.depthAll ds ≤ n
  | [], _ => by simp [PyData.depthAll]
  | d :: ds, h => by
    simp only [PyData.depthAll]
    have h1 := h d List.mem_cons_self
    have h2 := depthLe (ds := ds) fun e he => h e (List.mem_cons_of_mem _ he)
    omega
theorem row_shape {ks : List Bool} {r : List PyData} (h : isRow ks (.tuple r) = true) : (PyData.tuple r).canLay0 = true ∧ (PyData.tuple r).depth ≤ 1 := by
  refine ⟨?_, ?_⟩
  · simp only [PyData.canLay0]
    exact canLayAll fun d hd => by
      obtain ⟨b, hv⟩ := row_val h hd
      exact (val_shape hv).1
  · simp only [PyData.depth]
    have := depthLe (n := 0) (ds := r) fun d hd => by
      obtain ⟨b, hv⟩ := row_val h hd
      exact Nat.le_of_eq (val_shape hv).2
    omega
theorem rowsL_shaped {ks : List Bool} {rs : List (List PyData)} (h : ∀ r ∈ rs, isRow ks (.tuple r) = true) : SeqAt.shaped (.list (rs.map .tuple)) = true := by
  unfold SeqAt.shaped
  rw [Bool.and_eq_true]
  refine ⟨?_, decide_eq_true ?_⟩
  · simp only [PyData.canLay0]
    exact canLayAll fun d hd => by
      obtain ⟨r, hr, rfl⟩ := List.mem_map.mp hd
      exact (row_shape (h r hr)).1
  · simp only [PyData.depth]
    have := depthLe (n := 1) (ds := rs.map .tuple) fun d hd => by
      obtain ⟨r, hr, rfl⟩ := List.mem_map.mp hd
      exact (row_shape (h r hr)).2
    omega
theorem via {tc : TT} {ta tb : TS} {D : Ends} {σ : L2.St} {H : Hp} (N : L2.St → Hp → Prop) (h1 : ∀ nx : L2.St → Hp → Prop, (∀ σ' H', N σ' H' → nx σ' H') → tIfS tc ta tb { D with nx := nx } σ H) (h2 : ∀ σ' H', N σ' H' → D.nx σ' H') : tIfS tc ta tb D σ H := h1 D.nx h2
theorem viaS {tc : TT} {ta tb u : TS} {D : Ends} {σ : L2.St} {H : Hp} (N : L2.St → Hp → Prop) (h1 : ∀ nx : L2.St → Hp → Prop, (∀ σ' H', N σ' H' → nx σ' H') → tIfS tc ta tb { D with nx := nx } σ H) (h2 : ∀ σ' H', N σ' H' → u D σ' H') : tSeq (tIfS tc ta tb) u D σ H := h1 (u D) h2
theorem scRows : FnScope ["_law_box", "_law_kinds_here", "_law_most", "_law_found", "_law_way", "_law_turn", "_law_row", "_law_kind"] ["_law_box", "_law_kinds_here", "_law_most"] (defScope sRows) := ⟨rfl, rfl, rfl, by decide +kernel, rfl, by decide +kernel, by decide +kernel⟩
def spRows (K : PySem.W.Frag) : Sp := fun vs H Q _ => ∃ (B L : Addr) (vk : V) (ks : List Bool) (m : Int), vs = [.ref B, vk, .int m] ∧ BoxAt H B L ∧ Dp K H vk (kindsD ks) ∧ 1 ≤ ks.length ∧ ks.length ≤ 4 ∧ 0 ≤ m ∧ m ≤ 120 ∧
  ∀ (H' : Hp) (a : Addr) (rs : List (List PyData)) (xs : List V), SameX B L H H' → BoxAt H' B L → rs.length ≤ 120 → (∀ r ∈ rs, isRow ks (.tuple r) = true) → H a = none → H' a = some (.lst xs) → DpAll K H' xs (rs.map .tuple) → Q (.ref a) H'
theorem rows_ok {c : Addr} (D : DefAt K mg "_law_rows" sRows c) (T : Txt K mg) (cT : Cal P w K mg base CX0 1 "_law_take" ["_law_box", "_law_many"] spTake) (cV : Cal P w K mg base CX0 2 "_law_value" ["_law_box", "_law_kind"] (spValueL K)) :
    Cal P w K mg base CX0 3 "_law_rows" ["_law_box", "_law_kinds_here", "_law_most"] (spRows K) := by
  have sc := scRows
  refine def_ok0 D sc (fun vs H Q E h => ?_) (fun _ _ _ _ _ _ us hl => match us, hl with | [_, _, _], _ => rfl) (fun f A outer s H vs Q E hr h => ?_)
  · obtain ⟨B, L, vk, ks, m, rfl, _⟩ := h
    rfl
  · obtain ⟨B, L, vk, ks, m, rfl, hb, hk, k1, k4, m0, m1, k⟩ := h
    have hu := hr.units
    refine ⟨_, (pss_cons (ps_set (i := 3) sc.nd rfl (Or.inl rfl) (pe_lst pa_nil)) (pss_cons (ps_set (i := 4) sc.nd rfl (Or.inl rfl) (pe_c cT hr (by decide) (by rfl) pass0 (pa_cons (pv 0) (pa_cons pe_int pa_nil)))) (pss_cons (ps_for PassesOwn.never rfl (pi_range1 (by rfl) T.range (pa_cons (pe_c cT hr (by decide) (by rfl) pass0 (pa_cons (pv 0) (pa_cons (pe_op op_add (pv 2) pe_int) pa_nil))) pa_nil)) (pg_name (i := 5) sc.nd rfl (Or.inl rfl)) (pss_cons (ps_setLc (own := [("_law_kind", 7)]) (tt := tYes) rfl sc.nd (i := 6) rfl rfl (by rfl) (pi_tup (pv 1)) (blkOk_by (N := ["_law_box", "_law_kinds_here", "_law_most", "_law_found", "_law_way", "_law_turn", "_law_row", "_law_kind"]) (sc := defScope sRows) (own := [("_law_kind", 7)]) (by decide +kernel)) (fun _ _ _ _ _ => (pg_name (i := 7) sc.nd rfl (Or.inl rfl))) (fun _ _ _ _ _ => pts_nil) (fun _ _ _ _ _ => (pe_c cV hr (by decide) (by rfl) pass0 (pa_cons (pv 0) (pa_cons (pv 7) pa_nil))))) (pss_cons (ps_if ((pw_and (pt_cmpR (op_neD hu) (pv 3) (pe_lst pa_nil) (nomark _)) (pw_and1 (pt_cmpR op_eq (pe_c cT hr (by decide) (by rfl) pass0 (pa_cons (pv 0) (pa_cons pe_int pa_nil))) pe_int (nomark _)))).pt) (pss_one (ps_set (i := 6) sc.nd rfl (Or.inl rfl) (pe_callTy call_list_of (by rfl) T.list_ (by decide +kernel) (pa_cons (pe_ix ixD (pv 3) (pe_c cT hr (by decide) (by rfl) pass0 (pa_cons (pv 0) (pa_cons (pe_callB call_lenD (by rfl) T.len PySem.boot_len (pa_cons (pv 3) pa_nil)) pa_nil))) (fun _ _ => rfl)) pa_nil)))) pss_nil) (pss_cons (ps_if ((pw_and (pt_cmpR (op_neD hu) (pv 3) (pe_lst pa_nil) (nomark _)) (pw_and (pt_cmpR op_lt (pv 4) pe_int (nomark _)) (pw_and1 (pt_cmpR op_eq (pe_ix ix_tup (pv 1) pe_int (fun _ _ => rfl)) pe_str (nomark _))))).pt) (pss_one (ps_asg (pe_callB (call_max2 rfl) (by rfl) T.max boot_max (pa_cons (pe_un un_neg pe_int) (pa_cons (pe_callB (call_min2 rfl) (by rfl) T.min boot_min (pa_cons pe_int (pa_cons (pe_op op_add (pe_ix ixD (pe_ix ixD (pv 3) (pe_un un_neg pe_int) (fun _ _ => rfl)) pe_int (fun _ _ => rfl)) (pe_op op_mul (pe_ix ix_list (pe_lst (pa_cons pe_int (pa_cons (pe_un un_neg pe_int) pa_nil))) (pv 4) (fun _ _ => rfl)) (pe_c cT hr (by decide) (by rfl) pass0 (pa_cons (pv 0) (pa_cons pe_int pa_nil))))) pa_nil))) pa_nil))) (pg_sub (pv 6) pe_int set_list))) pss_nil) (pss_one (ps_expr (pe_bm PySem.F.plainAttrs_list PySem.F.slot_list_append PySem.F.type_list_append mt_append (pv 3) (pa_cons (pe_callTy call_tuple_of (by rfl) T.tuple_ (by decide +kernel) (pa_cons (pv 6) pa_nil)) pa_nil)))))))) (pss_one (ps_ret (pv 3)))))), ?_⟩
    refine ⟨Nat.zero_le _, fun Fd hFd => ?_⟩
    obtain ⟨s1, b1, nFB, nFL⟩ := al (o := .lst []) SameX.refl hb hb hFd
    refine ⟨_, rfl, B, L, 4, rfl, b1, by decide, by decide, fun H1 way s2 b2 w0 w1 => ?_⟩
    refine ⟨_, rfl, _, rfl, _, _, rfl, rfl, B, L, _, rfl, b2, by omega, by omega, fun H2 n s3 b3 n0 n1 => ?_⟩
    refine ⟨_, rfl, by omega, by omega, ?_⟩
    have sA := (s1.trans s2).trans s3
    have hF2 : H2 Fd = some (.lst []) := s3 _ _ nFB nFL (s2 _ _ nFB nFL upd_same)
    refine for_range (fun i σ H2 => ∃ (v5 v6 : Option V) (rs : List (List PyData)) (xs : List V), σ = [some (.ref B), some vk, some (.int m), some (.ref Fd), some (.int way), v5, v6, none] ∧ SameX B L H H2 ∧ BoxAt H2 B L ∧
      H2 Fd = some (.lst xs) ∧ DpAll K H2 xs (rs.map .tuple) ∧ rs.length = i ∧ ∀ r ∈ rs, isRow ks (.tuple r) = true) ⟨none, none, [], [], rfl, sA, b3, hF2, .nil, rfl, (fun _ h => nomatch h)⟩ ?_ ?_
    · rintro i σ H3 hi ⟨v5, v6, rs, xs, rfl, sm, b4, hF, hd, lr, okr⟩
      have hk3 := dp_x hb sm _ (kinds_noL ks) hk
      obtain ⟨ak, xk, rfl, hSk, hIk⟩ : ∃ ak xk, vk = .ref ak ∧ SqT K H3 ak xk ∧ DpAll K H3 xk (ks.map fun b => .str (kindS b)) := by
        cases hk3 with
        | tup q1 q2 => exact ⟨_, _, rfl, q1, q2⟩
      have lk : xk.length = ks.length := by rw [dpLen hIk, List.length_map]
      refine ⟨_, rfl, ak, rfl, ⟨_, hSk⟩, fun DD hD => ?_⟩
      obtain ⟨s5, b5, nDB, nDL⟩ := al (o := .lst []) SameX.refl b4 b4 hD
      have nDF : DD ≠ Fd := fun z => by rw [z, hF] at hD; cases hD
      refine lc_tup (K := K) (a := ak) (xs := xk) (fun j H4 => SameX B L H3 H4 ∧ BoxAt H4 B L ∧ ∃ (ds : List PyData) (ys : List V), ds.length = j ∧ Vals1 ks ds ∧ H4 DD = some (.lst ys) ∧ DpAll K H4 ys ds)
        ⟨s5, b5, [], [], rfl, (fun j d h => by simp at h), upd_same, .nil⟩ (fun j H4 _ h => sqT_x b4 h.1 hSk) ?_ ?_
      · rintro j x H4 hx ⟨s6, b6, ds, ys, ld, hv, hl, hdd⟩
        obtain ⟨dk, ek, hdk⟩ := dpGet hIk hx
        obtain ⟨bk, ebk, rfl⟩ : ∃ b, ks[j]? = some b ∧ dk = .str (kindS b) := by
          rw [List.getElem?_map] at ek
          cases q : ks[j]? with
          | none => rw [q] at ek; cases ek
          | some b => rw [q] at ek; exact ⟨b, rfl, (Option.some.inj ek).symm⟩
        cases hdk
        have hj : j < ks.length := (List.getElem?_eq_some_iff.mp ebk).1
        have ly : ys.length = ds.length := dpLen hdd
        refine ⟨rfl, _, rfl, _, rfl, B, L, bk, rfl, b6, fun H5 v d s7 b7 hv2 hd2 => ?_⟩
        have hl5 := s7 _ _ nDB nDL hl
        have vs2 := vals_snoc hv (by rw [ld]; exact ebk) hv2
        refine ⟨ys, hl5, small1000 (by omega), (s6.trans s7).new hD, b7.upd_ nDB nDL, ds ++ [d], ys ++ [v], by rw [List.length_append, ld]; rfl, vs2, upd_same, ?_⟩
        exact dpAll_upd hl5 _ (vals_noL vs2) (dpApp (dpAll_x b6 s7 _ (vals_noL hv) hdd) (.cons hd2 .nil))
      · rintro H4 ⟨s6, b6, ds, ys, ld, hv, hl, hdd⟩
        dsimp only [gName]
        have hF4 := s6 _ _ nFB nFL hF
        have okn := rowsL_noL okr
        have hd4 := dpAll_x b4 s6 _ okn hd
        have lx : xs.length = rs.length := by rw [dpLen hd, List.length_map]
        have shr := rowsL_shaped okr
        have fX : ∀ HX, SameX B L H3 HX → HX Fd = some (.lst xs) ∧ DpAll K HX xs (rs.map .tuple) := fun HX sX => ⟨sX _ _ nFB nFL hF, dpAll_x b4 sX _ okn hd⟩
        let N : L2.St → Hp → Prop := fun σ' H' => ∃ (Rw : Addr) (ys : List V) (r : List PyData), σ' = [some (.ref B), some (.ref ak), some (.int m), some (.ref Fd), some (.int way), some (.int (0 + (i : Nat))), some (.ref Rw), none] ∧ SameX B L H3 H' ∧ BoxAt H' B L ∧ H3 Rw = none ∧ H' Rw = some (.lst ys) ∧ DpAll K H' ys r ∧ r.length = ks.length ∧ Vals1 ks r
        have nD : ∀ HX, SameX B L H4 HX → BoxAt HX B L → N [some (.ref B), some (.ref ak), some (.int m), some (.ref Fd), some (.int way), some (.int (0 + (i : Nat))), some (.ref DD), none] HX := fun HX sX bX =>
          ⟨DD, ys, ds, rfl, s6.trans sX, bX, hD, sX _ _ nDB nDL hl, dpAll_x b6 sX _ (vals_noL hv) hdd, by omega, hv⟩
        refine viaS N (fun nx next => ?_) ?_
        · refine ⟨_, rfl, Nat.zero_le _, fun e he => ?_⟩
          obtain ⟨s7, b7, ne1, ne2⟩ := al (o := .lst []) SameX.refl b6 b6 he
          obtain ⟨hFe, hde⟩ := fX _ (s6.trans s7)
          refine ⟨.list (rs.map .tuple), .list [], .lst (SqL.of hFe) hde, .lst (SqL.of upd_same) .nil, shr, rfl, _, rfl, ?_⟩
          rw [eqv_nil]
          by_cases hrs : rs = []
          · subst hrs
            exact iteF (iteF (next _ _ (nD _ s7 b7)))
          · have en : (!(rs.map PyData.tuple).isEmpty) = true := by
              cases rs with
              | nil => exact absurd rfl hrs
              | cons _ _ => rfl
            rw [en]
            refine iteT ⟨_, rfl, B, L, 3, rfl, b7, by decide, by decide, fun H5 n5 s8 b8 h0 h1 => ?_⟩
            have s78 := s7.trans s8
            refine ⟨rfl, _, rfl, ?_⟩
            refine ite2 (fun h3 => ?_) (fun h3 => next _ _ (nD _ s78 b8))
            obtain ⟨hF5, hd5⟩ := fX _ (s6.trans s78)
            have lrs : (rs.map PyData.tuple).length = rs.length := List.length_map _
            have rs1 : 1 ≤ rs.length := by
              cases rs with
              | nil => exact absurd rfl hrs
              | cons _ _ => simp
            refine ⟨_, rfl, _, rfl, _, rfl, .ref Fd, _, _, rfl, .lst (SqL.of hF5) hd5, rfl, B, L, _, rfl, b8, by omega, by omega, fun H6 n6 s9 b9 g0 g1 => ?_⟩
            obtain ⟨kn, rfl⟩ : ∃ kn : Nat, n6 = (kn : Int) := ⟨n6.toNat, by omega⟩
            have hkn : kn < rs.length := by omega
            have s79 := s78.trans s9
            obtain ⟨hF6, hd6⟩ := fX _ (s6.trans s79)
            have hrow := isRow_get.mp (okr rs[kn] (List.getElem_mem hkn))
            refine ⟨.list (rs.map .tuple), _, (kn : Int), .tuple rs[kn], .lst (SqL.of hF6) hd6, rfl, rfl, atI_nat (by rw [List.getElem?_map, List.getElem?_eq_getElem hkn]; rfl), fun v hv6 => ?_⟩
            cases hv6 with
            | @tup at_ xt _ hSt hIt =>
              refine ⟨at_, xt, rfl, .inr hSt, fun l hl6 => ?_⟩
              obtain ⟨s10, b10, m1, m2⟩ := al (o := .lst xt) (s6.trans s79) b4 b9 hl6
              exact next _ _ ⟨l, xt, rs[kn], rfl, s10, b10, (s6.trans s79).free b4 hl6 b9, upd_same, dpAll_same (fun b' o e => by rw [upd_ne (ne_of_none e hl6)]; exact e) _ hIt, hrow.1, hrow.2⟩
        · rintro σ' H5 ⟨Rw, ys2, r, rfl, s7, b7, hRw0, hRw, hdr, lr2, vr⟩
          obtain ⟨nRB, nRL⟩ := b4.nb hRw0
          have nRF : Rw ≠ Fd := fun z => by rw [z, hF] at hRw0; cases hRw0
          have nN : ∀ HX, SameX B L H5 HX → BoxAt HX B L → N [some (.ref B), some (.ref ak), some (.int m), some (.ref Fd), some (.int way), some (.int (0 + (i : Nat))), some (.ref Rw), none] HX := fun HX sX bX =>
            ⟨Rw, ys2, r, rfl, s7.trans sX, bX, hRw0, sX _ _ nRB nRL hRw, dpAll_x b7 sX _ (vals_noL vr) hdr, lr2, vr⟩
          refine viaS N (fun nx next => ?_) ?_
          · refine ⟨_, rfl, Nat.zero_le _, fun e he => ?_⟩
            obtain ⟨s8, b8, ne1, ne2⟩ := al (o := .lst []) SameX.refl b7 b7 he
            obtain ⟨hFe, hde⟩ := fX _ (s7.trans s8)
            refine ⟨.list (rs.map .tuple), .list [], .lst (SqL.of hFe) hde, .lst (SqL.of upd_same) .nil, shr, rfl, _, rfl, ?_⟩
            rw [eqv_nil]
            by_cases hrs : rs = []
            · subst hrs
              exact iteF (iteF (next _ _ (nN _ s8 b8)))
            · obtain ⟨M, rl, rfl⟩ := SrtO.snoc_of (l := rs) (by
                cases rs with
                | nil => exact absurd rfl hrs
                | cons _ _ => simp)
              have en : (!((M ++ [rl]).map PyData.tuple).isEmpty) = true := by
                rw [List.map_append]
                cases M <;> rfl
              rw [en]
              refine iteT ⟨_, rfl, _, _, rfl, rfl, _, rfl, ?_⟩
              refine ite2 (fun hw => ?_) (fun hw => iteF (next _ _ (nN _ s8 b8)))
              have hw := of_decide_eq_true hw
              obtain ⟨b0, hb0⟩ : ∃ b0, ks[0]? = some b0 := ⟨_, List.getElem?_eq_getElem (by omega)⟩
              obtain ⟨vk0, evk, hvk⟩ := dpGet' (i := 0) (d := .str (kindS b0)) hIk (by rw [List.getElem?_map, hb0]; rfl)
              cases hvk
              have hSk8 := sqT_x b4 (s7.trans s8) hSk
              refine ⟨_, rfl, ak, xk, _, _, rfl, rfl, hSk8, atI_nat evk, rfl, _, rfl, ?_⟩
              have ek : decide (V.str (kindS b0) = V.str "number") = !b0 := by cases b0 <;> decide +kernel
              rw [ek]
              cases b0 with
              | true => exact iteF (next _ _ (nN _ s8 b8))
              | false =>
                have hrl := isRow_get.mp (okr rl (by simp))
                obtain ⟨d0, hd0⟩ : ∃ d0, rl[0]? = some d0 := ⟨_, List.getElem?_eq_getElem (by omega)⟩
                obtain ⟨b', hb', hv0⟩ := hrl.2 0 d0 hd0
                rw [hb0] at hb'
                cases hb'
                obtain ⟨nn, rfl⟩ : ∃ nn, d0 = .int nn := by
                  rcases val_atom hv0 with ⟨e, _⟩ | ⟨_, q⟩
                  · cases e
                  · exact q
                refine iteT ⟨_, rfl, _, rfl, _, rfl, .list ((M ++ [rl]).map .tuple), _, -1, .tuple rl, .lst (SqL.of hFe) hde, rfl, rfl, by rw [List.map_append]; exact atI_last _ _, fun v hv1 => ?_⟩
                refine ⟨.tuple rl, rl, 0, .int nn, hv1, rfl, rfl, atI_nat (j := 0) hd0, fun v2 hv2 => ?_⟩
                cases hv2
                refine ⟨_, rfl, by show 2 ≤ sizeLine; decide, fun e2 he2 => ?_⟩
                obtain ⟨s9, b9, nf1, nf2⟩ := al (o := .lst [.int 1, .int (-1)]) s8 b7 b8 he2
                obtain ⟨ww, hww, lo, hi'⟩ : ∃ ww : Int, atI [V.int 1, V.int (-1)] way = some (.int ww) ∧ -1 ≤ ww ∧ ww ≤ 1 := by
                  rcases (by omega : way = 0 ∨ way = 1) with e | e
                  · subst e; exact ⟨_, atI_nat (j := 0) rfl, by decide, by decide⟩
                  · subst e; exact ⟨_, atI_nat (j := 1) rfl, by decide, by decide⟩
                refine ⟨_, rfl, e2, _, way, _, rfl, rfl, SqL.of upd_same, hww, _, rfl, B, L, 3, rfl, b9, by decide, by decide, fun H7 n7 s10 b10 h0 h1 => ?_⟩
                refine ⟨_, _, rfl, rfl, .inl ⟨by omega, by omega⟩, _, _, rfl, rfl, _, _, rfl, _, _, rfl, ?_⟩
                have s57 := s9.trans s10
                have hRw7 := s57 _ _ nRB nRL hRw
                have lys : ys2.length = r.length := dpLen hdr
                have hdr7 := dpAll_x b7 s57 _ (vals_noL vr) hdr
                refine ⟨_, rfl, Rw, ys2, 0, 0, rfl, rfl, hRw7, (by unfold ixN; rw [if_pos (by decide), if_pos (by omega)]; rfl), ?_⟩
                generalize hz : (if (if nn + ww * n7 < 999 then nn + ww * n7 else 999) > -999 then (if nn + ww * n7 < 999 then nn + ww * n7 else 999) else -999) = z
                have z1 : -999 ≤ z ∧ z ≤ 999 := by
                  rw [← hz]
                  constructor <;> split <;> split <;> omega
                have vr2 := vals_set0 vr hb0 (num_isVal z1.1 z1.2)
                exact next _ _ ⟨Rw, ys2.set 0 (.int z), r.set 0 (.int z), rfl, (s7.trans s57).new hRw0, b10.upd_ nRB nRL, hRw0, upd_same, dpAll_upd hRw7 _ (vals_noL vr2) (dpAll_set0 hdr7 (.int z)), by rw [List.length_set]; exact lr2, vr2⟩
          · rintro σ' H6 ⟨Rw, ys2, r, rfl, s8, b8, hRw0, hRw, hdr, lr2, vr⟩
            obtain ⟨hF6, hd6⟩ := fX _ s8
            refine ⟨_, rfl, .inl ⟨rfl, _, SqL.of hF6⟩, _, rfl, Rw, ys2, rfl, .inl ⟨SqL.of hRw, fun p hp => ?_⟩⟩
            obtain ⟨s9, b9, np1, np2⟩ := al (o := .tup ys2) s8 b4 b8 hp
            have npF : Fd ≠ p := fun z => by rw [← z, hF6] at hp; cases hp
            refine ⟨Fd, xs, _, rfl, rfl, (upd_ne npF).trans hF6, small1000 (by omega), ?_⟩
            have okr2 : ∀ q ∈ rs ++ [r], isRow ks (.tuple q) = true := fun q hq => by
              rcases List.mem_append.mp hq with hq | hq
              · exact okr q hq
              · rw [List.mem_singleton.mp hq]
                exact isRow_get.mpr ⟨lr2, vr⟩
            have hnew : DpAll K (upd H6 p (.tup ys2)) (xs ++ [.ref p]) ((rs ++ [r]).map .tuple) := by
              rw [List.map_append]
              have sp : Same H6 (upd H6 p (.tup ys2)) := fun b' o e => by
                rw [upd_ne (ne_of_none e hp)]
                exact e
              exact dpApp (dpAll_same sp _ hd6) (.cons (.tup (SqT.of upd_same) (dpAll_same sp _ hdr)) .nil)
            exact ⟨_, _, rs ++ [r], xs ++ [.ref p], rfl, (sm.trans s9).new hFd, b9.upd_ nFB nFL, upd_same, dpAll_upd ((upd_ne npF).trans hF6) _ (rowsL_noL okr2) hnew, by rw [List.length_append, lr]; rfl, okr2⟩
    · rintro σ H3 ⟨v5, v6, rs, xs, rfl, sm, b4, hF, hd, lr, okr⟩
      exact ⟨_, rfl, k H3 Fd rs xs sm b4 (by omega) okr hFd hF hd⟩
end
end RS
set_option Elab.async false
set_option maxRecDepth 100000
set_option maxHeartbeats 4000000
namespace RS
open PySem PySem.Spec PyProof.Rows L2 GX
def colLt (b : Bool) : PyData → PyData → Bool
  | .int x, .int y => if b then decide (y < x) else decide (x < y)
  | .str x, .str y => if b then decide (y.cps.toList < x.cps.toList) else decide (x.cps.toList < y.cps.toList)
  | _, _ => false
def keyD (b : Bool) (d : PyData) : List Int := (worthsOf d).map (sg b)
theorem sign_gt {c : Nat} (h : signOk c = true) : 32 < c := by
  unfold signOk at h
  rw [Bool.and_eq_true] at h
  have h2 : ¬ ([c] : List Nat) < [97] := by simpa using h.1
  by_cases q : 97 ≤ c
  · omega
  · exact absurd (List.cons_lt_cons_iff.mpr (.inl (by omega))) h2
theorem word_parts {x : Str} (h : isWord (.str x) = true) : x.cps.toList.length ≤ 6 ∧ ∀ c ∈ x.cps.toList, 32 < c := by
  have h' : (decide ((x.length : Int) ≤ 6) && x.cps.toList.all signOk) = true := h
  rw [Bool.and_eq_true] at h'
  have h1 := of_decide_eq_true h'.1
  exact ⟨by rw [len_cps]; omega, fun c hc => sign_gt (List.all_eq_true.mp h'.2 c hc)⟩
theorem sg_injI {b : Bool} {x y : Int} (h : sg b x = sg b y) : x = y := by
  cases b
  · exact h
  · have h : -x = -y := h
    omega
theorem key_lt {kb b : Bool} {m t : PyData} (hm : isVal kb m = true) (ht : isVal kb t = true) (ne : m ≠ t) : (keyD b m).length = (keyD b t).length ∧ keyD b m ≠ keyD b t ∧ HT.lexLt (keyD b m) (keyD b t) = colLt b m t := by
  cases kb with
  | false =>
    obtain ⟨x, rfl⟩ : ∃ n, m = .int n := by
      rcases val_atom hm with ⟨e, _⟩ | ⟨_, q⟩
      · cases e
      · exact q
    obtain ⟨y, rfl⟩ : ∃ n, t = .int n := by
      rcases val_atom ht with ⟨e, _⟩ | ⟨_, q⟩
      · cases e
      · exact q
    have nxy : x ≠ y := fun z => ne (by rw [z])
    have n2 : sg b x ≠ sg b y := fun z => nxy (sg_injI z)
    refine ⟨rfl, fun z => n2 (List.cons.inj z).1, ?_⟩
    show HT.lexLt [sg b x] [sg b y] = if b then decide (y < x) else decide (x < y)
    rw [HT.lexLt_cons, if_neg n2]
    cases b
    · rfl
    · show decide (-x < -y) = decide (y < x)
      congr 1
      simp
  | true =>
    obtain ⟨x, rfl⟩ : ∃ n, m = .str n := by
      rcases val_atom hm with ⟨_, q⟩ | ⟨e, _⟩
      · exact q
      · cases e
    obtain ⟨y, rfl⟩ : ∃ n, t = .str n := by
      rcases val_atom ht with ⟨_, q⟩ | ⟨e, _⟩
      · exact q
      · cases e
    obtain ⟨lx, hx⟩ := word_parts hm
    obtain ⟨ly, hy⟩ := word_parts ht
    have nxy : x.cps.toList ≠ y.cps.toList := fun z => ne (by rw [TL.ext_tl (x := x) (y := y) z])
    have e1 : (padL 6 x.cps.toList).length = 6 := pad6_len lx
    have e2 : (padL 6 y.cps.toList).length = 6 := pad6_len ly
    refine ⟨?_, pad_ne b lx ly hx hy nxy, pad_lt b 6 _ _ lx ly hx hy⟩
    show (padI b 6 x.cps.toList).length = (padI b 6 y.cps.toList).length
    unfold padI
    rw [List.length_map, List.length_map, List.length_map, List.length_map, e1, e2]
theorem rank_cons {os : List (Nat × Bool)} {c : Nat} {b : Bool} {p : Nat × List PyData} {m : PyData} (h : p.2[c]? = some m) : rankOf ((c, b) :: os) p = keyD b m ++ rankOf os p := by
  unfold rankOf
  rw [List.flatMap_cons, List.append_assoc]
  unfold keyP
  rw [List.getD_eq_getElem?_getD, h]
  rfl
theorem before_cons {os : List (Nat × Bool)} {c : Nat} {b kb : Bool} {p q : Nat × List PyData} {m t : PyData} (h1 : p.2[c]? = some m) (h2 : q.2[c]? = some t) (v1 : isVal kb m = true) (v2 : isVal kb t = true) :
    (m = t → before ((c, b) :: os) p q = before os p q) ∧ (m ≠ t → before ((c, b) :: os) p q = colLt b m t) := by
  unfold before
  rw [rank_cons h1, rank_cons h2]
  constructor
  · intro e
    subst e
    rw [lexLt_app _ _ _ _ rfl, if_pos rfl]
  · intro e
    obtain ⟨k1, k2, k3⟩ := key_lt (b := b) v1 v2 e
    rw [lexLt_app _ _ _ _ k1, if_neg k2, k3]
theorem before_nil {p q : Nat × List PyData} : before [] p q = decide (p.1 < q.1) := by
  show HT.lexLt [(p.1 : Int)] [(q.1 : Int)] = _
  rw [HT.lexLt_cons]
  by_cases e : (p.1 : Int) = (q.1 : Int)
  · rw [if_pos e]
    have : p.1 = q.1 := by omega
    rw [this]
    simp [HT.lexLt_nil_nil]
  · rw [if_neg e]
    simp
/-- pairs of different numbers: one is ahead -/
theorem rank_ne {os : List (Nat × Bool)} {p q : Nat × List PyData} (h : before os p q = false) (h2 : before os q p = false) : rankOf os p = rankOf os q := by
  have tot : ∀ A B : List Int, HT.lexLt A B = false → HT.lexLt B A = false → A = B := by
    intro A
    induction A with
    | nil =>
      intro B h1 h2
      cases B with
      | nil => rfl
      | cons y B => rw [HT.lexLt_nil_cons] at h1; cases h1
    | cons x A ih =>
      intro B h1 h2
      cases B with
      | nil => rw [HT.lexLt_nil_cons] at h2; cases h2
      | cons y B =>
        rw [HT.lexLt_cons] at h1 h2
        by_cases e : x = y
        · subst e
          rw [if_pos rfl] at h1 h2
          rw [ih B h1 h2]
        · rw [if_neg e] at h1
          rw [if_neg (Ne.symm e)] at h2
          have a := of_decide_eq_false h1
          have b := of_decide_eq_false h2
          omega
  exact tot _ _ h h2
theorem rank_num {os : List (Nat × Bool)} {p q : Nat × List PyData} (h : rankOf os p = rankOf os q) : p.1 = q.1 := by
  have e := congrArg List.getLast? h
  unfold rankOf at e
  rw [List.getLast?_append, List.getLast?_append] at e
  simp at e
  omega
end RS
set_option Elab.async false
set_option maxRecDepth 100000
set_option maxHeartbeats 4000000
namespace RS
open PySem PySem.Spec PyProof.Rows L2 GX
theorem few_list {ds : List PyData} (h1 : ds.length ≤ 1000000) (h2 : ∀ d ∈ ds, few d) : few (.list ds) := by
  simp only [few]
  exact ⟨h1, fews_iff.mpr h2⟩
theorem few_tup {ds : List PyData} (h1 : ds.length ≤ 1000000) (h2 : ∀ d ∈ ds, few d) : few (.tuple ds) := by
  simp only [few]
  exact ⟨h1, fews_iff.mpr h2⟩
theorem few_val {b : Bool} {d : PyData} (h : isVal b d = true) : few d := by
  rcases val_atom h with ⟨_, x, rfl⟩ | ⟨_, n, rfl⟩ <;> simp [few]
theorem few_row {ks : List Bool} {r : List PyData} (hk : ks.length ≤ 4) (h : isRow ks (.tuple r) = true) : few (.tuple r) :=
  few_tup (by have := (isRow_get.mp h).1; omega) fun d hd => by
    obtain ⟨b, hv⟩ := row_val h hd
    exact few_val hv
theorem few_pair {ks : List Bool} {p : Nat × List PyData} (hk : ks.length ≤ 4) (h : isRow ks (.tuple p.2) = true) : few (pairD p) :=
  few_tup (by simp) fun d hd => by
    rcases List.mem_cons.mp hd with e | hd
    · rw [e]; simp [few]
    · rw [List.mem_singleton.mp hd]; exact few_row hk h
theorem few_order {os : List (Nat × Bool)} (h : os.length ≤ 1000) : few (orderD os) :=
  few_list (by rw [List.length_map]; omega) fun d hd => by
    obtain ⟨p, _, rfl⟩ := List.mem_map.mp hd
    exact few_tup (by simp) fun d hd => by
      simp at hd
      rcases hd with rfl | rfl <;> simp [few]
theorem few_rows {ks : List Bool} {rs : List (List PyData)} (hk : ks.length ≤ 4) (h1 : rs.length ≤ 1000) (h : ∀ r ∈ rs, isRow ks (.tuple r) = true) : few (rowsD rs) :=
  few_list (by rw [List.length_map]; omega) fun d hd => by
    obtain ⟨r, hr, rfl⟩ := List.mem_map.mp hd
    exact few_row hk (h r hr)
theorem srtd_uniq {α : Type} {lt : α → α → Bool} : ∀ {l m : List α}, l.Perm m → SrtO.Srtd lt l → SrtO.Srtd lt m → (∀ x y, x ∈ l → y ∈ l → lt x y = false → lt y x = false → x = y) → l = m
  | [], m, p, _, _, _ => (p.symm.eq_nil).symm
  | x :: l, [], p, _, _, _ => absurd p.length_eq (by simp)
  | x :: l, y :: m, p, h1, h2, U => by
    have hx : x ∈ y :: m := p.mem_iff.mp List.mem_cons_self
    have hy : y ∈ x :: l := p.mem_iff.mpr List.mem_cons_self
    have exy : x = y := by
      rcases List.mem_cons.mp hx with e | hx
      · exact e
      · rcases List.mem_cons.mp hy with e | hy'
        · exact e.symm
        · exact U x y List.mem_cons_self (List.mem_cons_of_mem _ hy') (SrtO.srtd_head h2 x hx) (SrtO.srtd_head h1 y hy')
    subst exy
    rw [srtd_uniq (List.Perm.cons_inv p) (List.pairwise_cons.mp h1).2 (List.pairwise_cons.mp h2).2 fun a b ha hb => U a b (List.mem_cons_of_mem _ ha) (List.mem_cons_of_mem _ hb)]
theorem enumP_num {α : Type} {l : List α} {p q : Nat × α} (hp : p ∈ enumP 0 l) (hq : q ∈ enumP 0 l) (e : p.1 = q.1) : p = q := by
  obtain ⟨i, hi, ei⟩ := List.getElem_of_mem hp
  obtain ⟨j, hj, ej⟩ := List.getElem_of_mem hq
  have e1 : (enumP 0 l)[i]? = some p := by rw [List.getElem?_eq_getElem hi, ei]
  have e2 : (enumP 0 l)[j]? = some q := by rw [List.getElem?_eq_getElem hj, ej]
  rw [enumP_get] at e1 e2
  cases q1 : l[i]? with
  | none => rw [q1] at e1; cases e1
  | some x =>
    cases q2 : l[j]? with
    | none => rw [q2] at e2; cases e2
    | some y =>
      rw [q1] at e1
      rw [q2] at e2
      cases e1
      cases e2
      have ij : i = j := by simpa using e
      subst ij
      rw [q1] at q2
      cases q2
      rfl
theorem before_tot {os : List (Nat × Bool)} {rs : List (List PyData)} : ∀ x y, x ∈ enumP 0 rs → y ∈ enumP 0 rs → before os x y = false → before os y x = false → x = y := fun x y hx hy h1 h2 => enumP_num hx hy (rank_num (rank_ne h1 h2))
end RS
set_option Elab.async false
set_option maxRecDepth 100000
namespace RS
open PySem PySem.Spec PyProof.Rows L2 GX
theorem sameNew {H H1 : Hp} {a : Addr} {o : HO} (s : Same H H1) (h : H1 a = none) : Same H (upd H1 a o) := fun b u e => by
  rw [upd_ne (ne_of_none (s _ _ e) h)]
  exact s _ _ e
end RS
set_option Elab.async false
set_option maxRecDepth 100000
set_option maxHeartbeats 8000000
set_option pp.maxSteps 400
namespace RS
open PySem PySem.Spec PyProof.Rows L2 GX
section
variable {P : Program} {w : World} {K : PySem.W.Frag} {mg : Str → Option Value} {base : Heap}
theorem scIsRun : FnScope ["kinds", "order", "run", "told", "one", "other"] ["kinds", "order", "run"] (defScope s_is_run) := ⟨rfl, rfl, rfl, by decide +kernel, rfl, by decide +kernel, by decide +kernel⟩
def runD (ts : List TPr) : PyData := .list (ts.map toldD)
def spIsRun (K : PySem.W.Frag) (pW pR pN : Addr) : Sp := fun vs H Q _ => ∃ (vk vo : V) (a : Addr) (xs : List V) (ks : List Bool) (os : List (Nat × Bool)) (ts : List TPr), vs = [vk, vo, .ref a] ∧ Dp K H vk (kindsD ks) ∧ Dp K H vo (orderD os) ∧ SqL K H a xs ∧ DpAll K H xs (ts.map toldD) ∧ ks.length ≤ 1000 ∧ os.length ≤ 1000 ∧ OkOrder ks.length os ∧ (∀ t ∈ ts, fitT t) ∧ Tab H pW ∧ Tab H pR ∧ Tab H pN ∧
  ∀ H', Same H H' → Q (.bl (okRun ks os ts)) H'
theorem is_run_ok {c pW pR pN : Addr} (D : DefAt K mg "is_run" s_is_run c) (T : Txt K mg) (TB : GxR.TabB base mg c pN) (cT : Cal P w K mg base CX0 6 "is_told" ["kinds", "told"] (spIsTold K pW pR)) (cG : Cal P w K mg base CX0 3 "goes_ahead" ["order", "one", "other"] (spGoes K)) :
    Cal P w K mg base CX0 8 "is_run" ["kinds", "order", "run"] (spIsRun K pW pR pN) := by
  have sc := scIsRun
  refine def_ok0 D sc (fun vs H Q E h => ?_) (fun _ _ _ _ _ _ us hl => match us, hl with | [_, _, _], _ => rfl) (fun f A outer s H vs Q E hr h => ?_)
  · obtain ⟨vk, vo, a, xs, ks, os, ts, rfl, _⟩ := h
    rfl
  · obtain ⟨vk, vo, a, xs, ks, os, ts, rfl, hk, ho, hS, hI, hlk, hlo, oko, hz, hW, hR, hN, k⟩ := h
    refine ⟨_, (pss_cons (ps_if ((pw_or (pt_not (pt_val (pe_callB call_isiD (by rfl) T.isinstance (by decide +kernel) (pa_cons (pv 2) (pa_cons (pe_bltn (v := V.ty "list") (u := Value.type "list") (by rfl) T.list_ (by decide +kernel) rfl) pa_nil))))) (pw_or1 (pt_not (pt_val (pe_all (own := [("told", 3)])  hr (by rfl) T.all TB (by rfl) (by rfl) sc.nd (blkOk_by (N := ["kinds", "order", "run", "told", "one", "other"]) (sc := defScope s_is_run) (own := [("told", 3)]) (by decide +kernel)) (by decide +kernel) (by rfl) (by rfl) (pi_list (pv 2)) (fun _ _ _ _ _ _ _ => (pg_name (i := 3) sc.nd rfl (Or.inl rfl))) (fun _ _ _ _ _ _ _ hr => (pe_c cT hr (by decide) (by rfl) pass0 (pa_cons (pv 0) (pa_cons (pv 3) pa_nil))))))))).pt) (pss_one (ps_ret pe_bl)) pss_nil) (pss_one (ps_ret (pe_all (own := [("one", 4), ("other", 5)]) (g := gTup K 2 (gCons (gName 4) (gCons (gName 5) gNil))) hr (by rfl) T.all TB (by rfl) (by rfl) sc.nd (blkOk_by (N := ["kinds", "order", "run", "told", "one", "other"]) (sc := defScope s_is_run) (own := [("one", 4), ("other", 5)]) (by decide +kernel)) (by decide +kernel) (by rfl) (by rfl) (RZ.pi_zipA (by rfl) T.zip (pa_cons (pv 2) (pa_cons (pe_slice sl_list (pv 2) (po_some pe_int) po_none) pa_nil))) (fun _ _ _ _ _ _ _ => (pg_tup (by rfl) (pgs_cons (pg_name (i := 4) sc.nd rfl (Or.inl rfl)) (pgs_cons (pg_name (i := 5) sc.nd rfl (Or.inl rfl)) pgs_nil)))) (fun _ _ _ _ _ _ _ hr => (pe_c cG hr (by decide) (by rfl) pass0 (pa_cons (pv 1) (pa_cons (pv 4) (pa_cons (pv 5) pa_nil))))))))), ?_⟩
    refine ⟨_, rfl, _, _, _, rfl, by simp, .lst hS hI, _, rfl, ?_⟩
    refine iteF ?_
    have lx : xs.length = ts.length := by rw [dpLen hI, List.length_map]
    refine ⟨_, rfl, a, rfl, ⟨xs, hS⟩, hN, ?_⟩
    refine all_by xs.length (fun i H' => Same H H' ∧ (ts.take i).all (okT ks) = true) ⟨Same.refl H, by simp⟩ (fun i H' hi hp => ?_) (fun H' hp => ?_)
    · obtain ⟨sm, hp⟩ := hp
      refine ⟨⟨xs, xs[i], sm.seq hS, List.getElem?_eq_getElem hi⟩, fun y H2 ⟨e, hy⟩ => ?_⟩
      subst e
      have ey := hy xs (sm.seq hS)
      obtain ⟨d, ed, hd⟩ := dpGet hI ey
      obtain ⟨t, et, rfl⟩ : ∃ t, ts[i]? = some t ∧ toldD t = d := by
        rw [List.getElem?_map] at ed
        cases q : ts[i]? with
        | none => rw [q] at ed; cases ed
        | some b => rw [q] at ed; exact ⟨b, rfl, Option.some.inj ed⟩
      refine ⟨rfl, _, rfl, _, rfl, vk, y, ks, t, rfl, dp_same sm _ hk, dp_same sm _ hd, hlk, hz t (List.mem_of_getElem? et), sm _ _ hW, sm _ _ hR, fun H3 s3 => ?_⟩
      have sm3 := sm.trans s3
      refine ⟨_, rfl, fun h2 => .mk hi ⟨sm3, ?_⟩, fun h2 => ?_⟩
      · rw [List.take_add_one, et]
        simp only [Option.toList_some, List.all_append, hp, List.all_cons, h2, List.all_nil, Bool.and_self]
      · have e2 : okRun ks os ts = false := by
          have : ts.all (okT ks) = false := by
            rw [Bool.eq_false_iff]
            intro z
            have z2 := List.all_eq_true.mp z _ (List.mem_of_getElem? et)
            rw [h2] at z2
            cases z2
          show (ts.all (okT ks) && adj os ts) = false
          rw [this, Bool.false_and]
        refine ⟨_, rfl, iteT ?_⟩
        show Q (.bl false) _
        rw [← e2]
        exact k _ sm3
    · obtain ⟨sm, hp⟩ := hp
      rw [List.take_of_length_le (by omega)] at hp
      have okt : ∀ t ∈ ts, okT ks t = true := fun t ht => List.all_eq_true.mp hp t ht
      refine ⟨⟨xs, sm.seq hS, Nat.le_refl _⟩, _, rfl, iteF ?_⟩
      refine ⟨_, rfl, _, rfl, 1, rfl, a, xs, rfl, sm.seq hS, fun p hp0 => ?_⟩
      have ec : cutV xs (some 1) none = xs.drop 1 := by
        cases xs with
        | nil => rfl
        | cons x xs => exact cutV_from (k := 1) (by simp)
      rw [ec]
      have s1 := sameNew (o := .lst (xs.drop 1)) (Same.refl H') hp0
      have hp1 : upd H' p (.lst (xs.drop 1)) p = some (.lst (xs.drop 1)) := upd_same
      generalize upd H' p (.lst (xs.drop 1)) = H1 at s1 hp1 ⊢
      have sm1 := sm.trans s1
      refine ⟨a, p, xs, xs.drop 1, rfl, .inl ⟨sm1.seq hS, SqL.of hp1, sm1 _ _ hN, ?_⟩⟩
      have full : okRun ks os ts = adj os ts := by
        show (ts.all (okT ks) && adj os ts) = _
        rw [hp, Bool.true_and]
      rw [full] at k
      have lz : (ts.zip ts.tail).length = xs.length - 1 := by rw [List.length_zip, List.length_tail]; omega
      refine all_by (xs.length - 1) (fun i H' => Same H1 H' ∧ ((ts.zip ts.tail).take i).all (fun p => before os (natT p.1) (natT p.2)) = true) ⟨Same.refl H1, by simp⟩ (fun i H2 hi hq => ?_) (fun H2 hq => ?_)
      · obtain ⟨s2, hq⟩ := hq
        have sm2 := sm1.trans s2
        have h1 : i < xs.length := by omega
        have h2 : i < (xs.drop 1).length := by rw [List.length_drop]; omega
        refine ⟨⟨xs, xs.drop 1, xs[i], (xs.drop 1)[i], sm2.seq hS, SqL.of (s2 _ _ hp1), List.getElem?_eq_getElem h1, List.getElem?_eq_getElem h2⟩, fun y H3 ⟨TT, x1, y1, ey, hTT, eH, hx, hy⟩ => ?_⟩
        subst ey eH
        have ex := hx xs (sm2.seq hS)
        have ey := hy (xs.drop 1) (SqL.of (s2 _ _ hp1))
        rw [List.getElem?_drop] at ey
        obtain ⟨d1, ed1, hd1⟩ := dpGet hI ex
        obtain ⟨d2, ed2, hd2⟩ := dpGet hI ey
        have got : ∀ {j : Nat} {d : PyData}, (ts.map toldD)[j]? = some d → ∃ t, ts[j]? = some t ∧ toldD t = d := fun {j d} ed => by
          rw [List.getElem?_map] at ed
          cases q : ts[j]? with
          | none => rw [q] at ed; cases ed
          | some b => rw [q] at ed; exact ⟨b, rfl, Option.some.inj ed⟩
        obtain ⟨t1, et1, rfl⟩ := got ed1
        obtain ⟨t2, et2, rfl⟩ := got ed2
        have m1 := okt t1 (List.mem_of_getElem? et1)
        have m2 := okt t2 (List.mem_of_getElem? et2)
        have s3 := sameNew (o := .tup [x1, y1]) (Same.refl H2) hTT
        have hT3 : upd H2 TT (.tup [x1, y1]) TT = some (.tup [x1, y1]) := upd_same
        generalize upd H2 TT (.tup [x1, y1]) = H3 at s3 hT3 ⊢
        have sm3 := sm2.trans s3
        have ez : (ts.zip ts.tail)[i]? = some (t1, t2) := by
          rw [List.getElem?_zip_eq_some]
          exact ⟨et1, by rw [List.getElem?_tail, Nat.add_comm i 1]; exact et2⟩
        have fits : ∀ {t : TPr}, okT ks t = true → Fits os (natT t).2 := fun {t} h => row_fits (Bool.and_eq_true_iff.mp h).2 oko
        refine ⟨TT, [x1, y1], rfl, SqT.of hT3, rfl, _, _, rfl, _, _, rfl, rfl, rfl, ?_⟩
        refine ⟨_, rfl, _, rfl, _, rfl, vo, x1, y1, os, natT t1, natT t2, rfl, dp_same sm3 _ ho, by rw [← toldD_nat m1]; exact dp_same sm3 _ hd1, by rw [← toldD_nat m2]; exact dp_same sm3 _ hd2, hlo, fits m1, fits m2, fun H4 s4 => ?_⟩
        refine ⟨_, rfl, fun h2 => .mk hi ⟨(s2.trans s3).trans s4, ?_⟩, fun h2 => ?_⟩
        · rw [List.take_add_one, ez]
          simp only [Option.toList_some, List.all_append, hq, List.all_cons, h2, List.all_nil, Bool.and_self]
        · have e2 : adj os ts = false := by
            show ((ts.zip ts.tail).all fun p => before os (natT p.1) (natT p.2)) = false
            rw [Bool.eq_false_iff]
            intro z
            have z2 := List.all_eq_true.mp z _ (List.mem_of_getElem? ez)
            rw [h2] at z2
            cases z2
          rw [← e2]
          exact k _ (sm3.trans s4)
      · obtain ⟨s2, hq⟩ := hq
        refine ⟨⟨xs, xs.drop 1, (sm1.trans s2).seq hS, SqL.of (s2 _ _ hp1), .inr (by rw [List.length_drop]; exact Nat.le_refl _)⟩, ?_⟩
        rw [List.take_of_length_le (by omega)] at hq
        have e2 : adj os ts = true := hq
        rw [← e2]
        exact k _ (sm1.trans s2)
end
end RS
set_option Elab.async false
set_option maxRecDepth 100000
set_option maxHeartbeats 4000000
namespace LM
open PySem PySem.Spec PyProof.Rows L2
/-! ### known objects that stay: the maker's cells while a call runs -/
def Pin (o : Obj) : HO := .frz o (.own 0)
/-- the addresses of a frame's cells -/
def Cell (cl : List (Str × Addr)) (b : Addr) : Prop := ∃ y, cl.lookup y = some b
open Classical in
/-- the abstract heap without the cells -/
noncomputable def off (cl : List (Str × Addr)) (H : Hp) : Hp := fun b => if Cell cl b then none else H b
open Classical in
/-- H' with the cells of H -/
noncomputable def back (cl : List (Str × Addr)) (H H' : Hp) : Hp := fun b => if Cell cl b then H b else H' b
theorem off_c {cl : List (Str × Addr)} {H : Hp} {b : Addr} (h : Cell cl b) : off cl H b = none := if_pos h
theorem off_n {cl : List (Str × Addr)} {H : Hp} {b : Addr} (h : ¬ Cell cl b) : off cl H b = H b := if_neg h
theorem back_c {cl : List (Str × Addr)} {H H' : Hp} {b : Addr} (h : Cell cl b) : back cl H H' b = H b := if_pos h
theorem back_n {cl : List (Str × Addr)} {H H' : Hp} {b : Addr} (h : ¬ Cell cl b) : back cl H H' b = H' b := if_neg h
/-- all cells are known in H -/
def Held (cl : List (Str × Addr)) (H : Hp) : Prop := ∀ b, Cell cl b → ∃ o, H b = some (Pin o)
/-- no cell is told of in H -/
def Loose (cl : List (Str × Addr)) (H : Hp) : Prop := ∀ b, Cell cl b → H b = none
theorem loose_off {cl : List (Str × Addr)} {H : Hp} : Loose cl (off cl H) := fun _ h => off_c h
theorem pin_own {o : Obj} {a : Addr} : Pin o ≠ .own a := fun z => nomatch z
theorem pin_tbl {o : Obj} {ps : Array Value} : Pin o ≠ .tbl ps := fun z => nomatch z
theorem pin_tup {o : Obj} {xs : List V} : Pin o ≠ .tup xs := fun z => nomatch z
section
variable {P : Program} {w : World} {K : PySem.W.Frag} {mg : Str → Option Value} {base : Heap} {A : Around} {outer : List Env} {s s' : Shared} {H H' G : Hp} {cl : List (Str × Addr)} {h h' : Heap} {fs : List Addr}
theorem pin_at (x : HOk P w H h) {b : Addr} {o : Obj} (e : H b = some (Pin o)) : h.get? b = some o := (x b _ e).1
theorem held_off (hd : Held cl H) (b : Addr) (u : HO) (hu : ∀ o, u ≠ Pin o) (e : H b = some u) : off cl H b = some u := by
  by_cases c : Cell cl b
  · obtain ⟨o, z⟩ := hd b c
    rw [z] at e
    exact absurd (Option.some.inj e).symm (hu o)
  · rw [off_n c]
    exact e
theorem hok_off (hd : Held cl H) (x : HOk P w H h) : HOk P w (off cl H) h := fun b u e => by
  by_cases c : Cell cl b
  · rw [off_c c] at e
    cases e
  · rw [off_n c] at e
    exact (x b u e).stay (fun _ _ _ q => q) (fun d q => held_off hd d _ (fun o z => pin_own z.symm) q) fun d xs q => held_off hd d _ (fun o z => pin_tup z.symm) q
/-- the state at a call, its cells let go -/
theorem env_off (hd : Held cl H) (e : Env0 P w K mg base A outer s H) : Env0 P w K mg base A outer s (off cl H) := by
  refine ⟨e.frames, e.mod, fun b o q => ⟨(e.bs b o q).1, ?_⟩, e.bsz, e.funs, fun b q => ?_, hok_off hd e.hok, e.bare⟩
  · by_cases c : Cell cl b
    · exact off_c c
    · rw [off_n c]
      exact (e.bs b o q).2
  · by_cases c : Cell cl b
    · exact off_c c
    · rw [off_n c]
      exact e.frf b q
/-- what a run did ahead of which the cells were let go: with them -/
theorem un_back (hd : Held cl H) (hk : HOk P w H h) (nf : ∀ b, Cell cl b → b ∉ fs) (u : Un fs [] (off cl H) H' h h') : Un fs [] H (back cl H H') h h' := by
  have nc : ∀ b, H b = none → ¬ Cell cl b := fun b n c => by
    obtain ⟨o, z⟩ := hd b c
    rw [n] at z
    cases z
  refine ⟨fun b o q n hb hx => u.keep b o q (by rw [off_n (nc b n)]; exact n) hb hx, fun b o q n hb hx => u.slot b o q (by rw [off_n (nc b n)]; exact n) hb hx, fun b o q n hx => ?_, u.there, fun b xs q => ?_, fun b o v q => ?_, fun b ps q => ?_⟩
  · rw [back_n (nc b n)]
    exact u.free b o q (by rw [off_n (nc b n)]; exact n) hx
  · have c : ¬ Cell cl b := fun c => by
      obtain ⟨o, z⟩ := hd b c
      rw [q] at z
      cases z
    rw [back_n c]
    exact u.tups b xs (by rw [off_n c]; exact q)
  · by_cases c : Cell cl b
    · rw [back_c c]
      exact q
    · rw [back_n c]
      exact u.frzs b o v (by rw [off_n c]; exact q)
  · have c : ¬ Cell cl b := fun c => by
      obtain ⟨o, z⟩ := hd b c
      rw [q] at z
      cases z
    rw [back_n c]
    exact u.tbls b ps (by rw [off_n c]; exact q)
theorem loose_un (hk : HOk P w H h) (hd : Held cl H) (u : Un fs [] (off cl H) H' h h') : Loose cl H' := fun b c => by
  obtain ⟨o, z⟩ := hd b c
  exact u.free b o (pin_at hk z) (off_c c) (by simp)
theorem hok_back (hd : Held cl H) (hk : HOk P w H h) (nf : ∀ b, Cell cl b → b ∉ fs) (u : Un fs [] (off cl H) H' h h') (x : HOk P w H' h') : HOk P w (back cl H H') h' := fun b v e => by
  have lo := loose_un hk hd u
  by_cases c : Cell cl b
  · rw [back_c c] at e
    obtain ⟨o, z⟩ := hd b c
    rw [z] at e
    cases e
    have := u.keep b o (pin_at hk z) (off_c c) (nf b c) (by simp)
    exact ⟨this, ⟨o, this⟩⟩
  · rw [back_n c] at e
    have st : ∀ d v, H' d = some v → back cl H H' d = some v := fun d v q => by
      have : ¬ Cell cl d := fun z => by
        rw [lo d z] at q
        cases q
      rw [back_n this]
      exact q
    exact (x b v e).stay (fun _ _ _ q => q) (fun d q => st d _ q) fun d xs q => st d _ q
/-- G is H with the cells known -/
structure Up (cl : List (Str × Addr)) (H G : Hp) (h : Heap) : Prop where
  lo : Loose cl H
  same : ∀ b, ¬ Cell cl b → G b = H b
  held : ∀ b, Cell cl b → ∃ o, h.get? b = some o ∧ G b = some (Pin o)
theorem Up.hd (p : Up cl H G h) : Held cl G := fun b c => by
  obtain ⟨o, _, z⟩ := p.held b c
  exact ⟨o, z⟩
theorem up_some (p : Up cl H G h) {b : Addr} {u : HO} (e : H b = some u) : G b = some u := by
  have : ¬ Cell cl b := fun c => by
    rw [p.lo b c] at e
    cases e
  rw [p.same b this]
  exact e
theorem hok_up (p : Up cl H G h) (x : HOk P w H h) : HOk P w G h := fun b u e => by
  by_cases c : Cell cl b
  · obtain ⟨o, ho, z⟩ := p.held b c
    rw [z] at e
    cases e
    exact ⟨ho, ⟨o, ho⟩⟩
  · rw [p.same b c] at e
    exact (x b u e).stay (fun _ _ _ q => q) (fun d q => up_some p q) fun d xs q => up_some p q
theorem env_up (p : Up cl H G s.heap) (nb : ∀ b, Cell cl b → base.get? b = none) (nf : ∀ b, Cell cl b → b ∉ frs outer) (e : Env0 P w K mg base A outer s H) : Env0 P w K mg base A outer s G := by
  refine ⟨e.frames, e.mod, fun b o q => ⟨(e.bs b o q).1, ?_⟩, e.bsz, e.funs, fun b q => ?_, hok_up p e.hok, e.bare⟩
  · rw [p.same b fun c => by rw [nb b c] at q; cases q]
    exact (e.bs b o q).2
  · rw [p.same b fun c => nf b c q]
    exact e.frf b q
/-- behind a call with known cells: they are let go again -/
theorem end_up {Q : VK} {u : Value} (p : Up cl H G s.heap) (h : CE outer P w G s (fun v H' => Q v (off cl H')) u s') : CE outer P w H s Q u s' := by
  obtain ⟨v, H', os, bare, un, hk, r, q⟩ := h
  have kept : ∀ b, Cell cl b → ∃ o, s.heap.get? b = some o ∧ H' b = some (Pin o) := fun b c => by
    obtain ⟨o, ho, z⟩ := p.held b c
    exact ⟨o, ho, un.frzs b o _ z⟩
  have hd : Held cl H' := fun b c => by
    obtain ⟨o, _, z⟩ := kept b c
    exact ⟨o, z⟩
  refine ⟨v, off cl H', os, bare, ⟨fun b o e n hb hx => ?_, fun b o e n hb hx => ?_, fun b o e n hx => ?_, un.there, fun b xs e => ?_, fun b o v e => ?_, fun b ps e => ?_⟩, hok_off hd hk, r, q⟩
  · by_cases c : Cell cl b
    · obtain ⟨o', ho, z⟩ := kept b c
      rw [e] at ho
      cases ho
      exact pin_at hk z
    · exact un.keep b o e (by rw [p.same b c]; exact n) hb hx
  · by_cases c : Cell cl b
    · obtain ⟨o', ho, z⟩ := kept b c
      rw [e] at ho
      cases ho
      exact ⟨o.slots, pin_at hk z⟩
    · exact un.slot b o e (by rw [p.same b c]; exact n) hb hx
  · by_cases c : Cell cl b
    · exact off_c c
    · rw [off_n c]
      exact un.free b o e (by rw [p.same b c]; exact n) hx
  · have g := un.tups b xs (up_some p e)
    exact held_off hd b _ (fun o z => pin_tup z.symm) g
  · have c : ¬ Cell cl b := fun c => by
      rw [p.lo b c] at e
      cases e
    rw [off_n c]
    exact un.frzs b o v (up_some p e)
  · obtain ⟨more, g⟩ := un.tbls b ps (up_some p e)
    exact ⟨more, held_off hd b _ (fun o z => nomatch z) g⟩
end
end LM
set_option Elab.async false
set_option maxRecDepth 100000
set_option maxHeartbeats 4000000
namespace LM
open PySem PySem.Spec PyProof.Rows L2
open LamX (ExtN TabS TabB CodeO LamS lamCx lamEnv)
/-! ### an exception through let-go cells -/
section
variable {P : Program} {w : World} {outer : List Env} {s s' : Shared} {H : Hp} {cl : List (Str × Addr)}
theorem cx_back {E : XK} {u : Value} (hd : Held cl H) (hk : HOk P w H s.heap) (nf : ∀ b, Cell cl b → b ∉ frs outer) (x : L2.CX P w outer (off cl H) s (fun c d H' => Loose cl H' → E c d (back cl H H')) u s') : L2.CX P w outer H s E u s' := by
  obtain ⟨a, B, H', c, d, e, fl, ok, ub, na, os, bare, q⟩ := x
  have nc : ∀ b, H b = none → ¬ Cell cl b := fun b n z => by
    obtain ⟨o, y⟩ := hd b z
    rw [n] at y
    cases y
  have lo : Loose cl H' := fun b z => by
    obtain ⟨o, y⟩ := hd b z
    exact ub.free b o (pin_at hk y) (off_c z)
  have ap : ∀ b u, (∀ o, u ≠ Pin o) → H b = some u → ¬ Cell cl b := fun b u hu y z => by
    obtain ⟨o, v⟩ := hd b z
    rw [y] at v
    exact hu o (Option.some.inj v)
  have inB : ∀ b, Cell cl b → ∃ o, H b = some (Pin o) ∧ B.get? b = some o := fun b z => by
    obtain ⟨o, y⟩ := hd b z
    exact ⟨o, y, ub.keep b o (pin_at hk y) (off_c z) (nf b z)⟩
  have nca : ¬ Cell cl a := fun z => by
    obtain ⟨o, _, y⟩ := inB a z
    rw [fl.2.1] at y
    cases y
  refine ⟨a, B, back cl H H', c, d, e, fl, fun b v y => ?_, ⟨fun b o y n hb => ub.keep b o y (by rw [off_n (nc b n)]; exact n) hb, ub.slot, fun b o y n => ?_, ub.there, fun b xs y => ?_, fun b o v y => ?_, fun b ps y => ?_⟩, by rw [back_n nca]; exact na, os, bare, q lo⟩
  · by_cases z : Cell cl b
    · rw [back_c z] at y
      obtain ⟨o, y2, g⟩ := inB b z
      rw [y2] at y
      cases y
      exact ⟨g, ⟨o, g⟩⟩
    · rw [back_n z] at y
      have st : ∀ d v, H' d = some v → back cl H H' d = some v := fun d v q => by
        have : ¬ Cell cl d := fun z => by
          rw [lo d z] at q
          cases q
        rw [back_n this]
        exact q
      exact (ok b v y).stay (fun _ _ _ q => q) (fun d q => st d _ q) fun d xs q => st d _ q
  · rw [back_n (nc b n)]
    exact ub.free b o y (by rw [off_n (nc b n)]; exact n)
  · have z := ap b _ (fun o y => pin_tup y.symm) y
    rw [back_n z]
    exact ub.tups b xs (by rw [off_n z]; exact y)
  · by_cases z : Cell cl b
    · rw [back_c z]
      exact y
    · rw [back_n z]
      exact ub.frzs b o v (by rw [off_n z]; exact y)
  · have z := ap b _ (fun o y => pin_tbl y.symm) y
    rw [back_n z]
    exact ub.tbls b ps (by rw [off_n z]; exact y)
theorem cr_back {Q : VK} {E : XK} {r : Result} (hd : Held cl H) (hk : HOk P w H s.heap) (nf : ∀ b, Cell cl b → b ∉ frs outer) (x : CR (L2.CX P w) outer P w (off cl H) s (fun v H' => Loose cl H' → Q v (back cl H H')) (fun c d H' => Loose cl H' → E c d (back cl H H')) r s') : CR (L2.CX P w) outer P w H s Q E r s' := by
  cases r with
  | error e => exact cx_back hd hk nf x
  | ok fl =>
    cases fl with
    | ret u =>
      obtain ⟨v, H', os, bare, un, ok, rv, q⟩ := x
      exact ⟨v, back cl H H', os, bare, un_back hd hk nf un, hok_back hd hk nf un ok, rv, q (loose_un hk hd un)⟩
    | next => exact x
    | brk => exact x
    | cont => exact x
end
/-! ### what a lambda does where it is called -/
/-- f, called without arguments where R holds, keeps tl -/
structure Act (P : Program) (w : World) (K : PySem.W.Frag) (mg : Str → Option Value) (base : Heap) (k : Nat) (f : Addr) (R : Hp → Prop) (tl : Hp → VK → XK → Prop) : Prop where
  same : ∀ H H' : Hp, (∀ b o, H b = some o → H' b = some o) → R H → R H'
  fn : ∀ (s : Shared) (H : Hp), R H → HOk P w H s.heap → PySem.W.FnAt f s.heap
  run : ∀ (A : Around) (outer : List Env) (s : Shared) (H : Hp) (Q : VK) (E : XK), Room k A → Env0 P w K mg base A outer s H → R H → tl H Q E → codeAny (model P w) A (.call (.ref f) ⟨[], []⟩) (CR (L2.CX P w) outer P w H s Q E) s
/-- the lambda that stands at f -/
def IsLam (H : Hp) (f : Addr) (q : Str) (params : Arguments) (body : Expr) (scope : Scope) (clos : List (Str × Addr)) : Prop :=
  ∃ (c' : Addr) (pm ctv : Value), H f = some (Pin (PySem.W.kla_obj "<lambda>" q params body scope clos pm c' ctv)) ∧ H c' = some (CodeO c' q)
theorem IsLam.ext {H H' : Hp} {f : Addr} {q : Str} {params : Arguments} {body : Expr} {scope : Scope} {clos : List (Str × Addr)} (h : IsLam H f q params body scope clos) (e : ExtN H H') : IsLam H' f q params body scope clos := by
  obtain ⟨c', pm, ctv, h1, h2⟩ := h
  exact ⟨c', pm, ctv, e _ _ h1 (fun ps z => nomatch z), e _ _ h2 (fun ps z => LamX.codeO_ne ps z)⟩
/-- what a frame's cells hold, told at a call: H ahead, G with the cells -/
structure Caught (X : Cx) (σ : L2.St) (H G : Hp) : Prop where
  len : σ.length = X.N.length
  has : ∀ y, X.env.kindOf y = some .cell ∨ X.env.kindOf y = some .free → ∃ c, X.env.cells.lookup y = some c
  inj : ∀ x y c, X.env.cells.lookup x = some c → X.env.cells.lookup y = some c → x = y
  lo : Loose X.env.cells H
  same : ∀ b, ¬ Cell X.env.cells b → G b = H b
  held : ∀ b, Cell X.env.cells b → ∃ o v, G b = some (Pin o) ∧ o.data = .cell v
  val : ∀ (i : Nat) (y : Str) (v : V), X.N[i]? = some y → σ[i]? = some (some v) → X.env.kindOf y = some .cell ∨ X.env.kindOf y = some .free → ∃ c o u, X.env.cells.lookup y = some c ∧ G c = some (Pin o) ∧ o.data = .cell (some u) ∧ RelV v u
theorem Caught.some {X : Cx} {σ : L2.St} {H G : Hp} (c : Caught X σ H G) {b : Addr} {o : HO} (e : H b = some o) : G b = some o := by
  rw [c.same b fun z => by rw [c.lo b z] at e; cases e]
  exact e
theorem Caught.hd {X : Cx} {σ : L2.St} {H G : Hp} (c : Caught X σ H G) : Held X.env.cells G := fun b z => by
  obtain ⟨o, _, e, _⟩ := c.held b z
  exact ⟨o, e⟩
open Classical in
theorem caught_of {X : Cx} {pins : List (Addr × Obj)} {σ : L2.St} {H : Hp} {s : Shared} (I : Inv X pins σ H s) : ∃ G, Up X.env.cells H G s.heap ∧ Caught X σ H G := by
  have lo : Loose X.env.cells H := fun b ⟨y, e⟩ => I.freeC y b e
  have at_ : ∀ b, Cell X.env.cells b → ∃ o v, s.heap.get? b = some o ∧ o.data = .cell v := fun b ⟨y, e⟩ => by
    obtain ⟨v, o, h1, h2⟩ := I.cell y b e
    exact ⟨o, v, h1, h2⟩
  refine ⟨fun b => if Cell X.env.cells b then (s.heap.get? b).map Pin else H b, ⟨lo, fun b c => if_neg c, fun b c => ?_⟩, ⟨I.len, fun y hy => I.ok.has y hy, I.ok.inj, lo, fun b c => if_neg c, fun b c => ?_, fun i y v h1 h2 h3 => ?_⟩⟩
  · obtain ⟨o, v, h1, h2⟩ := at_ b c
    refine ⟨o, h1, ?_⟩
    show (if Cell X.env.cells b then (s.heap.get? b).map Pin else H b) = _
    rw [if_pos c, h1]
    rfl
  · obtain ⟨o, v, h1, h2⟩ := at_ b c
    refine ⟨o, v, ?_, h2⟩
    show (if Cell X.env.cells b then (s.heap.get? b).map Pin else H b) = _
    rw [if_pos c, h1]
    rfl
  · obtain ⟨m, _, hl⟩ := I.loc
    have hv : Vis X.env.scope y := h3.elim (fun k => .inr (.inl k)) fun k => .inr (.inr k)
    obtain ⟨u, r, q⟩ := hl i y v h1 h2 hv
    rcases q with ⟨k, _⟩ | ⟨_, c, e, o, ho, hd⟩
    · rcases h3 with z | z <;> rw [z] at k <;> cases k
    · refine ⟨c, o, u, e, ?_, hd, r⟩
      show (if Cell X.env.cells c then (s.heap.get? c).map Pin else H c) = _
      rw [if_pos ⟨y, e⟩, ho]
      rfl
/-- the lambda's own frame is entered -/
theorem lam_in {X : Cx} {σ : L2.St} {H G HZ : Hp} {A : Around} {outer : List Env} {E : XK} {scope : Scope} {f c' : Addr} {h₁ : Heap} {tk : Nat} {s1 : Shared} (U : Caught X σ H G) (L : LamS X.env.scope scope) (e0 : Env0 X.prog X.w X.K X.mg X.base A outer s1 (off X.env.cells HZ)) (hd : A.handled = none)
    (hz : ∀ b, Cell X.env.cells b → ∃ o, G b = some (Pin o) ∧ s1.heap.get? b = some o) (hns : h₁.Ns s1.heap.objs.size fun y => ([] : List (Str × Value)).reverse.lookup y) (kp : ∀ b o, s1.heap.get? b = some o → h₁.get? b = some o) :
    Inv (lamCx X A outer s1 (off X.env.cells HZ) E scope f c') [] σ (off X.env.cells HZ) { s1 with heap := h₁, toks := tk } := by
  have has : ∀ y ∈ scope.names, y.2 = .free → ∃ c, X.env.cells.lookup y.1 = some c := fun y hy e => U.has _ (L.free y hy e)
  have cm : ∀ {y c}, (cloFrom X.env.cells scope.names []).lookup y = some c → X.env.cells.lookup y = some c := fun {y c} e => by
    rcases cloFrom_mem (PySem.mem_of_lookup e) with z | ⟨h1, h2⟩
    · cases z
    · obtain ⟨c1, hc⟩ := has _ h1 rfl
      have hc : X.env.cells.lookup y = some c1 := hc
      rw [hc] at h2
      rw [h2]
      exact hc
  have look : ∀ {y}, scope.names.lookup y = some .free → ∃ c, (cloFrom X.env.cells scope.names []).lookup y = some c := fun {y} hl =>
    mem_lookup (cloFrom_has (cells := X.env.cells) (acc := []) (PySem.mem_of_lookup hl))
  have isC : ∀ {y c}, X.env.cells.lookup y = some c → ∃ v, h₁.IsCell c v := fun {y c} e => by
    obtain ⟨o, v, g, d⟩ := U.held c ⟨y, e⟩
    obtain ⟨o', g', k⟩ := hz c ⟨y, e⟩
    rw [g] at g'
    have : o = o' := by injection g' with g'; injection g'
    subst this
    exact ⟨v, o, kp _ _ k, d⟩
  have noex : ∀ b : Addr, b ∉ (lamCx X A outer s1 (off X.env.cells HZ) E scope f c').ex := fun b z => nomatch (show b ∈ ([] : List Addr) from z)
  refine ⟨⟨e0.mod, L.kind, rfl, rfl, Nat.le_refl _, fun y z c e1 e2 => U.inj y z c (cm e1) (cm e2), fun y hy => ?_, fun y c z _ => Bool.noConfusion (show false = true from z), fun _ => hd, Around.frames_deeper e0.frames, .inr ⟨rfl, rfl⟩, fun b z => absurd z (noex b), e0.bs, e0.bsz, fun b _ _ => noex b,
      fun b z => absurd z (noex b), e0.funs, e0.frf⟩,
    rfl, e0.bare, Un.kept kp, ⟨_, hns, fun i y v e1 e2 e3 => ?_⟩, fun y c e => isC (cm e), e0.hok.fresh (Nat.le_refl _), fun y c e => off_c ⟨y, cm e⟩, fun q hq => absurd (show q ∈ ([] : List (Addr × Obj)) ++ [] from hq) (by simp), e0.hok.kept kp, U.len⟩
  · have hy : scope.names.lookup y = some .cell ∨ scope.names.lookup y = some .free := hy
    rcases hy with hy | hy
    · exact absurd rfl (L.own _ (PySem.mem_of_lookup hy)).2
    · exact look hy
  · have e3 : Vis scope y := e3
    rcases e3 with k | k | k
    · exact absurd rfl (L.own _ (PySem.mem_of_lookup k)).1
    · exact absurd rfl (L.own _ (PySem.mem_of_lookup k)).2
    · obtain ⟨c, o, u, h1, h2, h3, r⟩ := U.val i y v e1 e2 (L.free _ (PySem.mem_of_lookup k) rfl)
      obtain ⟨c2, z⟩ := look k
      have := cm z
      rw [h1] at this
      cases this
      obtain ⟨o', g', kk⟩ := hz c ⟨y, h1⟩
      rw [h2] at g'
      have : o = o' := by injection g' with g'; injection g'
      subst this
      exact ⟨u, r, .inr ⟨.inr k, c, z, o, kp _ _ kk, h3⟩⟩
/-- what the lambda at f does, wherever it is called while the frame's cells are known -/
theorem lam_act {X : Cx} {σ : L2.St} {H G : Hp} {params : Arguments} {body : Expr} {scope : Scope} {f : Addr} {k : Nat} {t : XK → TE} (U : Caught X σ H G) (L : LamS X.env.scope scope) (hl : IsLam G f (X.env.qual ++ "<lambda>") params body scope (cloFrom X.env.cells scope.names []))
    (hbind : ∀ (q : Str) (cl : List (Str × Addr)) (pm cv ctv : Value), bindArgs (PySem.W.kla_fn "<lambda>" q params body scope cl pm cv ctv) ⟨[], []⟩ = pure [])
    (hbody : ∀ (A : Around) (outer : List Env) (s : Shared) (H : Hp) (E : XK) (c' : Addr), Room k (A.deeper (lamEnv X scope s.heap.objs.size f c')) → PE (lamCx X A outer s H E scope f c') body (t E)) :
    ∃ R : Hp → Prop, R G ∧ Act X.prog X.w X.K X.mg X.base (k + 1) f R (fun H Q E => t (fun c d H' => Loose X.env.cells H' → E c d (back X.env.cells H H')) σ (off X.env.cells H) (fun v H' => Loose X.env.cells H' → Q v (back X.env.cells H H'))) := by
  obtain ⟨c', pm, ctv, h1, h2⟩ := hl
  refine ⟨fun HZ => HZ f = G f ∧ HZ c' = G c' ∧ ∀ b, Cell X.env.cells b → HZ b = G b, ⟨rfl, rfl, fun _ _ => rfl⟩, ⟨fun H H' e ⟨r1, r2, r3⟩ => ⟨?_, ?_, fun b c => ?_⟩, fun s H ⟨r1, _, _⟩ ok => ?_, fun A outer s HZ Q E hr e0 ⟨r1, r2, r3⟩ ht => ?_⟩⟩
  · rw [h1] at r1 ⊢
    exact e _ _ r1
  · rw [h2] at r2 ⊢
    exact e _ _ r2
  · obtain ⟨o, z⟩ := U.hd b c
    have r3 := r3 b c
    rw [z] at r3 ⊢
    exact e _ _ r3
  · rw [h1] at r1
    exact ⟨_, _, _, _, pin_at ok r1⟩
  have hd : Held X.env.cells HZ := fun b c => by
    rw [r3 b c]
    exact U.hd b c
  have nf : ∀ b, Cell X.env.cells b → b ∉ frs outer := fun b c z => by
    obtain ⟨o, y⟩ := hd b c
    rw [e0.frf b z] at y
    cases y
  rw [h1] at r1
  rw [h2] at r2
  have of1 := pin_at e0.hok r1
  obtain ⟨⟨oc, vs, tt, hoc, hdc, hvc⟩, _, _⟩ := e0.hok c' _ r2
  have e1 := env_off hd e0
  have lim : s.heap.NoLimit := e0.mod.nolimit.keeps fun b o e => (e0.bs b o e).1
  refine codeAny_mono (R := CR (L2.CX X.prog X.w) outer X.prog X.w (off X.env.cells HZ) s (fun v H' => Loose X.env.cells H' → Q v (back X.env.cells HZ H')) (fun c d H' => Loose X.env.cells H' → E c d (back X.env.cells HZ H'))) ?_ fun r s' hq => cr_back hd e0.hok nf hq
  refine PySem.W.kla_callFunE hr.depth of1 rfl L.co L.gen rfl ⟨c', oc, vs, tt, rfl, hoc, hdc, hvc⟩ ?_
  rw [hbind]
  refine wpAny_pure (wpAny_newFunctionEnv (fun y hy => (L.own y hy).2) (fun y hy => absurd hy (by simp)) (fun h₁ hns hsb => ⟨lim.fresh _ hsb, ?_⟩) L.kind)
  show codeAny _ _ (.expr body (lamEnv X scope s.heap.objs.size f c')) _ _
  have kp : ∀ b o, s.heap.get? b = some o → h₁.get? b = some o := fun b o e => hsb.extBut b o (Nat.ne_of_lt (Heap.lt_size e)) (Heap.get?_push_of_some _ e)
  have J := lam_in (E := fun c d H' => Loose X.env.cells H' → E c d (back X.env.cells HZ H')) (scope := scope) (f := f) (c' := c') (tk := s.toks + ([] : List (Str × Value)).length) U L e1 hr.hd (fun b c => by
    obtain ⟨o, z⟩ := U.hd b c
    exact ⟨o, z, pin_at e0.hok ((r3 b c).trans z)⟩) hns kp
  refine PySem.W.kla_codeExpr (wpAny_mono ((hbody _ _ s (off X.env.cells HZ) _ c' (hr.deeper _)).run [] _ _ (off X.env.cells HZ) _ J ht) (fun v s' hq => ?_) fun e s' hq => hq)
  obtain ⟨w', H', J', rv, q⟩ := hq
  exact ⟨w', H', J'.os, J'.bare, J'.base, J'.hok, rv, q⟩
theorem caught_same {X : Cx} {σ : L2.St} {H G H' : Hp} (c : Caught X σ H G) (s : ∀ b o, G b = some o → H' b = some o) : ∀ b o, H b = some o → off X.env.cells H' b = some o := fun b o e => by
  rw [off_n fun z => by rw [c.lo b z] at e; cases e]
  exact s b o (c.some e)
theorem back_same {cl : List (Str × Addr)} {H H' : Hp} (s : ∀ b o, off cl H b = some o → H' b = some o) : ∀ b o, H b = some o → back cl H H' b = some o := fun b o e => by
  by_cases c : Cell cl b
  · rw [back_c c]
    exact e
  · rw [back_n c]
    exact s b o (by rw [off_n c]; exact e)
theorem back_at {cl : List (Str × Addr)} {H H' : Hp} (lo : Loose cl H') {b : Addr} {o : HO} (e : H' b = some o) : back cl H H' b = some o := by
  rw [back_n fun c => by rw [lo b c] at e; cases e]
  exact e
end LM
set_option Elab.async false
set_option maxRecDepth 100000
set_option maxHeartbeats 4000000
namespace LM
open PySem PySem.Spec PyProof.Rows L2
open LamX (ExtN TabS TabB CodeO LamS lamCx lamEnv)
/-! ### a lambda is made -/
def tLam (P : Addr) (q : Str) (params : Arguments) (body : Expr) (scope : Scope) (clos : List (Str × Addr)) : TE := fun _ H Q => TabS H P q ∧
  ∀ (f : Addr) (H1 : Hp), ExtN H H1 → TabS H1 P q → IsLam H1 f q params body scope clos → H f = none → Q (.ref f) H1
section
variable {X : Cx}
theorem pe_lam {c P : Addr} {params : Arguments} {body : Expr} {scope : Scope} {pos : Pos} (TB : TabB X.base X.mg c P) (hcode : X.env.code = .ref c) (L : LamS X.env.scope scope) (hdef : defaultsOf params X.env = ([], [])) :
    PE X (.Lambda params body scope pos) (tLam P (X.env.qual ++ "<lambda>") params body scope (cloFrom X.env.cells scope.names [])) := by
  refine ⟨fun pins s σ H Q I ⟨hT, h⟩ => ?_⟩
  obtain ⟨ps, hP, ht, ha⟩ := id hT
  refine PySem.W.kla_eval hdef ?_
  have hP' : s.heap.get? P = some { cls := .none, data := .fields ps } := I.hok P _ hP
  cases hc : codeAmong pos ps.toList with
  | none =>
    refine PySem.W.kla_makeFunction (mg := X.mg) (c := c) (P := P) (ps := ps) (closure_ok (L.has I.ok)) I.ok.glob (I.mod.glob.keeps I.bk) hcode (TB.code.keeps I.bk) hP' ht hc TB.gP (TB.bm.keeps I.bk) fun c' ctv g tk hx hge hlt hrec htb => ?_
    obtain ⟨c2, oc, vs, t, e2, hoc, hd, hv⟩ := hrec
    cases e2
    have nC : H c' = none := I.hok.fresh hge
    have I1 := LamX.inv_table (t' := tk) (q := X.env.qual ++ "<lambda>") (more := #[rawInt pos.line, rawInt pos.col, .ref c']) I hP (fun b o hb e => hx b o hb e) htb hge ⟨oc, vs, t, hoc, hd, hv⟩
    have I2 := I1.laid (a := g.objs.size) (o := Pin (PySem.W.kla_obj "<lambda>" (X.env.qual ++ "<lambda>") params body scope (cloFrom X.env.cells scope.names []) ((X.mg "__name__").getD .none) c' ctv)) (t' := tk) (fun b u e => Heap.get?_push_of_some (h := g) _ e) (Nat.le_refl _) ⟨Heap.get?_push_size _ rfl, ⟨_, Heap.get?_push_size _ rfl⟩⟩
    have nF : H g.objs.size = none := I.hok.fresh (Nat.le_trans hge (Nat.le_of_lt hlt))
    have n1 : g.objs.size ≠ c' := Nat.ne_of_gt hlt
    have n2 : P ≠ g.objs.size := ne_of_none hP nF
    have n3 : P ≠ c' := ne_of_none hP nC
    have hE : ExtN H (upd (upd (upd H P (.tbl (ps ++ #[rawInt pos.line, rawInt pos.col, .ref c']))) c' (CodeO c' (X.env.qual ++ "<lambda>"))) g.objs.size (Pin (PySem.W.kla_obj "<lambda>" (X.env.qual ++ "<lambda>") params body scope (cloFrom X.env.cells scope.names []) ((X.mg "__name__").getD .none) c' ctv))) := fun b o e n => by
      rw [upd_ne (ne_of_none e nF), upd_ne (ne_of_none e nC), upd_ne fun z => n ps (Option.some.inj (e.symm.trans (by rw [z]; exact hP)))]
      exact e
    have hC2 : (upd (upd (upd H P (.tbl (ps ++ #[rawInt pos.line, rawInt pos.col, .ref c']))) c' (CodeO c' (X.env.qual ++ "<lambda>"))) g.objs.size (Pin (PySem.W.kla_obj "<lambda>" (X.env.qual ++ "<lambda>") params body scope (cloFrom X.env.cells scope.names []) ((X.mg "__name__").getD .none) c' ctv))) c' = some (CodeO c' (X.env.qual ++ "<lambda>")) := by
      rw [upd_ne (Ne.symm n1), upd_same]
    refine ⟨.ref g.objs.size, _, I2, rfl, h _ _ hE ⟨_, by rw [upd_ne n2, upd_ne n3, upd_same], ?_, fun p' cv hcv => ?_⟩ ⟨c', _, ctv, upd_same, hC2⟩ nF⟩
    · simp only [Array.toList_append]
      exact PySem.TriplesOk_snoc _ _ _ _ ht
    · simp only [Array.toList_append] at hcv
      rcases LamX.among_app _ ht hcv with z | z
      · obtain ⟨c0, y1, y2⟩ := ha p' cv z
        exact ⟨c0, y1, hE _ _ y2 (fun ps => LamX.codeO_ne ps)⟩
      · exact ⟨c', z, hC2⟩
  | some cv =>
    obtain ⟨c', rfl, hco⟩ := ha pos cv hc
    refine PySem.W.kla_makeFunctionHit (mg := X.mg) (c := c) (P := P) (ps := ps) (closure_ok (L.has I.ok)) I.ok.glob (I.mod.glob.keeps I.bk) hcode (TB.code.keeps I.bk) hP' ht hc (TB.bm.keeps I.bk) fun ctv g tk hx hsz => ?_
    have I1 : Inv X pins σ H { s with heap := g, toks := tk } := I.kept hx
    have I2 := I1.laid (a := g.objs.size) (o := Pin (PySem.W.kla_obj "<lambda>" (X.env.qual ++ "<lambda>") params body scope (cloFrom X.env.cells scope.names []) ((X.mg "__name__").getD .none) c' ctv)) (t' := tk) (fun b u e => Heap.get?_push_of_some (h := g) _ e) (Nat.le_refl _) ⟨Heap.get?_push_size _ rfl, ⟨_, Heap.get?_push_size _ rfl⟩⟩
    have nF : H g.objs.size = none := I.hok.fresh hsz
    have hE : ∀ b o, H b = some o → (upd H g.objs.size (Pin (PySem.W.kla_obj "<lambda>" (X.env.qual ++ "<lambda>") params body scope (cloFrom X.env.cells scope.names []) ((X.mg "__name__").getD .none) c' ctv))) b = some o := fun b o e => by
      rw [upd_ne (ne_of_none e nF)]
      exact e
    exact ⟨.ref g.objs.size, _, I2, rfl, h _ _ (ExtN.of hE) (hT.ext hE) ⟨c', _, ctv, upd_same, hE _ _ hco⟩ nF⟩
theorem IsLam.up {X : Cx} {σ : L2.St} {H G : Hp} {f : Addr} {q : Str} {params : Arguments} {body : Expr} {scope : Scope} {clos : List (Str × Addr)} (h : IsLam H f q params body scope clos) (c : Caught X σ H G) : IsLam G f q params body scope clos := by
  obtain ⟨c', pm, ctv, h1, h2⟩ := h
  exact ⟨c', pm, ctv, c.some h1, c.some h2⟩
/-! ### a def is called, this frame's cells being known meanwhile -/
def tCallP (X : Cx) (sp : Sp) (t : TA) : TE := fun σ H Q => t σ H fun vs H1 => ∀ G, Caught X σ H1 G → sp vs G (fun v H' => Q v (off X.env.cells H')) C8.E0
theorem cells_apart {pins : List (Addr × Obj)} {σ : L2.St} {H : Hp} {s : Shared} (I : Inv X pins σ H s) (hfn : ∀ y, X.fn y = true) : (∀ b, Cell X.env.cells b → X.base.get? b = none) ∧ ∀ b, Cell X.env.cells b → b ∉ frs X.stack := by
  have ab : ∀ b, Cell X.env.cells b → X.s_0.heap.objs.size ≤ b := fun b ⟨y, e⟩ => I.ok.cab y b (hfn y) e
  refine ⟨fun b c => Heap.get?_none_of_le (Nat.le_trans I.ok.bsz (ab b c)), fun b c hm => ?_⟩
  rcases List.mem_cons.mp (I.stkSub b hm) with z | z
  · obtain ⟨y, e⟩ := c
    exact I.cne y b e z
  · obtain ⟨_, o, ho, _⟩ := I.ok.funs.mem z
    exact absurd (Nat.lt_of_lt_of_le (Heap.lt_size ho) (ab b c)) (Nat.lt_irrefl _)
section
variable {CX : CXT} {k j : Nat} {ps : List Str} {sp : Sp} {E : XK} {x : Str} {p pos : Pos} {e : Expr} {es : List Expr} {t : TA} {to : TE}
theorem pe_cP (c : RS.Cal X.prog X.w X.K X.mg X.base C8.CX0 k x ps sp) (hr : Room j X.A) (hk : k ≤ j) (hfn : ∀ y, X.fn y = true) (hg : Gl X x) (ha : PA X (e :: es) t) (hdb : (x == ("__debug__" : Str)) = false := by decide)
    (he : starEach (e :: es) X.env = (false, eval e X.env) :: starEach es X.env := by rfl) (hpl : (backTo pos (starEach es X.env)).any (·.1) = false := by rfl) :
    PE X (.Call (.Name x p) (e :: es) [] pos) (tCallP X sp t) := by
  obtain ⟨f, fd, F, hm, kp, hb⟩ := c.ex
  refine ⟨fun pins s σ H Q I h => ?_⟩
  refine wpAny_Call_Name_kw (ld_glob I hg hm ?_ hdb)
  refine PySem.W.callWith_K (h₀ := X.base) I.ok.mod.kin kp (thn (ha.run pos pins s σ H _ I h) fun us s1 ⟨vs, H1, I1, r, q⟩ => ⟨I1.kIn, ?_⟩) he hpl
  obtain ⟨G, up, ca⟩ := caught_of I1
  obtain ⟨nb, nf⟩ := cells_apart I1 hfn
  have q := q G ca
  have hl : us.length = ps.length := by rw [← r.length]; exact F.len _ _ _ _ q
  have b := hb s1 us I1.kIn (by rw [List.append_nil]; exact hl)
  rw [List.append_nil] at b
  refine wpAny_call (codeAny_mono (F.run X.A X.stack s1 G ⟨us, []⟩ us vs _ _ (hr.mono hk) (env_up up nb nf I1.env0) b r q) fun r s' hq => ?_)
  cases r with
  | error e => exact False.elim hq
  | ok fl =>
    cases fl with
    | ret u => exact I1.after (end_up up hq)
    | next => exact False.elim hq
    | brk => exact False.elim hq
    | cont => exact False.elim hq
/-! ### what was handed in is called -/
def tAct (P : Program) (w : World) (K : PySem.W.Frag) (mg : Str → Option Value) (base : Heap) (k : Nat) (E : L2.St → XK) (to : TE) : TE := fun σ H Q => to σ H fun x H1 => ∃ (f : Addr) (R : Hp → Prop) (tl : Hp → VK → XK → Prop), x = .ref f ∧ Act P w K mg base k f R tl ∧ R H1 ∧ tl H1 Q (E σ)
theorem pe_act {P : Program} {w : World} {K : PySem.W.Frag} {mg : Str → Option Value} {base : Heap} {a : Str} {p1 p2 : Pos} {E : L2.St → XK} (eP : X.prog = P) (ew : X.w = w) (eK : X.K = K) (eg : X.mg = mg) (eb : X.base = base) (hx : ∀ σ, PassesAt (L2.CX X.prog X.w) X σ (E σ)) (hr : Room j X.A) (hk : k ≤ j) (ho : PE X (.Name a p1) to) : PE X (.Call (.Name a p1) [] [] p2) (tAct P w K mg base k E to) := by
  subst eP ew eK eg eb
  refine ⟨fun pins s σ H Q I h => ?_⟩
  refine wpAny_Call_Name_kw (thn (ho.run pins s σ H _ I h) fun u s1 ⟨v, H1, I1, r1, f, R, tl, ev, A, hR, q⟩ => ?_)
  subst ev
  obtain rfl : u = Value.ref f := r1
  refine PySem.W.callWith_F0 (first := []) (A.fn s1 H1 hR I1.hok) ?_
  refine wpAny_call (codeAny_mono (A.run X.A X.stack s1 H1 Q (E σ) (hr.mono hk) I1.env0 hR q) fun r s' hq => ?_)
  cases r with
  | error e => exact hx σ pins H1 s1 e s' I1 hq
  | ok fl =>
    cases fl with
    | ret u => exact I1.after hq
    | next => exact False.elim hq
    | brk => exact False.elim hq
    | cont => exact False.elim hq
end
end
end LM
set_option Elab.async false
set_option maxRecDepth 100000
set_option maxHeartbeats 4000000
namespace LM
open PySem PySem.Spec PyProof.Rows L2
/-! ### defs that are called within an except suite, and raise nothing -/
/-- the handled exception, its class, its dict -/
abbrev SpW := Addr → Value → Option Addr → Sp
structure FnW (P : Program) (w : World) (K : PySem.W.Frag) (mg : Str → Option Value) (base : Heap) (k : Nat) (f : Addr) (fd : FuncData) (ps : List Str) (sp : SpW) : Prop where
  len : ∀ a cls d vs H Q E, sp a cls d vs H Q E → vs.length = ps.length
  run : ∀ (A : Around) (outer : List Env) (s : Shared) (H : Hp) (args : Args) (us : List Value) (vs : List V) (Q : VK) (E : XK) (p : Addr × Obj) (cls : Value) (d : Option Addr), L2H.RoomH k A → L2H.PinOk outer H s p → Zc cls d p.2 → (∃ us, p.2.data = .fields us) → Env0 P w K mg base A outer s H → BindsTo s fd args (ps.zip us) → Vals vs us → sp p.1 cls d vs H Q E →
    codeAny (model P w) A (.call (.ref f) args) (CR C8.CX0 outer P w H s Q E) s
structure CalW (P : Program) (w : World) (K : PySem.W.Frag) (mg : Str → Option Value) (base : Heap) (k : Nat) (x : Str) (ps : List Str) (sp : SpW) : Prop where
  ex : ∃ (f : Addr) (fd : FuncData), FnW P w K mg base k f fd ps sp ∧ mg x = some (.ref f) ∧ PySem.W.keepIn K (.ref f) = true ∧ Binds K fd ps []
section
variable {P : Program} {w : World} {K : PySem.W.Frag} {mg : Str → Option Value} {base : Heap}
theorem def_okW {x : Str} {st : Stmt} {c : Addr} {N ps : List Str} {k : Nat} {sp : SpW} (D : RS.DefAt K mg x st c) (S : FnScope N ps (defScope st)) (len : ∀ a cls d vs H Q E, sp a cls d vs H Q E → vs.length = ps.length)
    (hb : ∀ (kV doc pm : Value) (an : Option Addr) (cdv ct : Value) (us : List Value), us.length = ps.length → bindArgs (PySem.W.fnOf x x (defArgs st) (defBody st) (defScope st) .none kV doc pm an cdv ct) ⟨us, []⟩ = pure (ps.zip us))
    (hbody : ∀ (f : Addr) (A : Around) (outer : List Env) (s : Shared) (H : Hp) (vs : List V) (Q : VK) (E : XK) (p : Addr × Obj) (cls : Value) (d : Option Addr), L2H.RoomH k (A.deeper (envOfC x (defScope st) s.heap.objs.size f (.ref c))) → Zc cls d p.2 → (∃ us, p.2.data = .fields us) → sp p.1 cls d vs H Q E →
      ∃ t, PSs (L2H.cxH C8.CX0 P w K mg base N x (defScope st) f (.ref c) A outer s H E p) (defBody st) t ∧ t { nx := fun _ H' => Q .non H', rt := Q } (L2.start N vs) H) :
    CalW P w K mg base (k + 1) x ps sp := by
  obtain ⟨f, oc, od, kV, doc, pm, an, ct, osl, hm, lk, hcd, kp⟩ := D.ex
  refine ⟨f, _, ⟨len, fun A outer s H args us vs Q E p cls d hr hpin hz hf e0 bd r hsp => ?_⟩, hm, kp, .all (hb kV doc pm an (.ref c) ct)⟩
  have hl := len _ _ _ _ _ _ _ hsp
  have KX : K.In s.heap := e0.mod.kin.keeps fun b o e => (e0.bs b o e).1
  have lim : s.heap.NoLimit := e0.mod.nolimit.keeps fun b o e => (e0.bs b o e).1
  have kd : ∀ y ∈ ps.zip us, (defScope st).names.lookup y.1 = some .local ∨ ((defScope st).names.lookup y.1 = some .cell ∧ ((cellsFrom (s.heap.objs.size + 1) (defScope st).names []).lookup y.1).isSome = true) := fun ⟨n, v⟩ hy => by
    rcases S.par n (List.of_mem_zip hy).1 with q | q
    · exact .inl q
    · exact .inr ⟨q, PySem.W.cellsFrom_some _ _ _ (.inl q)⟩
  refine codeAny_call_function hr.depth (KX _ _ lk) rfl S.co S.gen rfl (PySem.W.codeRec_of KX hcd) (bd _ _ _ _ ?_)
  refine wpAny_newFunctionEnv_cells S.kind kd fun env he s1 ic => ?_
  subst he
  refine ⟨lim.keeps ic.toInCall.keep, codeAny_func ?_⟩
  obtain ⟨t, ht, hq⟩ := hbody f A outer s H vs Q E p cls d (hr.deeper _) hz hf hsp
  refine wpAny_mono (ht.run [] s1 (L2.start N vs) H _ (L2H.inv_startH S hpin e0 hl r ic) hq) (fun fl s' hs => ?_) fun e s' hs => hs
  cases fl with
  | ret u =>
    obtain ⟨v, σ', H', J, rv, q⟩ := hs
    exact ⟨v, H', J.os, J.bare, J.base, J.hok, rv, q⟩
  | next =>
    obtain ⟨σ', H', J, q⟩ := hs
    exact ⟨.non, H', J.os, J.bare, J.base, J.hok, rfl, q⟩
  | brk =>
    obtain ⟨_, _, _, q⟩ := hs
    exact False.elim q
  | cont =>
    obtain ⟨_, _, _, q⟩ := hs
    exact False.elim q
end
section
variable {X : Cx} {k j : Nat} {ps : List Str} {sp : SpW} {x : Str} {q pos : Pos} {e : Expr} {es : List Expr} {t : TA}
/-- such a def is called in the suite that handles p -/
def tCallW (sp : SpW) (a : Addr) (cls : Value) (d : Option Addr) (t : TA) : TE := fun σ H Q => t σ H fun vs H1 => sp a cls d vs H1 Q C8.E0
theorem pe_cW {a : Addr} {oe : Obj} {cls : Value} {d : Option Addr} (c : CalW X.prog X.w X.K X.mg X.base k x ps sp) (hr : L2H.RoomH j X.A) (hk : k ≤ j) (hp : (a, oe) ∈ X.pn) (hz : Zc cls d oe) (hf : ∃ us, oe.data = .fields us) (hg : Gl X x) (ha : PA X (e :: es) t) (hdb : (x == ("__debug__" : Str)) = false := by decide)
    (he : starEach (e :: es) X.env = (false, eval e X.env) :: starEach es X.env := by rfl) (hpl : (backTo pos (starEach es X.env)).any (·.1) = false := by rfl) :
    PE X (.Call (.Name x q) (e :: es) [] pos) (tCallW sp a cls d t) := by
  obtain ⟨f, fd, F, hm, kp, hb⟩ := c.ex
  refine ⟨fun pins s σ H Q I h => ?_⟩
  refine wpAny_Call_Name_kw (ld_glob I hg hm ?_ hdb)
  refine PySem.W.callWith_K (h₀ := X.base) I.ok.mod.kin kp (thn (ha.run pos pins s σ H _ I h) fun us s1 ⟨vs, H1, I1, r, q⟩ => ⟨I1.kIn, ?_⟩) he hpl
  have hl : us.length = ps.length := by rw [← r.length]; exact F.len _ _ _ _ _ _ _ q
  have b := hb s1 us I1.kIn (by rw [List.append_nil]; exact hl)
  rw [List.append_nil] at b
  obtain ⟨h1, h2, h3, h4, h5⟩ := I1.pin (a, oe) (List.mem_append_left _ hp)
  have hpin : L2H.PinOk X.stack H1 s1 (a, oe) := ⟨h1, h2, fun hm => (List.mem_cons.mp (I1.stkSub a hm)).elim h3 h4, h5⟩
  refine wpAny_call (codeAny_mono (F.run X.A X.stack s1 H1 ⟨us, []⟩ us vs Q _ (a, oe) cls d (hr.mono hk) hpin hz hf I1.env0 b r q) fun r s' hq => ?_)
  cases r with
  | error e => exact False.elim hq
  | ok fl =>
    cases fl with
    | ret u => exact I1.after hq
    | next => exact False.elim hq
    | brk => exact False.elim hq
    | cont => exact False.elim hq
/-! ### isinstance of the handled exception, with or without a dict -/
def DictAt (d : Option Addr) (H : Hp) : Prop := ∀ dd, d = some dd → ∃ fs, H dd = some (.xd fs)
def rIsW (K : PySem.W.Frag) (D a : Addr) (d : Option Addr) : List V → Hp → VK → Prop := fun xs H Q => ∃ (c : V) (cv : Value) (b : Bool), xs = [.ref a, c] ∧ (∀ u, RelV c u → u = cv) ∧ DictAt d H ∧ PySem.W.kitOne K (.ref D) cv = some b ∧ Q (.bl b) H
theorem call_isW {p : Addr × Obj} {D : Addr} {d : Option Addr} (C : ExcC X.K D) (hp : p ∈ X.pn) (hz : Zc (.ref D) d p.2) (hf : ∃ vs, p.2.data = .fields vs) : CallR X (.builtin "isinstance") (rIsW X.K D p.1 d) := by
  intro pins s σ H xs us Q I r h
  obtain ⟨c, cv, b, rfl, hcv, hd, e, q⟩ := h
  obtain ⟨a, oe⟩ := p
  cases r with
  | cons rx rr =>
    cases rr with
    | cons rt rr =>
      cases rr
      cases rx
      have ec := hcv _ rt
      subst ec
      obtain ⟨hget, _⟩ := I.pin (a, oe) (List.mem_append_left _ hp)
      obtain ⟨vs, hv⟩ := hf
      obtain ⟨cd, hcd, _⟩ := PySem.W.any_some C.hd
      have J : ∃ od : Option Obj, PySem.W.InstAt s.heap a oe D od := by
        obtain ⟨oc, ody, oda, osl⟩ := oe
        obtain ⟨h1, h2⟩ := hz
        dsimp only at h1 h2 hv
        subst h1 h2 hv
        cases ody with
        | none => exact ⟨none, hget, rfl, rfl, trivial⟩
        | some dd =>
          obtain ⟨fs, hfs⟩ := hd dd rfl
          obtain ⟨mA, ⟨o, es, ep, ho, _⟩, _⟩ := (show ObjOk X.prog X.w H s.heap dd (.xd fs) from I.hok dd _ hfs)
          exact ⟨some o, hget, rfl, rfl, ho⟩
      obtain ⟨od, J⟩ := J
      exact PySem.W.kia_one (PySem.W.kitx_exc (od := od) (ox := oe) (by rw [hcd]; rfl) C.hg C.hk C.hs C.ha C.hn C.ht C.hm) I.kIn J e (fun z => nomatch z) fun tk => ⟨.bl b, H, I.kept (t' := tk) fun _ _ z => z, rfl, q⟩
/-- err.f, the class known by the reading -/
def tXfA (K : PySem.W.Frag) (a : Addr) (cls : Value) (d : Option Addr) (f : Str) (te : TE) : TE := fun σ H Q => ∃ C : Addr, XfC K C ∧ PySem.W.findIn K (.ref C) f = some none ∧ tXf a cls d C f te σ H Q
theorem pe_xfA {a : Addr} {oe : Obj} {cls : Value} {d : Option Addr} {pn : List (Addr × Obj)} {e : Expr} {te : TE} {pos : Pos} {n : Str} (hz : Zc cls d oe) (hf : ∃ vs, oe.data = .fields vs) (he : PE (X.suite a ((a, oe) :: pn)) e te) (hb : attributeBase e n X.env (eval e X.env) = eval e X.env := by rfl) :
    PE (X.suite a ((a, oe) :: pn)) (.Attribute e n pos) (tXfA X.K a cls d n te) :=
  ⟨fun pins s σ H Q I ⟨_, T, hno, h⟩ => (pe_xf T hno hz hf he hb).run pins s σ H Q I h⟩
/-! ### list.count, flat items -/
def rCountF (K : PySem.W.Frag) : V → List V → Hp → VK → Prop := fun x xs H Q => ∃ (a : Addr) (ys : List V) (y : V), x = V.ref a ∧ xs = [y] ∧ SqL K H a ys ∧ flatV y = true ∧ ys.all flatV = true ∧ Q (.int ((ys.countP fun z => eqV z y : Nat) : Int)) H
theorem count_flat {y : V} : ∀ {ys : List V} {us : List Value}, Vals ys us → ys.all flatV = true → us.countP (eqU y) = ys.countP fun z => eqV z y
  | _, _, .nil, _ => rfl
  | z :: ys, u :: us, .cons r t, f => by
    rw [List.all_cons, Bool.and_eq_true] at f
    rw [List.countP_cons, List.countP_cons, eqU_of r f.1, count_flat t f.2]
theorem mt_countF : MtR X "list.count" (rCountF X.K) := by
  intro pins s σ H x xs v us Q I rx rxs h
  obtain ⟨a, ys, y, rfl, rfl, hs, fy, fys, q⟩ := h
  cases rx
  cases rxs with
  | cons ry rt =>
    rename_i uy ut
    cases rt
    obtain ⟨its, rv, ⟨⟨cls, dd, data, sl⟩, n, ho, hc, hdn, hd⟩, hlen⟩ := I.list hs
    simp only at hc hd
    subst hc hd
    refine call_meets PySem.F.slot_list_count ⟨_, ho, rfl⟩ PySem.F.entry_list_count (PySem.F.args_list_count_2 _ _) (SeqAt.list_countAt a its.toArray n dd sl uy (eqU y)) ⟨ho, fun u' hu' => mem_eqAt ry fy rv fys u' (by simpa using hu'), ?_⟩
    have ec : its.toArray.toList.countP (eqU y) = ys.countP fun z => eqV z y := count_flat rv fys
    refine ⟨.int ((ys.countP fun z => eqV z y : Nat) : Int), H, I.tok _, ⟨s.toks, ?_⟩, q⟩
    show Value.int ((its.toArray.toList.countP (eqU y) : Nat) : Int) s.toks = _
    rw [ec]
end
end LM
set_option Elab.async false
set_option maxRecDepth 100000
set_option maxHeartbeats 4000000
set_option pp.maxSteps 400
namespace RS
open PySem PySem.Spec PyProof.Rows L2 GX LM
/-! ### the law's reading of errors -/
def nm15 : List Str := ["BadKinds", "BadOrder", "BadRows", "BadRuns", "BadRoom", "BadLengths", "BadPlan", "BadPaper", "BadCount", "BadBlock", "Stopped", "Shut", "NotYet", "Empty", "BadText"]
def ysJ (j : Nat) : List V := (List.range 15).map fun i => V.bl (decide (i = j))
theorem ysJ_ok : ∀ j < 15, (ysJ j).all flatV = true ∧ ((ysJ j).countP fun z => eqV z (.bl true)) = 1 ∧ (ysJ j)[j]? = some (.bl true) ∧ ∀ m < j, (ysJ j)[m]? = some (.bl false) := by decide +kernel
theorem nm15_ok : ∀ j < 15, (nm15.map V.str)[j]? = some (.str (nm15.getD j "")) := by decide +kernel
/-- the classes of the errors -/
structure Cls15 (mg : Str → Option Value) (C : Nat → Addr) : Prop where
  g0 : mg "BadKinds" = some (.ref (C 0))
  g1 : mg "BadOrder" = some (.ref (C 1))
  g2 : mg "BadRows" = some (.ref (C 2))
  g3 : mg "BadRuns" = some (.ref (C 3))
  g4 : mg "BadRoom" = some (.ref (C 4))
  g5 : mg "BadLengths" = some (.ref (C 5))
  g6 : mg "BadPlan" = some (.ref (C 6))
  g7 : mg "BadPaper" = some (.ref (C 7))
  g8 : mg "BadCount" = some (.ref (C 8))
  g9 : mg "BadBlock" = some (.ref (C 9))
  g10 : mg "Stopped" = some (.ref (C 10))
  g11 : mg "Shut" = some (.ref (C 11))
  g12 : mg "NotYet" = some (.ref (C 12))
  g13 : mg "Empty" = some (.ref (C 13))
  g14 : mg "BadText" = some (.ref (C 14))
/-- D is the class j, and none of the others -/
structure Own15 (K : PySem.W.Frag) (C : Nat → Addr) (D : Addr) (j : Nat) : Prop where
  lt : j < 15
  exc : ExcC K D
  one : ∀ i, i < 15 → PySem.W.kitOne K (.ref D) (.ref (C i)) = some (decide (i = j))
  ve : PySem.W.kitOne K (.ref D) (.type "ValueError") = some true
theorem dictAt_same {d : Option Addr} {H H' : Hp} (h : DictAt d H) (s : Same H H') : DictAt d H' := fun dd e => by
  obtain ⟨fs, z⟩ := h dd e
  exact ⟨fs, s _ _ z⟩
section
variable {P : Program} {w : World} {K : PySem.W.Frag} {mg : Str → Option Value} {base : Heap}
theorem scClass : FnScope ["_law_e", nKinds, "_law_words"] ["_law_e"] (defScope sClass) := ⟨rfl, rfl, rfl, by decide +kernel, rfl, by decide +kernel, by decide +kernel⟩
def spClass (K : PySem.W.Frag) (C : Nat → Addr) : SpW := fun a cls d vs H Q _ => ∃ (D : Addr) (j : Nat), vs = [.ref a] ∧ cls = .ref D ∧ Own15 K C D j ∧ DictAt d H ∧ ∀ H', Same H H' → Q (.str (nm15.getD j "")) H'
theorem class_ok {c : Addr} {C : Nat → Addr} (DD : DefAt K mg "_law_class" sClass c) (T : Txt K mg) (G : Cls15 mg C) (hve : mg "ValueError" = none) : CalW P w K mg base 1 "_law_class" ["_law_e"] (spClass K C) := by
  have sc := scClass
  refine def_okW DD sc (fun a cls d vs H Q E h => ?_) (fun _ _ _ _ _ _ us hl => match us, hl with | [_], _ => rfl) (fun f A outer s H vs Q E p cls d hr hz hf h => ?_)
  · obtain ⟨D, j, rfl, _⟩ := h
    rfl
  · obtain ⟨D, j, rfl, rfl, O, hd, k⟩ := h
    refine ⟨_, (pss_cons (ps_set (i := 1) sc.nd rfl (Or.inl rfl) (pe_lst (pa_cons (pe_callB (call_isW O.exc List.mem_cons_self hz hf) (by rfl) T.isinstance (by decide +kernel) (pa_cons (pv 0) (pa_cons (pe_glob (v := V.ref (C 0)) (by rfl) G.g0 rfl) pa_nil))) (pa_cons (pe_callB (call_isW O.exc List.mem_cons_self hz hf) (by rfl) T.isinstance (by decide +kernel) (pa_cons (pv 0) (pa_cons (pe_glob (v := V.ref (C 1)) (by rfl) G.g1 rfl) pa_nil))) (pa_cons (pe_callB (call_isW O.exc List.mem_cons_self hz hf) (by rfl) T.isinstance (by decide +kernel) (pa_cons (pv 0) (pa_cons (pe_glob (v := V.ref (C 2)) (by rfl) G.g2 rfl) pa_nil))) (pa_cons (pe_callB (call_isW O.exc List.mem_cons_self hz hf) (by rfl) T.isinstance (by decide +kernel) (pa_cons (pv 0) (pa_cons (pe_glob (v := V.ref (C 3)) (by rfl) G.g3 rfl) pa_nil))) pa_nil)))))) (pss_cons (ps_set (i := 1) sc.nd rfl (Or.inl rfl) (pe_op op_cat (pv 1) (pe_lst (pa_cons (pe_callB (call_isW O.exc List.mem_cons_self hz hf) (by rfl) T.isinstance (by decide +kernel) (pa_cons (pv 0) (pa_cons (pe_glob (v := V.ref (C 4)) (by rfl) G.g4 rfl) pa_nil))) (pa_cons (pe_callB (call_isW O.exc List.mem_cons_self hz hf) (by rfl) T.isinstance (by decide +kernel) (pa_cons (pv 0) (pa_cons (pe_glob (v := V.ref (C 5)) (by rfl) G.g5 rfl) pa_nil))) (pa_cons (pe_callB (call_isW O.exc List.mem_cons_self hz hf) (by rfl) T.isinstance (by decide +kernel) (pa_cons (pv 0) (pa_cons (pe_glob (v := V.ref (C 6)) (by rfl) G.g6 rfl) pa_nil))) (pa_cons (pe_callB (call_isW O.exc List.mem_cons_self hz hf) (by rfl) T.isinstance (by decide +kernel) (pa_cons (pv 0) (pa_cons (pe_glob (v := V.ref (C 7)) (by rfl) G.g7 rfl) pa_nil))) pa_nil))))))) (pss_cons (ps_set (i := 1) sc.nd rfl (Or.inl rfl) (pe_op op_cat (pv 1) (pe_lst (pa_cons (pe_callB (call_isW O.exc List.mem_cons_self hz hf) (by rfl) T.isinstance (by decide +kernel) (pa_cons (pv 0) (pa_cons (pe_glob (v := V.ref (C 8)) (by rfl) G.g8 rfl) pa_nil))) (pa_cons (pe_callB (call_isW O.exc List.mem_cons_self hz hf) (by rfl) T.isinstance (by decide +kernel) (pa_cons (pv 0) (pa_cons (pe_glob (v := V.ref (C 9)) (by rfl) G.g9 rfl) pa_nil))) (pa_cons (pe_callB (call_isW O.exc List.mem_cons_self hz hf) (by rfl) T.isinstance (by decide +kernel) (pa_cons (pv 0) (pa_cons (pe_glob (v := V.ref (C 10)) (by rfl) G.g10 rfl) pa_nil))) (pa_cons (pe_callB (call_isW O.exc List.mem_cons_self hz hf) (by rfl) T.isinstance (by decide +kernel) (pa_cons (pv 0) (pa_cons (pe_glob (v := V.ref (C 11)) (by rfl) G.g11 rfl) pa_nil))) pa_nil))))))) (pss_cons (ps_set (i := 1) sc.nd rfl (Or.inl rfl) (pe_op op_cat (pv 1) (pe_lst (pa_cons (pe_callB (call_isW O.exc List.mem_cons_self hz hf) (by rfl) T.isinstance (by decide +kernel) (pa_cons (pv 0) (pa_cons (pe_glob (v := V.ref (C 12)) (by rfl) G.g12 rfl) pa_nil))) (pa_cons (pe_callB (call_isW O.exc List.mem_cons_self hz hf) (by rfl) T.isinstance (by decide +kernel) (pa_cons (pv 0) (pa_cons (pe_glob (v := V.ref (C 13)) (by rfl) G.g13 rfl) pa_nil))) (pa_cons (pe_callB (call_isW O.exc List.mem_cons_self hz hf) (by rfl) T.isinstance (by decide +kernel) (pa_cons (pv 0) (pa_cons (pe_glob (v := V.ref (C 14)) (by rfl) G.g14 rfl) pa_nil))) pa_nil)))))) (pss_cons (ps_set (i := 2) sc.nd rfl (Or.inl rfl) (pe_lst (pa_cons pe_str (pa_cons pe_str (pa_cons pe_str (pa_cons pe_str (pa_cons pe_str (pa_cons pe_str (pa_cons pe_str (pa_cons pe_str (pa_cons pe_str pa_nil))))))))))) (pss_cons (ps_set (i := 2) sc.nd rfl (Or.inl rfl) (pe_op op_cat (pv 2) (pe_lst (pa_cons pe_str (pa_cons pe_str (pa_cons pe_str (pa_cons pe_str (pa_cons pe_str (pa_cons pe_str pa_nil))))))))) (pss_one (ps_ret (pe_ifExp (pw_and (pt_cmpR op_eq (pe_bm PySem.F.plainAttrs_list PySem.F.slot_list_count PySem.F.type_list_count mt_countF (pv 1) (pa_cons pe_bl pa_nil)) pe_int (nomark _)) (pw_and1 (pt_val (pe_callB (call_isW O.exc List.mem_cons_self hz hf) (by rfl) T.isinstance (by decide +kernel) (pa_cons (pv 0) (pa_cons (pe_bltn (v := V.ty "ValueError") (u := Value.type "ValueError") (by rfl) hve (by decide +kernel) rfl) pa_nil)))))).pt (pe_ix ix_list (pv 2) (pe_bm PySem.F.plainAttrs_list PySem.F.slot_list_index PySem.F.type_list_index mt_index (pv 1) (pa_cons pe_bl pa_nil)) (fun _ _ => rfl)) pe_str))))))))), ?_⟩
    refine ⟨_, rfl, _, _, _, rfl, (fun _ r => r), hd, O.one 0 (by decide), _, rfl, _, _, _, rfl, (fun _ r => r), hd, O.one 1 (by decide), _, rfl, _, _, _, rfl, (fun _ r => r), hd, O.one 2 (by decide), _, rfl, _, _, _, rfl, (fun _ r => r), hd, O.one 3 (by decide), by show 4 ≤ sizeLine; decide, fun k1 h1 => ?_⟩
    have s1 := sameNew (o := .lst [.bl (decide (0 = j)), .bl (decide (1 = j)), .bl (decide (2 = j)), .bl (decide (3 = j))]) (Same.refl H) h1
    have e1 : upd H k1 (.lst [.bl (decide (0 = j)), .bl (decide (1 = j)), .bl (decide (2 = j)), .bl (decide (3 = j))]) k1 = some (.lst [.bl (decide (0 = j)), .bl (decide (1 = j)), .bl (decide (2 = j)), .bl (decide (3 = j))]) := upd_same
    have hd1 := dictAt_same hd s1
    generalize upd H k1 (.lst [.bl (decide (0 = j)), .bl (decide (1 = j)), .bl (decide (2 = j)), .bl (decide (3 = j))]) = H1 at s1 e1 hd1 ⊢
    refine ⟨_, rfl, _, rfl, _, _, _, rfl, (fun _ r => r), hd1, O.one 4 (by decide), _, rfl, _, _, _, rfl, (fun _ r => r), hd1, O.one 5 (by decide), _, rfl, _, _, _, rfl, (fun _ r => r), hd1, O.one 6 (by decide), _, rfl, _, _, _, rfl, (fun _ r => r), hd1, O.one 7 (by decide), by show 4 ≤ sizeLine; decide, fun m2 hm2 => ?_⟩
    have t2 := sameNew (o := .lst [.bl (decide (4 = j)), .bl (decide (5 = j)), .bl (decide (6 = j)), .bl (decide (7 = j))]) (Same.refl H1) hm2
    have f2 : upd H1 m2 (.lst [.bl (decide (4 = j)), .bl (decide (5 = j)), .bl (decide (6 = j)), .bl (decide (7 = j))]) m2 = some (.lst [.bl (decide (4 = j)), .bl (decide (5 = j)), .bl (decide (6 = j)), .bl (decide (7 = j))]) := upd_same
    have e2' := t2 _ _ e1
    generalize upd H1 m2 (.lst [.bl (decide (4 = j)), .bl (decide (5 = j)), .bl (decide (6 = j)), .bl (decide (7 = j))]) = G2 at t2 f2 e2' ⊢
    refine ⟨k1, m2, _, _, rfl, rfl, e2', f2, by show 8 ≤ sizeLine; decide, fun k2 h2 => ?_⟩
    have s2 := sameNew (o := .lst ([.bl (decide (0 = j)), .bl (decide (1 = j)), .bl (decide (2 = j)), .bl (decide (3 = j))] ++ [.bl (decide (4 = j)), .bl (decide (5 = j)), .bl (decide (6 = j)), .bl (decide (7 = j))])) (s1.trans t2) h2
    have e2 : upd G2 k2 (.lst ([.bl (decide (0 = j)), .bl (decide (1 = j)), .bl (decide (2 = j)), .bl (decide (3 = j))] ++ [.bl (decide (4 = j)), .bl (decide (5 = j)), .bl (decide (6 = j)), .bl (decide (7 = j))])) k2 = some (.lst ([.bl (decide (0 = j)), .bl (decide (1 = j)), .bl (decide (2 = j)), .bl (decide (3 = j))] ++ [.bl (decide (4 = j)), .bl (decide (5 = j)), .bl (decide (6 = j)), .bl (decide (7 = j))])) := upd_same
    have hd2 := dictAt_same hd s2
    generalize upd G2 k2 (.lst ([.bl (decide (0 = j)), .bl (decide (1 = j)), .bl (decide (2 = j)), .bl (decide (3 = j))] ++ [.bl (decide (4 = j)), .bl (decide (5 = j)), .bl (decide (6 = j)), .bl (decide (7 = j))])) = H2 at s2 e2 hd2 ⊢
    refine ⟨_, rfl, _, rfl, _, _, _, rfl, (fun _ r => r), hd2, O.one 8 (by decide), _, rfl, _, _, _, rfl, (fun _ r => r), hd2, O.one 9 (by decide), _, rfl, _, _, _, rfl, (fun _ r => r), hd2, O.one 10 (by decide), _, rfl, _, _, _, rfl, (fun _ r => r), hd2, O.one 11 (by decide), by show 4 ≤ sizeLine; decide, fun m3 hm3 => ?_⟩
    have t3 := sameNew (o := .lst [.bl (decide (8 = j)), .bl (decide (9 = j)), .bl (decide (10 = j)), .bl (decide (11 = j))]) (Same.refl H2) hm3
    have f3 : upd H2 m3 (.lst [.bl (decide (8 = j)), .bl (decide (9 = j)), .bl (decide (10 = j)), .bl (decide (11 = j))]) m3 = some (.lst [.bl (decide (8 = j)), .bl (decide (9 = j)), .bl (decide (10 = j)), .bl (decide (11 = j))]) := upd_same
    have e3' := t3 _ _ e2
    generalize upd H2 m3 (.lst [.bl (decide (8 = j)), .bl (decide (9 = j)), .bl (decide (10 = j)), .bl (decide (11 = j))]) = G3 at t3 f3 e3' ⊢
    refine ⟨k2, m3, _, _, rfl, rfl, e3', f3, by show 12 ≤ sizeLine; decide, fun k3 h3 => ?_⟩
    have s3 := sameNew (o := .lst (([.bl (decide (0 = j)), .bl (decide (1 = j)), .bl (decide (2 = j)), .bl (decide (3 = j))] ++ [.bl (decide (4 = j)), .bl (decide (5 = j)), .bl (decide (6 = j)), .bl (decide (7 = j))]) ++ [.bl (decide (8 = j)), .bl (decide (9 = j)), .bl (decide (10 = j)), .bl (decide (11 = j))])) (s2.trans t3) h3
    have e3 : upd G3 k3 (.lst ([.bl (decide (0 = j)), .bl (decide (1 = j)), .bl (decide (2 = j)), .bl (decide (3 = j))] ++ [.bl (decide (4 = j)), .bl (decide (5 = j)), .bl (decide (6 = j)), .bl (decide (7 = j))] ++ [.bl (decide (8 = j)), .bl (decide (9 = j)), .bl (decide (10 = j)), .bl (decide (11 = j))])) k3 = some (.lst ([.bl (decide (0 = j)), .bl (decide (1 = j)), .bl (decide (2 = j)), .bl (decide (3 = j))] ++ [.bl (decide (4 = j)), .bl (decide (5 = j)), .bl (decide (6 = j)), .bl (decide (7 = j))] ++ [.bl (decide (8 = j)), .bl (decide (9 = j)), .bl (decide (10 = j)), .bl (decide (11 = j))])) := upd_same
    have hd3 := dictAt_same hd s3
    generalize upd G3 k3 (.lst ([.bl (decide (0 = j)), .bl (decide (1 = j)), .bl (decide (2 = j)), .bl (decide (3 = j))] ++ [.bl (decide (4 = j)), .bl (decide (5 = j)), .bl (decide (6 = j)), .bl (decide (7 = j))] ++ [.bl (decide (8 = j)), .bl (decide (9 = j)), .bl (decide (10 = j)), .bl (decide (11 = j))])) = H3 at s3 e3 hd3 ⊢
    refine ⟨_, rfl, _, rfl, _, _, _, rfl, (fun _ r => r), hd3, O.one 12 (by decide), _, rfl, _, _, _, rfl, (fun _ r => r), hd3, O.one 13 (by decide), _, rfl, _, _, _, rfl, (fun _ r => r), hd3, O.one 14 (by decide), by show 3 ≤ sizeLine; decide, fun m4 hm4 => ?_⟩
    have t4 := sameNew (o := .lst [.bl (decide (12 = j)), .bl (decide (13 = j)), .bl (decide (14 = j))]) (Same.refl H3) hm4
    have f4 : upd H3 m4 (.lst [.bl (decide (12 = j)), .bl (decide (13 = j)), .bl (decide (14 = j))]) m4 = some (.lst [.bl (decide (12 = j)), .bl (decide (13 = j)), .bl (decide (14 = j))]) := upd_same
    have e4' := t4 _ _ e3
    generalize upd H3 m4 (.lst [.bl (decide (12 = j)), .bl (decide (13 = j)), .bl (decide (14 = j))]) = G4 at t4 f4 e4' ⊢
    refine ⟨k3, m4, _, _, rfl, rfl, e4', f4, by show 15 ≤ sizeLine; decide, fun k4 h4 => ?_⟩
    have s4 := sameNew (o := .lst (([.bl (decide (0 = j)), .bl (decide (1 = j)), .bl (decide (2 = j)), .bl (decide (3 = j))] ++ [.bl (decide (4 = j)), .bl (decide (5 = j)), .bl (decide (6 = j)), .bl (decide (7 = j))] ++ [.bl (decide (8 = j)), .bl (decide (9 = j)), .bl (decide (10 = j)), .bl (decide (11 = j))]) ++ [.bl (decide (12 = j)), .bl (decide (13 = j)), .bl (decide (14 = j))])) (s3.trans t4) h4
    have e4 : upd G4 k4 (.lst ([.bl (decide (0 = j)), .bl (decide (1 = j)), .bl (decide (2 = j)), .bl (decide (3 = j))] ++ [.bl (decide (4 = j)), .bl (decide (5 = j)), .bl (decide (6 = j)), .bl (decide (7 = j))] ++ [.bl (decide (8 = j)), .bl (decide (9 = j)), .bl (decide (10 = j)), .bl (decide (11 = j))] ++ [.bl (decide (12 = j)), .bl (decide (13 = j)), .bl (decide (14 = j))])) k4 = some (.lst ([.bl (decide (0 = j)), .bl (decide (1 = j)), .bl (decide (2 = j)), .bl (decide (3 = j))] ++ [.bl (decide (4 = j)), .bl (decide (5 = j)), .bl (decide (6 = j)), .bl (decide (7 = j))] ++ [.bl (decide (8 = j)), .bl (decide (9 = j)), .bl (decide (10 = j)), .bl (decide (11 = j))] ++ [.bl (decide (12 = j)), .bl (decide (13 = j)), .bl (decide (14 = j))])) := upd_same
    have hd4 := dictAt_same hd s4
    generalize upd G4 k4 (.lst ([.bl (decide (0 = j)), .bl (decide (1 = j)), .bl (decide (2 = j)), .bl (decide (3 = j))] ++ [.bl (decide (4 = j)), .bl (decide (5 = j)), .bl (decide (6 = j)), .bl (decide (7 = j))] ++ [.bl (decide (8 = j)), .bl (decide (9 = j)), .bl (decide (10 = j)), .bl (decide (11 = j))] ++ [.bl (decide (12 = j)), .bl (decide (13 = j)), .bl (decide (14 = j))])) = H4 at s4 e4 hd4 ⊢
    have e4 : H4 k4 = some (.lst (ysJ j)) := e4
    refine ⟨by show 9 ≤ sizeLine; decide, fun a1 ha1 => ?_⟩
    have u1 := sameNew (o := .lst ((nm15.take 9).map V.str)) (Same.refl H4) ha1
    have g1 : upd H4 a1 (.lst ((nm15.take 9).map V.str)) a1 = some (.lst ((nm15.take 9).map V.str)) := upd_same
    refine ⟨_, rfl, by show 6 ≤ sizeLine; decide, fun a2 ha2 => ?_⟩
    have u2 := sameNew (o := .lst ((nm15.drop 9).map V.str)) (Same.refl (upd H4 a1 (.lst ((nm15.take 9).map V.str)))) ha2
    have g2 : upd (upd H4 a1 (.lst ((nm15.take 9).map V.str))) a2 (.lst ((nm15.drop 9).map V.str)) a2 = some (.lst ((nm15.drop 9).map V.str)) := upd_same
    refine ⟨a1, a2, (nm15.take 9).map V.str, (nm15.drop 9).map V.str, rfl, rfl, u2 _ _ g1, g2, by show 15 ≤ sizeLine; decide, fun a3 ha3 => ?_⟩
    have u3 := sameNew (o := .lst ((nm15.take 9).map V.str ++ (nm15.drop 9).map V.str)) ((s4.trans u1).trans u2) ha3
    have u43 := sameNew (o := .lst ((nm15.take 9).map V.str ++ (nm15.drop 9).map V.str)) (u1.trans u2) ha3
    have g3 : upd (upd (upd H4 a1 (.lst ((nm15.take 9).map V.str))) a2 (.lst ((nm15.drop 9).map V.str))) a3 (.lst ((nm15.take 9).map V.str ++ (nm15.drop 9).map V.str)) a3 = some (.lst (nm15.map V.str)) := upd_same
    have e5 := u43 _ _ e4
    have hd5 := dictAt_same hd u3
    have k5 := k _ u3
    obtain ⟨y1, y2, y3, y4⟩ := ysJ_ok j O.lt
    refine ⟨_, rfl, .inl ⟨rfl, _, SqL.of e5⟩, k4, ysJ j, .bl true, rfl, rfl, SqL.of e5, rfl, y1, ?_⟩
    rw [y2]
    refine ⟨rfl, _, rfl, iteT' rfl ?_⟩
    refine ⟨_, rfl, _, _, _, rfl, (fun _ r => r), hd5, O.ve, _, rfl, iteT ?_⟩
    refine ⟨_, rfl, _, rfl, .inl ⟨rfl, _, SqL.of e5⟩, k4, ysJ j, .bl true, j, .bl true, rfl, rfl, SqL.of e5, rfl, y1, y3, rfl, fun m z hm hz => ?_, ?_⟩
    · rw [y4 m hm] at hz
      cases hz
      rfl
    · exact ⟨a3, _, _, _, rfl, rfl, SqL.of g3, atI_nat (nm15_ok j O.lt), k5⟩
end
end RS
set_option Elab.async false
set_option maxRecDepth 100000
set_option maxHeartbeats 8000000
namespace RS
open PySem PySem.Spec PyProof.Rows L2 GX
section
variable {P : Program} {w : World} {K : PySem.W.Frag} {mg : Str → Option Value} {base : Heap}
theorem scAlike : FnScope ["_law_found", "_law_due", "_law_k"] ["_law_found", "_law_due"] (defScope sAlike) := ⟨rfl, rfl, rfl, by decide +kernel, rfl, by decide +kernel, by decide +kernel⟩
def spAlike (K : PySem.W.Frag) (n : Nat) : Sp := fun vs H Q _ => ∃ (v1 v2 : V) (d : PyData), vs = [v1, v2] ∧ Dp K H v1 d ∧ Dp K H v2 d ∧ few d ∧ d.depth ≤ n ∧ Q (.bl true) H
set_option linter.unusedVariables false in
theorem alike_none {c : Addr} (D : DefAt K mg "_law_alike" sAlike c) : Cal P w K mg base CX0 1 "_law_alike" ["_law_found", "_law_due"] (fun _ _ _ _ => False) :=
  def_ok0 D scAlike (fun vs H Q E h => h.elim) (fun _ _ _ _ _ _ us hl => match us, hl with | [_, _], _ => rfl) (fun f A outer s H vs Q E hr h => h.elim)
theorem alike_step {c : Addr} (D : DefAt K mg "_law_alike" sAlike c) (T : Txt K mg) {j : Nat} (n : Nat) {sp : Sp} (hj : 1 ≤ j) (cR : Cal P w K mg base CX0 j "_law_alike" ["_law_found", "_law_due"] sp)
    (hsp : ∀ (v1 v2 : V) (d : PyData) (H : Hp) (Q : VK) (E : XK), Dp K H v1 d → Dp K H v2 d → few d → d.depth + 1 ≤ n → Q (.bl true) H → sp [v1, v2] H Q E) : Cal P w K mg base CX0 (j + 1) "_law_alike" ["_law_found", "_law_due"] (spAlike K n) := by
  have sc := scAlike
  refine def_ok0 D sc (fun vs H Q E h => ?_) (fun _ _ _ _ _ _ us hl => match us, hl with | [_, _], _ => rfl) (fun f A outer s H vs Q E hr h => ?_)
  · obtain ⟨v1, v2, d, rfl, _⟩ := h
    rfl
  · obtain ⟨v1, v2, d, rfl, h1, h2, hf, hn, k⟩ := h
    refine ⟨_, (pss_cons (ps_if (pt_cmpR op_isN (pv 1) pe_non (nomark _)) (pss_one (ps_ret (pe_cmpR op_isN (pv 0) pe_non (nomark _)))) pss_nil) (pss_cons (ps_if (pt_val (pe_callB call_isiD (by rfl) T.isinstance (by decide +kernel) (pa_cons (pv 1) (pa_cons (pe_bltn (v := V.ty "bool") (u := Value.type "bool") (by rfl) T.bool_ (by decide +kernel) rfl) pa_nil)))) (pss_one (ps_ret (pe_and (pe_callB call_isiD (by rfl) T.isinstance (by decide +kernel) (pa_cons (pv 0) (pa_cons (pe_bltn (v := V.ty "bool") (u := Value.type "bool") (by rfl) T.bool_ (by decide +kernel) rfl) pa_nil))) (pe_one (pe_cmpR op_eq (pv 0) (pv 1) (nomark _)))))) pss_nil) (pss_cons (ps_if (pt_val (pe_callB call_isiD (by rfl) T.isinstance (by decide +kernel) (pa_cons (pv 1) (pa_cons (pe_bltn (v := V.ty "int") (u := Value.type "int") (by rfl) T.int_ (by decide +kernel) rfl) pa_nil)))) (pss_one (ps_ret (pe_and (pe_callB call_isiD (by rfl) T.isinstance (by decide +kernel) (pa_cons (pv 0) (pa_cons (pe_bltn (v := V.ty "int") (u := Value.type "int") (by rfl) T.int_ (by decide +kernel) rfl) pa_nil))) (pe_and (pe_not (pe_callB call_isiD (by rfl) T.isinstance (by decide +kernel) (pa_cons (pv 0) (pa_cons (pe_bltn (v := V.ty "bool") (u := Value.type "bool") (by rfl) T.bool_ (by decide +kernel) rfl) pa_nil)))) (pe_one (pe_cmpR op_eq (pv 0) (pv 1) (nomark _))))))) pss_nil) (pss_cons (ps_if (pt_val (pe_callB call_isiD (by rfl) T.isinstance (by decide +kernel) (pa_cons (pv 1) (pa_cons (pe_bltn (v := V.ty "str") (u := Value.type "str") (by rfl) T.str_ (by decide +kernel) rfl) pa_nil)))) (pss_one (ps_ret (pe_and (pe_callB call_isiD (by rfl) T.isinstance (by decide +kernel) (pa_cons (pv 0) (pa_cons (pe_bltn (v := V.ty "str") (u := Value.type "str") (by rfl) T.str_ (by decide +kernel) rfl) pa_nil))) (pe_one (pe_cmpR op_eq (pv 0) (pv 1) (nomark _)))))) pss_nil) (pss_cons (ps_if ((pw_or (pt_cmpR op_ne (pe_callB call_isiD (by rfl) T.isinstance (by decide +kernel) (pa_cons (pv 1) (pa_cons (pe_bltn (v := V.ty "tuple") (u := Value.type "tuple") (by rfl) T.tuple_ (by decide +kernel) rfl) pa_nil))) (pe_callB call_isiD (by rfl) T.isinstance (by decide +kernel) (pa_cons (pv 0) (pa_cons (pe_bltn (v := V.ty "tuple") (u := Value.type "tuple") (by rfl) T.tuple_ (by decide +kernel) rfl) pa_nil))) (nomark _)) (pw_or1 (pt_cmpR op_ne (pe_callB call_isiD (by rfl) T.isinstance (by decide +kernel) (pa_cons (pv 1) (pa_cons (pe_bltn (v := V.ty "list") (u := Value.type "list") (by rfl) T.list_ (by decide +kernel) rfl) pa_nil))) (pe_callB call_isiD (by rfl) T.isinstance (by decide +kernel) (pa_cons (pv 0) (pa_cons (pe_bltn (v := V.ty "list") (u := Value.type "list") (by rfl) T.list_ (by decide +kernel) rfl) pa_nil))) (nomark _)))).pt) (pss_one (ps_ret pe_bl)) pss_nil) (pss_cons (ps_if (pt_cmpR op_ne (pe_callB call_lenD (by rfl) T.len PySem.boot_len (pa_cons (pv 0) pa_nil)) (pe_callB call_lenD (by rfl) T.len PySem.boot_len (pa_cons (pv 1) pa_nil)) (nomark _)) (pss_one (ps_ret pe_bl)) pss_nil) (pss_cons (ps_for PassesOwn.never rfl (pi_range1 (by rfl) T.range (pa_cons (pe_callB call_lenD (by rfl) T.len PySem.boot_len (pa_cons (pv 1) pa_nil)) pa_nil)) (pg_name (i := 2) sc.nd rfl (Or.inl rfl)) (pss_one (ps_if (pt_not (pt_val (pe_c cR hr (by omega) (by rfl) pass0 (pa_cons (pe_ix ixD (pv 0) (pv 2) (fun _ _ => rfl)) (pa_cons (pe_ix ixD (pv 1) (pv 2) (fun _ _ => rfl)) pa_nil))))) (pss_one (ps_ret pe_bl)) pss_nil))) (pss_one (ps_ret pe_bl))))))))), ?_⟩
    refine ⟨_, rfl, rfl, _, rfl, ?_⟩
    cases h2 with
    | non =>
      cases h1
      exact iteT ⟨_, rfl, rfl, k⟩
    | bl b =>
      cases h1
      refine iteF ⟨_, rfl, _, _, _, rfl, by simp, .bl b, _, rfl, ?_⟩
      refine iteT ⟨_, rfl, _, _, _, rfl, by simp, .bl b, _, rfl, ?_⟩
      refine iteT ⟨_, rfl, _, rfl, rfl, ?_⟩
      have e : decide (V.bl b = V.bl b) = true := decide_eq_true rfl
      rw [e]
      exact k
    | int i =>
      cases h1
      refine iteF ⟨_, rfl, _, _, _, rfl, by simp, .int i, _, rfl, ?_⟩
      refine iteF ⟨_, rfl, _, _, _, rfl, by simp, .int i, _, rfl, ?_⟩
      refine iteT ⟨_, rfl, _, _, _, rfl, by simp, .int i, _, rfl, ?_⟩
      refine iteT ⟨_, rfl, _, _, _, rfl, by simp, .int i, _, rfl, _, rfl, ?_⟩
      refine iteT ⟨_, rfl, _, rfl, rfl, ?_⟩
      have e : decide (V.int i = V.int i) = true := decide_eq_true rfl
      rw [e]
      exact k
    | str x =>
      cases h1
      refine iteF ⟨_, rfl, _, _, _, rfl, by simp, .str x, _, rfl, ?_⟩
      refine iteF ⟨_, rfl, _, _, _, rfl, by simp, .str x, _, rfl, ?_⟩
      refine iteF ⟨_, rfl, _, _, _, rfl, by simp, .str x, _, rfl, ?_⟩
      refine iteT ⟨_, rfl, _, _, _, rfl, by simp, .str x, _, rfl, ?_⟩
      refine iteT ⟨_, rfl, _, rfl, rfl, ?_⟩
      have e : decide (V.str x = V.str x) = true := decide_eq_true rfl
      rw [e]
      exact k
    | @lst a2 x2 ds q2 i2 =>
      have h2 : Dp K H (.ref a2) (.list ds) := .lst q2 i2
      have hds : ds.length ≤ 1000000 ∧ ∀ d ∈ ds, few d := by
        have : ds.length ≤ 1000000 ∧ fews ds := by simpa only [few] using hf
        exact ⟨this.1, fews_iff.mp this.2⟩
      have hdep : ∀ d ∈ ds, d.depth + 1 ≤ n := fun d hd => by
        have a : PyData.depthAll ds + 1 ≤ n := by simpa only [PyData.depth] using hn
        have := depth_mem hd
        omega
      obtain ⟨a1, rfl⟩ : ∃ a1, v1 = .ref a1 := by cases h1; exact ⟨_, rfl⟩
      refine iteF ⟨_, rfl, _, _, _, rfl, by simp, h2, _, rfl, ?_⟩
      refine iteF ⟨_, rfl, _, _, _, rfl, by simp, h2, _, rfl, ?_⟩
      refine iteF ⟨_, rfl, _, _, _, rfl, by simp, h2, _, rfl, ?_⟩
      refine iteF ⟨_, rfl, _, _, _, rfl, by simp, h2, _, rfl, _, _, _, rfl, by simp, h1, rfl, _, rfl, ?_⟩
      refine iteF' (by simp) ⟨_, rfl, _, _, _, rfl, by simp, h2, _, rfl, _, _, _, rfl, by simp, h1, rfl, _, rfl, ?_⟩
      refine iteF' (by simp) ⟨_, rfl, _, _, _, rfl, h1, rfl, _, rfl, _, _, _, rfl, h2, rfl, rfl, _, rfl, ?_⟩
      refine iteF' (by simp) ⟨_, rfl, _, _, _, rfl, h2, rfl, _, rfl, by omega, by omega, ?_⟩
      rw [Int.toNat_natCast]
      refine for_range (fun i σ H' => ∃ v3 : Option V, σ = [some (.ref a1), some (.ref a2), v3] ∧ H' = H) ⟨none, rfl, rfl⟩ ?_ ?_
      · rintro i σ H' hi ⟨v3, rfl, rfl⟩
        simp only [Int.zero_add]
        refine ⟨_, rfl, _, rfl, .list ds, ds, (i : Nat), ds[i], h1, rfl, rfl, atI_nat (List.getElem?_eq_getElem hi), fun w1 hw1 => ?_⟩
        refine ⟨_, rfl, _, rfl, .list ds, ds, (i : Nat), ds[i], h2, rfl, rfl, atI_nat (List.getElem?_eq_getElem hi), fun w2 hw2 => ?_⟩
        refine hsp w1 w2 ds[i] H' _ _ hw1 hw2 (hds.2 _ (List.getElem_mem hi)) (hdep _ (List.getElem_mem hi)) ⟨_, rfl, ?_⟩
        exact iteF ⟨_, rfl, rfl⟩
      · rintro σ H' ⟨v3, rfl, rfl⟩
        exact k
    | @tup a2 x2 ds q2 i2 =>
      have h2 : Dp K H (.ref a2) (.tuple ds) := .tup q2 i2
      have hds : ds.length ≤ 1000000 ∧ ∀ d ∈ ds, few d := by
        have : ds.length ≤ 1000000 ∧ fews ds := by simpa only [few] using hf
        exact ⟨this.1, fews_iff.mp this.2⟩
      have hdep : ∀ d ∈ ds, d.depth + 1 ≤ n := fun d hd => by
        have a : PyData.depthAll ds + 1 ≤ n := by simpa only [PyData.depth] using hn
        have := depth_mem hd
        omega
      obtain ⟨a1, rfl⟩ : ∃ a1, v1 = .ref a1 := by cases h1; exact ⟨_, rfl⟩
      refine iteF ⟨_, rfl, _, _, _, rfl, by simp, h2, _, rfl, ?_⟩
      refine iteF ⟨_, rfl, _, _, _, rfl, by simp, h2, _, rfl, ?_⟩
      refine iteF ⟨_, rfl, _, _, _, rfl, by simp, h2, _, rfl, ?_⟩
      refine iteF ⟨_, rfl, _, _, _, rfl, by simp, h2, _, rfl, _, _, _, rfl, by simp, h1, rfl, _, rfl, ?_⟩
      refine iteF' (by simp) ⟨_, rfl, _, _, _, rfl, by simp, h2, _, rfl, _, _, _, rfl, by simp, h1, rfl, _, rfl, ?_⟩
      refine iteF' (by simp) ⟨_, rfl, _, _, _, rfl, h1, rfl, _, rfl, _, _, _, rfl, h2, rfl, rfl, _, rfl, ?_⟩
      refine iteF' (by simp) ⟨_, rfl, _, _, _, rfl, h2, rfl, _, rfl, by omega, by omega, ?_⟩
      rw [Int.toNat_natCast]
      refine for_range (fun i σ H' => ∃ v3 : Option V, σ = [some (.ref a1), some (.ref a2), v3] ∧ H' = H) ⟨none, rfl, rfl⟩ ?_ ?_
      · rintro i σ H' hi ⟨v3, rfl, rfl⟩
        simp only [Int.zero_add]
        refine ⟨_, rfl, _, rfl, .tuple ds, ds, (i : Nat), ds[i], h1, rfl, rfl, atI_nat (List.getElem?_eq_getElem hi), fun w1 hw1 => ?_⟩
        refine ⟨_, rfl, _, rfl, .tuple ds, ds, (i : Nat), ds[i], h2, rfl, rfl, atI_nat (List.getElem?_eq_getElem hi), fun w2 hw2 => ?_⟩
        refine hsp w1 w2 ds[i] H' _ _ hw1 hw2 (hds.2 _ (List.getElem_mem hi)) (hdep _ (List.getElem_mem hi)) ⟨_, rfl, ?_⟩
        exact iteF ⟨_, rfl, rfl⟩
      · rintro σ H' ⟨v3, rfl, rfl⟩
        exact k
theorem alike_ok {c : Addr} (D : DefAt K mg "_law_alike" sAlike c) (T : Txt K mg) : ∀ n : Nat, Cal P w K mg base CX0 (n + 2) "_law_alike" ["_law_found", "_law_due"] (spAlike K n)
  | 0 => alike_step D T 0 (Nat.le_refl _) (alike_none D) (fun _ _ _ _ _ _ _ _ _ h _ => by omega)
  | n + 1 => alike_step D T (n + 1) (by omega) (alike_ok D T n) (fun v1 v2 d H Q E h1 h2 h3 h4 q => ⟨v1, v2, d, rfl, h1, h2, h3, by omega, q⟩)
end
end RS
set_option Elab.async false
set_option maxRecDepth 100000
set_option maxHeartbeats 4000000
set_option pp.maxSteps 400
namespace RS
open PySem PySem.Spec PyProof.Rows L2 GX LM
theorem in_seqC {X : Cx} {K : PySem.W.Frag} (e : X.K = K) : OpR X (compareOp .In) (rIn K false) := by
  subst e
  exact op_in_seq
/-- what the law tells of an error beside its name -/
def ErrV (K : PySem.W.Frag) (D : Addr) (j : Nat) (d : Option Addr) (H : Hp) (v : Int) : Prop :=
  if j = 3 ∨ j = 2 ∨ j = 14 then XfC K D ∧ PySem.W.findIn K (.ref D) (if j = 3 then ("number" : Str) else "place") = some none ∧ ∃ (dd : Addr) (fs : List (Str × V)), d = some dd ∧ H dd = some (.xd fs) ∧ fs.lookup (if j = 3 then ("number" : Str) else "place") = some (.int v) else v = 0
section
variable {P : Program} {w : World} {K : PySem.W.Frag} {mg : Str → Option Value} {base : Heap}
theorem word_runs : ∀ j < 15, decide (V.str (nm15.getD j "") = V.str "BadRuns") = decide (j = 3) := by decide +kernel
theorem word_place : ∀ j < 15, inV (.str (nm15.getD j "")) [.str "BadRows", .str "BadText"] = decide (j = 2 ∨ j = 14) := by decide +kernel
theorem scTold : FnScope ["_law_work", "_law_e", "_law_word"] ["_law_work"] (defScope sTold) := ⟨rfl, rfl, rfl, by decide +kernel, rfl, by decide +kernel, by decide +kernel⟩
/-- an error of the class j leaves, with the number v -/
def ErrOk (K : PySem.W.Frag) (SE : Addr) (C : Nat → Addr) (Q : V → Hp → Prop) : XK := fun cls d H' => ∃ (D : Addr) (j : Nat) (v : Int), cls = .ref D ∧ Own15 K C D j ∧ PySem.W.exmOne K (.ref D) (.ref SE) = some true ∧ DictAt d H' ∧ ErrV K D j d H' v ∧
  ∀ (H'' : Hp) (t : Addr), Same H' H'' → H'' t = some (.tup [.str (nm15.getD j ""), .int v]) → Q (.ref t) H''
def spTold (P : Program) (w : World) (K : PySem.W.Frag) (mg : Str → Option Value) (base : Heap) (SE : Addr) (C : Nat → Addr) (n : Nat) : Sp := fun vs H Q _ => ∃ (f : Addr) (R : Hp → Prop) (tl : Hp → VK → XK → Prop), vs = [.ref f] ∧ Act P w K mg base n f R tl ∧ R H ∧ ∀ E : XK, (∀ cls d H', ErrOk K SE C Q cls d H' → E cls d H') → tl H Q E
theorem told_ok {c SE : Addr} {C : Nat → Addr} (DD : DefAt K mg "_law_told" sTold c) (n : Nat) (hn : 1 ≤ n) (gS : mg "SortError" = some (.ref SE)) (cC : CalW P w K mg base 1 "_law_class" ["_law_e"] (spClass K C)) : Cal P w K mg base CX0 (n + 1) "_law_told" ["_law_work"] (spTold P w K mg base SE C n) := by
  have sc := scTold
  refine def_ok0 DD sc (fun vs H Q E h => ?_) (fun _ _ _ _ _ _ us hl => match us, hl with | [_], _ => rfl) (fun f A outer s H vs Q E hr h => ?_)
  · obtain ⟨f, R, tl, rfl, _⟩ := h
    rfl
  · obtain ⟨g, R, tl, rfl, act, hR, ht⟩ := h
    refine ⟨_, pss_one (ps_try_as (X := (cxOf CX0 P w K mg base ["_law_work", "_law_e", "_law_word"] "_law_told" (defScope sTold) f (.ref c) A outer s H E).nox) (i := 1) (c := .ref SE) rfl rfl sc.nd rfl rfl ⟨rfl, by decide, .inl gS⟩ LamX.takes0 (fun W pn xe tk _ => pss_one (ps_ret (pe_act (P := P) (w := w) (K := K) (mg := mg) (base := base) rfl rfl rfl rfl rfl (fun σ => passAt tk σ) hr (Nat.le_refl _) (pv 0))))
      (fun a oe cls d pn hz hf => (pss_cons (ps_set (i := 2) sc.nd rfl (Or.inl rfl) (pe_cW (X := Cx.suite (cxOf CX0 P w K mg base ["_law_work", "_law_e", "_law_word"] "_law_told" (defScope sTold) f (.ref c) A outer s H E).nox a ((a, oe) :: pn)) (k := 1) (j := n) cC ⟨hr.dp, hr.un⟩ hn List.mem_cons_self hz hf (by rfl) (pa_cons (pv 1) pa_nil))) (pss_cons (ps_if (pt_cmpR op_eq (pv 2) pe_str (nomark _)) (pss_one (ps_ret (pe_tup (pa_cons (pv 2) (pa_cons (pe_xfA hz hf (pv 1)) pa_nil))))) pss_nil) (pss_one (ps_ret (pe_tup (pa_cons (pv 2) (pa_cons (pe_ifExp (pt_cmpR (in_seqC (K := K) rfl) (pv 2) (pe_tup (pa_cons pe_str (pa_cons pe_str pa_nil))) (by rfl)) (pe_xfA hz hf (pv 1)) pe_int) pa_nil))))))))), ?_⟩
    refine ⟨_, rfl, g, R, tl, rfl, act, hR, ht _ fun cls d H' ⟨D, j, v, ec, O, hm, hd, ev, q⟩ => ?_⟩
    subst ec
    refine ⟨true, hm, fun _ a ha => ?_, fun z => nomatch z⟩
    refine ⟨_, rfl, D, j, rfl, rfl, O, hd, fun H2 s2 => ?_⟩
    refine ⟨_, rfl, rfl, _, rfl, ?_⟩
    rw [word_runs j O.lt]
    unfold ErrV at ev
    by_cases h3 : j = 3
    · subst h3
      rw [if_pos (.inl rfl), if_pos rfl] at ev
      obtain ⟨x1, x2, dd, fs, e1, e2, e3⟩ := ev
      refine iteT' rfl ?_
      exact ⟨_, rfl, D, x1, x2, _, rfl, rfl, rfl, dd, fs, _, e1, s2 _ _ e2, e3, by show 2 ≤ sizeLine; decide, fun t ht => q _ t (sameNew s2 ht) upd_same⟩
    · refine iteF' (decide_eq_false h3) ?_
      refine ⟨_, rfl, _, rfl, by show 2 ≤ sizeLine; decide, fun tt htt => ?_⟩
      have s3 := sameNew (o := .tup [.str "BadRows", .str "BadText"]) s2 htt
      refine ⟨tt, _, rfl, .inr (SqT.of upd_same), rfl, rfl, _, rfl, ?_⟩
      rw [if_neg Bool.false_ne_true, word_place j O.lt]
      by_cases h2 : j = 2 ∨ j = 14
      · rw [if_pos (.inr h2), if_neg h3] at ev
        obtain ⟨x1, x2, dd, fs, e1, e2, e3⟩ := ev
        refine iteT' (decide_eq_true h2) ?_
        exact ⟨D, x1, x2, _, rfl, rfl, rfl, dd, fs, _, e1, s3 _ _ e2, e3, by show 2 ≤ sizeLine; decide, fun t ht => q _ t (sameNew s3 ht) upd_same⟩
      · rw [if_neg fun z => z.elim h3 h2] at ev
        subst ev
        refine iteF' (decide_eq_false h2) ?_
        exact ⟨by show 2 ≤ sizeLine; decide, fun t ht => q _ t (sameNew s3 ht) upd_same⟩
theorem scAll : FnScope ["_law_works", "_law_due", "_law_work"] ["_law_works", "_law_due"] (defScope sAll) := ⟨rfl, rfl, rfl, by decide +kernel, rfl, by decide +kernel, by decide +kernel⟩
/-- f, called now or behind more, tells dd -/
def Works (P : Program) (w : World) (K : PySem.W.Frag) (mg : Str → Option Value) (base : Heap) (SE : Addr) (C : Nat → Addr) (n : Nat) (f : Addr) (H : Hp) (dd : PyData) : Prop :=
  ∀ (H1 : Hp) (Q1 : VK), Same H H1 → (∀ x H2, Same H1 H2 → Dp K H2 x dd → Q1 x H2) → spTold P w K mg base SE C n [.ref f] H1 Q1 E0
def spAll (P : Program) (w : World) (K : PySem.W.Frag) (mg : Str → Option Value) (base : Heap) (SE : Addr) (C : Nat → Addr) (n : Nat) : Sp := fun vs H Q _ => ∃ (L : Addr) (fs : List Addr) (v : V) (dd : PyData), vs = [.ref L, v] ∧ H L = some (.lst (fs.map V.ref)) ∧ fs.length ≤ 20 ∧ Dp K H v dd ∧ few dd ∧ dd.depth ≤ 40 ∧
  (∀ f ∈ fs, Works P w K mg base SE C n f H dd) ∧ ∀ H', Same H H' → Q (.bl true) H'
theorem all_ok {c SE : Addr} {C : Nat → Addr} (DD : DefAt K mg "_law_all" sAll c) (n m : Nat) (h1 : n + 1 ≤ m) (h2 : 42 ≤ m) (cT : Cal P w K mg base CX0 (n + 1) "_law_told" ["_law_work"] (spTold P w K mg base SE C n)) (cA : Cal P w K mg base CX0 42 "_law_alike" ["_law_found", "_law_due"] (spAlike K 40)) :
    Cal P w K mg base CX0 (m + 1) "_law_all" ["_law_works", "_law_due"] (spAll P w K mg base SE C n) := by
  have sc := scAll
  refine def_ok0 DD sc (fun vs H Q E h => ?_) (fun _ _ _ _ _ _ us hl => match us, hl with | [_, _], _ => rfl) (fun f A outer s H vs Q E hr h => ?_)
  · obtain ⟨L, fs, v, dd, rfl, _⟩ := h
    rfl
  · obtain ⟨L, fs, v, dd, rfl, hL, l20, hv, hf, hdp, hw, k⟩ := h
    have hu := hr.units
    refine ⟨_, (pss_one (ps_ret (pe_cmpR (op_eqD hu) (pe_lc (own := [("_law_work", 2)]) (tt := _) rfl sc.nd (pi_list (pv 0)) (blkOk_by (N := ["_law_works", "_law_due", "_law_work"]) (sc := defScope sAll) (own := [("_law_work", 2)]) (by decide +kernel)) (fun _ _ _ _ _ => (pg_name (i := 2) sc.nd rfl (Or.inl rfl))) (fun _ _ _ _ _ => pts_one (pt_not (pt_val (pe_c cA hr h2 (by rfl) pass0 (pa_cons (pe_c cT hr h1 (by rfl) pass0 (pa_cons (pv 2) pa_nil)) (pa_cons (pv 1) pa_nil)))))) (fun _ _ _ _ _ => pv 2)) (pe_lst pa_nil) (nomark _)))), ?_⟩
    refine ⟨_, rfl, L, rfl, ⟨_, SqL.of hL⟩, fun DD hD => ?_⟩
    refine lc_list (K := K) (a := L) (xs := fs.map V.ref) (fun j H' => Same H H' ∧ H' DD = some (.lst [])) ⟨fun b o e => by rw [upd_ne (ne_of_none e hD)]; exact e, upd_same⟩ (fun j H4 _ h => h.1.seq (SqL.of hL)) ?_ ?_
    · rintro j x H4 hx ⟨sm, hl4⟩
      obtain ⟨g, eg, rfl⟩ : ∃ g, fs[j]? = some g ∧ x = V.ref g := by
        rw [List.getElem?_map] at hx
        cases z : fs[j]? with
        | none => rw [z] at hx; cases hx
        | some b => rw [z] at hx; exact ⟨b, rfl, (Option.some.inj hx).symm⟩
      refine ⟨rfl, _, rfl, hw g (List.mem_of_getElem? eg) H4 _ sm fun x H5 s5 hx5 => ?_⟩
      refine ⟨_, rfl, x, v, dd, rfl, hx5, dp_same s5 _ (dp_same sm _ hv), hf, hdp, _, rfl, ?_⟩
      exact iteF ⟨sm.trans s5, s5 _ _ hl4⟩
    · rintro H4 ⟨sm, hl4⟩
      refine ⟨Nat.zero_le _, fun E2 hE2 => ?_⟩
      have s6 := sameNew (o := .lst []) (Same.refl H4) hE2
      refine ⟨.list [], .list [], .lst (s6.seq (SqL.of hl4)) .nil, .lst (SqL.of upd_same) .nil, by decide +kernel, ?_⟩
      refine ⟨by decide +kernel, ?_⟩
      have e : PyData.eqv (.list []) (.list []) = true := by simp [PyData.eqv, PyData.eqvAll]
      rw [e]
      exact k _ (sm.trans s6)
end
end RS
set_option Elab.async false
set_option maxRecDepth 100000
set_option maxHeartbeats 4000000
set_option pp.maxSteps 400
namespace RS
open PySem PySem.Spec PyProof.Rows L2 GX LM
section
variable {X : Cx} {e : Expr} {es : List Expr} {ta : TA} {p1 p2 pos : Pos}
/-- C.__init__(self, ..), C an own class that has ValueError's -/
theorem pe_veinitC {pl : Sem Bool} {x : Str} {SE : Addr} {mc : Value} (hg : Gl X x) (hm : X.mg x = some (.ref SE)) (cr : ClX.CRead X.K SE mc) (cv : PySem.W.findCls X.K (.ref SE) mc "__init__" = some (.val (.builtin "ValueError.__init__"))) (ha : PA X (e :: es) ta) (hdb : (x == ("__debug__" : Str)) = false := by decide)
    (hc : eval (.Call (.Attribute (.Name x p1) "__init__" p2) (e :: es) [] pos) X.env = (do
      let ov ← eval (.Name x p1) X.env
      standAt p2.atName
      let (f, first) ← holding [ov] (getMethod ov "__init__" pl)
      callWith pos f first (backTo pos (starEach (e :: es) X.env)) (backToKw pos (keywordEach [] X.env))) := by rfl)
    (he : starEach (e :: es) X.env = (false, eval e X.env) :: starEach es X.env := by rfl) (hpl : (backTo pos (starEach es X.env)).any (·.1) = false := by rfl) :
    PE X (.Call (.Attribute (.Name x p1) "__init__" p2) (e :: es) [] pos) (tVeI X.K ta) := by
  refine ⟨fun pins s σ H Q I h => ?_⟩
  refine PySem.W.methodCall_KW (ld_glob I hg hm ?_ hdb) hc
  refine PySem.W.method_cls I.kIn cr.ga (PySem.W.cls_value I.kIn cr.rd cv (by decide +kernel) ?_)
  show wpAny _ _ (callWith pos (Value.builtin "ValueError.__init__") [] (backTo pos (starEach (e :: es) X.env)) []) _ _ _
  refine PyProof.Rows.callWith_method1 (thn (ha.run pos pins _ σ H _ (I.tok _) h) fun us s1 ⟨vs, H1, I1, r1, a, C, ws, ev, hl, T, ea, q⟩ => ?_) he hpl
  subst ev
  cases r1 with
  | @cons _ u0 _ ur ra rw' =>
    obtain rfl : u0 = Value.ref a := ra
    have z : ur.length ≤ sizeLine := by
      rw [← Paired.length rw', sizeLine_eq]
      omega
    exact oinit_ok T I1 ea z fun s' J => ⟨.non, H1, J, rfl, q⟩
end
theorem len_app7 (x y : Str) : (x ++ y).length = x.length + y.length := by
  have e : ∀ z : Str, z.length = (TL.tl z).length := fun z => by simp [TL.tl, Str.length]
  rw [e, e x, e y, TL.tl_append, List.length_append]
/-! ### an error with a number -/
def spNumI (K : PySem.W.Frag) (C : Addr) (f : Str) : Sp := fun vs H Q _ => ∃ (a : Addr) (v : Nat), vs = [.ref a, .int (v : Nat)] ∧ v < 200 ∧ H a = some (exo a C none) ∧
  ∀ dx, H dx = none → dx ≠ a → Q .non (upd (upd H dx (exd dx [(f, .int (v : Nat))])) a (exo a C (some dx)))
theorem txt_small : ∀ n < 200, (toString ((n : Nat) : Int) : Str).length ≤ 20 ∧ ((n : Nat) : Int).natAbs.log2 < 1920 := by decide +kernel
/-- the text's class C: its __init__ tells a text, then keeps the number as f -/
structure NumE (P : Program) (w : World) (K : PySem.W.Frag) (mg : Str → Option Value) (base : Heap) (x f : Str) (C : Addr) : Prop where
  ex : ∃ (fI : Addr) (fd : FuncData), OexC K C ∧ PySem.W.findIn K (.ref C) "__init__" = some (some (.ref fI)) ∧ PySem.W.typeIn K (.ref fI) = some (.type "function") ∧ FnOk P w K mg base CX0 1 fI fd ["self", f] (spNumI K C f) ∧ Binds K fd ["self", f] [] ∧ mg x = some (.ref C)
section
variable {X : Cx} {e : Expr} {te : TE} {p pos : Pos} {x f : Str} {C : Addr}
theorem del_end {H1 : Hp} {a dx : Addr} {o u v y : HO} (hn : H1 a = none) (ne : dx ≠ a) : upd (L2.del (upd (upd (upd H1 a o) dx u) a v) a) dx y = upd H1 dx y := by
  funext b
  by_cases hb : b = dx
  · rw [hb, upd_same, upd_same]
  · rw [upd_ne hb, upd_ne hb]
    by_cases ha : b = a
    · rw [ha, L2.del_same, hn]
    · rw [L2.del_ne ha, upd_ne ha, upd_ne hb, upd_ne ha]
/-- C(e), to be raised -/
theorem pmk_num (N : NumE X.prog X.w X.K X.mg X.base x f C) (hr : Room 2 X.A) (hg : Gl X x) (he : PE X e te) (hs : starEach [e] X.env = (false, eval e X.env) :: starEach [] X.env := by rfl) (hdb : (x == ("__debug__" : Str)) = false := by decide) :
    L2.PMk X (.Call (.Name x p) [e] [] pos) (tMkO C (spNumI X.K C f) [] (tCons te tNil)) := by
  obtain ⟨fI, fd, T, iC, tI, F, hb, hm⟩ := N.ex
  exact pmk_oex T iC tI F hr hb .nil pass0 hg hm (pa_cons he pa_nil hs) hdb hs (by rfl)
/-- its reading, the number known -/
theorem num_end {K : PySem.W.Frag} {n : Nat} {H1 : Hp} {Q : XK} (hn : n < 200) (q : ∀ d, H1 d = none → Q (.ref C) (some d) (upd H1 d (.xd [(f, .int (n : Nat))]))) : [V.int (n : Nat)].length ≤ 1000 ∧ ∀ a, H1 a = none → spNumI K C f (.ref a :: ([V.int (n : Nat)] ++ [])) (upd H1 a (exo a C none))
    (fun v H2 => v = .non ∧ ∃ (d : Addr) (fs : List (Str × V)), H2 a = some (exo a C (some d)) ∧ H2 d = some (exd d fs) ∧ H1 d = none ∧ Q (.ref C) (some d) (upd (L2.del H2 a) d (.xd fs))) (fun _ _ _ => False) := by
  refine ⟨by show 1 ≤ 1000; decide, fun a ha => ⟨a, n, rfl, hn, upd_same, fun dx hd ne => ⟨rfl, dx, [(f, .int (n : Nat))], upd_same, (upd_ne ne).trans upd_same, (upd_ne ne).symm.trans hd, ?_⟩⟩⟩
  rw [del_end ha ne]
  exact q dx ((upd_ne ne).symm.trans hd)
end
section
variable {P : Program} {w : World} {K : PySem.W.Frag} {mg : Str → Option Value} {base : Heap}
theorem scPlaceI : FnScope ["self", "place"] ["self", "place"] (defScope s_BadRows_init) := ⟨rfl, rfl, rfl, by decide +kernel, rfl, by decide +kernel, by decide +kernel⟩
theorem init_place {fI C SE : Addr} {fd : FuncData} {mc : Value} (F : L2.Fun K "__init__" "BadRows.__init__" s_BadRows_init fI fd) (T : OexC K C) (iC : PySem.W.findIn K (.ref C) "__init__" = some (some (.ref fI))) (tI : PySem.W.typeIn K (.ref fI) = some (.type "function")) (hm : mg "BadRows" = some (.ref C)) (nf : PySem.W.findIn K (.ref C) "place" = some none)
    (gS : mg "SortError" = some (.ref SE)) (cr : ClX.CRead K SE mc) (cv : PySem.W.findCls K (.ref SE) mc "__init__" = some (.val (.builtin "ValueError.__init__"))) : NumE P w K mg base "BadRows" "place" C := by
  have sc := scPlaceI
  refine ⟨fI, fd, T, iC, tI, ?_, F.binds (fun _ _ _ _ _ _ us hl => match us, hl with | [_, _], _ => rfl), hm⟩
  refine F.ok sc (fun vs H Q E h => ?_) (fun cdv A outer s H vs Q E hr h => ?_)
  · obtain ⟨a, v, rfl, _⟩ := h
    rfl
  · obtain ⟨a, v, rfl, hv, ha, k⟩ := h
    refine ⟨_, (pss_cons (ps_expr (pe_veinitC (by rfl) gS cr cv (pa_cons (pv 0) (pa_cons (pe_joined (.cons pe_str (.cons (pe_fmt (pv 1)) .nil))) pa_nil)))) (pss_one (ps_ost (pv 0) (pv 1)))), ?_⟩
    obtain ⟨z1, z2⟩ := txt_small v hv
    have big : (1000 : Nat) ≤ sizeLine := by decide
    have e0 : (Str.empty ++ Str.ofString "no row that may stand at place ").length ≤ 100 := by decide +kernel
    refine ⟨_, rfl, _, rfl, by omega, _, rfl, .inr ⟨_, rfl, z2, _, rfl, ?_, a, C, _, rfl, by show 1 ≤ 1000; decide, T, ha, ?_⟩⟩
    · rw [len_app7]
      omega
    · exact ⟨_, rfl, _, rfl, a, C, rfl, T, nf, .inl ⟨ha, fun dx hd ne => k dx hd ne⟩⟩
end
end RS
set_option Elab.async false
set_option maxRecDepth 100000
set_option maxHeartbeats 8000000
set_option pp.maxSteps 400
namespace RS
open PySem PySem.Spec PyProof.Rows L2 GX LM
def numsT (ts : List TPr) : List Int := ts.map (·.1)
def GoodR (ks : List Bool) (os : List (Nat × Bool)) (rs : List (List TPr)) : Prop := (∀ r ∈ rs, okRun ks os r = true) ∧ (rs.flatMap numsT).Nodup ∧ rs.length ≤ 40
/-- the first that is none is the one at n -/
def BadR (ks : List Bool) (os : List (Nat × Bool)) (rs : List (List TPr)) (n : Nat) : Prop := ∃ r, rs[n]? = some r ∧ GoodR ks os (rs.take n) ∧ (40 ≤ n ∨ okRun ks os r = false ∨ ¬ ((rs.take n).flatMap numsT ++ numsT r).Nodup)
theorem take_flat {rs : List (List TPr)} {i : Nat} {r : List TPr} (e : rs[i]? = some r) : (rs.take (i + 1)).flatMap numsT = (rs.take i).flatMap numsT ++ numsT r := by
  rw [List.take_add_one, e, List.flatMap_append]
  simp
theorem flat_nodup {rs : List (List TPr)} {i j : Nat} (h : i ≤ j) (n : ((rs.take j).flatMap numsT).Nodup) : ((rs.take i).flatMap numsT).Nodup := by
  have e : rs.take j = rs.take i ++ (rs.take j).drop i := by
    have := List.take_append_drop i (rs.take j)
    rw [List.take_take, Nat.min_eq_left h] at this
    exact this.symm
  rw [e, List.flatMap_append] at n
  exact (List.nodup_append.mp n).1
section
variable {P : Program} {w : World} {K : PySem.W.Frag} {mg : Str → Option Value} {base : Heap}
theorem scCheckRuns : FnScope ["kinds", "order", "runs", "seen", "at", "run", "number", "_"] ["kinds", "order", "runs"] (defScope s_check_runs) := ⟨rfl, rfl, rfl, by decide +kernel, rfl, by decide +kernel, by decide +kernel⟩
def spCheckRuns (K : PySem.W.Frag) (CB pW pR pN : Addr) : Sp := fun vs H Q E => ∃ (vk vo : V) (a : Addr) (xs : List V) (ks : List Bool) (os : List (Nat × Bool)) (rs : List (List TPr)), vs = [vk, vo, .ref a] ∧ Dp K H vk (kindsD ks) ∧ Dp K H vo (orderD os) ∧ SqL K H a xs ∧ DpAll K H xs (rs.map runD) ∧ ks.length ≤ 1000 ∧ os.length ≤ 1000 ∧ OkOrder ks.length os ∧ (∀ r ∈ rs, ∀ t ∈ r, fitT t) ∧ (rs.flatMap numsT).length ≤ 100000 ∧ Tab H pW ∧ Tab H pR ∧ Tab H pN ∧
  ((GoodR ks os rs ∧ ∀ H', Same H H' → Q .non H') ∨ ∃ n, BadR ks os rs n ∧ ∀ (H' : Hp) (dd : Addr), Same H H' → H' dd = some (.xd [("number", .int (n : Nat))]) → E (.ref CB) (some dd) H')
theorem check_runs_ok {c CB pW pR pN : Addr} {t40 : Tok} (D : DefAt K mg "check_runs" s_check_runs c) (T : Txt K mg) (hM : mg "MOST_RUNS" = some (.int 40 t40)) (NE : NumE P w K mg base "BadRuns" "number" CB) (cR : Cal P w K mg base CX0 8 "is_run" ["kinds", "order", "run"] (spIsRun K pW pR pN)) :
    Cal P w K mg base (L2.CX P w) 9 "check_runs" ["kinds", "order", "runs"] (spCheckRuns K CB pW pR pN) := by
  have sc := scCheckRuns
  refine def_ok D sc (fun vs H Q E h => ?_) (fun _ _ _ _ _ _ us hl => match us, hl with | [_, _, _], _ => rfl) (fun f A outer s H vs Q E hr h => ?_)
  · obtain ⟨vk, vo, a, xs, ks, os, rs, rfl, _⟩ := h
    rfl
  · obtain ⟨vk, vo, a, xs, ks, os, rs, rfl, hk, ho, hS, hI, hlk, hlo, oko, hz, hsz, hW, hR, hN, k⟩ := h
    have hu1 : (A.deeper (envOfC "check_runs" (defScope s_check_runs) s.heap.objs.size f (.ref c))).units + 1 < cLine := by have := hr.units; omega
    refine ⟨_, (pss_cons (ps_set (i := 3) sc.nd rfl (Or.inl rfl) pe_dnewK) (pss_one (ps_for (passes_of rfl) rfl (pi_enum (by rfl) T.enumerate (pa_cons (pv 2) pa_nil)) (pg_tup (by rfl) (pgs_cons (pg_name (i := 4) sc.nd rfl (Or.inl rfl)) (pgs_cons (pg_name (i := 5) sc.nd rfl (Or.inl rfl)) pgs_nil))) (pss_cons (ps_if ((pw_or (pt_cmpR op_ge (pv 4) (pe_glob (v := V.int 40) (by rfl) hM ⟨_, rfl⟩) (nomark _)) (pw_or1 (pt_not (pt_val (pe_c cR hr (by decide) (by rfl) pass0 (pa_cons (pv 0) (pa_cons (pv 1) (pa_cons (pv 5) pa_nil)))))))).pt) (pss_one (ps_raise rfl (takes_of rfl rfl rfl rfl) (pmk_num NE (hr.mono (by decide)) (by rfl) (pv 4)))) pss_nil) (pss_one (ps_for (passes_of rfl) rfl (pi_list (pv 5)) (pg_tup (by rfl) (pgs_cons (pg_name (i := 6) sc.nd rfl (Or.inl rfl)) (pgs_cons (pg_name (i := 7) sc.nd rfl (Or.inl rfl)) pgs_nil))) (pss_cons (ps_if (pt_cmp (pc_din hu1 (pv 6) (pv 3))) (pss_one (ps_raise rfl (takes_of rfl rfl rfl rfl) (pmk_num NE (hr.mono (by decide)) (by rfl) (pv 4)))) pss_nil) (pss_one (ps_dput hu1 (pv 3) (pv 6) pe_bl (by rfl)))))))))), ?_⟩
    obtain ⟨lim, hlim, gd, fin⟩ : ∃ lim, lim ≤ rs.length ∧ GoodR ks os (rs.take lim) ∧ ((lim = rs.length ∧ ∀ H', Same H H' → Q .non H') ∨ ∃ r, rs[lim]? = some r ∧ (40 ≤ lim ∨ okRun ks os r = false ∨ ¬ ((rs.take lim).flatMap numsT ++ numsT r).Nodup) ∧ ∀ (H' : Hp) (dd : Addr), Same H H' → H' dd = some (.xd [("number", .int (lim : Nat))]) → E (.ref CB) (some dd) H') := by
      rcases k with ⟨g, k⟩ | ⟨n, ⟨r, er, g, b⟩, k⟩
      · exact ⟨rs.length, Nat.le_refl _, by rw [List.take_length]; exact g, .inl ⟨rfl, k⟩⟩
      · exact ⟨n, Nat.le_of_lt (List.getElem?_eq_some_iff.mp er).1, g, .inr ⟨r, er, b, k⟩⟩
    have l40 : lim ≤ 40 := by
      have := gd.2.2
      rw [List.length_take, Nat.min_eq_left hlim] at this
      exact this
    have lx : xs.length = rs.length := by rw [dpLen hI, List.length_map]
    intro sd hsd
    have s0 : Same H (upd H sd (.dK [])) := sameNew (Same.refl H) hsd
    refine ⟨_, rfl, a, xs, rfl, s0.seq hS, for_by xs.length (fun i σ H' => ∃ (v4 v5 v6 v7 : Option V) (kvs : List (Key × V)), σ = [some vk, some vo, some (.ref a), some (.ref sd), v4, v5, v6, v7] ∧ Same H H' ∧ H' sd = some (.dK kvs) ∧ kvs.map (·.1) = ((rs.take i).flatMap numsT).map Sum.inl ∧ i ≤ lim)
      ⟨none, none, none, none, [], rfl, s0, upd_same, rfl, Nat.zero_le _⟩ ?_ ?_⟩
    · rintro i σ H1 hi ⟨v4, v5, v6, v7, kvs, rfl, s1, hd1, ek, il⟩
      refine ⟨⟨xs, xs[i], s1.seq hS, List.getElem?_eq_getElem hi⟩, fun y H2 ⟨TT, x, ey, hT, eH, hx⟩ => ?_⟩
      subst ey eH
      have ex := hx xs (s1.seq hS)
      obtain ⟨d, ed, hdx⟩ := dpGet hI ex
      obtain ⟨r, er, rfl⟩ : ∃ r, rs[i]? = some r ∧ runD r = d := by
        rw [List.getElem?_map] at ed
        cases q : rs[i]? with
        | none => rw [q] at ed; cases ed
        | some b => rw [q] at ed; exact ⟨b, rfl, Option.some.inj ed⟩
      have s2 := sameNew (o := .tup [.int (i : Nat), x]) s1 hT
      have hd2 := sameNew (o := .tup [.int (i : Nat), x]) (Same.refl H1) hT _ _ hd1
      have hT2 : upd H1 TT (.tup [.int (i : Nat), x]) TT = some (.tup [.int (i : Nat), x]) := upd_same
      generalize upd H1 TT (.tup [.int (i : Nat), x]) = H2 at s2 hd2 hT2 ⊢
      refine ⟨TT, _, rfl, SqT.of hT2, rfl, _, _, rfl, _, _, rfl, rfl, ?_⟩
      have rE : i = lim → (40 ≤ lim ∨ okRun ks os r = false ∨ ¬ ((rs.take lim).flatMap numsT ++ numsT r).Nodup) ∧ ∀ (H' : Hp) (dd : Addr), Same H H' → H' dd = some (.xd [("number", .int (i : Nat))]) → E (.ref CB) (some dd) H' := fun e => by
        subst e
        rcases fin with ⟨e, _⟩ | ⟨r', er', b, k'⟩
        · omega
        · rw [er] at er'
          cases er'
          exact ⟨b, k'⟩
      have good : i < lim → okRun ks os r = true ∧ ((rs.take i).flatMap numsT ++ numsT r).Nodup := fun h => by
        refine ⟨gd.1 r (List.mem_of_getElem? (show (rs.take lim)[i]? = some r by rw [List.getElem?_take_of_lt h]; exact er)), ?_⟩
        rw [← take_flat er]
        exact flat_nodup h gd.2.1
      have nd0 : ((rs.take i).flatMap numsT).Nodup := flat_nodup il gd.2.1
      refine ⟨_, rfl, _, _, rfl, rfl, _, rfl, ?_⟩
      by_cases h40 : 40 ≤ i
      · refine iteT' (decide_eq_true (by omega)) ?_
        refine iteT ?_
        have e : i = lim := by omega
        exact ⟨_, rfl, num_end (n := i) (by omega) fun dd hd => (rE e).2 _ dd (sameNew s2 hd) upd_same⟩
      · refine iteF' (decide_eq_false (by omega)) ?_
        cases hdx with
        | @lst ar ys _ hSr hIr =>
        refine ⟨_, rfl, _, rfl, _, rfl, vk, vo, ar, ys, ks, os, r, rfl, dp_same s2 _ hk, dp_same s2 _ ho, s2.seq hSr, dpAll_same s2 _ hIr, hlk, hlo, oko, hz r (List.mem_of_getElem? er), s2 _ _ hW, s2 _ _ hR, s2 _ _ hN, fun H3 s3 => ⟨_, rfl, ?_⟩⟩
        have s03 := s2.trans s3
        have hd3 := s3 _ _ hd2
        cases hb : okRun ks os r with
        | false =>
          refine iteT ?_
          have e : i = lim := by
            rcases Nat.lt_or_eq_of_le il with h | h
            · rw [(good h).1] at hb; cases hb
            · exact h
          exact ⟨_, rfl, num_end (n := i) (by omega) fun dd hd => (rE e).2 _ dd (sameNew s03 hd) upd_same⟩
        | true =>
          refine iteF ?_
          have lr : ys.length = r.length := by rw [dpLen hIr, List.length_map]
          refine ⟨_, rfl, ar, rfl, ⟨_, s03.seq hSr⟩, for_list (K := K) (a := ar) (xs := ys) (fun j σ H' => ∃ (v6 v7 : Option V) (kvs : List (Key × V)), σ = [some vk, some vo, some (.ref a), some (.ref sd), some (.int (i : Nat)), some (.ref ar), v6, v7] ∧ Same H H' ∧ H' sd = some (.dK kvs) ∧ kvs.map (·.1) = ((rs.take i).flatMap numsT ++ (numsT r).take j).map Sum.inl ∧ ((rs.take i).flatMap numsT ++ (numsT r).take j).Nodup)
            ⟨_, _, kvs, rfl, s03, hd3, by rw [List.take_zero, List.append_nil]; exact ek, by rw [List.take_zero, List.append_nil]; exact nd0⟩ (fun j σ H' _ h => by obtain ⟨_, _, _, _, h, _⟩ := h; exact h.seq hSr) ?_ ?_⟩
          · rintro j y σ H4 hy ⟨v6, v7, kvs, rfl, s4, hd4, ek4, nd4⟩
            obtain ⟨d, ed, hdy⟩ := dpGet hIr hy
            obtain ⟨t, et, rfl⟩ : ∃ t, r[j]? = some t ∧ toldD t = d := by
              rw [List.getElem?_map] at ed
              cases q : r[j]? with
              | none => rw [q] at ed; cases ed
              | some b => rw [q] at ed; exact ⟨b, rfl, Option.some.inj ed⟩
            obtain ⟨n, row⟩ := t
            have en : (numsT r)[j]? = some n := by
              show (r.map (·.1))[j]? = _
              rw [List.getElem?_map, et]
              rfl
            have tk : (numsT r).take (j + 1) = (numsT r).take j ++ [n] := by
              rw [List.take_add_one, en]
              rfl
            cases hdy with
            | @tup at_ zs _ hSt hIt =>
              cases hIt with
              | cons h1 hIt =>
                cases hIt with
                | cons h2 hIt =>
                  cases hIt
                  cases h1
                  refine ⟨at_, _, rfl, sqT_same s4 hSt, rfl, _, _, rfl, _, _, rfl, rfl, ?_⟩
                  refine ⟨_, rfl, _, rfl, sd, valV kvs (.inl n), rfl, DGet.k (k := .inl n) hd4, ?_⟩
                  cases hv : valV kvs (Sum.inl n) with
                  | some z =>
                    refine ⟨_, rfl, iteT ?_⟩
                    have hin := valV_in hv
                    rw [ek4] at hin
                    have hin' : n ∈ (rs.take i).flatMap numsT ++ (numsT r).take j := by
                      obtain ⟨m, hm, e⟩ := List.mem_map.mp hin
                      rw [← Sum.inl.inj e]
                      exact hm
                    have e : i = lim := by
                      rcases Nat.lt_or_eq_of_le il with h | h
                      · have nd := (good h).2
                        have e2 : (rs.take i).flatMap numsT ++ numsT r = ((rs.take i).flatMap numsT ++ (numsT r).take j) ++ (numsT r).drop j := by
                          rw [List.append_assoc, List.take_append_drop]
                        rw [e2] at nd
                        refine absurd rfl ((List.nodup_append.mp nd).2.2 n hin' n ?_)
                        exact List.mem_of_getElem? (i := 0) (by rw [List.getElem?_drop]; exact en)
                      · exact h
                    exact ⟨_, rfl, num_end (n := i) (by omega) fun dd hd => (rE e).2 _ dd (sameNew s4 hd) upd_same⟩
                  | none =>
                    refine ⟨_, rfl, iteF ?_⟩
                    have hno := valV_not hv
                    have hn' : n ∉ (rs.take i).flatMap numsT ++ (numsT r).take j := fun m => hno (by rw [ek4]; exact List.mem_map.mpr ⟨n, m, rfl⟩)
                    have lk : kvs.length ≤ 100000 := by
                      have e1 : kvs.length = ((rs.take i).flatMap numsT ++ (numsT r).take j).length := by
                        have := congrArg List.length ek4
                        simpa using this
                      have e2 : ((rs.take i).flatMap numsT ++ numsT r).length ≤ (rs.flatMap numsT).length := by
                        rw [← take_flat er]
                        conv => rhs; rw [← List.take_append_drop (i + 1) rs, List.flatMap_append, List.length_append]
                        exact Nat.le_add_right _ _
                      rw [e1]
                      rw [List.length_append] at e2 ⊢
                      rw [List.length_take]
                      omega
                    have big : (1000000 : Nat) ≤ sizeLine := by decide
                    refine ⟨_, rfl, _, rfl, sd, _, rfl, DPut.k (k := .inl n) hd4 (by omega), ?_⟩
                    refine ⟨_, _, _, rfl, fun b o e => (upd_ne (ne_of_none e hsd)).trans (s4 b o e), upd_same, ?_, ?_⟩
                    · rw [putK_new _ hv, List.map_append, ek4, tk, ← List.append_assoc, List.map_append (l₁ := _ ++ _)]
                      rfl
                    · rw [tk, ← List.append_assoc]
                      exact nd_snoc nd4 hn'
          · rintro σ H4 ⟨v6, v7, kvs, rfl, s4, hd4, ek4, nd4⟩
            have tr : (numsT r).take ys.length = numsT r := List.take_of_length_le (by show (r.map (·.1)).length ≤ _; rw [List.length_map]; omega)
            rw [tr] at ek4 nd4
            have il' : i < lim := by
              rcases Nat.lt_or_eq_of_le il with h | h
              · exact h
              · rcases (rE h).1 with b | b | b
                · omega
                · rw [hb] at b; cases b
                · rw [← h] at b
                  exact absurd nd4 b
            exact ⟨_, _, _, _, kvs, rfl, s4, hd4, by rw [take_flat er]; exact ek4, il'⟩
    · rintro σ H1 ⟨v4, v5, v6, v7, kvs, rfl, s1, hd1, ek, il⟩
      refine ⟨⟨xs, s1.seq hS, Nat.le_refl _⟩, ?_⟩
      rcases fin with ⟨_, k'⟩ | ⟨r, er, _⟩
      · exact k' _ s1
      · have := (List.getElem?_eq_some_iff.mp er).1
        omega
end
end RS
set_option Elab.async false
set_option maxRecDepth 100000
namespace RS
open SrtO
section
variable {α : Type} {lt : α → α → Bool}
structure MInv (lt : α → α → Bool) (l1 l2 : List α) (i j : Nat) (told : List α) : Prop where
  perm : told.Perm (l1.take i ++ l2.take j)
  srt : Srtd lt told
  lo : ∀ x ∈ told, ∀ y ∈ l1.drop i ++ l2.drop j, lt y x = false
theorem MInv.new (l1 l2 : List α) : MInv lt l1 l2 0 0 [] := ⟨by simp, List.Pairwise.nil, fun x h => nomatch h⟩
theorem srtd_snoc {l : List α} {p : α} (s : Srtd lt l) (h : ∀ x ∈ l, lt p x = false) : Srtd lt (l ++ [p]) :=
  List.pairwise_append.mpr ⟨s, List.pairwise_singleton _ _, fun a ha b hb => by rw [List.mem_singleton.mp hb]; exact h a ha⟩
theorem srtd_head {l : List α} {i : Nat} {p : α} (O : Swo lt) (s : Srtd lt l) (e : l[i]? = some p) : ∀ y ∈ l.drop i, lt y p = false := by
  have hi : i < l.length := (List.getElem?_eq_some_iff.mp e).1
  have ed : l.drop i = p :: l.drop (i + 1) := by
    rw [List.drop_eq_getElem_cons hi]
    congr 1
    exact (List.getElem?_eq_some_iff.mp e).2
  intro y hy
  have sd : Srtd lt (l.drop i) := List.Pairwise.sublist (List.drop_sublist i l) s
  rw [ed] at hy sd
  rcases List.mem_cons.mp hy with h | h
  · rw [h]; exact O.refl p
  · exact (List.pairwise_cons.mp sd).1 y h
theorem drop_sub {l : List α} {i : Nat} {y : α} (h : y ∈ l.drop (i + 1)) : y ∈ l.drop i := by
  have : l.drop (i + 1) = (l.drop i).drop 1 := by rw [List.drop_drop]
  rw [this] at h
  exact List.mem_of_mem_drop h
theorem take_snoc {l : List α} {i : Nat} {p : α} (e : l[i]? = some p) : l.take (i + 1) = l.take i ++ [p] := by
  rw [List.take_add_one, e]
  rfl
theorem mem_head {l : List α} {i : Nat} {p : α} (e : l[i]? = some p) : p ∈ l.drop i := List.mem_of_getElem? (i := 0) (by rw [List.getElem?_drop]; exact e)
theorem MInv.one {l1 l2 told : List α} {i j : Nat} {p q : α} (O : Swo lt) (h : MInv lt l1 l2 i j told) (s1 : Srtd lt l1) (s2 : Srtd lt l2) (e1 : l1[i]? = some p) (e2 : l2[j]? = some q) (hb : lt p q = true) : MInv lt l1 l2 (i + 1) j (told ++ [p]) := by
  refine ⟨?_, srtd_snoc h.srt fun x hx => h.lo x hx p (List.mem_append_left _ (mem_head e1)), fun x hx y hy => ?_⟩
  · rw [take_snoc e1]
    refine (h.perm.append_right [p]).trans ?_
    rw [List.append_assoc, List.append_assoc]
    exact List.Perm.append_left _ List.perm_append_comm
  · rcases List.mem_append.mp hx with hx | hx
    · refine h.lo x hx y ?_
      rcases List.mem_append.mp hy with hy | hy
      · exact List.mem_append_left _ (drop_sub hy)
      · exact List.mem_append_right _ hy
    · rw [List.mem_singleton.mp hx]
      rcases List.mem_append.mp hy with hy | hy
      · exact srtd_head O s1 e1 y (drop_sub hy)
      · exact O.tr p q y (O.asym p q hb) (srtd_head O s2 e2 y hy)
theorem MInv.two {l1 l2 told : List α} {i j : Nat} {p q : α} (O : Swo lt) (h : MInv lt l1 l2 i j told) (s1 : Srtd lt l1) (s2 : Srtd lt l2) (e1 : l1[i]? = some p) (e2 : l2[j]? = some q) (hb : lt p q = false) : MInv lt l1 l2 i (j + 1) (told ++ [q]) := by
  refine ⟨?_, srtd_snoc h.srt fun x hx => h.lo x hx q (List.mem_append_right _ (mem_head e2)), fun x hx y hy => ?_⟩
  · rw [take_snoc e2, ← List.append_assoc]
    exact h.perm.append_right [q]
  · rcases List.mem_append.mp hx with hx | hx
    · refine h.lo x hx y ?_
      rcases List.mem_append.mp hy with hy | hy
      · exact List.mem_append_left _ hy
      · exact List.mem_append_right _ (drop_sub hy)
    · rw [List.mem_singleton.mp hx]
      rcases List.mem_append.mp hy with hy | hy
      · exact O.tr q p y hb (srtd_head O s1 e1 y hy)
      · exact srtd_head O s2 e2 y (drop_sub hy)
theorem MInv.fin {l1 l2 told : List α} {i j : Nat} (h : MInv lt l1 l2 i j told) (s1 : Srtd lt l1) (s2 : Srtd lt l2) (e : l1.length ≤ i ∨ l2.length ≤ j) : (told ++ l1.drop i ++ l2.drop j).Perm (l1 ++ l2) ∧ Srtd lt (told ++ l1.drop i ++ l2.drop j) := by
  constructor
  · have a : (told ++ l1.drop i ++ l2.drop j).Perm ((l1.take i ++ l2.take j) ++ l1.drop i ++ l2.drop j) := (h.perm.append_right _).append_right _
    refine a.trans ?_
    have b : ((l1.take i ++ l2.take j) ++ l1.drop i).Perm (l1.take i ++ l1.drop i ++ l2.take j) := by
      rw [List.append_assoc, List.append_assoc]
      exact List.Perm.append_left _ List.perm_append_comm
    refine (b.append_right _).trans ?_
    rw [List.take_append_drop, List.append_assoc, List.take_append_drop]
  · have d1 : Srtd lt (l1.drop i) := List.Pairwise.sublist (List.drop_sublist i l1) s1
    have d2 : Srtd lt (l2.drop j) := List.Pairwise.sublist (List.drop_sublist j l2) s2
    rw [List.append_assoc]
    refine List.pairwise_append.mpr ⟨h.srt, ?_, fun a ha b hb => h.lo a ha b hb⟩
    rcases e with e | e
    · rw [List.drop_eq_nil_of_le e]; exact d2
    · rw [List.drop_eq_nil_of_le e, List.append_nil]; exact d1
end
end RS
set_option Elab.async false
set_option maxRecDepth 100000
set_option maxHeartbeats 8000000
set_option pp.maxSteps 400
namespace RS
open PySem PySem.Spec PyProof.Rows L2 GX
section
variable {P : Program} {w : World} {K : PySem.W.Frag} {mg : Str → Option Value} {base : Heap}
theorem scMPair : FnScope ["order", "pair", "one", "other", "told", "at", "by", "looks"] ["order", "pair"] (defScope s_merged_pair) := ⟨rfl, rfl, rfl, by decide +kernel, rfl, by decide +kernel, by decide +kernel⟩
def spMPair (K : PySem.W.Frag) : Sp := fun vs H Q _ => ∃ (vo : V) (a : Addr) (xs : List V), vs = [vo, .ref a] ∧ SqL K H a xs ∧
  ((∃ v, xs = [v] ∧ ∀ (H' : Hp) (t : Addr), Same H H' → H' t = some (.tup [v, .int 0]) → Q (.ref t) H') ∨
   (∃ (r1 r2 : Addr) (x1 x2 : List V) (os : List (Nat × Bool)) (l1 l2 : List (Nat × List PyData)), xs = [.ref r1, .ref r2] ∧ Dp K H vo (orderD os) ∧ os.length ≤ 1000 ∧ SqL K H r1 x1 ∧ SqL K H r2 x2 ∧ DpAll K H x1 (l1.map pairD) ∧ DpAll K H x2 (l2.map pairD) ∧ l1.length + l2.length ≤ 100000 ∧ (∀ q ∈ l1 ++ l2, Fits os q.2 ∧ noL (pairD q) = true) ∧ SrtO.Srtd (before os) l1 ∧ SrtO.Srtd (before os) l2 ∧
    ∀ (H' : Hp) (t p : Addr) (ys : List V) (ls : List (Nat × List PyData)) (n : Nat), Same H H' → H' t = some (.tup [.ref p, .int (n : Nat)]) → H p = none → H' p = some (.lst ys) → DpAll K H' ys (ls.map pairD) → ls.Perm (l1 ++ l2) → SrtO.Srtd (before os) ls → n ≤ l1.length + l2.length → (l1 ≠ [] → l2 ≠ [] → 1 ≤ n) → Q (.ref t) H'))
theorem mpair_ok {c : Addr} (D : DefAt K mg "merged_pair" s_merged_pair c) (T : Txt K mg) (cG : Cal P w K mg base CX0 3 "goes_ahead" ["order", "one", "other"] (spGoes K)) :
    Cal P w K mg base CX0 4 "merged_pair" ["order", "pair"] (spMPair K) := by
  have sc := scMPair
  refine def_ok0 D sc (fun vs H Q E h => ?_) (fun _ _ _ _ _ _ us hl => match us, hl with | [_, _], _ => rfl) (fun f A outer s H vs Q E hr h => ?_)
  · obtain ⟨vo, a, xs, rfl, _⟩ := h
    rfl
  · obtain ⟨vo, a, xs, rfl, hS, k⟩ := h
    refine ⟨_, (pss_cons (ps_if (pt_cmpR op_eq (pe_callB call_len_seq (by rfl) T.len PySem.boot_len (pa_cons (pv 1) pa_nil)) pe_int (nomark _)) (pss_one (ps_ret (pe_tup (pa_cons (pe_ix ix_list (pv 1) pe_int (fun _ _ => rfl)) (pa_cons pe_int pa_nil))))) pss_nil) (pss_cons (ps_asg (pv 1) (pg_lst rfl (pgs_cons (pg_name (i := 2) sc.nd rfl (Or.inl rfl)) (pgs_cons (pg_name (i := 3) sc.nd rfl (Or.inl rfl)) pgs_nil)))) (pss_cons (ps_par3 (i := 4) (j := 5) (l := 6) rfl sc.nd rfl rfl rfl (by decide) (by decide) (by decide) rfl rfl rfl (pa_cons (pe_lst pa_nil) (pa_cons pe_int (pa_cons pe_int pa_nil))) (by rfl)) (pss_cons (ps_while PassesOwn.never ((pw_and (pt_cmpR op_lt (pv 5) (pe_callB call_len_seq (by rfl) T.len PySem.boot_len (pa_cons (pv 2) pa_nil)) (nomark _)) (pw_and1 (pt_cmpR op_lt (pv 6) (pe_callB call_len_seq (by rfl) T.len PySem.boot_len (pa_cons (pv 3) pa_nil)) (nomark _)))).pt) (pss_one (ps_if (pt_val (pe_c cG hr (by decide) (by rfl) pass0 (pa_cons (pv 0) (pa_cons (pe_ix ix_list (pv 2) (pv 5) (fun _ _ => rfl)) (pa_cons (pe_ix ix_list (pv 3) (pv 6) (fun _ _ => rfl)) pa_nil))))) (pss_cons (ps_expr (pe_bm PySem.F.plainAttrs_list PySem.F.slot_list_append PySem.F.type_list_append mt_append (pv 4) (pa_cons (pe_ix ix_list (pv 2) (pv 5) (fun _ _ => rfl)) pa_nil))) (pss_one (ps_aug (i := 5) sc.nd rfl (Or.inl rfl) pe_int ip_add))) (pss_cons (ps_expr (pe_bm PySem.F.plainAttrs_list PySem.F.slot_list_append PySem.F.type_list_append mt_append (pv 4) (pa_cons (pe_ix ix_list (pv 3) (pv 6) (fun _ _ => rfl)) pa_nil))) (pss_one (ps_aug (i := 6) sc.nd rfl (Or.inl rfl) pe_int ip_add)))))) (pss_cons (ps_set (i := 7) sc.nd rfl (Or.inl rfl) (pe_callB call_len_seq (by rfl) T.len PySem.boot_len (pa_cons (pv 4) pa_nil))) (pss_one (ps_ret (pe_tup (pa_cons (pe_op op_cat (pe_op op_cat (pv 4) (pe_slice sl_list (pv 2) (po_some (pv 5)) po_none)) (pe_slice sl_list (pv 3) (po_some (pv 6)) po_none)) (pa_cons (pv 7) pa_nil)))))))))), ?_⟩
    refine ⟨_, rfl, a, xs, rfl, .inl hS, rfl, _, rfl, ?_⟩
    rcases k with ⟨v, rfl, k⟩ | ⟨r1, r2, x1, x2, os, l1, l2, rfl, ho, hlo, hS1, hS2, hI1, hI2, hsz, hf, st1, st2, k⟩
    · refine iteT' (decide_eq_true rfl) ?_
      refine ⟨_, rfl, a, _, _, _, rfl, rfl, hS, rfl, by show 2 ≤ sizeLine; decide, fun t ht => ?_⟩
      exact k _ t (sameNew (Same.refl H) ht) upd_same
    · refine iteF' (decide_eq_false fun z => by have := V.int.inj z; simp at this) ?_
      have lx1 : x1.length = l1.length := by rw [dpLen hI1, List.length_map]
      have lx2 : x2.length = l2.length := by rw [dpLen hI2, List.length_map]
      have big : (1000000 : Nat) ≤ sizeLine := by decide
      refine ⟨_, rfl, a, _, rfl, hS, rfl, _, _, rfl, _, _, rfl, rfl, ?_⟩
      refine ⟨Nat.zero_le _, fun Td hTd => ⟨_, _, _, rfl, ?_⟩⟩
      have s0 := sameNew (o := .lst []) (Same.refl H) hTd
      refine ⟨fun m σ H' => ∃ (i j : Nat) (ys : List V) (td : List (Nat × List PyData)), σ = [some vo, some (.ref a), some (.ref r1), some (.ref r2), some (.ref Td), some (.int (i : Nat)), some (.int (j : Nat)), none] ∧ Same H H' ∧ H' Td = some (.lst ys) ∧ DpAll K H' ys (td.map pairD) ∧ i ≤ l1.length ∧ j ≤ l2.length ∧ td.length = i + j ∧ m = (l1.length - i) + (l2.length - j) ∧ MInv (before os) l1 l2 i j td,
        ⟨_, 0, 0, [], [], rfl, s0, upd_same, .nil, Nat.zero_le _, Nat.zero_le _, rfl, rfl, MInv.new l1 l2⟩, ?_⟩
      rintro m σ H1 ⟨i, j, ys, td, rfl, s1, hT1, hI, hi, hj, ltd, rfl, inv⟩
      refine cond_by (decide (i < l1.length ∧ j < l2.length)) (fun H2 => H2 = H1) (fun Q' nx => ?_) (fun H2 e => ?_)
      · refine ⟨_, rfl, _, rfl, r1, x1, rfl, .inl (s1.seq hS1), _, _, rfl, rfl, _, rfl, ?_⟩
        by_cases c1 : i < l1.length
        · refine iteT' (decide_eq_true (by omega)) ?_
          refine ⟨_, rfl, _, rfl, r2, x2, rfl, .inl (s1.seq hS2), _, _, rfl, rfl, _, rfl, ?_⟩
          have := nx H1 rfl
          have e : decide (i < l1.length ∧ j < l2.length) = decide (((j : Nat) : Int) < ((x2.length : Nat) : Int)) := by
            rw [decide_eq_decide]
            omega
          rw [e] at this
          exact this
        · refine iteF' (decide_eq_false (by omega)) ?_
          have := nx H1 rfl
          rw [decide_eq_false (fun z => c1 z.1)] at this
          exact this
      have e := e.symm
      subst e
      by_cases cc : i < l1.length ∧ j < l2.length
      · obtain ⟨c1, c2⟩ := cc
        refine iteT' (decide_eq_true ⟨c1, c2⟩) ⟨fun σ' H' => ∃ (i' j' : Nat) (ys : List V) (td : List (Nat × List PyData)), σ' = [some vo, some (.ref a), some (.ref r1), some (.ref r2), some (.ref Td), some (.int (i' : Nat)), some (.int (j' : Nat)), none] ∧ Same H H' ∧ H' Td = some (.lst ys) ∧ DpAll K H' ys (td.map pairD) ∧ i' ≤ l1.length ∧ j' ≤ l2.length ∧ td.length = i' + j' ∧ (l1.length - i') + (l2.length - j') < (l1.length - i) + (l2.length - j) ∧ MInv (before os) l1 l2 i' j' td,
          fun σ' H' h => by obtain ⟨i', j', ys, td, e1, e2, e3, e4, e5, e6, e7, e8, e9⟩ := h; exact ⟨_, e8, i', j', ys, td, e1, e2, e3, e4, e5, e6, e7, rfl, e9⟩, ?_⟩
        obtain ⟨v1, ev1, hv1⟩ := dpGet' (i := i) (d := pairD l1[i]) hI1 (by rw [List.getElem?_map, List.getElem?_eq_getElem c1]; rfl)
        obtain ⟨v2, ev2, hv2⟩ := dpGet' (i := j) (d := pairD l2[j]) hI2 (by rw [List.getElem?_map, List.getElem?_eq_getElem c2]; rfl)
        have ep : l1[i]? = some l1[i] := List.getElem?_eq_getElem c1
        have eq : l2[j]? = some l2[j] := List.getElem?_eq_getElem c2
        have fp := hf l1[i] (List.mem_append_left _ (List.getElem_mem c1))
        have fq := hf l2[j] (List.mem_append_right _ (List.getElem_mem c2))
        generalize l1[i] = p at ep fp hv1
        generalize l2[j] = q at eq fq hv2
        refine ⟨_, rfl, _, rfl, _, rfl, r1, x1, _, _, rfl, rfl, s1.seq hS1, atI_nat ev1, _, rfl, _, rfl, r2, x2, _, _, rfl, rfl, s1.seq hS2, atI_nat ev2, ?_⟩
        refine ⟨vo, v1, v2, os, p, q, rfl, dp_same s1 _ ho, dp_same s1 _ hv1, dp_same s1 _ hv2, hlo, fp.1, fq.1, fun H3 s3 => ⟨_, rfl, ?_⟩⟩
        have s13 := s1.trans s3
        have hT3 := s3 _ _ hT1
        have hI3 := dpAll_same s3 _ hI
        have noT : ∀ u ∈ td, noL (pairD u) = true := fun u hu => by
          have := inv.perm.mem_iff.mp hu
          refine (hf u ?_).2
          rcases List.mem_append.mp this with h | h
          · exact List.mem_append_left _ (List.mem_of_mem_take h)
          · exact List.mem_append_right _ (List.mem_of_mem_take h)
        cases hb : before os p q with
        | true =>
          refine iteT ?_
          refine ⟨_, rfl, .inl ⟨rfl, _, SqL.of hT3⟩, _, rfl, _, rfl, r1, x1, _, _, rfl, rfl, s13.seq hS1, atI_nat ev1, Td, ys, _, rfl, rfl, hT3, by have := dpLen hI3; rw [List.length_map] at this; omega, ?_⟩
          refine ⟨_, rfl, _, _, rfl, rfl, ?_⟩
          refine ⟨i + 1, j, ys ++ [v1], td ++ [p], rfl, fun b o e => (upd_ne (ne_of_none e hTd)).trans (s13 b o e), upd_same, ?_, by omega, by omega, by rw [List.length_append, ltd]; simp; omega, by omega, inv.one (swo_before os) st1 st2 ep eq hb⟩
          rw [List.map_append]
          refine dpAll_upd hT3 _ (noLs_iff.mpr fun d hd => ?_) (dpApp hI3 (.cons (dp_same s13 _ hv1) .nil))
          rcases List.mem_append.mp hd with hd | hd
          · obtain ⟨u, hu, rfl⟩ := List.mem_map.mp hd
            exact noT u hu
          · rw [List.mem_singleton.mp hd]
            exact fp.2
        | false =>
          refine iteF ?_
          refine ⟨_, rfl, .inl ⟨rfl, _, SqL.of hT3⟩, _, rfl, _, rfl, r2, x2, _, _, rfl, rfl, s13.seq hS2, atI_nat ev2, Td, ys, _, rfl, rfl, hT3, by have := dpLen hI3; rw [List.length_map] at this; omega, ?_⟩
          refine ⟨_, rfl, _, _, rfl, rfl, ?_⟩
          refine ⟨i, j + 1, ys ++ [v2], td ++ [q], rfl, fun b o e => (upd_ne (ne_of_none e hTd)).trans (s13 b o e), upd_same, ?_, by omega, by omega, by rw [List.length_append, ltd]; simp; omega, by omega, inv.two (swo_before os) st1 st2 ep eq hb⟩
          rw [List.map_append]
          refine dpAll_upd hT3 _ (noLs_iff.mpr fun d hd => ?_) (dpApp hI3 (.cons (dp_same s13 _ hv2) .nil))
          rcases List.mem_append.mp hd with hd | hd
          · obtain ⟨u, hu, rfl⟩ := List.mem_map.mp hd
            exact noT u hu
          · rw [List.mem_singleton.mp hd]
            exact fq.2
      · refine iteF' (decide_eq_false cc) ?_
        have ex : l1.length ≤ i ∨ l2.length ≤ j := by
          rcases Nat.lt_or_ge i l1.length with h | h
          · rcases Nat.lt_or_ge j l2.length with h2 | h2
            · exact absurd ⟨h, h2⟩ cc
            · exact .inr h2
          · exact .inl h
        have c1 : cutV x1 (some (i : Nat)) none = x1.drop i := cutV_from (by omega)
        have c2 : cutV x2 (some (j : Nat)) none = x2.drop j := cutV_from (by omega)
        have lys : ys.length = td.length := by rw [dpLen hI, List.length_map]
        have ltz : td.length ≤ 100000 := by omega
        refine ⟨_, rfl, Td, ys, rfl, .inl (SqL.of hT1), ?_⟩
        refine ⟨_, rfl, _, rfl, _, rfl, _, rfl, r1, x1, rfl, s1.seq hS1, fun p1 hp1 => ?_⟩
        rw [c1]
        have t1 := sameNew (o := .lst (x1.drop i)) (Same.refl H1) hp1
        have hp1' : upd H1 p1 (.lst (x1.drop i)) p1 = some (.lst (x1.drop i)) := upd_same
        generalize upd H1 p1 (.lst (x1.drop i)) = H2 at t1 hp1' ⊢
        refine ⟨Td, p1, ys, _, rfl, rfl, t1 _ _ hT1, hp1', by rw [List.length_drop]; omega, fun p2 hp2 => ?_⟩
        have t2 := sameNew (o := .lst (ys ++ x1.drop i)) t1 hp2
        have hp2' : upd H2 p2 (.lst (ys ++ x1.drop i)) p2 = some (.lst (ys ++ x1.drop i)) := upd_same
        generalize upd H2 p2 (.lst (ys ++ x1.drop i)) = H3 at t2 hp2' ⊢
        refine ⟨_, rfl, _, rfl, _, rfl, r2, x2, rfl, (s1.trans t2).seq hS2, fun p3 hp3 => ?_⟩
        rw [c2]
        have t3 := sameNew (o := .lst (x2.drop j)) (Same.refl H3) hp3
        have hp3' : upd H3 p3 (.lst (x2.drop j)) p3 = some (.lst (x2.drop j)) := upd_same
        generalize upd H3 p3 (.lst (x2.drop j)) = H4 at t3 hp3' ⊢
        refine ⟨p2, p3, _, _, rfl, rfl, t3 _ _ hp2', hp3', by rw [List.length_append, List.length_drop, List.length_drop]; omega, fun p4 hp4 => ?_⟩
        have t4 := sameNew (o := .lst (ys ++ x1.drop i ++ x2.drop j)) t3 hp4
        have s14 := t2.trans t4
        have hp4' : upd H4 p4 (.lst (ys ++ x1.drop i ++ x2.drop j)) p4 = some (.lst (ys ++ x1.drop i ++ x2.drop j)) := upd_same
        generalize upd H4 p4 (.lst (ys ++ x1.drop i ++ x2.drop j)) = H5 at t4 s14 hp4' ⊢
        refine ⟨_, rfl, by show 2 ≤ sizeLine; decide, fun t ht => ?_⟩
        have t5 := sameNew (o := .tup [.ref p4, .int ((ys.length : Nat) : Int)]) (Same.refl H5) ht
        have s15 := s14.trans t5
        have ht5 : upd H5 t (.tup [.ref p4, .int ((ys.length : Nat) : Int)]) t = some (.tup [.ref p4, .int ((ys.length : Nat) : Int)]) := upd_same
        generalize upd H5 t (.tup [.ref p4, .int ((ys.length : Nat) : Int)]) = H6 at t5 s15 ht5 ⊢
        obtain ⟨pm, st⟩ := inv.fin st1 st2 ex
        have s16 := s1.trans s15
        refine k H6 t p4 _ (td ++ l1.drop i ++ l2.drop j) ys.length s16 ht5 ((s1.trans (t2.trans t3)).free hp4) (t5 _ _ hp4') ?_ pm st (by omega) (fun n1 n2 => ?_)
        · rw [List.map_append, List.map_append, List.map_drop, List.map_drop]
          exact dpApp (dpApp (dpAll_same s15 _ hI) (dpAll_drop (dpAll_same s16 _ hI1) i)) (dpAll_drop (dpAll_same s16 _ hI2) j)
        · have := List.length_pos_iff.mpr n1
          have := List.length_pos_iff.mpr n2
          omega
end
end RS
set_option Elab.async false
set_option maxRecDepth 100000
set_option maxHeartbeats 8000000
namespace RS
open PySem PySem.Spec PyProof.Rows L2 GX
/-- how many parts of n there are -/
def cnt (l n : Nat) : Nat := (Builtin.Range.rangeSize 0 l n).toNat
theorem small_all : ∀ l < 121, ∀ n < 25, 1 ≤ n → Builtin.Range.small 0 (l : Nat) (n : Nat) = true := by decide +kernel
theorem cnt_le : ∀ l < 121, ∀ n < 25, 1 ≤ n → cnt l n ≤ 120 := by decide +kernel
theorem rgc {l n : Nat} (hl : l ≤ 120) (h1 : 1 ≤ n) (h2 : n ≤ 24) : RgC 0 (l : Nat) (n : Nat) (cnt l n) := ⟨by omega, by omega, small_all l (by omega) n (by omega) h1, PyProof.Rows.rangeSize_toNat _ _ _⟩
theorem cutV_mid {xs : List V} {a n : Nat} : cutV xs (some ((a : Nat) : Int)) (some ((a + n : Nat) : Int)) = (xs.drop a).take n := by
  unfold cutV
  rw [HT.sIx_nat, HT.sIx_nat]
  by_cases h : a ≤ xs.length
  · rw [Nat.min_eq_left h]
    by_cases h2 : a + n ≤ xs.length
    · rw [Nat.min_eq_left h2, Nat.add_sub_cancel_left]
    · rw [Nat.min_eq_right (by omega), List.take_of_length_le (by rw [List.length_drop]; exact Nat.le_refl _), List.take_of_length_le (by rw [List.length_drop]; omega)]
  · rw [Nat.min_eq_right (show xs.length ≤ a by omega), Nat.min_eq_right (show xs.length ≤ a + n by omega), List.drop_of_length_le (Nat.le_refl _), List.drop_of_length_le (show xs.length ≤ a by omega)]
    simp
end RS
set_option Elab.async false
set_option maxRecDepth 100000
namespace RS
open SrtO
abbrev PrL := List (Nat × List PySem.PyData)
def neN (rl : List PrL) : Nat := rl.countP fun r => !r.isEmpty
theorem neN_app (a b : List PrL) : neN (a ++ b) = neN a + neN b := List.countP_append
theorem neN_one (l : PrL) : neN [l] = if l = [] then 0 else 1 := by
  cases l <;> simp [neN]
/-- the pairs so far: `i` of them, of rl's first 2 i runs -/
structure Half (os : List (Nat × Bool)) (rl : List PrL) (i : Nat) (out : List PrL) (more : Nat) : Prop where
  len : out.length = i
  perm : out.flatten.Perm (rl.take (2 * i)).flatten
  srt : ∀ r ∈ out, Srtd (before os) r
  ne : neN (rl.take (2 * i)) ≤ more + neN out
  le : more ≤ (rl.take (2 * i)).flatten.length
theorem Half.new (os : List (Nat × Bool)) (rl : List PrL) : Half os rl 0 [] 0 := ⟨rfl, by simp, (fun r h => nomatch h), by simp [neN], by simp⟩
theorem take_two {rl : List PrL} {i : Nat} {l1 l2 : PrL} (e1 : rl[2 * i]? = some l1) (e2 : rl[2 * i + 1]? = some l2) : rl.take (2 * (i + 1)) = rl.take (2 * i) ++ [l1, l2] := by
  rw [show 2 * (i + 1) = 2 * i + 1 + 1 from by omega, List.take_add_one, List.take_add_one, e1, e2, List.append_assoc]
  rfl
theorem take_last {rl : List PrL} {i : Nat} {l1 : PrL} (e1 : rl[2 * i]? = some l1) (e2 : rl.length ≤ 2 * i + 1) : rl.take (2 * (i + 1)) = rl.take (2 * i) ++ [l1] := by
  rw [show 2 * (i + 1) = 2 * i + 1 + 1 from by omega, List.take_add_one, List.take_add_one, e1, List.getElem?_eq_none e2]
  simp
theorem Half.two {os : List (Nat × Bool)} {rl out : List PrL} {i more n : Nat} {l1 l2 ls : PrL} (h : Half os rl i out more) (e1 : rl[2 * i]? = some l1) (e2 : rl[2 * i + 1]? = some l2) (pm : ls.Perm (l1 ++ l2)) (st : Srtd (before os) ls) (hn : n ≤ l1.length + l2.length) (h1 : l1 ≠ [] → l2 ≠ [] → 1 ≤ n) : Half os rl (i + 1) (out ++ [ls]) (more + n) := by
  have et := take_two e1 e2
  refine ⟨by rw [List.length_append, h.len]; rfl, ?_, fun r hr => ?_, ?_, ?_⟩
  · rw [et, List.flatten_append, List.flatten_append]
    have e : [l1, l2].flatten = l1 ++ l2 := by simp
    rw [e]
    have e : [ls].flatten = ls := by simp
    rw [e]
    exact h.perm.append pm
  · rcases List.mem_append.mp hr with hr | hr
    · exact h.srt r hr
    · rw [List.mem_singleton.mp hr]; exact st
  · rw [et, neN_app, neN_app, show ([l1, l2] : List PrL) = [l1] ++ [l2] from rfl, neN_app, neN_one, neN_one, neN_one]
    have hl := pm.length_eq
    rw [List.length_append] at hl
    have := h.ne
    by_cases c1 : l1 = []
    · by_cases c2 : l2 = []
      · rw [if_pos c1, if_pos c2]; omega
      · have : 0 < l2.length := List.length_pos_iff.mpr c2
        have c3 : ls ≠ [] := fun z => by rw [z] at hl; simp at hl; omega
        rw [if_pos c1, if_neg c2, if_neg c3]; omega
    · have : 0 < l1.length := List.length_pos_iff.mpr c1
      have c3 : ls ≠ [] := fun z => by rw [z] at hl; simp at hl; omega
      by_cases c2 : l2 = []
      · rw [if_neg c1, if_pos c2, if_neg c3]; omega
      · have := h1 c1 c2
        rw [if_neg c1, if_neg c2, if_neg c3]; omega
  · rw [et, List.flatten_append, List.length_append]
    have e : ([l1, l2] : List PrL).flatten.length = l1.length + l2.length := by simp
    rw [e]
    have := h.le
    omega
theorem Half.last {os : List (Nat × Bool)} {rl out : List PrL} {i more : Nat} {l1 : PrL} (h : Half os rl i out more) (e1 : rl[2 * i]? = some l1) (e2 : rl.length ≤ 2 * i + 1) (st : Srtd (before os) l1) : Half os rl (i + 1) (out ++ [l1]) (more + 0) := by
  have et := take_last e1 e2
  refine ⟨by rw [List.length_append, h.len]; rfl, ?_, fun r hr => ?_, ?_, ?_⟩
  · rw [et, List.flatten_append, List.flatten_append]
    exact h.perm.append_right _
  · rcases List.mem_append.mp hr with hr | hr
    · exact h.srt r hr
    · rw [List.mem_singleton.mp hr]; exact st
  · rw [et, neN_app, neN_app]
    have := h.ne
    omega
  · rw [et, List.flatten_append, List.length_append]
    have := h.le
    omega
theorem cnt_two : ∀ l < 121, cnt l 2 = (l + 1) / 2 := by decide +kernel
/-- the layers of the merging -/
structure Layer (os : List (Nat × Bool)) (all : List PrL) (rl : List PrL) (n : Nat) : Prop where
  perm : rl.flatten.Perm all.flatten
  srt : ∀ r ∈ rl, Srtd (before os) r
  ne : neN all ≤ n + neN rl
  hi : ∀ k, all.length ≤ 2 ^ k → ∃ j, rl.length ≤ 2 ^ j ∧ n + j * all.flatten.length ≤ k * all.flatten.length
  le : rl.length ≤ all.length
theorem Layer.new {os : List (Nat × Bool)} {all : List PrL} (s : ∀ r ∈ all, Srtd (before os) r) : Layer os all all 0 := ⟨.refl _, s, by omega, fun k h => ⟨k, h, by omega⟩, Nat.le_refl _⟩
theorem Layer.next {os : List (Nat × Bool)} {all rl out : List PrL} {n more i : Nat} (h : Layer os all rl n) (g : Half os rl i out more) (h1 : 1 < rl.length) (hi : i = (rl.length + 1) / 2) : Layer os all out (n + more) := by
  have et : rl.take (2 * i) = rl := List.take_of_length_le (by omega)
  have gp := g.perm
  have gn := g.ne
  have gl := g.le
  rw [et] at gp gn gl
  have fl : rl.flatten.length = all.flatten.length := h.perm.length_eq
  refine ⟨gp.trans h.perm, g.srt, by have := h.ne; omega, fun k hk => ?_, by rw [g.len]; have := h.le; omega⟩
  obtain ⟨j, hj, hb⟩ := h.hi k hk
  cases j with
  | zero => simp at hj; omega
  | succ j =>
    refine ⟨j, ?_, ?_⟩
    · rw [g.len, hi]
      rw [Nat.pow_succ] at hj
      omega
    · rw [Nat.succ_mul] at hb
      omega
theorem Layer.fin {os : List (Nat × Bool)} {all : List PrL} {l : PrL} {n : Nat} (h : Layer os all [l] n) : l.Perm all.flatten ∧ Srtd (before os) l ∧ neN all ≤ n + 1 ∧ ∀ k, all.length ≤ 2 ^ k → n ≤ k * all.flatten.length := by
  refine ⟨by simpa using h.perm, h.srt l (by simp), ?_, fun k hk => ?_⟩
  · have := h.ne
    rw [neN_one] at this
    split at this <;> omega
  · obtain ⟨j, _, hb⟩ := h.hi k hk
    omega
theorem flat_mem {rl : List PrL} {l : PrL} (h : l ∈ rl) : l.length ≤ rl.flatten.length := by
  induction rl with
  | nil => cases h
  | cons r rl ih =>
    rw [List.flatten_cons, List.length_append]
    rcases List.mem_cons.mp h with e | h
    · rw [e]; omega
    · have := ih h; omega
theorem flat_two {rl : List PrL} {i : Nat} {l1 l2 : PrL} (e1 : rl[2 * i]? = some l1) (e2 : rl[2 * i + 1]? = some l2) : l1.length + l2.length ≤ rl.flatten.length := by
  have e := take_two e1 e2
  have h := List.take_append_drop (2 * (i + 1)) rl
  rw [e] at h
  rw [← h, List.flatten_append, List.flatten_append, List.length_append, List.length_append]
  have : ([l1, l2] : List PrL).flatten.length = l1.length + l2.length := by simp
  omega
end RS
set_option Elab.async false
set_option maxRecDepth 100000
set_option maxHeartbeats 4000000
namespace RS
open PySem PySem.Spec PyProof.Rows L2 GX
/-! ### what is told: new lists of pairs -/
structure Runs (K : PySem.W.Frag) (ks : List Bool) (H H' : Hp) (as : List Addr) (rs : List (List (Nat × List PyData))) : Prop where
  len : as.length = rs.length
  nd : as.Nodup
  fresh : ∀ a ∈ as, H a = none
  at_ : ∀ (i : Nat) (a : Addr) (r : List (Nat × List PyData)), as[i]? = some a → rs[i]? = some r → ∃ x, H' a = some (.lst x) ∧ DpAll K H' x (r.map pairD)
  ok : ∀ r ∈ rs, ∀ q ∈ r, isRow ks (.tuple q.2) = true
section
variable {K : PySem.W.Frag} {ks : List Bool} {H H' : Hp} {as : List Addr} {rs : List (List (Nat × List PyData))}
theorem Runs.nil : Runs K ks H H' [] [] := ⟨rfl, .nil, (fun _ h => nomatch h), fun i a r h => by simp at h, (fun _ h => nomatch h)⟩
theorem Runs.tracked (R : Runs K ks H H' as rs) {a : Addr} (ha : a ∈ as) : ∃ x, H' a = some (.lst x) := by
  obtain ⟨i, hi, e⟩ := List.getElem_of_mem ha
  have hi2 : i < rs.length := by rw [← R.len]; exact hi
  obtain ⟨x, h, _⟩ := R.at_ i a rs[i] (by rw [List.getElem?_eq_getElem hi, e]) (List.getElem?_eq_getElem hi2)
  exact ⟨x, h⟩
theorem Runs.same {H2 : Hp} (R : Runs K ks H H' as rs) (s : Same H' H2) : Runs K ks H H2 as rs := ⟨R.len, R.nd, R.fresh, fun i a r h1 h2 => by
  obtain ⟨x, h, d⟩ := R.at_ i a r h1 h2
  exact ⟨x, s _ _ h, dpAll_same s _ d⟩, R.ok⟩
theorem Runs.upd_ (R : Runs K ks H H' as rs) {b : Addr} {xs u : List V} (hb : H' b = some (.lst xs)) (n : b ∉ as) : Runs K ks H (upd H' b (.lst u)) as rs := ⟨R.len, R.nd, R.fresh, fun i a r h1 h2 => by
  obtain ⟨x, h, d⟩ := R.at_ i a r h1 h2
  exact ⟨x, (upd_ne (fun z => n (by rw [← z]; exact List.mem_of_getElem? h1))).trans h, dpAll_upd hb _ (pairs_noL (R.ok r (List.mem_of_getElem? h2))) d⟩, R.ok⟩
theorem Runs.snoc (R : Runs K ks H H' as rs) {a : Addr} {r : List (Nat × List PyData)} {x : List V} (h : H' a = some (.lst x)) (d : DpAll K H' x (r.map pairD)) (hf : H a = none) (n : a ∉ as) (ok : ∀ q ∈ r, isRow ks (.tuple q.2) = true) : Runs K ks H H' (as ++ [a]) (rs ++ [r]) := by
  refine ⟨by simp [R.len], ?_, fun b hb => ?_, fun i b q h1 h2 => ?_, fun q hq => ?_⟩
  · refine List.nodup_append.mpr ⟨R.nd, by simp, fun x hx y hy => ?_⟩
    rw [List.mem_singleton.mp hy]
    exact fun z => n (by rw [← z]; exact hx)
  · rcases List.mem_append.mp hb with hb | hb
    · exact R.fresh b hb
    · rw [List.mem_singleton.mp hb]; exact hf
  · by_cases hi : i < as.length
    · rw [List.getElem?_append_left hi] at h1
      rw [List.getElem?_append_left (by rw [← R.len]; exact hi)] at h2
      exact R.at_ i b q h1 h2
    · have hi2 : i = as.length := by
        have := (List.getElem?_eq_some_iff.mp h1).1
        rw [List.length_append, List.length_singleton] at this
        omega
      subst hi2
      have e1 : (as ++ [a])[as.length]? = some a := by simp
      have e2 : (rs ++ [r])[as.length]? = some r := by rw [R.len]; simp
      rw [e1] at h1
      rw [e2] at h2
      cases h1
      cases h2
      exact ⟨x, h, d⟩
  · rcases List.mem_append.mp hq with hq | hq
    · exact R.ok q hq
    · rw [List.mem_singleton.mp hq]; exact ok
end
end RS
set_option Elab.async false
set_option maxRecDepth 100000
set_option maxHeartbeats 4000000
namespace RS
open PySem PySem.Spec PyProof.Rows L2 GX
section
variable {X : Cx} {o e : Expr} {es : List Expr} {to : TE} {t : TA} {name : Str} {apos cpos : Pos} {T id : String} {r : V → List V → Hp → VK → Prop} {K : PySem.W.Frag}
/-- a method called where the frame's own facts are named -/
theorem pe_bmC (eK : X.K = K) (pa : PlainAttrs T) (slot : Slot T name id) (hty : typeOf (.builtin id) = pure (.type "method_descriptor")) (hm : MtR X id r) (ho : PE X o to) (ha : PA X (e :: es) t) (h1 : attributeBase o name X.env (eval o X.env) = eval o X.env := by rfl) (h2 : ((backTo cpos (starEach (e :: es) X.env)).all (fun x => !x.1) && (backToKw cpos (keywordEach [] X.env)).all (fun x => x.1.isSome) && decide ((e :: es).length + ([] : List Keyword).length + (if ([] : List Keyword).isEmpty then 0 else 1) < 30)) = true := by rfl) (h3 : (apos.endLine == cpos.line) = true := by rfl) (h4 : starEach (e :: es) X.env = (false, eval e X.env) :: starEach es X.env := by rfl) (h5 : (backTo cpos (starEach es X.env)).any (·.1) = false := by rfl) : PE X (.Call (.Attribute o name apos) (e :: es) [] cpos) (tBM K T r to t) := by
  subst eK
  exact pe_bm pa slot hty hm ho ha h1 h2 h3 h4 h5
theorem len_seqC (eK : X.K = K) : CallR X (.builtin "len") (fun xs H Q => ∃ p ys, xs = [.ref p] ∧ (SqL K H p ys ∨ SqT K H p ys) ∧ Q (.int ys.length) H) := by
  subst eK
  exact call_len_seq
end
end RS
set_option Elab.async false
set_option maxRecDepth 100000
set_option maxHeartbeats 8000000
set_option pp.maxSteps 400
namespace RS
open PySem PySem.Spec PyProof.Rows L2 GX
theorem list_ofC {X : Cx} {K : PySem.W.Frag} (eK : X.K = K) : CallR X (.type "list") (fun xs H Q => ∃ p ys, xs = [.ref p] ∧ (SqL K H p ys ∨ SqT K H p ys) ∧ ∀ l, H l = none → Q (.ref l) (upd H l (.lst ys))) := by
  subst eK
  exact call_list_of
theorem sl_listD {X : Cx} {K : PySem.W.Frag} (eK : X.K = K) : SlR X (rSlL K) := by
  subst eK
  exact sl_list
theorem adj_cons {os : List (Nat × Bool)} {t u : TPr} {ts : List TPr} : adj os (t :: u :: ts) = (before os (natT t) (natT u) && adj os (u :: ts)) := by
  simp [adj]
theorem adj_srtd {os : List (Nat × Bool)} : ∀ {ts : List TPr}, adj os ts = true → SrtO.Srtd (before os) (ts.map natT)
  | [], _ => List.Pairwise.nil
  | [t], _ => List.pairwise_singleton _ _
  | t :: u :: ts, h => by
    rw [adj_cons] at h
    obtain ⟨h1, h2⟩ := Bool.and_eq_true_iff.mp h
    have ih := adj_srtd h2
    refine List.pairwise_cons.mpr ⟨fun y hy => ?_, ih⟩
    have h3 := (swo_before os).asym _ _ h1
    rcases List.mem_cons.mp hy with e | hy
    · rw [e]; exact h3
    · exact (swo_before os).tr _ _ _ h3 ((List.pairwise_cons.mp ih).1 y hy)
def natRs (rs : List (List TPr)) : List PrL := rs.map fun r => r.map natT
def rdP (l : PrL) : PyData := .list (l.map pairD)
theorem natRs_D {ks : List Bool} {os : List (Nat × Bool)} {rs : List (List TPr)} (h : ∀ r ∈ rs, okRun ks os r = true) : rs.map runD = (natRs rs).map rdP := by
  unfold natRs
  rw [List.map_map]
  refine List.map_congr_left fun r hr => ?_
  show PyData.list (r.map toldD) = .list ((r.map natT).map pairD)
  rw [List.map_map]
  congr 1
  refine List.map_congr_left fun t ht => ?_
  exact toldD_nat (List.all_eq_true.mp (Bool.and_eq_true_iff.mp (h r hr)).1 t ht)
theorem natRs_ok {ks : List Bool} {os : List (Nat × Bool)} {rs : List (List TPr)} (h : ∀ r ∈ rs, okRun ks os r = true) : ∀ r ∈ natRs rs, SrtO.Srtd (before os) r ∧ ∀ q ∈ r, isRow ks (.tuple q.2) = true := fun r hr => by
  obtain ⟨u, hu, rfl⟩ := List.mem_map.mp hr
  obtain ⟨h1, h2⟩ := Bool.and_eq_true_iff.mp (h u hu)
  refine ⟨adj_srtd h2, fun q hq => ?_⟩
  obtain ⟨t, ht, rfl⟩ := List.mem_map.mp hq
  exact (Bool.and_eq_true_iff.mp (List.all_eq_true.mp h1 t ht)).2
theorem natRs_len (rs : List (List TPr)) : (natRs rs).flatten.length = (rs.flatMap numsT).length := by
  induction rs with
  | nil => rfl
  | cons r rs ih =>
    show (r.map natT ++ (natRs rs).flatten).length = _
    rw [List.flatMap_cons, List.length_append, List.length_append, ih]
    simp [numsT]
section
variable {P : Program} {w : World} {K : PySem.W.Frag} {mg : Str → Option Value} {base : Heap}
theorem scMerged : FnScope ["kinds", "order", "runs", "left", "looks", "pairs", "pair", "run", "more", "at"] ["kinds", "order", "runs"] (defScope s_merged) := ⟨rfl, rfl, rfl, by decide +kernel, rfl, by decide +kernel, by decide +kernel⟩
def spMerged (K : PySem.W.Frag) (CB pK pW pR pN : Addr) : Sp := fun vs H Q E => ∃ (vk vo : V) (a : Addr) (xs : List V) (ks : List Bool) (os : List (Nat × Bool)) (rs : List (List TPr)), vs = [vk, vo, .ref a] ∧ Dp K H vk (kindsD ks) ∧ Dp K H vo (orderD os) ∧ SqL K H a xs ∧ DpAll K H xs (rs.map runD) ∧ 1 ≤ ks.length ∧ ks.length ≤ 4 ∧ os.length ≤ 1000 ∧ OkOrder ks.length os ∧ (∀ r ∈ rs, ∀ t ∈ r, fitT t) ∧ (rs.flatMap numsT).length ≤ 100000 ∧ Tab H pK ∧ Tab H pW ∧ Tab H pR ∧ Tab H pN ∧
  ((GoodR ks os rs ∧ ∀ (H' : Hp) (t p : Addr) (ys : List V) (ls : PrL) (n : Nat), Same H H' → H' t = some (.tup [.ref p, .int (n : Nat)]) → H p = none → H' p = some (.lst ys) → DpAll K H' ys (ls.map pairD) → ls.Perm (natRs rs).flatten → SrtO.Srtd (before os) ls → neN (natRs rs) ≤ n + 1 → (∀ k, rs.length ≤ 2 ^ k → n ≤ k * (natRs rs).flatten.length) → Q (.ref t) H') ∨
   ∃ n, BadR ks os rs n ∧ ∀ (H' : Hp) (dd : Addr), Same H H' → H' dd = some (.xd [("number", .int (n : Nat))]) → E (.ref CB) (some dd) H')
theorem merged_ok {c CB pK pW pR pN : Addr} (D : DefAt K mg "merged" s_merged c) (T : Txt K mg) (cK : Cal P w K mg base CX0 2 "check_kinds" ["kinds"] (spCheckKinds K pK)) (cO : Cal P w K mg base CX0 3 "check_order" ["kinds", "order"] (spCheckOrder K)) (cR : Cal P w K mg base (L2.CX P w) 9 "check_runs" ["kinds", "order", "runs"] (spCheckRuns K CB pW pR pN)) (cP : Cal P w K mg base CX0 4 "merged_pair" ["order", "pair"] (spMPair K)) :
    Cal P w K mg base (L2.CX P w) 10 "merged" ["kinds", "order", "runs"] (spMerged K CB pK pW pR pN) := by
  have sc := scMerged
  refine def_ok D sc (fun vs H Q E h => ?_) (fun _ _ _ _ _ _ us hl => match us, hl with | [_, _, _], _ => rfl) (fun f A outer s H vs Q E hr h => ?_)
  · obtain ⟨vk, vo, a, xs, ks, os, rs, rfl, _⟩ := h
    rfl
  · obtain ⟨vk, vo, a, xs, ks, os, rs, rfl, hk, ho, hS, hI, k1, k4, hlo, oko, hz, hsz, hK, hW, hR, hN, k⟩ := h
    refine ⟨_, (pss_cons (ps_expr (pe_c cK hr (by decide) (by rfl) pass0 (pa_cons (pv 0) pa_nil))) (pss_cons (ps_expr (pe_c cO hr (by decide) (by rfl) pass0 (pa_cons (pv 0) (pa_cons (pv 1) pa_nil)))) (pss_cons (ps_expr (pe_c cR hr (by decide) (by rfl) (passes_call (takes_of rfl rfl rfl rfl) fun _ _ _ _ h => h) (pa_cons (pv 0) (pa_cons (pv 1) (pa_cons (pv 2) pa_nil))))) (pss_cons (ps_if (pt_cmpR op_eq (pe_callB call_len_seq (by rfl) T.len PySem.boot_len (pa_cons (pv 2) pa_nil)) pe_int (nomark _)) (pss_one (ps_ret (pe_tup (pa_cons (pe_lst pa_nil) (pa_cons pe_int pa_nil))))) pss_nil) (pss_cons (ps_asg (pe_tup (pa_cons (pe_lc (own := [("run", 7)]) (tt := tYes)  rfl sc.nd (pi_list (pv 2)) (blkOk_by (N := ["kinds", "order", "runs", "left", "looks", "pairs", "pair", "run", "more", "at"]) (sc := defScope s_merged) (own := [("run", 7)]) (by decide +kernel)) (fun _ _ _ _ _ => (pg_name (i := 7) sc.nd rfl (Or.inl rfl))) (fun _ _ _ _ _ => pts_nil) (fun _ _ _ _ _ => (pe_callTy (list_ofC (K := K) rfl) (by rfl) T.list_ (by decide +kernel) (pa_cons (pv 7) pa_nil)))) (pa_cons pe_int pa_nil))) (pg_tup (by rfl) (pgs_cons (pg_name (i := 3) sc.nd rfl (Or.inr rfl)) (pgs_cons (pg_name (i := 4) sc.nd rfl (Or.inl rfl)) pgs_nil)))) (pss_cons (ps_while (passes_of rfl) (pt_cmpR op_gt (pe_callB call_len_seq (by rfl) T.len PySem.boot_len (pa_cons (pv 3) pa_nil)) pe_int (nomark _)) (pss_cons (ps_setLc (own := [("at", 9)]) (tt := tYes) rfl sc.nd (i := 5) rfl rfl (by rfl) (pi_range3 (by rfl) T.range (pa_cons pe_int (pa_cons (pe_callB call_len_seq (by rfl) T.len PySem.boot_len (pa_cons (pv 3) pa_nil)) (pa_cons pe_int pa_nil)))) (blkOk_by (N := ["kinds", "order", "runs", "left", "looks", "pairs", "pair", "run", "more", "at"]) (sc := defScope s_merged) (own := [("at", 9)]) (by decide +kernel)) (fun _ _ _ _ _ => (pg_name (i := 9) sc.nd rfl (Or.inl rfl))) (fun _ _ _ _ _ => pts_nil) (fun _ _ _ _ _ => pe_slice (sl_listD (K := K) rfl) (pv 3) (po_some (pv 9)) (po_some (pe_op op_add (pv 9) pe_int)))) (pss_cons (ps_set (i := 3) sc.nd rfl (Or.inr rfl) (pe_lst pa_nil)) (pss_one (ps_for (passes_of rfl) rfl (pi_list (pv 5)) (pg_name (i := 6) sc.nd rfl (Or.inl rfl)) (pss_cons (ps_asg (pe_c cP hr (by decide) (by rfl) pass0 (pa_cons (pv 1) (pa_cons (pv 6) pa_nil))) (pg_tup (by rfl) (pgs_cons (pg_name (i := 7) sc.nd rfl (Or.inl rfl)) (pgs_cons (pg_name (i := 8) sc.nd rfl (Or.inl rfl)) pgs_nil)))) (pss_cons (ps_expr (pe_bm PySem.F.plainAttrs_list PySem.F.slot_list_append PySem.F.type_list_append mt_append (pv 3) (pa_cons (pv 7) pa_nil))) (pss_one (ps_aug (i := 4) sc.nd rfl (Or.inl rfl) (pv 8) ip_add))))))))) (pss_one (ps_ret (pe_tup (pa_cons (pe_ix ix_list (pv 3) pe_int (fun _ _ => rfl)) (pa_cons (pv 4) pa_nil))))))))))), ?_⟩
    refine ⟨_, rfl, vk, ks, rfl, hk, k1, k4, hK, ?_⟩
    refine ⟨_, rfl, _, rfl, vk, vo, ks, os, rfl, hk, ho, oko, hlo, fun H1 s1 => ?_⟩
    refine ⟨_, rfl, _, rfl, _, rfl, vk, vo, a, xs, ks, os, rs, rfl, dp_same s1 _ hk, dp_same s1 _ ho, s1.seq hS, dpAll_same s1 _ hI, by omega, hlo, oko, hz, hsz, s1 _ _ hW, s1 _ _ hR, s1 _ _ hN, ?_⟩
    rcases k with ⟨g, k⟩ | ⟨n, b, k⟩
    · refine .inl ⟨g, fun H2 s2 => ?_⟩
      have s02 := s1.trans s2
      have lx : xs.length = rs.length := by rw [dpLen hI, List.length_map]
      have big : (1000000 : Nat) ≤ sizeLine := by decide
      have okn := natRs_ok g.1
      rw [natRs_D g.1] at hI
      have ln : (natRs rs).length = rs.length := List.length_map _
      have tot : (natRs rs).flatten.length ≤ 100000 := by rw [natRs_len]; exact hsz
      have l40 := g.2.2
      refine ⟨_, rfl, a, xs, rfl, .inl (s02.seq hS), rfl, _, rfl, ?_⟩
      by_cases hz0 : rs.length = 0
      · refine iteT' (decide_eq_true (by rw [lx, hz0]; rfl)) ?_
        have e0 : rs = [] := List.length_eq_zero_iff.mp hz0
        subst e0
        refine ⟨Nat.zero_le _, fun p hp => ⟨by show 2 ≤ sizeLine; decide, fun t ht => ?_⟩⟩
        have s3 := sameNew (o := .lst []) s02 hp
        have hp3 : upd H2 p (.lst []) p = some (.lst []) := upd_same
        generalize upd H2 p (.lst []) = H3 at s3 hp3 ht ⊢
        have s4 := sameNew (o := .tup [.ref p, .int 0]) (Same.refl H3) ht
        refine k _ t p [] [] 0 (s3.trans s4) upd_same (s02.free hp) (s4 _ _ hp3) .nil (by simp [natRs]) List.Pairwise.nil (by simp [natRs, neN]) (fun _ _ => Nat.zero_le _)
      · refine iteF' (decide_eq_false fun z => by have := V.int.inj z; omega) ?_
        refine ⟨_, rfl, a, rfl, ⟨xs, s02.seq hS⟩, fun DD hD => ?_⟩
        have hD0 : H DD = none := s02.free hD
        refine lc_list (K := K) (a := a) (xs := xs) (fun j H' => ∃ as : List Addr, Same H2 H' ∧ H' DD = some (.lst (as.map V.ref)) ∧ Runs K ks H H' as ((natRs rs).take j) ∧ DD ∉ as)
          ⟨[], sameNew (Same.refl H2) hD, upd_same, by rw [List.take_zero]; exact Runs.nil, fun h => nomatch h⟩ (fun j H' _ h => by obtain ⟨_, h, _⟩ := h; exact (s02.trans h).seq hS) ?_ ?_
        · rintro j y H4 hy ⟨as, s4, hD4, R, nD⟩
          have s04 := s02.trans s4
          obtain ⟨d, ed, hdy⟩ := dpGet hI hy
          obtain ⟨r, er, rfl⟩ : ∃ r, (natRs rs)[j]? = some r ∧ rdP r = d := by
            rw [List.getElem?_map] at ed
            cases q : (natRs rs)[j]? with
            | none => rw [q] at ed; cases ed
            | some b => rw [q] at ed; exact ⟨b, rfl, Option.some.inj ed⟩
          have hj : j < rs.length := by rw [← ln]; exact (List.getElem?_eq_some_iff.mp er).1
          cases hdy with
          | @lst ar ys _ hSr hIr =>
            refine ⟨rfl, _, rfl, ar, ys, rfl, .inl (s04.seq hSr), fun l hl => ?_⟩
            have s5 := sameNew (o := .lst ys) (Same.refl H4) hl
            have hl5 : upd H4 l (.lst ys) l = some (.lst ys) := upd_same
            have nl : l ∉ as := fun z => by obtain ⟨x, hx⟩ := R.tracked z; rw [hl] at hx; cases hx
            have nlD : DD ≠ l := fun z => by rw [← z, hD4] at hl; cases hl
            have hl0 := s04.free hl
            generalize upd H4 l (.lst ys) = H5 at s5 hl5 ⊢
            have R5 := (R.same s5).snoc hl5 (dpAll_same (s04.trans s5) _ hIr) hl0 nl (okn r (List.mem_of_getElem? er)).2
            have las : as.length = j := by rw [R.len, List.length_take, ln]; omega
            have nD2 : DD ∉ as ++ [l] := fun z => by
              rcases List.mem_append.mp z with z | z
              · exact nD z
              · exact nlD (List.mem_singleton.mp z)
            refine ⟨_, s5 _ _ hD4, small1000 (by rw [List.length_map, las]; omega), as ++ [l], fun b o e => (upd_ne (ne_of_none e hD)).trans (s5 _ _ (s4 b o e)), by rw [upd_same, List.map_append]; rfl, ?_, nD2⟩
            rw [take_snoc er]
            exact R5.upd_ (s5 _ _ hD4) nD2
        · rintro H4 ⟨as, s4, hD4, R, nD⟩
          rw [List.take_of_length_le (by omega)] at R
          have s04 := s02.trans s4
          refine ⟨by show 2 ≤ sizeLine; decide, fun t ht => ?_⟩
          have s5 := sameNew (o := .tup [.ref DD, .int 0]) (Same.refl H4) ht
          have ht5 : upd H4 t (.tup [.ref DD, .int 0]) t = some (.tup [.ref DD, .int 0]) := upd_same
          generalize upd H4 t (.tup [.ref DD, .int 0]) = H5 at s5 ht5 ⊢
          refine ⟨t, _, rfl, SqT.of ht5, rfl, _, _, rfl, _, _, rfl, rfl, ?_⟩
          refine ⟨fun m σ H' => ∃ (Lf : Addr) (as : List Addr) (rl : List PrL) (n : Nat) (v5 v6 v7 v8 : Option V), σ = [some vk, some vo, some (.ref a), some (.ref Lf), some (.int (n : Nat)), v5, v6, v7, v8, none] ∧ Same H H' ∧ H Lf = none ∧ H' Lf = some (.lst (as.map V.ref)) ∧ Runs K ks H H' as rl ∧ Lf ∉ as ∧ Layer os (natRs rs) rl n ∧ 1 ≤ rl.length ∧ m = rl.length,
            ⟨_, DD, as, natRs rs, 0, _, _, _, _, rfl, s04.trans s5, hD0, s5 _ _ hD4, R.same s5, nD, Layer.new fun r hr => (okn r hr).1, by omega, rfl⟩, ?_⟩
          rintro m σ H6 ⟨Lf, as, rl, n, v5, v6, v7, v8, rfl, s6, hLf0, hLf, R, nL, Ly, l1, rfl⟩
          have las := R.len
          have lrl := Ly.le
          refine ⟨_, rfl, Lf, _, rfl, .inl (SqL.of hLf), _, _, rfl, rfl, _, rfl, ?_⟩
          have lal : (as.map V.ref).length = rl.length := by rw [List.length_map, las]
          have nat2 : (1 : Int) < ((as.map V.ref).length : Nat) ↔ 1 < rl.length := by rw [lal]; omega
          by_cases c1 : 1 < rl.length
          · refine iteT' (decide_eq_true (nat2.mpr c1)) ⟨fun σ' H' => ∃ (Lf : Addr) (as : List Addr) (rl2 : List PrL) (n : Nat) (v5 v6 v7 v8 : Option V), σ' = [some vk, some vo, some (.ref a), some (.ref Lf), some (.int (n : Nat)), v5, v6, v7, v8, none] ∧ Same H H' ∧ H Lf = none ∧ H' Lf = some (.lst (as.map V.ref)) ∧ Runs K ks H H' as rl2 ∧ Lf ∉ as ∧ Layer os (natRs rs) rl2 n ∧ 1 ≤ rl2.length ∧ rl2.length < rl.length,
              fun σ' H' h => by obtain ⟨e1, e2, e3, e4, e5, e6, e7, e8, e9, f1, f2, f3, f4, f5, f6, f7, f8⟩ := h; exact ⟨_, f8, e1, e2, e3, e4, e5, e6, e7, e8, e9, f1, f2, f3, f4, f5, f6, f7, rfl⟩, ?_⟩
            refine ⟨_, rfl, Lf, _, rfl, .inl (SqL.of hLf), ?_⟩
            rw [lal]
            refine ⟨0, _, ((2 : Nat) : Int), cnt rl.length 2, rfl, rgc (by omega) (by decide) (by decide), fun PT hPT => ?_⟩
            have hcnt := cnt_two rl.length (by omega)
            refine lc_by (cnt rl.length 2) (fun j H' => Same H6 H' ∧ ∃ ps : List Addr, H' PT = some (.lst (ps.map V.ref)) ∧ ps.length = j ∧ PT ∉ ps ∧ ∀ (i : Nat) (p : Addr), ps[i]? = some p → H' p = some (.lst (((as.map V.ref).drop (i * 2)).take 2)))
              ⟨fun b o e => (upd_ne (ne_of_none e hPT)).trans e, [], upd_same, rfl, (fun h => nomatch h), fun i p h => by simp at h⟩ ?_ ?_
            · rintro j H' hj ⟨sm, ps, hP, lp, nP, hat⟩
              refine ⟨hj, fun y H2' ⟨e2, ey⟩ => ?_⟩
              subst e2 ey
              refine ⟨rfl, _, rfl, ?_⟩
              refine ⟨_, rfl, _, rfl, _, rfl, _, _, rfl, rfl, _, rfl, Lf, _, rfl, sm.seq (SqL.of hLf), fun p hp => ?_⟩
              have hcut : cutV (as.map V.ref) (some (0 + (j : Nat) * ((2 : Nat) : Int))) (some (0 + (j : Nat) * ((2 : Nat) : Int) + 2)) = ((as.map V.ref).drop (j * 2)).take 2 := by
                have e1 : (0 + (j : Nat) * ((2 : Nat) : Int) : Int) = ((j * 2 : Nat) : Int) := by rw [Int.zero_add, Int.natCast_mul]
                have e2 : ((j * 2 : Nat) : Int) + 2 = ((j * 2 + 2 : Nat) : Int) := by rw [Int.natCast_add]; rfl
                rw [e1, e2]
                exact cutV_mid
              rw [hcut]
              have nPp : PT ≠ p := fun z => by rw [← z, hP] at hp; cases hp
              have s2' := sameNew (o := .lst (((as.map V.ref).drop (j * 2)).take 2)) (Same.refl H2') hp
              have hp' : upd H2' p (.lst (((as.map V.ref).drop (j * 2)).take 2)) p = some (.lst (((as.map V.ref).drop (j * 2)).take 2)) := upd_same
              generalize upd H2' p (.lst (((as.map V.ref).drop (j * 2)).take 2)) = H3' at s2' hp' ⊢
              refine ⟨_, s2' _ _ hP, small1000 (by rw [List.length_map]; omega), fun b o e => (upd_ne (ne_of_none e hPT)).trans (s2' _ _ (sm _ _ e)), ps ++ [p], by rw [upd_same, List.map_append]; rfl, by rw [List.length_append, lp]; rfl, ?_, fun i q hi => ?_⟩
              · intro z
                rcases List.mem_append.mp z with z | z
                · exact nP z
                · exact nPp (List.mem_singleton.mp z)
              · by_cases hi2 : i < ps.length
                · rw [List.getElem?_append_left hi2] at hi
                  rw [upd_ne (fun z => nP (by rw [← z]; exact List.mem_of_getElem? hi))]
                  exact s2' _ _ (hat i q hi)
                · have h1 := (List.getElem?_eq_some_iff.mp hi).1
                  rw [List.length_append, List.length_singleton] at h1
                  have e1 : i = ps.length := by omega
                  rw [e1, List.getElem?_append_right (Nat.le_refl _), Nat.sub_self] at hi
                  cases hi
                  rw [upd_ne (Ne.symm nPp), hp', e1, lp]
            · rintro H7 ⟨sm, ps, hP, lp, nP, hat⟩
              refine ⟨Nat.le_refl _, ?_⟩
              refine ⟨Nat.zero_le _, fun L2f hL2 => ?_⟩
              have s07 := s6.trans sm
              have hL20 := s07.free hL2
              have s8 := sameNew (o := .lst []) (Same.refl H7) hL2
              refine ⟨_, rfl, PT, rfl, ⟨_, SqL.of (s8 _ _ hP)⟩, for_list (K := K) (a := PT) (xs := ps.map V.ref) (fun i σ H' => ∃ (as2 : List Addr) (out : List PrL) (more : Nat) (v6 v7 v8 : Option V), σ = [some vk, some vo, some (.ref a), some (.ref L2f), some (.int ((n + more : Nat) : Int)), some (.ref PT), v6, v7, v8, none] ∧ Same H7 H' ∧ H' L2f = some (.lst (as2.map V.ref)) ∧ Runs K ks H H' as2 out ∧ L2f ∉ as2 ∧ ((∀ b ∈ as2, H7 b = none) ∨ rl.length ≤ i * 2) ∧ Half os rl i out more)
                ⟨[], [], 0, _, _, _, rfl, s8, upd_same, Runs.nil, (fun h => nomatch h), .inl (fun b h => nomatch h), Half.new os rl⟩ (fun i σ H' _ h => by obtain ⟨_, _, _, _, _, _, _, h, _⟩ := h; exact SqL.of (h _ _ hP)) ?_ ?_⟩
              · rintro i y σ H8 hy ⟨as2, out, more, w6, w7, w8, rfl, s78, hL8, R8, nL8, fr8, hf8⟩
                obtain ⟨p, hpi, rfl⟩ : ∃ p, ps[i]? = some p ∧ y = .ref p := by
                  rw [List.getElem?_map] at hy
                  cases q : ps[i]? with
                  | none => rw [q] at hy; cases hy
                  | some b => rw [q] at hy; exact ⟨b, rfl, (Option.some.inj hy).symm⟩
                have hi : i < cnt rl.length 2 := by rw [← lp]; exact (List.getElem?_eq_some_iff.mp hpi).1
                have h2i : 2 * i < rl.length := by omega
                have hpa := s78 _ _ (hat i p hpi)
                have R8' := R.same (sm.trans s78)
                have s08 := s07.trans s78
                have frs : ∀ b ∈ as2, H7 b = none := by
                  rcases fr8 with h | h
                  · exact h
                  · omega
                obtain ⟨a1, ea1⟩ : ∃ a1, as[2 * i]? = some a1 := ⟨_, List.getElem?_eq_getElem (by omega)⟩
                obtain ⟨l1, el1⟩ : ∃ l1, rl[2 * i]? = some l1 := ⟨_, List.getElem?_eq_getElem h2i⟩
                obtain ⟨x1, hx1, hd1⟩ := R8'.at_ _ _ _ ea1 el1
                have rok : ∀ l ∈ rl, ∀ q ∈ l, Fits os q.2 ∧ noL (pairD q) = true := fun l hl q hq => ⟨row_fits (R.ok l hl q hq) oko, pair_noL (R.ok l hl q hq)⟩
                have fl : rl.flatten.length ≤ 100000 := by rw [Ly.perm.length_eq]; exact tot
                have lo8 : as2.length = i := by rw [R8.len, hf8.len]
                by_cases c2 : 2 * i + 1 < rl.length
                · obtain ⟨a2, ea2⟩ : ∃ a2, as[2 * i + 1]? = some a2 := ⟨_, List.getElem?_eq_getElem (by omega)⟩
                  obtain ⟨l2, el2⟩ : ∃ l2, rl[2 * i + 1]? = some l2 := ⟨_, List.getElem?_eq_getElem c2⟩
                  obtain ⟨x2, hx2, hd2⟩ := R8'.at_ _ _ _ ea2 el2
                  have el : ((as.map V.ref).drop (i * 2)).take 2 = [.ref a1, .ref a2] := by
                    apply List.ext_getElem?
                    intro m
                    rw [List.getElem?_take]
                    match m with
                    | 0 => rw [if_pos (by decide), List.getElem?_drop, List.getElem?_map, show i * 2 + 0 = 2 * i from by omega, ea1]; rfl
                    | 1 => rw [if_pos (by decide), List.getElem?_drop, List.getElem?_map, show i * 2 + 1 = 2 * i + 1 from by omega, ea2]; rfl
                    | m + 2 => rw [if_neg (by omega)]; simp
                  rw [el] at hpa
                  refine ⟨_, rfl, _, rfl, vo, p, _, rfl, SqL.of hpa, .inr ⟨a1, a2, x1, x2, os, l1, l2, rfl, dp_same s08 _ ho, hlo, SqL.of hx1, SqL.of hx2, hd1, hd2, Nat.le_trans (flat_two el1 el2) fl, fun q hq => ?_, Ly.srt _ (List.mem_of_getElem? el1), Ly.srt _ (List.mem_of_getElem? el2), fun H9 t9 p9 ys ls n9 s9 ht9 hp90 hp9 hd9 pm9 st9 hn9 h19 => ?_⟩⟩
                  · rcases List.mem_append.mp hq with hq | hq
                    · exact rok _ (List.mem_of_getElem? el1) q hq
                    · exact rok _ (List.mem_of_getElem? el2) q hq
                  · refine ⟨t9, _, rfl, SqT.of ht9, rfl, _, _, rfl, _, _, rfl, rfl, ?_⟩
                    have hL9 := s9 _ _ hL8
                    have np : p9 ∉ as2 := fun z => by obtain ⟨x, hx⟩ := R8.tracked z; rw [hp90] at hx; cases hx
                    have npL : L2f ≠ p9 := fun z => by rw [← z, hL8] at hp90; cases hp90
                    have ok9 : ∀ q ∈ ls, isRow ks (.tuple q.2) = true := fun q hq => by
                      rcases List.mem_append.mp (pm9.mem_iff.mp hq) with h | h
                      · exact R.ok _ (List.mem_of_getElem? el1) q h
                      · exact R.ok _ (List.mem_of_getElem? el2) q h
                    have R9 := (R8.same s9).snoc hp9 hd9 (s08.free hp90) np ok9
                    have nL9 : L2f ∉ as2 ++ [p9] := fun z => by
                      rcases List.mem_append.mp z with z | z
                      · exact nL8 z
                      · exact npL (List.mem_singleton.mp z)
                    refine ⟨_, rfl, .inl ⟨rfl, _, SqL.of hL9⟩, _, rfl, L2f, _, _, rfl, rfl, hL9, small1000 (by rw [List.length_map, lo8]; omega), ?_⟩
                    refine ⟨_, rfl, _, rfl, _, _, rfl, rfl, ?_⟩
                    refine ⟨as2 ++ [p9], out ++ [ls], more + n9, some (.ref p), some (.ref p9), some (.int (n9 : Nat)), ?_, fun b o e => (upd_ne (ne_of_none e hL2)).trans (s9 _ _ (s78 b o e)), by rw [upd_same, List.map_append]; rfl, R9.upd_ hL9 nL9, nL9, .inl fun b hb => ?_, hf8.two el1 el2 pm9 st9 hn9 h19⟩
                    · rw [show (((n + (more + n9) : Nat)) : Int) = ((n + more : Nat) : Int) + (n9 : Nat) from by omega]
                      rfl
                    · rcases List.mem_append.mp hb with hb | hb
                      · exact frs b hb
                      · rw [List.mem_singleton.mp hb]; exact s78.free hp90
                · have el : ((as.map V.ref).drop (i * 2)).take 2 = [.ref a1] := by
                    apply List.ext_getElem?
                    intro m
                    rw [List.getElem?_take]
                    match m with
                    | 0 => rw [if_pos (by decide), List.getElem?_drop, List.getElem?_map, show i * 2 + 0 = 2 * i from by omega, ea1]; rfl
                    | 1 => rw [if_pos (by decide), List.getElem?_drop, List.getElem?_eq_none (by rw [List.length_map]; omega)]; rfl
                    | m + 2 => rw [if_neg (by omega)]; simp
                  rw [el] at hpa
                  refine ⟨_, rfl, _, rfl, vo, p, _, rfl, SqL.of hpa, .inl ⟨_, rfl, fun H9 t9 s9 ht9 => ?_⟩⟩
                  refine ⟨t9, _, rfl, SqT.of ht9, rfl, _, _, rfl, _, _, rfl, rfl, ?_⟩
                  have hL9 := s9 _ _ hL8
                  have h7a : ∃ x, H7 a1 = some (.lst x) := (R.same sm).tracked (List.mem_of_getElem? ea1)
                  obtain ⟨x7, h7a⟩ := h7a
                  have np : a1 ∉ as2 := fun z => by rw [frs a1 z] at h7a; cases h7a
                  have npL : L2f ≠ a1 := fun z => by rw [← z, hL2] at h7a; cases h7a
                  have R9 := (R8.same s9).snoc (s9 _ _ hx1) (dpAll_same s9 _ hd1) (R.fresh a1 (List.mem_of_getElem? ea1)) np (R.ok _ (List.mem_of_getElem? el1))
                  have nL9 : L2f ∉ as2 ++ [a1] := fun z => by
                    rcases List.mem_append.mp z with z | z
                    · exact nL8 z
                    · exact npL (List.mem_singleton.mp z)
                  refine ⟨_, rfl, .inl ⟨rfl, _, SqL.of hL9⟩, _, rfl, L2f, _, _, rfl, rfl, hL9, small1000 (by rw [List.length_map, lo8]; omega), ?_⟩
                  refine ⟨_, rfl, _, rfl, _, _, rfl, rfl, ?_⟩
                  refine ⟨as2 ++ [a1], out ++ [l1], more + 0, some (.ref p), some (.ref a1), some (.int 0), ?_, fun b o e => (upd_ne (ne_of_none e hL2)).trans (s9 _ _ (s78 b o e)), by rw [upd_same, List.map_append]; rfl, R9.upd_ hL9 nL9, nL9, .inr (by omega), hf8.last el1 (by omega) (Ly.srt _ (List.mem_of_getElem? el1))⟩
                  rw [show (((n + (more + 0) : Nat)) : Int) = ((n + more : Nat) : Int) + 0 from by omega]
                  rfl
              · rintro σ H8 ⟨as2, out, more, w6, w7, w8, rfl, s78, hL8, R8, nL8, fr8, hf8⟩
                rw [List.length_map, lp] at hf8
                refine ⟨L2f, as2, out, n + more, _, _, _, _, rfl, s07.trans s78, hL20, hL8, R8, nL8, Ly.next hf8 c1 hcnt, by rw [hf8.len]; omega, by rw [hf8.len]; omega⟩
          · refine iteF' (decide_eq_false fun z => c1 (nat2.mp z)) ?_
            obtain ⟨l, rfl⟩ : ∃ l, rl = [l] := by
              match rl, l1, c1 with
              | [l], _, _ => exact ⟨l, rfl⟩
              | _ :: _ :: _, _, h => exact absurd (by simp) h
            obtain ⟨p, rfl⟩ : ∃ p, as = [p] := by
              match as, las with
              | [p], _ => exact ⟨p, rfl⟩
            obtain ⟨ys, hp, hd⟩ := R.at_ 0 p l rfl rfl
            have hp0 := R.fresh p (by simp)
            obtain ⟨pm, st, ne, hi⟩ := Ly.fin
            refine ⟨_, rfl, Lf, _, _, _, rfl, rfl, SqL.of hLf, rfl, _, rfl, by show 2 ≤ sizeLine; decide, fun t ht => ?_⟩
            have s7 := sameNew (o := .tup [.ref p, .int (n : Nat)]) (Same.refl H6) ht
            exact k _ t p ys l n (s6.trans s7) upd_same hp0 (s7 _ _ hp) (dpAll_same s7 _ hd) pm st ne (fun k hk => hi k (by rw [ln]; exact hk))
    · exact .inr ⟨n, b, fun H2 dd s2 hd => k _ _ (s1.trans s2) hd⟩
end
end RS
set_option Elab.async false
set_option maxRecDepth 100000
set_option maxHeartbeats 4000000
namespace RS
open PySem PySem.Spec PyProof.Rows L2 GX
/-- the tables put away -/
def noT (H : Hp) : Hp := fun b => match H b with
  | some (.tbl _) => none
  | o => o
theorem noT_at {H : Hp} {b : Addr} {o : HO} (e : H b = some o) (n : ∀ ps, o ≠ .tbl ps) : noT H b = some o := by
  unfold noT
  rw [e]
  cases o <;> first | rfl | exact absurd rfl (n _)
theorem noT_of {H : Hp} {b : Addr} {o : HO} (e : noT H b = some o) : H b = some o ∧ ∀ ps, o ≠ .tbl ps := by
  unfold noT at e
  cases q : H b with
  | none => rw [q] at e; cases e
  | some u =>
    rw [q] at e
    cases u <;> first
      | exact ⟨e, fun ps z => by cases z; cases e⟩
      | (cases e)
theorem noT_none {H : Hp} {b : Addr} (e : H b = none) : noT H b = none := by
  unfold noT
  rw [e]
theorem noT_same (H : Hp) : Same (noT H) H := fun _ _ e => (noT_of e).1
theorem noT_up {H H' : Hp} (s : Same (noT H) H') : Same (noT H) (noT H') := fun b o e => noT_at (s b o e) (noT_of e).2
theorem noT_ext {H H' : Hp} (s : LamX.ExtN H H') : Same (noT H) H' := fun b o e => s b o (noT_of e).1 (noT_of e).2
theorem noT_mono {H H' : Hp} (s : Same H H') : Same (noT H) (noT H') := noT_up ((noT_same H).trans s)
theorem sqT_noT {K : PySem.W.Frag} {H : Hp} {a : Addr} {xs : List V} (h : SqT K H a xs) : SqT K (noT H) a xs := by
  rcases h with (h | ⟨o, h⟩) | h
  · exact .inl (.inl (noT_at h (fun _ z => by cases z)))
  · exact .inl (.inr ⟨o, noT_at h (fun _ z => by cases z)⟩)
  · exact .inr h
theorem sqL_noT {K : PySem.W.Frag} {H : Hp} {a : Addr} {xs : List V} (h : SqL K H a xs) : SqL K (noT H) a xs := by
  rcases h with (h | ⟨o, h⟩) | h
  · exact .inl (.inl (noT_at h (fun _ z => by cases z)))
  · exact .inl (.inr ⟨o, noT_at h (fun _ z => by cases z)⟩)
  · exact .inr h
mutual
theorem dp_noT {K : PySem.W.Frag} {H : Hp} : ∀ (d : PyData) {v : V}, Dp K H v d → Dp K (noT H) v d
  | .none, _, .non => .non
  | .bool b, _, .bl _ => .bl b
  | .int i, _, .int _ => .int i
  | .str x, _, .str _ => .str x
  | .list ds, _, .lst h hs => .lst (sqL_noT h) (dpAll_noT ds hs)
  | .tuple ds, _, .tup h hs => .tup (sqT_noT h) (dpAll_noT ds hs)
  | .dict _, _, h => nomatch h
theorem dpAll_noT {K : PySem.W.Frag} {H : Hp} : ∀ (ds : List PyData) {vs : List V}, DpAll K H vs ds → DpAll K (noT H) vs ds
  | [], _, .nil => .nil
  | d :: ds, _, .cons h hs => .cons (dp_noT d h) (dpAll_noT ds hs)
end
end RS
set_option Elab.async false
set_option maxRecDepth 100000
set_option maxHeartbeats 4000000
namespace RS
open PySem PySem.Spec PyProof.Rows L2 GX
theorem row_fit {ks : List Bool} {r : List PyData} (hk : ks.length ≤ 4) (h : isRow ks (.tuple r) = true) : fitR (.tuple r) := by
  have big : (6 : Nat) ≤ sizeLine := by decide
  refine ⟨by have := (isRow_get.mp h).1; omega, fun d hd => ?_⟩
  obtain ⟨b, hv⟩ := row_val h hd
  rcases val_atom hv with ⟨e, x, rfl⟩ | ⟨e, m, rfl⟩
  · subst e
    have := isWord_len hv
    show x.length ≤ sizeLine
    omega
  · trivial
theorem tabS_x {H H' : Hp} {B L P : Addr} {q : Str} (b : BoxAt H B L) (s : SameX B L H H') (t : LamX.TabS H P q) : LamX.TabS H' P q := by
  obtain ⟨_, ⟨st, hb'⟩, ⟨ms, hl'⟩⟩ := b
  obtain ⟨ps, h1, h2, h3⟩ := t
  refine ⟨ps, s _ _ (fun z => by rw [z, hb'] at h1; cases h1) (fun z => by rw [z, hl'] at h1; cases h1) h1, h2, fun pos cv hc => ?_⟩
  obtain ⟨c, e1, e2⟩ := h3 pos cv hc
  refine ⟨c, e1, s _ _ (fun z => ?_) (fun z => ?_) e2⟩
  · rw [z, hb'] at e2
    unfold LamX.CodeO at e2
    cases e2
  · rw [z, hl'] at e2
    unfold LamX.CodeO at e2
    cases e2
theorem box_noT {H : Hp} {B L : Addr} (b : BoxAt H B L) : BoxAt (noT H) B L := by
  obtain ⟨n, ⟨st, hb'⟩, ⟨ms, hl'⟩⟩ := b
  exact ⟨n, ⟨st, noT_at hb' (fun _ z => by cases z)⟩, ⟨ms, noT_at hl' (fun _ z => by cases z)⟩⟩
end RS
set_option Elab.async false
set_option maxRecDepth 100000
set_option maxHeartbeats 4000000
namespace RS
open PySem PySem.Spec PyProof.Rows L2 GX
/-! ### what stays where tables alone change -/
theorem dp_ext {K : PySem.W.Frag} {H H' : Hp} (s : LamX.ExtN H H') {d : PyData} {v : V} (h : Dp K H v d) : Dp K H' v d := dp_same (noT_ext s) _ (dp_noT d h)
theorem dpAll_ext {K : PySem.W.Frag} {H H' : Hp} (s : LamX.ExtN H H') {ds : List PyData} {vs : List V} (h : DpAll K H vs ds) : DpAll K H' vs ds := dpAll_same (noT_ext s) _ (dpAll_noT ds h)
theorem box_extN {H H' : Hp} {B L : Addr} (b : BoxAt H B L) (s : LamX.ExtN H H') : BoxAt H' B L := by
  obtain ⟨n, ⟨st, hb⟩, ⟨ms, hl⟩⟩ := b
  exact ⟨n, ⟨st, s _ _ hb fun ps z => nomatch z⟩, ⟨ms, s _ _ hl fun ps z => nomatch z⟩⟩
theorem lst_ext {H H' : Hp} {a : Addr} {xs : List V} (s : LamX.ExtN H H') (h : H a = some (.lst xs)) : H' a = some (.lst xs) := s _ _ h fun ps z => nomatch z
theorem tab_ext {H H' : Hp} {p : Addr} (s : LamX.ExtN H H') (h : Tab H p) : Tab H' p := s _ _ h fun ps z => nomatch z
theorem Runs.ext {K : PySem.W.Frag} {ks : List Bool} {H H' H2 : Hp} {as : List Addr} {rs : List (List (Nat × List PyData))} (R : Runs K ks H H' as rs) (s : LamX.ExtN H' H2) : Runs K ks H H2 as rs := ⟨R.len, R.nd, R.fresh, fun i a r h1 h2 => by
  obtain ⟨x, h, d⟩ := R.at_ i a r h1 h2
  exact ⟨x, lst_ext s h, dpAll_ext s d⟩, R.ok⟩
theorem Runs.take {K : PySem.W.Frag} {ks : List Bool} {H H' : Hp} {as : List Addr} {rs : List (List (Nat × List PyData))} (R : Runs K ks H H' as rs) (k : Nat) : Runs K ks H H' (as.take k) (rs.take k) := by
  refine ⟨by rw [List.length_take, List.length_take, R.len], R.nd.sublist (List.take_sublist k as), fun a ha => R.fresh a (List.mem_of_mem_take ha), fun i a r h1 h2 => ?_, fun r hr => R.ok r (List.mem_of_mem_take hr)⟩
  rw [List.getElem?_take] at h1 h2
  by_cases h : i < k
  · rw [if_pos h] at h1 h2
    exact R.at_ i a r h1 h2
  · rw [if_neg h] at h1
    cases h1
end RS
set_option Elab.async false
set_option maxRecDepth 100000
set_option maxHeartbeats 4000000
namespace RS
open PySem PySem.Spec PyProof.Rows L2 GX
theorem Runs.x {K : PySem.W.Frag} {ks : List Bool} {H H' H2 : Hp} {as : List Addr} {rs : List PrL} {B L : Addr} (R : Runs K ks H H' as rs) (s : SameX B L H' H2) (b : BoxAt H' B L) (nB : B ∉ as) (nL : L ∉ as) : Runs K ks H H2 as rs := ⟨R.len, R.nd, R.fresh, fun i a r h1 h2 => by
  obtain ⟨x, h, d⟩ := R.at_ i a r h1 h2
  have hm := List.mem_of_getElem? h1
  exact ⟨x, s _ _ (fun z => nB (by rw [← z]; exact hm)) (fun z => nL (by rw [← z]; exact hm)) h, dpAll_x b s _ (pairs_noL (R.ok r (List.mem_of_getElem? h2))) d⟩, R.ok⟩
theorem Runs.noB {K : PySem.W.Frag} {ks : List Bool} {H H' : Hp} {as : List Addr} {rs : List PrL} {B L : Addr} (R : Runs K ks H H' as rs) (b : BoxAt H B L) : B ∉ as ∧ L ∉ as := by
  obtain ⟨_, ⟨st, hB⟩, ⟨ms, hL⟩⟩ := b
  exact ⟨fun z => (by have := R.fresh _ z; rw [hB] at this; cases this), fun z => (by have := R.fresh _ z; rw [hL] at this; cases this)⟩
/-- one more pair in one of the lists -/
theorem Runs.put {K : PySem.W.Frag} {ks : List Bool} {H H' : Hp} {as : List Addr} {rs : List PrL} {j : Nat} {a : Addr} {r : PrL} {x : List V} {v : V} {q : Nat × List PyData} (R : Runs K ks H H' as rs) (ea : as[j]? = some a) (er : rs[j]? = some r) (hx : H' a = some (.lst x)) (hd : DpAll K H' x (r.map pairD)) (hv : Dp K H' v (pairD q)) (ok : isRow ks (.tuple q.2) = true) :
    Runs K ks H (upd H' a (.lst (x ++ [v]))) as (rs.set j (r ++ [q])) := by
  have hj : j < as.length := (List.getElem?_eq_some_iff.mp ea).1
  have hj2 : j < rs.length := by rw [← R.len]; exact hj
  have okr := R.ok r (List.mem_of_getElem? er)
  have ok2 : ∀ u ∈ r ++ [q], isRow ks (.tuple u.2) = true := fun u hu => by
    rcases List.mem_append.mp hu with h | h
    · exact okr u h
    · rw [List.mem_singleton.mp h]; exact ok
  refine ⟨by rw [List.length_set]; exact R.len, R.nd, R.fresh, fun i b l h1 h2 => ?_, fun l hl u hu => ?_⟩
  · by_cases e : i = j
    · subst e
      rw [ea] at h1
      cases h1
      rw [List.getElem?_set_self hj2] at h2
      cases h2
      refine ⟨_, upd_same, ?_⟩
      rw [List.map_append]
      have := pairs_noL ok2
      rw [List.map_append] at this
      exact dpAll_upd hx _ this (dpApp hd (.cons hv .nil))
    · rw [List.getElem?_set_ne (Ne.symm e)] at h2
      obtain ⟨y, hy, dy⟩ := R.at_ i b l h1 h2
      have nb : b ≠ a := fun z => by
        subst z
        have h3 := (List.getElem?_eq_some_iff.mp h1)
        have h4 := (List.getElem?_eq_some_iff.mp ea)
        obtain ⟨g3, h3⟩ := h3
        obtain ⟨g4, h4⟩ := h4
        rcases Nat.lt_or_gt_of_ne e with l | l
        · exact (List.pairwise_iff_getElem.mp R.nd) i j g3 g4 l (h3.trans h4.symm)
        · exact (List.pairwise_iff_getElem.mp R.nd) j i g4 g3 l (h4.trans h3.symm)
      exact ⟨y, (upd_ne nb).trans hy, dpAll_upd hx _ (pairs_noL (R.ok l (List.mem_of_getElem? h2))) dy⟩
  · rcases List.mem_or_eq_of_mem_set hl with h | h
    · exact R.ok l h u hu
    · rw [h] at hu
      exact ok2 u hu
/-- what one more pair is for all together -/
theorem set_flat {rs : List PrL} {j : Nat} {r : PrL} {q : Nat × List PyData} (er : rs[j]? = some r) : (rs.set j (r ++ [q])).flatten.Perm (q :: rs.flatten) := by
  induction rs generalizing j with
  | nil => simp at er
  | cons l rs ih =>
    cases j with
    | zero =>
      simp at er
      subst er
      show ((l ++ [q]) ++ rs.flatten).Perm (q :: (l ++ rs.flatten))
      rw [List.append_assoc]
      exact List.perm_middle
    | succ j =>
      have h := ih (j := j) (by simpa using er)
      show (l ++ (rs.set j (r ++ [q])).flatten).Perm (q :: (l ++ rs.flatten))
      exact (List.Perm.append_left l h).trans List.perm_middle
end RS
set_option Elab.async false
set_option maxRecDepth 100000
set_option maxHeartbeats 4000000
namespace RS
open PySem PySem.Spec PyProof.Rows L2 GX LM
/-- an error class as the law looks at it -/
structure ErrB (K : PySem.W.Frag) (SE : Addr) (C15 : Nat → Addr) (CB : Addr) : Prop where
  own : Own15 K C15 CB 3
  exm : PySem.W.exmOne K (.ref CB) (.ref SE) = some true
  xf : XfC K CB
  num : PySem.W.findIn K (.ref CB) "number" = some none
/-- a lambda that merges what is no runs tells the first that is none -/
theorem works_bad {X : Cx} {σ : L2.St} {H G : Hp} {params : Arguments} {body : Expr} {scope : Scope} {f SE CB : Addr} {C15 : Nat → Addr} {n : Nat} {t : XK → TE} (e : ErrB X.K SE C15 CB) (ca : Caught X σ H G) (L : LamX.LamS X.env.scope scope) (hl : IsLam H f (X.env.qual ++ "<lambda>") params body scope (cloFrom X.env.cells scope.names []))
    (hbind : ∀ (q : Str) (cl : List (Str × Addr)) (pm cv ctv : Value), bindArgs (PySem.W.kla_fn "<lambda>" q params body scope cl pm cv ctv) ⟨[], []⟩ = pure [])
    (hbody : ∀ (A : Around) (outer : List Env) (s : Shared) (H : Hp) (E : XK) (c' : Addr), Room 10 (A.deeper (LamX.lamEnv X scope s.heap.objs.size f c')) → PE (LamX.lamCx X A outer s H E scope f c') body (t E))
    (hm : ∀ (Hx : Hp) (E : XK) (Q : VK), Same H Hx → (∀ (H' : Hp) (dd : Addr), Same Hx H' → H' dd = some (.xd [("number", .int (n : Nat))]) → E (.ref CB) (some dd) H') → t E σ Hx Q) :
    Works X.prog X.w X.K X.mg X.base SE C15 11 f G (.tuple [.str "BadRuns", .int (n : Nat)]) := by
  intro H2 Q1 s2 told
  obtain ⟨R, rG, act⟩ := lam_act (k := 10) ca L (hl.up ca) hbind hbody
  refine ⟨f, R, _, rfl, act, act.same _ _ s2 rG, fun E hE => ?_⟩
  refine hm _ _ _ (caught_same ca s2) fun H3 dd s3 hdd lo => hE _ _ _ ⟨CB, 3, n, rfl, e.own, e.exm, fun d z => ?_, ?_, fun H4 t s4 ht4 => ?_⟩
  · cases z
    exact ⟨_, back_at lo hdd⟩
  · unfold ErrV
    rw [if_pos (.inl rfl)]
    exact ⟨e.xf, e.num, dd, _, rfl, back_at lo hdd, lk_eq⟩
  · exact told _ _ (fun b o e => s4 b o (back_same s3 b o e)) (.tup (SqT.of ht4) (.cons (.str _) (.cons (.int _) .nil)))
theorem cutV_toA {xs : List V} {k : Nat} : cutV xs none (some (k : Nat)) = xs.take k := by
  unfold cutV
  rw [HT.sIx_nat, HT.sIx_none, List.drop_zero, Nat.sub_zero]
  exact (List.take_eq_take_min).symm
theorem tab_x5 {H H' : Hp} {B L p : Addr} (b : BoxAt H B L) (s : SameX B L H H') (h : Tab H p) : Tab H' p := by
  obtain ⟨_, ⟨st, hB⟩, ⟨ms, hL⟩⟩ := b
  exact s _ _ (fun z => by unfold Tab at h; rw [z, hB] at h; cases h) (fun z => by unfold Tab at h; rw [z, hL] at h; cases h) h
theorem dpAll_rep5 {K : PySem.W.Frag} {H : Hp} {v : V} {d : PyData} (h : Dp K H v d) : ∀ n : Nat, DpAll K H (List.replicate n v) (List.replicate n d)
  | 0 => .nil
  | n + 1 => .cons h (dpAll_rep5 h n)
/-- what the end of a turn speaks of -/
structure F5 (K : PySem.W.Frag) (H8 : Hp) (B L Fl O0 : Addr) (vk : V) (ks : List Bool) (os : List (Nat × Bool)) (asf : List Addr) (fl : List PrL) (pK pW pR pN : Addr) (H : Hp) : Prop where
  box : BoxAt H B L
  k : Dp K H vk (kindsD ks)
  o : ∃ xo, H O0 = some (.lst xo) ∧ DpAll K H xo (os.map partD)
  f : H Fl = some (.lst (asf.map V.ref))
  R : Runs K ks H8 H asf fl
  tK : Tab H pK
  tW : Tab H pW
  tR : Tab H pR
  tN : Tab H pN
section
variable {K : PySem.W.Frag} {H8 : Hp} {B L Fl O0 : Addr} {vk : V} {ks : List Bool} {os : List (Nat × Bool)} {asf : List Addr} {fl : List PrL} {pK pW pR pN : Addr} {H H' : Hp}
theorem F5.ext (h : F5 K H8 B L Fl O0 vk ks os asf fl pK pW pR pN H) (e : LamX.ExtN H H') : F5 K H8 B L Fl O0 vk ks os asf fl pK pW pR pN H' := by
  obtain ⟨xo, h1, h2⟩ := h.o
  exact ⟨box_extN h.box e, dp_ext e h.k, ⟨xo, lst_ext e h1, dpAll_ext e h2⟩, lst_ext e h.f, h.R.ext e, tab_ext e h.tK, tab_ext e h.tW, tab_ext e h.tR, tab_ext e h.tN⟩
theorem F5.same (h : F5 K H8 B L Fl O0 vk ks os asf fl pK pW pR pN H) (s : Same H H') : F5 K H8 B L Fl O0 vk ks os asf fl pK pW pR pN H' := h.ext (LamX.ExtN.of s)
theorem F5.ord (h : F5 K H8 B L Fl O0 vk ks os asf fl pK pW pR pN H) : Dp K H (.ref O0) (orderD os) := by
  obtain ⟨xo, h1, h2⟩ := h.o
  exact .lst (SqL.of h1) h2
theorem F5.x (h : F5 K H8 B L Fl O0 vk ks os asf fl pK pW pR pN H) (s : SameX B L H H') (b' : BoxAt H' B L) (nF : Fl ≠ B ∧ Fl ≠ L) (nO : O0 ≠ B ∧ O0 ≠ L) (aB : B ∉ asf) (aL : L ∉ asf) : F5 K H8 B L Fl O0 vk ks os asf fl pK pW pR pN H' := by
  obtain ⟨xo, h1, h2⟩ := h.o
  refine ⟨b', dp_x h.box s _ (kinds_noL ks) h.k, ⟨xo, s _ _ nO.1 nO.2 h1, dpAll_x h.box s _ (noLs_iff.mpr fun d hd => ?_) h2⟩, s _ _ nF.1 nF.2 h.f, h.R.x s h.box aB aL, tab_x5 h.box s h.tK, tab_x5 h.box s h.tW, tab_x5 h.box s h.tR, tab_x5 h.box s h.tN⟩
  obtain ⟨p, _, rfl⟩ := List.mem_map.mp hd
  rfl
end
end RS
set_option Elab.async false
set_option maxRecDepth 100000
namespace RS
open PySem SrtO
def intT (q : Nat × List PyData) : TPr := ((q.1 : Int), q.2)
theorem natT_int (q : Nat × List PyData) : natT (intT q) = q := rfl
theorem toldD_int (q : Nat × List PyData) : toldD (intT q) = pairD q := rfl
def intR (l : PrL) : List TPr := l.map intT
theorem okT_int {ks : List Bool} {q : Nat × List PyData} : okT ks (intT q) = isRow ks (.tuple q.2) := by
  show (decide ((0 : Int) ≤ ((q.1 : Nat) : Int)) && isRow ks (.tuple q.2)) = _
  rw [decide_eq_true (Int.natCast_nonneg _), Bool.true_and]
theorem natR_int (l : PrL) : (intR l).map natT = l := by
  unfold intR
  rw [List.map_map]
  exact (List.map_congr_left fun q _ => natT_int q).trans (List.map_id _)
theorem nums_int (l : PrL) : numsT (intR l) = l.map fun q => (q.1 : Int) := by
  unfold numsT intR
  rw [List.map_map]
  rfl
theorem nums_nodup {l : PrL} (h : (l.map (·.1)).Nodup) : (numsT (intR l)).Nodup := by
  rw [nums_int]
  have e : (l.map fun q => (q.1 : Int)) = (l.map (·.1)).map fun n : Nat => (n : Int) := by rw [List.map_map]; rfl
  rw [e]
  exact List.Pairwise.map _ (fun a b n z => n (by exact Int.ofNat.inj z)) h
def BadRun (ks : List Bool) (os : List (Nat × Bool)) (r : List TPr) : Prop := okRun ks os r = false ∨ ¬ (numsT r).Nodup
theorem bad_mem {ks : List Bool} {os : List (Nat × Bool)} {r : List TPr} {t : TPr} (h : t ∈ r) (e : okT ks t = false) : okRun ks os r = false := by
  have : r.all (okT ks) = false := by
    rw [Bool.eq_false_iff]
    intro z
    have := List.all_eq_true.mp z t h
    rw [e] at this
    cases this
  show (r.all (okT ks) && adj os r) = false
  rw [this, Bool.false_and]
theorem adj_cons2 {os : List (Nat × Bool)} {t u : TPr} {ts : List TPr} : adj os (t :: u :: ts) = (before os (natT t) (natT u) && adj os (u :: ts)) := by
  simp [adj]
theorem bad_adj {ks : List Bool} {os : List (Nat × Bool)} {t u : TPr} (e : before os (natT t) (natT u) = false) : ∀ (a b : List TPr), okRun ks os (a ++ t :: u :: b) = false := by
  have go : ∀ (a b : List TPr), adj os (a ++ t :: u :: b) = false := by
    intro a
    induction a with
    | nil => intro b; show adj os (t :: u :: b) = false; rw [adj_cons2, e, Bool.false_and]
    | cons x a ih =>
      intro b
      cases a with
      | nil =>
        show adj os (x :: t :: u :: b) = false
        rw [adj_cons2, adj_cons2, e, Bool.false_and, Bool.and_false]
      | cons y a =>
        have := ih b
        show adj os (x :: y :: (a ++ t :: u :: b)) = false
        rw [adj_cons2]
        have h2 : adj os (y :: (a ++ t :: u :: b)) = false := this
        rw [h2, Bool.and_false]
  intro a b
  show (_ && adj os (a ++ t :: u :: b)) = false
  rw [go a b, Bool.and_false]
theorem good_adj {os : List (Nat × Bool)} : ∀ {l : PrL}, Srtd (before os) l → (l.map (·.1)).Nodup → adj os (intR l) = true
  | [], _, _ => rfl
  | [q], _, _ => rfl
  | p :: q :: l, s, n => by
    have n2 : ((q :: l).map (·.1)).Nodup := (List.nodup_cons.mp n).2
    have ih := good_adj (List.pairwise_cons.mp s).2 n2
    have h1 : before os q p = false := (List.pairwise_cons.mp s).1 q List.mem_cons_self
    have h2 : before os p q = true := by
      cases hb : before os p q with
      | true => rfl
      | false =>
        have e := rank_num (rank_ne hb h1)
        have n1 := (List.nodup_cons.mp n).1
        exact absurd (List.mem_map.mpr ⟨q, List.mem_cons_self, e.symm⟩) n1
    show adj os (intT p :: intT q :: intR l) = true
    rw [adj_cons2]
    show (before os p q && adj os (intR (q :: l))) = true
    rw [h2, ih]
    rfl
theorem good_run {ks : List Bool} {os : List (Nat × Bool)} {l : PrL} (s : Srtd (before os) l) (n : (l.map (·.1)).Nodup) (ok : ∀ q ∈ l, isRow ks (.tuple q.2) = true) : okRun ks os (intR l) = true := by
  show ((intR l).all (okT ks) && adj os (intR l)) = true
  rw [good_adj s n, Bool.and_true]
  refine List.all_eq_true.mpr fun t ht => ?_
  obtain ⟨q, hq, rfl⟩ := List.mem_map.mp ht
  rw [okT_int]
  exact ok q hq
theorem flat_int (rl : List PrL) : (rl.map intR).flatMap numsT = numsT (intR rl.flatten) := by
  induction rl with
  | nil => rfl
  | cons l rl ih =>
    rw [List.map_cons, List.flatMap_cons, ih, List.flatten_cons]
    simp [numsT, intR]
theorem good_rs {ks : List Bool} {os : List (Nat × Bool)} {rl : List PrL} (s : ∀ r ∈ rl, Srtd (before os) r) (n : (rl.flatten.map (·.1)).Nodup) (ok : ∀ r ∈ rl, ∀ q ∈ r, isRow ks (.tuple q.2) = true) (h40 : rl.length ≤ 40) : GoodR ks os (rl.map intR) := by
  refine ⟨fun r hr => ?_, by rw [flat_int]; exact nums_nodup n, by rw [List.length_map]; exact h40⟩
  obtain ⟨l, hl, rfl⟩ := List.mem_map.mp hr
  refine good_run (s l hl) ?_ (ok l hl)
  refine List.Nodup.sublist (List.Sublist.map _ ?_) n
  exact List.sublist_flatten_of_mem hl
theorem nat_int_rs (rl : List PrL) : (rl.map intR).map (fun r => r.map natT) = rl := by
  rw [List.map_map]
  exact (List.map_congr_left fun l _ => natR_int l).trans (List.map_id _)
/-- one run in the middle is none -/
theorem bad_at {ks : List Bool} {os : List (Nat × Bool)} {rl : List PrL} {k : Nat} {r : List TPr} {rest : List (List TPr)} (s : ∀ r ∈ rl, Srtd (before os) r) (n : (rl.flatten.map (·.1)).Nodup) (ok : ∀ r ∈ rl, ∀ q ∈ r, isRow ks (.tuple q.2) = true) (h40 : rl.length ≤ 40) (hk : k ≤ rl.length) (b : BadRun ks os r) : BadR ks os ((rl.take k).map intR ++ r :: rest) k := by
  have lk : ((rl.take k).map intR).length = k := by rw [List.length_map, List.length_take]; omega
  have tk : ((rl.take k).map intR ++ r :: rest).take k = (rl.take k).map intR := by
    rw [List.take_append_of_le_length (by omega), List.take_of_length_le (by omega)]
  refine ⟨r, by rw [List.getElem?_append_right (by omega), lk, Nat.sub_self]; rfl, ?_, ?_⟩
  · rw [tk]
    refine good_rs (fun r hr => s r (List.mem_of_mem_take hr)) ?_ (fun r hr => ok r (List.mem_of_mem_take hr)) (by rw [List.length_take]; omega)
    refine List.Nodup.sublist (List.Sublist.map _ ?_) n
    conv => rhs; rw [← List.take_append_drop k rl, List.flatten_append]
    exact List.sublist_append_left _ _
  · rcases b with b | b
    · exact .inr (.inl b)
    · exact .inr (.inr fun z => b (List.nodup_append.mp z).2.1)
/-- a number comes twice -/
theorem bad_twice {ks : List Bool} {os : List (Nat × Bool)} {rl : List PrL} {q : Nat × List PyData} (s : ∀ r ∈ rl, Srtd (before os) r) (n : (rl.flatten.map (·.1)).Nodup) (ok : ∀ r ∈ rl, ∀ q ∈ r, isRow ks (.tuple q.2) = true) (h40 : rl.length ≤ 40) (hq : q ∈ rl.flatten) : BadR ks os (rl.map intR ++ [[intT q]]) rl.length := by
  have lk : (rl.map intR).length = rl.length := List.length_map _
  have tk : (rl.map intR ++ [[intT q]]).take rl.length = rl.map intR := by
    rw [List.take_append_of_le_length (by omega), List.take_of_length_le (by omega)]
  refine ⟨[intT q], by rw [List.getElem?_append_right (by omega), lk, Nat.sub_self]; rfl, ?_, .inr (.inr fun z => ?_)⟩
  · rw [tk]
    exact good_rs s n ok h40
  · rw [tk, flat_int] at z
    refine (List.nodup_append.mp z).2.2 (q.1 : Int) ?_ (q.1 : Int) (by simp [numsT, intT]) rfl
    rw [nums_int]
    exact List.mem_map.mpr ⟨q, hq, rfl⟩
theorem bad_empty {ks : List Bool} {os : List (Nat × Bool)} : BadR ks os (List.replicate 41 []) 40 := by
  refine ⟨[], by rfl, ?_, .inl (Nat.le_refl _)⟩
  have e : (List.replicate 41 ([] : List TPr)).take 40 = List.replicate 40 [] := by rfl
  rw [e]
  refine ⟨fun r hr => ?_, by simp [numsT], by simp⟩
  rw [List.eq_of_mem_replicate hr]
  rfl
end RS
set_option Elab.async false
set_option maxRecDepth 100000
set_option maxHeartbeats 4000000
namespace RS
open PySem PySem.Spec PyProof.Rows L2 GX
section
variable {P : Program} {w : World} {K : PySem.W.Frag} {mg : Str → Option Value} {base : Heap}
/-- the two have values of one kind in the order's columns -/
def Alike (os : List (Nat × Bool)) (p q : Nat × List PyData) : Prop := ∀ o ∈ os, ∃ kb m t, p.2[o.1]? = some m ∧ q.2[o.1]? = some t ∧ isVal kb m = true ∧ isVal kb t = true
theorem alike_rows {ks : List Bool} {os : List (Nat × Bool)} {p q : Nat × List PyData} (ok : OkOrder ks.length os) (hp : isRow ks (.tuple p.2) = true) (hq : isRow ks (.tuple q.2) = true) : Alike os p q := fun o ho => by
  have h1 := isRow_get.mp hp
  have h2 := isRow_get.mp hq
  have hc := ok.col o ho
  have l1 : o.1 < p.2.length := by omega
  have l2 : o.1 < q.2.length := by omega
  obtain ⟨b, e1, v1⟩ := h1.2 o.1 _ (List.getElem?_eq_getElem l1)
  obtain ⟨b', e2, v2⟩ := h2.2 o.1 _ (List.getElem?_eq_getElem l2)
  rw [e1] at e2
  cases e2
  exact ⟨b, _, _, List.getElem?_eq_getElem l1, List.getElem?_eq_getElem l2, v1, v2⟩
theorem scAhead : FnScope ["_law_order_here", "_law_one", "_law_other", "_law_column", "_law_way", "_law_mine", "_law_theirs"] ["_law_order_here", "_law_one", "_law_other"] (defScope sAhead) := ⟨rfl, rfl, rfl, by decide +kernel, rfl, by decide +kernel, by decide +kernel⟩
def spAhead (K : PySem.W.Frag) : Sp := fun vs H Q _ => ∃ (vo v1 v2 : V) (os : List (Nat × Bool)) (p q : Nat × List PyData), vs = [vo, v1, v2] ∧ Dp K H vo (orderD os) ∧ Dp K H v1 (pairD p) ∧ Dp K H v2 (pairD q) ∧ Alike os p q ∧ Q (.bl (before os p q)) H
theorem ahead_ok {c : Addr} (D : DefAt K mg "_law_ahead" sAhead c) : Cal P w K mg base CX0 1 "_law_ahead" ["_law_order_here", "_law_one", "_law_other"] (spAhead K) := by
  have sc := scAhead
  refine def_ok0 D sc (fun vs H Q E h => ?_) (fun _ _ _ _ _ _ us hl => match us, hl with | [_, _, _], _ => rfl) (fun f A outer s H vs Q E hr h => ?_)
  · obtain ⟨vo, v1, v2, os, p, q, rfl, _⟩ := h
    rfl
  · obtain ⟨vo, v1, v2, os, p, q, rfl, ho, hp, hq, ha, k⟩ := h
    refine ⟨_, (pss_cons (ps_for PassesOwn.never rfl (pi_list (pv 0)) (pg_tup (by rfl) (pgs_cons (pg_name (i := 3) sc.nd rfl (Or.inl rfl)) (pgs_cons (pg_name (i := 4) sc.nd rfl (Or.inl rfl)) pgs_nil))) (pss_cons (ps_par (i := 5) (j := 6) rfl sc.nd rfl rfl (by decide) rfl rfl (pa_cons (pe_ix ixD (pe_ix ixD (pv 1) pe_int (fun _ _ => rfl)) (pv 3) (fun _ _ => rfl)) (pa_cons (pe_ix ixD (pe_ix ixD (pv 2) pe_int (fun _ _ => rfl)) (pv 3) (fun _ _ => rfl)) pa_nil)) (by rfl)) (pss_one (ps_if (pt_cmpR op_ne (pv 5) (pv 6) (nomark _)) (pss_one (ps_ret (pe_ifExp (pt_cmpR op_eq (pv 4) pe_str (nomark _)) (pe_cmpR (op_lt.or op_lt_str) (pv 5) (pv 6) (nomark _)) (pe_cmpR (op_gt.or op_gt_str) (pv 5) (pv 6) (nomark _))))) pss_nil)))) (pss_one (ps_ret (pe_cmpR op_lt (pe_ix ixD (pv 1) pe_int (fun _ _ => rfl)) (pe_ix ixD (pv 2) pe_int (fun _ _ => rfl)) (nomark _))))), ?_⟩
    cases ho with
    | @lst ao xo _ hSo hIo =>
      have lo : xo.length = os.length := by rw [dpLen hIo, List.length_map]
      refine ⟨_, rfl, ao, rfl, ⟨_, hSo⟩, for_list (K := K) (a := ao) (xs := xo) (fun i σ H' => ∃ v3 v4 v5 v6 : Option V, σ = [some (.ref ao), some v1, some v2, v3, v4, v5, v6] ∧ H' = H ∧ before os p q = before (os.drop i) p q)
        ⟨none, none, none, none, rfl, rfl, rfl⟩ (fun i σ H' _ ⟨_, _, _, _, _, e, _⟩ => by rw [e]; exact hSo) ?_ ?_⟩
      · rintro i y σ H' hi ⟨v3, v4, v5, v6, rfl, rfl, hbe⟩
        obtain ⟨d, ed, hd⟩ := dpGet hIo hi
        obtain ⟨⟨c, b⟩, eq, rfl⟩ : ∃ o, os[i]? = some o ∧ d = partD o := by
          rw [List.getElem?_map] at ed
          cases z : os[i]? with
          | none => rw [z] at ed; cases ed
          | some b => rw [z] at ed; exact ⟨b, rfl, (Option.some.inj ed).symm⟩
        have hi' : i < os.length := (List.getElem?_eq_some_iff.mp eq).1
        have dr : os.drop i = (c, b) :: os.drop (i + 1) := by
          rw [List.drop_eq_getElem_cons hi', (List.getElem?_eq_some_iff.mp eq).2]
        obtain ⟨kb, m, t, hm, ht, vm, vt⟩ := ha (c, b) (List.mem_of_getElem? eq)
        obtain ⟨c1, c2⟩ := before_cons (os := os.drop (i + 1)) (b := b) hm ht vm vt
        cases hd with
        | @tup ap xp _ hSp hIp =>
          cases hIp with
          | cons g1 hIp =>
            cases hIp with
            | cons g2 hIp =>
              cases hIp
              cases g1
              cases g2
              refine ⟨ap, _, rfl, hSp, rfl, _, _, rfl, _, _, rfl, rfl, ?_⟩
              refine ⟨_, rfl, pairD p, [.int p.1, .tuple p.2], 1, .tuple p.2, hp, rfl, rfl, atI_nat (j := 1) rfl, fun w1 hw1 => ?_⟩
              refine ⟨_, rfl, .tuple p.2, p.2, (c : Nat), m, hw1, rfl, rfl, atI_nat hm, fun w2 hw2 => ?_⟩
              refine ⟨_, rfl, pairD q, [.int q.1, .tuple q.2], 1, .tuple q.2, hq, rfl, rfl, atI_nat (j := 1) rfl, fun w3 hw3 => ?_⟩
              refine ⟨_, rfl, .tuple q.2, q.2, (c : Nat), t, hw3, rfl, rfl, atI_nat ht, fun w4 hw4 => ?_⟩
              refine ⟨_, _, rfl, _, rfl, _, rfl, ?_⟩
              have hw : decide (V.str (wayS b) = V.str "up") = !b := by cases b <;> decide +kernel
              cases kb with
              | true =>
                obtain ⟨x, rfl⟩ : ∃ n, m = .str n := by
                  rcases val_atom vm with ⟨_, q⟩ | ⟨e, _⟩
                  · exact q
                  · cases e
                obtain ⟨y, rfl⟩ : ∃ n, t = .str n := by
                  rcases val_atom vt with ⟨_, q⟩ | ⟨e, _⟩
                  · exact q
                  · cases e
                cases hw2
                cases hw4
                refine ⟨rfl, _, rfl, ?_⟩
                by_cases e : x = y
                · have ed : (!decide (V.str x = V.str y)) = false := by rw [e]; simp
                  rw [ed]
                  exact iteF ⟨_, _, _, _, rfl, rfl, by rw [hbe, dr]; exact c1 (by rw [e])⟩
                · have ed : (!decide (V.str x = V.str y)) = true := by simp [e]
                  rw [ed]
                  have cc := c2 fun z => e (by cases z; rfl)
                  rw [hbe, dr, cc] at k
                  refine iteT ⟨_, rfl, rfl, _, rfl, ?_⟩
                  rw [hw]
                  cases b with
                  | false => exact iteT ⟨_, rfl, _, rfl, .inr ⟨_, _, rfl, rfl, k⟩⟩
                  | true => exact iteF ⟨_, rfl, _, rfl, .inr ⟨_, _, rfl, rfl, k⟩⟩
              | false =>
                obtain ⟨x, rfl⟩ : ∃ n, m = .int n := by
                  rcases val_atom vm with ⟨e, _⟩ | ⟨_, q⟩
                  · cases e
                  · exact q
                obtain ⟨y, rfl⟩ : ∃ n, t = .int n := by
                  rcases val_atom vt with ⟨e, _⟩ | ⟨_, q⟩
                  · cases e
                  · exact q
                cases hw2
                cases hw4
                refine ⟨rfl, _, rfl, ?_⟩
                by_cases e : x = y
                · have ed : (!decide (V.int x = V.int y)) = false := by rw [e]; simp
                  rw [ed]
                  exact iteF ⟨_, _, _, _, rfl, rfl, by rw [hbe, dr]; exact c1 (by rw [e])⟩
                · have ed : (!decide (V.int x = V.int y)) = true := by simp [e]
                  rw [ed]
                  have cc := c2 fun z => e (by cases z; rfl)
                  rw [hbe, dr, cc] at k
                  refine iteT ⟨_, rfl, rfl, _, rfl, ?_⟩
                  rw [hw]
                  cases b with
                  | false => exact iteT ⟨_, rfl, _, rfl, .inl ⟨_, _, rfl, rfl, k⟩⟩
                  | true => exact iteF ⟨_, rfl, _, rfl, .inl ⟨_, _, rfl, rfl, k⟩⟩
      · rintro σ H' ⟨v3, v4, v5, v6, rfl, rfl, hbe⟩
        rw [lo, List.drop_length, before_nil] at hbe
        refine ⟨_, rfl, pairD p, [.int p.1, .tuple p.2], 0, .int p.1, hp, rfl, rfl, atI_nat (j := 0) rfl, fun w1 hw1 => ?_⟩
        cases hw1
        refine ⟨_, rfl, pairD q, [.int q.1, .tuple q.2], 0, .int q.1, hq, rfl, rfl, atI_nat (j := 0) rfl, fun w2 hw2 => ?_⟩
        cases hw2
        refine ⟨_, _, rfl, rfl, ?_⟩
        rw [hbe] at k
        have e : decide ((p.1 : Int) < (q.1 : Int)) = decide (p.1 < q.1) := by congr 1; simp
        show Q (.bl (decide ((p.1 : Int) < (q.1 : Int)))) H'
        rw [e]
        exact k
end
end RS
set_option Elab.async false
set_option maxRecDepth 100000
set_option maxHeartbeats 4000000
namespace RS
open PySem PySem.Spec PyProof.Rows L2 GX
section
variable {P : Program} {w : World} {K : PySem.W.Frag} {mg : Str → Option Value} {base : Heap}
theorem srtd_get {α : Type} {lt : α → α → Bool} {l : List α} (h : SrtO.Srtd lt l) {i j : Nat} {x y : α} (hij : i < j) (hx : l[i]? = some x) (hy : l[j]? = some y) : lt y x = false := by
  obtain ⟨h1, rfl⟩ := List.getElem?_eq_some_iff.mp hx
  obtain ⟨h2, rfl⟩ := List.getElem?_eq_some_iff.mp hy
  exact List.pairwise_iff_getElem.mp h i j h1 h2 hij
theorem scSorted : FnScope ["_law_order_here", "_law_pairs_here", "_law_found", "_law_pair", "_law_low", "_law_high", "_law_half"] ["_law_order_here", "_law_pairs_here"] (defScope sSorted) := ⟨rfl, rfl, rfl, by decide +kernel, rfl, by decide +kernel, by decide +kernel⟩
def spSorted (K : PySem.W.Frag) : Sp := fun vs H Q _ => ∃ (vo : V) (a : Addr) (xs : List V) (ks : List Bool) (os : List (Nat × Bool)) (ps : List (Nat × List PyData)), vs = [vo, .ref a] ∧ Dp K H vo (orderD os) ∧ SqL K H a xs ∧ DpAll K H xs (ps.map pairD) ∧ OkOrder ks.length os ∧ (∀ p ∈ ps, isRow ks (.tuple p.2) = true) ∧ ps.length ≤ 500 ∧
  ∀ (H' : Hp) (p : Addr) (ys : List V) (qs : List (Nat × List PyData)), Same H H' → H p = none → H' p = some (.lst ys) → DpAll K H' ys (qs.map pairD) → qs.Perm ps → SrtO.Srtd (before os) qs → Q (.ref p) H'
theorem sorted_ok {c : Addr} (D : DefAt K mg "_law_sorted" sSorted c) (T : Txt K mg) (cA : Cal P w K mg base CX0 1 "_law_ahead" ["_law_order_here", "_law_one", "_law_other"] (spAhead K)) : Cal P w K mg base CX0 2 "_law_sorted" ["_law_order_here", "_law_pairs_here"] (spSorted K) := by
  have sc := scSorted
  refine def_ok0 D sc (fun vs H Q E h => ?_) (fun _ _ _ _ _ _ us hl => match us, hl with | [_, _], _ => rfl) (fun f A outer s H vs Q E hr h => ?_)
  · obtain ⟨vo, a, xs, ks, os, ps, rfl, _⟩ := h
    rfl
  · obtain ⟨vo, a, xs, ks, os, ps, rfl, ho, hS, hI, ok, okp, hz, k⟩ := h
    refine ⟨_, (pss_cons (ps_set (i := 2) sc.nd rfl (Or.inl rfl) (pe_lst pa_nil)) (pss_cons (ps_for PassesOwn.never rfl (pi_list (pv 1)) (pg_name (i := 3) sc.nd rfl (Or.inl rfl)) (pss_cons (ps_par (i := 4) (j := 5) rfl sc.nd rfl rfl (by decide) rfl rfl (pa_cons pe_int (pa_cons (pe_callB call_lenD (by rfl) T.len PySem.boot_len (pa_cons (pv 2) pa_nil)) pa_nil)) (by rfl)) (pss_cons (ps_while PassesOwn.never (pt_cmpR op_lt (pv 4) (pv 5) (nomark _)) (pss_cons (ps_set (i := 6) sc.nd rfl (Or.inl rfl) (pe_op op_fdiv (pe_op op_add (pv 4) (pv 5)) pe_int)) (pss_one (ps_if (pt_val (pe_c cA hr (by decide) (by rfl) pass0 (pa_cons (pv 0) (pa_cons (pv 3) (pa_cons (pe_ix ix_list (pv 2) (pv 6) (fun _ _ => rfl)) pa_nil))))) (pss_one (ps_set (i := 5) sc.nd rfl (Or.inl rfl) (pv 6))) (pss_one (ps_set (i := 4) sc.nd rfl (Or.inl rfl) (pe_op op_add (pv 6) pe_int))))))) (pss_one (ps_expr (pe_bm PySem.F.plainAttrs_list PySem.F.slot_list_insert PySem.F.type_list_insert mt_insert (pv 2) (pa_cons (pv 4) (pa_cons (pv 3) pa_nil)))))))) (pss_one (ps_ret (pv 2))))), ?_⟩
    refine ⟨Nat.zero_le _, fun Fd hFd => ?_⟩
    have s1 : Same H (upd H Fd (.lst [])) := fun b o e => by
      rw [upd_ne (ne_of_none e hFd)]
      exact e
    have lx : xs.length = ps.length := by rw [dpLen hI, List.length_map]
    refine ⟨_, rfl, a, rfl, ⟨_, s1.seq hS⟩, for_list (K := K) (a := a) (xs := xs) (fun i σ H' => ∃ (v3 v4 v5 v6 : Option V) (ys : List V) (qs : List (Nat × List PyData)), σ = [some vo, some (.ref a), some (.ref Fd), v3, v4, v5, v6] ∧ Same H H' ∧ H' Fd = some (.lst ys) ∧ DpAll K H' ys (qs.map pairD) ∧ qs.Perm (ps.take i) ∧ SrtO.Srtd (before os) qs)
      ⟨none, none, none, none, [], [], rfl, s1, upd_same, .nil, by simp, .nil⟩ (fun i σ H' _ ⟨_, _, _, _, _, _, _, sm, _⟩ => sm.seq hS) ?_ ?_⟩
    · rintro i x σ H' hx ⟨v3, v4, v5, v6, ys, qs, rfl, sm, hF, hd, pm, srt⟩
      obtain ⟨d, ed, hdx⟩ := dpGet hI hx
      obtain ⟨p, ep, rfl⟩ : ∃ q, ps[i]? = some q ∧ d = pairD q := by
        rw [List.getElem?_map] at ed
        cases e : ps[i]? with
        | none => rw [e] at ed; cases ed
        | some q => rw [e] at ed; exact ⟨q, rfl, (Option.some.inj ed).symm⟩
      have hpm := List.mem_of_getElem? ep
      have hpr := okp p hpm
      have ly : ys.length = qs.length := by rw [dpLen hd, List.length_map]
      have okq : ∀ q ∈ qs, isRow ks (.tuple q.2) = true := fun q hq => okp q (List.mem_of_mem_take (pm.mem_iff.mp hq))
      have lq : qs.length ≤ 500 := by
        have := pm.length_eq
        rw [List.length_take] at this
        omega
      have ho' := dp_same sm _ ho
      have hx' := dp_same sm _ hdx
      refine ⟨_, rfl, .ref Fd, _, _, rfl, .lst (SqL.of hF) hd, rfl, _, _, rfl, ?_⟩
      have lqm : (qs.map pairD).length = qs.length := List.length_map _
      refine ⟨fun m σ' H2 => ∃ (lo hi : Nat) (v6 : Option V), σ' = [some vo, some (.ref a), some (.ref Fd), some x, some (.int (lo : Nat)), some (.int (hi : Nat)), v6] ∧ H2 = H' ∧ m = hi - lo ∧ lo ≤ hi ∧ hi ≤ qs.length ∧ (∀ j q, j < lo → qs[j]? = some q → before os p q = false) ∧ (∀ j q, hi ≤ j → qs[j]? = some q → before os p q = true),
        ⟨_, 0, qs.length, _, by rw [lqm]; rfl, rfl, rfl, Nat.zero_le _, Nat.le_refl _, (fun j q h => by omega), (fun j q h e => by have := (List.getElem?_eq_some_iff.mp e).1; omega)⟩, ?_⟩
      rintro m σ' H2 ⟨lo, hi, v6, rfl, rfl, rfl, hle, hhi, hA, hB⟩
      refine ⟨_, rfl, _, rfl, _, _, rfl, rfl, _, rfl, ?_⟩
      refine ite2 (fun hlt => ?_) (fun hlt => ?_)
      · have hlt := of_decide_eq_true hlt
        refine ⟨_, fun σ' H2 h => h, ?_⟩
        refine ⟨_, rfl, _, rfl, _, _, rfl, rfl, _, _, rfl, rfl, ⟨by decide, by decide⟩, ?_⟩
        have eh : ((lo : Nat) + (hi : Nat) : Int) / 2 = (((lo + hi) / 2 : Nat) : Int) := by omega
        obtain ⟨hf, ehf⟩ : ∃ hf : Nat, hf = (lo + hi) / 2 := ⟨_, rfl⟩
        simp only [eh, ← ehf]
        have hh : hf < qs.length := by omega
        obtain ⟨vh, evh, hvh⟩ := dpGet' (i := hf) (d := pairD qs[hf]) hd (by rw [List.getElem?_map, List.getElem?_eq_getElem hh]; rfl)
        have hqr := okq qs[hf] (List.getElem_mem hh)
        refine ⟨_, rfl, _, rfl, _, rfl, _, rfl, Fd, ys, _, vh, rfl, rfl, SqL.of hF, atI_nat evh, vo, x, vh, os, p, qs[hf], rfl, ho', hx', hvh, alike_rows ok hpr hqr, _, rfl, ?_⟩
        refine ite2 (fun hb => ?_) (fun hb => ?_)
        · refine ⟨_, rfl, _, ?_, lo, hf, _, rfl, rfl, rfl, by omega, by omega, hA, fun j q hj ej => ?_⟩
          · omega
          · by_cases e : j = hf
            · subst e
              rw [List.getElem?_eq_getElem hh] at ej
              cases ej
              exact hb
            · exact (swo_before os).ltle hb (srtd_get srt (by omega) (List.getElem?_eq_getElem hh) ej)
        · refine ⟨_, rfl, _, _, rfl, rfl, _, ?_, hf + 1, hi, _, rfl, rfl, rfl, by omega, by omega, fun j q hj ej => ?_, hB⟩
          · omega
          · have hb' : before os p qs[hf] = false := by
              cases e : before os p qs[hf] with
              | false => rfl
              | true => exact absurd e hb
            by_cases e : j = hf
            · subst e
              rw [List.getElem?_eq_getElem hh] at ej
              cases ej
              exact hb'
            · exact (swo_before os).tr _ _ _ (srtd_get srt (by omega) ej (List.getElem?_eq_getElem hh)) hb'
      · have hlt2 : ¬ ((lo : Nat) : Int) < ((hi : Nat) : Int) := fun z => hlt (decide_eq_true z)
        have e : hi = lo := by omega
        subst e
        refine ⟨_, rfl, .inl ⟨rfl, _, SqL.of hF⟩, _, rfl, _, rfl, Fd, ys, _, x, rfl, rfl, hF, small1000 (by omega), by omega, by omega, ?_⟩
        rw [Int.toNat_natCast]
        have e1 : ps.take (i + 1) = ps.take i ++ [p] := by rw [List.take_add_one, ep]; rfl
        have okn : ∀ q ∈ qs.take hi ++ [p] ++ qs.drop hi, isRow ks (.tuple q.2) = true := fun q hq => by
          rcases List.mem_append.mp hq with hq | hq
          · rcases List.mem_append.mp hq with hq | hq
            · exact okq q (List.mem_of_mem_take hq)
            · rw [List.mem_singleton.mp hq]; exact hpr
          · exact okq q (List.mem_of_mem_drop hq)
        refine ⟨_, _, _, _, ys.take hi ++ [x] ++ ys.drop hi, qs.take hi ++ [p] ++ qs.drop hi, rfl, fun b o e => ?_, upd_same, dpAll_upd hF _ (pairs_noL okn) ?_, ?_, ?_⟩
        · rw [upd_ne (ne_of_none e hFd)]
          exact sm _ _ e
        · rw [List.map_append, List.map_append]
          exact dpApp (dpApp (dpAll_take' hd hi) (.cons hx' .nil)) (dpAll_drop' hd hi)
        · rw [e1]
          have q1 : (qs.take hi ++ [p] ++ qs.drop hi).Perm (qs ++ [p]) := by
            rw [List.append_assoc]
            have q2 : (qs.take hi ++ ([p] ++ qs.drop hi)).Perm (qs.take hi ++ (qs.drop hi ++ [p])) := List.perm_append_comm.append_left _
            rw [← List.append_assoc, ← List.append_assoc, List.take_append_drop] at q2
            rw [← List.append_assoc]
            exact q2
          exact q1.trans (pm.append_right _)
        · have sp : SrtO.Srtd (before os) (qs.take hi ++ qs.drop hi) := by rw [List.take_append_drop]; exact srt
          obtain ⟨t1, t2, t3⟩ := SrtO.srtd_app.mp sp
          refine SrtO.srtd_app.mpr ⟨SrtO.srtd_snoc t1 fun y hy => ?_, t2, fun y hy z hz => ?_⟩
          · obtain ⟨j, hj, ej⟩ := List.getElem_of_mem hy
            rw [List.getElem_take] at ej
            rw [List.length_take] at hj
            exact hA j y (by omega) (by rw [List.getElem?_eq_getElem (by omega), ej])
          · obtain ⟨j, hj, ej⟩ := List.getElem_of_mem hz
            rw [List.getElem_drop] at ej
            rw [List.length_drop] at hj
            rcases List.mem_append.mp hy with hy | hy
            · exact t3 y hy z hz
            · rw [List.mem_singleton.mp hy]
              exact (swo_before os).asym _ _ (hB (hi + j) z (by omega) (by rw [List.getElem?_eq_getElem (by omega), ej]))
    · rintro σ H' ⟨v3, v4, v5, v6, ys, qs, rfl, sm, hF, hd, pm, srt⟩
      rw [lx, List.take_length] at pm
      exact ⟨_, rfl, k H' Fd ys qs sm hFd hF hd pm srt⟩
end
end RS
set_option Elab.async false
set_option maxRecDepth 100000
set_option maxHeartbeats 8000000
set_option pp.maxSteps 400
namespace RS
open PySem PySem.Spec PyProof.Rows L2 GX
section
variable {P : Program} {w : World} {K : PySem.W.Frag} {mg : Str → Option Value} {base : Heap}
theorem scParts : FnScope ["_law_box", "_law_order_here", "_law_rows_here", "_law_most", "_law_found", "_law_step", "_law_k", "_law_run"] ["_law_box", "_law_order_here", "_law_rows_here", "_law_most"] (defScope s__law_parts) := ⟨rfl, rfl, rfl, by decide +kernel, rfl, by decide +kernel, by decide +kernel⟩
/-- the numbers are multiples of a step -/
structure PartsOf (rs : List (List PyData)) (i st : Nat) (cur : List PrL) : Prop where
  perm : cur.flatten.Perm (((enumP 0 rs).take i).map fun q => (q.1 * st, q.2))
def spParts (K : PySem.W.Frag) : Sp := fun vs H Q _ => ∃ (B L : Addr) (vo vr : V) (ks : List Bool) (os : List (Nat × Bool)) (rs : List (List PyData)) (m : Int), vs = [.ref B, vo, vr, .int m] ∧ BoxAt H B L ∧ Dp K H vo (orderD os) ∧ (∀ H', SameX B L H H' → Dp K H' vo (orderD os)) ∧ Dp K H vr (rowsD rs) ∧ (∀ H', SameX B L H H' → Dp K H' vr (rowsD rs)) ∧ OkOrder ks.length os ∧ (∀ r ∈ rs, isRow ks (.tuple r) = true) ∧ rs.length ≤ 120 ∧ 1 ≤ m ∧ m ≤ 40 ∧
  ∀ (H' : Hp) (p : Addr) (as : List Addr) (rl : List PrL) (st : Nat), SameX B L H H' → BoxAt H' B L → H p = none → p ∉ as → H' p = some (.lst (as.map V.ref)) → Runs K ks H H' as rl → (∀ r ∈ rl, SrtO.Srtd (before os) r) → 1 ≤ rl.length → rl.length ≤ 40 → 1 ≤ st → st ≤ 1000000000 → PartsOf rs rs.length st rl → Q (.ref p) H'
theorem parts_ok {c : Addr} (D : DefAt K mg "_law_parts" s__law_parts c) (T : Txt K mg) (cT : Cal P w K mg base CX0 1 "_law_take" ["_law_box", "_law_many"] spTake) (cS : Cal P w K mg base CX0 2 "_law_sorted" ["_law_order_here", "_law_pairs_here"] (spSorted K)) :
    Cal P w K mg base CX0 3 "_law_parts" ["_law_box", "_law_order_here", "_law_rows_here", "_law_most"] (spParts K) := by
  have sc := scParts
  refine def_ok0 D sc (fun vs H Q E h => ?_) (fun _ _ _ _ _ _ us hl => match us, hl with | [_, _, _, _], _ => rfl) (fun f A outer s H vs Q E hr h => ?_)
  · obtain ⟨B, L, vo, vr, ks, os, rs, m, rfl, _⟩ := h
    rfl
  · obtain ⟨B, L, vo, vr, ks, os, rs, m, rfl, hb, ho, hoX, hrw, hrwX, oko, okr, r120, m1, m40, k⟩ := h
    refine ⟨_, (pss_cons (ps_setLc (own := [("_law_k", 6)]) (tt := tYes) rfl sc.nd (i := 4) rfl rfl (by rfl) (pi_range1 (by rfl) T.range (pa_cons (pe_op op_add pe_int (pe_c cT hr (by decide) (by rfl) pass0 (pa_cons (pv 0) (pa_cons (pv 3) pa_nil)))) pa_nil)) (blkOk_by (N := ["_law_box", "_law_order_here", "_law_rows_here", "_law_most", "_law_found", "_law_step", "_law_k", "_law_run"]) (sc := defScope s__law_parts) (own := [("_law_k", 6)]) (by decide +kernel)) (fun _ _ _ _ _ => (pg_name (i := 6) sc.nd rfl (Or.inl rfl))) (fun _ _ _ _ _ => pts_nil) (fun _ _ _ _ _ => (pe_lst pa_nil))) (pss_cons (ps_set (i := 5) sc.nd rfl (Or.inl rfl) (pe_ix ix_list (pe_lst (pa_cons pe_int (pa_cons (pe_op op_add pe_int (pe_c cT hr (by decide) (by rfl) pass0 (pa_cons (pv 0) (pa_cons pe_int pa_nil)))) (pa_cons (pe_op op_pow pe_int pe_int) pa_nil)))) (pe_c cT hr (by decide) (by rfl) pass0 (pa_cons (pv 0) (pa_cons pe_int pa_nil))) (fun _ _ => rfl))) (pss_cons (ps_for PassesOwn.never rfl (pi_range1 (by rfl) T.range (pa_cons (pe_callB call_lenD (by rfl) T.len PySem.boot_len (pa_cons (pv 2) pa_nil)) pa_nil)) (pg_name (i := 6) sc.nd rfl (Or.inl rfl)) (pss_one (ps_expr (pe_bm PySem.F.plainAttrs_list PySem.F.slot_list_append PySem.F.type_list_append mt_append (pe_ix ix_list (pv 4) (pe_c cT hr (by decide) (by rfl) pass0 (pa_cons (pv 0) (pa_cons (pe_callB call_len_seq (by rfl) T.len PySem.boot_len (pa_cons (pv 4) pa_nil)) pa_nil))) (fun _ _ => rfl)) (pa_cons (pe_tup (pa_cons (pe_op op_mul (pv 6) (pv 5)) (pa_cons (pe_ix ixD (pv 2) (pv 6) (fun _ _ => rfl)) pa_nil))) pa_nil))))) (pss_one (ps_ret (pe_lc (own := [("_law_run", 7)]) (tt := tYes)  rfl sc.nd (pi_list (pv 4)) (blkOk_by (N := ["_law_box", "_law_order_here", "_law_rows_here", "_law_most", "_law_found", "_law_step", "_law_k", "_law_run"]) (sc := defScope s__law_parts) (own := [("_law_run", 7)]) (by decide +kernel)) (fun _ _ _ _ _ => (pg_name (i := 7) sc.nd rfl (Or.inl rfl))) (fun _ _ _ _ _ => pts_nil) (fun _ _ _ _ _ => (pe_c cS hr (by decide) (by rfl) pass0 (pa_cons (pv 1) (pa_cons (pv 7) pa_nil)))))))))), ?_⟩
    refine ⟨_, rfl, _, rfl, B, L, m, rfl, hb, m1, by omega, fun H1 w1 s1 b1 w10 w1m => ?_⟩
    refine ⟨_, _, rfl, rfl, _, rfl, by omega, by omega, fun Fd hFd => ?_⟩
    have hFd0 : H Fd = none := s1.free hb hFd b1
    obtain ⟨nB, nL⟩ := b1.nb hFd
    obtain ⟨N, eN, N1, N40⟩ : ∃ N : Nat, (1 + w1).toNat = N ∧ 1 ≤ N ∧ N ≤ 40 := ⟨_, rfl, by omega, by omega⟩
    rw [eN]
    refine lc_range (fun i H2 => Same H1 H2 ∧ ∃ as : List Addr, H2 Fd = some (.lst (as.map V.ref)) ∧ Runs K ks H H2 as (List.replicate i []) ∧ Fd ∉ as)
      ⟨sameNew (Same.refl H1) hFd, [], upd_same, Runs.nil, fun h => nomatch h⟩ ?_ ?_
    · rintro i H2 hi ⟨s2, as, hF, R, nF⟩
      refine ⟨rfl, Nat.zero_le _, fun e he => ?_⟩
      have s3 := sameNew (o := .lst []) (Same.refl H2) he
      have he3 : upd H2 e (.lst []) e = some (.lst []) := upd_same
      have ne : e ∉ as := fun z => by obtain ⟨x, hx⟩ := R.tracked z; rw [he] at hx; cases hx
      have nFe : Fd ≠ e := fun z => by rw [← z, hF] at he; cases he
      have he0 : H e = none := (s1.trans (SameX.of s2)).free hb he (b1.same s2)
      generalize upd H2 e (.lst []) = H3 at s3 he3 ⊢
      have nF2 : Fd ∉ as ++ [e] := fun z => by
        rcases List.mem_append.mp z with z | z
        · exact nF z
        · exact nFe (List.mem_singleton.mp z)
      have las : as.length = i := by rw [R.len, List.length_replicate]
      have R3 := (R.same s3).snoc (r := []) he3 .nil he0 ne (fun q hq => nomatch hq)
      refine ⟨_, s3 _ _ hF, small1000 (by rw [List.length_map, las]; omega), fun b o q => (upd_ne (ne_of_none q hFd)).trans (s3 _ _ (s2 b o q)), as ++ [e], by rw [upd_same, List.map_append]; rfl, ?_, nF2⟩
      rw [show List.replicate (i + 1) ([] : PrL) = List.replicate i [] ++ [[]] from List.replicate_succ']
      exact R3.upd_ (s3 _ _ hF) nF2
    · rintro H2 ⟨s2, as, hF, R, nF⟩
      have b2 := b1.same s2
      have x2 := s1.trans (SameX.of s2)
      refine ⟨_, rfl, B, L, 9, rfl, b2, by decide, by decide, fun H3 w2 s3 b3 w20 w29 => ?_⟩
      refine ⟨_, _, rfl, rfl, _, _, rfl, rfl, ⟨by decide, by decide, by decide⟩, by show 3 ≤ sizeLine; decide, fun LL hLL => ?_⟩
      have x3 := x2.trans s3
      obtain ⟨y4, b4, nLB, nLL⟩ := al (o := .lst [.int 1, .int (1 + w2), .int (10 ^ (9 : Int).toNat)]) x3 hb b3 hLL
      have hL4 : upd H3 LL (.lst [.int 1, .int (1 + w2), .int (10 ^ (9 : Int).toNat)]) LL = some (.lst [.int 1, .int (1 + w2), .int (10 ^ (9 : Int).toNat)]) := upd_same
      have s34 := sameNew (o := .lst [.int 1, .int (1 + w2), .int (10 ^ (9 : Int).toNat)]) (Same.refl H3) hLL
      generalize upd H3 LL (.lst [.int 1, .int (1 + w2), .int (10 ^ (9 : Int).toNat)]) = H4 at y4 b4 hL4 s34 ⊢
      refine ⟨_, rfl, B, L, 3, rfl, b4, by decide, by decide, fun H5 w3 s5 b5 w30 w33 => ?_⟩
      obtain ⟨st, est, st1, stm⟩ : ∃ st : Nat, atI [V.int 1, .int (1 + w2), .int (10 ^ (9 : Int).toNat)] w3 = some (.int (st : Nat)) ∧ 1 ≤ st ∧ st ≤ 1000000000 := by
        have : w3 = 0 ∨ w3 = 1 ∨ w3 = 2 := by omega
        rcases this with rfl | rfl | rfl
        · exact ⟨1, rfl, by decide, by decide⟩
        · refine ⟨(1 + w2).toNat, ?_, by omega, by omega⟩
          rw [Int.toNat_of_nonneg (by omega)]
          rfl
        · exact ⟨1000000000, by rfl, by decide, by decide⟩
      refine ⟨LL, _, _, _, rfl, rfl, SqL.of (s5 _ _ nLB nLL hL4), est, ?_⟩
      have x5 := y4.trans s5
      have x35 : SameX B L H2 H5 := (s3.trans (SameX.of s34)).trans s5
      obtain ⟨aB, aL⟩ := R.noB hb
      have R5 := R.x x35 b2 aB aL
      have hF5 := x35 _ _ nB nL hF
      refine ⟨_, rfl, vr, _, _, rfl, hrwX _ x5, rfl, _, rfl, by rw [List.length_map]; omega, by rw [List.length_map]; omega, ?_⟩
      rw [List.length_map, show ((rs.length : Nat) : Int).toNat = rs.length from rfl]
      refine for_range (fun i σ H' => ∃ (v6 : Option V) (cur : List PrL), σ = [some (.ref B), some vo, some vr, some (.int m), some (.ref Fd), some (.int (st : Nat)), v6, none] ∧ SameX B L H H' ∧ BoxAt H' B L ∧ H' Fd = some (.lst (as.map V.ref)) ∧ Runs K ks H H' as cur ∧ cur.length = N ∧ PartsOf rs i st cur)
        ⟨_, _, rfl, x5, b5, hF5, R5, List.length_replicate, ⟨by simp⟩⟩ ?_ ?_
      · rintro i σ H6 hi ⟨v6, cur, rfl, x6, b6, hF6, R6, lc, po⟩
        have las : as.length = N := by rw [R6.len, lc]
        refine ⟨_, rfl, _, rfl, _, rfl, Fd, _, rfl, .inl (SqL.of hF6), ?_⟩
        rw [List.length_map, las]
        refine ⟨B, L, (N : Nat), rfl, b6, by omega, by omega, fun H7 jj s7 b7 j0 jN => ?_⟩
        obtain ⟨j, rfl⟩ : ∃ j : Nat, jj = (j : Nat) := ⟨jj.toNat, by omega⟩
        have hj : j < N := by omega
        have x7 := x6.trans s7
        have R7 := R6.x s7 b6 aB aL
        have hF7 := s7 _ _ nB nL hF6
        obtain ⟨a, ea⟩ : ∃ a, as[j]? = some a := ⟨_, List.getElem?_eq_getElem (by omega)⟩
        obtain ⟨r, er⟩ : ∃ r, cur[j]? = some r := ⟨_, List.getElem?_eq_getElem (by omega)⟩
        obtain ⟨x, hx, hd⟩ := R7.at_ _ _ _ ea er
        refine ⟨Fd, _, _, .ref a, rfl, rfl, SqL.of hF7, atI_nat (by rw [List.getElem?_map, ea]; rfl), .inl ⟨rfl, _, SqL.of hx⟩, ?_⟩
        obtain ⟨row, erow⟩ : ∃ row, rs[i]? = some row := ⟨_, List.getElem?_eq_getElem hi⟩
        have erD : (rs.map PyData.tuple)[i]? = some (.tuple row) := by rw [List.getElem?_map, erow]; rfl
        refine ⟨_, rfl, _, rfl, _, _, rfl, rfl, .inl ⟨by omega, by omega⟩, _, rfl, _, rfl, _, _, _, _, hrwX _ x7, rfl, rfl, by rw [Int.zero_add]; exact atI_nat erD, fun vrow hvrow => ?_⟩
        have ei : (0 + ((i : Nat) : Int)) * ((st : Nat) : Int) = ((i * st : Nat) : Int) := by rw [Int.zero_add, Int.natCast_mul]
        refine ⟨by show 2 ≤ sizeLine; decide, fun t ht => ?_⟩
        obtain ⟨x8, b8, ntB, ntL⟩ := al (o := .tup [.int ((0 + ((i : Nat) : Int)) * ((st : Nat) : Int)), vrow]) x7 hb b7 ht
        have s8 := sameNew (o := .tup [.int ((0 + ((i : Nat) : Int)) * ((st : Nat) : Int)), vrow]) (Same.refl H7) ht
        have hT8 : upd H7 t (.tup [.int ((0 + ((i : Nat) : Int)) * ((st : Nat) : Int)), vrow]) t = some (.tup [.int ((0 + ((i : Nat) : Int)) * ((st : Nat) : Int)), vrow]) := upd_same
        generalize upd H7 t (.tup [.int ((0 + ((i : Nat) : Int)) * ((st : Nat) : Int)), vrow]) = H8 at x8 b8 s8 hT8 ⊢
        rw [ei] at hT8
        have R8 := R7.same s8
        have hdv : Dp K H8 (.ref t) (pairD (i * st, row)) := .tup (SqT.of hT8) (.cons (.int _) (.cons (dp_same s8 _ hvrow) .nil))
        have hx8 := s8 _ _ hx
        have okrow := okr row (List.mem_of_getElem? erow)
        have lr : r.length ≤ 120 := by
          have h1 := flat_mem (List.mem_of_getElem? er)
          have h2 := po.perm.length_eq
          rw [List.length_map, List.length_take, enumP_length] at h2
          omega
        have lx : x.length = r.length := by rw [dpLen hd, List.length_map]
        have amem := List.mem_of_getElem? ea
        have naB : a ≠ B := fun z => aB (by rw [← z]; exact amem)
        have naL : a ≠ L := fun z => aL (by rw [← z]; exact amem)
        have ha0 := R.fresh a amem
        have nFa : Fd ≠ a := fun z => nF (by rw [z]; exact amem)
        refine ⟨a, x, _, rfl, rfl, hx8, small1000 (by omega), ?_⟩
        refine ⟨_, cur.set j (r ++ [(i * st, row)]), rfl, x8.new ha0, b8.upd_ naB naL, (upd_ne nFa).trans (s8 _ _ hF7), R8.put ea er hx8 (dpAll_same s8 _ hd) hdv okrow, by rw [List.length_set]; exact lc, ⟨?_⟩⟩
        have ee : (enumP 0 rs)[i]? = some (i, row) := by rw [enumP_get, erow]; simp
        rw [List.take_add_one, ee]
        refine (set_flat er).trans ?_
        refine (po.perm.cons _).trans ?_
        rw [List.map_append]
        exact (List.perm_append_comm (l₁ := [(i * st, row)]))
      · rintro σ H6 ⟨v6, cur, rfl, x6, b6, hF6, R6, lc, po⟩
        refine ⟨_, rfl, Fd, rfl, ⟨_, SqL.of hF6⟩, fun DD hD => ?_⟩
        have las : as.length = N := by rw [R6.len, lc]
        have hD0 := x6.free hb hD b6
        refine lc_list (K := K) (a := Fd) (xs := as.map V.ref) (fun j H' => Same H6 H' ∧ ∃ (as2 : List Addr) (out : List PrL), H' DD = some (.lst (as2.map V.ref)) ∧ Runs K ks H H' as2 out ∧ DD ∉ as2 ∧ out.length = j ∧ (∀ r ∈ out, SrtO.Srtd (before os) r) ∧ out.flatten.Perm (cur.take j).flatten)
          ⟨sameNew (Same.refl H6) hD, [], [], upd_same, Runs.nil, (fun h => nomatch h), rfl, (fun r h => nomatch h), by simp⟩ (fun j H' _ h => SqL.of (h.1 _ _ hF6)) ?_ ?_
        · rintro j y H7 hy ⟨s7, as2, out, hD7, R7, nD, lo, so, po7⟩
          obtain ⟨a, ea, rfl⟩ : ∃ a, as[j]? = some a ∧ y = .ref a := by
            rw [List.getElem?_map] at hy
            cases q : as[j]? with
            | none => rw [q] at hy; cases hy
            | some b => rw [q] at hy; exact ⟨b, rfl, (Option.some.inj hy).symm⟩
          have hj : j < N := by rw [← las]; exact (List.getElem?_eq_some_iff.mp ea).1
          obtain ⟨r, er⟩ : ∃ r, cur[j]? = some r := ⟨_, List.getElem?_eq_getElem (by omega)⟩
          obtain ⟨x, hx, hd⟩ := (R6.same s7).at_ _ _ _ ea er
          have lr : r.length ≤ 120 := by
            have h1 := flat_mem (List.mem_of_getElem? er)
            have h2 := po.perm.length_eq
            rw [List.length_map, List.length_take, enumP_length] at h2
            omega
          have x7 := x6.trans (SameX.of s7)
          refine ⟨rfl, _, rfl, _, rfl, vo, a, x, ks, os, r, rfl, hoX _ x7, SqL.of hx, hd, oko, R6.ok r (List.mem_of_getElem? er), by omega, fun H8 p ys qs s8 hp0 hp hdp pm st8 => ?_⟩
          have np : p ∉ as2 := fun z => by obtain ⟨x, hx⟩ := R7.tracked z; rw [hp0] at hx; cases hx
          have nDp : DD ≠ p := fun z => by rw [← z, hD7] at hp0; cases hp0
          have hp00 := x7.free hb hp0 (b6.same s7)
          have nD2 : DD ∉ as2 ++ [p] := fun z => by
            rcases List.mem_append.mp z with z | z
            · exact nD z
            · exact nDp (List.mem_singleton.mp z)
          have R8 := (R7.same s8).snoc hp hdp hp00 np (fun q hq => R6.ok r (List.mem_of_getElem? er) q (pm.mem_iff.mp hq))
          have l2 : as2.length = j := by rw [R7.len, lo]
          refine ⟨_, s8 _ _ hD7, small1000 (by rw [List.length_map, l2]; omega), fun b o q => (upd_ne (ne_of_none q hD)).trans (s8 _ _ (s7 b o q)), as2 ++ [p], out ++ [qs], by rw [upd_same, List.map_append]; rfl, R8.upd_ (s8 _ _ hD7) nD2, nD2, by rw [List.length_append, lo]; rfl, fun q hq => ?_, ?_⟩
          · rcases List.mem_append.mp hq with hq | hq
            · exact so q hq
            · rw [List.mem_singleton.mp hq]; exact st8
          · rw [take_snoc er, List.flatten_append, List.flatten_append]
            refine po7.append ?_
            simpa using pm
        · rintro H7 ⟨s7, as2, out, hD7, R7, nD, lo, so, po7⟩
          rw [List.length_map, las] at lo po7
          rw [List.take_of_length_le (by omega)] at po7
          refine k H7 DD as2 out st (x6.trans (SameX.of s7)) (b6.same s7) hD0 nD hD7 R7 so (by omega) (by omega) st1 stm ⟨?_⟩
          exact po7.trans po.perm
end
end RS
set_option Elab.async false
set_option maxRecDepth 100000
set_option maxHeartbeats 4000000
namespace RS
open PySem PySem.Spec PyProof.Rows L2 GX
theorem catA_any {K : PySem.W.Frag} {H : Hp} {a b : Addr} {xs ys : List V} {Q : VK} (ha : SqT K H a xs) (hb : SqT K H b ys) (hz : xs.length + ys.length ≤ sizeLine) (q : ∀ p H', Same H H' → SqT K H' p (xs ++ ys) → Q (.ref p) H') : rCatA K (.ref a) (.ref b) H Q :=
  ⟨a, b, xs, ys, rfl, rfl, ha, hb, hz, fun e => q b H (Same.refl H) (by rw [e]; exact hb), fun _ e => q a H (Same.refl H) (by rw [e, List.append_nil]; exact ha), fun _ _ p hp => q p _ (sameNew (Same.refl H) hp) (SqT.of upd_same)⟩
theorem slA_any {K : PySem.W.Frag} {H : Hp} {a : Addr} {xs : List V} {lo hi : Option Int} {Q : VK} (ha : SqT K H a xs) (q : ∀ p H', Same H H' → SqT K H' p (cutV xs lo hi) → Q (.ref p) H') : rSlA K (.ref a) lo hi H Q :=
  ⟨a, xs, rfl, ha, fun ⟨e1, e2⟩ => q a H (Same.refl H) (by
    have : cutV xs lo hi = xs := by
      unfold cutV
      rw [e1, e2, List.drop_zero, Nat.sub_zero, List.take_length]
    rw [this]
    exact ha), fun _ p hp => q p _ (sameNew (Same.refl H) hp) (SqT.of upd_same)⟩
end RS
set_option Elab.async false
set_option maxRecDepth 100000
set_option maxHeartbeats 8000000
set_option pp.maxSteps 400
namespace RS
open PySem PySem.Spec PyProof.Rows L2 GX
/-! ### the seven ways -/
section
variable {ks : List Bool} {os : List (Nat × Bool)} {l : PrL}
theorem bad1 {n : Int} {row : List PyData} (h : n < 0) (a b : List TPr) : BadRun ks os (a ++ (n, row) :: b) :=
  .inl (bad_mem (t := (n, row)) (by simp) (by show (decide ((0 : Int) ≤ n) && _) = false; rw [decide_eq_false (by omega), Bool.false_and]))
theorem bad2 {q : Nat × List PyData} : BadRun ks os (intR (l ++ [q]) ++ [intT q]) := by
  have e : intR (l ++ [q]) ++ [intT q] = intR l ++ intT q :: intT q :: [] := by simp [intR]
  rw [e]
  exact .inl (bad_adj ((swo_before os).refl q) _ _)
theorem bad3 {n : Int} {row : List PyData} (h : isRow ks (.tuple row) = false) (a b : List TPr) : BadRun ks os (a ++ (n, row) :: b) :=
  .inl (bad_mem (t := (n, row)) (by simp) (by show (_ && isRow ks (.tuple row)) = false; rw [h, Bool.and_false]))
theorem row_nil (h : 1 ≤ ks.length) : isRow ks (.tuple []) = false := by
  show (decide (([] : List PyData).length = ks.length) && _) = false
  rw [decide_eq_false (by simp; omega), Bool.false_and]
theorem row_more {row : List PyData} {d : PyData} (h : isRow ks (.tuple row) = true) : isRow ks (.tuple (row ++ [d])) = false := by
  have e : row.length = ks.length := of_decide_eq_true (Bool.and_eq_true_iff.mp h).1
  show (decide ((row ++ [d]).length = ks.length) && _) = false
  rw [decide_eq_false (by rw [List.length_append, List.length_singleton]; omega), Bool.false_and]
theorem bad5 {p q : Nat × List PyData} (s : SrtO.Srtd (before os) (p :: q :: l)) : BadRun ks os (intR (p :: q :: l)).reverse := by
  have e : (intR (p :: q :: l)).reverse = (intR l).reverse ++ intT q :: intT p :: [] := by simp [intR]
  rw [e]
  exact .inl (bad_adj ((List.pairwise_cons.mp s).1 q List.mem_cons_self) _ _)
theorem bad7 {a b : List TPr} {t : TPr} {row : List PyData} (h : t ∈ a) : BadRun ks os (a ++ (t.1, row) :: b) := by
  refine .inr fun z => ?_
  have e : numsT (a ++ (t.1, row) :: b) = numsT a ++ t.1 :: numsT b := by simp [numsT]
  rw [e] at z
  exact (List.nodup_append.mp z).2.2 t.1 (List.mem_map.mpr ⟨t, h, rfl⟩) t.1 List.mem_cons_self rfl
end
/-! ### lists of any told ones, apart from the drawer -/
def okD (t : TPr) : Prop := fitT t ∧ noL (toldD t) = true
structure TL (K : PySem.W.Frag) (B L : Addr) (H : Hp) (a : Addr) (r : List TPr) : Prop where
  nB : a ≠ B
  nL : a ≠ L
  at_ : ∃ x, H a = some (.lst x) ∧ DpAll K H x (r.map toldD)
theorem TL.same {K : PySem.W.Frag} {B L a : Addr} {H H' : Hp} {r : List TPr} (h : TL K B L H a r) (s : Same H H') : TL K B L H' a r := by
  obtain ⟨x, h1, h2⟩ := h.at_
  exact ⟨h.nB, h.nL, x, s _ _ h1, dpAll_same s _ h2⟩
theorem TL.x {K : PySem.W.Frag} {B L a : Addr} {H H' : Hp} {r : List TPr} (h : TL K B L H a r) (b : BoxAt H B L) (s : SameX B L H H') (ok : ∀ t ∈ r, okD t) : TL K B L H' a r := by
  obtain ⟨x, h1, h2⟩ := h.at_
  refine ⟨h.nB, h.nL, x, s _ _ h.nB h.nL h1, dpAll_x b s _ (noLs_iff.mpr fun d hd => ?_) h2⟩
  obtain ⟨t, ht, rfl⟩ := List.mem_map.mp hd
  exact (ok t ht).2
theorem TL.upd {K : PySem.W.Frag} {B L a b : Addr} {H : Hp} {r : List TPr} {xs u : List V} (h : TL K B L H a r) (hb : H b = some (.lst xs)) (n : a ≠ b) (ok : ∀ t ∈ r, okD t) : TL K B L (upd H b (.lst u)) a r := by
  obtain ⟨x, h1, h2⟩ := h.at_
  refine ⟨h.nB, h.nL, x, (upd_ne n).trans h1, dpAll_upd hb _ (noLs_iff.mpr fun d hd => ?_) h2⟩
  obtain ⟨t, ht, rfl⟩ := List.mem_map.mp hd
  exact (ok t ht).2
theorem seq_join {A U : TS} {D : Ends} {σ : L2.St} {H : Hp} (N : L2.St → Hp → Prop) (fin : ∀ σ' H', N σ' H' → U D σ' H') (h : ∀ nx : L2.St → Hp → Prop, (∀ σ' H', N σ' H' → nx σ' H') → A { D with nx := nx } σ H) : tSeq A U D σ H := h _ fin
/-- a run that is none -/
def BadL (K : PySem.W.Frag) (B L : Addr) (ks : List Bool) (os : List (Nat × Bool)) (H : Hp) (v : V) : Prop := ∃ (a : Addr) (r : List TPr), v = .ref a ∧ TL K B L H a r ∧ BadRun ks os r ∧ (∀ t ∈ r, okD t) ∧ r.length ≤ 125
theorem BadL.same {K : PySem.W.Frag} {B L : Addr} {ks : List Bool} {os : List (Nat × Bool)} {H H' : Hp} {v : V} (h : BadL K B L ks os H v) (s : Same H H') : BadL K B L ks os H' v := by
  obtain ⟨a, r, e, t, b, o, z⟩ := h
  exact ⟨a, r, e, t.same s, b, o, z⟩
theorem BadL.x {K : PySem.W.Frag} {B L : Addr} {ks : List Bool} {os : List (Nat × Bool)} {H H' : Hp} {v : V} (h : BadL K B L ks os H v) (b : BoxAt H B L) (s : SameX B L H H') : BadL K B L ks os H' v := by
  obtain ⟨a, r, e, t, bd, o, z⟩ := h
  exact ⟨a, r, e, t.x b s o, bd, o, z⟩
theorem cutV_end {xs : List V} : cutV xs (some (-1)) none = xs.drop (xs.length - 1) := by
  unfold cutV
  rw [HT.sIx_none]
  have e : HT.sIx xs.length 0 (some (-1)) = xs.length - 1 := by
    show (if (-1 : Int) < 0 then ((-1 : Int) + (xs.length : Int)).toNat else min (-1 : Int).toNat xs.length) = xs.length - 1
    rw [if_pos (by decide)]
    omega
  rw [e, List.take_of_length_le]
  rw [List.length_drop]
  exact Nat.le_refl _
theorem cutV_to5 {xs : List V} {k : Nat} (h : k ≤ xs.length) : cutV xs none (some (k : Nat)) = xs.take k := by
  unfold cutV
  rw [HT.sIx_nat, HT.sIx_none, Nat.min_eq_left h, List.drop_zero, Nat.sub_zero]
theorem dpAll_rev5 {K : PySem.W.Frag} {H : Hp} : ∀ {xs : List V} {ds : List PyData}, DpAll K H xs ds → DpAll K H xs.reverse ds.reverse
  | [], _, .nil => .nil
  | x :: xs, _, .cons h t => by
    rw [List.reverse_cons, List.reverse_cons]
    exact dpApp (dpAll_rev5 t) (.cons h .nil)
theorem runs_dp {K : PySem.W.Frag} {ks : List Bool} {H0 H : Hp} {as : List Addr} {rl : List PrL} (R : Runs K ks H0 H as rl) : DpAll K H (as.map V.ref) ((rl.map intR).map runD) :=
  dpAll_by (by simp [R.len]) fun i v d hv hd => by
    rw [List.getElem?_map] at hv
    rw [List.getElem?_map, List.getElem?_map] at hd
    cases ea : as[i]? with
    | none => rw [ea] at hv; cases hv
    | some a =>
      cases er : rl[i]? with
      | none => rw [er] at hd; cases hd
      | some r =>
        rw [ea] at hv
        rw [er] at hd
        cases hv
        cases hd
        obtain ⟨x, h1, h2⟩ := R.at_ i a r ea er
        refine .lst (SqL.of h1) ?_
        have : (intR r).map toldD = r.map pairD := by
          unfold intR
          rw [List.map_map]
          rfl
        rw [this]
        exact h2
theorem new_any {H : Hp} {o : HO} {Q : V → Hp → Prop} (q : ∀ p H', Same H H' → H p = none → H' p = some o → Q (.ref p) H') : ∀ p, H p = none → Q (.ref p) (upd H p o) := fun p hp => q p _ (sameNew (Same.refl H) hp) hp upd_same
theorem cat_any {H : Hp} {a b : Addr} {xs ys : List V} {Q : VK} (ha : H a = some (.lst xs)) (hb : H b = some (.lst ys)) (hz : xs.length + ys.length ≤ sizeLine) (q : ∀ p H', Same H H' → H p = none → H' p = some (.lst (xs ++ ys)) → Q (.ref p) H') : rCat (.ref a) (.ref b) H Q :=
  ⟨a, b, xs, ys, rfl, rfl, ha, hb, hz, fun p hp => q p _ (sameNew (Same.refl H) hp) hp upd_same⟩
theorem sl_any {K : PySem.W.Frag} {H : Hp} {a : Addr} {xs : List V} {lo hi : Option Int} {Q : VK} (ha : H a = some (.lst xs)) (q : ∀ p H', Same H H' → H p = none → H' p = some (.lst (cutV xs lo hi)) → Q (.ref p) H') : rSlL K (.ref a) lo hi H Q :=
  ⟨a, xs, rfl, SqL.of ha, fun p hp => q p _ (sameNew (Same.refl H) hp) hp upd_same⟩
section
variable {P : Program} {w : World} {K : PySem.W.Frag} {mg : Str → Option Value} {base : Heap}
theorem scBad : FnScope ["_law_box", "_law_order_here", "_law_runs", "_law_at", "_law_run", "_law_some", "_law_k", "_law_below", "_law_far", "_law_behind"] ["_law_box", "_law_order_here", "_law_runs"] (defScope s__law_bad) := ⟨rfl, rfl, rfl, by decide +kernel, rfl, by decide +kernel, by decide +kernel⟩
def spBad (K : PySem.W.Frag) : Sp := fun vs H Q _ => ∃ (B L RA : Addr) (vo : V) (H0 : Hp) (as : List Addr) (ks : List Bool) (os : List (Nat × Bool)) (rl : List PrL), vs = [.ref B, vo, .ref RA] ∧ BoxAt H B L ∧ BoxAt H0 B L ∧ RA ≠ B ∧ RA ≠ L ∧ H RA = some (.lst (as.map V.ref)) ∧ Runs K ks H0 H as rl ∧ 1 ≤ ks.length ∧ ks.length ≤ 4 ∧ (∀ r ∈ rl, r ≠ []) ∧ 1 ≤ rl.length ∧ rl.length ≤ 39 ∧ (∀ r ∈ rl, SrtO.Srtd (before os) r) ∧ (rl.flatten.map (·.1)).Nodup ∧ rl.flatten.length ≤ 120 ∧
  ∀ (H' : Hp) (t p : Addr) (xs : List V) (k : Nat) (rs : List (List TPr)), SameX B L H H' → BoxAt H' B L → H' t = some (.tup [.ref p, .int (k : Nat)]) → H' p = some (.lst xs) → DpAll K H' xs (rs.map runD) → BadR ks os rs k → (∀ r ∈ rs, ∀ t ∈ r, fitT t) → (rs.flatMap numsT).length ≤ 100000 → k ≤ 40 → Q (.ref t) H'
theorem lawbad_ok {c : Addr} (D : DefAt K mg "_law_bad" s__law_bad c) (T : Txt K mg) (cT : Cal P w K mg base CX0 1 "_law_take" ["_law_box", "_law_many"] spTake) :
    Cal P w K mg base CX0 2 "_law_bad" ["_law_box", "_law_order_here", "_law_runs"] (spBad K) := by
  have sc := scBad
  refine def_ok0 D sc (fun vs H Q E h => ?_) (fun _ _ _ _ _ _ us hl => match us, hl with | [_, _, _], _ => rfl) (fun f A outer s H vs Q E hr h => ?_)
  · obtain ⟨B, L, RA, vo, H0, as, ks, os, rl, rfl, _⟩ := h
    rfl
  · obtain ⟨B, L, RA, vo, H0, as, ks, os, rl, rfl, hb, hb0, nRB, nRL, hRA, R, k1, k4, ne, r1, r39, srt, nd, r120, k⟩ := h
    refine ⟨_, (pss_cons (ps_set (i := 3) sc.nd rfl (Or.inl rfl) (pe_c cT hr (by decide) (by rfl) pass0 (pa_cons (pv 0) (pa_cons (pe_callB call_len_seq (by rfl) T.len PySem.boot_len (pa_cons (pv 2) pa_nil)) pa_nil)))) (pss_cons (ps_set (i := 4) sc.nd rfl (Or.inl rfl) (pe_ix ix_list (pv 2) (pv 3) (fun _ _ => rfl))) (pss_cons (ps_set (i := 5) sc.nd rfl (Or.inl rfl) (pe_lst (pa_cons (pe_op op_cat (pe_lst (pa_cons (pe_tup (pa_cons (pe_un un_neg pe_int) (pa_cons (pe_ix ixD (pe_ix ix_list (pv 4) pe_int (fun _ _ => rfl)) pe_int (fun _ _ => rfl)) pa_nil))) pa_nil)) (pv 4)) (pa_cons (pe_op op_cat (pv 4) (pe_slice sl_list (pv 4) (po_some (pe_un un_neg pe_int)) po_none)) (pa_cons (pe_op op_cat (pe_lst (pa_cons (pe_tup (pa_cons pe_int (pa_cons (pe_tup pa_nil) pa_nil))) pa_nil)) (pv 4)) pa_nil))))) (pss_cons (ps_expr (pe_bm PySem.F.plainAttrs_list PySem.F.slot_list_append PySem.F.type_list_append mt_append (pv 5) (pa_cons (pe_op op_cat (pv 4) (pe_lst (pa_cons (pe_tup (pa_cons (pe_op op_pow pe_int pe_int) (pa_cons (pe_op op_catA (pe_ix ixD (pe_ix ix_list (pv 4) (pe_un un_neg pe_int) (fun _ _ => rfl)) pe_int (fun _ _ => rfl)) (pe_tup (pa_cons pe_int pa_nil))) pa_nil))) pa_nil))) pa_nil))) (pss_cons (ps_if (pt_cmpR op_gt (pe_callB call_len_seq (by rfl) T.len PySem.boot_len (pa_cons (pv 4) pa_nil)) pe_int (nomark _)) (pss_cons (ps_set (i := 6) sc.nd rfl (Or.inl rfl) (pe_op op_add pe_int (pe_c cT hr (by decide) (by rfl) pass0 (pa_cons (pv 0) (pa_cons (pe_op op_sub (pe_callB call_len_seq (by rfl) T.len PySem.boot_len (pa_cons (pv 4) pa_nil)) pe_int) pa_nil))))) (pss_cons (ps_set (i := 7) sc.nd rfl (Or.inl rfl) (pe_lst (pa_cons (pe_tup (pa_cons (pe_op op_sub (pe_un un_neg pe_int) (pe_c cT hr (by decide) (by rfl) pass0 (pa_cons (pv 0) (pa_cons (pe_op op_pow pe_int pe_int) pa_nil)))) (pa_cons (pe_ix ixD (pe_ix ix_list (pv 4) (pv 6) (fun _ _ => rfl)) pe_int (fun _ _ => rfl)) pa_nil))) pa_nil))) (pss_cons (ps_set (i := 5) sc.nd rfl (Or.inl rfl) (pe_op op_cat (pv 5) (pe_lst (pa_cons (pe_revL (pv 4)) (pa_cons (pe_op op_cat (pe_op op_cat (pe_slice sl_list (pv 4) po_none (po_some (pv 6))) (pv 7)) (pe_slice sl_list (pv 4) (po_some (pe_op op_add (pv 6) pe_int)) po_none)) pa_nil))))) (pss_one (ps_set (i := 5) sc.nd rfl (Or.inl rfl) (pe_op op_cat (pv 5) (pe_op op_rep (pe_lst (pa_cons (pe_op op_cat (pe_op op_cat (pe_slice sl_list (pv 4) po_none (po_some (pv 6))) (pe_lst (pa_cons (pe_tup (pa_cons (pe_ix ixD (pe_ix ix_list (pv 4) (pe_c cT hr (by decide) (by rfl) pass0 (pa_cons (pv 0) (pa_cons (pv 6) pa_nil))) (fun _ _ => rfl)) pe_int (fun _ _ => rfl)) (pa_cons (pe_ix ixD (pe_ix ix_list (pv 4) (pv 6) (fun _ _ => rfl)) pe_int (fun _ _ => rfl)) pa_nil))) pa_nil))) (pe_slice sl_list (pv 4) (po_some (pe_op op_add (pv 6) pe_int)) po_none)) pa_nil)) pe_int))))))) pss_nil) (pss_cons (ps_set (i := 8) sc.nd rfl (Or.inl rfl) (pe_c cT hr (by decide) (by rfl) pass0 (pa_cons (pv 0) (pa_cons (pe_callB call_len_seq (by rfl) T.len PySem.boot_len (pa_cons (pv 5) pa_nil)) pa_nil)))) (pss_cons (ps_set (i := 9) sc.nd rfl (Or.inl rfl) (pe_ix ix_list (pe_lst (pa_cons (pe_lst (pa_cons (pe_lst (pa_cons (pe_tup (pa_cons pe_int (pa_cons (pe_tup pa_nil) pa_nil))) pa_nil)) pa_nil)) (pa_cons (pe_op op_rep (pe_lst (pa_cons (pe_lst pa_nil) pa_nil)) (pe_op op_sub pe_int (pe_callB call_len_seq (by rfl) T.len PySem.boot_len (pa_cons (pv 2) pa_nil)))) pa_nil))) (pe_callTy call_int1 (by rfl) T.int_ (by decide +kernel) (pa_cons (pe_cmpR op_eq (pe_c cT hr (by decide) (by rfl) pass0 (pa_cons (pv 0) (pa_cons pe_int pa_nil))) pe_int (nomark _)) pa_nil)) (fun _ _ => rfl))) (pss_one (ps_ret (pe_tup (pa_cons (pe_op op_cat (pe_op op_cat (pe_op op_cat (pe_slice sl_list (pv 2) po_none (po_some (pv 3))) (pe_lst (pa_cons (pe_ix ix_list (pv 5) (pv 8) (fun _ _ => rfl)) pa_nil))) (pe_slice sl_list (pv 2) (po_some (pe_op op_add (pv 3) pe_int)) po_none)) (pv 9)) (pa_cons (pv 3) pa_nil)))))))))))), ?_⟩
    have las := R.len
    obtain ⟨aB, aL⟩ := R.noB hb0
    refine ⟨_, rfl, _, rfl, RA, _, rfl, .inl (SqL.of hRA), ?_⟩
    rw [List.length_map, las]
    refine ⟨B, L, _, rfl, hb, by omega, by omega, fun H1 atx s1 b1 a0 a1 => ?_⟩
    obtain ⟨at_, rfl⟩ : ∃ n : Nat, atx = (n : Nat) := ⟨atx.toNat, by omega⟩
    have hat : at_ < rl.length := by omega
    obtain ⟨a, ea⟩ : ∃ a, as[at_]? = some a := ⟨_, List.getElem?_eq_getElem (by omega)⟩
    obtain ⟨r, er⟩ : ∃ r, rl[at_]? = some r := ⟨_, List.getElem?_eq_getElem hat⟩
    have hRA1 := s1 _ _ nRB nRL hRA
    have R1 := R.x s1 hb aB aL
    obtain ⟨x, hx, hd⟩ := R1.at_ _ _ _ ea er
    have am := List.mem_of_getElem? ea
    have rm := List.mem_of_getElem? er
    have naB : a ≠ B := fun z => aB (by rw [← z]; exact am)
    have naL : a ≠ L := fun z => aL (by rw [← z]; exact am)
    have rne := ne r rm
    have rok := R.ok r rm
    have rs := srt r rm
    have lr : r.length ≤ 120 := Nat.le_trans (flat_mem rm) r120
    have lx : x.length = r.length := by rw [dpLen hd, List.length_map]
    have l1 : 1 ≤ r.length := List.length_pos_iff.mpr rne
    have okq : ∀ q ∈ r, okD (intT q) := fun q hq => ⟨⟨by have : q.2.length = ks.length := of_decide_eq_true (Bool.and_eq_true_iff.mp (rok q hq)).1; show q.2.length ≤ 1000; omega, fun e he => (row_fit k4 (rok q hq)).2 e he⟩, pair_noL (rok q hq)⟩
    have big : (1000000 : Nat) ≤ sizeLine := by decide
    refine ⟨_, rfl, _, rfl, RA, _, _, .ref a, rfl, rfl, SqL.of hRA1, atI_nat (by rw [List.getElem?_map, ea]; rfl), ?_⟩
    obtain ⟨v0, ev0, hv0⟩ := dpGet' (i := 0) (d := pairD r[0]) hd (by rw [List.getElem?_map, List.getElem?_eq_getElem l1]; rfl)
    have hdI : ∀ {H' : Hp}, Same H1 H' → DpAll K H' x ((intR r).map toldD) := fun {H'} s => by
      have : (intR r).map toldD = r.map pairD := by
        unfold intR
        rw [List.map_map]
        rfl
      rw [this]
      exact dpAll_same s _ hd
    have apart : ∀ {H' : Hp} {p : Addr}, BoxAt H' B L → H' p = none → p ≠ B ∧ p ≠ L := fun b h => b.nb h
    have okI : ∀ t ∈ intR r, okD t := fun t ht => by
      obtain ⟨q, hq, rfl⟩ := List.mem_map.mp ht
      exact okq q hq
    have lI : (intR r).length = r.length := List.length_map _
    -- the first three
    refine ⟨1, rfl, _, rfl, a, x, _, _, rfl, rfl, SqL.of hx, atI_nat (j := 0) ev0, _, _, _, _, hv0, rfl, rfl, rfl, fun vr0 hvr0 => ?_⟩
    refine ⟨by show 2 ≤ sizeLine; decide, fun t1 nt1 => ?_⟩
    have s2 := sameNew (o := .tup [.int (-1), vr0]) (Same.refl H1) nt1
    have ht1 : upd H1 t1 (.tup [.int (-1), vr0]) t1 = some (.tup [.int (-1), vr0]) := upd_same
    generalize upd H1 t1 (.tup [.int (-1), vr0]) = H2 at s2 ht1 ⊢
    refine ⟨by show 1 ≤ sizeLine; decide, fun p1 np1 => ?_⟩
    have s3 := sameNew (o := .lst [.ref t1]) (Same.refl H2) np1
    have hp1 : upd H2 p1 (.lst [.ref t1]) p1 = some (.lst [.ref t1]) := upd_same
    generalize upd H2 p1 (.lst [.ref t1]) = H3 at s3 hp1 ⊢
    have z3 := s2.trans s3
    refine ⟨_, rfl, cat_any hp1 (z3 _ _ hx) (by show 1 + x.length ≤ sizeLine; omega) fun p2 H4 s4 np2 hp2 => ?_⟩
    have z4 := z3.trans s4
    have e1 : TL K B L H4 p2 ((-1, (r[0]).2) :: intR r) := by
      obtain ⟨nB2, nL2⟩ := apart (b1.same z3) np2
      refine ⟨nB2, nL2, _, hp2, .cons (.tup (SqT.of (s4 _ _ (s3 _ _ ht1))) (.cons (.int _) (.cons (dp_same z4 _ hvr0) .nil))) (hdI z4)⟩
    refine ⟨_, rfl, _, rfl, 1, rfl, _, rfl, ?_⟩
    dsimp only [tNoPart]
    refine sl_any (lo := some (-1)) (hi := none) (z4 _ _ hx) fun p3 H5 s5 np3 hp3 => ?_
    have z5 := z4.trans s5
    rw [cutV_end] at hp3
    refine cat_any (z5 _ _ hx) hp3 (by rw [List.length_drop]; omega) fun p4 H6 s6 np4 hp4 => ?_
    have z6 := z5.trans s6
    obtain ⟨li, q0, erl⟩ : ∃ li q0, r = li ++ [q0] := ⟨r.dropLast, r.getLast rne, (List.dropLast_concat_getLast rne).symm⟩
    have lil : r.length = li.length + 1 := by rw [erl]; simp
    obtain ⟨vl, evl, hvl⟩ := dpGet' (i := li.length) (d := pairD q0) hd (by rw [List.getElem?_map, erl]; simp)
    have exl : x.drop (x.length - 1) = [vl] := by
      apply List.ext_getElem?
      intro m
      rw [List.getElem?_drop, lx, lil]
      match m with
      | 0 => exact evl
      | m + 1 => rw [List.getElem?_eq_none (by omega)]; rfl
    rw [exl] at hp4
    have e2 : TL K B L H6 p4 (intR r ++ [intT q0]) := by
      obtain ⟨nB2, nL2⟩ := apart (b1.same z5) np4
      refine ⟨nB2, nL2, _, hp4, ?_⟩
      rw [List.map_append]
      exact dpApp (hdI z6) (.cons (dp_same z6 _ hvl) .nil)
    refine ⟨by show 0 ≤ sizeLine; decide, fun t3 nt3 => ?_⟩
    have s7 := sameNew (o := .tup []) (Same.refl H6) nt3
    have ht3 : upd H6 t3 (.tup []) t3 = some (.tup []) := upd_same
    generalize upd H6 t3 (.tup []) = H7 at s7 ht3 ⊢
    refine ⟨by show 2 ≤ sizeLine; decide, fun t4 nt4 => ?_⟩
    have s8 := sameNew (o := .tup [.int 0, .ref t3]) (Same.refl H7) nt4
    have ht4 : upd H7 t4 (.tup [.int 0, .ref t3]) t4 = some (.tup [.int 0, .ref t3]) := upd_same
    generalize upd H7 t4 (.tup [.int 0, .ref t3]) = H8 at s8 ht4 ⊢
    refine ⟨by show 1 ≤ sizeLine; decide, fun p5 np5 => ?_⟩
    have s9 := sameNew (o := .lst [.ref t4]) (Same.refl H8) np5
    have hp5 : upd H8 p5 (.lst [.ref t4]) p5 = some (.lst [.ref t4]) := upd_same
    generalize upd H8 p5 (.lst [.ref t4]) = H9 at s9 hp5 ⊢
    have z9 := ((z6.trans s7).trans s8).trans s9
    refine ⟨_, rfl, cat_any hp5 (z9 _ _ hx) (by show 1 + x.length ≤ sizeLine; omega) fun p6 H10 s10 np6 hp6 => ?_⟩
    have z10 := z9.trans s10
    have e3 : TL K B L H10 p6 ((0, []) :: intR r) := by
      obtain ⟨nB2, nL2⟩ := apart (b1.same z9) np6
      refine ⟨nB2, nL2, _, hp6, .cons (.tup (SqT.of (s10 _ _ (s9 _ _ ht4))) (.cons (.int _) (.cons (.tup (SqT.of (s10 _ _ (s9 _ _ (s8 _ _ ht3)))) .nil) .nil))) (hdI z10)⟩
    refine ⟨by show 3 ≤ sizeLine; decide, fun Sm nSm => ?_⟩
    have s11 := sameNew (o := .lst [.ref p2, .ref p4, .ref p6]) (Same.refl H10) nSm
    have hSm : upd H10 Sm (.lst [.ref p2, .ref p4, .ref p6]) Sm = some (.lst [.ref p2, .ref p4, .ref p6]) := upd_same
    generalize upd H10 Sm (.lst [.ref p2, .ref p4, .ref p6]) = H11 at s11 hSm ⊢
    have z11 := z10.trans s11
    obtain ⟨nSB, nSL⟩ := apart (b1.same z10) nSm
    refine ⟨_, rfl, .inl ⟨rfl, _, SqL.of hSm⟩, ?_⟩
    refine ⟨_, rfl, _, _, rfl, rfl, ⟨by decide, by decide, by decide⟩, ?_⟩
    have exx : x = x.take (x.length - 1) ++ [vl] := by
      conv => lhs; rw [← List.take_append_drop (x.length - 1) x, exl]
    have eat : atI x (-1) = some vl := by rw [exx]; exact L2.atI_last _ _
    refine ⟨_, rfl, 1, rfl, a, x, _, vl, rfl, rfl, SqL.of (z11 _ _ hx), eat, _, _, _, _, dp_same z11 _ hvl, rfl, rfl, rfl, fun vrl hvrl => ?_⟩
    cases hvrl with
    | @tup ar xr _ hSr hIr =>
    have lxr : xr.length ≤ 1000 := by
      have h1 := (okq q0 (by rw [erl]; simp)).1.1
      have h2 := dpLen hIr
      show xr.length ≤ 1000
      have h1' : q0.2.length ≤ 1000 := h1
      omega
    refine ⟨by show 1 ≤ sizeLine; decide, fun t7 nt7 => ?_⟩
    have s12 := sameNew (o := .tup [.int 0]) (Same.refl H11) nt7
    have ht7 : upd H11 t7 (.tup [.int 0]) t7 = some (.tup [.int 0]) := upd_same
    generalize upd H11 t7 (.tup [.int 0]) = H12 at s12 ht7 ⊢
    refine catA_any (sqT_same s12 hSr) (SqT.of ht7) (by show xr.length + 1 ≤ sizeLine; omega) fun pc H13 s13 hpc => ?_
    refine ⟨by show 2 ≤ sizeLine; decide, fun t8 nt8 => ?_⟩
    have s14 := sameNew (o := .tup [.int (10 ^ (12 : Int).toNat), .ref pc]) (Same.refl H13) nt8
    have ht8 : upd H13 t8 (.tup [.int (10 ^ (12 : Int).toNat), .ref pc]) t8 = some (.tup [.int (10 ^ (12 : Int).toNat), .ref pc]) := upd_same
    generalize upd H13 t8 (.tup [.int (10 ^ (12 : Int).toNat), .ref pc]) = H14 at s14 ht8 ⊢
    refine ⟨by show 1 ≤ sizeLine; decide, fun p8 np8 => ?_⟩
    have s15 := sameNew (o := .lst [.ref t8]) (Same.refl H14) np8
    have hp8 : upd H14 p8 (.lst [.ref t8]) p8 = some (.lst [.ref t8]) := upd_same
    generalize upd H14 p8 (.lst [.ref t8]) = H15 at s15 hp8 ⊢
    have w15 := ((s12.trans s13).trans s14).trans s15
    have z15 := z11.trans w15
    refine cat_any (z15 _ _ hx) hp8 (by show x.length + 1 ≤ sizeLine; omega) fun p9 H16 s16 np9 hp9 => ?_
    have z16 := z15.trans s16
    have w16 := w15.trans s16
    have e4 : TL K B L H16 p9 (intR r ++ [(1000000000000, q0.2 ++ [.int 0])]) := by
      obtain ⟨nB2, nL2⟩ := apart (b1.same z15) np9
      refine ⟨nB2, nL2, _, hp9, ?_⟩
      rw [List.map_append]
      have tt := (s15.trans s16)
      exact dpApp (hdI z16) (.cons (.tup (SqT.of (tt _ _ ht8)) (.cons (.int _) (.cons (.tup (sqT_same (s14.trans tt) hpc) (dpApp (dpAll_same w16 _ hIr) (.cons (.int _) .nil))) .nil))) .nil)
    refine ⟨Sm, _, _, rfl, rfl, w16 _ _ hSm, small1000 (by show 3 ≤ 1000; decide), ?_⟩
    have q0m : q0 ∈ r := by rw [erl]; simp
    have hS16 := w16 _ _ hSm
    have tl_ne : ∀ {H' : Hp} {p : Addr} {rr : List TPr}, TL K B L H' p rr → Same H' H10 → p ≠ Sm := fun {H' p rr} e s z => by
      obtain ⟨y, h1, _⟩ := e.at_
      have := s _ _ h1
      rw [z, nSm] at this
      cases this
    have k1' := row_nil (ks := ks) k1
    have ok1 : ∀ t ∈ ((-1, (r[0]).2) :: intR r), okD t := fun t ht => by
      rcases List.mem_cons.mp ht with e | ht
      · have m0 := okq r[0] (List.getElem_mem l1)
        rw [e]
        exact m0
      · exact okI t ht
    have ok2 : ∀ t ∈ intR r ++ [intT q0], okD t := fun t ht => by
      rcases List.mem_append.mp ht with ht | ht
      · exact okI t ht
      · rw [List.mem_singleton.mp ht]; exact okq q0 q0m
    have ok3 : ∀ t ∈ (((0 : Int), ([] : List PyData)) :: intR r), okD t := fun t ht => by
      rcases List.mem_cons.mp ht with e | ht
      · rw [e]
        exact ⟨⟨by simp, fun e h => nomatch h⟩, rfl⟩
      · exact okI t ht
    have ok4 : ∀ t ∈ intR r ++ [((1000000000000 : Int), q0.2 ++ [PyData.int 0])], okD t := fun t ht => by
      rcases List.mem_append.mp ht with ht | ht
      · exact okI t ht
      · rw [List.mem_singleton.mp ht]
        obtain ⟨⟨h1, h2⟩, h3⟩ := okq q0 q0m
        have h1' : q0.2.length = ks.length := of_decide_eq_true (Bool.and_eq_true_iff.mp (rok q0 q0m)).1
        refine ⟨⟨by show (q0.2 ++ [PyData.int 0]).length ≤ 1000; rw [List.length_append, List.length_singleton]; omega, fun e he => ?_⟩, ?_⟩
        · rcases List.mem_append.mp he with he | he
          · exact h2 e he
          · rw [List.mem_singleton.mp he]; trivial
        · have h4 : noLs [.int (q0.1 : Int), .tuple q0.2] = true := h3
          have h5 : noLs q0.2 = true := (show noL (.tuple q0.2) = true from noLs_iff.mp h4 (.tuple q0.2) (by simp))
          have h6 : noLs (q0.2 ++ [PyData.int 0]) = true := noLs_iff.mpr fun d hd => by
            rcases List.mem_append.mp hd with hd | hd
            · exact noLs_iff.mp h5 d hd
            · rw [List.mem_singleton.mp hd]; rfl
          exact noLs_iff.mpr fun d hd => by
            simp only [List.mem_cons, List.not_mem_nil, or_false] at hd
            rcases hd with hd | hd <;> rw [hd]
            · rfl
            · exact h6
    have b17 : BoxAt (upd H16 Sm (.lst ([V.ref p2, .ref p4, .ref p6] ++ [.ref p9]))) B L := (b1.same z16).upd_ nSB nSL
    have hSm0 : H Sm = none := s1.free hb (z10.free nSm) b1
    have x17 : SameX B L H (upd H16 Sm (.lst ([V.ref p2, .ref p4, .ref p6] ++ [.ref p9]))) := (s1.trans (SameX.of z16)).new hSm0
    have s10' := (((s5.trans s6).trans s7).trans s8).trans (s9.trans s10)
    have s6' := ((s7.trans s8).trans s9).trans s10
    have n9 : p9 ≠ Sm := fun z => by have := (s12.trans ((s13.trans s14).trans s15)) _ _ hSm; rw [← z, np9] at this; cases this
    have BL1 : ∀ v ∈ [V.ref p2, .ref p4, .ref p6] ++ [.ref p9], BadL K B L ks os (upd H16 Sm (.lst ([V.ref p2, .ref p4, .ref p6] ++ [.ref p9]))) v := fun v hv => by
      simp only [List.cons_append, List.nil_append, List.mem_cons, List.not_mem_nil, or_false] at hv
      have w10 := s11.trans w16
      rcases hv with e | e | e | e <;> rw [e]
      · exact ⟨p2, _, rfl, ((e1.same s10').same w10).upd hS16 (tl_ne e1 s10') ok1, bad1 (by decide) [] _, ok1, by show (intR r).length + 1 ≤ 125; omega⟩
      · refine ⟨p4, _, rfl, ((e2.same s6').same w10).upd hS16 (tl_ne e2 s6') ok2, ?_, ok2, by rw [List.length_append]; show (intR r).length + 1 ≤ 125; omega⟩
        rw [erl]
        exact bad2
      · exact ⟨p6, _, rfl, (e3.same w10).upd hS16 (tl_ne e3 (Same.refl _)) ok3, bad3 k1' [] _, ok3, by show (intR r).length + 1 ≤ 125; omega⟩
      · exact ⟨p9, _, rfl, e4.upd hS16 n9 ok4, bad3 (row_more (rok q0 q0m)) _ [], ok4, by rw [List.length_append]; show (intR r).length + 1 ≤ 125; omega⟩
    have hx17 : upd H16 Sm (.lst ([V.ref p2, .ref p4, .ref p6] ++ [.ref p9])) a = some (.lst x) := (upd_ne fun z => by have := z10 _ _ hx; rw [z, nSm] at this; cases this).trans (z16 _ _ hx)
    have noR : noLs (r.map pairD) = true := pairs_noL rok
    have hd17 : DpAll K (upd H16 Sm (.lst ([V.ref p2, .ref p4, .ref p6] ++ [.ref p9]))) x (r.map pairD) := dpAll_upd hS16 _ noR (dpAll_same z16 _ hd)
    have hS17 : upd H16 Sm (.lst ([V.ref p2, .ref p4, .ref p6] ++ [.ref p9])) Sm = some (.lst ([V.ref p2, .ref p4, .ref p6] ++ [.ref p9])) := upd_same
    generalize upd H16 Sm (.lst ([V.ref p2, .ref p4, .ref p6] ++ [.ref p9])) = H17 at b17 x17 BL1 hx17 hd17 hS17 ⊢
    dsimp only
    refine seq_join (fun σ' H' => ∃ (Sm' : Addr) (vs : List V) (v6 v7 : Option V), σ' = [some (.ref B), some vo, some (.ref RA), some (.int (at_ : Nat)), some (.ref a), some (.ref Sm'), v6, v7, none, none] ∧ SameX B L H H' ∧ BoxAt H' B L ∧ H' Sm' = some (.lst vs) ∧ (Sm' ≠ B ∧ Sm' ≠ L) ∧ (∀ v ∈ vs, BadL K B L ks os H' v) ∧ 1 ≤ vs.length ∧ vs.length ≤ 9) ?_ ?_
    · rintro σ' H' ⟨Sm', vs, v6, v7, rfl, x', b', hS', nS', bl', l1', l9'⟩
      refine ⟨_, rfl, _, rfl, Sm', vs, rfl, .inl (SqL.of hS'), B, L, _, rfl, b', by omega, by omega, fun HA fx sA bA f0 f1 => ?_⟩
      obtain ⟨ff, rfl⟩ : ∃ n : Nat, fx = (n : Nat) := ⟨fx.toNat, by omega⟩
      have xA := x'.trans sA
      have hSA := sA _ _ nS'.1 nS'.2 hS'
      have blA : ∀ v ∈ vs, BadL K B L ks os HA v := fun v hv => (bl' v hv).x b' sA
      have hRA' := xA _ _ nRB nRL hRA
      refine ⟨by show 0 ≤ sizeLine; decide, fun u1 nu1 => ?_⟩
      have sa1 := sameNew (o := .tup []) (Same.refl HA) nu1
      have hu1 : upd HA u1 (.tup []) u1 = some (.tup []) := upd_same
      generalize upd HA u1 (.tup []) = HA1 at sa1 hu1 ⊢
      refine ⟨by show 2 ≤ sizeLine; decide, fun u2 nu2 => ?_⟩
      have sa2 := sameNew (o := .tup [.int 0, .ref u1]) (Same.refl HA1) nu2
      have hu2 : upd HA1 u2 (.tup [.int 0, .ref u1]) u2 = some (.tup [.int 0, .ref u1]) := upd_same
      generalize upd HA1 u2 (.tup [.int 0, .ref u1]) = HA2 at sa2 hu2 ⊢
      refine ⟨by show 1 ≤ sizeLine; decide, fun u3 nu3 => ?_⟩
      have sa3 := sameNew (o := .lst [.ref u2]) (Same.refl HA2) nu3
      have hu3 : upd HA2 u3 (.lst [.ref u2]) u3 = some (.lst [.ref u2]) := upd_same
      generalize upd HA2 u3 (.lst [.ref u2]) = HA3 at sa3 hu3 ⊢
      refine ⟨by show 1 ≤ sizeLine; decide, fun u4 nu4 => ?_⟩
      have sa4 := sameNew (o := .lst [.ref u3]) (Same.refl HA3) nu4
      have hu4 : upd HA3 u4 (.lst [.ref u3]) u4 = some (.lst [.ref u3]) := upd_same
      generalize upd HA3 u4 (.lst [.ref u3]) = HA4 at sa4 hu4 ⊢
      refine ⟨by show 0 ≤ sizeLine; decide, fun u5 nu5 => ?_⟩
      have sa5 := sameNew (o := .lst []) (Same.refl HA4) nu5
      have hu5 : upd HA4 u5 (.lst []) u5 = some (.lst []) := upd_same
      generalize upd HA4 u5 (.lst []) = HA5 at sa5 hu5 ⊢
      refine ⟨by show 1 ≤ sizeLine; decide, fun u6 nu6 => ?_⟩
      have sa6 := sameNew (o := .lst [.ref u5]) (Same.refl HA5) nu6
      have hu6 : upd HA5 u6 (.lst [.ref u5]) u6 = some (.lst [.ref u5]) := upd_same
      generalize upd HA5 u6 (.lst [.ref u5]) = HA6 at sa6 hu6 ⊢
      have y1 := sa1
      have y2 := y1.trans sa2
      have y3 := y2.trans sa3
      have y4 := y3.trans sa4
      have y5 := y4.trans sa5
      have y6 := y5.trans sa6
      refine ⟨_, rfl, RA, _, rfl, .inl (SqL.of (y6 _ _ hRA')), _, _, rfl, rfl, ?_⟩
      rw [List.length_map, las]
      obtain ⟨nn, enn, nn42⟩ : ∃ n : Nat, (42 : Int) - ((rl.length : Nat) : Int) = (n : Nat) ∧ n ≤ 42 := ⟨42 - rl.length, by omega, by omega⟩
      refine ⟨u6, _, _, rfl, rfl, hu6, by omega, by omega, by show 1 * _ ≤ sizeLine; omega, fun u7 nu7 => ?_⟩
      have sa7 := sameNew (o := .lst (List.replicate ((42 : Int) - ((rl.length : Nat) : Int)).toNat [V.ref u5]).flatten) (Same.refl HA6) nu7
      have hu7 : upd HA6 u7 (.lst (List.replicate ((42 : Int) - ((rl.length : Nat) : Int)).toNat [V.ref u5]).flatten) u7 = some (.lst (List.replicate nn (V.ref u5))) := by
        rw [upd_same, enn, Int.toNat_natCast]
        congr 2
        simp
      generalize upd HA6 u7 (.lst (List.replicate ((42 : Int) - ((rl.length : Nat) : Int)).toNat [V.ref u5]).flatten) = HA7 at sa7 hu7 ⊢
      have y7 := y6.trans sa7
      refine ⟨by show 2 ≤ sizeLine; decide, fun u8 nu8 => ?_⟩
      have sa8 := sameNew (o := .lst [.ref u4, .ref u7]) (Same.refl HA7) nu8
      have hu8 : upd HA7 u8 (.lst [.ref u4, .ref u7]) u8 = some (.lst [.ref u4, .ref u7]) := upd_same
      generalize upd HA7 u8 (.lst [.ref u4, .ref u7]) = HA8 at sa8 hu8 ⊢
      have y8 := y7.trans sa8
      have bA8 := bA.same y8
      refine ⟨_, rfl, B, L, 3, rfl, bA8, by decide, by decide, fun HB bx sB bB g0 g1 => ?_⟩
      have r78 := sa8
      have r68 := sa7.trans sa8
      have r58 := sa6.trans r68
      have r48 := sa5.trans r58
      have r38 := sa4.trans r48
      have r28 := sa3.trans r38
      have r18 := sa2.trans r28
      obtain ⟨v1B, v1L⟩ := apart bA nu1
      obtain ⟨v2B, v2L⟩ := apart (bA.same y1) nu2
      obtain ⟨v3B, v3L⟩ := apart (bA.same y2) nu3
      obtain ⟨v4B, v4L⟩ := apart (bA.same y3) nu4
      obtain ⟨v5B, v5L⟩ := apart (bA.same y4) nu5
      obtain ⟨v7B, v7L⟩ := apart (bA.same y6) nu7
      obtain ⟨v8B, v8L⟩ := apart (bA.same y7) nu8
      have j1 := sB _ _ v1B v1L (r18 _ _ hu1)
      have j2 := sB _ _ v2B v2L (r28 _ _ hu2)
      have j3 := sB _ _ v3B v3L (r38 _ _ hu3)
      have j4 := sB _ _ v4B v4L (r48 _ _ hu4)
      have j5 := sB _ _ v5B v5L (r58 _ _ hu5)
      have j7 := sB _ _ v7B v7L (r78 _ _ hu7)
      have j8 := sB _ _ v8B v8L hu8
      have xB := (xA.trans (SameX.of y8)).trans sB
      have hSB := sB _ _ nS'.1 nS'.2 (y8 _ _ hSA)
      have blB : ∀ v ∈ vs, BadL K B L ks os HB v := fun v hv => ((blA v hv).same y8).x bA8 sB
      have hRB := xB _ _ nRB nRL hRA
      have RB := R.x xB hb aB aL
      obtain ⟨bh, ybh, bs, ebh, hbh, hdb, obs, lbs, nbs⟩ : ∃ (bh : Addr) (ybh : List V) (bs : List (List TPr)), atI [V.ref u4, .ref u7] (if decide (V.int bx = V.int 0) = true then 1 else 0) = some (.ref bh) ∧ HB bh = some (.lst ybh) ∧ DpAll K HB ybh (bs.map runD) ∧ (∀ r ∈ bs, ∀ t ∈ r, fitT t) ∧ ybh.length ≤ 42 ∧ (bs.flatMap numsT).length ≤ 1 := by
        by_cases e : V.int bx = V.int 0
        · rw [decide_eq_true e, if_pos rfl]
          refine ⟨u7, _, List.replicate nn [], rfl, j7, ?_, fun r hr t ht => ?_, by rw [List.length_replicate]; exact nn42, by simp [numsT]⟩
          · refine dpAll_by (by simp) fun i v d hv hd => ?_
            have ev := List.eq_of_mem_replicate (List.mem_of_getElem? hv)
            have ed : d = runD [] := by
              have := List.mem_of_getElem? hd
              obtain ⟨r, hr, e⟩ := List.mem_map.mp this
              rw [← e, List.eq_of_mem_replicate hr]
            rw [ev, ed]
            exact .lst (SqL.of j5) .nil
          · rw [List.eq_of_mem_replicate hr] at ht
            cases ht
        · rw [decide_eq_false e, if_neg (by decide)]
          refine ⟨u4, _, [[(0, [])]], rfl, j4, .cons (.lst (SqL.of j3) (.cons (.tup (SqT.of j2) (.cons (.int _) (.cons (.tup (SqT.of j1) .nil) .nil))) .nil)) .nil, fun r hr t ht => ?_, by show 1 ≤ 42; decide, by simp [numsT]⟩
          rw [List.mem_singleton.mp hr] at ht
          rw [List.mem_singleton.mp ht]
          exact ⟨by simp, fun e h => nomatch h⟩
      refine ⟨rfl, .inr ⟨_, rfl, u8, _, _, .ref bh, rfl, rfl, SqL.of j8, ebh, ?_⟩⟩
      refine ⟨_, rfl, ?_⟩
      dsimp only [tNoPart]
      refine ⟨_, rfl, _, rfl, ?_⟩
      refine sl_any (lo := none) (hi := some (at_ : Nat)) hRB fun w1' HC sC nw1 hw1 => ?_
      rw [cutV_to5 (by rw [List.length_map, las]; omega)] at hw1
      obtain ⟨vf, evf⟩ : ∃ vf, vs[ff]? = some vf := ⟨_, List.getElem?_eq_getElem (by omega)⟩
      refine ⟨_, rfl, _, rfl, Sm', vs, _, vf, rfl, rfl, SqL.of (sC _ _ hSB), atI_nat evf, ?_⟩
      refine ⟨by show 1 ≤ sizeLine; decide, fun w2 nw2 => ?_⟩
      have sD := sameNew (o := .lst [vf]) (Same.refl HC) nw2
      have hw2 : upd HC w2 (.lst [vf]) w2 = some (.lst [vf]) := upd_same
      generalize upd HC w2 (.lst [vf]) = HD at sD hw2 ⊢
      have q2 := sC.trans sD
      refine cat_any (sD _ _ hw1) hw2 (by rw [List.length_take, List.length_map]; show _ + 1 ≤ sizeLine; omega) fun w3 HE sE nw3 hw3 => ?_
      have q3 := q2.trans sE
      refine ⟨_, rfl, _, rfl, _, _, rfl, rfl, _, rfl, ?_⟩
      dsimp only [tNoPart]
      refine sl_any (lo := some ((at_ : Int) + 1)) (hi := none) (q3 _ _ hRB) fun w4 HF sF nw4 hw4 => ?_
      rw [show ((at_ : Int) + 1) = ((at_ + 1 : Nat) : Int) from rfl, cutV_from (by rw [List.length_map, las]; omega)] at hw4
      have q4 := q3.trans sF
      refine cat_any (sF _ _ hw3) hw4 (by rw [List.length_append, List.length_take, List.length_drop, List.length_map]; show _ + 1 + _ ≤ sizeLine; omega) fun w5 HG sG nw5 hw5 => ?_
      have q5 := q4.trans sG
      refine ⟨_, rfl, cat_any hw5 (q5 _ _ hbh) (by rw [List.length_append, List.length_append, List.length_take, List.length_drop, List.length_map]; show _ + 1 + _ + _ ≤ sizeLine; omega) fun w6 HI sI nw6 hw6 => ?_⟩
      have q6 := q5.trans sI
      refine ⟨_, rfl, ?_⟩
      refine ⟨by show 2 ≤ sizeLine; decide, fun wt nwt => ?_⟩
      have sJ := sameNew (o := .tup [.ref w6, .int (at_ : Nat)]) (Same.refl HI) nwt
      have hwt : upd HI wt (.tup [.ref w6, .int (at_ : Nat)]) wt = some (.tup [.ref w6, .int (at_ : Nat)]) := upd_same
      generalize upd HI wt (.tup [.ref w6, .int (at_ : Nat)]) = HJ at sJ hwt ⊢
      have q7 := q6.trans sJ
      obtain ⟨ab, rb, evb, tb, brb, okb, lb⟩ := (blB vf (List.mem_of_getElem? evf)).same q7
      obtain ⟨yb, hyb, hdyb⟩ := tb.at_
      have RJ := RB.same q7
      have all := runs_dp RJ
      have fitI : ∀ l ∈ rl, ∀ t ∈ intR l, fitT t := fun l hl t ht => by
        obtain ⟨q, hq, rfl⟩ := List.mem_map.mp ht
        have hok := R.ok l hl q hq
        have hlen : q.2.length = ks.length := of_decide_eq_true (Bool.and_eq_true_iff.mp hok).1
        exact ⟨by show q.2.length ≤ 1000; omega, fun e he => (row_fit k4 hok).2 e he⟩
      refine k HJ wt w6 _ at_ ((rl.take at_).map intR ++ rb :: ((rl.drop (at_ + 1)).map intR ++ bs)) (xB.trans (SameX.of q7)) (bB.same q7) hwt (sJ _ _ hw6) ?_ (bad_at srt nd R.ok (by omega) (by omega) brb) ?_ ?_ (by omega)
      · have e1 : ((rl.take at_).map intR ++ rb :: ((rl.drop (at_ + 1)).map intR ++ bs)).map runD = ((((rl.map intR).map runD).take at_ ++ [runD rb]) ++ ((rl.map intR).map runD).drop (at_ + 1)) ++ bs.map runD := by
          simp [List.map_take, List.map_drop]
        rw [e1]
        refine dpApp (dpApp (dpApp (dpAll_take all at_) (.cons ?_ .nil)) (dpAll_drop all (at_ + 1))) (dpAll_same q7 _ hdb)
        rw [evb]
        exact .lst (SqL.of hyb) hdyb
      · intro rr hrr t ht
        rcases List.mem_append.mp hrr with h | h
        · obtain ⟨l, hl, rfl⟩ := List.mem_map.mp h
          exact fitI l (List.mem_of_mem_take hl) t ht
        · rcases List.mem_cons.mp h with e | h
          · rw [e] at ht; exact (okb t ht).1
          · rcases List.mem_append.mp h with h | h
            · obtain ⟨l, hl, rfl⟩ := List.mem_map.mp h
              exact fitI l (List.mem_of_mem_drop hl) t ht
            · exact obs rr h t ht
      · have tot : ∀ l : List PrL, ((l.map intR).flatMap numsT).length = l.flatten.length := fun l => by rw [flat_int, nums_int, List.length_map]
        have h1 : (rl.take at_).flatten.length ≤ rl.flatten.length := by
          conv => rhs; rw [← List.take_append_drop at_ rl, List.flatten_append, List.length_append]
          exact Nat.le_add_right _ _
        have h2 : (rl.drop (at_ + 1)).flatten.length ≤ rl.flatten.length := by
          conv => rhs; rw [← List.take_append_drop (at_ + 1) rl, List.flatten_append, List.length_append]
          exact Nat.le_add_left _ _
        rw [List.flatMap_append, List.flatMap_cons, List.flatMap_append, List.length_append, List.length_append, List.length_append, tot, tot]
        have h3 : (numsT rb).length = rb.length := List.length_map _
        omega
    · intro nx hnx
      refine ⟨_, rfl, a, x, rfl, .inl (SqL.of hx17), _, _, rfl, rfl, _, rfl, ?_⟩
      by_cases c2 : 1 < r.length
      · refine iteT' (decide_eq_true (by omega)) ?_
        refine ⟨_, rfl, _, rfl, a, x, rfl, .inl (SqL.of hx17), _, _, rfl, rfl, B, L, _, rfl, b17, by omega, by omega, fun H18 kx s18 b18 k0 kx1 => ?_⟩
        obtain ⟨kk, ek, kk1, kkr⟩ : ∃ kk : Nat, 1 + kx = (kk : Int) ∧ 1 ≤ kk ∧ kk < r.length := ⟨(1 + kx).toNat, by omega, by omega, by omega⟩
        refine ⟨_, _, rfl, rfl, ?_⟩
        have hx18 := s18 _ _ naB naL hx17
        have hd18 := dpAll_x b17 s18 _ noR hd17
        have hS18 := s18 _ _ nSB nSL hS17
        have BL18 : ∀ v ∈ [V.ref p2, .ref p4, .ref p6] ++ [.ref p9], BadL K B L ks os H18 v := fun v hv => (BL1 v hv).x b17 s18
        have x18 := x17.trans s18
        obtain ⟨qk, eqk⟩ : ∃ qk, r[kk]? = some qk := ⟨_, List.getElem?_eq_getElem kkr⟩
        obtain ⟨vk, evk, hvk⟩ := dpGet' (i := kk) (d := pairD qk) hd18 (by rw [List.getElem?_map, eqk]; rfl)
        have pw9 : ((10 : Int) ^ (9 : Int).toNat) = 1000000000 := by decide +kernel
        refine ⟨1, rfl, _, rfl, _, _, rfl, rfl, ⟨by decide, by decide, by decide⟩, B, L, _, rfl, b18, by rw [pw9]; decide, by rw [pw9]; decide, fun H19 far s19 b19 f0 f1 => ?_⟩
        have hx19 := s19 _ _ naB naL hx18
        have hd19 := dpAll_x b18 s19 _ noR hd18
        have hS19 := s19 _ _ nSB nSL hS18
        have BL19 : ∀ v ∈ [V.ref p2, .ref p4, .ref p6] ++ [.ref p9], BadL K B L ks os H19 v := fun v hv => (BL18 v hv).x b18 s19
        have x19 := x18.trans s19
        have okk := rok qk (List.mem_of_getElem? eqk)
        have hvk19 := dp_x b18 s19 _ (pair_noL okk) hvk
        refine ⟨_, _, rfl, rfl, _, rfl, _, rfl, a, x, _, vk, rfl, rfl, SqL.of hx19, by rw [ek]; exact atI_nat evk, _, _, _, _, hvk19, rfl, rfl, rfl, fun vrk hvrk => ?_⟩
        refine ⟨by show 2 ≤ sizeLine; decide, fun t9 nt9 => ?_⟩
        have s20 := sameNew (o := .tup [.int (-1 - far), vrk]) (Same.refl H19) nt9
        have ht9 : upd H19 t9 (.tup [.int (-1 - far), vrk]) t9 = some (.tup [.int (-1 - far), vrk]) := upd_same
        generalize upd H19 t9 (.tup [.int (-1 - far), vrk]) = H20 at s20 ht9 ⊢
        refine ⟨by show 1 ≤ sizeLine; decide, fun Lb nLb => ?_⟩
        have s21 := sameNew (o := .lst [.ref t9]) (Same.refl H20) nLb
        have hLb : upd H20 Lb (.lst [.ref t9]) Lb = some (.lst [.ref t9]) := upd_same
        generalize upd H20 Lb (.lst [.ref t9]) = H21 at s21 hLb ⊢
        have y21 := s20.trans s21
        refine ⟨_, rfl, _, rfl, a, x, rfl, SqL.of (y21 _ _ hx19), fun rv nrv => ?_⟩
        have s22 := sameNew (o := .lst x.reverse) (Same.refl H21) nrv
        have hrv : upd H21 rv (.lst x.reverse) rv = some (.lst x.reverse) := upd_same
        generalize upd H21 rv (.lst x.reverse) = H22 at s22 hrv ⊢
        have y22 := y21.trans s22
        have eIT : (intR r).map toldD = r.map pairD := by
          unfold intR
          rw [List.map_map]
          rfl
        have hdJ : ∀ {H' : Hp}, Same H19 H' → DpAll K H' x ((intR r).map toldD) := fun {H'} s => by rw [eIT]; exact dpAll_same s _ hd19
        have g5 : TL K B L H22 rv (intR r).reverse := by
          obtain ⟨u1, u2⟩ := apart (b19.same y21) nrv
          refine ⟨u1, u2, _, hrv, ?_⟩
          rw [List.map_reverse]
          exact dpAll_rev5 (hdJ y22)
        refine ⟨_, rfl, ?_⟩
        dsimp only [tNoPart]
        refine ⟨_, rfl, _, rfl, ?_⟩
        rw [ek]
        refine sl_any (lo := none) (hi := some (kk : Nat)) (y22 _ _ hx19) fun q1 H23 s23 nq1 hq1 => ?_
        rw [cutV_to5 (by omega)] at hq1
        have y23 := y22.trans s23
        refine ⟨_, rfl, cat_any hq1 (s23 _ _ (s22 _ _ hLb)) (by rw [List.length_take]; show _ + 1 ≤ sizeLine; omega) fun q2 H24 s24 nq2 hq2 => ?_⟩
        have y24 := y23.trans s24
        refine ⟨_, rfl, _, rfl, _, _, rfl, rfl, _, rfl, ?_⟩
        dsimp only [tNoPart]
        refine sl_any (lo := some ((kk : Int) + 1)) (hi := none) (y24 _ _ hx19) fun q3 H25 s25 nq3 hq3 => ?_
        rw [show ((kk : Int) + 1) = ((kk + 1 : Nat) : Int) from rfl, cutV_from (by omega)] at hq3
        have y25 := y24.trans s25
        refine cat_any (s25 _ _ hq2) hq3 (by rw [List.length_append, List.length_take, List.length_drop]; show _ + 1 + _ ≤ sizeLine; omega) fun q4 H26 s26 nq4 hq4 => ?_
        have y26 := y25.trans s26
        have t9at : ∀ {H' : Hp}, Same H20 H' → Dp K H' (.ref t9) (toldD (-1 - far, qk.2)) := fun {H'} s => .tup (SqT.of (s _ _ ht9)) (.cons (.int _) (.cons (dp_same (s20.trans s) _ hvrk) .nil))
        have f20 : Same H20 H26 := (((s21.trans s22).trans s23).trans s24).trans (s25.trans s26)
        have rIk : ∀ t ∈ (intR r).take kk ++ (-1 - far, qk.2) :: (intR r).drop (kk + 1), okD t := fun t ht => by
          rcases List.mem_append.mp ht with ht | ht
          · exact okI t (List.mem_of_mem_take ht)
          · rcases List.mem_cons.mp ht with e | ht
            · rw [e]; exact okq qk (List.mem_of_getElem? eqk)
            · exact okI t (List.mem_of_mem_drop ht)
        have lIk : ∀ t : TPr, ((intR r).take kk ++ t :: (intR r).drop (kk + 1)).length ≤ 125 := fun t => by
          rw [List.length_append, List.length_cons, List.length_take, List.length_drop]
          omega
        have g6 : TL K B L H26 q4 ((intR r).take kk ++ (-1 - far, qk.2) :: (intR r).drop (kk + 1)) := by
          obtain ⟨u1, u2⟩ := apart (b19.same y25) nq4
          refine ⟨u1, u2, _, hq4, ?_⟩
          rw [List.map_append, List.map_cons, List.map_take, List.map_drop, List.append_assoc]
          exact dpApp (dpAll_take (hdJ y26) kk) (.cons (t9at f20) (dpAll_drop (hdJ y26) (kk + 1)))
        refine ⟨by show 2 ≤ sizeLine; decide, fun LL2 nLL2 => ?_⟩
        have s27 := sameNew (o := .lst [.ref rv, .ref q4]) (Same.refl H26) nLL2
        have hLL2 : upd H26 LL2 (.lst [.ref rv, .ref q4]) LL2 = some (.lst [.ref rv, .ref q4]) := upd_same
        generalize upd H26 LL2 (.lst [.ref rv, .ref q4]) = H27 at s27 hLL2 ⊢
        have y27 := y26.trans s27
        refine cat_any (y27 _ _ hS19) hLL2 (by show 4 + 2 ≤ sizeLine; decide) fun S2 H28 s28 nS2 hS2 => ?_
        have y28 := y27.trans s28
        have b28 := b19.same y28
        obtain ⟨nS2B, nS2L⟩ := apart (b19.same y27) nS2
        have x28 := x19.trans (SameX.of y28)
        have BL28 : ∀ v ∈ ([V.ref p2, .ref p4, .ref p6] ++ [.ref p9]) ++ [.ref rv, .ref q4], BadL K B L ks os H28 v := fun v hv => by
          rcases List.mem_append.mp hv with hv | hv
          · exact (BL19 v hv).same y28
          · simp only [List.mem_cons, List.not_mem_nil, or_false] at hv
            rcases hv with e | e <;> rw [e]
            · refine ⟨rv, _, rfl, g5.same ((((s23.trans s24).trans s25).trans s26).trans (s27.trans s28)), ?_, fun t ht => okI t (List.mem_reverse.mp ht), by rw [List.length_reverse]; omega⟩
              match r, c2, rs with
              | p :: q :: l, _, rs => exact bad5 rs
              | [_], c, _ => exact absurd c (by simp)
              | [], c, _ => exact absurd c (by simp)
            · exact ⟨q4, _, rfl, g6.same (s27.trans s28), bad1 (by omega) _ _, rIk, lIk _⟩
        have hx28 := y28 _ _ hx19
        have hd28 := dpAll_same y28 _ hd19
        refine ⟨_, rfl, _, rfl, ?_⟩
        dsimp only [tNoPart]
        refine ⟨_, rfl, _, rfl, ?_⟩
        refine sl_any (lo := none) (hi := some (kk : Nat)) hx28 fun q5 H29 s29 nq5 hq5 => ?_
        rw [cutV_to5 (by omega)] at hq5
        obtain ⟨n5B, n5L⟩ := apart b28 nq5
        have b29 := b28.same s29
        refine ⟨_, rfl, _, rfl, _, rfl, B, L, _, rfl, b29, by omega, by omega, fun H30 jx s30 b30 j0 jk => ?_⟩
        obtain ⟨jj, rfl⟩ : ∃ n : Nat, jx = (n : Nat) := ⟨jx.toNat, by omega⟩
        have hj : jj < kk := by omega
        have x30 := (x28.trans (SameX.of s29)).trans s30
        have hx30 := s30 _ _ naB naL (s29 _ _ hx28)
        have hd30 := dpAll_x b29 s30 _ noR (dpAll_same s29 _ hd28)
        have hS30 := s30 _ _ nS2B nS2L (s29 _ _ hS2)
        have hq30 := s30 _ _ n5B n5L hq5
        have BL30 : ∀ v ∈ ([V.ref p2, .ref p4, .ref p6] ++ [.ref p9]) ++ [.ref rv, .ref q4], BadL K B L ks os H30 v := fun v hv => ((BL28 v hv).same s29).x b29 s30
        have hdK : ∀ {H' : Hp}, Same H30 H' → DpAll K H' x ((intR r).map toldD) := fun {H'} s => by rw [eIT]; exact dpAll_same s _ hd30
        obtain ⟨qj, eqj⟩ : ∃ qj, r[jj]? = some qj := ⟨_, List.getElem?_eq_getElem (by omega)⟩
        obtain ⟨vj, evj, hvj⟩ := dpGet' (i := jj) (d := pairD qj) hd30 (by rw [List.getElem?_map, eqj]; rfl)
        obtain ⟨vk3, evk3, hvk3⟩ := dpGet' (i := kk) (d := pairD qk) hd30 (by rw [List.getElem?_map, eqk]; rfl)
        refine ⟨a, x, _, vj, rfl, rfl, SqL.of hx30, atI_nat evj, _, _, _, _, hvj, rfl, rfl, rfl, fun vn hvn => ?_⟩
        cases hvn
        refine ⟨_, rfl, _, rfl, a, x, _, vk3, rfl, rfl, SqL.of hx30, atI_nat evk3, _, _, _, _, hvk3, rfl, rfl, rfl, fun vr3 hvr3 => ?_⟩
        refine ⟨by show 2 ≤ sizeLine; decide, fun t10 nt10 => ?_⟩
        have s31 := sameNew (o := .tup [.int (qj.1 : Nat), vr3]) (Same.refl H30) nt10
        have ht10 : upd H30 t10 (.tup [.int (qj.1 : Nat), vr3]) t10 = some (.tup [.int (qj.1 : Nat), vr3]) := upd_same
        generalize upd H30 t10 (.tup [.int (qj.1 : Nat), vr3]) = H31 at s31 ht10 ⊢
        refine ⟨by show 1 ≤ sizeLine; decide, fun l10 nl10 => ?_⟩
        have s32 := sameNew (o := .lst [.ref t10]) (Same.refl H31) nl10
        have hl10 : upd H31 l10 (.lst [.ref t10]) l10 = some (.lst [.ref t10]) := upd_same
        generalize upd H31 l10 (.lst [.ref t10]) = H32 at s32 hl10 ⊢
        have y32 := s31.trans s32
        refine cat_any (y32 _ _ hq30) hl10 (by rw [List.length_take]; show _ + 1 ≤ sizeLine; omega) fun q6 H33 s33 nq6 hq6 => ?_
        have y33 := y32.trans s33
        refine ⟨_, rfl, _, rfl, _, _, rfl, rfl, _, rfl, ?_⟩
        dsimp only [tNoPart]
        refine sl_any (lo := some ((kk : Int) + 1)) (hi := none) (y33 _ _ hx30) fun q7 H34 s34 nq7 hq7 => ?_
        rw [show ((kk : Int) + 1) = ((kk + 1 : Nat) : Int) from rfl, cutV_from (by omega)] at hq7
        have y34 := y33.trans s34
        refine cat_any (s34 _ _ hq6) hq7 (by rw [List.length_append, List.length_take, List.length_drop]; show _ + 1 + _ ≤ sizeLine; omega) fun q8 H35 s35 nq8 hq8 => ?_
        have y35 := y34.trans s35
        have rJk : ∀ t ∈ (intR r).take kk ++ (((qj.1 : Nat) : Int), qk.2) :: (intR r).drop (kk + 1), okD t := fun t ht => by
          rcases List.mem_append.mp ht with ht | ht
          · exact okI t (List.mem_of_mem_take ht)
          · rcases List.mem_cons.mp ht with e | ht
            · rw [e]; exact okq qk (List.mem_of_getElem? eqk)
            · exact okI t (List.mem_of_mem_drop ht)
        have g8 : TL K B L H35 q8 ((intR r).take kk ++ (((qj.1 : Nat) : Int), qk.2) :: (intR r).drop (kk + 1)) := by
          obtain ⟨u1, u2⟩ := apart (b30.same y34) nq8
          refine ⟨u1, u2, _, hq8, ?_⟩
          rw [List.map_append, List.map_cons, List.map_take, List.map_drop, List.append_assoc]
          exact dpApp (dpAll_take (hdK y35) kk) (.cons (.tup (SqT.of (((s32.trans s33).trans (s34.trans s35)) _ _ ht10)) (.cons (.int _) (.cons (dp_same y35 _ hvr3) .nil))) (dpAll_drop (hdK y35) (kk + 1)))
        refine ⟨by show 1 ≤ sizeLine; decide, fun L8 nL8 => ?_⟩
        have s36 := sameNew (o := .lst [.ref q8]) (Same.refl H35) nL8
        have hL8 : upd H35 L8 (.lst [.ref q8]) L8 = some (.lst [.ref q8]) := upd_same
        generalize upd H35 L8 (.lst [.ref q8]) = H36 at s36 hL8 ⊢
        have y36 := y35.trans s36
        refine ⟨L8, 3, _, rfl, rfl, hL8, by decide, by decide, by show 1 * 3 ≤ sizeLine; decide, fun p3' np3' => ?_⟩
        have s37 := sameNew (o := .lst (List.replicate (3 : Int).toNat [V.ref q8]).flatten) (Same.refl H36) np3'
        have hp3' : upd H36 p3' (.lst (List.replicate (3 : Int).toNat [V.ref q8]).flatten) p3' = some (.lst [.ref q8, .ref q8, .ref q8]) := upd_same
        generalize upd H36 p3' (.lst (List.replicate (3 : Int).toNat [V.ref q8]).flatten) = H37 at s37 hp3' ⊢
        have y37 := y36.trans s37
        refine cat_any (y37 _ _ hS30) hp3' (by show 6 + 3 ≤ sizeLine; decide) fun S3 H38 s38 nS3 hS3 => ?_
        have y38 := y37.trans s38
        obtain ⟨nS3B, nS3L⟩ := apart (b30.same y37) nS3
        have mj : intT qj ∈ (intR r).take kk := by
          have e : ((intR r).take kk)[jj]? = some (intT qj) := by
            rw [List.getElem?_take_of_lt hj]
            unfold intR
            rw [List.getElem?_map, eqj]
            rfl
          exact List.mem_of_getElem? e
        refine hnx _ _ ⟨S3, _, _, _, rfl, x30.trans (SameX.of y38), b30.same y38, hS3, ⟨nS3B, nS3L⟩, fun v hv => ?_, by simp, by simp⟩
        rcases List.mem_append.mp hv with hv | hv
        · exact (BL30 v hv).same y38
        · have ev : v = .ref q8 := by simpa using hv
          rw [ev]
          exact ⟨q8, _, rfl, g8.same ((s36.trans s37).trans s38), bad7 (t := intT qj) mj, rJk, lIk _⟩
      · refine iteF' (decide_eq_false (by omega)) ?_
        exact hnx _ _ ⟨Sm, _, none, none, rfl, x17, b17, hS17, ⟨nSB, nSL⟩, BL1, by simp, by simp⟩
end
end RS
set_option Elab.async false
set_option maxRecDepth 100000
set_option maxHeartbeats 4000000
namespace RS
open PySem PySem.Spec PyProof.Rows L2 GX LM
/-! ### BadRuns(number) -/
section
variable {P : Program} {w : World} {K : PySem.W.Frag} {mg : Str → Option Value} {base : Heap}
theorem scNumberI : FnScope ["self", "number"] ["self", "number"] (defScope s_BadRuns_init) := ⟨rfl, rfl, rfl, by decide +kernel, rfl, by decide +kernel, by decide +kernel⟩
theorem init_number {fI C SE : Addr} {fd : FuncData} {mc : Value} (F : L2.Fun K "__init__" "BadRuns.__init__" s_BadRuns_init fI fd) (T : OexC K C) (iC : PySem.W.findIn K (.ref C) "__init__" = some (some (.ref fI))) (tI : PySem.W.typeIn K (.ref fI) = some (.type "function")) (hm : mg "BadRuns" = some (.ref C)) (nf : PySem.W.findIn K (.ref C) "number" = some none)
    (gS : mg "SortError" = some (.ref SE)) (cr : ClX.CRead K SE mc) (cv : PySem.W.findCls K (.ref SE) mc "__init__" = some (.val (.builtin "ValueError.__init__"))) : NumE P w K mg base "BadRuns" "number" C := by
  have sc := scNumberI
  refine ⟨fI, fd, T, iC, tI, ?_, F.binds (fun _ _ _ _ _ _ us hl => match us, hl with | [_, _], _ => rfl), hm⟩
  refine F.ok sc (fun vs H Q E h => ?_) (fun cdv A outer s H vs Q E hr h => ?_)
  · obtain ⟨a, v, rfl, _⟩ := h
    rfl
  · obtain ⟨a, v, rfl, hv, ha, k⟩ := h
    refine ⟨_, (pss_cons (ps_expr (pe_veinitC (by rfl) gS cr cv (pa_cons (pv 0) (pa_cons (pe_joined (.cons pe_str (.cons (pe_fmt (pv 1)) .nil))) pa_nil)))) (pss_one (ps_ost (pv 0) (pv 1)))), ?_⟩
    obtain ⟨z1, z2⟩ := txt_small v hv
    have big : (1000 : Nat) ≤ sizeLine := by decide
    have e0 : (Str.empty ++ Str.ofString "no run that may have number ").length ≤ 100 := by decide +kernel
    refine ⟨_, rfl, _, rfl, by omega, _, rfl, .inr ⟨_, rfl, z2, _, rfl, ?_, a, C, _, rfl, by show 1 ≤ 1000; decide, T, ha, ?_⟩⟩
    · rw [len_app7]
      omega
    · exact ⟨_, rfl, _, rfl, a, C, rfl, T, nf, .inl ⟨ha, fun dx hd ne => k dx hd ne⟩⟩
end
/-! ### the numbers of the parts -/
theorem parts_nodup {rs : List (List PyData)} {st : Nat} {rl : List PrL} (h : PartsOf rs rs.length st rl) (h1 : 1 ≤ st) : (rl.flatten.map (·.1)).Nodup ∧ rl.flatten.length = rs.length := by
  have le : (enumP 0 rs).length = rs.length := enumP_length _ _
  have p := h.perm
  rw [List.take_of_length_le (by omega)] at p
  refine ⟨?_, by rw [p.length_eq, List.length_map, le]⟩
  rw [(p.map (·.1)).nodup_iff, List.map_map]
  have en : ∀ (l : List (List PyData)) (k : Nat), (enumP k l).map (·.1) = List.range' k l.length := by
    intro l
    induction l with
    | nil => intro k; rfl
    | cons x l ih => intro k; show k :: (enumP (k + 1) l).map (·.1) = _; rw [ih]; rfl
  have e : (enumP 0 rs).map ((fun q : Nat × List PyData => q.1) ∘ fun q => (q.1 * st, q.2)) = ((enumP 0 rs).map (·.1)).map (· * st) := by rw [List.map_map]; rfl
  rw [e, en]
  exact List.Pairwise.map _ (fun a b n z => n (Nat.eq_of_mul_eq_mul_right (by omega) z)) (List.nodup_range' (step := 1) (by decide))
end RS
set_option Elab.async false
set_option maxRecDepth 100000
set_option maxHeartbeats 4000000
namespace RS
open PySem PySem.Spec PyProof.Rows L2 GX
/-! ### tables that are empty at the entry, as tables of any size -/
def extOf (T : List Addr) (H : Hp) : Hp := fun b => if b ∈ T then some (.ext (TabE b)) else H b
def tabAt (h : Heap) (b : Addr) : Array Value := match h.get? b with
  | some o => (match o.data with
    | .fields rs => rs
    | _ => #[])
  | none => #[]
def tblOf (T : List Addr) (h : Heap) (H : Hp) : Hp := fun b => if b ∈ T then some (.tbl (tabAt h b)) else H b
/-- a promise that speaks of tables of any size, asked where they are empty -/
def spT (T : List Addr) (sp : Sp) : Sp := fun vs H Q E => (∀ b ∈ T, H b = some (.tbl #[])) ∧ sp vs (extOf T H) (fun v H' => (∀ b ∈ T, Tab H' b) ∧ ∀ H2, Q v H2) E
theorem ext_in {T : List Addr} {H : Hp} {b : Addr} (h : b ∈ T) : extOf T H b = some (.ext (TabE b)) := if_pos h
theorem ext_out {T : List Addr} {H : Hp} {b : Addr} (h : b ∉ T) : extOf T H b = H b := if_neg h
theorem tbl_in {T : List Addr} {g : Heap} {H : Hp} {b : Addr} (h : b ∈ T) : tblOf T g H b = some (.tbl (tabAt g b)) := if_pos h
theorem tbl_out {T : List Addr} {g : Heap} {H : Hp} {b : Addr} (h : b ∉ T) : tblOf T g H b = H b := if_neg h
theorem FnOk.tables {P : Program} {w : World} {K : PySem.W.Frag} {mg : Str → Option Value} {base : Heap} {k : Nat} {f : Addr} {fd : FuncData} {ps : List Str} {sp : Sp} {T : List Addr} (F : FnOk P w K mg base CX0 k f fd ps sp) : FnOk P w K mg base CX0 k f fd ps (spT T sp) := by
  refine ⟨fun vs H Q E h => F.len _ _ _ _ h.2, fun A outer s H args us vs Q E hr e0 hb hv ⟨hT, hs⟩ => ?_⟩
  have nT : ∀ b, H b = none → b ∉ T := fun b e hb => by
    rw [hT b hb] at e
    cases e
  have nT2 : ∀ b o, H b = some o → (∀ ps, o ≠ .tbl ps) → b ∉ T := fun b o e n hb => by
    rw [hT b hb] at e
    exact n #[] (Option.some.inj e).symm
  have e2 : Env0 P w K mg base A outer s (extOf T H) := by
    refine ⟨e0.frames, e0.mod, fun b o e => ⟨(e0.bs b o e).1, by rw [ext_out (nT b (e0.bs b o e).2)]; exact (e0.bs b o e).2⟩, e0.bsz, e0.funs, fun b hb => by rw [ext_out (nT b (e0.frf b hb))]; exact e0.frf b hb, fun b o e => ?_, e0.bare⟩
    by_cases hb : b ∈ T
    · rw [ext_in hb] at e
      cases e
      have q := e0.hok b _ (hT b hb)
      exact ⟨⟨#[], q, trivial⟩, ⟨_, q⟩, tabE_stable⟩
    · rw [ext_out hb] at e
      refine (e0.hok b o e).stay (fun c u _ q => q) (fun c q => ?_) (fun c xs q => ?_)
      · rw [ext_out (nT2 c _ q (fun ps z => by cases z))]
        exact q
      · rw [ext_out (nT2 c _ q (fun ps z => by cases z))]
        exact q
  refine codeAny_mono (F.run A outer s (extOf T H) args us vs _ E hr e2 hb hv hs) fun r s' hq => ?_
  cases r with
  | error e => exact hq
  | ok fl =>
    cases fl with
    | next => exact hq
    | brk => exact hq
    | cont => exact hq
    | ret u =>
      obtain ⟨v, H', os, bare, un, hok', r', hT', q⟩ := hq
      refine ⟨v, tblOf T s'.heap H', os, bare, ⟨fun b o e n => un.keep b o e (by rw [ext_out (nT b n)]; exact n), fun b o e n => un.slot b o e (by rw [ext_out (nT b n)]; exact n), fun b o e n hx => ?_, un.there, fun b xs e => ?_, fun b o u e => ?_, fun b ps e => ?_⟩, fun b o e => ?_, r', q _⟩
      · rw [tbl_out (nT b n)]
        exact un.free b o e (by rw [ext_out (nT b n)]; exact n) hx
      · have hb := nT2 b _ e (fun ps z => by cases z)
        rw [tbl_out hb]
        exact un.tups b xs (by rw [ext_out hb]; exact e)
      · have hb := nT2 b _ e (fun ps z => by cases z)
        rw [tbl_out hb]
        exact un.frzs b o u (by rw [ext_out hb]; exact e)
      · by_cases hb : b ∈ T
        · rw [hT b hb] at e
          cases e
          exact ⟨tabAt s'.heap b, by rw [tbl_in hb, Array.empty_append]⟩
        · rw [tbl_out hb]
          exact un.tbls b ps (by rw [ext_out hb]; exact e)
      · have inT : ∀ c, c ∈ T → ∃ rs : Array Value, s'.heap.get? c = some { cls := .none, data := .fields rs } := fun c hc => by
          obtain ⟨⟨rs, h1, _⟩, _⟩ := hok' c _ (hT' c hc)
          exact ⟨rs, h1⟩
        by_cases hb : b ∈ T
        · rw [tbl_in hb] at e
          cases e
          obtain ⟨rs, h1⟩ := inT b hb
          have e2 : tabAt s'.heap b = rs := by
            unfold tabAt
            rw [h1]
          show s'.heap.get? b = some { cls := .none, data := .fields (tabAt s'.heap b) }
          rw [e2]
          exact h1
        · rw [tbl_out hb] at e
          have nT3 : ∀ c o, H' c = some o → (∀ φ, o ≠ .ext φ) → c ∉ T := fun c o e n hc => by
            have z : H' c = some (.ext (TabE c)) := hT' c hc
            rw [e] at z
            exact n _ (Option.some.inj z)
          refine (hok' b o e).stay (fun c u _ q => q) (fun c q => ?_) (fun c xs q => ?_)
          · rw [tbl_out (nT3 c _ q (fun φ z => by cases z))]
            exact q
          · rw [tbl_out (nT3 c _ q (fun φ z => by cases z))]
            exact q
section
variable {P : Program} {w : World} {K : PySem.W.Frag} {mg : Str → Option Value} {base : Heap}
theorem fn_of0 {f c : Addr} {oc kV doc pm ct : Value} {od an : Option Addr} {osl : Array (Option Value)} {x : Str} {st : Stmt} {N ps : List Str} {k : Nat} {sp : Sp}
    (lk : K.lookup f = some ⟨oc, od, .func (PySem.W.fnOf x x (defArgs st) (defBody st) (defScope st) .none kV doc pm an (.ref c) ct), osl⟩) (hcd : PySem.W.codeIn K (.ref c) x = true) (S : FnScope N ps (defScope st)) (len : ∀ vs H Q E, sp vs H Q E → vs.length = ps.length)
    (hbody : ∀ (f : Addr) (A : Around) (outer : List Env) (s : Shared) (H : Hp) (vs : List V) (Q : VK) (E : XK), Room k (A.deeper (envOfC x (defScope st) s.heap.objs.size f (.ref c))) → sp vs H Q E →
      ∃ t, PSs (cxOf CX0 P w K mg base N x (defScope st) f (.ref c) A outer s H E).nox (defBody st) t ∧ t { nx := fun _ H' => Q .non H', rt := Q } (start N vs) H) :
    FnOk P w K mg base CX0 (k + 1) f (PySem.W.fnOf x x (defArgs st) (defBody st) (defScope st) .none kV doc pm an (.ref c) ct) ps sp :=
  fn_of lk hcd S len fun A outer s H vs Q E hr hsp => by
    obtain ⟨t, ht, q⟩ := hbody f A outer s H vs Q E hr hsp
    exact ⟨t, ht.nox, q⟩
end
end RS
set_option Elab.async false
set_option maxRecDepth 100000
set_option maxHeartbeats 4000000
namespace RS
open PySem PySem.Spec PyProof.Rows L2 GX
section
variable {ks : List Bool} {ps : List (Nat × List PyData)}
theorem pair_shape {p : Nat × List PyData} (h : isRow ks (.tuple p.2) = true) : (pairD p).canLay0 = true ∧ (pairD p).depth ≤ 2 := by
  obtain ⟨h1, h2⟩ := row_shape h
  constructor
  · simp only [pairD, PyData.canLay0, PyData.canLayAll0, Bool.and_eq_true]
    refine ⟨trivial, ?_, trivial⟩
    simpa only [PyData.canLay0] using h1
  · simp only [pairD, PyData.depth, PyData.depthAll] at h2 ⊢
    omega
theorem pairs_shaped (h : ∀ p ∈ ps, isRow ks (.tuple p.2) = true) : SeqAt.shaped (.list (ps.map pairD)) = true := by
  unfold SeqAt.shaped
  rw [Bool.and_eq_true]
  refine ⟨?_, decide_eq_true ?_⟩
  · simp only [PyData.canLay0]
    exact canLayAll fun d hd => by
      obtain ⟨r, hr, rfl⟩ := List.mem_map.mp hd
      exact (pair_shape (h r hr)).1
  · simp only [PyData.depth]
    have := depthLe (n := 2) (ds := ps.map pairD) fun d hd => by
      obtain ⟨r, hr, rfl⟩ := List.mem_map.mp hd
      exact (pair_shape (h r hr)).2
    omega
end
end RS
set_option Elab.async false
set_option maxRecDepth 100000
set_option maxHeartbeats 4000000
namespace RS
open PySem PySem.Spec PyProof.Rows L2 GX
mutual
theorem eqv_rf : ∀ d : PyData, few d → PyData.eqv d d = true
  | .none, _ => by simp [PyData.eqv]
  | .bool _, _ => by simp [PyData.eqv]
  | .int _, _ => by simp [PyData.eqv]
  | .str _, _ => by simp [PyData.eqv]
  | .list ds, h => by
    have h : ds.length ≤ 1000000 ∧ fews ds := by simpa only [few] using h
    simp only [PyData.eqv]
    exact eqvs_rf ds h.2
  | .tuple ds, h => by
    have h : ds.length ≤ 1000000 ∧ fews ds := by simpa only [few] using h
    simp only [PyData.eqv]
    exact eqvs_rf ds h.2
  | .dict _, h => by simp [few] at h
theorem eqvs_rf : ∀ ds : List PyData, fews ds → PyData.eqvAll ds ds = true
  | [], _ => by simp [PyData.eqvAll]
  | d :: ds, h => by
    have h : few d ∧ fews ds := by simpa only [fews] using h
    simp only [PyData.eqvAll, Bool.and_eq_true]
    exact ⟨eqv_rf d h.1, eqvs_rf ds h.2⟩
end
def runsD (runs : List (List (Nat × List PyData))) : PyData := .list (runs.map fun r => .list (r.map pairD))
theorem few_runs {ks : List Bool} {runs : List (List (Nat × List PyData))} (hk : ks.length ≤ 4) (h1 : runs.length ≤ 1000) (h2 : ∀ r ∈ runs, r.length ≤ 1000) (h : ∀ r ∈ runs, ∀ q ∈ r, isRow ks (.tuple q.2) = true) : few (runsD runs) :=
  few_list (by rw [List.length_map]; omega) fun d hd => by
    obtain ⟨r, hr, rfl⟩ := List.mem_map.mp hd
    exact few_list (by rw [List.length_map]; have := h2 r hr; omega) fun d hd => by
      obtain ⟨q, hq, rfl⟩ := List.mem_map.mp hd
      exact few_pair hk (h r hr q hq)
theorem depth_runs {ks : List Bool} {runs : List (List (Nat × List PyData))} (h : ∀ r ∈ runs, ∀ q ∈ r, isRow ks (.tuple q.2) = true) : (runsD runs).depth ≤ 4 := by
  simp only [runsD, PyData.depth]
  have := depthLe (n := 3) (ds := runs.map fun r => .list (r.map pairD)) fun d hd => by
    obtain ⟨r, hr, rfl⟩ := List.mem_map.mp hd
    simp only [PyData.depth]
    have := depthLe (n := 2) (ds := r.map pairD) fun d hd => by
      obtain ⟨q, hq, rfl⟩ := List.mem_map.mp hd
      exact (pair_shape (h r hr q hq)).2
    omega
  omega
end RS
set_option Elab.async false
set_option maxRecDepth 100000
set_option maxHeartbeats 8000000
set_option pp.maxSteps 400
namespace RS
open PySem PySem.Spec PyProof.Rows L2 GX LM
abbrev qL5 : Str := (envOfC "law" (defScope sLaw) 0 0 (.ref 0)).qual ++ "<lambda>"
abbrev N5 : List Str := ["_law_script", "_law_box", "_law_turn", "_law_kinds_here", "_law_order_here", "_law_rows_here", "_law_runs", "_law_every", "_law_run", "_law_due", "_law_high", "_law_handed", "_law_again", "_law_found", "_law_looks", "_law_least", "_law_full", "_law_bad_here", "_law_number", "_law_twice", "_law_works", "_law_k"]
theorem passX5 {P : Program} {w : World} {X : Cx} : Passes (L2.CX P w) X E0 := fun _ _ _ _ _ _ _ h => by
  obtain ⟨_, _, _, _, _, _, _, _, _, _, _, _, z⟩ := h
  exact z.elim
theorem op_neD5 {X : Cx} {K : PySem.W.Frag} (hu : X.A.units + 64 < cLine) (e : X.K = K) : OpR X (compareOp .NotEq) (rNeD K) := by
  subst e
  exact op_neD hu
structure Parts5 (P : Program) (w : World) (K : PySem.W.Frag) (mg : Str → Option Value) (base : Heap) (CB SE : Addr) (C15 : Nat → Addr) (pK pW pR pN : Addr) : Prop where
  begun : Cal P w K mg base CX0 1 "_law_begun" ["_law_script"] (spBegun K)
  take : Cal P w K mg base CX0 1 "_law_take" ["_law_box", "_law_many"] spTake
  kinds : Cal P w K mg base CX0 2 "_law_kinds" ["_law_box"] (spKinds K)
  order : Cal P w K mg base CX0 2 "_law_order" ["_law_box", "_law_kinds_here"] (spOrder K)
  rows : Cal P w K mg base CX0 3 "_law_rows" ["_law_box", "_law_kinds_here", "_law_most"] (spRows K)
  sorted : Cal P w K mg base CX0 2 "_law_sorted" ["_law_order_here", "_law_pairs_here"] (spSorted K)
  parts : Cal P w K mg base CX0 3 "_law_parts" ["_law_box", "_law_order_here", "_law_rows_here", "_law_most"] (spParts K)
  bad : Cal P w K mg base CX0 2 "_law_bad" ["_law_box", "_law_order_here", "_law_runs"] (spBad K)
  alike : Cal P w K mg base CX0 42 "_law_alike" ["_law_found", "_law_due"] (spAlike K 40)
  all : Cal P w K mg base CX0 43 "_law_all" ["_law_works", "_law_due"] (spAll P w K mg base SE C15 11)
  merged : Cal P w K mg base (L2.CX P w) 10 "merged" ["kinds", "order", "runs"] (spMerged K CB pK pW pR pN)
def spLaw5 (K : PySem.W.Frag) (pK pW pR pN pL : Addr) : Sp := fun vs H Q _ => ∃ (a : Addr) (ns : List Int), vs = [.ref a] ∧ SqL K H a (ns.map V.int) ∧ Tab H pK ∧ Tab H pW ∧ Tab H pR ∧ Tab H pN ∧ LamX.TabS H pL qL5 ∧ ∀ H', Tab H' pK → Tab H' pW → Tab H' pR → Tab H' pN → Q (.bl true) H'
theorem three5 {x y z w : Int} {R : Int → Prop} (hx : R x) (hy : R y) (hz : R z) (h0 : 0 ≤ w) (h3 : w < 3) : ∃ m, atI [V.int x, .int y, .int z] w = some (.int m) ∧ R m := by
  have : w = 0 ∨ w = 1 ∨ w = 2 := by omega
  rcases this with rfl | rfl | rfl
  · exact ⟨x, rfl, hx⟩
  · exact ⟨y, rfl, hy⟩
  · exact ⟨z, rfl, hz⟩
theorem num_uniq : ∀ {l : PrL}, (l.map (·.1)).Nodup → ∀ {x y : Nat × List PyData}, x ∈ l → y ∈ l → x.1 = y.1 → x = y
  | [], _, x, y, hx, _, _ => nomatch hx
  | q :: l, nd, x, y, hx, hy, e => by
    obtain ⟨n1, n2⟩ := List.nodup_cons.mp nd
    rcases List.mem_cons.mp hx with h1 | h1
    · rcases List.mem_cons.mp hy with h2 | h2
      · rw [h1, h2]
      · exact absurd (List.mem_map.mpr ⟨y, h2, by rw [← e, h1]⟩) n1
    · rcases List.mem_cons.mp hy with h2 | h2
      · exact absurd (List.mem_map.mpr ⟨x, h1, by rw [e, h2]⟩) n1
      · exact num_uniq n2 h1 h2 e
def rr5 (l : PrL) : PyData := .list (l.map pairD)
theorem runD_int (rl : List PrL) : (rl.map intR).map runD = rl.map rr5 := by
  rw [List.map_map]
  refine List.map_congr_left fun l _ => ?_
  show PyData.list ((l.map intT).map toldD) = .list (l.map pairD)
  rw [List.map_map]
  rfl
theorem rr5_shape {ks : List Bool} {l : PrL} (h : ∀ q ∈ l, isRow ks (.tuple q.2) = true) : (rr5 l).canLay0 = true ∧ (rr5 l).depth ≤ 3 := by
  constructor
  · simp only [rr5, PyData.canLay0]
    exact canLayAll fun d hd => by
      obtain ⟨r, hr, rfl⟩ := List.mem_map.mp hd
      exact (pair_shape (h r hr)).1
  · simp only [rr5, PyData.depth]
    have := depthLe (n := 2) (ds := l.map pairD) fun d hd => by
      obtain ⟨r, hr, rfl⟩ := List.mem_map.mp hd
      exact (pair_shape (h r hr)).2
    omega
theorem rr5_shaped {ks : List Bool} {rl : List PrL} (h : ∀ l ∈ rl, ∀ q ∈ l, isRow ks (.tuple q.2) = true) : SeqAt.shaped (.list (rl.map rr5)) = true := by
  unfold SeqAt.shaped
  rw [Bool.and_eq_true]
  refine ⟨?_, decide_eq_true ?_⟩
  · simp only [PyData.canLay0]
    exact canLayAll fun d hd => by
      obtain ⟨l, hl, rfl⟩ := List.mem_map.mp hd
      exact (rr5_shape (h l hl)).1
  · simp only [PyData.depth]
    have := depthLe (n := 3) (ds := rl.map rr5) fun d hd => by
      obtain ⟨l, hl, rfl⟩ := List.mem_map.mp hd
      exact (rr5_shape (h l hl)).2
    omega
theorem rr5_few {ks : List Bool} {rl : List PrL} (k4 : ks.length ≤ 4) (h : ∀ l ∈ rl, ∀ q ∈ l, isRow ks (.tuple q.2) = true) (h1 : rl.length ≤ 1000) (h2 : rl.flatten.length ≤ 1000) : few (.list (rl.map rr5)) :=
  few_list (by rw [List.length_map]; omega) fun d hd => by
    obtain ⟨l, hl, rfl⟩ := List.mem_map.mp hd
    exact few_list (by rw [List.length_map]; have := flat_mem hl; omega) fun d hd => by
      obtain ⟨q, hq, rfl⟩ := List.mem_map.mp hd
      exact few_pair k4 (h l hl q hq)
theorem pow5 : ∀ i < 8, atI [V.int 1, .int 2, .int 4, .int 8, .int 16, .int 32, .int 64, .int 128] (0 + ((i : Nat) : Int)) = some (.int ((2 ^ i : Nat) : Int)) := by
  intro i hi
  match i, hi with
  | 0, _ => rfl
  | 1, _ => rfl
  | 2, _ => rfl
  | 3, _ => rfl
  | 4, _ => rfl
  | 5, _ => rfl
  | 6, _ => rfl
  | 7, _ => rfl
section
variable {P : Program} {w : World} {K : PySem.W.Frag} {mg : Str → Option Value} {base : Heap}
theorem scLaw5 : FnScope N5 ["_law_script"] (defScope sLaw) := ⟨rfl, rfl, rfl, by decide +kernel, rfl, by decide +kernel, by decide +kernel⟩
theorem law5_fn {f c CB SE pK pW pR pN pL : Addr} {C15 : Nat → Addr} {oc kV doc pm ct : Value} {od an : Option Addr} {osl : Array (Option Value)} (lk : K.lookup f = some ⟨oc, od, .func (PySem.W.fnOf "law" "law" (defArgs sLaw) (defBody sLaw) (defScope sLaw) .none kV doc pm an (.ref c) ct), osl⟩) (hcd : PySem.W.codeIn K (.ref c) "law" = true)
    (T : Txt K mg) (TB : LamX.TabB base mg c pL) (eB : ErrB K SE C15 CB) (C : Parts5 P w K mg base CB SE C15 pK pW pR pN) : FnOk P w K mg base CX0 44 f (PySem.W.fnOf "law" "law" (defArgs sLaw) (defBody sLaw) (defScope sLaw) .none kV doc pm an (.ref c) ct) ["_law_script"] (spLaw5 K pK pW pR pN pL) := by
  have sc := scLaw5
  refine fn_of0 lk hcd sc (fun vs H Q E h => ?_) (fun f A outer s H vs Q E hr h => ?_)
  · obtain ⟨a, ns, rfl, _⟩ := h
    rfl
  · obtain ⟨a, ns, rfl, hS, tK, tW, tR, tN, tL, k⟩ := h
    have hu := hr.units
    refine ⟨_, (pss_cons (ps_set (i := 1) sc.nd rfl (Or.inl rfl) (pe_c C.begun hr (by decide) (by rfl) pass0 (pa_cons (pv 0) pa_nil))) (pss_cons (ps_for PassesOwn.never rfl (pi_range1 (by rfl) T.range (pa_cons pe_int pa_nil)) (pg_name (i := 2) sc.nd rfl (Or.inl rfl)) (pss_cons (ps_set (i := 3) sc.nd rfl (Or.inr rfl) (pe_c C.kinds hr (by decide) (by rfl) pass0 (pa_cons (pv 1) pa_nil))) (pss_cons (ps_set (i := 4) sc.nd rfl (Or.inr rfl) (pe_c C.order hr (by decide) (by rfl) pass0 (pa_cons (pv 1) (pa_cons (pv 3) pa_nil)))) (pss_cons (ps_set (i := 5) sc.nd rfl (Or.inl rfl) (pe_c C.rows hr (by decide) (by rfl) pass0 (pa_cons (pv 1) (pa_cons (pv 3) (pa_cons (pe_ix ix_list (pe_lst (pa_cons pe_int (pa_cons pe_int (pa_cons pe_int pa_nil)))) (pe_c C.take hr (by decide) (by rfl) pass0 (pa_cons (pv 1) (pa_cons pe_int pa_nil))) (fun _ _ => rfl)) pa_nil))))) (pss_cons (ps_set (i := 6) sc.nd rfl (Or.inr rfl) (pe_c C.parts hr (by decide) (by rfl) pass0 (pa_cons (pv 1) (pa_cons (pv 4) (pa_cons (pv 5) (pa_cons (pe_ix ix_list (pe_lst (pa_cons pe_int (pa_cons pe_int (pa_cons pe_int pa_nil)))) (pe_c C.take hr (by decide) (by rfl) pass0 (pa_cons (pv 1) (pa_cons pe_int pa_nil))) (fun _ _ => rfl)) pa_nil)))))) (pss_cons (ps_set (i := 7) sc.nd rfl (Or.inl rfl) (pe_lst pa_nil)) (pss_cons (ps_for PassesOwn.never rfl (pi_list (pv 6)) (pg_name (i := 8) sc.nd rfl (Or.inl rfl)) (pss_one (ps_expr (pe_bm PySem.F.plainAttrs_list PySem.F.slot_list_extend PySem.F.type_list_extend mt_extend (pv 7) (pa_cons (pv 8) pa_nil))))) (pss_cons (ps_set (i := 9) sc.nd rfl (Or.inl rfl) (pe_c C.sorted hr (by decide) (by rfl) pass0 (pa_cons (pv 4) (pa_cons (pv 7) pa_nil)))) (pss_cons (ps_set (i := 10) sc.nd rfl (Or.inl rfl) (pe_ix ix_list (pe_lc (own := [("_law_k", 21)]) (tt := _) rfl sc.nd (pi_range1 (by rfl) T.range (pa_cons pe_int pa_nil)) (blkOk_by (N := N5) (sc := defScope sLaw) (own := [("_law_k", 21)]) (by decide +kernel)) (fun _ _ _ _ _ => (pg_name (i := 21) sc.nd rfl (Or.inl rfl))) (fun _ _ _ _ _ => pts_one (pt_cmpR op_ge (pe_ix (ix_listC (K := K) rfl) (pe_lst (pa_cons pe_int (pa_cons pe_int (pa_cons pe_int (pa_cons pe_int (pa_cons pe_int (pa_cons pe_int (pa_cons pe_int (pa_cons pe_int pa_nil))))))))) (pv 21) (fun _ _ => rfl)) (pe_callB (len_seqC (K := K) rfl) (by rfl) T.len PySem.boot_len (pa_cons (pv 6) pa_nil)) (nomark _))) (fun _ _ _ _ _ => pv 21)) pe_int (fun _ _ => rfl))) (pss_cons (ps_setLc (own := [("_law_run", 8)]) (tt := tYes) rfl sc.nd (i := 11) rfl rfl (by rfl) (pi_list (pv 6)) (blkOk_by (N := N5) (sc := defScope sLaw) (own := [("_law_run", 8)]) (by decide +kernel)) (fun _ _ _ _ _ => (pg_name (i := 8) sc.nd rfl (Or.inl rfl))) (fun _ _ _ _ _ => pts_nil) (fun _ _ _ _ _ => (pe_callTy (list_ofC (K := K) rfl) (by rfl) T.list_ (by decide +kernel) (pa_cons (pv 8) pa_nil)))) (pss_cons (ps_for PassesOwn.never rfl (pi_range1 (by rfl) T.range (pa_cons pe_int pa_nil)) (pg_name (i := 12) sc.nd rfl (Or.inl rfl)) (pss_cons (ps_asg (pe_c C.merged hr (by decide) (by rfl) passX5 (pa_cons (pv 3) (pa_cons (pv 4) (pa_cons (pv 11) pa_nil)))) (pg_tup (by rfl) (pgs_cons (pg_name (i := 13) sc.nd rfl (Or.inl rfl)) (pgs_cons (pg_name (i := 14) sc.nd rfl (Or.inl rfl)) pgs_nil)))) (pss_cons (ps_if ((pw_or (pt_not (pt_val (pe_c C.alike hr (by decide) (by rfl) pass0 (pa_cons (pv 13) (pa_cons (pv 9) pa_nil))))) (pw_or1 (pt_cmpR (op_neD hu) (pv 11) (pv 6) (nomark _)))).pt) (pss_one (ps_ret pe_bl)) pss_nil) (pss_cons (ps_set (i := 15) sc.nd rfl (Or.inl rfl) (pe_op op_sub (pe_callB call_len_seq (by rfl) T.len PySem.boot_len (pa_cons (pe_lc (own := [("_law_run", 8)]) (tt := _) rfl sc.nd (pi_list (pv 6)) (blkOk_by (N := N5) (sc := defScope sLaw) (own := [("_law_run", 8)]) (by decide +kernel)) (fun _ _ _ _ _ => (pg_name (i := 8) sc.nd rfl (Or.inl rfl))) (fun _ _ _ _ _ => pts_one (pt_cmpR (op_neD5 (by exact hu) rfl) (pv 8) (pe_lst pa_nil) (nomark _))) (fun _ _ _ _ _ => pv 8)) pa_nil)) pe_int)) (pss_cons (ps_if ((pw_or (pt_not (pt_val (pe_c C.alike hr (by decide) (by rfl) pass0 (pa_cons (pv 14) (pa_cons (pe_callTy call_int1 (by rfl) T.int_ (by decide +kernel) (pa_cons (pv 14) pa_nil)) pa_nil))))) (pw_or1 (pt_not (pt_chain op_le op_le (pv 15) (pv 14) (pe_op op_add (pe_op op_sub (pe_callB call_len_seq (by rfl) T.len PySem.boot_len (pa_cons (pv 6) pa_nil)) pe_int) (pe_op op_mul (pv 10) (pe_callB call_len_seq (by rfl) T.len PySem.boot_len (pa_cons (pv 9) pa_nil)))))))).pt) (pss_one (ps_ret pe_bl)) pss_nil) (pss_one (ps_expr (pe_bm PySem.F.plainAttrs_list PySem.F.slot_list_append PySem.F.type_list_append mt_append (pv 13) (pa_cons (pe_tup pa_nil) pa_nil))))))))) (pss_cons (ps_setLc (own := [("_law_run", 8)]) (tt := _) rfl sc.nd (i := 16) rfl rfl (by rfl) (pi_list (pv 6)) (blkOk_by (N := N5) (sc := defScope sLaw) (own := [("_law_run", 8)]) (by decide +kernel)) (fun _ _ _ _ _ => (pg_name (i := 8) sc.nd rfl (Or.inl rfl))) (fun _ _ _ _ _ => pts_one (pt_cmpR (op_neD5 (by exact hu) rfl) (pv 8) (pe_lst pa_nil) (nomark _))) (fun _ _ _ _ _ => pv 8)) (pss_cons (ps_if (pt_cmpR (op_neD hu) (pv 16) (pe_lst pa_nil) (nomark _)) (pss_cons (ps_asg (pe_c C.bad hr (by decide) (by rfl) pass0 (pa_cons (pv 1) (pa_cons (pv 4) (pa_cons (pe_slice sl_list (pv 16) po_none (po_some pe_int)) pa_nil)))) (pg_tup (by rfl) (pgs_cons (pg_name (i := 17) sc.nd rfl (Or.inr rfl)) (pgs_cons (pg_name (i := 18) sc.nd rfl (Or.inl rfl)) pgs_nil)))) (pss_cons (ps_if (pt_not (pt_val (pe_cP C.all hr (by decide) (fun _ => rfl) (by rfl) (pa_cons (pe_lst (pa_cons (pe_lam TB rfl (LamX.lamS_by (sc := defScope sLaw) (by decide +kernel)) (by rfl)) pa_nil)) (pa_cons (pe_tup (pa_cons pe_str (pa_cons (pv 18) pa_nil))) pa_nil))))) (pss_one (ps_ret pe_bl)) pss_nil) (pss_cons (ps_set (i := 19) sc.nd rfl (Or.inr rfl) (pe_op op_cat (pv 16) (pe_lst (pa_cons (pe_slice sl_list (pe_ix ix_list (pv 16) (pe_c C.take hr (by decide) (by rfl) pass0 (pa_cons (pv 1) (pa_cons (pe_callB call_len_seq (by rfl) T.len PySem.boot_len (pa_cons (pv 16) pa_nil)) pa_nil))) (fun _ _ => rfl)) po_none (po_some pe_int)) pa_nil)))) (pss_cons (ps_set (i := 20) sc.nd rfl (Or.inl rfl) (pe_lst (pa_cons (pe_lam TB rfl (LamX.lamS_by (sc := defScope sLaw) (by decide +kernel)) (by rfl)) pa_nil))) (pss_one (ps_if ((pw_and (pt_cmpR op_lt (pe_callB call_len_seq (by rfl) T.len PySem.boot_len (pa_cons (pv 19) pa_nil)) pe_int (nomark _)) (pw_and1 (pt_not (pt_val (pe_cP C.all hr (by decide) (fun _ => rfl) (by rfl) (pa_cons (pv 20) (pa_cons (pe_tup (pa_cons pe_str (pa_cons (pe_callB call_len_seq (by rfl) T.len PySem.boot_len (pa_cons (pv 16) pa_nil)) pa_nil))) pa_nil))))))).pt) (pss_one (ps_ret pe_bl)) pss_nil)))))) pss_nil) (pss_one (ps_if (pt_not (pt_val (pe_cP C.all hr (by decide) (fun _ => rfl) (by rfl) (pa_cons (pe_lst (pa_cons (pe_lam TB rfl (LamX.lamS_by (sc := defScope sLaw) (by decide +kernel)) (by rfl)) pa_nil)) (pa_cons (pe_tup (pa_cons pe_str (pa_cons pe_int pa_nil))) pa_nil))))) (pss_one (ps_ret pe_bl)) pss_nil))))))))))))))) (pss_one (ps_ret (pe_cmpR (op_eqD hu) (pe_c C.merged hr (by decide) (by rfl) passX5 (pa_cons (pe_tup (pa_cons pe_str pa_nil)) (pa_cons (pe_lst (pa_cons (pe_tup (pa_cons pe_int (pa_cons pe_str pa_nil))) pa_nil)) (pa_cons (pe_lst pa_nil) pa_nil)))) (pe_tup (pa_cons (pe_lst pa_nil) (pa_cons pe_int pa_nil))) (nomark _)))))), ?_⟩
    refine ⟨_, rfl, a, ns, rfl, hS, fun H0 B L s0 _ _ bx0 => ?_⟩
    refine ⟨_, rfl, by decide, by decide, ?_⟩
    rw [show (3 : Int).toNat = 3 from rfl]
    refine for_range (fun j σ H' => ∃ (v2 v3 v4 v5 v6 v7 v8 v9 v10 v11 v12 v13 v14 v15 v16 v17 v18 v19 v20 : Option V), σ = [some (.ref a), some (.ref B), v2, v3, v4, v5, v6, v7, v8, v9, v10, v11, v12, v13, v14, v15, v16, v17, v18, v19, v20, none] ∧ BoxAt H' B L ∧ (Tab H' pK ∧ Tab H' pW ∧ Tab H' pR ∧ Tab H' pN) ∧ LamX.TabS H' pL qL5)
      ⟨none, none, none, none, none, none, none, none, none, none, none, none, none, none, none, none, none, none, none, rfl, bx0, ⟨s0 _ _ tK, s0 _ _ tW, s0 _ _ tR, s0 _ _ tN⟩, tL.ext s0⟩ ?_ ?_
    · rintro jt σ H1 hj ⟨v2, v3, v4, v5, v6, v7, v8, v9, v10, v11, v12, v13, v14, v15, v16, v17, v18, v19, v20, rfl, b1, ⟨tK1, tW1, tR1, tN1⟩, tL1⟩
      refine ⟨_, rfl, B, L, rfl, b1, fun H2 vk ks s2 b2 k1 k4 hk => ?_⟩
      refine ⟨_, rfl, _, rfl, B, L, vk, ks, rfl, b2, hk, k1, k4, fun H3 O0 os xo s3 b3 oko l4 fO hO hdO => ?_⟩
      have nkL := kinds_noL ks
      refine ⟨_, rfl, _, rfl, by show 3 ≤ sizeLine; decide, fun La nLa => ?_⟩
      obtain ⟨x4, b4, nLaB, nLaL⟩ := al (o := .lst [.int 60, .int 60, .int 120]) SameX.refl b3 b3 nLa
      have hLa : upd H3 La (.lst [.int 60, .int 60, .int 120]) La = some (.lst [.int 60, .int 60, .int 120]) := upd_same
      have s4 := sameNew (o := .lst [.int 60, .int 60, .int 120]) (Same.refl H3) nLa
      generalize upd H3 La (.lst [.int 60, .int 60, .int 120]) = H4 at x4 b4 hLa s4 ⊢
      refine ⟨_, rfl, B, L, 3, rfl, b4, by decide, by decide, fun H5 w1 s5 b5 w10 w13 => ?_⟩
      obtain ⟨m1, em1, hm1⟩ := three5 (R := fun m => 0 ≤ m ∧ m ≤ 120) (x := 60) (y := 60) (z := 120) ⟨by decide, by decide⟩ ⟨by decide, by decide⟩ ⟨by decide, by decide⟩ w10 w13
      have x35 := x4.trans s5
      have hk5 := dp_x b2 (s3.trans x35) _ nkL hk
      refine ⟨La, _, _, _, rfl, rfl, SqL.of (s5 _ _ nLaB nLaL hLa), em1, B, L, vk, ks, m1, rfl, b5, hk5, k1, k4, hm1.1, hm1.2, fun H6 vr rs xr s6 b6 r120 okr nR hR hdR => ?_⟩
      have x36 := x35.trans s6
      have hOB : O0 ≠ B := fun z => by
        obtain ⟨_, ⟨st, hB⟩, _⟩ := b2
        rw [z, hB] at fO; cases fO
      have hOL : O0 ≠ L := fun z => by
        obtain ⟨_, _, ⟨ms, hL⟩⟩ := b2
        rw [z, hL] at fO; cases fO
      have noO : noLs (os.map partD) = true := noLs_iff.mpr fun d hd => by
        obtain ⟨p, _, rfl⟩ := List.mem_map.mp hd
        rfl
      have hoX : ∀ {H' : Hp}, SameX B L H3 H' → Dp K H' (.ref O0) (orderD os) := fun {H'} s => .lst (SqL.of (s _ _ hOB hOL hO)) (dpAll_x b3 s _ noO hdO)
      have nRB := b5.nb nR
      have noRw : noLs (rs.map PyData.tuple) = true := noLs_iff.mpr fun d hd => by
        obtain ⟨p, hp, rfl⟩ := List.mem_map.mp hd
        have := pair_noL (a := (0, p)) (okr p hp)
        exact noLs_iff.mp (show noLs [.int ((0 : Nat) : Int), .tuple p] = true from this) _ (by simp)
      have hrX : ∀ {H' : Hp}, SameX B L H6 H' → Dp K H' (.ref vr) (rowsD rs) := fun {H'} s => .lst (SqL.of (s _ _ nRB.1 nRB.2 hR)) (dpAll_x b6 s _ noRw hdR)
      refine ⟨_, rfl, _, rfl, _, rfl, by show 3 ≤ sizeLine; decide, fun Lb nLb => ?_⟩
      obtain ⟨x7, b7, nLbB, nLbL⟩ := al (o := .lst [.int 2, .int 8, .int 40]) SameX.refl b6 b6 nLb
      have hLb : upd H6 Lb (.lst [.int 2, .int 8, .int 40]) Lb = some (.lst [.int 2, .int 8, .int 40]) := upd_same
      generalize upd H6 Lb (.lst [.int 2, .int 8, .int 40]) = H7 at x7 b7 hLb ⊢
      refine ⟨_, rfl, B, L, 3, rfl, b7, by decide, by decide, fun H8 w2 s8 b8 w20 w23 => ?_⟩
      obtain ⟨m2, em2, hm2⟩ := three5 (R := fun m => 1 ≤ m ∧ m ≤ 40) (x := 2) (y := 8) (z := 40) ⟨by decide, by decide⟩ ⟨by decide, by decide⟩ ⟨by decide, by decide⟩ w20 w23
      have x68 := x7.trans s8
      have x38 := x36.trans x68
      refine ⟨Lb, _, _, _, rfl, rfl, SqL.of (s8 _ _ nLbB nLbL hLb), em2, B, L, .ref O0, .ref vr, ks, os, rs, m2, rfl, b8, hoX x38, fun H' s => hoX (x38.trans s), hrX x68, fun H' s => hrX (x68.trans s), oko, okr, r120, hm2.1, hm2.2, fun H9 Rp as rl st s9 b9 nRp nRpa hRp R9 srt9 rl1 rl40 st1 stm po => ?_⟩
      have x39 := x38.trans s9
      obtain ⟨nd9, tot9⟩ := parts_nodup po st1
      have good := good_rs (ks := ks) srt9 nd9 R9.ok rl40
      have las := R9.len
      have noP : ∀ l : PrL, (∀ q ∈ l, isRow ks (.tuple q.2) = true) → noLs (l.map pairD) = true := fun l h => pairs_noL h
      have okAll : ∀ q ∈ rl.flatten, isRow ks (.tuple q.2) = true := fun q hq => by
        obtain ⟨l, hl, hql⟩ := List.mem_flatten.mp hq
        exact R9.ok l hl q hql
      have big : (1000000 : Nat) ≤ sizeLine := by decide
      refine ⟨Nat.zero_le _, fun Ev nEv => ?_⟩
      have s10 := sameNew (o := .lst []) (Same.refl H9) nEv
      refine ⟨_, rfl, Rp, rfl, ⟨_, SqL.of (s10 _ _ hRp)⟩, for_list (K := K) (a := Rp) (xs := as.map V.ref) (fun i σ H' => ∃ (u8 : Option V) (ys : List V), σ = [some (.ref a), some (.ref B), some (.int (0 + (jt : Nat))), some vk, some (.ref O0), some (.ref vr), some (.ref Rp), some (.ref Ev), u8, v9, v10, v11, v12, v13, v14, v15, v16, v17, v18, v19, v20, none] ∧ Same H9 H' ∧ H' Ev = some (.lst ys) ∧ DpAll K H' ys ((rl.take i).flatten.map pairD))
        ⟨_, [], rfl, s10, upd_same, .nil⟩ (fun i σ H' _ h => by obtain ⟨_, _, _, h, _⟩ := h; exact SqL.of (h _ _ hRp)) ?_ ?_⟩
      · rintro i y σ H10 hy ⟨u8, ys, rfl, sm, hE, dE⟩
        obtain ⟨ar, ea, rfl⟩ : ∃ ar, as[i]? = some ar ∧ y = V.ref ar := by
          rw [List.getElem?_map] at hy
          cases q : as[i]? with
          | none => rw [q] at hy; cases hy
          | some b => rw [q] at hy; exact ⟨b, rfl, (Option.some.inj hy).symm⟩
        obtain ⟨r, er⟩ : ∃ r, rl[i]? = some r := ⟨_, List.getElem?_eq_getElem (by have := (List.getElem?_eq_some_iff.mp ea).1; omega)⟩
        obtain ⟨z, hz, dz⟩ := (R9.same sm).at_ i ar r ea er
        have rm := List.mem_of_getElem? er
        have lz : z.length = r.length := by rw [dpLen dz, List.length_map]
        have lr := flat_mem rm
        have ly : ys.length ≤ rs.length := by
          have h1 := dpLen dE
          rw [List.length_map] at h1
          have h2 : (rl.take i).flatten.length ≤ rl.flatten.length := by
            conv => rhs; rw [← List.take_append_drop i rl, List.flatten_append, List.length_append]
            exact Nat.le_add_right _ _
          omega
        refine ⟨_, rfl, .inl ⟨rfl, _, SqL.of hE⟩, _, rfl, Ev, ar, ys, z, rfl, rfl, hE, hz, by omega, ?_⟩
        refine ⟨_, ys ++ z, rfl, fun b o e => (upd_ne (ne_of_none e nEv)).trans (sm b o e), upd_same, ?_⟩
        have okt : ∀ q ∈ (rl.take (i + 1)).flatten, isRow ks (.tuple q.2) = true := fun q hq => by
          obtain ⟨l, hl, hql⟩ := List.mem_flatten.mp hq
          exact R9.ok l (List.mem_of_mem_take hl) q hql
        have et : (rl.take (i + 1)).flatten = (rl.take i).flatten ++ r := by
          rw [take_snoc er, List.flatten_append]
          simp
        have h3 := noP _ okt
        rw [et] at h3 ⊢
        rw [List.map_append] at h3 ⊢
        exact dpAll_upd hE _ h3 (dpApp dE dz)
      · rintro σ H10 ⟨u8, ys, rfl, sm, hE, dE⟩
        rw [List.length_map, las, List.take_length] at dE
        have x310 := x39.trans (SameX.of sm)
        have b10 := b9.same sm
        refine ⟨_, rfl, _, rfl, .ref O0, Ev, ys, ks, os, rl.flatten, rfl, hoX x310, SqL.of hE, dE, oko, okAll, by omega, fun H11 Du yd qs s11 nDu hDu hdDu pmD stD => ?_⟩
        have sm11 := sm.trans s11
        have hRp11 := sm11 _ _ hRp
        refine ⟨_, rfl, by decide, by decide, fun D1 nD1 => ?_⟩
        rw [show (8 : Int).toNat = 8 from rfl]
        refine lc_range (fun i H' => Same H11 H' ∧ ∃ acc : List V, H' D1 = some (.lst acc) ∧ acc.length ≤ i ∧ (∀ v ∈ acc, ∃ kq : Nat, v = .int (kq : Nat) ∧ rl.length ≤ 2 ^ kq ∧ kq < 8) ∧ (7 ≤ i → acc ≠ []))
          ⟨sameNew (Same.refl H11) nD1, [], upd_same, Nat.le_refl _, (fun v h => nomatch h), fun h => by omega⟩ ?_ ?_
        · rintro i H12 hi ⟨s12, acc, hacc, lacc, oacc, nacc⟩
          refine ⟨rfl, by show 8 ≤ sizeLine; decide, fun e ne => ?_⟩
          have s13 := sameNew (o := .lst [.int 1, .int 2, .int 4, .int 8, .int 16, .int 32, .int 64, .int 128]) (Same.refl H12) ne
          have he : upd H12 e (.lst [.int 1, .int 2, .int 4, .int 8, .int 16, .int 32, .int 64, .int 128]) e = some (.lst [.int 1, .int 2, .int 4, .int 8, .int 16, .int 32, .int 64, .int 128]) := upd_same
          generalize upd H12 e (.lst [.int 1, .int 2, .int 4, .int 8, .int 16, .int 32, .int 64, .int 128]) = H13 at s13 he ⊢
          have z13 := s12.trans s13
          refine ⟨_, rfl, e, _, _, _, rfl, rfl, SqL.of he, pow5 i hi, _, rfl, Rp, _, rfl, .inl (SqL.of (z13 _ _ hRp11)), _, _, rfl, rfl, _, rfl, ?_⟩
          rw [List.length_map, las]
          by_cases c : rl.length ≤ 2 ^ i
          · refine iteT' (decide_eq_true (by omega)) ?_
            refine ⟨_, rfl, acc, s13 _ _ hacc, small1000 (by omega), fun b o q => (upd_ne (ne_of_none q nD1)).trans (z13 b o q), _, upd_same, by rw [List.length_append, List.length_singleton]; omega, fun v hv => ?_, fun _ => by simp⟩
            rcases List.mem_append.mp hv with hv | hv
            · exact oacc v hv
            · rw [List.mem_singleton.mp hv]
              exact ⟨i, by rw [Int.zero_add], c, hi⟩
          · refine iteF' (decide_eq_false (by omega)) ?_
            refine ⟨z13, acc, s13 _ _ hacc, by omega, oacc, fun h7 => nacc ?_⟩
            rcases Nat.lt_or_ge i 7 with l | l
            · have : i = 6 := by omega
              rw [this] at c
              exact absurd (by omega) c
            · exact l
        · rintro H12 ⟨s12, acc, hacc, lacc, oacc, nacc⟩
          obtain ⟨v0, acc', eacc⟩ : ∃ v0 acc', acc = v0 :: acc' := by
            cases acc with
            | nil => exact absurd rfl (nacc (by decide))
            | cons v0 acc' => exact ⟨v0, acc', rfl⟩
          obtain ⟨hq, ehq, hq2, hq8⟩ := oacc v0 (by rw [eacc]; simp)
          subst ehq
          refine ⟨D1, _, _, _, rfl, rfl, SqL.of hacc, by rw [eacc]; exact atI_nat (j := 0) rfl, ?_⟩
          have sm12 := sm11.trans s12
          have R12 := R9.same sm12
          have x312 := x39.trans (SameX.of sm12)
          have b12 := b9.same sm12
          have hRp12 := sm12 _ _ hRp
          refine ⟨_, rfl, Rp, rfl, ⟨_, SqL.of hRp12⟩, fun Hd nHd => ?_⟩
          refine lc_list (K := K) (a := Rp) (xs := as.map V.ref) (fun j H' => ∃ as2 : List Addr, Same H12 H' ∧ H' Hd = some (.lst (as2.map V.ref)) ∧ Runs K ks H12 H' as2 (rl.take j) ∧ Hd ∉ as2)
            ⟨[], sameNew (Same.refl H12) nHd, upd_same, by rw [List.take_zero]; exact Runs.nil, fun h => nomatch h⟩ (fun j H' _ h => by obtain ⟨_, h, _⟩ := h; exact SqL.of (h _ _ hRp12)) ?_ ?_
          · rintro j y H13 hy ⟨as2, s13, hD13, R13, nD13⟩
            obtain ⟨ar, ea, rfl⟩ : ∃ ar, as[j]? = some ar ∧ y = V.ref ar := by
              rw [List.getElem?_map] at hy
              cases q : as[j]? with
              | none => rw [q] at hy; cases hy
              | some b => rw [q] at hy; exact ⟨b, rfl, (Option.some.inj hy).symm⟩
            obtain ⟨r, er⟩ : ∃ r, rl[j]? = some r := ⟨_, List.getElem?_eq_getElem (by have := (List.getElem?_eq_some_iff.mp ea).1; omega)⟩
            obtain ⟨z, hz, dz⟩ := (R12.same s13).at_ j ar r ea er
            refine ⟨rfl, _, rfl, ar, z, rfl, .inl (SqL.of hz), fun l nl => ?_⟩
            have s14 := sameNew (o := .lst z) (Same.refl H13) nl
            have hl14 : upd H13 l (.lst z) l = some (.lst z) := upd_same
            have nla : l ∉ as2 := fun zz => by obtain ⟨x, hx⟩ := R13.tracked zz; rw [nl] at hx; cases hx
            have nlD : Hd ≠ l := fun zz => by rw [← zz, hD13] at nl; cases nl
            have hl0 := s13.free nl
            generalize upd H13 l (.lst z) = H14 at s14 hl14 ⊢
            have R14 := (R13.same s14).snoc hl14 (dpAll_same s14 _ dz) hl0 nla (R9.ok r (List.mem_of_getElem? er))
            have nD2 : Hd ∉ as2 ++ [l] := fun zz => by
              rcases List.mem_append.mp zz with zz | zz
              · exact nD13 zz
              · exact nlD (List.mem_singleton.mp zz)
            have las2 : as2.length = j := by rw [R13.len, List.length_take]; have := (List.getElem?_eq_some_iff.mp er).1; omega
            refine ⟨_, s14 _ _ hD13, small1000 (by rw [List.length_map, las2]; have := (List.getElem?_eq_some_iff.mp er).1; omega), as2 ++ [l], fun b o q => (upd_ne (ne_of_none q nHd)).trans (s14 _ _ (s13 b o q)), by rw [upd_same, List.map_append]; rfl, ?_, nD2⟩
            rw [take_snoc er]
            exact R14.upd_ (s14 _ _ hD13) nD2
          · rintro H13 ⟨as2, s13, hHd, R13, nHda⟩
            rw [List.length_map, las, List.take_length] at R13
            have sm13 := sm12.trans s13
            have x313 := x39.trans (SameX.of sm13)
            have b13 := b9.same sm13
            have fitI : ∀ l ∈ rl.map intR, ∀ t ∈ l, fitT t := fun l hl t ht => by
              obtain ⟨l', hl', rfl⟩ := List.mem_map.mp hl
              obtain ⟨q, hq, rfl⟩ := List.mem_map.mp ht
              have hok := R9.ok l' hl' q hq
              have hlen : q.2.length = ks.length := of_decide_eq_true (Bool.and_eq_true_iff.mp hok).1
              exact ⟨by show q.2.length ≤ 1000; omega, fun e he => (row_fit k4 hok).2 e he⟩
            have totI : ((rl.map intR).flatMap numsT).length ≤ 100000 := by
              rw [flat_int, nums_int, List.length_map]
              omega
            have hk13 := dp_x b3 x313 _ nkL (dp_x b2 s3 _ nkL hk)
            have ho13 := hoX x313
            have tabs : ∀ {P0 : Addr}, Tab H1 P0 → Tab H13 P0 := fun {P0} h => by
              obtain ⟨_, ⟨stB, hB1⟩, ⟨msL, hL1⟩⟩ := b1
              exact ((s2.trans s3).trans x313) _ _ (fun z => by unfold Tab at h; rw [z, hB1] at h; cases h) (fun z => by unfold Tab at h; rw [z, hL1] at h; cases h) h
            refine ⟨_, rfl, by decide, by decide, ?_⟩
            rw [show (2 : Int).toNat = 2 from rfl]
            refine for_range (fun j σ H' => ∃ (w12 w13 w14 w15 : Option V), σ = [some (.ref a), some (.ref B), some (.int (0 + (jt : Nat))), some vk, some (.ref O0), some (.ref vr), some (.ref Rp), some (.ref Ev), u8, some (.ref Du), some (.int (hq : Nat)), some (.ref Hd), w12, w13, w14, w15, v16, v17, v18, v19, v20, none] ∧ Same H13 H')
              ⟨_, _, _, _, rfl, Same.refl H13⟩ ?_ ?_
            · rintro j σ H14 hj2 ⟨w12, w13', w14, w15, rfl, s14⟩
              refine ⟨_, rfl, _, rfl, _, rfl, vk, .ref O0, Hd, as2.map V.ref, ks, os, rl.map intR, rfl, dp_same s14 _ hk13, dp_same s14 _ ho13, SqL.of (s14 _ _ hHd), runs_dp (R13.same s14), k1, k4, by omega, oko, fitI, totI, s14 _ _ (tabs tK1), s14 _ _ (tabs tW1), s14 _ _ (tabs tR1), s14 _ _ (tabs tN1), .inl ⟨good, fun H15 t p ys ls n s15 ht np hp hd pm st5 ne hi => ?_⟩⟩
              have enat : natRs (rl.map intR) = rl := nat_int_rs rl
              rw [enat] at pm ne hi
              refine ⟨t, _, rfl, SqT.of ht, rfl, _, _, rfl, _, _, rfl, rfl, ?_⟩
              have elq : ls = qs := srtd_uniq (pm.trans pmD.symm) st5 stD fun x y hx hy h1 h2 => num_uniq nd9 (pm.mem_iff.mp hx) (pm.mem_iff.mp hy) (rank_num (rank_ne h1 h2))
              subst elq
              have sD := ((s12.trans s13).trans s14).trans s15
              have okl : ∀ q ∈ ls, isRow ks (.tuple q.2) = true := fun q hq => okAll q (pm.mem_iff.mp hq)
              have ll : ls.length = rs.length := by rw [pm.length_eq, tot9]
              have fewL : few (.list (ls.map pairD)) := few_list (by rw [List.length_map]; omega) fun d hd => by
                obtain ⟨q, hq, rfl⟩ := List.mem_map.mp hd
                exact few_pair k4 (okl q hq)
              have depL : (PyData.list (ls.map pairD)).depth ≤ 40 := by
                have := depthLe (n := 2) (ds := ls.map pairD) fun d hd => by
                  obtain ⟨q, hq, rfl⟩ := List.mem_map.mp hd
                  exact (pair_shape (okl q hq)).2
                simp only [PyData.depth]
                omega
              refine ⟨_, rfl, _, rfl, .ref p, .ref Du, .list (ls.map pairD), rfl, .lst (SqL.of hp) hd, .lst (SqL.of (sD _ _ hDu)) (dpAll_same sD _ hdDu), fewL, depL, ⟨_, rfl, iteF ?_⟩⟩
              have hs5 := rr5_shaped (rl := rl) R9.ok
              refine ⟨_, rfl, _, rfl, .list (rl.map rr5), .list (rl.map rr5), .lst (SqL.of ((s14.trans s15) _ _ hHd)) (by rw [← runD_int]; exact runs_dp (R13.same (s14.trans s15))), .lst (SqL.of (sD _ _ (sm11 _ _ hRp))) (by rw [← runD_int]; exact runs_dp ((R9.same sm11).same sD)), hs5, hs5, _, rfl, ?_⟩
              rw [eqv_rf _ (rr5_few k4 R9.ok (by omega) (by omega))]
              refine iteF ?_
              have sm15 := (sm11.trans sD)
              have hRp15 := sm15 _ _ hRp
              refine ⟨_, rfl, Rp, rfl, ⟨_, SqL.of hRp15⟩, fun D3 nD3 => ?_⟩
              refine lc_list (K := K) (a := Rp) (xs := as.map V.ref) (fun i H' => Same H15 H' ∧ ∃ acc : List V, H' D3 = some (.lst acc) ∧ acc.length = neN (rl.take i))
                ⟨sameNew (Same.refl H15) nD3, [], upd_same, by simp [neN]⟩ (fun i H' _ h => SqL.of (h.1 _ _ hRp15)) ?_ ?_
              · rintro i y H16 hy ⟨s16, acc, hacc, lacc⟩
                obtain ⟨ar, ea, rfl⟩ : ∃ ar, as[i]? = some ar ∧ y = V.ref ar := by
                  rw [List.getElem?_map] at hy
                  cases q : as[i]? with
                  | none => rw [q] at hy; cases hy
                  | some b => rw [q] at hy; exact ⟨b, rfl, (Option.some.inj hy).symm⟩
                obtain ⟨r, er⟩ : ∃ r, rl[i]? = some r := ⟨_, List.getElem?_eq_getElem (by have := (List.getElem?_eq_some_iff.mp ea).1; omega)⟩
                obtain ⟨z, hz, dz⟩ := ((R9.same sm15).same s16).at_ i ar r ea er
                have okr' := R9.ok r (List.mem_of_getElem? er)
                refine ⟨rfl, _, rfl, Nat.zero_le _, fun e ne => ?_⟩
                have s17 := sameNew (o := .lst []) (Same.refl H16) ne
                have he : upd H16 e (.lst []) e = some (.lst []) := upd_same
                generalize upd H16 e (.lst []) = H17 at s17 he ⊢
                refine ⟨.list (r.map pairD), .list [], .lst (SqL.of (s17 _ _ hz)) (dpAll_same s17 _ dz), .lst (SqL.of he) .nil, pairs_shaped okr', by decide +kernel, _, rfl, ?_⟩
                rw [eqv_nil]
                have hle : rl.length ≤ 40 := rl40
                have hil : i < rl.length := (List.getElem?_eq_some_iff.mp er).1
                have nle : neN (rl.take i) ≤ (rl.take i).length := List.countP_le_length
                rw [List.length_take] at nle
                cases hr0 : r with
                | nil =>
                  refine iteF ?_
                  refine ⟨s16.trans s17, acc, s17 _ _ hacc, ?_⟩
                  rw [take_snoc er, neN_app, neN_one, hr0, if_pos rfl]
                  omega
                | cons q0 r' =>
                  refine iteT ?_
                  refine ⟨_, rfl, acc, s17 _ _ hacc, small1000 (by omega), fun b o q => (upd_ne (ne_of_none q nD3)).trans ((s16.trans s17) b o q), _, upd_same, ?_⟩
                  rw [take_snoc er, neN_app, neN_one, hr0, if_neg (by simp), List.length_append, lacc]
                  rfl
              · rintro H16 ⟨s16, acc, hacc, lacc⟩
                rw [List.length_map, las, List.take_length] at lacc
                refine ⟨D3, acc, rfl, .inl (SqL.of hacc), ?_⟩
                refine ⟨_, _, rfl, rfl, ?_⟩
                refine ⟨_, rfl, _, rfl, .inl ⟨_, rfl, .int (n : Nat), .int (n : Nat), .int (n : Nat), rfl, .int _, .int _, by simp [few], by simp [PyData.depth], ⟨_, rfl, iteF ?_⟩⟩⟩
                refine ⟨_, rfl, _, rfl, _, _, rfl, rfl, _, rfl, ?_⟩
                refine iteT' (decide_eq_true (by omega)) ?_
                have lyd : yd.length = rs.length := by rw [dpLen hdDu, List.length_map, ll]
                refine ⟨_, rfl, Rp, _, rfl, .inl (SqL.of (s16 _ _ hRp15)), _, _, rfl, rfl, _, rfl, _, rfl, Du, yd, rfl, .inl (SqL.of ((sD.trans s16) _ _ hDu)), _, _, rfl, rfl, .inl ⟨by omega, by omega⟩, _, _, rfl, rfl, _, _, rfl, rfl, _, rfl, ?_⟩
                rw [List.length_map, las]
                have hn := hi hq (by rw [List.length_map]; exact hq2)
                rw [tot9] at hn
                have hn' : (n : Int) ≤ (hq : Int) * (yd.length : Int) := by
                  rw [lyd, ← Int.natCast_mul]
                  exact Int.ofNat_le.mpr hn
                refine iteF' ?_ ?_
                · have : decide ((n : Int) ≤ ((rl.length : Nat) : Int) - 1 + (hq : Int) * (yd.length : Int)) = true := decide_eq_true (by omega)
                  simp [this]
                · refine ⟨_, rfl, .inl ⟨rfl, _, SqL.of (s16 _ _ hp)⟩, Nat.zero_le _, fun te nte => ?_⟩
                  have s18 := sameNew (o := .tup []) (Same.refl H16) nte
                  have lysp : ys.length = rs.length := by rw [dpLen hd, List.length_map, ll]
                  refine ⟨p, _, _, rfl, rfl, s18 _ _ (s16 _ _ hp), small1000 (by omega), ?_⟩
                  refine ⟨_, _, _, _, rfl, fun b o q => ?_⟩
                  have h14 := s14 _ _ q
                  exact (upd_ne (ne_of_none h14 np)).trans (s18 _ _ (s16 _ _ (s15 _ _ h14)))
            · rintro σ H14 ⟨w12, w13', w14, w15, rfl, s14⟩
              have s9_14 := sm13.trans s14
              have R14 := R9.same s9_14
              have hRp14 := s9_14 _ _ hRp
              refine ⟨_, rfl, Rp, rfl, ⟨_, SqL.of hRp14⟩, fun Fl nFl => ?_⟩
              refine lc_list (K := K) (a := Rp) (xs := as.map V.ref) (fun i H' => Same H14 H' ∧ ∃ asf : List Addr, H' Fl = some (.lst (asf.map V.ref)) ∧ Runs K ks H8 H' asf ((rl.take i).filter fun r => !r.isEmpty) ∧ Fl ∉ asf ∧ ∀ b ∈ asf, b ∈ as.take i)
                ⟨sameNew (Same.refl H14) nFl, [], upd_same, by simp only [List.take_zero, List.filter_nil]; exact Runs.nil, (fun h => nomatch h), fun b h => nomatch h⟩ (fun i H' _ h => SqL.of (h.1 _ _ hRp14)) ?_ ?_
              · rintro i y H16 hy ⟨s16, asf, hFl, Rf, nFf, sub⟩
                obtain ⟨ar, ea, rfl⟩ : ∃ ar, as[i]? = some ar ∧ y = V.ref ar := by
                  rw [List.getElem?_map] at hy
                  cases q : as[i]? with
                  | none => rw [q] at hy; cases hy
                  | some b => rw [q] at hy; exact ⟨b, rfl, (Option.some.inj hy).symm⟩
                obtain ⟨r, er⟩ : ∃ r, rl[i]? = some r := ⟨_, List.getElem?_eq_getElem (by have := (List.getElem?_eq_some_iff.mp ea).1; omega)⟩
                obtain ⟨z, hz, dz⟩ := (R14.same s16).at_ i ar r ea er
                have okr' := R9.ok r (List.mem_of_getElem? er)
                refine ⟨rfl, _, rfl, Nat.zero_le _, fun e ne => ?_⟩
                have s17 := sameNew (o := .lst []) (Same.refl H16) ne
                have he : upd H16 e (.lst []) e = some (.lst []) := upd_same
                generalize upd H16 e (.lst []) = H17 at s17 he ⊢
                refine ⟨.list (r.map pairD), .list [], .lst (SqL.of (s17 _ _ hz)) (dpAll_same s17 _ dz), .lst (SqL.of he) .nil, pairs_shaped okr', by decide +kernel, _, rfl, ?_⟩
                rw [eqv_nil]
                have sub' : ∀ b ∈ asf, b ∈ as.take (i + 1) := fun b hb => by rw [take_snoc ea]; exact List.mem_append_left _ (sub b hb)
                cases hr0 : r with
                | nil =>
                  refine iteF ?_
                  refine ⟨s16.trans s17, asf, s17 _ _ hFl, ?_, nFf, sub'⟩
                  rw [take_snoc er, List.filter_append, hr0]
                  simpa using Rf.same s17
                | cons q0 r' =>
                  refine iteT ?_
                  have nar : ar ∉ asf := fun hm => by
                    have h1 := sub ar hm
                    have h2 := R9.nd
                    rw [← List.take_append_drop i as] at h2
                    exact (List.nodup_append.mp h2).2.2 ar h1 ar (mem_head ea) rfl
                  have nFa : Fl ≠ ar := fun zz => by
                    obtain ⟨x, hx⟩ := R14.tracked (List.mem_of_getElem? ea)
                    rw [← zz, nFl] at hx
                    cases hx
                  have nF2 : Fl ∉ asf ++ [ar] := fun zz => by
                    rcases List.mem_append.mp zz with zz | zz
                    · exact nFf zz
                    · exact nFa (List.mem_singleton.mp zz)
                  have laf : asf.length ≤ 40 := by
                    rw [Rf.len]
                    refine Nat.le_trans (List.length_filter_le _ _) ?_
                    rw [List.length_take]
                    omega
                  have R17 := (Rf.same s17).snoc (s17 _ _ hz) (dpAll_same s17 _ dz) (R9.fresh ar (List.mem_of_getElem? ea)) nar okr'
                  refine ⟨_, rfl, _, s17 _ _ hFl, small1000 (by rw [List.length_map]; omega), fun b o q => (upd_ne (ne_of_none q nFl)).trans ((s16.trans s17) b o q), asf ++ [ar], by rw [upd_same, List.map_append]; rfl, ?_, nF2, fun b hb => ?_⟩
                  · have ef : (rl.take (i + 1)).filter (fun r => !r.isEmpty) = (rl.take i).filter (fun r => !r.isEmpty) ++ [r] := by
                      rw [take_snoc er, List.filter_append, hr0]
                      simp
                    rw [ef]
                    exact R17.upd_ (s17 _ _ hFl) nF2
                  · rcases List.mem_append.mp hb with hb | hb
                    · exact sub' b hb
                    · rw [List.mem_singleton.mp hb, take_snoc ea]
                      simp
              · rintro H16 ⟨s16, asf, hFl, Rf, nFf, sub⟩
                rw [List.length_map, las, List.take_length] at Rf
                obtain ⟨fl, efl⟩ : ∃ fl, fl = rl.filter (fun r => !r.isEmpty) := ⟨_, rfl⟩
                rw [← efl] at Rf
                have flm : ∀ l ∈ fl, l ∈ rl ∧ l ≠ [] := fun l hl => by
                  rw [efl] at hl
                  obtain ⟨h1, h2⟩ := List.mem_filter.mp hl
                  refine ⟨h1, fun z => ?_⟩
                  rw [z] at h2
                  simp at h2
                dsimp only [gName, List.set]
                have nRp9 := b3
                have hO14 : H16 O0 = some (.lst xo) := (s14.trans s16) _ _ (x313 _ _ hOB hOL hO)
                have dO14 : DpAll K H16 xo (os.map partD) := dpAll_same (s14.trans s16) _ (dpAll_x b3 x313 _ noO hdO)
                have s1316 := s14.trans s16
                have b16 := b13.same s1316
                have x116 : SameX B L H1 H16 := ((s2.trans s3).trans x313).trans (SameX.of s1316)
                have tL16 := tabS_x b1 x116 tL1
                have F16 : F5 K H8 B L Fl O0 vk ks os asf fl pK pW pR pN H16 := ⟨b16, dp_same s1316 _ hk13, ⟨xo, hO14, dO14⟩, hFl, Rf, tab_x5 b1 x116 tK1, tab_x5 b1 x116 tW1, tab_x5 b1 x116 tR1, tab_x5 b1 x116 tN1⟩
                have nFlBL : Fl ≠ B ∧ Fl ≠ L := (b13.same s14).nb nFl
                obtain ⟨fB, fL0⟩ := Rf.noB b8
                refine seq_join (fun σ' H' => ∃ (u17 u18 u19 u20 : Option V), σ' = [some (.ref a), some (.ref B), some (.int (0 + (jt : Nat))), some vk, some (.ref O0), some (.ref vr), some (.ref Rp), some (.ref Ev), u8, some (.ref Du), some (.int (hq : Nat)), some (.ref Hd), w12, w13', w14, w15, some (.ref Fl), u17, u18, u19, u20, none] ∧ F5 K H8 B L Fl O0 vk ks os asf fl pK pW pR pN H' ∧ LamX.TabS H' pL qL5) ?_ ?_
                · rintro σ' H' ⟨u17, u18, u19, u20, rfl, F, tL'⟩
                  refine ⟨tL', fun fL HA eN tS isL hfN => ⟨by show 1 ≤ sizeLine; decide, fun LL hLL => ?_⟩⟩
                  have s9 := sameNew (o := .lst [.ref fL]) (Same.refl HA) hLL
                  have hL9 : upd HA LL (.lst [.ref fL]) LL = some (.lst [.ref fL]) := upd_same
                  generalize upd HA LL (.lst [.ref fL]) = HB at s9 hL9 ⊢
                  refine ⟨by show 2 ≤ sizeLine; decide, fun TT hTT => ?_⟩
                  have s10 := sameNew (o := .tup [.str "BadRuns", .int 40]) (Same.refl HB) hTT
                  have hL10 := s10 _ _ hL9
                  have hT10 : upd HB TT (.tup [.str "BadRuns", .int 40]) TT = some (.tup [.str "BadRuns", .int 40]) := upd_same
                  generalize upd HB TT (.tup [.str "BadRuns", .int 40]) = HC at s10 hL10 hT10 ⊢
                  intro Gp ca
                  have sAC := s9.trans s10
                  have eC : LamX.ExtN H' HC := eN.trans (LamX.ExtN.of sAC)
                  have FC := F.ext eC
                  refine ⟨LL, [fL], .ref TT, .tuple [.str "BadRuns", .int 40], rfl, ca.some hL10, by show 1 ≤ 20; decide, .tup (SqT.of (ca.some hT10)) (.cons (.str _) (.cons (.int _) .nil)), by simp [few, fews], by simp [PyData.depth, PyData.depthAll], fun g hg => ?_, fun Hz sZ => ?_⟩
                  · rw [List.mem_singleton.mp hg]
                    refine works_bad (n := 40) eB ca (LamX.lamS_by (sc := defScope sLaw) (by decide +kernel)) (isL.ext (LamX.ExtN.of sAC)) (fun _ _ _ _ _ => rfl) (fun A outer s H E c' hr' => pe_c C.merged hr' (Nat.le_refl _) (by rfl) (passes_call (takes_of rfl rfl rfl rfl) fun _ _ _ _ h => h) (pa_cons (pv 3) (pa_cons (pv 4) (pa_cons (pe_op op_rep (pe_lst (pa_cons (pe_lst pa_nil) pa_nil)) pe_int) pa_nil)))) fun Hx E Q sx q => ?_
                    refine ⟨_, rfl, _, rfl, by show 0 ≤ sizeLine; decide, fun u5 nu5 => ?_⟩
                    have y1 := sameNew (o := .lst []) (Same.refl Hx) nu5
                    have h1 : upd Hx u5 (.lst []) u5 = some (.lst []) := upd_same
                    generalize upd Hx u5 (.lst []) = Hy at y1 h1 ⊢
                    refine ⟨by show 1 ≤ sizeLine; decide, fun u6 nu6 => ?_⟩
                    have y2 := sameNew (o := .lst [.ref u5]) (Same.refl Hy) nu6
                    have h2 : upd Hy u6 (.lst [.ref u5]) u6 = some (.lst [.ref u5]) := upd_same
                    generalize upd Hy u6 (.lst [.ref u5]) = Hw at y2 h2 ⊢
                    refine ⟨u6, _, _, rfl, rfl, h2, by decide, by decide, by show 1 * 41 ≤ sizeLine; decide, fun u7 nu7 => ?_⟩
                    have y3 := sameNew (o := .lst (List.replicate (41 : Int).toNat [V.ref u5]).flatten) (Same.refl Hw) nu7
                    have h3 : upd Hw u7 (.lst (List.replicate (41 : Int).toNat [V.ref u5]).flatten) u7 = some (.lst (List.replicate 41 (V.ref u5))) := by
                      rw [upd_same]
                      congr 2
                    generalize upd Hw u7 (.lst (List.replicate (41 : Int).toNat [V.ref u5]).flatten) = Hv at y3 h3 ⊢
                    have y13 := (y1.trans y2).trans y3
                    have Fv := FC.same (sx.trans y13)
                    refine ⟨vk, .ref O0, u7, List.replicate 41 (V.ref u5), ks, os, List.replicate 41 [], rfl, Fv.k, Fv.ord, SqL.of h3, ?_, k1, k4, by omega, oko, fun r hr => ?_, by simp [numsT], Fv.tK, Fv.tW, Fv.tR, Fv.tN, .inr ⟨40, bad_empty, fun Hu dd su hdd => q Hu dd (y13.trans su) hdd⟩⟩
                    · rw [List.map_replicate]
                      exact dpAll_rep5 (.lst (SqL.of ((y2.trans y3) _ _ h1)) .nil) 41
                    · rw [List.eq_of_mem_replicate hr]
                      exact fun t ht => nomatch ht
                  · have sf := caught_same ca sZ
                    have Fz := FC.same sf
                    refine ⟨_, rfl, iteF ?_⟩
                    exact ⟨_, _, _, _, _, _, _, _, _, _, _, _, _, _, _, _, _, _, _, rfl, Fz.box, ⟨Fz.tK, Fz.tW, Fz.tR, Fz.tN⟩, tS.ext (sAC.trans sf)⟩
                · intro nx hnx
                  refine ⟨_, rfl, Nat.zero_le _, fun e0 ne0 => ?_⟩
                  have s17 := sameNew (o := .lst []) (Same.refl H16) ne0
                  have he0 : upd H16 e0 (.lst []) e0 = some (.lst []) := upd_same
                  generalize upd H16 e0 (.lst []) = H17 at s17 he0 ⊢
                  have F17 := F16.same s17
                  have tL17 := tL16.ext s17
                  refine ⟨.list (fl.map rr5), .list [], .lst (SqL.of (s17 _ _ hFl)) (by rw [← runD_int]; exact runs_dp (Rf.same s17)), .lst (SqL.of he0) .nil, rr5_shaped fun l hl => R9.ok l (flm l hl).1, by decide +kernel, _, rfl, ?_⟩
                  rw [eqv_nil]
                  cases hfl0 : fl with
                  | nil =>
                    refine iteF ?_
                    exact hnx _ _ ⟨_, _, _, _, rfl, F17, tL17⟩
                  | cons l0 fl' =>
                    refine iteT ?_
                    dsimp only
                    have lfl : fl.length ≤ 40 := by
                      rw [efl]
                      exact Nat.le_trans (List.length_filter_le _ _) rl40
                    have flat : fl.flatten = rl.flatten := by
                      rw [efl]
                      exact List.flatten_filter_not_isEmpty
                    have lasf : asf.length = fl.length := Rf.len
                    have l1f : 1 ≤ fl.length := by rw [hfl0]; simp
                    have hF17 := F17.f
                    refine ⟨_, rfl, _, rfl, _, rfl, ?_⟩
                    dsimp only [tNoPart]
                    refine ⟨_, rfl, ?_⟩
                    refine sl_any (lo := none) (hi := some 39) hF17 fun pb H18 s18 npb hpb => ?_
                    have ecut : cutV (asf.map V.ref) none (some 39) = (asf.take 39).map V.ref := (cutV_toA (k := 39)).trans (List.map_take).symm
                    rw [ecut] at hpb
                    have F18 := F17.same s18
                    have tL18 := tL17.ext s18
                    obtain ⟨npB, npL⟩ := F17.box.nb npb
                    have ndf : (fl.flatten.map (·.1)).Nodup := by rw [flat]; exact nd9
                    have subf : (fl.take 39).flatten.Sublist fl.flatten := by
                      conv => rhs; rw [← List.take_append_drop 39 fl, List.flatten_append]
                      exact List.sublist_append_left _ _
                    have tkm : ∀ r ∈ fl.take 39, r ∈ rl ∧ r ≠ [] := fun r hr => flm r (List.mem_of_mem_take hr)
                    refine ⟨B, L, pb, .ref O0, H8, asf.take 39, ks, os, fl.take 39, rfl, F18.box, b8, npB, npL, hpb, F18.R.take 39, k1, k4, fun r hr => (tkm r hr).2, by rw [List.length_take]; omega, by rw [List.length_take]; omega, fun r hr => srt9 r (tkm r hr).1, ndf.sublist (subf.map _), ?_, fun H19 t pr xr' kb rsb x19 b19 ht hpr hdr hbad fitb totb kb40 => ?_⟩
                    · have := subf.length_le
                      rw [flat] at this
                      omega
                    refine ⟨t, _, rfl, SqT.of ht, rfl, _, _, rfl, _, _, rfl, rfl, ?_⟩
                    have F19 := F18.x x19 b19 nFlBL ⟨hOB, hOL⟩ fB fL0
                    have tL19 := tabS_x F18.box x19 tL18
                    refine ⟨tL19, fun fL HA eN tS isL hfN => ⟨by show 1 ≤ sizeLine; decide, fun LL hLL => ?_⟩⟩
                    have z9 := sameNew (o := .lst [.ref fL]) (Same.refl HA) hLL
                    have hL9 : upd HA LL (.lst [.ref fL]) LL = some (.lst [.ref fL]) := upd_same
                    generalize upd HA LL (.lst [.ref fL]) = HB at z9 hL9 ⊢
                    refine ⟨_, rfl, by show 2 ≤ sizeLine; decide, fun TT hTT => ?_⟩
                    have z10 := sameNew (o := .tup [.str "BadRuns", .int (kb : Nat)]) (Same.refl HB) hTT
                    have hL10 := z10 _ _ hL9
                    have hT10 : upd HB TT (.tup [.str "BadRuns", .int (kb : Nat)]) TT = some (.tup [.str "BadRuns", .int (kb : Nat)]) := upd_same
                    generalize upd HB TT (.tup [.str "BadRuns", .int (kb : Nat)]) = HC at z10 hL10 hT10 ⊢
                    intro Gp ca
                    have sAC := z9.trans z10
                    have eC : LamX.ExtN H19 HC := eN.trans (LamX.ExtN.of sAC)
                    have FC := F19.ext eC
                    have hprC := lst_ext eC hpr
                    have hdrC := dpAll_ext eC hdr
                    refine ⟨LL, [fL], .ref TT, .tuple [.str "BadRuns", .int (kb : Nat)], rfl, ca.some hL10, by show 1 ≤ 20; decide, .tup (SqT.of (ca.some hT10)) (.cons (.str _) (.cons (.int _) .nil)), by simp [few, fews], by simp [PyData.depth, PyData.depthAll], fun g hg => ?_, fun Hz sZ => ?_⟩
                    · rw [List.mem_singleton.mp hg]
                      refine works_bad (n := kb) eB ca (LamX.lamS_by (sc := defScope sLaw) (by decide +kernel)) (isL.ext (LamX.ExtN.of sAC)) (fun _ _ _ _ _ => rfl) (fun A outer s H E c' hr' => pe_c C.merged hr' (Nat.le_refl _) (by rfl) (passes_call (takes_of rfl rfl rfl rfl) fun _ _ _ _ h => h) (pa_cons (pv 3) (pa_cons (pv 4) (pa_cons (pv 17) pa_nil)))) fun Hx E Q sx q => ?_
                      have Fx := FC.same sx
                      exact ⟨_, rfl, _, rfl, _, rfl, vk, .ref O0, pr, xr', ks, os, rsb, rfl, Fx.k, Fx.ord, SqL.of (sx _ _ hprC), dpAll_same sx _ hdrC, k1, k4, by omega, oko, fitb, totb, Fx.tK, Fx.tW, Fx.tR, Fx.tN, .inr ⟨kb, hbad, fun Hu dd su hdd => q Hu dd su hdd⟩⟩
                    · have sf := caught_same ca sZ
                      have Fz := FC.same sf
                      have tLz : LamX.TabS _ pL qL5 := tS.ext (sAC.trans sf)
                      refine ⟨_, rfl, iteF ?_⟩
                      generalize off _ Hz = HD at sf Fz tLz ⊢
                      have hFz := Fz.f
                      refine ⟨_, rfl, _, rfl, _, rfl, _, rfl, Fl, _, rfl, .inl (SqL.of hFz), B, L, _, rfl, Fz.box, by rw [List.length_map]; omega, by rw [List.length_map]; omega, fun HE wx xE bE w0 wl => ?_⟩
                      rw [List.length_map] at wl
                      obtain ⟨wn, rfl⟩ : ∃ n : Nat, wx = (n : Nat) := ⟨wx.toNat, by omega⟩
                      have hwn : wn < fl.length := by omega
                      obtain ⟨ar, ea⟩ : ∃ ar, asf[wn]? = some ar := ⟨_, List.getElem?_eq_getElem (by omega)⟩
                      obtain ⟨r, er⟩ : ∃ r, fl[wn]? = some r := ⟨_, List.getElem?_eq_getElem hwn⟩
                      have FE := Fz.x xE bE nFlBL ⟨hOB, hOL⟩ fB fL0
                      have tLE := tabS_x Fz.box xE tLz
                      obtain ⟨z, hz, dz⟩ := FE.R.at_ wn ar r ea er
                      have rmem := List.mem_of_getElem? er
                      refine ⟨Fl, _, _, .ref ar, rfl, rfl, SqL.of FE.f, atI_nat (by rw [List.getElem?_map, ea]; rfl), ?_⟩
                      dsimp only [tNoPart]
                      refine ⟨_, rfl, ?_⟩
                      refine sl_any (lo := none) (hi := some 1) hz fun ps HG sG nps hps => ?_
                      rw [show cutV z none (some 1) = z.take 1 from cutV_toA (k := 1)] at hps
                      obtain ⟨q0, r', er0⟩ : ∃ q0 r', r = q0 :: r' := by
                        cases hr0 : r with
                        | nil => exact absurd hr0 (flm r rmem).2
                        | cons q0 r' => exact ⟨q0, r', rfl⟩
                      obtain ⟨v0, z', ez, hv0⟩ : ∃ v0 z', z = v0 :: z' ∧ Dp K HE v0 (pairD q0) := by
                        rw [er0] at dz
                        cases dz with
                        | cons h1 h2 => exact ⟨_, _, rfl, h1⟩
                      have ets : z.take 1 = [v0] := by rw [ez]; rfl
                      rw [ets] at hps
                      have FG := FE.same sG
                      have tLG := tLE.ext sG
                      refine ⟨by show 1 ≤ sizeLine; decide, fun pt npt => ?_⟩
                      have sI := sameNew (o := .lst [.ref ps]) (Same.refl HG) npt
                      have hpt : upd HG pt (.lst [.ref ps]) pt = some (.lst [.ref ps]) := upd_same
                      generalize upd HG pt (.lst [.ref ps]) = HI at sI hpt ⊢
                      have FI := FG.same sI
                      refine cat_any FI.f hpt (by rw [List.length_map]; show asf.length + 1 ≤ sizeLine; omega) fun Tw HJ sJ nTw hTw => ?_
                      have FJ := FI.same sJ
                      have tLJ := (tLG.ext sI).ext sJ
                      have hqf : q0 ∈ fl.flatten := List.mem_flatten.mpr ⟨r, rmem, by rw [er0]; simp⟩
                      have btw := bad_twice (ks := ks) (os := os) (rl := fl) (q := q0) (fun r hr => srt9 r (flm r hr).1) ndf (fun r hr => R9.ok r (flm r hr).1) lfl hqf
                      have dTw : DpAll K HJ (asf.map V.ref ++ [.ref ps]) ((fl.map intR ++ [[intT q0]]).map runD) := by
                        rw [List.map_append]
                        exact dpApp (runs_dp FJ.R) (.cons (.lst (SqL.of ((sI.trans sJ) _ _ hps)) (.cons (dp_same ((sG.trans sI).trans sJ) _ hv0) .nil)) .nil)
                      refine ⟨tLJ, fun fL2 HA2 eN2 tS2 isL2 hfN2 => ⟨by show 1 ≤ sizeLine; decide, fun LL2 hLL2 => ?_⟩⟩
                      have y9 := sameNew (o := .lst [.ref fL2]) (Same.refl HA2) hLL2
                      have hM9 : upd HA2 LL2 (.lst [.ref fL2]) LL2 = some (.lst [.ref fL2]) := upd_same
                      generalize upd HA2 LL2 (.lst [.ref fL2]) = HB2 at y9 hM9 ⊢
                      have eB2 : LamX.ExtN HJ HB2 := eN2.trans (LamX.ExtN.of y9)
                      have FB2 := FJ.ext eB2
                      have hTwB := lst_ext eB2 hTw
                      have dTwB := dpAll_ext eB2 dTw
                      have tLB := tS2.ext y9
                      have isB := isL2.ext (LamX.ExtN.of y9)
                      refine ⟨_, rfl, Tw, _, rfl, .inl (SqL.of hTwB), _, _, rfl, rfl, _, rfl, ?_⟩
                      rw [List.length_append, List.length_map, List.length_singleton]
                      by_cases c41 : asf.length + 1 < 41
                      · refine iteT' (decide_eq_true (by omega)) ?_
                        refine ⟨_, rfl, _, rfl, Fl, _, rfl, .inl (SqL.of FB2.f), by show 2 ≤ sizeLine; decide, fun TT2 hTT2 => ?_⟩
                        rw [List.length_map, lasf]
                        have y10 := sameNew (o := .tup [.str "BadRuns", .int (fl.length : Nat)]) (Same.refl HB2) hTT2
                        have hM10 := y10 _ _ hM9
                        have hU10 : upd HB2 TT2 (.tup [.str "BadRuns", .int (fl.length : Nat)]) TT2 = some (.tup [.str "BadRuns", .int (fl.length : Nat)]) := upd_same
                        generalize upd HB2 TT2 (.tup [.str "BadRuns", .int (fl.length : Nat)]) = HC2 at y10 hM10 hU10 ⊢
                        intro Gp2 ca2
                        have FC2 := FB2.same y10
                        have hTwC := y10 _ _ hTwB
                        have dTwC := dpAll_same y10 _ dTwB
                        refine ⟨LL2, [fL2], .ref TT2, .tuple [.str "BadRuns", .int (fl.length : Nat)], rfl, ca2.some hM10, by show 1 ≤ 20; decide, .tup (SqT.of (ca2.some hU10)) (.cons (.str _) (.cons (.int _) .nil)), by simp [few, fews], by simp [PyData.depth, PyData.depthAll], fun g hg => ?_, fun Hz2 sZ2 => ?_⟩
                        · rw [List.mem_singleton.mp hg]
                          refine works_bad (n := fl.length) eB ca2 (LamX.lamS_by (sc := defScope sLaw) (by decide +kernel)) (isB.ext (LamX.ExtN.of y10)) (fun _ _ _ _ _ => rfl) (fun A outer s H E c' hr' => pe_c C.merged hr' (Nat.le_refl _) (by rfl) (passes_call (takes_of rfl rfl rfl rfl) fun _ _ _ _ h => h) (pa_cons (pv 3) (pa_cons (pv 4) (pa_cons (pv 19) pa_nil)))) fun Hx E Q sx q => ?_
                          have Fx := FC2.same sx
                          refine ⟨_, rfl, _, rfl, _, rfl, vk, .ref O0, Tw, _, ks, os, fl.map intR ++ [[intT q0]], rfl, Fx.k, Fx.ord, SqL.of (sx _ _ hTwC), dpAll_same sx _ dTwC, k1, k4, by omega, oko, fun l hl => ?_, ?_, Fx.tK, Fx.tW, Fx.tR, Fx.tN, .inr ⟨fl.length, btw, fun Hu dd su hdd => q Hu dd su hdd⟩⟩
                          · rcases List.mem_append.mp hl with hl | hl
                            · obtain ⟨l', hl', rfl⟩ := List.mem_map.mp hl
                              exact fitI _ (List.mem_map.mpr ⟨l', (flm l' hl').1, rfl⟩)
                            · rw [List.mem_singleton.mp hl]
                              intro t ht
                              exact fitI (intR r) (List.mem_map.mpr ⟨r, (flm r rmem).1, rfl⟩) t (by rw [List.mem_singleton.mp ht, er0]; simp [intR])
                          · rw [List.flatMap_append, List.length_append, flat_int, nums_int, List.length_map, flat, tot9]
                            simp [numsT]
                            omega
                        · have sf2 := caught_same ca2 sZ2
                          have Fz2 := FC2.same sf2
                          refine ⟨_, rfl, iteF ?_⟩
                          exact hnx _ _ ⟨_, _, _, _, rfl, Fz2, tLB.ext (y10.trans sf2)⟩
                      · refine iteF' (decide_eq_false (by omega)) ?_
                        exact hnx _ _ ⟨_, _, _, _, rfl, FB2, tLB⟩
    · rintro σ H1 ⟨v2, v3, v4, v5, v6, v7, v8, v9, v10, v11, v12, v13, v14, v15, v16, v17, v18, v19, v20, rfl, b1, ⟨tK1, tW1, tR1, tN1⟩, tL1⟩
      have big : (1000 : Nat) ≤ sizeLine := by decide
      refine ⟨by show 1 ≤ sizeLine; decide, fun tk ntk => ?_⟩
      have s2 := sameNew (o := .tup [.str "number"]) (Same.refl H1) ntk
      have htk : upd H1 tk (.tup [.str "number"]) tk = some (.tup [.str "number"]) := upd_same
      generalize upd H1 tk (.tup [.str "number"]) = H2 at s2 htk ⊢
      refine ⟨by show 2 ≤ sizeLine; decide, fun tp ntp => ?_⟩
      have s3 := sameNew (o := .tup [.int 0, .str "up"]) (Same.refl H2) ntp
      have htp : upd H2 tp (.tup [.int 0, .str "up"]) tp = some (.tup [.int 0, .str "up"]) := upd_same
      generalize upd H2 tp (.tup [.int 0, .str "up"]) = H3 at s3 htp ⊢
      refine ⟨by show 1 ≤ sizeLine; decide, fun lo nlo => ?_⟩
      have s4 := sameNew (o := .lst [.ref tp]) (Same.refl H3) nlo
      have hlo : upd H3 lo (.lst [.ref tp]) lo = some (.lst [.ref tp]) := upd_same
      generalize upd H3 lo (.lst [.ref tp]) = H4 at s4 hlo ⊢
      refine ⟨Nat.zero_le _, fun le nle => ?_⟩
      have s5 := sameNew (o := .lst []) (Same.refl H4) nle
      have hle : upd H4 le (.lst []) le = some (.lst []) := upd_same
      generalize upd H4 le (.lst []) = H5 at s5 hle ⊢
      have s15 := ((s2.trans s3).trans s4).trans s5
      refine ⟨.ref tk, .ref lo, le, [], [false], [(0, false)], [], rfl, .tup (SqT.of (((s3.trans s4).trans s5) _ _ htk)) (.cons (.str _) .nil), .lst (SqL.of (s5 _ _ hlo)) (.cons (.tup (SqT.of ((s4.trans s5) _ _ htp)) (.cons (.int _) (.cons (.str _) .nil))) .nil), SqL.of hle, .nil, by decide, by decide, by decide, ?_, (fun r h => nomatch h), by decide, s15 _ _ tK1, s15 _ _ tW1, s15 _ _ tR1, s15 _ _ tN1, .inl ⟨⟨(fun r h => nomatch h), List.nodup_nil, by decide⟩, fun H6 t p ys ls n s6 ht np hp hd pm st ne hi => ?_⟩⟩
      · exact ⟨by simp, fun p hp => by rw [List.mem_singleton.mp hp]; decide, by simp⟩
      · have n0 : n = 0 := by have := hi 0 (by decide); simpa using this
        subst n0
        have ls0 : ls = [] := pm.eq_nil
        subst ls0
        cases hd
        refine ⟨Nat.zero_le _, fun e0 ne0 => ?_⟩
        have s7 := sameNew (o := .lst []) (Same.refl H6) ne0
        have he0 : upd H6 e0 (.lst []) e0 = some (.lst []) := upd_same
        generalize upd H6 e0 (.lst []) = H7 at s7 he0 ⊢
        refine ⟨by show 2 ≤ sizeLine; decide, fun t2 nt2 => ?_⟩
        have s8 := sameNew (o := .tup [.ref e0, .int 0]) (Same.refl H7) nt2
        have ht2 : upd H7 t2 (.tup [.ref e0, .int 0]) t2 = some (.tup [.ref e0, .int 0]) := upd_same
        generalize upd H7 t2 (.tup [.ref e0, .int 0]) = H8 at s8 ht2 ⊢
        have z8 := s15.trans (s6.trans (s7.trans s8))
        refine ⟨.tuple [.list [], .int 0], .tuple [.list [], .int 0], .tup (SqT.of ((s7.trans s8) _ _ ht)) (.cons (.lst (SqL.of ((s7.trans s8) _ _ hp)) .nil) (.cons (.int _) .nil)), .tup (SqT.of ht2) (.cons (.lst (SqL.of (s8 _ _ he0)) .nil) (.cons (.int _) .nil)), by decide +kernel, by decide +kernel, ?_⟩
        have e : PyData.eqv (.tuple [.list [], .int 0]) (.tuple [.list [], .int 0]) = true := by simp [PyData.eqv, PyData.eqvAll]
        rw [e]
        exact k _ (z8 _ _ tK1) (z8 _ _ tW1) (z8 _ _ tR1) (z8 _ _ tN1)
end
end RS
set_option Elab.async false
set_option maxRecDepth 100000
set_option maxHeartbeats 4000000
namespace RS
open PySem PySem.Spec PyProof.Rows L2 GX LM
/-! ### what one reads of the classes of the errors -/
theorem kit_ne {K : PySem.W.Frag} {D C : Addr} {b : Bool} (hne : D ≠ C) (h1 : PySem.W.isClsIn K C = true) (h2 : PySem.W.typeIn K (.ref C) = some (.type "type")) (h3 : PySem.W.subIn K (.ref D) (.ref C) = some b) : PySem.W.kitOne K (.ref D) (.ref C) = some b := by
  have e0 : ((Value.ref D : Value) == .ref C) = false := by
    rw [beq_eq_false_iff_ne]
    exact fun z => hne (Value.ref.inj z)
  have e2 : ((PySem.W.clsIn K C).isSome && PySem.W.typeIn K (.ref C) == some (.type "type")) = true := by
    have h1' : (PySem.W.clsIn K C).isSome = true := h1
    rw [h1', h2] <;> rfl
  unfold PySem.W.kitOne
  rw [if_neg (by rw [e0]; decide)]
  show (if ((PySem.W.clsIn K C).isSome && PySem.W.typeIn K (.ref C) == some (.type "type")) = true then PySem.W.subIn K (.ref D) (.ref C) else none) = some b
  rw [if_pos e2]
  exact h3
theorem kit_same {K : PySem.W.Frag} {D : Addr} : PySem.W.kitOne K (.ref D) (.ref D) = some true := by
  unfold PySem.W.kitOne
  rw [if_pos (beq_self_eq_true _)]
theorem kit_ve {K : PySem.W.Frag} {D : Addr} (h : PySem.W.subIn K (.ref D) (.type "ValueError") = some true) : PySem.W.kitOne K (.ref D) (.type "ValueError") = some true := by
  unfold PySem.W.kitOne
  rw [if_neg (show ¬((Value.ref D : Value) == .type "ValueError") = true from fun z => by have := beq_iff_eq.mp z; cases this)]
  show (if PySem.W.kitMeta "ValueError" = true then PySem.W.subIn K (.ref D) (.type "ValueError") else none) = some true
  rw [if_pos (by decide +kernel)]
  exact h
theorem exm_mk {K : PySem.W.Frag} {D S : Addr} (h1 : PySem.W.subIn K (.ref S) (.type "BaseException") = some true) (h2 : PySem.W.isClsIn K S = true) (h3 : PySem.W.typeIn K (.ref S) = some (.type "type")) (h4 : PySem.W.subIn K (.ref D) (.ref S) = some true) :
    PySem.W.exmOne K (.ref D) (.ref S) = some true := by
  have e1 : (PySem.W.subIn K (.ref S) (.type "BaseException") == some true) = true := by rw [h1] <;> rfl
  have e2 : ((PySem.W.clsIn K S).isSome && PySem.W.typeIn K (.ref S) == some (.type "type")) = true := by
    have h2' : (PySem.W.clsIn K S).isSome = true := h2
    rw [h2', h3] <;> rfl
  show (if (PySem.W.subIn K (.ref S) (.type "BaseException") == some true) = true then (if ((PySem.W.clsIn K S).isSome && PySem.W.typeIn K (.ref S) == some (.type "type")) = true then PySem.W.subIn K (.ref D) (.ref S) else none) else none) = some true
  rw [if_pos e1, if_pos e2]
  exact h4
/-- what one class of an error shows -/
structure OneE (K : PySem.W.Frag) (SE D : Addr) : Prop where
  exc : ExcC K D
  ve : PySem.W.subIn K (.ref D) (.type "ValueError") = some true
  se : PySem.W.exmOne K (.ref D) (.ref SE) = some true
theorem own15_mk {K : PySem.W.Frag} {C : Nat → Addr} {SE : Addr} {j : Nat} (hj : j < 15) (E : OneE K SE (C j)) (cl : ∀ i < 15, PySem.W.isClsIn K (C i) = true ∧ PySem.W.typeIn K (.ref (C i)) = some (.type "type")) (no : ∀ i < 15, i ≠ j → C j ≠ C i ∧ PySem.W.subIn K (.ref (C j)) (.ref (C i)) = some false) : Own15 K C (C j) j := by
  refine ⟨hj, E.exc, fun i hi => ?_, kit_ve E.ve⟩
  by_cases e : i = j
  · subst e
    rw [kit_same, decide_eq_true rfl]
  · obtain ⟨n1, n2⟩ := no i hi e
    rw [kit_ne n1 (cl i hi).1 (cl i hi).2 n2, decide_eq_false e]
def listC (cs : List Addr) : Nat → Addr := fun i => cs.getD i 0
end RS
set_option Elab.async false
set_option maxRecDepth 100000
set_option maxHeartbeats 4000000
namespace RS
open PySem PySem.Spec PyProof.Rows L2 GX
/-- the end: the tables of the defs are empty at the law's entry -/
theorem walk_tabs {l : PySem.W.OpenLaw} {n k : Nat} {q : Program} {loose : List Str} {XP : (Str → Option Value) → Heap → Prop} {YP : World → Heap → Prop} {d : DefRec} {K : Params → PySem.W.Frag} {x : Str}
    (hn : l.most = some n) (hn2 : n ≤ sizeLine) (hdf : d.params.defaults = []) (hr : Room k callerA) (hY : ∀ (w : World) (h : Heap), YP w h → (K w.params).In h)
    (F : ∀ (w : World) (mg : Str → Option Value) (fa : Addr) (h : Heap), (K w.params).In h → h.Ns mainGlobals mg → mg d.name = some (.ref fa) →
      (∀ (y : Str) (d' : DefRec) (c P : Addr), (recsOf q).find? (fun e => e.name == y) = some d' → PySem.W.tabIn (K w.params) y = some (c, P) → PySem.W.CodeHd h c P ∧ h.get? P = some { cls := .none, data := .fields #[] }) →
      LamX.LawAtS l w (K w.params) CX0 k n x mg fa h) :
    PySem.W.WalkO q loose XP YP l.row.toRowW d [] (fun f vs => PySem.call f vs) := by
  refine Att.attach_callB hn hdf fun w s₀ s₁ mg mb fa o pm cd doc a vs ns G Y ho hd hcd hmg hobj hints hlen hbits hg => ?_
  have KX := hY w _ Y
  obtain ⟨fd, cs, sp, hT, nT, C, hb, hsp, hF⟩ := F w mg fa _ KX G.T.g hmg fun y d' c P e1 e2 => PySem.W.tab_of G.T KX e1 e2
  exact LamX.law_callTs KX G.T.g G.T.b G.T.builtins G.T.nolimit hg hT nT C G.T.bmain hobj hints (Nat.le_trans hlen hn2) hr hF hb (fun H hH hS => hsp H a ns hlen hbits hH hS) fun H e s' z => z
end RS
set_option Elab.async false
set_option maxRecDepth 100000
set_option maxHeartbeats 8000000
namespace RS
open PySem PySem.Spec PyProof.Rows L2 GX HQ LM
theorem def_at {K : PySem.W.Frag} {h : Heap} {mg : Str → Option Value} {x : Str} {st : Stmt} {f c : Addr} {oc kV doc pm ct : Value} {od an : Option Addr} {osl : Array (Option Value)} (X : K.In h) (G : h.Ns mainGlobals mg) (a : PySem.W.nsIn K mainGlobals x = some (some (.ref f)))
    (l : K.lookup f = some ⟨oc, od, .func (PySem.W.fnOf x x (defArgs st) (defBody st) (defScope st) .none kV doc pm an (.ref c) ct), osl⟩) (e : PySem.W.codeIn K (.ref c) x = true) (k : PySem.W.keepIn K (.ref f) = true) : DefAt K mg x st c :=
  ⟨f, oc, od, kV, doc, pm, an, ct, osl, PySem.W.mg_of X G a, l, e, k⟩
theorem two_in {K : PySem.W.Frag} {a : Addr} {x y : Str} {t u : Tok} {od : Option Addr} {n : Nat} {sl : Array (Option Value)} (h : K.lookup a = some ⟨.type "tuple", od, .seq #[.str x t, .str y u] n, sl⟩) : ∀ H, SqT K H a [.str x, .str y] :=
  fun _ => .inr ⟨_, #[.str x t, .str y u], n, h, rfl, rfl, by show 2 ≤ sizeLine; decide, .cons ⟨t, rfl⟩ (.cons ⟨u, rfl⟩ .nil)⟩
theorem tabB_of {base : Heap} {mg : Str → Option Value} {c P : Addr} (h : LamX.TabB base mg c P) : GxR.TabB base mg c P := ⟨h.code, h.bm, h.gP⟩
theorem tab_in {K : PySem.W.Frag} {x : Str} {st : Stmt} {f c P : Addr} {oc kV doc pm ct e : Value} {od an dd : Option Addr} {osl sl : Array (Option Value)} {vs : Array Value} (a : PySem.W.nsIn K mainGlobals x = some (some (.ref f)))
    (l : K.lookup f = some ⟨oc, od, .func (PySem.W.fnOf x x (defArgs st) (defBody st) (defScope st) .none kV doc pm an (.ref c) ct), osl⟩) (h1 : K.lookup c = some ⟨e, dd, .fields vs, sl⟩) (h2 : vs[11]? = some (.ref P)) : PySem.W.tabIn K x = some (c, P) := by
  unfold PySem.W.tabIn
  rw [a]
  dsimp only
  rw [l]
  show (match K.lookup c with
    | some ⟨_, _, .fields vs, _⟩ => (match (vs[11]? : Option Value) with
      | some (.ref P) => some (c, P)
      | _ => none)
    | _ => none) = some (c, P)
  rw [h1]
  dsimp only
  rw [h2]
theorem all_mk {l : PySem.W.OpenLaw} {w : World} {K : PySem.W.Frag} {h : Heap} {mg : Str → Option Value} {fa pW pR pK pN pL aK aW : Addr} {q : Program} {dW dR dK dN dL : DefRec} {eW eR eK eN eL : Value} {ddW ddR ddK ddN ddL : Option Addr} {vsW vsR vsK vsN vsL : Array Value} {stW stR stK stN stL : Array (Option Value)} (tabs : ∀ (y : Str) (d' : DefRec) (c P : Addr), (recsOf q).find? (fun e => e.name == y) = some d' → PySem.W.tabIn K y = some (c, P) → PySem.W.CodeHd h c P ∧ h.get? P = some { cls := .none, data := .fields #[] }) (X : K.In h) (G : h.Ns mainGlobals mg) (hfa : mg "law" = some (.ref fa))
    {f0 c0 : Addr} {oc0 kV0 dc0 pm0 ct0 : Value} {od0 an0 : Option Addr} {sl0 : Array (Option Value)}
    {f1 c1 : Addr} {oc1 kV1 dc1 pm1 ct1 : Value} {od1 an1 : Option Addr} {sl1 : Array (Option Value)}
    {f2 c2 : Addr} {oc2 kV2 dc2 pm2 ct2 : Value} {od2 an2 : Option Addr} {sl2 : Array (Option Value)}
    {f3 c3 : Addr} {oc3 kV3 dc3 pm3 ct3 : Value} {od3 an3 : Option Addr} {sl3 : Array (Option Value)}
    {f4 c4 : Addr} {oc4 kV4 dc4 pm4 ct4 : Value} {od4 an4 : Option Addr} {sl4 : Array (Option Value)}
    {f5 c5 : Addr} {oc5 kV5 dc5 pm5 ct5 : Value} {od5 an5 : Option Addr} {sl5 : Array (Option Value)}
    {f6 c6 : Addr} {oc6 kV6 dc6 pm6 ct6 : Value} {od6 an6 : Option Addr} {sl6 : Array (Option Value)}
    {f7 c7 : Addr} {oc7 kV7 dc7 pm7 ct7 : Value} {od7 an7 : Option Addr} {sl7 : Array (Option Value)}
    {f8 c8 : Addr} {oc8 kV8 dc8 pm8 ct8 : Value} {od8 an8 : Option Addr} {sl8 : Array (Option Value)}
    {f9 c9 : Addr} {oc9 kV9 dc9 pm9 ct9 : Value} {od9 an9 : Option Addr} {sl9 : Array (Option Value)}
    {f10 c10 : Addr} {oc10 kV10 dc10 pm10 ct10 : Value} {od10 an10 : Option Addr} {sl10 : Array (Option Value)}
    {f11 c11 : Addr} {oc11 kV11 dc11 pm11 ct11 : Value} {od11 an11 : Option Addr} {sl11 : Array (Option Value)}
    {f12 c12 : Addr} {oc12 kV12 dc12 pm12 ct12 : Value} {od12 an12 : Option Addr} {sl12 : Array (Option Value)}
    {f13 c13 : Addr} {oc13 kV13 dc13 pm13 ct13 : Value} {od13 an13 : Option Addr} {sl13 : Array (Option Value)}
    {f14 c14 : Addr} {oc14 kV14 dc14 pm14 ct14 : Value} {od14 an14 : Option Addr} {sl14 : Array (Option Value)}
    {f15 c15 : Addr} {oc15 kV15 dc15 pm15 ct15 : Value} {od15 an15 : Option Addr} {sl15 : Array (Option Value)}
    {f16 c16 : Addr} {oc16 kV16 dc16 pm16 ct16 : Value} {od16 an16 : Option Addr} {sl16 : Array (Option Value)}
    {f17 c17 : Addr} {oc17 kV17 dc17 pm17 ct17 : Value} {od17 an17 : Option Addr} {sl17 : Array (Option Value)}
    {f18 c18 : Addr} {oc18 kV18 dc18 pm18 ct18 : Value} {od18 an18 : Option Addr} {sl18 : Array (Option Value)}
    {f19 c19 : Addr} {oc19 kV19 dc19 pm19 ct19 : Value} {od19 an19 : Option Addr} {sl19 : Array (Option Value)}
    {f20 c20 : Addr} {oc20 kV20 dc20 pm20 ct20 : Value} {od20 an20 : Option Addr} {sl20 : Array (Option Value)}
    {f21 c21 : Addr} {oc21 kV21 dc21 pm21 ct21 : Value} {od21 an21 : Option Addr} {sl21 : Array (Option Value)}
    {f22 c22 : Addr} {oc22 kV22 dc22 pm22 ct22 : Value} {od22 an22 : Option Addr} {sl22 : Array (Option Value)}
    {f23 c23 : Addr} {oc23 kV23 dc23 pm23 ct23 : Value} {od23 an23 : Option Addr} {sl23 : Array (Option Value)}
    {f24 c24 : Addr} {oc24 kV24 dc24 pm24 ct24 : Value} {od24 an24 : Option Addr} {sl24 : Array (Option Value)}
    {f25 c25 : Addr} {oc25 kV25 dc25 pm25 ct25 : Value} {od25 an25 : Option Addr} {sl25 : Array (Option Value)}
    {f26 c26 : Addr} {oc26 kV26 dc26 pm26 ct26 : Value} {od26 an26 : Option Addr} {sl26 : Array (Option Value)}
    {f27 c27 : Addr} {oc27 kV27 dc27 pm27 ct27 : Value} {od27 an27 : Option Addr} {sl27 : Array (Option Value)}
    {f28 c28 : Addr} {oc28 kV28 dc28 pm28 ct28 : Value} {od28 an28 : Option Addr} {sl28 : Array (Option Value)}
    {f29 c29 : Addr} {oc29 kV29 dc29 pm29 ct29 : Value} {od29 an29 : Option Addr} {sl29 : Array (Option Value)}
    {t1 t2 t3 u1 u2 u3 u4 tx0 : Tok} {odK : Option Addr} {nK : Nat} {slK : Array (Option Value)} {odW : Option Addr} {nW : Nat} {slW : Array (Option Value)}
    {SE CC0 CC1 CC2 CC3 CC4 CC5 CC6 CC7 CC8 CC9 CC10 CC11 CC12 CC13 CC14 : Addr}
    {enm3 eq3 : Str} {eN3 : Addr} {ebs3 esub3 : List Value} {esn3 : List Str} {eab3 : Bool} {ecol3 : Option Bool} {edd3 : Option Addr} {em03 em13 em23 em33 em53 : Option Value}
    {bf3 : Addr} {boc3 bkV3 bdc3 bpm3 bct3 bcd3 : Value} {bod3 ban3 : Option Addr} {bsl3 : Array (Option Value)}
    (sg : PySem.W.nsIn K mainGlobals "SortError" = some (some (.ref SE)))
    (scl : PySem.W.isClsIn K SE = true)
    (sty : PySem.W.typeIn K (.ref SE) = some (.type "type"))
    (sbe : PySem.W.subIn K (.ref SE) (.type "BaseException") = some true)
    (srd : PySem.W.readsIn K SE (.type "type") = true)
    (sga : PySem.W.specialIn K (.ref SE) "__getattribute__" = some (some (.builtin "type.__getattribute__")))
    (sfi : PySem.W.findCls K (.ref SE) (.type "type") "__init__" = some (.val (.builtin "ValueError.__init__")))
    (ohn : PySem.W.specialIn K (.builtin "object.__class__") "__get__" = some (some (.builtin "getset_descriptor.__get__")))
    (oht : PySem.W.takesIn K (.builtin "object.__class__") = some true)
    (cg0 : PySem.W.nsIn K mainGlobals "BadKinds" = some (some (.ref CC0)))
    (cc0 : PySem.W.isClsIn K CC0 = true)
    (cy0 : PySem.W.typeIn K (.ref CC0) = some (.type "type"))
    (cg1 : PySem.W.nsIn K mainGlobals "BadOrder" = some (some (.ref CC1)))
    (cc1 : PySem.W.isClsIn K CC1 = true)
    (cy1 : PySem.W.typeIn K (.ref CC1) = some (.type "type"))
    (cg2 : PySem.W.nsIn K mainGlobals "BadRows" = some (some (.ref CC2)))
    (cc2 : PySem.W.isClsIn K CC2 = true)
    (cy2 : PySem.W.typeIn K (.ref CC2) = some (.type "type"))
    (cg3 : PySem.W.nsIn K mainGlobals "BadRuns" = some (some (.ref CC3)))
    (cc3 : PySem.W.isClsIn K CC3 = true)
    (cy3 : PySem.W.typeIn K (.ref CC3) = some (.type "type"))
    (cg4 : PySem.W.nsIn K mainGlobals "BadRoom" = some (some (.ref CC4)))
    (cc4 : PySem.W.isClsIn K CC4 = true)
    (cy4 : PySem.W.typeIn K (.ref CC4) = some (.type "type"))
    (cg5 : PySem.W.nsIn K mainGlobals "BadLengths" = some (some (.ref CC5)))
    (cc5 : PySem.W.isClsIn K CC5 = true)
    (cy5 : PySem.W.typeIn K (.ref CC5) = some (.type "type"))
    (cg6 : PySem.W.nsIn K mainGlobals "BadPlan" = some (some (.ref CC6)))
    (cc6 : PySem.W.isClsIn K CC6 = true)
    (cy6 : PySem.W.typeIn K (.ref CC6) = some (.type "type"))
    (cg7 : PySem.W.nsIn K mainGlobals "BadPaper" = some (some (.ref CC7)))
    (cc7 : PySem.W.isClsIn K CC7 = true)
    (cy7 : PySem.W.typeIn K (.ref CC7) = some (.type "type"))
    (cg8 : PySem.W.nsIn K mainGlobals "BadCount" = some (some (.ref CC8)))
    (cc8 : PySem.W.isClsIn K CC8 = true)
    (cy8 : PySem.W.typeIn K (.ref CC8) = some (.type "type"))
    (cg9 : PySem.W.nsIn K mainGlobals "BadBlock" = some (some (.ref CC9)))
    (cc9 : PySem.W.isClsIn K CC9 = true)
    (cy9 : PySem.W.typeIn K (.ref CC9) = some (.type "type"))
    (cg10 : PySem.W.nsIn K mainGlobals "Stopped" = some (some (.ref CC10)))
    (cc10 : PySem.W.isClsIn K CC10 = true)
    (cy10 : PySem.W.typeIn K (.ref CC10) = some (.type "type"))
    (cg11 : PySem.W.nsIn K mainGlobals "Shut" = some (some (.ref CC11)))
    (cc11 : PySem.W.isClsIn K CC11 = true)
    (cy11 : PySem.W.typeIn K (.ref CC11) = some (.type "type"))
    (cg12 : PySem.W.nsIn K mainGlobals "NotYet" = some (some (.ref CC12)))
    (cc12 : PySem.W.isClsIn K CC12 = true)
    (cy12 : PySem.W.typeIn K (.ref CC12) = some (.type "type"))
    (cg13 : PySem.W.nsIn K mainGlobals "Empty" = some (some (.ref CC13)))
    (cc13 : PySem.W.isClsIn K CC13 = true)
    (cy13 : PySem.W.typeIn K (.ref CC13) = some (.type "type"))
    (cg14 : PySem.W.nsIn K mainGlobals "BadText" = some (some (.ref CC14)))
    (cc14 : PySem.W.isClsIn K CC14 = true)
    (cy14 : PySem.W.typeIn K (.ref CC14) = some (.type "type"))
    (hg3 : PySem.W.findIn K (.ref CC3) "__getattribute__" = some (some (.builtin "BaseException.__getattribute__")))
    (hk3 : PySem.W.findIn K (.ref CC3) "__getattr__" = some none)
    (hs3 : PySem.W.subIn K (.ref CC3) (.type "BaseException") = some true)
    (hd3 : PySem.W.hasDictIn K CC3 = true)
    (ha3 : PySem.W.findIn K (.ref CC3) "__class__" = some (some (.builtin "object.__class__")))
    (hm3 : PySem.W.mroIn K CC3 (.type "object") = some true)
    (hv3 : PySem.W.subIn K (.ref CC3) (.type "ValueError") = some true)
    (hS3 : PySem.W.subIn K (.ref CC3) (.ref SE) = some true)
    (kc3 : PySem.W.keepIn K (.ref CC3) = true)
    (no3_0 : PySem.W.subIn K (.ref CC3) (.ref CC0) = some false)
    (ne3_0 : CC3 ≠ CC0)
    (no3_1 : PySem.W.subIn K (.ref CC3) (.ref CC1) = some false)
    (ne3_1 : CC3 ≠ CC1)
    (no3_2 : PySem.W.subIn K (.ref CC3) (.ref CC2) = some false)
    (ne3_2 : CC3 ≠ CC2)
    (no3_4 : PySem.W.subIn K (.ref CC3) (.ref CC4) = some false)
    (ne3_4 : CC3 ≠ CC4)
    (no3_5 : PySem.W.subIn K (.ref CC3) (.ref CC5) = some false)
    (ne3_5 : CC3 ≠ CC5)
    (no3_6 : PySem.W.subIn K (.ref CC3) (.ref CC6) = some false)
    (ne3_6 : CC3 ≠ CC6)
    (no3_7 : PySem.W.subIn K (.ref CC3) (.ref CC7) = some false)
    (ne3_7 : CC3 ≠ CC7)
    (no3_8 : PySem.W.subIn K (.ref CC3) (.ref CC8) = some false)
    (ne3_8 : CC3 ≠ CC8)
    (no3_9 : PySem.W.subIn K (.ref CC3) (.ref CC9) = some false)
    (ne3_9 : CC3 ≠ CC9)
    (no3_10 : PySem.W.subIn K (.ref CC3) (.ref CC10) = some false)
    (ne3_10 : CC3 ≠ CC10)
    (no3_11 : PySem.W.subIn K (.ref CC3) (.ref CC11) = some false)
    (ne3_11 : CC3 ≠ CC11)
    (no3_12 : PySem.W.subIn K (.ref CC3) (.ref CC12) = some false)
    (ne3_12 : CC3 ≠ CC12)
    (no3_13 : PySem.W.subIn K (.ref CC3) (.ref CC13) = some false)
    (ne3_13 : CC3 ≠ CC13)
    (no3_14 : PySem.W.subIn K (.ref CC3) (.ref CC14) = some false)
    (ne3_14 : CC3 ≠ CC14)
    (xl3 : K.lookup CC3 = some (excClassObj enm3 eq3 CC3 eN3 ebs3 [.ref SE, .type "ValueError", .type "Exception", .type "BaseException", .type "object"] true esn3 esub3 eab3 ecol3 edd3 em03 em13 em23 em33 em53 "ValueError.__new__"))
    (sa3 : PySem.W.findIn K (.ref CC3) "__setattr__" = some (some (.builtin "object.__setattr__")))
    (bi3 : PySem.W.findIn K (.ref CC3) "__init__" = some (some (.ref bf3)))
    (bt3 : PySem.W.typeIn K (.ref bf3) = some (.type "function"))
    (bl3 : K.lookup bf3 = some ⟨boc3, bod3, .func (PySem.W.fnOf "__init__" "BadRuns.__init__" (defArgs s_BadRuns_init) (defBody s_BadRuns_init) (defScope s_BadRuns_init) .none bkV3 bdc3 bpm3 ban3 bcd3 bct3), bsl3⟩)
    (bc3 : PySem.W.codeIn K bcd3 "BadRuns.__init__" = true)
    (bk3 : PySem.W.keepIn K (.ref bf3) = true)
    (bp3 : PySem.W.findIn K (.ref CC3) "number" = some none)
    (a0 : PySem.W.nsIn K mainGlobals "is_number" = some (some (.ref f0))) (l0 : K.lookup f0 = some ⟨oc0, od0, .func (PySem.W.fnOf "is_number" "is_number" (defArgs sIsNumber) (defBody sIsNumber) (defScope sIsNumber) .none kV0 dc0 pm0 an0 (.ref c0) ct0), sl0⟩) (e0 : PySem.W.codeIn K (.ref c0) "is_number" = true) (k0 : PySem.W.keepIn K (.ref f0) = true)
    (a1 : PySem.W.nsIn K mainGlobals "is_word" = some (some (.ref f1))) (l1 : K.lookup f1 = some ⟨oc1, od1, .func (PySem.W.fnOf "is_word" "is_word" (defArgs sIsWord) (defBody sIsWord) (defScope sIsWord) .none kV1 dc1 pm1 an1 (.ref c1) ct1), sl1⟩) (e1 : PySem.W.codeIn K (.ref c1) "is_word" = true) (k1 : PySem.W.keepIn K (.ref f1) = true)
    (a2 : PySem.W.nsIn K mainGlobals "is_value" = some (some (.ref f2))) (l2 : K.lookup f2 = some ⟨oc2, od2, .func (PySem.W.fnOf "is_value" "is_value" (defArgs sIsValue) (defBody sIsValue) (defScope sIsValue) .none kV2 dc2 pm2 an2 (.ref c2) ct2), sl2⟩) (e2 : PySem.W.codeIn K (.ref c2) "is_value" = true) (k2 : PySem.W.keepIn K (.ref f2) = true)
    (a3 : PySem.W.nsIn K mainGlobals "is_row" = some (some (.ref f3))) (l3 : K.lookup f3 = some ⟨oc3, od3, .func (PySem.W.fnOf "is_row" "is_row" (defArgs sIsRow) (defBody sIsRow) (defScope sIsRow) .none kV3 dc3 pm3 an3 (.ref c3) ct3), sl3⟩) (e3 : PySem.W.codeIn K (.ref c3) "is_row" = true) (k3 : PySem.W.keepIn K (.ref f3) = true)
    (a4 : PySem.W.nsIn K mainGlobals "is_part" = some (some (.ref f4))) (l4 : K.lookup f4 = some ⟨oc4, od4, .func (PySem.W.fnOf "is_part" "is_part" (defArgs sIsPart) (defBody sIsPart) (defScope sIsPart) .none kV4 dc4 pm4 an4 (.ref c4) ct4), sl4⟩) (e4 : PySem.W.codeIn K (.ref c4) "is_part" = true) (k4 : PySem.W.keepIn K (.ref f4) = true)
    (a5 : PySem.W.nsIn K mainGlobals "check_kinds" = some (some (.ref f5))) (l5 : K.lookup f5 = some ⟨oc5, od5, .func (PySem.W.fnOf "check_kinds" "check_kinds" (defArgs sCheckKinds) (defBody sCheckKinds) (defScope sCheckKinds) .none kV5 dc5 pm5 an5 (.ref c5) ct5), sl5⟩) (e5 : PySem.W.codeIn K (.ref c5) "check_kinds" = true) (k5 : PySem.W.keepIn K (.ref f5) = true)
    (a6 : PySem.W.nsIn K mainGlobals "check_order" = some (some (.ref f6))) (l6 : K.lookup f6 = some ⟨oc6, od6, .func (PySem.W.fnOf "check_order" "check_order" (defArgs sCheckOrder) (defBody sCheckOrder) (defScope sCheckOrder) .none kV6 dc6 pm6 an6 (.ref c6) ct6), sl6⟩) (e6 : PySem.W.codeIn K (.ref c6) "check_order" = true) (k6 : PySem.W.keepIn K (.ref f6) = true)
    (a7 : PySem.W.nsIn K mainGlobals "worths" = some (some (.ref f7))) (l7 : K.lookup f7 = some ⟨oc7, od7, .func (PySem.W.fnOf "worths" "worths" (defArgs sWorths) (defBody sWorths) (defScope sWorths) .none kV7 dc7 pm7 an7 (.ref c7) ct7), sl7⟩) (e7 : PySem.W.codeIn K (.ref c7) "worths" = true) (k7 : PySem.W.keepIn K (.ref f7) = true)
    (a8 : PySem.W.nsIn K mainGlobals "rank" = some (some (.ref f8))) (l8 : K.lookup f8 = some ⟨oc8, od8, .func (PySem.W.fnOf "rank" "rank" (defArgs sRank) (defBody sRank) (defScope sRank) .none kV8 dc8 pm8 an8 (.ref c8) ct8), sl8⟩) (e8 : PySem.W.codeIn K (.ref c8) "rank" = true) (k8 : PySem.W.keepIn K (.ref f8) = true)
    (a9 : PySem.W.nsIn K mainGlobals "goes_ahead" = some (some (.ref f9))) (l9 : K.lookup f9 = some ⟨oc9, od9, .func (PySem.W.fnOf "goes_ahead" "goes_ahead" (defArgs s_goes_ahead) (defBody s_goes_ahead) (defScope s_goes_ahead) .none kV9 dc9 pm9 an9 (.ref c9) ct9), sl9⟩) (e9 : PySem.W.codeIn K (.ref c9) "goes_ahead" = true) (k9 : PySem.W.keepIn K (.ref f9) = true)
    (a10 : PySem.W.nsIn K mainGlobals "is_told" = some (some (.ref f10))) (l10 : K.lookup f10 = some ⟨oc10, od10, .func (PySem.W.fnOf "is_told" "is_told" (defArgs s_is_told) (defBody s_is_told) (defScope s_is_told) .none kV10 dc10 pm10 an10 (.ref c10) ct10), sl10⟩) (e10 : PySem.W.codeIn K (.ref c10) "is_told" = true) (k10 : PySem.W.keepIn K (.ref f10) = true)
    (a11 : PySem.W.nsIn K mainGlobals "is_run" = some (some (.ref f11))) (l11 : K.lookup f11 = some ⟨oc11, od11, .func (PySem.W.fnOf "is_run" "is_run" (defArgs s_is_run) (defBody s_is_run) (defScope s_is_run) .none kV11 dc11 pm11 an11 (.ref c11) ct11), sl11⟩) (e11 : PySem.W.codeIn K (.ref c11) "is_run" = true) (k11 : PySem.W.keepIn K (.ref f11) = true)
    (a12 : PySem.W.nsIn K mainGlobals "check_runs" = some (some (.ref f12))) (l12 : K.lookup f12 = some ⟨oc12, od12, .func (PySem.W.fnOf "check_runs" "check_runs" (defArgs s_check_runs) (defBody s_check_runs) (defScope s_check_runs) .none kV12 dc12 pm12 an12 (.ref c12) ct12), sl12⟩) (e12 : PySem.W.codeIn K (.ref c12) "check_runs" = true) (k12 : PySem.W.keepIn K (.ref f12) = true)
    (a13 : PySem.W.nsIn K mainGlobals "merged" = some (some (.ref f13))) (l13 : K.lookup f13 = some ⟨oc13, od13, .func (PySem.W.fnOf "merged" "merged" (defArgs s_merged) (defBody s_merged) (defScope s_merged) .none kV13 dc13 pm13 an13 (.ref c13) ct13), sl13⟩) (e13 : PySem.W.codeIn K (.ref c13) "merged" = true) (k13 : PySem.W.keepIn K (.ref f13) = true)
    (a14 : PySem.W.nsIn K mainGlobals "merged_pair" = some (some (.ref f14))) (l14 : K.lookup f14 = some ⟨oc14, od14, .func (PySem.W.fnOf "merged_pair" "merged_pair" (defArgs s_merged_pair) (defBody s_merged_pair) (defScope s_merged_pair) .none kV14 dc14 pm14 an14 (.ref c14) ct14), sl14⟩) (e14 : PySem.W.codeIn K (.ref c14) "merged_pair" = true) (k14 : PySem.W.keepIn K (.ref f14) = true)
    (a15 : PySem.W.nsIn K mainGlobals "_law_begun" = some (some (.ref f15))) (l15 : K.lookup f15 = some ⟨oc15, od15, .func (PySem.W.fnOf "_law_begun" "_law_begun" (defArgs sBegun) (defBody sBegun) (defScope sBegun) .none kV15 dc15 pm15 an15 (.ref c15) ct15), sl15⟩) (e15 : PySem.W.codeIn K (.ref c15) "_law_begun" = true) (k15 : PySem.W.keepIn K (.ref f15) = true)
    (a16 : PySem.W.nsIn K mainGlobals "_law_take" = some (some (.ref f16))) (l16 : K.lookup f16 = some ⟨oc16, od16, .func (PySem.W.fnOf "_law_take" "_law_take" (defArgs sTake) (defBody sTake) (defScope sTake) .none kV16 dc16 pm16 an16 (.ref c16) ct16), sl16⟩) (e16 : PySem.W.codeIn K (.ref c16) "_law_take" = true) (k16 : PySem.W.keepIn K (.ref f16) = true)
    (a17 : PySem.W.nsIn K mainGlobals "_law_alike" = some (some (.ref f17))) (l17 : K.lookup f17 = some ⟨oc17, od17, .func (PySem.W.fnOf "_law_alike" "_law_alike" (defArgs sAlike) (defBody sAlike) (defScope sAlike) .none kV17 dc17 pm17 an17 (.ref c17) ct17), sl17⟩) (e17 : PySem.W.codeIn K (.ref c17) "_law_alike" = true) (k17 : PySem.W.keepIn K (.ref f17) = true)
    (a18 : PySem.W.nsIn K mainGlobals "_law_class" = some (some (.ref f18))) (l18 : K.lookup f18 = some ⟨oc18, od18, .func (PySem.W.fnOf "_law_class" "_law_class" (defArgs sClass) (defBody sClass) (defScope sClass) .none kV18 dc18 pm18 an18 (.ref c18) ct18), sl18⟩) (e18 : PySem.W.codeIn K (.ref c18) "_law_class" = true) (k18 : PySem.W.keepIn K (.ref f18) = true)
    (a19 : PySem.W.nsIn K mainGlobals "_law_told" = some (some (.ref f19))) (l19 : K.lookup f19 = some ⟨oc19, od19, .func (PySem.W.fnOf "_law_told" "_law_told" (defArgs sTold) (defBody sTold) (defScope sTold) .none kV19 dc19 pm19 an19 (.ref c19) ct19), sl19⟩) (e19 : PySem.W.codeIn K (.ref c19) "_law_told" = true) (k19 : PySem.W.keepIn K (.ref f19) = true)
    (a20 : PySem.W.nsIn K mainGlobals "_law_all" = some (some (.ref f20))) (l20 : K.lookup f20 = some ⟨oc20, od20, .func (PySem.W.fnOf "_law_all" "_law_all" (defArgs sAll) (defBody sAll) (defScope sAll) .none kV20 dc20 pm20 an20 (.ref c20) ct20), sl20⟩) (e20 : PySem.W.codeIn K (.ref c20) "_law_all" = true) (k20 : PySem.W.keepIn K (.ref f20) = true)
    (a21 : PySem.W.nsIn K mainGlobals "_law_kinds" = some (some (.ref f21))) (l21 : K.lookup f21 = some ⟨oc21, od21, .func (PySem.W.fnOf "_law_kinds" "_law_kinds" (defArgs sKinds) (defBody sKinds) (defScope sKinds) .none kV21 dc21 pm21 an21 (.ref c21) ct21), sl21⟩) (e21 : PySem.W.codeIn K (.ref c21) "_law_kinds" = true) (k21 : PySem.W.keepIn K (.ref f21) = true)
    (a22 : PySem.W.nsIn K mainGlobals "_law_order" = some (some (.ref f22))) (l22 : K.lookup f22 = some ⟨oc22, od22, .func (PySem.W.fnOf "_law_order" "_law_order" (defArgs sOrder) (defBody sOrder) (defScope sOrder) .none kV22 dc22 pm22 an22 (.ref c22) ct22), sl22⟩) (e22 : PySem.W.codeIn K (.ref c22) "_law_order" = true) (k22 : PySem.W.keepIn K (.ref f22) = true)
    (a23 : PySem.W.nsIn K mainGlobals "_law_value" = some (some (.ref f23))) (l23 : K.lookup f23 = some ⟨oc23, od23, .func (PySem.W.fnOf "_law_value" "_law_value" (defArgs sValue) (defBody sValue) (defScope sValue) .none kV23 dc23 pm23 an23 (.ref c23) ct23), sl23⟩) (e23 : PySem.W.codeIn K (.ref c23) "_law_value" = true) (k23 : PySem.W.keepIn K (.ref f23) = true)
    (a24 : PySem.W.nsIn K mainGlobals "_law_rows" = some (some (.ref f24))) (l24 : K.lookup f24 = some ⟨oc24, od24, .func (PySem.W.fnOf "_law_rows" "_law_rows" (defArgs sRows) (defBody sRows) (defScope sRows) .none kV24 dc24 pm24 an24 (.ref c24) ct24), sl24⟩) (e24 : PySem.W.codeIn K (.ref c24) "_law_rows" = true) (k24 : PySem.W.keepIn K (.ref f24) = true)
    (a25 : PySem.W.nsIn K mainGlobals "_law_ahead" = some (some (.ref f25))) (l25 : K.lookup f25 = some ⟨oc25, od25, .func (PySem.W.fnOf "_law_ahead" "_law_ahead" (defArgs sAhead) (defBody sAhead) (defScope sAhead) .none kV25 dc25 pm25 an25 (.ref c25) ct25), sl25⟩) (e25 : PySem.W.codeIn K (.ref c25) "_law_ahead" = true) (k25 : PySem.W.keepIn K (.ref f25) = true)
    (a26 : PySem.W.nsIn K mainGlobals "_law_sorted" = some (some (.ref f26))) (l26 : K.lookup f26 = some ⟨oc26, od26, .func (PySem.W.fnOf "_law_sorted" "_law_sorted" (defArgs sSorted) (defBody sSorted) (defScope sSorted) .none kV26 dc26 pm26 an26 (.ref c26) ct26), sl26⟩) (e26 : PySem.W.codeIn K (.ref c26) "_law_sorted" = true) (k26 : PySem.W.keepIn K (.ref f26) = true)
    (a27 : PySem.W.nsIn K mainGlobals "_law_parts" = some (some (.ref f27))) (l27 : K.lookup f27 = some ⟨oc27, od27, .func (PySem.W.fnOf "_law_parts" "_law_parts" (defArgs s__law_parts) (defBody s__law_parts) (defScope s__law_parts) .none kV27 dc27 pm27 an27 (.ref c27) ct27), sl27⟩) (e27 : PySem.W.codeIn K (.ref c27) "_law_parts" = true) (k27 : PySem.W.keepIn K (.ref f27) = true)
    (a28 : PySem.W.nsIn K mainGlobals "_law_bad" = some (some (.ref f28))) (l28 : K.lookup f28 = some ⟨oc28, od28, .func (PySem.W.fnOf "_law_bad" "_law_bad" (defArgs s__law_bad) (defBody s__law_bad) (defScope s__law_bad) .none kV28 dc28 pm28 an28 (.ref c28) ct28), sl28⟩) (e28 : PySem.W.codeIn K (.ref c28) "_law_bad" = true) (k28 : PySem.W.keepIn K (.ref f28) = true)
    (a29 : PySem.W.nsIn K mainGlobals "law" = some (some (.ref f29))) (l29 : K.lookup f29 = some ⟨oc29, od29, .func (PySem.W.fnOf "law" "law" (defArgs sLaw) (defBody sLaw) (defScope sLaw) .none kV29 dc29 pm29 an29 (.ref c29) ct29), sl29⟩) (e29 : PySem.W.codeIn K (.ref c29) "law" = true) (k29 : PySem.W.keepIn K (.ref f29) = true)
    (z0 : PySem.W.nsIn K mainGlobals "isinstance" = some none)
    (z1 : PySem.W.nsIn K mainGlobals "int" = some none)
    (z2 : PySem.W.nsIn K mainGlobals "bool" = some none)
    (z3 : PySem.W.nsIn K mainGlobals "str" = some none)
    (z4 : PySem.W.nsIn K mainGlobals "list" = some none)
    (z5 : PySem.W.nsIn K mainGlobals "tuple" = some none)
    (z6 : PySem.W.nsIn K mainGlobals "len" = some none)
    (z7 : PySem.W.nsIn K mainGlobals "all" = some none)
    (z8 : PySem.W.nsIn K mainGlobals "zip" = some none)
    (z9 : PySem.W.nsIn K mainGlobals "enumerate" = some none)
    (z10 : PySem.W.nsIn K mainGlobals "ord" = some none)
    (z11 : PySem.W.nsIn K mainGlobals "range" = some none)
    (z12 : PySem.W.nsIn K mainGlobals "sorted" = some none)
    (z13 : PySem.W.nsIn K mainGlobals "max" = some none)
    (z14 : PySem.W.nsIn K mainGlobals "min" = some none)
    (y0 : PySem.W.nsIn K mainGlobals "MOST_COLUMNS" = some (some (.int 4 t1)))
    (y1 : PySem.W.nsIn K mainGlobals "MOST_NUMBER" = some (some (.int 999 t2)))
    (y2 : PySem.W.nsIn K mainGlobals "MOST_LETTERS" = some (some (.int 6 t3)))
    (yx0 : PySem.W.nsIn K mainGlobals "MOST_RUNS" = some (some (.int 40 tx0)))
    (ak : PySem.W.nsIn K mainGlobals "KINDS" = some (some (.ref aK))) (lk : K.lookup aK = some ⟨.type "tuple", odK, .seq #[.str "number" u1, .str "word" u2] nK, slK⟩)
    (aw : PySem.W.nsIn K mainGlobals "WAYS" = some (some (.ref aW))) (lw : K.lookup aW = some ⟨.type "tuple", odW, .seq #[.str "up" u3, .str "down" u4] nW, slW⟩)
    (zzValueError : PySem.W.nsIn K mainGlobals "ValueError" = some none)
    (rW : (recsOf q).find? (fun e => e.name == ("is_word" : Str)) = some dW) (hW : K.lookup c1 = some ⟨eW, ddW, .fields vsW, stW⟩) (iW : vsW[11]? = some (.ref pW)) (nW' : K.lookup pW = none)
    (rR : (recsOf q).find? (fun e => e.name == ("is_row" : Str)) = some dR) (hR : K.lookup c3 = some ⟨eR, ddR, .fields vsR, stR⟩) (iR : vsR[11]? = some (.ref pR)) (nR' : K.lookup pR = none)
    (rK : (recsOf q).find? (fun e => e.name == ("check_kinds" : Str)) = some dK) (hK : K.lookup c5 = some ⟨eK, ddK, .fields vsK, stK⟩) (iK : vsK[11]? = some (.ref pK)) (nK' : K.lookup pK = none)
    (rN : (recsOf q).find? (fun e => e.name == ("is_run" : Str)) = some dN) (hN : K.lookup c11 = some ⟨eN, ddN, .fields vsN, stN⟩) (iN : vsN[11]? = some (.ref pN)) (nN' : K.lookup pN = none)
    (rL : (recsOf q).find? (fun e => e.name == ("law" : Str)) = some dL) (hL : K.lookup c29 = some ⟨eL, ddL, .fields vsL, stL⟩) (iL : vsL[11]? = some (.ref pL)) (nL' : K.lookup pL = none)
    (dLW' : pL ≠ pW)
    (dLR' : pL ≠ pR)
    (dLK' : pL ≠ pK)
    (dLN' : pL ≠ pN)
    : LamX.LawAtS l w K CX0 44 63 "_law_script" mg fa h := by
  have efa := hfa.symm.trans (PySem.W.mg_of X G a29)
  cases efa
  have gW := tabs "is_word" dW c1 pW rW (tab_in (st := sIsWord) a1 l1 hW iW)
  have gR := tabs "is_row" dR c3 pR rR (tab_in (st := sIsRow) a3 l3 hR iR)
  have gK := tabs "check_kinds" dK c5 pK rK (tab_in (st := sCheckKinds) a5 l5 hK iK)
  have gN := tabs "is_run" dN c11 pN rN (tab_in (st := s_is_run) a11 l11 hN iN)
  have gL := tabs "law" dL c29 pL rL (tab_in (st := sLaw) a29 l29 hL iL)
  have T : Txt K mg := ⟨PySem.W.mg_none_of X G z0, PySem.W.mg_none_of X G z1, PySem.W.mg_none_of X G z2, PySem.W.mg_none_of X G z3, PySem.W.mg_none_of X G z4, PySem.W.mg_none_of X G z5, PySem.W.mg_none_of X G z6, PySem.W.mg_none_of X G z7, PySem.W.mg_none_of X G z8, PySem.W.mg_none_of X G z9, PySem.W.mg_none_of X G z10, PySem.W.mg_none_of X G z11, PySem.W.mg_none_of X G z12, PySem.W.mg_none_of X G z13, PySem.W.mg_none_of X G z14, ⟨t1, PySem.W.mg_of X G y0⟩, ⟨t2, PySem.W.mg_of X G y1⟩, ⟨t3, PySem.W.mg_of X G y2⟩, ⟨aK, PySem.W.mg_of X G ak, two_in lk⟩, ⟨aW, PySem.W.mg_of X G aw, two_in lw⟩⟩
  have ZValueError : mg "ValueError" = none := PySem.W.mg_none_of X G zzValueError
  have D0 := def_at (st := sIsNumber) X G a0 l0 e0 k0
  have D1 := def_at (st := sIsWord) X G a1 l1 e1 k1
  have D2 := def_at (st := sIsValue) X G a2 l2 e2 k2
  have D3 := def_at (st := sIsRow) X G a3 l3 e3 k3
  have D4 := def_at (st := sIsPart) X G a4 l4 e4 k4
  have D5 := def_at (st := sCheckKinds) X G a5 l5 e5 k5
  have D6 := def_at (st := sCheckOrder) X G a6 l6 e6 k6
  have D7 := def_at (st := sWorths) X G a7 l7 e7 k7
  have D8 := def_at (st := sRank) X G a8 l8 e8 k8
  have D9 := def_at (st := s_goes_ahead) X G a9 l9 e9 k9
  have D10 := def_at (st := s_is_told) X G a10 l10 e10 k10
  have D11 := def_at (st := s_is_run) X G a11 l11 e11 k11
  have D12 := def_at (st := s_check_runs) X G a12 l12 e12 k12
  have D13 := def_at (st := s_merged) X G a13 l13 e13 k13
  have D14 := def_at (st := s_merged_pair) X G a14 l14 e14 k14
  have D15 := def_at (st := sBegun) X G a15 l15 e15 k15
  have D16 := def_at (st := sTake) X G a16 l16 e16 k16
  have D17 := def_at (st := sAlike) X G a17 l17 e17 k17
  have D18 := def_at (st := sClass) X G a18 l18 e18 k18
  have D19 := def_at (st := sTold) X G a19 l19 e19 k19
  have D20 := def_at (st := sAll) X G a20 l20 e20 k20
  have D21 := def_at (st := sKinds) X G a21 l21 e21 k21
  have D22 := def_at (st := sOrder) X G a22 l22 e22 k22
  have D23 := def_at (st := sValue) X G a23 l23 e23 k23
  have D24 := def_at (st := sRows) X G a24 l24 e24 k24
  have D25 := def_at (st := sAhead) X G a25 l25 e25 k25
  have D26 := def_at (st := sSorted) X G a26 l26 e26 k26
  have D27 := def_at (st := s__law_parts) X G a27 l27 e27 k27
  have D28 := def_at (st := s__law_bad) X G a28 l28 e28 k28
  have D29 := def_at (st := sLaw) X G a29 l29 e29 k29
  refine ⟨PySem.W.fnOf "law" "law" (defArgs sLaw) (defBody sLaw) (defScope sLaw) .none kV29 dc29 pm29 an29 (.ref c29) ct29, [(c1, pW), (c3, pR), (c5, pK), (c11, pN), (c29, pL)], spT [pW, pR, pK, pN] (spLaw5 K pK pW pR pN pL), ?_, ?_, ?_, fun s v => .of_eq rfl, ?_, fun base KB GB TB => ?_⟩
  · intro p hp
    simp only [List.mem_cons, List.not_mem_nil, or_false] at hp
    rcases hp with rfl | rfl | rfl | rfl | rfl
    · exact gW.2
    · exact gR.2
    · exact gK.2
    · exact gN.2
    · exact gL.2
  · intro p hp
    simp only [List.mem_cons, List.not_mem_nil, or_false] at hp
    rcases hp with rfl | rfl | rfl | rfl | rfl
    · exact nW'
    · exact nR'
    · exact nK'
    · exact nN'
    · exact nL'
  · intro p hp
    simp only [List.mem_cons, List.not_mem_nil, or_false] at hp
    rcases hp with rfl | rfl | rfl | rfl | rfl
    · exact gW.1
    · exact gR.1
    · exact gK.1
    · exact gN.1
    · exact gL.1
  · intro H a ns hl hb hT hS
    have hT2 : ∀ b ∈ [pW, pR, pK, pN], H b = some (.tbl #[]) := fun b hb => by
      simp only [List.mem_cons, List.not_mem_nil, or_false] at hb
      rcases hb with rfl | rfl | rfl | rfl
      · exact hT (c1, b) (by simp)
      · exact hT (c3, b) (by simp)
      · exact hT (c5, b) (by simp)
      · exact hT (c11, b) (by simp)
    have hFL : H pL = some (.tbl #[]) := hT (c29, pL) (by simp)
    refine ⟨hT2, a, ns, rfl, ?_, ext_in (by simp), ext_in (by simp), ext_in (by simp), ext_in (by simp), .nil ((ext_out (by simp [dLW', dLR', dLK', dLN'])).trans hFL), fun H' tK tW tR tN => ⟨fun b hb => ?_, fun _ => rfl⟩⟩
    · rcases hS with (hS | ⟨o, hS⟩) | hS
      · refine .inl (.inl ?_)
        rw [ext_out fun hb => by rw [hT2 a hb] at hS; cases hS]
        exact hS
      · refine .inl (.inr ⟨o, ?_⟩)
        rw [ext_out fun hb => by rw [hT2 a hb] at hS; cases hS]
        exact hS
      · exact .inr hS
    · simp only [List.mem_cons, List.not_mem_nil, or_false] at hb
      rcases hb with rfl | rfl | rfl | rfl
      · exact tW
      · exact tR
      · exact tK
      · exact tN
  · have bW := TB (c1, pW) (by simp)
    have bR := TB (c3, pR) (by simp)
    have bK := TB (c5, pK) (by simp)
    have bN := TB (c11, pN) (by simp)
    have bL := TB (c29, pL) (by simp)
    let CC : Nat → Addr := listC [CC0, CC1, CC2, CC3, CC4, CC5, CC6, CC7, CC8, CC9, CC10, CC11, CC12, CC13, CC14]
    have gSE := PySem.W.mg_of X G sg
    have G15 : Cls15 mg CC := ⟨PySem.W.mg_of X G cg0, PySem.W.mg_of X G cg1, PySem.W.mg_of X G cg2, PySem.W.mg_of X G cg3, PySem.W.mg_of X G cg4, PySem.W.mg_of X G cg5, PySem.W.mg_of X G cg6, PySem.W.mg_of X G cg7, PySem.W.mg_of X G cg8, PySem.W.mg_of X G cg9, PySem.W.mg_of X G cg10, PySem.W.mg_of X G cg11, PySem.W.mg_of X G cg12, PySem.W.mg_of X G cg13, PySem.W.mg_of X G cg14⟩
    have cl15 : ∀ i < 15, PySem.W.isClsIn K (CC i) = true ∧ PySem.W.typeIn K (.ref (CC i)) = some (.type "type") := fun i hi => match i, hi with
      | 0, _ => ⟨cc0, cy0⟩
      | 1, _ => ⟨cc1, cy1⟩
      | 2, _ => ⟨cc2, cy2⟩
      | 3, _ => ⟨cc3, cy3⟩
      | 4, _ => ⟨cc4, cy4⟩
      | 5, _ => ⟨cc5, cy5⟩
      | 6, _ => ⟨cc6, cy6⟩
      | 7, _ => ⟨cc7, cy7⟩
      | 8, _ => ⟨cc8, cy8⟩
      | 9, _ => ⟨cc9, cy9⟩
      | 10, _ => ⟨cc10, cy10⟩
      | 11, _ => ⟨cc11, cy11⟩
      | 12, _ => ⟨cc12, cy12⟩
      | 13, _ => ⟨cc13, cy13⟩
      | 14, _ => ⟨cc14, cy14⟩
    have oe3 : OneE K SE CC3 := ⟨⟨hg3, hk3, hs3, hd3, ha3, ohn, oht, hm3⟩, hv3, exm_mk sbe scl sty hS3⟩
    have o15_3 : Own15 K CC CC3 3 := own15_mk (C := CC) (j := 3) (by decide) oe3 cl15 fun i hi n => match i, hi, n with
      | 0, _, _ => ⟨ne3_0, no3_0⟩
      | 1, _, _ => ⟨ne3_1, no3_1⟩
      | 2, _, _ => ⟨ne3_2, no3_2⟩
      | 3, _, n => absurd rfl n
      | 4, _, _ => ⟨ne3_4, no3_4⟩
      | 5, _, _ => ⟨ne3_5, no3_5⟩
      | 6, _, _ => ⟨ne3_6, no3_6⟩
      | 7, _, _ => ⟨ne3_7, no3_7⟩
      | 8, _, _ => ⟨ne3_8, no3_8⟩
      | 9, _, _ => ⟨ne3_9, no3_9⟩
      | 10, _, _ => ⟨ne3_10, no3_10⟩
      | 11, _, _ => ⟨ne3_11, no3_11⟩
      | 12, _, _ => ⟨ne3_12, no3_12⟩
      | 13, _, _ => ⟨ne3_13, no3_13⟩
      | 14, _, _ => ⟨ne3_14, no3_14⟩
    have oxc3 : OexC K CC3 := ⟨⟨_, _, _, _, _, _, _, _, _, _, _, _, _, _, _, xl3, by rfl⟩, sa3, hs3, cy3, kc3⟩
    have NE : NumE l.prog w K mg base "BadRuns" "number" CC3 := init_number (fun_mk bl3 bc3 bk3) oxc3 bi3 bt3 (PySem.W.mg_of X G cg3) bp3 gSE ⟨srd, sga⟩ sfi
    have eB : ErrB K SE CC CC3 := ⟨o15_3, oe3.se, ⟨hg3, hk3, hs3, hd3⟩, bp3⟩
    have P0 : Cal l.prog w K mg base CX0 1 "is_number" ["value"] (spNum K) := is_number_ok D0 T
    have P1 : Cal l.prog w K mg base CX0 2 "is_word" ["value"] (spWord K pW) := is_word_ok D1 T (tabB_of bW)
    have P2 : Cal l.prog w K mg base CX0 3 "is_value" ["kind", "value"] (spValue K pW) := is_value_ok D2 T P1 P0
    have P3 : Cal l.prog w K mg base CX0 5 "is_row" ["kinds", "row"] (spRow K pW pR) := is_row_ok D3 T (tabB_of bR) P2
    have P4 : Cal l.prog w K mg base CX0 2 "is_part" ["kinds", "part"] (spPart K) := is_part_ok D4 T P0
    have P5 : Cal l.prog w K mg base CX0 2 "check_kinds" ["kinds"] (spCheckKinds K pK) := check_kinds_ok D5 T (tabB_of bK)
    have P6 : Cal l.prog w K mg base CX0 3 "check_order" ["kinds", "order"] (spCheckOrder K) := check_order_ok D6 T P4
    have P7 : Cal l.prog w K mg base CX0 1 "worths" ["value"] (spWorths K) := worths_ok D7 T
    have P8 : Cal l.prog w K mg base CX0 2 "rank" ["order", "told"] (spRank K) := rank_ok D8 T P7
    have P9 : Cal l.prog w K mg base CX0 3 "goes_ahead" ["order", "one", "other"] (spGoes K) := goes_ok D9 P8
    have P10 : Cal l.prog w K mg base CX0 6 "is_told" ["kinds", "told"] (spIsTold K pW pR) := is_told_ok D10 T P0 P3
    have P11 : Cal l.prog w K mg base CX0 8 "is_run" ["kinds", "order", "run"] (spIsRun K pW pR pN) := is_run_ok D11 T (tabB_of bN) P10 P9
    have P12 : Cal l.prog w K mg base (L2.CX l.prog w) 9 "check_runs" ["kinds", "order", "runs"] (spCheckRuns K CC3 pW pR pN) := check_runs_ok D12 T (PySem.W.mg_of X G yx0) NE P11
    have P14 : Cal l.prog w K mg base CX0 4 "merged_pair" ["order", "pair"] (spMPair K) := mpair_ok D14 T P9
    have P13 : Cal l.prog w K mg base (L2.CX l.prog w) 10 "merged" ["kinds", "order", "runs"] (spMerged K CC3 pK pW pR pN) := merged_ok D13 T P5 P6 P12 P14
    have P15 : Cal l.prog w K mg base CX0 1 "_law_begun" ["_law_script"] (spBegun K) := begun_ok D15 T
    have P16 : Cal l.prog w K mg base CX0 1 "_law_take" ["_law_box", "_law_many"] (spTake) := take_ok D16
    have P17 : Cal l.prog w K mg base CX0 42 "_law_alike" ["_law_found", "_law_due"] (spAlike K 40) := alike_ok D17 T 40
    have P18 : CalW l.prog w K mg base 1 "_law_class" ["_law_e"] (spClass K CC) := class_ok D18 T G15 ZValueError
    have P19 : Cal l.prog w K mg base CX0 12 "_law_told" ["_law_work"] (spTold l.prog w K mg base SE CC 11) := told_ok D19 11 (by decide) gSE P18
    have P20 : Cal l.prog w K mg base CX0 43 "_law_all" ["_law_works", "_law_due"] (spAll l.prog w K mg base SE CC 11) := all_ok D20 11 42 (by decide) (by decide) P19 P17
    have P21 : Cal l.prog w K mg base CX0 2 "_law_kinds" ["_law_box"] (spKinds K) := kinds_ok D21 T P16
    have P22 : Cal l.prog w K mg base CX0 2 "_law_order" ["_law_box", "_law_kinds_here"] (spOrder K) := order_ok D22 T P16
    have P23 : Cal l.prog w K mg base CX0 2 "_law_value" ["_law_box", "_law_kind"] (spValueL K) := value_ok D23 T P16
    have P24 : Cal l.prog w K mg base CX0 3 "_law_rows" ["_law_box", "_law_kinds_here", "_law_most"] (spRows K) := rows_ok D24 T P16 P23
    have P25 : Cal l.prog w K mg base CX0 1 "_law_ahead" ["_law_order_here", "_law_one", "_law_other"] (spAhead K) := ahead_ok D25
    have P26 : Cal l.prog w K mg base CX0 2 "_law_sorted" ["_law_order_here", "_law_pairs_here"] (spSorted K) := sorted_ok D26 T P25
    have P27 : Cal l.prog w K mg base CX0 3 "_law_parts" ["_law_box", "_law_order_here", "_law_rows_here", "_law_most"] (spParts K) := parts_ok D27 T P16 P26
    have P28 : Cal l.prog w K mg base CX0 2 "_law_bad" ["_law_box", "_law_order_here", "_law_runs"] (spBad K) := lawbad_ok D28 T P16
    exact FnOk.tables (law5_fn l29 e29 T bL eB ⟨P15, P16, P21, P22, P24, P26, P27, P28, P17, P20, P13⟩)
end RS
set_option Elab.async false
open PySem PySem.W PyProof.Rows in
set_option maxRecDepth 100000 in
set_option maxHeartbeats 0 in
theorem PySem.Challenge.cw_runsorts_k05_merges_holds : PySem.Challenge.rw_runsorts_k05_merges.Holds := by
  w_on; o_law; k_head; (case hw => w_witness2)
  k_fill
  refine RS.walk_tabs (l := PySem.Challenge.rw_runsorts_k05_merges) (n := 63) (k := 44) (x := "_law_script") rfl (by decide) rfl ⟨rfl, by decide, by decide⟩ (fun w h Y => PySem.W.km_in_of Y) ?F
  case F =>
    intro w mg fa h KX G hmg tabs
    refine' RS.all_mk tabs KX G hmg ?sg ?scl ?sty ?sbe ?srd ?sga ?sfi ?ohn ?oht ?cg0 ?cc0 ?cy0 ?cg1 ?cc1 ?cy1 ?cg2 ?cc2 ?cy2 ?cg3 ?cc3 ?cy3 ?cg4 ?cc4 ?cy4 ?cg5 ?cc5 ?cy5 ?cg6 ?cc6 ?cy6 ?cg7 ?cc7 ?cy7 ?cg8 ?cc8 ?cy8 ?cg9 ?cc9 ?cy9 ?cg10 ?cc10 ?cy10 ?cg11 ?cc11 ?cy11 ?cg12 ?cc12 ?cy12 ?cg13 ?cc13 ?cy13 ?cg14 ?cc14 ?cy14 ?hg3 ?hk3 ?hs3 ?hd3 ?ha3 ?hm3 ?hv3 ?hS3 ?kc3 ?no3_0 ?ne3_0 ?no3_1 ?ne3_1 ?no3_2 ?ne3_2 ?no3_4 ?ne3_4 ?no3_5 ?ne3_5 ?no3_6 ?ne3_6 ?no3_7 ?ne3_7 ?no3_8 ?ne3_8 ?no3_9 ?ne3_9 ?no3_10 ?ne3_10 ?no3_11 ?ne3_11 ?no3_12 ?ne3_12 ?no3_13 ?ne3_13 ?no3_14 ?ne3_14 ?xl3 ?sa3 ?bi3 ?bt3 ?bl3 ?bc3 ?bk3 ?bp3 ?a0 ?l0 ?e0 ?k0 ?a1 ?l1 ?e1 ?k1 ?a2 ?l2 ?e2 ?k2 ?a3 ?l3 ?e3 ?k3 ?a4 ?l4 ?e4 ?k4 ?a5 ?l5 ?e5 ?k5 ?a6 ?l6 ?e6 ?k6 ?a7 ?l7 ?e7 ?k7 ?a8 ?l8 ?e8 ?k8 ?a9 ?l9 ?e9 ?k9 ?a10 ?l10 ?e10 ?k10 ?a11 ?l11 ?e11 ?k11 ?a12 ?l12 ?e12 ?k12 ?a13 ?l13 ?e13 ?k13 ?a14 ?l14 ?e14 ?k14 ?a15 ?l15 ?e15 ?k15 ?a16 ?l16 ?e16 ?k16 ?a17 ?l17 ?e17 ?k17 ?a18 ?l18 ?e18 ?k18 ?a19 ?l19 ?e19 ?k19 ?a20 ?l20 ?e20 ?k20 ?a21 ?l21 ?e21 ?k21 ?a22 ?l22 ?e22 ?k22 ?a23 ?l23 ?e23 ?k23 ?a24 ?l24 ?e24 ?k24 ?a25 ?l25 ?e25 ?k25 ?a26 ?l26 ?e26 ?k26 ?a27 ?l27 ?e27 ?k27 ?a28 ?l28 ?e28 ?k28 ?a29 ?l29 ?e29 ?k29 ?z0 ?z1 ?z2 ?z3 ?z4 ?z5 ?z6 ?z7 ?z8 ?z9 ?z10 ?z11 ?z12 ?z13 ?z14 ?y0 ?y1 ?y2 ?yx0 ?ak ?lk ?aw ?lw ?zzValueError ?rW ?hW ?iW ?nW2 ?rR ?hR ?iR ?nR2 ?rK ?hK ?iK ?nK2 ?rN ?hN ?iN ?nN2 ?rL ?hL ?iL ?nL2 ?dLW2 ?dLR2 ?dLK2 ?dLN2
    (case sg => k_is)
    (case scl => k_is)
    (case sty => k_is)
    (case sbe => k_is)
    (case srd => k_is)
    (case sga => k_is)
    (case sfi => k_is)
    (case ohn => k_is)
    (case oht => k_is)
    (case cg0 => k_is)
    (case cc0 => k_is)
    (case cy0 => k_is)
    (case cg1 => k_is)
    (case cc1 => k_is)
    (case cy1 => k_is)
    (case cg2 => k_is)
    (case cc2 => k_is)
    (case cy2 => k_is)
    (case cg3 => k_is)
    (case cc3 => k_is)
    (case cy3 => k_is)
    (case cg4 => k_is)
    (case cc4 => k_is)
    (case cy4 => k_is)
    (case cg5 => k_is)
    (case cc5 => k_is)
    (case cy5 => k_is)
    (case cg6 => k_is)
    (case cc6 => k_is)
    (case cy6 => k_is)
    (case cg7 => k_is)
    (case cc7 => k_is)
    (case cy7 => k_is)
    (case cg8 => k_is)
    (case cc8 => k_is)
    (case cy8 => k_is)
    (case cg9 => k_is)
    (case cc9 => k_is)
    (case cy9 => k_is)
    (case cg10 => k_is)
    (case cc10 => k_is)
    (case cy10 => k_is)
    (case cg11 => k_is)
    (case cc11 => k_is)
    (case cy11 => k_is)
    (case cg12 => k_is)
    (case cc12 => k_is)
    (case cy12 => k_is)
    (case cg13 => k_is)
    (case cc13 => k_is)
    (case cy13 => k_is)
    (case cg14 => k_is)
    (case cc14 => k_is)
    (case cy14 => k_is)
    (case hg3 => k_is)
    (case hk3 => k_is)
    (case hs3 => k_is)
    (case hd3 => k_is)
    (case ha3 => k_is)
    (case hm3 => k_is)
    (case hv3 => k_is)
    (case hS3 => k_is)
    (case kc3 => k_is)
    (case no3_0 => k_is)
    (case ne3_0 => decide)
    (case no3_1 => k_is)
    (case ne3_1 => decide)
    (case no3_2 => k_is)
    (case ne3_2 => decide)
    (case no3_4 => k_is)
    (case ne3_4 => decide)
    (case no3_5 => k_is)
    (case ne3_5 => decide)
    (case no3_6 => k_is)
    (case ne3_6 => decide)
    (case no3_7 => k_is)
    (case ne3_7 => decide)
    (case no3_8 => k_is)
    (case ne3_8 => decide)
    (case no3_9 => k_is)
    (case ne3_9 => decide)
    (case no3_10 => k_is)
    (case ne3_10 => decide)
    (case no3_11 => k_is)
    (case ne3_11 => decide)
    (case no3_12 => k_is)
    (case ne3_12 => decide)
    (case no3_13 => k_is)
    (case ne3_13 => decide)
    (case no3_14 => k_is)
    (case ne3_14 => decide)
    (case xl3 => k_is)
    (case sa3 => k_is)
    (case bi3 => k_is)
    (case bt3 => k_is)
    (case bl3 => k_is)
    (case bc3 => k_is)
    (case bk3 => k_is)
    (case bp3 => k_is)
    (case a0 => k_is)
    (case l0 => k_is)
    (case e0 => k_is)
    (case k0 => k_is)
    (case a1 => k_is)
    (case l1 => k_is)
    (case e1 => k_is)
    (case k1 => k_is)
    (case a2 => k_is)
    (case l2 => k_is)
    (case e2 => k_is)
    (case k2 => k_is)
    (case a3 => k_is)
    (case l3 => k_is)
    (case e3 => k_is)
    (case k3 => k_is)
    (case a4 => k_is)
    (case l4 => k_is)
    (case e4 => k_is)
    (case k4 => k_is)
    (case a5 => k_is)
    (case l5 => k_is)
    (case e5 => k_is)
    (case k5 => k_is)
    (case a6 => k_is)
    (case l6 => k_is)
    (case e6 => k_is)
    (case k6 => k_is)
    (case a7 => k_is)
    (case l7 => k_is)
    (case e7 => k_is)
    (case k7 => k_is)
    (case a8 => k_is)
    (case l8 => k_is)
    (case e8 => k_is)
    (case k8 => k_is)
    (case a9 => k_is)
    (case l9 => k_is)
    (case e9 => k_is)
    (case k9 => k_is)
    (case a10 => k_is)
    (case l10 => k_is)
    (case e10 => k_is)
    (case k10 => k_is)
    (case a11 => k_is)
    (case l11 => k_is)
    (case e11 => k_is)
    (case k11 => k_is)
    (case a12 => k_is)
    (case l12 => k_is)
    (case e12 => k_is)
    (case k12 => k_is)
    (case a13 => k_is)
    (case l13 => k_is)
    (case e13 => k_is)
    (case k13 => k_is)
    (case a14 => k_is)
    (case l14 => k_is)
    (case e14 => k_is)
    (case k14 => k_is)
    (case a15 => k_is)
    (case l15 => k_is)
    (case e15 => k_is)
    (case k15 => k_is)
    (case a16 => k_is)
    (case l16 => k_is)
    (case e16 => k_is)
    (case k16 => k_is)
    (case a17 => k_is)
    (case l17 => k_is)
    (case e17 => k_is)
    (case k17 => k_is)
    (case a18 => k_is)
    (case l18 => k_is)
    (case e18 => k_is)
    (case k18 => k_is)
    (case a19 => k_is)
    (case l19 => k_is)
    (case e19 => k_is)
    (case k19 => k_is)
    (case a20 => k_is)
    (case l20 => k_is)
    (case e20 => k_is)
    (case k20 => k_is)
    (case a21 => k_is)
    (case l21 => k_is)
    (case e21 => k_is)
    (case k21 => k_is)
    (case a22 => k_is)
    (case l22 => k_is)
    (case e22 => k_is)
    (case k22 => k_is)
    (case a23 => k_is)
    (case l23 => k_is)
    (case e23 => k_is)
    (case k23 => k_is)
    (case a24 => k_is)
    (case l24 => k_is)
    (case e24 => k_is)
    (case k24 => k_is)
    (case a25 => k_is)
    (case l25 => k_is)
    (case e25 => k_is)
    (case k25 => k_is)
    (case a26 => k_is)
    (case l26 => k_is)
    (case e26 => k_is)
    (case k26 => k_is)
    (case a27 => k_is)
    (case l27 => k_is)
    (case e27 => k_is)
    (case k27 => k_is)
    (case a28 => k_is)
    (case l28 => k_is)
    (case e28 => k_is)
    (case k28 => k_is)
    (case a29 => k_is)
    (case l29 => k_is)
    (case e29 => k_is)
    (case k29 => k_is)
    (case z0 => k_is)
    (case z1 => k_is)
    (case z2 => k_is)
    (case z3 => k_is)
    (case z4 => k_is)
    (case z5 => k_is)
    (case z6 => k_is)
    (case z7 => k_is)
    (case z8 => k_is)
    (case z9 => k_is)
    (case z10 => k_is)
    (case z11 => k_is)
    (case z12 => k_is)
    (case z13 => k_is)
    (case z14 => k_is)
    (case y0 => k_is)
    (case y1 => k_is)
    (case y2 => k_is)
    (case yx0 => k_is)
    (case ak => k_is)
    (case lk => k_is)
    (case aw => k_is)
    (case lw => k_is)
    (case zzValueError => k_is)
    (case rW => rfl)
    (case hW => k_is)
    (case iW => rfl)
    (case nW2 => first | kernel_rfl | rfl)
    (case rR => rfl)
    (case hR => k_is)
    (case iR => rfl)
    (case nR2 => first | kernel_rfl | rfl)
    (case rK => rfl)
    (case hK => k_is)
    (case iK => rfl)
    (case nK2 => first | kernel_rfl | rfl)
    (case rN => rfl)
    (case hN => k_is)
    (case iN => rfl)
    (case nN2 => first | kernel_rfl | rfl)
    (case rL => rfl)
    (case hL => k_is)
    (case iL => rfl)
    (case nL2 => first | kernel_rfl | rfl)
    (case dLW2 => decide)
    (case dLR2 => decide)
    (case dLK2 => decide)
    (case dLN2 => decide)
