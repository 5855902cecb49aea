import PyProof.Rows.All
import Wide.All
import OpenK.AllK
import Wide.FinOn
import HandS.ForMost
import HandS.AnyAll
import HandS.GenList
import HandS.IsInst
import HandS.Zip
import HandS.Deep
import HandS.StrMore
import HandS.Codes
import HandS.FStr
import KE.KDictZip
import HandS.SortOrd
import KE.LtData
import KE.KMinKey
import HandS.NamedTupSort
import HandS.Gcd
import HandS.Lambda
import HandS.ExcOwn
import HandS.HotCalls
import HandS.ExcIs
import HandS.ExcField
import KE.KExcIs
import HandS.More
import HandS.Wide
import HandS.ExcInit
import HandS.ClsMeth
import HandS.WordsExc
import HandS.Iter
import HandS.Conv
import HandS.TupAny
import HandS.TryOnly
import HandS.EndTab
import PySem.Challenge.RW_runsorts_k01_sieves
set_option Elab.async false
set_option maxRecDepth 100000
set_option maxHeartbeats 4000000
namespace GX
open PySem PySem.Spec PyProof.Rows L2

/-- the table of a def's code objects, whatever has come into it -/
def TabE (P : Addr) : Heap → Prop := fun g =>
  ∃ rs : Array Value, g.get? P = some { cls := .none, data := .fields rs } ∧ TriplesOk rs.toList
def Tab (H : Hp) (P : Addr) : Prop := H P = some (.ext (TabE P))
theorem tabE_stable {P : Addr} : ∀ g1 g2 : Heap, TabE P g1 → (∀ o, g1.get? P = some o → g2.get? P = some o) → TabE P g2 :=
  fun _ _ ⟨rs, e, t⟩ k => ⟨rs, k _ e, t⟩

section
variable {X : Cx} {pins : List (Addr × Obj)} {σ : L2.St} {H : Hp} {s : Shared}

/-- the table has grown; what else stood is kept -/
theorem tab_grown {P : Addr} {rs : Array Value} {g : Heap} {G : Array GenState} {dd : Drawn} {tk : Nat}
    (I : Inv X pins σ H s) (hP : Tab H P)
    (kp : ∀ b o, b ≠ P → s.heap.get? b = some o → g.get? b = some o)
    (at_ : g.get? P = some { cls := .none, data := .fields rs }) (ht : TriplesOk rs.toList) (hG : AllBare G) :
    Inv X pins σ H { s with heap := g, gens := G, drawn := dd, toks := tk } := by
  have free_ne : ∀ b, H b = none → b ≠ P := fun b e z => by
    subst z
    have q : H b = some (.ext (TabE b)) := hP
    rw [q] at e
    cases e
  have own_ne : ∀ b c, H b = some (.own c) → b ≠ P := fun b c e z => by
    subst z
    have q : H b = some (.ext (TabE b)) := hP
    rw [q] at e
    cases e
  refine I.step (g' := G) (d' := dd) (ch := []) (fun b hb => by cases hb) (fun b o _ _ _ e n => kp b o (free_ne b n) e)
    (fun b o _ _ _ e n => ⟨o.slots, kp b o (free_ne b n) e⟩) (fun _ _ _ _ n => n) (fun b o _ e => ?_)
    (fun _ _ e => e) (fun _ _ _ e => e) (fun b qs e => ⟨#[], by rw [e, Array.append_empty]⟩) (fun m hm => ?_) (fun b u e => ?_) hG
  · by_cases z : b = P
    · subst z
      exact ⟨_, at_⟩
    · exact ⟨o, kp b o z e⟩
  · obtain ⟨o, es, ep, ho, r⟩ := hm
    exact ⟨o, es, ep, kp _ o (free_ne _ I.free) ho, r⟩
  · by_cases z : b = P
    · subst z
      have q : H b = some (.ext (TabE b)) := hP
      rw [q] at e
      cases e
      exact ⟨⟨rs, at_, ht⟩, ⟨_, at_⟩, tabE_stable⟩
    · refine (I.hok b u e).stay (fun c o hc q => kp c o ?_ q) (fun _ q => q) (fun _ _ q => q)
      rcases hc with y | y
      · rw [y]
        exact z
      · exact own_ne c b y

/-- the context of a generator expression's element -/
abbrev genCx (X : Cx) (B : Around) (s0 : Shared) (H0 : Hp) (ce : Env) (fp : List Addr) (pn : List (Addr × Obj)) : Cx :=
  { X with A := B, s_0 := s0, H_0 := H0, env := ce, outer := X.stack, stack := ce :: X.stack, ex := fp, fn := fun _ => false, pn := pn, xe := fun _ _ => False }
/-- its environment -/
abbrev gEnv (X : Cx) (sc : Scope) (C : Addr) (cv : Value) : Env :=
  genEnv sc (cloFrom X.env.cells sc.names []) C cv builtinsNs X.env

theorem gen_start {B : Around} {sc : Scope} {own : List (Str × Nat)} {fp : List Addr} {cv : Value} {g : Heap} {go fo : Obj} {m : Str → Option Value} {gs : GenState} {tk : Nat}
    (I : Inv X pins σ H s) (ok : BlkOk X.N X.env.scope sc own) (nocell : ∀ y ∈ sc.names, y.2 ≠ .cell) (hN : X.N.Nodup)
    (hfp : ∀ b ∈ fp, FpOk X pins H b ∧ b < s.heap.objs.size) (hB : X.calm = true → B.handled = none)
    (hF : B.frames = some (gEnv X sc s.heap.objs.size cv :: X.stack))
    (hn : g.Ns s.heap.objs.size m) (hs : Heap.SameBut s.heap.objs.size (s.heap.push fo) g)
    (hgo : ∀ v, go.data ≠ .cell v) (hgp : (g.push go).get? g.objs.size = some go) (hgs : gs.bare = true) :
    Inv (genCx X B s H (gEnv X sc s.heap.objs.size cv) fp [(g.objs.size, go)]) [] (wipe σ (own.map (·.2))) H
      { s with gens := s.gens.push gs, toks := tk, heap := g.push go } := by
  have caught : ∀ y ∈ sc.names, y.2 = .free → ∃ c, X.env.cells.lookup y.1 = some c := fun y hy e =>
    (ok.free y hy e).elim (fun z => I.ok.has _ (.inl z)) (fun z => I.ok.has _ (.inr z))
  have gsz : g.objs.size = s.heap.objs.size + 1 := by rw [hs.1, Heap.size_push]
  have kp1 : ∀ b o, s.heap.get? b = some o → g.get? b = some o := fun b o e =>
    hs.extBut b o (Nat.ne_of_lt (Heap.lt_size e)) (Heap.get?_push_of_some _ e)
  have kp : ∀ b o, s.heap.get? b = some o → (g.push go).get? b = some o := fun b o e => Heap.get?_push_of_some _ (kp1 b o e)
  have down : ∀ {y c}, (gEnv X sc s.heap.objs.size cv).cells.lookup y = some c → X.env.cells.lookup y = some c ∧ c < s.heap.objs.size := fun {y c} e => by
    have e' : (cloFrom X.env.cells sc.names []).lookup y = some c := e
    rcases cloFrom_mem (PySem.mem_of_lookup e') with q | ⟨q1, q2⟩
    · cases q
    · obtain ⟨c', hc'⟩ := caught _ q1 rfl
      have hc2 : X.env.cells.lookup y = some c' := hc'
      rw [hc2] at q2
      have q3 : c = c' := q2
      subst q3
      obtain ⟨v, z⟩ := I.cell _ _ hc2
      exact ⟨hc2, z.lt⟩
  have up : ∀ {y}, sc.names.lookup y = some .free → ∃ c, (gEnv X sc s.heap.objs.size cv).cells.lookup y = some c ∧ X.env.cells.lookup y = some c := fun {y} hl => by
    obtain ⟨c, e⟩ := mem_lookup (cloFrom_has (cells := X.env.cells) (acc := []) (PySem.mem_of_lookup hl))
    exact ⟨c, e, (down e).1⟩
  have young : ∀ b, b < s.heap.objs.size → b ≠ s.heap.objs.size := fun b hb => Nat.ne_of_lt hb
  have okG : (genCx X B s H (gEnv X sc s.heap.objs.size cv) fp [(g.objs.size, go)]).Ok := by
    refine ⟨I.ok.mod, ok.kind, I.ok.glob, rfl, Nat.le_refl _, fun y z c e1 e2 => I.ok.inj y z c (down e1).1 (down e2).1, fun y hy => ?_,
      (fun y c z _ => nomatch z), hB, hF, .inr ⟨rfl, rfl⟩, fun b hb => ⟨young b (hfp b hb).2, fun y c e z => ?_⟩, I.bs, Nat.le_trans I.ok.bsz I.sz,
      fun b o e hb => ?_, fun b hb z => ?_, I.stack, I.stkFree⟩
    · rcases hy with z | z
      · exact absurd rfl (nocell _ (PySem.mem_of_lookup z))
      · obtain ⟨c, e, _⟩ := up z
        exact ⟨c, e⟩
    · exact (hfp b hb).1.2.2.2.2.1 y c (down e).1 z
    · rcases (hfp b hb).1.2.2.2.1 with z | z
      · exact I.ok.noex b o e z
      · exact Nat.lt_irrefl _ (Nat.lt_of_lt_of_le (Heap.lt_size e) (Nat.le_trans I.ok.bsz z))
    · rcases List.mem_cons.mp (I.stkSub b z) with y | y
      · exact (hfp b hb).1.2.1 y
      · exact (hfp b hb).1.2.2.1 y
  refine ⟨okG, rfl, I.bare.push hgs, Un.kept kp, ⟨m, ?_, fun i y av e1 e2 e3 => ?_⟩, fun y c e => ?_, I.hok.fresh (Nat.le_refl _), fun y c e => I.freeC y c (down e).1, fun p hp => ?_, I.hok.kept kp, by rw [wipe_length]; exact I.len⟩
  · exact hn.push _
  · obtain ⟨e2, ne⟩ := wipe_some e2
    have notOwn : ∀ k, sc.names.lookup y = some k → k = .local ∨ k = .cell → False := fun k hk hk' => by
      rcases ok.own _ (PySem.mem_of_lookup hk) hk' with q | q
      · obtain ⟨p, hp, hpy⟩ := List.mem_map.mp q
        have e4 := ok.ix p hp
        have hpy' : p.1 = y := hpy
        rw [hpy'] at e4
        exact ne (List.mem_map.mpr ⟨p, hp, nodup_ix hN e4 e1⟩)
      · exact q (List.mem_of_getElem? e1)
    have hfree : sc.names.lookup y = some .free := by
      rcases e3 with z | z | z
      · exact (notOwn _ z (.inl rfl)).elim
      · exact (notOwn _ z (.inr rfl)).elim
      · exact z
    obtain ⟨m', _, hl⟩ := I.loc
    have q0 := ok.free _ (PySem.mem_of_lookup hfree) rfl
    have hv : Vis X.env.scope y := q0.elim (fun z => .inr (.inl z)) (fun z => .inr (.inr z))
    obtain ⟨u, r, q⟩ := hl i y av e1 e2 hv
    obtain ⟨c, h1, h2⟩ := up hfree
    refine ⟨u, r, .inr ⟨.inr hfree, c, h1, ?_⟩⟩
    rcases q with ⟨k, _⟩ | ⟨_, c', e', z⟩
    · have k' : X.env.scope.names.lookup y = some .local := k
      rcases q0 with z | z
      · have z' : X.env.scope.names.lookup y = some .cell := z
        rw [z'] at k'
        cases k'
      · have z' : X.env.scope.names.lookup y = some .free := z
        rw [z'] at k'
        cases k'
    · rw [h2] at e'
      cases e'
      exact z.keeps kp
  · obtain ⟨v, z⟩ := I.cell y c (down e).1
    exact ⟨v, z.keeps kp⟩
  · have e : p = (g.objs.size, go) := by simpa using hp
    subst e
    refine ⟨hgp, I.hok.fresh (by rw [gsz]; exact Nat.le_succ _), ?_, fun z => ?_, hgo⟩
    · show g.objs.size ≠ s.heap.objs.size
      rw [gsz]
      exact Nat.succ_ne_self _
    · have z' : g.objs.size ∈ frs X.stack := z
      obtain ⟨_, o, ho, _⟩ := I.stack.mem z'
      have q := Heap.lt_size ho
      rw [gsz] at q
      exact absurd q (Nat.not_lt.mpr (Nat.le_succ _))
end
end GX
set_option Elab.async false
set_option maxRecDepth 100000
set_option maxHeartbeats 4000000
namespace GX
open PySem PySem.Spec PyProof.Rows L2

/-- what is known when an element has been handed out: a truth; where it is true, the generator goes on at any state with the same heap -/
def YAll (Y : Cx) (τ : L2.St) (Qf : Hp → Prop) : Protocol := fun _ _ v s kap =>
  ∃ (b : Bool) (H : Hp), v = .bool b ∧ Inv Y [] τ H s ∧ (b = false → Qf H) ∧
    (b = true → ∀ s2 : Shared, s2.heap = s.heap → s2.os = s.os → AllBare s2.gens → kap (.send .none) s2)
abbrev RAll (Y : Cx) (τ : L2.St) (Qt : Hp → Prop) : Nat → Shared → Shared → Prop := fun _ _ s =>
  ∃ H : Hp, Inv Y [] τ H s ∧ Qt H
theorem inv_samehp {Y : Cx} {pins : List (Addr × Obj)} {τ : L2.St} {H : Hp} {s s2 : Shared} (I : Inv Y pins τ H s) (h : s2.heap = s.heap) (ho : s2.os = s.os) (hb : AllBare s2.gens) : Inv Y pins τ H s2 := by
  have J := I.call' (s' := s2) (H' := H) (ch := []) ho (by rw [h]; exact Un.refl) (by rw [h]; exact I.hok) hb (fun b z => by cases z)
  exact J

section
variable {Y : Cx} {B : Around} {elt tg iter : Expr} {sc : Scope} {gpos : Pos} {it : Addr} {fp : List Addr} {tn : Nat → Heap → Prop} {J : It} {g : TG} {te : TE} {vs : List Nat}

/-- one turn of the walk that a generator expression's elements pass -/
def Step (J : It) (g : TG) (te : TE) (vs : List Nat) (τ : L2.St) (Qt Qf : Hp → Prop) (W : Nat → Nat → Hp → Prop) : Prop :=
  ∀ i m H, W i m H → (J.stop i H ∧ Qt H) ∨ (J.go i H ∧ ∀ x H', J.yld i H x H' → g x τ H' fun τ2 H2 => wipe τ2 vs = τ ∧
    te τ2 H2 fun y H3 => ∃ b, y = V.bl b ∧ (b = true → ∃ m', m' < m ∧ W (i + 1) m' H3) ∧ (b = false → Qf H3))

theorem seg_all {τ : L2.St} {Qt Qf : Hp → Prop} {W : Nat → Nat → Hp → Prop}
    (hA : Y.A = B.over (.compLoop (.GeneratorExp elt [⟨tg, iter, [], 0⟩] sc gpos) 0 (.ref it) .none Y.env) [])
    (hc : Y.calm = true) (hco : Y.env.scope.isCoroutine = false) (hfp : ∀ b ∈ fp, b ∈ Y.ex) (hpn : ∀ p ∈ Y.pn, p.1 ∉ fp)
    (xe : Y.xe = fun _ _ => False)
    (pg : PG Y tg g) (pe : PE Y elt te) (T : Turn Y.prog Y.w Y.K tg J fp it tn) (turn : Step J g te vs τ Qt Qf W) (hτ : ∀ τ2, wipe τ2 vs = τ → ∀ (k : Nat) v, τ[k]? = some (some v) → τ2[k]? = some (some v)) :
    ∀ (n i m : Nat) (s0 s : Shared) (H : Hp), m < n → Inv Y [] τ H s → tn i s.heap → (∀ b ∈ fp, H b = none) → W i m H →
      Seg (model Y.prog Y.w) B (fun n s₀ r s₁ => r = .ok .next ∧ RAll Y τ Qt n s₀ s₁) (YAll Y τ Qf) n s0
        (.compLoop (.GeneratorExp elt [⟨tg, iter, [], 0⟩] sc gpos) 0 (.ref it) .none Y.env)
        ((model Y.prog Y.w).den (.compLoop (.GeneratorExp elt [⟨tg, iter, [], 0⟩] sc gpos) 0 (.ref it) .none Y.env)) [] s := by
  intro n
  induction n with
  | zero => intro i m s0 s H hm; exact absurd hm (Nat.not_lt_zero _)
  | succ n ih =>
    intro i m s0 s H hm I st nf w0
    have fpo : ∀ {pins' : List (Addr × Obj)} {τ' : L2.St} {H' : Hp} {s' : Shared}, Inv Y pins' τ' H' s' → (∀ p ∈ pins', p.1 ∉ fp) → (∀ b ∈ fp, H' b = none) → ∀ b ∈ fp, FpOk Y pins' H' b := fun {pins' τ' H' s'} I' hp hn b hb =>
      ⟨hn b hb, (I'.ok.exf b (hfp b hb)).1, I'.ok.exfs b (hfp b hb), .inl (hfp b hb), fun x c e => (I'.ok.exf b (hfp b hb)).2 x c e, fun p q z => by
        rcases List.mem_append.mp q with q | q
        · exact hpn p q (by rw [z]; exact hb)
        · exact hp p q (by rw [z]; exact hb)⟩
    show Seg _ B _ _ _ s0 _ ((compTurn (.GeneratorExp elt [⟨tg, iter, [], 0⟩] sc gpos) 0 (.ref it) .none Y.env).onRaise (leaving Y.env)) [] s
    rw [compTurn_gen, Sem.onRaise_eq_wrap]
    apply seg_bind_wrap
    apply wpAny_standAt
    apply seg_bind_wrap
    rw [← hA]
    rcases turn i m H w0 with ⟨stop, q⟩ | ⟨go, step⟩
    · refine wpAny_mono (T.done Y rfl rfl rfl hc i [] s τ H (fun _ _ => False) I (fpo I (fun _ z => by cases z) nf) st stop) (fun r s1 h1 => ?_) (fun _ _ z => z.elim)
      obtain ⟨hr, I1⟩ := h1
      subst hr
      exact seg_end (.ok .next) ⟨rfl, H, I1, q⟩
    · refine wpAny_mono (T.item Y rfl rfl rfl hc i [] s τ H (fun _ _ => False) I (fpo I (fun _ z => by cases z) nf) st go) (fun r s1 h1 => ?_) (fun _ _ z => z.elim)
      obtain ⟨u, hr, h1⟩ := h1
      subst hr
      apply seg_bind_wrap
      rw [← hA]
      refine wpAny_mono h1 (fun _ s2 h2 => ?_) (fun _ _ z => z.elim)
      obtain ⟨x, H2, I2, r2, y2, st2, n2⟩ := h2
      have I2' := I2.pinned (fpo I2 (fun _ z => by cases z) n2) (T.obj _ _ st2)
      apply seg_bind_wrap
      rw [← hA]
      refine wpAny_mono (pg.run _ s2 τ H2 x u _ I2' r2 (step x H2 y2)) (fun _ s3 h3 => ?_) (fun e s3 z => by rw [xe] at z; exact z.elim)
      obtain ⟨τ3, H3, I3, hw3, q3⟩ := h3
      have hy : ∀ v, yieldOut Y.env v = yieldValue v := fun v => by simp only [yieldOut, hco, Bool.false_eq_true, if_false]
      simp only [List.forIn_nil, pure_bind, if_true, hy]
      rw [Sem.bind_eq_wrap', Sem.bind_eq_wrap', Sem.wrap_wrap, Sem.wrap_wrap]
      apply seg_wrap
      rw [← hA]
      refine wpAny_mono (pe.run _ s3 τ3 H3 _ I3 q3) (fun v s4 h4 => ?_) (fun e s4 z => by rw [xe] at z; exact z.elim)
      obtain ⟨yv, H4, I4, r4, b, rfl, ht, hf⟩ := h4
      have hv : v = .bool b := r4
      subst hv
      have kp : ∀ b' ∈ fp, ∀ o, s2.heap.get? b' = some o → s4.heap.get? b' = some o ∧ H4 b' = none := fun b' hb o e => by
        have z := I4.pin (b', o) (List.mem_append_right _ (List.mem_append_right _ (mem_pinsAt hb e)))
        exact ⟨z.1, z.2.1⟩
      have J4 : Inv Y [] τ H4 s4 := (I4.unpinned (pins := [])).weak (by rw [← hw3, wipe_length]) fun k v e => hτ τ3 hw3 k v e
      refine seg_at (seg_yield rfl rfl rfl ⟨b, H4, rfl, J4, hf, fun hb s5 e5 o5 b5 => ?_⟩)
      obtain ⟨m', hm', w'⟩ := ht hb
      refine seg_again rfl (ih (i + 1) m' s5 s5 H4 (by omega) (inv_samehp J4 e5 o5 b5) ?_ (fun b' hb' => ?_) w')
      · rw [e5]
        exact T.keep _ _ _ st2 fun b' hb' o e => (kp b' hb' o e).1
      · obtain ⟨o, e, _⟩ := T.obj _ _ st2 b' hb'
        exact (kp b' hb' o e).2
end
end GX
set_option Elab.async false
set_option maxRecDepth 100000
set_option maxHeartbeats 4000000
namespace GX
open PySem PySem.Spec PyProof.Rows L2

theorem seg_all_start {P : Program} {w : World} {K : PySem.W.Frag} {B : Around} {R : GenEnd} {Yp : Protocol} {n : Nat} {s0 s : Shared} {elt tg iter : Expr} {sc : Scope} {gpos : Pos} {it : Addr} {fp : List Addr} {tn : Nat → Heap → Prop} {J : It} {ce : Env}
    (T : Turn P w K tg J fp it tn) (st : tn 0 s.heap)
    (loop : Seg (model P w) B R Yp n s0 (.compLoop (.GeneratorExp elt [⟨tg, iter, [], 0⟩] sc gpos) 0 (.ref it) .none ce)
      ((model P w).den (.compLoop (.GeneratorExp elt [⟨tg, iter, [], 0⟩] sc gpos) 0 (.ref it) .none ce)) [] s) :
    Seg (model P w) B R Yp n s0 (.compStart (.GeneratorExp elt [⟨tg, iter, [], 0⟩] sc gpos) 0 (.ref it) .none ce)
      ((model P w).den (.compStart (.GeneratorExp elt [⟨tg, iter, [], 0⟩] sc gpos) 0 (.ref it) .none ce)) [] s := by
  show Seg _ B _ _ _ s0 _ ((compStart (.GeneratorExp elt [⟨tg, iter, [], 0⟩] sc gpos) 0 (.ref it) .none ce).onRaise (leaving ce)) [] s
  unfold compStart
  rw [Sem.onRaise_eq_wrap]
  show Seg _ B _ _ _ s0 _ ((ask >>= _).wrap _ _ _ _) [] s
  apply seg_bind_wrap
  apply wpAny_askSetting
  split
  · exact seg_again rfl loop
  · apply seg_bind_wrap
    apply wpAny_rule
    show Seg _ B _ _ _ s0 _ ((standAt iter.pos >>= _).wrap _ _ _ _) [] s
    apply seg_bind_wrap
    apply wpAny_standAt
    apply seg_bind_wrap
    exact T.self _ 0 s _ _ st (seg_again rfl loop)

section
variable {Y : Cx} {A : Around} {a : Addr} {g : Nat} {go : Obj} {τ : L2.St} {Qt Qf : Hp → Prop}
theorem code_all {R : Result → Shared → Prop} (hh : A.handled = none) (hroom : A.depth < recursionLimit) (hpin : (a, go) ∈ Y.pn) (hgen : ∀ h : Heap, h.get? a = some go → h.IsGen a g)
    (hT : ∀ s H, Inv Y [] τ H s → Qt H → R (.ok (.ret (.bool true))) s) (hF : ∀ s H, Inv Y [] τ H s → Qf H → R (.ok (.ret (.bool false))) s) :
    ∀ (n : Nat) (s : Shared) (gs : GenState), s.heap.IsGen a g → s.heap.NoLimit → AllBare s.gens → s.gens[g]? = some gs →
      (∀ s2 : Shared, s2.heap = s.heap → s2.os = s.os → AllBare s2.gens →
        gs.Goes (model Y.prog Y.w) A.in1.in1 (fun n s₀ r s₁ => r = .ok .next ∧ RAll Y τ Qt n s₀ s₁) (YAll Y τ Qf) n (.send .none) s2) →
      codeAny (model Y.prog Y.w) A (.builtin "all.loop" ⟨[.ref a], []⟩) R s := by
  intro n
  induction n with
  | zero =>
    intro s gs hg hl hb hgs hgo
    refine codeAny_builtin F.entry_all_loop ?_
    rw [Around.under_plainId F.plain_all_loop _]
    show wpAny _ A.in1 (pyNext (.ref a) >>= _) _ _ s
    refine wpAny_bind (GenW.wpAny_gsz (n := g + 1) (Array.getElem?_eq_some_iff.mp hgs).1 (wpAny_pyNext_genexpQ (A := A.in1) (P := RAll Y τ Qt) hh hl hroom hg hgs (hgo _ rfl rfl (allBare_setGen hb rfl)) (fun v s1 gs' hb' hv hsz => ?_) (fun s1 hp h' hk hsz => ?_)))
    · obtain ⟨b, H, rfl, I, hf, ht⟩ := hv
      apply wpAny_bind
      apply wpAny_holding
      apply wpAny_truthy_bool
      apply wpAny_bind
      apply wpAny_letGo
      cases b with
      | true => exact (ht rfl s1 rfl rfl I.bare).elim
      | false =>
        simp only [Bool.false_eq_true, if_false]
        apply wpAny_bind
        apply wpAny_rule
        apply wpAny_pure
        exact hF _ H (inv_samehp I rfl rfl (allBare_setGen I.bare hb')) (hf rfl)
    · obtain ⟨H, I, q⟩ := hp
      apply wpAny_bind
      apply wpAny_rule
      apply wpAny_pure
      have I2 := inv_samehp (s2 := s1.setGen g .finished) I rfl rfl (allBare_setGen I.bare rfl)
      exact hT _ H (I2.kept (t' := (s1.setGen g .finished).toks) hk) q
  | succ n ih =>
    intro s gs hg hl hb hgs hgo
    refine codeAny_builtin F.entry_all_loop ?_
    rw [Around.under_plainId F.plain_all_loop _]
    show wpAny _ A.in1 (pyNext (.ref a) >>= _) _ _ s
    refine wpAny_bind (GenW.wpAny_gsz (n := g + 1) (Array.getElem?_eq_some_iff.mp hgs).1 (wpAny_pyNext_genexpQ (A := A.in1) (P := RAll Y τ Qt) hh hl hroom hg hgs (hgo _ rfl rfl (allBare_setGen hb rfl)) (fun v s1 gs' hb' hv hsz => ?_) (fun s1 hp h' hk hsz => ?_)))
    · obtain ⟨b, H, rfl, I, hf, ht⟩ := hv
      apply wpAny_bind
      apply wpAny_holding
      apply wpAny_truthy_bool
      apply wpAny_bind
      apply wpAny_letGo
      cases b with
      | true =>
        simp only [if_true]
        apply wpAny_pure
        refine ⟨plainId_quiet F.plain_all_loop _, ih _ gs' (hgen _ (I.pin (a, go) (List.mem_append_left _ hpin)).1) I.nolimit (allBare_setGen I.bare hb') (setGen_at ?_) fun s2 e1 e2 e3 => ht rfl s2 e1 e2 e3⟩
        rw [GenW.setGen_size] at hsz
        exact hsz
      | false =>
        simp only [Bool.false_eq_true, if_false]
        apply wpAny_bind
        apply wpAny_rule
        apply wpAny_pure
        exact hF _ H (inv_samehp I rfl rfl (allBare_setGen I.bare hb')) (hf rfl)
    · obtain ⟨H, I, q⟩ := hp
      apply wpAny_bind
      apply wpAny_rule
      apply wpAny_pure
      have I2 := inv_samehp (s2 := s1.setGen g .finished) I rfl rfl (allBare_setGen I.bare rfl)
      exact hT _ H (I2.kept (t' := (s1.setGen g .finished).toks) hk) q
end
end GX
set_option Elab.async false
set_option maxRecDepth 100000
set_option maxHeartbeats 4000000
namespace GX
open PySem PySem.Spec PyProof.Rows L2

section
variable {X : Cx} {pins : List (Addr × Obj)} {σ : L2.St} {H : Hp} {s : Shared}

/-- a generator expression has been made, ready to be walked, in the state s5; what stood ahead of its frame: s4 -/
structure Ready (X : Cx) (pins : List (Addr × Obj)) (σ : L2.St) (own : List (Str × Nat)) (sc : Scope) (elt tg iter : Expr) (gpos : Pos) (J : It) (H1 : Hp) (a : Addr) (s5 : Shared)
    (s4 : Shared) (cv : Value) (g : Nat) (go : Obj) (it : Addr) (fp : List Addr) (tn : Nat → Heap → Prop) : Prop where
  outer : Inv X pins σ H1 s4
  fps : ∀ b ∈ fp, FpOk X pins H1 b ∧ b < s4.heap.objs.size
  turn : Turn X.prog X.w X.K tg J fp it tn
  st : tn 0 s5.heap
  inner : ∀ B : Around, (X.calm = true → B.handled = none) → B.frames = some (gEnv X sc s4.heap.objs.size cv :: X.stack) →
    Inv (genCx X B s4 H1 (gEnv X sc s4.heap.objs.size cv) fp [(a, go)]) [] (wipe σ (own.map (·.2))) H1 s5
  gen : ∀ h : Heap, h.get? a = some go → h.IsGen a g
  at_ : s5.heap.get? a = some go
  old : a ∉ fp
  gs : s5.gens[g]? = some (.fresh (.compStart (.GeneratorExp elt [⟨tg, iter, [], 0⟩] sc gpos) 0 (.ref it) .none (gEnv X sc s4.heap.objs.size cv)))
  lim : s5.heap.NoLimit
  bare : AllBare s5.gens

theorem gx_make {c P : Addr} {own : List (Str × Nat)} {sc : Scope} {elt tg iter : Expr} {gpos : Pos} {wi : TI} {k : Nat} {R : It → Hp → Prop} {Q' : Value → Shared → Prop}
    (hr : Room k X.A) (TB : GxR.TabB X.base X.mg c P) (hcode : X.env.code = .ref c) (hN : X.N.Nodup)
    (ok : BlkOk X.N X.env.scope sc own) (nocell : ∀ y ∈ sc.names, y.2 ≠ .cell) (dot : sc.names.lookup (".0" : Str) = some NameKind.local) (hco : sc.isCoroutine = false)
    (hi : PI X tg iter wi) (hs : ∀ v, genFold iter X.env v = pure v)
    (I : Inv X pins σ H s) (h : wi σ H fun J H1 => Tab H1 P ∧ R J H1)
    (hQ : ∀ J H1 a s5 s4 cv g go it fp tn, R J H1 → Ready X pins σ own sc elt tg iter gpos J H1 a s5 s4 cv g go it fp tn → Q' (.ref a) s5) :
    wpAny (model X.prog X.w) X.A (eval (.GeneratorExp elt [⟨tg, iter, [], 0⟩] sc gpos) X.env) Q' X.xe s := by
  have caught : ∀ y ∈ sc.names, y.2 = .free → ∃ c, X.env.cells.lookup y.1 = some c := fun y hy e =>
    (ok.free y hy e).elim (fun z => I.ok.has _ (.inl z)) (fun z => I.ok.has _ (.inr z))
  refine wpAny_GeneratorExp_make hco (closure_ok caught) nocell dot ok.kind (by have := hr.dp; omega) ?_ hs
  refine thn (hi.run pins s σ H _ I h) fun xv s1 h1 => thn h1 fun itv s2 h2 => ?_
  obtain ⟨it, fp, tn, J, H2, rfl, I2, T, st2, f2, hT, hR⟩ := h2
  obtain ⟨⟨rs, hPs, ht⟩, _, _⟩ := I2.hok P _ hT
  have cd : PySem.W.CodeHd s2.heap c P := TB.code.keeps I2.bk
  refine ⟨I2.nolimit, ?_⟩
  have fsz : ∀ b ∈ fp, b < s2.heap.objs.size := fun b hb => by
    obtain ⟨o, e, _⟩ := T.obj _ _ st2 b hb
    exact Heap.lt_size e
  have neP : ∀ b ∈ fp, b ≠ P := fun b hb z => by
    have q := (f2 b hb).1
    have q2 : H2 P = some (.ext (TabE P)) := hT
    rw [z, q2] at q
    cases q
  have cont : ∀ (cv : Value) (s4 : Shared), Inv X pins σ H2 s4 → (∀ b o, b ≠ P → s2.heap.get? b = some o → s4.heap.get? b = some o) → s2.heap.objs.size ≤ s4.heap.objs.size →
      wpAny (model X.prog X.w) X.A (builtinsFor X.env.globals X.env.builtins) (fun bi s₄ => ∀ h', h'.Ns s₄.heap.objs.size (fun y => if y = ".0" then some (Value.ref it) else none) →
        Heap.SameBut s₄.heap.objs.size (s₄.heap.push { cls := .type "frame", data := .dict #[] }) h' →
          Q' (.ref h'.objs.size) { s₄ with
            gens := s₄.gens.push (.fresh (.compStart (.GeneratorExp elt [⟨tg, iter, [], 0⟩] sc gpos) 0 (.ref it) .none (genEnv sc (cloFrom X.env.cells sc.names []) s₄.heap.objs.size cv bi X.env))),
            toks := s₄.toks + 1 + 1 + 1,
            heap := h'.push { cls := .type "generator", data := .fields #[.int s₄.gens.size 0, .str "<genexpr>" (s₄.toks + 1), .str (X.env.qual ++ "<genexpr>") (s₄.toks + 1 + 1)] } }) X.xe s4 := by
    intro cv s4 I4 kp sz
    obtain ⟨bm, ob, e1, e2, e3, e4, e5, e6, e7, e8⟩ := TB.bm
    refine wpAny_builtinsFor (m := X.mg) (by rw [I4.ok.glob]; exact I4.mod.glob.keeps I4.bk) e1 e2 (I4.bk _ _ e5) e6 e7 e8 ?_
    intro h' hn' hs'
    have hsz : h'.objs.size = s4.heap.objs.size + 1 := by rw [hs'.1, Heap.size_push]
    have kp4 : ∀ b o, s4.heap.get? b = some o → (h'.push { cls := .type "generator", data := .fields #[.int s4.gens.size 0, .str "<genexpr>" (s4.toks + 1), .str (X.env.qual ++ "<genexpr>") (s4.toks + 1 + 1)] }).get? b = some o := fun b o e =>
      Heap.get?_push_of_some _ (hs'.extBut b o (Nat.ne_of_lt (Heap.lt_size e)) (Heap.get?_push_of_some _ e))
    have fok : ∀ b ∈ fp, FpOk X pins H2 b ∧ b < s4.heap.objs.size := fun b hb => ⟨f2 b hb, Nat.lt_of_lt_of_le (fsz b hb) sz⟩
    refine hQ J H2 h'.objs.size _ s4 cv s4.gens.size { cls := .type "generator", data := .fields #[.int s4.gens.size 0, .str "<genexpr>" (s4.toks + 1), .str (X.env.qual ++ "<genexpr>") (s4.toks + 1 + 1)] } it fp tn hR
      ⟨I4, fok, T, ?_, fun B hB hF => gen_start I4 ok nocell hN fok hB hF hn' hs' (fun v z => by cases z) (Heap.get?_push_size _ rfl) rfl, fun h e => ⟨_, _, _, e, rfl, rfl, rfl⟩, Heap.get?_push_size _ rfl, fun z => ?_, Array.getElem?_push_size .., I4.nolimit.keeps kp4, I4.bare.push rfl⟩
    · refine T.keep _ _ _ st2 fun b hb o e => kp4 b o (kp b o (neP b hb) e)
    · have q := (fok _ z).2
      rw [hsz] at q
      exact absurd q (Nat.not_lt.mpr (Nat.le_succ _))
  cases hf : codeAmong gpos rs.toList with
  | none =>
    refine wpAny_genexprCodeX hcode (cd.code hPs ht) (cd.tab hPs) hf fun c' h' tk hx hge hlt hco' _ htab' _ => ?_
    obtain ⟨o1, vs, f1, tf, fl, tg', inF, tx, tt, op, _, _, _, _, _, _, _, _, _, htr, _⟩ := hco'
    exact cont _ { s2 with heap := h', toks := tk } (tab_grown (tk := tk) (dd := s2.drawn) (G := s2.gens) I2 hT (fun b o hb e => hx b o hb e) htab'.2 htr I2.bare) (fun b o hb e => hx b o hb e) (Nat.le_trans hge (Nat.le_of_lt hlt))
  | some cv =>
    refine wpAny_genexprCode_hit hcode (cd.code hPs ht) hf ?_
    exact cont cv s2 I2 (fun b o _ e => e) (Nat.le_refl _)

/-- all(e for x in xs): J what is walked; W by the turn and a measure -/
def tAll (P : Addr) (wi : TI) (g : TG) (te : TE) (vs : List Nat) : TE := fun σ H Q => wi σ H fun J H1 => Tab H1 P ∧
  ∃ W : Nat → Nat → Hp → Prop, (∃ m, W 0 m H1) ∧ Step J g te vs (wipe σ vs) (Q (.bl true)) (Q (.bl false)) W

theorem over_gx {A : Around} {elt tg iter : Expr} {sc : Scope} {gpos : Pos} {it : Addr} {ce : Env} :
    (A.over (.compLoop (.GeneratorExp elt [⟨tg, iter, [], 0⟩] sc gpos) 0 (.ref it) .none ce) []).frames = A.frames.map (ce :: ·) := by
  show pushEnvs [ce] (pushEnvs [] A.frames) = _
  cases A.frames <;> rfl
theorem room_gx {A : Around} {k : Nat} {elt tg iter : Expr} {sc : Scope} {gpos : Pos} {it : Addr} {ce : Env} (r : Room (k + 1) A) :
    Room k (A.in1.in1.over (.compLoop (.GeneratorExp elt [⟨tg, iter, [], 0⟩] sc gpos) 0 (.ref it) .none ce) []) := by
  refine ⟨r.hd, ?_, ?_⟩
  · have := r.dp
    show A.depth + 0 + 1 + 3 * k + 5 < _
    omega
  · have := r.un
    show A.units + 1 + 1 + 0 + 3 + 16 * k + 200 < _
    omega

theorem pe_all {c P : Addr} {own : List (Str × Nat)} {sc : Scope} {elt tg iter : Expr} {p pos gpos : Pos} {wi : TI} {g : TG} {te : TE} {k : Nat}
    (hr : Room (k + 1) X.A) (hg : Gl X "all") (hm : X.mg "all" = none) (TB : GxR.TabB X.base X.mg c P) (hcode : X.env.code = .ref c) (hc : X.calm = true) (hN : X.N.Nodup)
    (ok : BlkOk X.N X.env.scope sc own) (nocell : ∀ y ∈ sc.names, y.2 ≠ .cell) (dot : sc.names.lookup (".0" : Str) = some NameKind.local) (hco : sc.isCoroutine = false)
    (hi : PI X tg iter wi) (pg : ∀ (B : Around) (s0 : Shared) (H0 : Hp) (C : Addr) (cv : Value) (fp : List Addr) (pn : List (Addr × Obj)), PG (genCx X B s0 H0 (gEnv X sc C cv) fp pn) tg g)
    (pe : ∀ (B : Around) (s0 : Shared) (H0 : Hp) (C : Addr) (cv : Value) (fp : List Addr) (pn : List (Addr × Obj)), Room k B → PE (genCx X B s0 H0 (gEnv X sc C cv) fp pn) elt te)
    (hs : ∀ v, genFold iter X.env v = pure v := by intro _; rfl)
    (he : starEach [.GeneratorExp elt [⟨tg, iter, [], 0⟩] sc gpos] X.env = (false, eval (.GeneratorExp elt [⟨tg, iter, [], 0⟩] sc gpos) X.env) :: starEach [] X.env := by rfl) :
    PE X (.Call (.Name "all" p) [.GeneratorExp elt [⟨tg, iter, [], 0⟩] sc gpos] [] pos) (tAll P wi g te (own.map (·.2))) := by
  refine ⟨fun pins s σ H Q I h => ?_⟩
  refine wpAny_Call_Name_kw (ld_blt I hg hm (show bootBuiltins "all" = some (.builtin "all") by decide +kernel) ?_)
  refine PyProof.Rows.callWith_builtin1 ?_ he (by rfl)
  rw [he]
  show wpAny _ _ (spliced ((false, eval (.GeneratorExp elt [⟨tg, iter, [], 0⟩] sc gpos) X.env) :: backTo pos (starEach [] X.env))) _ _ s
  refine Calls.spliced_cons (gx_make (own := own) (R := fun J H1 => ∃ W : Nat → Nat → Hp → Prop, (∃ m, W 0 m H1) ∧ Step J g te (List.map Prod.snd own) (wipe σ (List.map Prod.snd own)) (Q (.bl true)) (Q (.bl false)) W)
    hr TB hcode hN ok nocell dot hco hi hs I h fun J H1 a s5 s4 cv gn go it fp tn hR rd => ?_)
  obtain ⟨W, ⟨m0, w0⟩, step⟩ := hR
  refine Calls.spliced_nil ?_
  refine call_function_tree F.kind_all F.plain_all F.entry_all (F.args_all1 _) ?_
  unfold Builtin.«all»
  apply wpAny_bind (m := oneArg "all" _)
  apply wpAny_pure
  apply wpAny_bind
  refine wpAny_pyIter_gen (rd.gen _ rd.at_) ?_
  apply wpAny_pure
  refine ⟨plainId_quiet F.plain_all_loop _, ?_⟩
  -- the element's context
  have hB : X.calm = true → (X.A.in1.in1.over (.compLoop (.GeneratorExp elt [⟨tg, iter, [], 0⟩] sc gpos) 0 (.ref it) .none (gEnv X sc s4.heap.objs.size cv)) []).handled = none := fun z => I.ok.hd z
  have hF : (X.A.in1.in1.over (.compLoop (.GeneratorExp elt [⟨tg, iter, [], 0⟩] sc gpos) 0 (.ref it) .none (gEnv X sc s4.heap.objs.size cv)) []).frames = some (gEnv X sc s4.heap.objs.size cv :: X.stack) := by
    rw [over_gx]
    show X.A.frames.map _ = _
    rw [I.ok.frames]
    rfl
  have J5 := rd.inner _ hB hF
  have back : ∀ (s6 : Shared) (H6 : Hp), Inv (genCx X (X.A.in1.in1.over (.compLoop (.GeneratorExp elt [⟨tg, iter, [], 0⟩] sc gpos) 0 (.ref it) .none (gEnv X sc s4.heap.objs.size cv)) []) s4 H1 (gEnv X sc s4.heap.objs.size cv) fp [(a, go)]) [] (wipe σ (own.map (·.2))) H6 s6 →
      Inv X pins σ H6 s6 := fun s6 H6 I6 => by
    exact rd.outer.call' (ch := fp) I6.os I6.base I6.hok I6.bare fun b hb => ⟨(rd.fps b hb).1.2.2.2.1, (rd.fps b hb).1.2.1, (rd.fps b hb).1.2.2.2.2.1, (rd.fps b hb).1.2.2.2.2.2⟩
  refine code_all (Y := genCx X (X.A.in1.in1.over (.compLoop (.GeneratorExp elt [⟨tg, iter, [], 0⟩] sc gpos) 0 (.ref it) .none (gEnv X sc s4.heap.objs.size cv)) []) s4 H1 (gEnv X sc s4.heap.objs.size cv) fp [(a, go)])
    (A := X.A) (go := go) (g := gn) (τ := wipe σ (own.map (·.2))) (Qt := Q (.bl true)) (Qf := Q (.bl false)) hr.hd hr.depth (by simp) rd.gen
    (fun s6 H6 I6 q6 => ⟨.bl true, H6, back s6 H6 I6, rfl, q6⟩) (fun s6 H6 I6 q6 => ⟨.bl false, H6, back s6 H6 I6, rfl, q6⟩) (m0 + 1) s5 _ (rd.gen _ rd.at_) rd.lim rd.bare rd.gs (fun s7 e7 o7 b7 => ?_)
  have J7 := inv_samehp J5 e7 o7 b7
  have st7 : tn 0 s7.heap := by
    rw [e7]
    exact rd.st
  refine ⟨rfl, seg_all_start rd.turn st7 ?_⟩
  refine seg_all (Y := genCx X (X.A.in1.in1.over (.compLoop (.GeneratorExp elt [⟨tg, iter, [], 0⟩] sc gpos) 0 (.ref it) .none (gEnv X sc s4.heap.objs.size cv)) []) s4 H1 (gEnv X sc s4.heap.objs.size cv) fp [(a, go)])
    rfl hc hco (fun b hb => hb) (fun q hq => ?_) rfl (pg _ _ _ _ _ _ _) (pe _ _ _ _ _ _ _ (room_gx hr)) rd.turn step (fun τ2 hw k v e => ?_) (m0 + 1) 0 m0 s7 s7 H1 (Nat.lt_succ_self _) J7 st7 (fun b hb => (rd.fps b hb).1.1) w0
  · have e : q = (a, go) := by simpa using hq
    subst e
    exact rd.old
  · rw [← hw] at e
    exact (wipe_some e).1
end
end GX
set_option Elab.async false
set_option maxRecDepth 100000
set_option maxHeartbeats 4000000
namespace GX
open PySem PySem.Spec PyProof.Rows L2

/-- a walk of n turns by a word of its own: the next turn is reached -/
def AllNx (n : Nat) (Pv : Nat → Hp → Prop) (i : Nat) (H : Hp) : Prop := ∃ m', m' < n - i ∧ (m' = n - (i + 1) ∧ i + 1 ≤ n ∧ Pv (i + 1) H)
theorem AllNx.mk {n : Nat} {Pv : Nat → Hp → Prop} {i : Nat} {H : Hp} (hi : i < n) (p : Pv (i + 1) H) : AllNx n Pv i H := ⟨n - (i + 1), by omega, rfl, hi, p⟩
theorem all_by {J : It} {g : TG} {te : TE} {vs : List Nat} {τ : L2.St} {Qt Qf : Hp → Prop} {H1 : Hp} (n : Nat) (Pv : Nat → Hp → Prop) (h0 : Pv 0 H1)
    (turn : ∀ i H, i < n → Pv i H → J.go i H ∧ ∀ x H', J.yld i H x H' → g x τ H' fun τ2 H2 => wipe τ2 vs = τ ∧ te τ2 H2 fun y H3 => ∃ b, y = V.bl b ∧ (b = true → AllNx n Pv i H3) ∧ (b = false → Qf H3))
    (stop : ∀ H, Pv n H → J.stop n H ∧ Qt H) :
    ∃ W : Nat → Nat → Hp → Prop, (∃ m, W 0 m H1) ∧ Step J g te vs τ Qt Qf W := by
  refine ⟨fun i m H => m = n - i ∧ i ≤ n ∧ Pv i H, ⟨n, rfl, Nat.zero_le _, h0⟩, ?_⟩
  rintro i m H ⟨rfl, hi, p⟩
  by_cases hlt : i < n
  · obtain ⟨go, nx⟩ := turn i H hlt p
    exact .inr ⟨go, nx⟩
  · have e : i = n := by omega
    subst e
    exact .inl (stop H p)
theorem bf {b : Bool} (h : ¬ b = true) : b = false := by
  cases b with
  | true => exact absurd rfl h
  | false => rfl
end GX

namespace RS
open PySem PySem.Spec PyProof.Rows L2 GX
/-! ### defs as constants of the module -/
/-- the def st stands as the module's x; c: its code object -/
structure DefAt (K : PySem.W.Frag) (mg : Str → Option Value) (x : Str) (st : Stmt) (c : Addr) : Prop where
  ex : ∃ (f : Addr) (oc : Value) (od : Option Addr) (kV doc pm : Value) (an : Option Addr) (ct : Value) (osl : Array (Option Value)),
    mg x = some (.ref f) ∧ K.lookup f = some ⟨oc, od, .func (PySem.W.fnOf x x (defArgs st) (defBody st) (defScope st) .none kV doc pm an (.ref c) ct), osl⟩ ∧
    PySem.W.codeIn K (.ref c) x = true ∧ PySem.W.keepIn K (.ref f) = true
/-- what a caller needs of a def: its promise -/
structure Cal (P : Program) (w : World) (K : PySem.W.Frag) (mg : Str → Option Value) (base : Heap) (CX : CXT) (k : Nat) (x : Str) (ps : List Str) (sp : Sp) : Prop where
  ex : ∃ (f : Addr) (fd : FuncData), FnOk P w K mg base CX k f fd ps sp ∧ mg x = some (.ref f) ∧ PySem.W.keepIn K (.ref f) = true ∧ Binds K fd ps []
section
variable {P : Program} {w : World} {K : PySem.W.Frag} {mg : Str → Option Value} {base : Heap}
theorem def_ok {CX : CXT} {x : Str} {st : Stmt} {c : Addr} {N ps : List Str} {k : Nat} {sp : Sp} (D : DefAt K mg x st c) (S : FnScope N ps (defScope st)) (len : ∀ vs H Q E, sp vs H Q E → vs.length = ps.length)
    (hb : ∀ (kV doc pm : Value) (an : Option Addr) (cdv ct : Value) (us : List Value), us.length = ps.length → bindArgs (PySem.W.fnOf x x (defArgs st) (defBody st) (defScope st) .none kV doc pm an cdv ct) ⟨us, []⟩ = pure (ps.zip us))
    (hbody : ∀ (f : Addr) (A : Around) (outer : List Env) (s : Shared) (H : Hp) (vs : List V) (Q : VK) (E : XK), Room k (A.deeper (envOfC x (defScope st) s.heap.objs.size f (.ref c))) → sp vs H Q E →
      ∃ t, PSs (cxOf CX P w K mg base N x (defScope st) f (.ref c) A outer s H E) (defBody st) t ∧ t { nx := fun _ H' => Q .non H', rt := Q } (start N vs) H) :
    Cal P w K mg base CX (k + 1) x ps sp := by
  obtain ⟨f, oc, od, kV, doc, pm, an, ct, osl, hm, lk, hcd, kp⟩ := D.ex
  exact ⟨f, _, fn_of lk hcd S len fun A outer s H vs Q E hr hsp => hbody f A outer s H vs Q E hr hsp, hm, kp, .all (hb kV doc pm an (.ref c) ct)⟩
/-- .. that no exception leaves -/
theorem def_ok0 {x : Str} {st : Stmt} {c : Addr} {N ps : List Str} {k : Nat} {sp : Sp} (D : DefAt K mg x st c) (S : FnScope N ps (defScope st)) (len : ∀ vs H Q E, sp vs H Q E → vs.length = ps.length)
    (hb : ∀ (kV doc pm : Value) (an : Option Addr) (cdv ct : Value) (us : List Value), us.length = ps.length → bindArgs (PySem.W.fnOf x x (defArgs st) (defBody st) (defScope st) .none kV doc pm an cdv ct) ⟨us, []⟩ = pure (ps.zip us))
    (hbody : ∀ (f : Addr) (A : Around) (outer : List Env) (s : Shared) (H : Hp) (vs : List V) (Q : VK) (E : XK), Room k (A.deeper (envOfC x (defScope st) s.heap.objs.size f (.ref c))) → sp vs H Q E →
      ∃ t, PSs (cxOf CX0 P w K mg base N x (defScope st) f (.ref c) A outer s H E).nox (defBody st) t ∧ t { nx := fun _ H' => Q .non H', rt := Q } (start N vs) H) :
    Cal P w K mg base CX0 (k + 1) x ps sp :=
  def_ok D S len hb fun f A outer s H vs Q E hr hsp => by
    obtain ⟨t, ht, q⟩ := hbody f A outer s H vs Q E hr hsp
    exact ⟨t, ht.nox, q⟩
end
section
variable {X : Cx} {CX : CXT} {k j : Nat} {ps : List Str} {sp : Sp} {E : XK} {x : Str} {p pos : Pos} {e : Expr} {es : List Expr} {t : TA}
theorem pe_c (c : Cal X.prog X.w X.K X.mg X.base CX k x ps sp) (hr : Room j X.A) (hk : k ≤ j) (hg : Gl X x) (hx : Passes CX X E) (ha : PA X (e :: es) t) (hdb : (x == ("__debug__" : Str)) = false := by decide)
    (he : starEach (e :: es) X.env = (false, eval e X.env) :: starEach es X.env := by rfl) (hpl : (backTo pos (starEach es X.env)).any (·.1) = false := by rfl) :
    PE X (.Call (.Name x p) (e :: es) [] pos) (tCall sp [] E t) := by
  obtain ⟨f, fd, F, hm, kp, hb⟩ := c.ex
  exact pe_call F (hr.mono hk) hg hm kp hb .nil hx ha hdb he hpl
end

/-! ### data -/
theorem sqT_same {K : PySem.W.Frag} {H H' : Hp} {a : Addr} {xs : List V} (e : Same H H') (h : SqT K H a xs) : SqT K H' a xs := by
  rcases h with (h | ⟨o, h⟩) | h
  · exact .inl (.inl (e _ _ h))
  · exact .inl (.inr ⟨o, e _ _ h⟩)
  · exact .inr h
mutual
theorem dp_same {K : PySem.W.Frag} {H H' : Hp} (e : Same H H') : ∀ (d : PyData) {v : V}, Dp K H v d → Dp K H' v d
  | .none, _, .non => .non
  | .bool b, _, .bl _ => .bl b
  | .int i, _, .int _ => .int i
  | .str x, _, .str _ => .str x
  | .list ds, _, .lst h hs => .lst (e.seq h) (dpAll_same e ds hs)
  | .tuple ds, _, .tup h hs => .tup (sqT_same e h) (dpAll_same e ds hs)
  | .dict _, _, h => nomatch h
theorem dpAll_same {K : PySem.W.Frag} {H H' : Hp} (e : Same H H') : ∀ (ds : List PyData) {vs : List V}, DpAll K H vs ds → DpAll K H' vs ds
  | [], _, .nil => .nil
  | d :: ds, _, .cons h hs => .cons (dp_same e d h) (dpAll_same e ds hs)
end
theorem dpLen {K : PySem.W.Frag} {H : Hp} : ∀ {vs : List V} {ds : List PyData}, DpAll K H vs ds → vs.length = ds.length
  | _, _, .nil => rfl
  | _, _, .cons _ t => congrArg (· + 1) (dpLen t)
theorem dpGet {K : PySem.W.Frag} {H : Hp} : ∀ {vs : List V} {ds : List PyData} {i : Nat} {v : V}, DpAll K H vs ds → vs[i]? = some v → ∃ d, ds[i]? = some d ∧ Dp K H v d
  | _, _, _, _, .nil, e => by simp at e
  | _, _, 0, _, .cons h _, e => by
    simp at e
    subst e
    exact ⟨_, rfl, h⟩
  | _, _, i + 1, v, .cons _ t, e => by
    obtain ⟨d, h1, h2⟩ := dpGet (i := i) (v := v) t (by simpa using e)
    exact ⟨d, by simpa using h1, h2⟩
theorem dpGet' {K : PySem.W.Frag} {H : Hp} {vs : List V} {ds : List PyData} {i : Nat} {d : PyData} (h : DpAll K H vs ds) (e : ds[i]? = some d) : ∃ v, vs[i]? = some v ∧ Dp K H v d := by
  have hl := dpLen h
  have hi : i < vs.length := by
    rw [hl]
    exact (List.getElem?_eq_some_iff.mp e).1
  obtain ⟨d', e', h'⟩ := dpGet h (List.getElem?_eq_getElem hi)
  rw [e] at e'
  cases e'
  exact ⟨_, List.getElem?_eq_getElem hi, h'⟩
theorem dpApp {K : PySem.W.Frag} {H : Hp} : ∀ {vs ws : List V} {ds es : List PyData}, DpAll K H vs ds → DpAll K H ws es → DpAll K H (vs ++ ws) (ds ++ es)
  | _, _, _, _, .nil, h => h
  | _, _, _, _, .cons h t, q => .cons h (dpApp t q)

/-- the name of a datum's type -/
def tyN : PyData → String
  | .none => "NoneType"
  | .bool _ => "bool"
  | .int _ => "int"
  | .str _ => "str"
  | .list _ => "list"
  | .tuple _ => "tuple"
  | .dict _ => "dict"
/-- isinstance(d, T), d's type being n -/
def isT (T n : String) : Bool := T == n || (T == "int" && n == "bool")
def isI (T : String) (d : PyData) : Bool := isT T (tyN d)
theorem kit_names : ∀ n ∈ ["NoneType", "bool", "int", "str", "list", "tuple"], ∀ T ∈ ["int", "bool", "str", "list", "tuple"], kitB n T = some (isT T n) := by decide +kernel
theorem dp_ty {K : PySem.W.Frag} {H : Hp} {v : V} {d : PyData} (h : Dp K H v d) : TyX K H v (.type (tyN d)) := by
  cases h with
  | non => exact .base .non
  | bl b => exact .base (.bl b)
  | int i => exact .base (.int i)
  | str x => exact .base (.str x)
  | lst q _ =>
    rcases q with (q | ⟨o, q⟩) | ⟨o, its, n, q, c, _⟩
    · exact .base (.lst q)
    · exact .base (.frz q)
    · exact .kList q c
  | tup q _ =>
    rcases q with (q | ⟨o, q⟩) | ⟨o, its, n, q, c, _⟩
    · exact .base (.tup q)
    · exact .fTuple q
    · exact .kTuple q c
theorem kit_isI {K : PySem.W.Frag} {T : String} (hT : T ∈ ["int", "bool", "str", "list", "tuple"]) {H : Hp} {v : V} {d : PyData} (h : Dp K H v d) : PySem.W.kitOne K (.type (tyN d)) (.type T) = some (isI T d) := by
  refine kit_ty (kit_names _ ?_ _ hT)
  cases h <;> simp [tyN]
theorem isi_at {K : PySem.W.Frag} {H : Hp} {v : V} {d : PyData} {T : String} {Q : VK} (h : Dp K H v d) (q : Q (.bl (isI T d)) H) (hT : T ∈ ["int", "bool", "str", "list", "tuple"] := by simp) : rIsi K [v, .ty T] H Q :=
  ⟨v, .ty T, _, _, isI T d, rfl, .ty T, dp_ty h, kit_isI hT h, q⟩
end RS
set_option Elab.async false
set_option maxRecDepth 100000
set_option maxHeartbeats 4000000
namespace RS
open PySem PySem.Spec PyProof.Rows L2 GX
section
variable {X : Cx}
/-! ### rules whose readings speak of data -/
/-- isinstance(x, T) -/
theorem call_isiD : CallR X (.builtin "isinstance") (fun xs H Q => ∃ x T d, xs = [x, .ty T] ∧ T ∈ ["int", "bool", "str", "list", "tuple"] ∧ Dp X.K H x d ∧ Q (.bl (isI T d)) H) := by
  intro pins s σ H xs us Q I r ⟨x, T, d, e, hT, hd, q⟩
  subst e
  exact call_isi pins s σ H _ us Q I r ⟨x, .ty T, _, _, isI T d, rfl, .ty T, dp_ty hd, kit_isI hT hd, q⟩
/-- how many items -/
def lenD : PyData → Option Nat
  | .list ds => some ds.length
  | .tuple ds => some ds.length
  | .str x => if x.length ≤ sizeLine then some x.length else none
  | _ => none
/-- len(x) of a list, a tuple, a text -/
theorem call_lenD : CallR X (.builtin "len") (fun xs H Q => ∃ x d n, xs = [x] ∧ Dp X.K H x d ∧ lenD d = some n ∧ Q (.int n) H) := by
  intro pins s σ H xs us Q I r ⟨x, d, n, e, hd, hn, q⟩
  subst e
  cases hd with
  | non => cases hn
  | bl _ => cases hn
  | int _ => cases hn
  | str y =>
    simp only [lenD] at hn
    split at hn
    · rename_i hz
      cases hn
      exact call_len_str pins s σ H _ us Q I r ⟨y, rfl, hz, q⟩
    · cases hn
  | @lst a ys ds h hs =>
    cases hn
    rw [← dpLen hs] at q
    exact call_len_seq pins s σ H _ us Q I r ⟨a, ys, rfl, .inl h, q⟩
  | @tup a ys ds h hs =>
    cases hn
    rw [← dpLen hs] at q
    exact call_len_seq pins s σ H _ us Q I r ⟨a, ys, rfl, .inr h, q⟩
/-- the items of a list or tuple -/
def itemsD : PyData → Option (List PyData)
  | .list ds => some ds
  | .tuple ds => some ds
  | _ => none
/-- x[i] of a list or a tuple -/
theorem ixD : IxR X (fun x y H Q => ∃ d ds i d', Dp X.K H x d ∧ itemsD d = some ds ∧ y = .int i ∧ atI ds i = some d' ∧ ∀ v, Dp X.K H v d' → Q v H) := by
  intro value slice pins s σ H x y v u Q I rx ry ⟨d, ds, i, d', hd, hi, ey, ha, q⟩ hs
  have at_ : ∀ {vs : List V}, DpAll X.K H vs ds → ∃ v, atI vs i = some v ∧ Dp X.K H v d' := fun {vs} hv => by
    unfold atI at ha ⊢
    rw [← dpLen hv] at ha
    cases hx : ixN vs.length i with
    | none => rw [hx] at ha; cases ha
    | some j =>
      rw [hx] at ha
      exact dpGet' hv ha
  cases hd with
  | non => cases hi
  | bl _ => cases hi
  | int _ => cases hi
  | str _ => cases hi
  | @lst a ys es h hes =>
    cases hi
    obtain ⟨z, hz, hzd⟩ := at_ hes
    exact ix_list value slice pins s σ H _ y v u Q I rx ry ⟨a, ys, i, z, rfl, ey, h, hz, q z hzd⟩ hs
  | @tup a ys es h hes =>
    cases hi
    obtain ⟨z, hz, hzd⟩ := at_ hes
    exact ix_tup value slice pins s σ H _ y v u Q I rx ry ⟨a, ys, i, z, rfl, ey, h, hz, q z hzd⟩ hs
end
end RS
set_option Elab.async false
set_option maxRecDepth 100000
set_option maxHeartbeats 4000000
namespace RS
open PySem L2
def top (i : Nat) : Stmt := PySem.Challenge.pw_runsorts_k01_sieves.main.body.getD i (.Pass ⟨0, 0, 0, 0⟩)

abbrev s_BadRows_init : Stmt := inClass (top 5) 0
abbrev s_BadRuns_init : Stmt := inClass (top 6) 0
abbrev s_BadText_init : Stmt := inClass (top 17) 0
abbrev sIsNumber : Stmt := top 25
abbrev sIsWord : Stmt := top 26
abbrev sIsValue : Stmt := top 27
abbrev sIsRow : Stmt := top 28
abbrev sIsPart : Stmt := top 29
abbrev sCheckKinds : Stmt := top 30
abbrev sCheckOrder : Stmt := top 31
abbrev sWorths : Stmt := top 32
abbrev sRank : Stmt := top 33
abbrev s_Sieve_init : Stmt := inClass (top 35) 0
abbrev s_Sieve_put : Stmt := inClass (top 35) 1
abbrev s_Sieve_take : Stmt := inClass (top 35) 2
abbrev s_Sieve_remains : Stmt := inClass (top 35) 3
abbrev sBegun : Stmt := top 37
abbrev sTake : Stmt := top 38
abbrev sAlike : Stmt := top 39
abbrev sClass : Stmt := top 40
abbrev sTold : Stmt := top 41
abbrev sAll : Stmt := top 42
abbrev sKinds : Stmt := top 43
abbrev sOrder : Stmt := top 44
abbrev sValue : Stmt := top 45
abbrev sRows : Stmt := top 46
abbrev sAhead : Stmt := top 47
abbrev sSorted : Stmt := top 48
abbrev sPairs : Stmt := top 49
abbrev sBadRow : Stmt := top 50
abbrev sDeed : Stmt := top 51
abbrev sLaw : Stmt := top 52

abbrev nKinds : Str := "_law_kinds_here"

/-- what the module's names hold -/
structure Txt (K : PySem.W.Frag) (mg : Str → Option Value) : Prop where
  isinstance : mg "isinstance" = none
  int_ : mg "int" = none
  bool_ : mg "bool" = none
  str_ : mg "str" = none
  list_ : mg "list" = none
  tuple_ : mg "tuple" = none
  len : mg "len" = none
  all : mg "all" = none
  zip : mg "zip" = none
  enumerate : mg "enumerate" = none
  ord : mg "ord" = none
  range : mg "range" = none
  sorted : mg "sorted" = none
  max : mg "max" = none
  min : mg "min" = none
  columns : ∃ t, mg "MOST_COLUMNS" = some (.int 4 t)
  number : ∃ t, mg "MOST_NUMBER" = some (.int 999 t)
  letters : ∃ t, mg "MOST_LETTERS" = some (.int 6 t)
  rows : ∃ t, mg "MOST_ROWS" = some (.int 120 t)
  kinds : ∃ a, mg "KINDS" = some (.ref a) ∧ ∀ H, SqT K H a [.str "number", .str "word"]
  ways : ∃ a, mg "WAYS" = some (.ref a) ∧ ∀ H, SqT K H a [.str "up", .str "down"]
end RS
set_option Elab.async false
set_option maxRecDepth 100000
set_option maxHeartbeats 4000000
namespace RS
open PySem PySem.Spec PyProof.Rows L2 GX

/-! ### the mathematics: what a number, a word, a value, a row is -/
def isNum (d : PyData) : Bool := isI "int" d && !isI "bool" d

section
variable {P : Program} {w : World} {K : PySem.W.Frag} {mg : Str → Option Value} {base : Heap}
theorem scIsNumber : FnScope ["value"] ["value"] (defScope sIsNumber) := ⟨rfl, rfl, rfl, by decide +kernel, rfl, by decide +kernel, by decide +kernel⟩
def spNum (K : PySem.W.Frag) : Sp := fun vs H Q _ => ∃ (v : V) (d : PyData), vs = [v] ∧ Dp K H v d ∧ Q (.bl (isNum d)) H
theorem is_number_ok {c : Addr} (D : DefAt K mg "is_number" sIsNumber c) (T : Txt K mg) : Cal P w K mg base CX0 1 "is_number" ["value"] (spNum K) := by
  have sc := scIsNumber
  refine def_ok0 D sc (fun vs H Q E h => ?_) (fun _ _ _ _ _ _ us hl => match us, hl with | [_], _ => rfl) (fun f A outer s H vs Q E hr h => ?_)
  · obtain ⟨v, d, rfl, _⟩ := h
    rfl
  · obtain ⟨v, d, rfl, hd, k⟩ := h
    refine ⟨_, (pss_one (ps_ret (pe_and (pe_callB call_isiD (by rfl) T.isinstance (by decide +kernel) (pa_cons (pv 0) (pa_cons (pe_bltn (v := V.ty "int") (u := Value.type "int") (by rfl) T.int_ (by decide +kernel) rfl) pa_nil))) (pe_one (pe_not (pe_callB call_isiD (by rfl) T.isinstance (by decide +kernel) (pa_cons (pv 0) (pa_cons (pe_bltn (v := V.ty "bool") (u := Value.type "bool") (by rfl) T.bool_ (by decide +kernel) rfl) pa_nil)))))))), ?_⟩
    refine ⟨_, rfl, _, _, _, rfl, by simp, hd, _, rfl, ?_⟩
    refine ite2 (fun h1 => ?_) (fun h1 => ?_)
    · refine ⟨_, rfl, _, _, _, rfl, by simp, hd, _, rfl, ?_⟩
      have e : isNum d = !isI "bool" d := by unfold isNum; rw [h1, Bool.true_and]
      rw [← e]
      exact k
    · have e : isNum d = false := by unfold isNum; rw [bf h1, Bool.false_and]
      rw [← e]
      exact k

end
end RS
set_option Elab.async false
set_option maxRecDepth 100000
set_option maxHeartbeats 4000000
namespace RS
open PySem PySem.Spec PyProof.Rows L2 GX

/-! ### kinds, values, rows -/
/-- the name of a kind: true a word's, false a number's -/
def kindS (b : Bool) : Str := if b then "word" else "number"
def kindsD (ks : List Bool) : PyData := .tuple (ks.map fun b => .str (kindS b))
theorem kindS_word (b : Bool) : decide (V.str (kindS b) = V.str "word") = b := by
  cases b
  · decide +kernel
  · decide +kernel
theorem isNum_int {K : PySem.W.Frag} {H : Hp} {v : V} {d : PyData} (h : Dp K H v d) (e : isNum d = true) : ∃ n, d = .int n ∧ v = .int n := by
  cases h <;> first | exact ⟨_, rfl, rfl⟩ | (simp [isNum, isI, isT, tyN] at e)

end RS
set_option Elab.async false
set_option maxRecDepth 100000
set_option maxHeartbeats 4000000
namespace RS
open PySem PySem.Spec PyProof.Rows L2 GX

/-- many new objects are laid and tracked at once -/
theorem laid_many {X : Cx} {pins : List (Addr × Obj)} {σ : L2.St} {H H2 : Hp} {s : Shared} {g : Heap} {tk : Nat} (I : Inv X pins σ H s) (kp : ∀ b u, s.heap.get? b = some u → g.get? b = some u)
    (old : ∀ b, b < s.heap.objs.size → H2 b = H b) (new : ∀ b o, s.heap.objs.size ≤ b → H2 b = some o → ObjOk X.prog X.w H2 g b o) : Inv X pins σ H2 { s with heap := g, toks := tk } := by
  have up : ∀ b o, H b = some o → H2 b = some o := fun b o e => by rw [old b (I.hok.lt e)]; exact e
  refine I.un (t' := tk) ⟨fun b o e _ _ _ => kp b o e, fun b o e _ _ _ => ⟨o.slots, kp b o e⟩, fun b o e n _ => by rw [old b (Heap.lt_size e)]; exact n, fun b o e _ => ⟨o, kp b o e⟩,
    fun b xs e => up b _ e, fun b o u e => up b _ e, fun b ps e => ⟨#[], by rw [up b _ e, Array.append_empty]⟩⟩ (fun b o e => ?_)
  by_cases hb : b < s.heap.objs.size
  · rw [old b hb] at e
    exact (I.hok b o e).stay (fun c u _ q => kp c u q) (fun c q => up c _ q) (fun c xs q => up c _ q)
  · exact new b o (Nat.le_of_not_lt hb) e

theorem enum_no_len : typeLookup (.type "enumerate") "__len__" = pure none := by rw [typeLookup_type, builtinLookup_eq_fast]; kernel_rfl
theorem enum_no_hint : typeLookup (.type "enumerate") "__length_hint__" = pure none := by rw [typeLookup_type, builtinLookup_eq_fast]; kernel_rfl

/-- the enumeration e over the iterator it of the list l stands ahead of item i -/
def EnumAt (h : Heap) (e it l : Addr) (i : Nat) : Prop :=
  h.IsListIter it l i ∧ ((i = 0 ∧ IsEnum h e it 0 .none) ∨ ∃ (T : Addr) (f : Bool) (x : Value) (o : Obj), IsEnumHeld h e it (i : Int) x T f ∧ h.get? T = some o ∧ T ≠ e ∧ T ≠ it)
/-- the pairs that have been put into acc -/
def Pairs (h : Heap) (lo : Nat) (items : Array Value) (acc : Array Value) : Prop :=
  ∀ j v, acc[j]? = some v → ∃ (T : Addr) (tk : Nat) (x : Value), v = .ref T ∧ lo ≤ T ∧ items[j]? = some x ∧ h.get? T = some { cls := .type "tuple", data := .seq #[.int (j : Nat) tk, x] }
section
variable {prog : Program} {w : World} {A : Around} {s0 : Shared} {S e it l : Addr} {items : Array Value}
theorem enum_next {E : Value → Shared → Prop} {s : Shared} {i : Nat} {x : Value} {Q : Option Value → Shared → Prop} (hs : EnumAt s.heap e it l i) (hl : s.heap.IsList l items) (hx : items[i]? = some x) (hne : e ≠ it)
    (he : e < s.heap.objs.size) (hi : it < s.heap.objs.size)
    (hQ : ∀ g, EnumAt g e it l (i + 1) → g.get? s.heap.objs.size = some { cls := .type "tuple", data := .seq #[.int (i : Nat) s.toks, x] } → (∀ b o, b ≠ e → b ≠ it → s.heap.get? b = some o → g.get? b = some o) →
      Q (some (.ref s.heap.objs.size)) { s with heap := g, toks := s.toks + 1 }) : wpAny (model prog w) A (pyNext (.ref e)) Q E s := by
  obtain ⟨hit, ⟨rfl, h0⟩ | ⟨T, f, y, o, h1, hT, hTe, hTi⟩⟩ := hs
  · refine wpAny_pyNext_enum_item (i := 0) h0 hit hl hx hne fun g a b c _ d => hQ g ⟨b, .inr ⟨_, _, _, _, a, c, Nat.ne_of_gt he, Nat.ne_of_gt hi⟩⟩ c d
  · exact wpAny_pyNext_enum_item_held h1 hT hTe hTi hit hl hx hne fun g a b c _ d => hQ g ⟨b, .inr ⟨T, true, y, o, a, d T o hTe hTi hT, hTe, hTi⟩⟩ c d
theorem enum_stop {E : Value → Shared → Prop} {s : Shared} {i : Nat} {Q : Option Value → Shared → Prop} (hh : A.handled = none) (hs : EnumAt s.heap e it l i) (hl : s.heap.IsList l items) (hx : items[i]? = none)
    (hQ : ∀ g, Heap.ExtBut it s.heap g → Q none { s with heap := g }) : wpAny (model prog w) A (pyNext (.ref e)) Q E s := by
  obtain ⟨hit, ⟨rfl, h0⟩ | ⟨T, f, y, o, h1, hT, hTe, hTi⟩⟩ := hs
  · exact wpAny_pyNext_enum_end hh h0 hit hl hx hQ
  · exact wpAny_pyNext_enum_end_held hh h1 hit hl hx hQ

theorem enum_loop {R : Result → Shared → Prop} {res : Value} (hh : A.handled = none) (hne : e ≠ it) (hSe : S ≠ e) (hSi : S ≠ it) (hSl : S ≠ l) (hle : l ≠ e) (hli : l ≠ it) (lo : Nat) (hz : items.size ≤ sizeLine)
    (hend : ∀ g tk acc c, g.get? S = some (lstObj acc c) → acc.size = items.size → Pairs g lo items acc → (∀ b o, b ≠ e → b ≠ it → b ≠ S → s0.heap.get? b = some o → g.get? b = some o) → R (.ok (.ret res)) { s0 with heap := g, toks := tk }) :
    ∀ (k i : Nat) (g : Heap) (tk : Nat) (acc : Array Value) (c : Nat), items.size - i = k → i ≤ items.size → acc.size = i → g.get? S = some (lstObj acc c) → EnumAt g e it l i → g.IsList l items → lo ≤ g.objs.size → e < lo → it < lo → S < lo →
      Pairs g lo items acc → (∀ b o, b ≠ e → b ≠ it → b ≠ S → s0.heap.get? b = some o → g.get? b = some o) →
      codeAny (model prog w) A (.builtin "list.extend.loop" ⟨[.ref S, .ref e, res], []⟩) R { s0 with heap := g, toks := tk } := by
  intro k
  induction k with
  | zero =>
    intro i g tk acc c hk hi ha hS he hl hlo helo hilo hSlo hp hkp
    have hin : i = items.size := by omega
    refine codeAny_builtin F.entry_extend_loop ?_
    rw [Around.under_plainId F.plain_extend_loop _]
    show wpAny _ A.in1 (pyNext (.ref e) >>= _) _ _ _
    refine wpAny_bind (enum_stop (s := { s0 with heap := g, toks := tk }) hh he hl (by rw [hin]; simp) fun g2 ext => ?_)
    refine wpAny_pure (hend g2 tk acc c (ext S _ hSi hS) (by omega) (fun j v hv => ?_) (fun b o h1 h2 h3 q => ext b o h2 (hkp b o h1 h2 h3 q)))
    obtain ⟨T, tk', x, e1, e2, e3, e4⟩ := hp j v hv
    exact ⟨T, tk', x, e1, e2, e3, ext T _ (Nat.ne_of_gt (Nat.lt_of_lt_of_le hilo e2)) e4⟩
  | succ k ih =>
    intro i g tk acc c hk hi ha hS he hl hlo helo hilo hSlo hp hkp
    have hlt : i < items.size := by omega
    refine codeAny_builtin F.entry_extend_loop ?_
    rw [Around.under_plainId F.plain_extend_loop _]
    show wpAny _ A.in1 (pyNext (.ref e) >>= _) _ _ _
    refine wpAny_bind (enum_next (s := { s0 with heap := g, toks := tk }) he hl (Array.getElem?_eq_getElem hlt) hne (Nat.lt_of_lt_of_le helo hlo) (Nat.lt_of_lt_of_le hilo hlo) fun g2 he2 hT2 hk2 => ?_)
    have hS2 : g2.get? S = some (lstObj acc c) := hk2 S _ hSe hSi hS
    have gT : g.objs.size ≠ S := fun z => Nat.lt_irrefl _ (Nat.lt_of_lt_of_le (by rw [z]; exact hSlo) hlo)
    have gTe : g.objs.size ≠ e := fun z => Nat.lt_irrefl _ (Nat.lt_of_lt_of_le (by rw [z]; exact helo) hlo)
    have gTi : g.objs.size ≠ it := fun z => Nat.lt_irrefl _ (Nat.lt_of_lt_of_le (by rw [z]; exact hilo) hlo)
    show wpAny _ A.in1 (updateSeq S (·.push (.ref g.objs.size)) >>= _) _ _ _
    apply wpAny_bind
    refine wpAny_updateSeq hS2 rfl (wpAny_pure ⟨plainId_quiet F.plain_extend_loop _, ?_⟩) (by omega) (by show (acc.push _).size ≤ sizeLine + 1; rw [Array.size_push]; omega)
    have up : ∀ b o, b ≠ S → g2.get? b = some o → (g2.update S (Obj.mapSeq (·.push (.ref g.objs.size)))).get? b = some o := fun b o hb q => (Heap.get?_update_other _ _ (Ne.symm hb)).trans q
    have lt2 : g.objs.size < g2.objs.size := Heap.lt_size hT2
    refine ih (i + 1) _ _ (acc.push (.ref g.objs.size)) _ (by omega) hlt (by rw [Array.size_push]; omega) (Heap.get?_update_self _ hS2 rfl) ?_ ?_ ?_ helo hilo hSlo (fun j v hv => ?_) (fun b o h1 h2 h3 q => up b o h3 (hk2 b o h1 h2 (hkp b o h1 h2 h3 q)))
    · obtain ⟨⟨oi, hoi, r⟩, hd⟩ := he2
      refine ⟨⟨oi, up it oi (Ne.symm hSi) hoi, r⟩, ?_⟩
      rcases hd with ⟨z, q⟩ | ⟨T, f, x, o, q1, q2, q3, q4⟩
      · exact .inl ⟨z, up e _ (Ne.symm hSe) q⟩
      · by_cases hTS : T = S
        · subst hTS
          exact .inr ⟨T, f, x, _, up e _ (Ne.symm hSe) q1, Heap.get?_update_self _ hS2 rfl, q3, q4⟩
        · exact .inr ⟨T, f, x, o, up e _ (Ne.symm hSe) q1, up T o hTS q2, q3, q4⟩
    · obtain ⟨ol, hol, r⟩ := hl
      exact ⟨ol, up l ol (Ne.symm hSl) (hk2 l ol hle hli hol), r⟩
    · rw [Heap.size_update]
      exact Nat.le_trans hlo (Nat.le_of_lt lt2)
    · rw [Array.getElem?_push] at hv
      split at hv
      · rename_i hj
        cases hv
        have ej : j = i := by omega
        subst ej
        exact ⟨g.objs.size, tk, items[j], rfl, hlo, Array.getElem?_eq_getElem hlt, up _ _ gT hT2⟩
      · obtain ⟨T, tk', x, e1, e2, e3, e4⟩ := hp j v hv
        have nTS : T ≠ S := Nat.ne_of_gt (Nat.lt_of_lt_of_le hSlo e2)
        exact ⟨T, tk', x, e1, e2, e3, up T _ nTS (hk2 T _ (Nat.ne_of_gt (Nat.lt_of_lt_of_le helo e2)) (Nat.ne_of_gt (Nat.lt_of_lt_of_le hilo e2)) e4)⟩
end
end RS
set_option Elab.async false
set_option maxRecDepth 100000
set_option maxHeartbeats 4000000
namespace RS
open PySem PySem.Spec PyProof.Rows L2 GX

/-- list(e), e an enumeration of the list l that has just been made -/
theorem list_of_enum {P : Program} {w : World} {A : Around} {E : Value → Shared → Prop} {s : Shared} {e it l : Addr} {items : Array Value} {Q : Value → Shared → Prop} (hh : A.handled = none) (he : IsEnum s.heap e it 0 .none) (hit : s.heap.IsListIter it l 0) (hl : s.heap.IsList l items)
    (hne : e ≠ it) (hle : l ≠ e) (hli : l ≠ it) (hz : items.size ≤ sizeLine)
    (hQ : ∀ g tk acc c, g.get? s.heap.objs.size = some (lstObj acc c) → acc.size = items.size → Pairs g (s.heap.objs.size + 1) items acc → (∀ b o, b ≠ e → b ≠ it → s.heap.get? b = some o → g.get? b = some o) → Q (.ref s.heap.objs.size) { s with heap := g, toks := tk }) :
    wpAny (model P w) A (call (.type "list") [.ref e]) Q E s := by
  have lte : e < s.heap.objs.size := Heap.lt_size he
  have lti : it < s.heap.objs.size := by obtain ⟨o, ho, _⟩ := hit; exact Heap.lt_size ho
  have ltl : l < s.heap.objs.size := by obtain ⟨o, ho, _⟩ := hl; exact Heap.lt_size ho
  have hSe : s.heap.objs.size ≠ e := Nat.ne_of_gt lte
  have tyE : ∀ {g : Heap}, (∀ b o, s.heap.get? b = some o → g.get? b = some o) → ({ s with heap := g } : Shared).TypeIs (.ref e) "enumerate" := fun {g} q => ⟨_, q _ _ he, rfl⟩
  refine callType_codes (Q₁ := fun obj s₁ => obj = .ref s.heap.objs.size ∧ s₁ = { s with heap := s.heap.push { cls := .type "list", data := .seq #[] } }) PySem.F.called_list (PySem.F.typeCall_list_1 _) PySem.F.entry_list_init
    (code_list_new _ ⟨rfl, rfl⟩) fun obj s₁ h₁ => ?_
  obtain ⟨rfl, rfl⟩ := h₁
  have hS : (s.heap.push { cls := .type "list", data := .seq #[] }).get? s.heap.objs.size = some { cls := .type "list", data := .seq #[] } := Heap.get?_push_size _ rfl
  refine ⟨⟨_, hS, rfl⟩, PySem.F.args_list_init_2 _ _, ?_⟩
  show wpAny _ A.in1.in1 (do
    let old ← Builtin.List.listItems (.ref s.heap.objs.size)
    Builtin.List.listUpdate (.ref s.heap.objs.size) (fun _ => #[])
    letGo old.toList.reverse
    Builtin.List.listExtendWith (.ref s.heap.objs.size) (.ref e) .none) _ _ _
  apply wpAny_bind
  unfold Builtin.List.listItems
  refine wpAny_bind (wpAny_seqItems hS rfl (wpAny_pure ?_))
  show wpAny _ A.in1.in1 (updateSeq s.heap.objs.size (fun _ => #[]) >>= fun _ => letGo (#[] : Array Value).toList.reverse >>= fun _ =>
    Builtin.List.listExtendWith (.ref s.heap.objs.size) (.ref e) .none) _ _ _
  refine wpAny_bind (wpAny_updateSeq hS rfl ?_)
  have hS2 := Heap.get?_update_self (Obj.mapSeq (fun _ => (#[] : Array Value))) hS rfl
  apply wpAny_bind
  apply wpAny_letGo
  unfold Builtin.List.listExtendWith
  have up : ∀ (h : Heap) (f : Obj → Obj), (∀ b o, s.heap.get? b = some o → h.get? b = some o) → ∀ b o, s.heap.get? b = some o → (h.update s.heap.objs.size f).get? b = some o := fun h f q b o y =>
    (Heap.get?_update_other _ _ (Ne.symm (Nat.ne_of_lt (Heap.lt_size y)))).trans (q b o y)
  have k1 : ∀ b o, s.heap.get? b = some o → (s.heap.push { cls := .type "list", data := .seq #[] }).get? b = some o := fun b o y => Heap.get?_push_of_some _ y
  have k2 := up _ (Obj.mapSeq (fun _ => (#[] : Array Value))) k1
  apply wpAny_bind
  refine wpAny_typeOf (tyE k2) ?_
  have h1 : Builtin.List.listSameRef (.ref s.heap.objs.size) (.ref e) = false := by simp [Builtin.List.listSameRef, hSe]
  have h2 : (Value.type "enumerate" == Value.type "list") = false := by decide
  have h3 : (Value.type "enumerate" == Value.type "tuple") = false := by decide
  simp only [h1, h2, h3, Bool.or_false, Bool.false_eq_true, if_false]
  apply wpAny_bind
  refine wpAny_pyIter_enum (s := { s with heap := _ }) (k2 _ _ he) ?_
  apply wpAny_bind
  apply wpAny_holding
  unfold Builtin.List.listLengthHint
  apply wpAny_bind
  refine wpAny_specialOf (tyE k2) enum_no_len ?_
  show wpAny _ A.in1.in1 (specialOf (Value.ref e) (Str.ofString "__length_hint__") >>= _) _ _ _
  apply wpAny_bind
  refine wpAny_specialOf (tyE k2) enum_no_hint ?_
  apply wpAny_pure
  show wpAny _ A.in1.in1 (rule "list.extend.makes-room" >>= fun _ => Builtin.List.listTouch (.ref s.heap.objs.size) >>= fun _ =>
    again (.builtin "list.extend.loop" ⟨[.ref s.heap.objs.size, .ref e, .none], []⟩)) _ _ _
  apply wpAny_bind
  apply wpAny_rule
  apply wpAny_bind
  show wpAny _ A.in1.in1 (updateSeq s.heap.objs.size (·.push .none) >>= fun _ => updateSeq s.heap.objs.size (·.pop)) _ _ _
  refine wpAny_bind (wpAny_updateSeq hS2 rfl ?_)
  have hS3 := Heap.get?_update_self (Obj.mapSeq (·.push Value.none)) hS2 rfl
  refine wpAny_updateSeq (hz := by seq_fits) hS3 rfl ?_
  have hS4 := Heap.get?_update_self (Obj.mapSeq (·.pop)) hS3 rfl
  have k4 := up _ (Obj.mapSeq (·.pop)) (up _ (Obj.mapSeq (·.push Value.none)) k2)
  refine wpAny_pure ⟨plainId_quiet PySem.F.plain_extend_loop _, ?_⟩
  refine enum_loop (s0 := s) (A := A.in1) (S := s.heap.objs.size) hh hne hSe (Nat.ne_of_gt lti) (Nat.ne_of_gt ltl) hle hli (s.heap.objs.size + 1) hz
    (fun g tk acc c q1 q2 q3 q4 => ⟨rfl, hQ g tk acc c q1 q2 q3 fun b o n1 n2 y => q4 b o n1 n2 (Nat.ne_of_lt (Heap.lt_size y)) y⟩) items.size 0 _ s.toks #[] _ (Nat.sub_zero _) (Nat.zero_le _) rfl hS4 ⟨?_, .inl ⟨rfl, k4 _ _ he⟩⟩ ?_ ?_
    (Nat.lt_succ_of_lt lte) (Nat.lt_succ_of_lt lti) (Nat.lt_succ_self _) (fun j v hv => by simp at hv) (fun b o _ _ _ y => k4 b o y)
  · obtain ⟨o, ho, r⟩ := hit
    exact ⟨o, k4 _ _ ho, r⟩
  · obtain ⟨o, ho, r⟩ := hl
    exact ⟨o, k4 _ _ ho, r⟩
  · exact Heap.lt_size hS4

/-- list(enumerate(e)) -/
def tLE (K : PySem.W.Frag) (te : TE) : TE := fun σ H Q => te σ H fun v H1 => ∃ a xs, v = .ref a ∧ SqL K H1 a xs ∧
  ∀ (H2 : Hp) (p : Addr) (ts : List Addr), Same H1 H2 → H1 p = none → H2 p = some (.lst (ts.map V.ref)) → ts.length = xs.length →
    (∀ (i : Nat) (x : V), xs[i]? = some x → ∃ T, ts[i]? = some T ∧ H1 T = none ∧ H2 T = some (.tup [.int i, x])) → Q (.ref p) H2
section
variable {X : Cx} {e : Expr} {te : TE} {p1 p2 q1 q2 : Pos}
theorem pe_le (hc : X.calm = true) (hg : Gl X "list") (hm : X.mg "list" = none) (hg2 : Gl X "enumerate") (hm2 : X.mg "enumerate" = none) (he : PE X e te)
    (hs : starEach [e] X.env = [(false, eval e X.env)] := by rfl)
    (hs2 : starEach [.Call (.Name "enumerate" q1) [e] [] q2] X.env = [(false, eval (.Call (.Name "enumerate" q1) [e] [] q2) X.env)] := by rfl) :
    PE X (.Call (.Name "list" p1) [.Call (.Name "enumerate" q1) [e] [] q2] [] p2) (tLE X.K te) := by
  refine ⟨fun pins s σ H Q I h => ?_⟩
  refine wpAny_Call_Name_kw (ld_blt I hg hm (show bootBuiltins "list" = some (.type "list") by decide +kernel) ?_)
  refine PyProof.Rows.callWith_type1 ?_ hs2 rfl
  rw [hs2]
  show wpAny _ _ (spliced [(false, eval (.Call (.Name "enumerate" q1) [e] [] q2) X.env)]) _ _ s
  refine Calls.spliced_cons ?_
  refine wpAny_Call_Name_kw (ld_blt I hg2 hm2 (show bootBuiltins "enumerate" = some (.type "enumerate") by decide +kernel) ?_)
  refine PyProof.Rows.callWith_type1 ?_ hs rfl
  rw [hs]
  show wpAny _ _ (spliced [(false, eval e X.env)]) _ _ s
  refine Calls.spliced_cons (thn (he.run pins s σ H _ I h) fun u s1 ⟨v, H1, I1, r1, a, xs, ev, hq, q⟩ => ?_)
  subst ev
  cases r1
  obtain ⟨its, rv, pl, hz⟩ := I1.list hq
  have lits : its.toArray.size = xs.length := by rw [List.size_toArray]; exact rv.length.symm
  have lta : a < s1.heap.objs.size := by obtain ⟨o, ho, _⟩ := pl.isList; exact Heap.lt_size ho
  refine Calls.spliced_nil ?_
  refine call_enumerate_list pl.isList fun g hen hit hsz hk => ?_
  refine Calls.spliced_nil ?_
  have I2 : Inv X pins σ H1 { s1 with heap := g } := I1.kept (t' := s1.toks) hk
  have hl2 : g.IsList a its.toArray := by
    obtain ⟨o, ho, r⟩ := pl.isList
    exact ⟨o, hk _ _ ho, r⟩
  refine list_of_enum (s := { s1 with heap := g }) (I1.ok.hd hc) hen hit hl2 (Nat.succ_ne_self _) (Nat.ne_of_lt (Nat.lt_succ_of_lt lta)) (Nat.ne_of_lt lta) (by rw [lits]; exact hz) fun g2 tk acc c hS ha hp hk2 => ?_
  -- what is new
  have szg : g.objs.size = s1.heap.objs.size + 2 := hsz
  have kall : ∀ b o, s1.heap.get? b = some o → g2.get? b = some o := fun b o y => by
    have lt := Heap.lt_size y
    exact hk2 b o (Nat.ne_of_lt (Nat.lt_succ_of_lt lt)) (Nat.ne_of_lt lt) (hk b o y)
  have sym : ∀ (i : Nat) (x : V), xs[i]? = some x → ∃ (T : Addr) (tk' : Nat) (u : Value), acc[i]? = some (.ref T) ∧ g.objs.size + 1 ≤ T ∧ RelV x u ∧ g2.get? T = some { cls := .type "tuple", data := .seq #[.int (i : Nat) tk', u] } := fun i x hx => by
    have hi : i < acc.size := by
      rw [ha, lits]
      exact (List.getElem?_eq_some_iff.mp hx).1
    obtain ⟨T, tk', u, e1, e2, e3, e4⟩ := hp i _ (Array.getElem?_eq_getElem hi)
    obtain ⟨u', hu', ru⟩ := rv.get hx
    have e3' : its[i]? = some u := by simpa using e3
    rw [hu'] at e3'
    cases e3'
    exact ⟨T, tk', u, by rw [Array.getElem?_eq_getElem hi, e1], e2, ru, e4⟩
  let adr : Value → Addr := fun v => match v with | .ref b => b | _ => 0
  have hts : ∀ v ∈ acc.toList, v = .ref (adr v) := fun v hv => by
    obtain ⟨j, hj⟩ := List.getElem?_of_mem hv
    obtain ⟨T, _, _, e1, _⟩ := hp j v (by simpa using hj)
    rw [e1]
  have tlen : (acc.toList.map adr).length = xs.length := by rw [List.length_map, Array.length_toList, ha, lits]
  have tget : ∀ (i : Nat) (x : V), xs[i]? = some x → ∃ (T : Addr) (tk' : Nat) (u : Value), (acc.toList.map adr)[i]? = some T ∧ g.objs.size + 1 ≤ T ∧ RelV x u ∧ g2.get? T = some { cls := .type "tuple", data := .seq #[.int (i : Nat) tk', u] } := fun i x hx => by
    obtain ⟨T, tk', u, e1, e2, e3, e4⟩ := sym i x hx
    refine ⟨T, tk', u, ?_, e2, e3, e4⟩
    rw [List.getElem?_map, Array.getElem?_toList, e1]
    rfl
  -- the new abstract heap
  let mk : Addr → Option HO := fun b => if b = g.objs.size then some (.lst ((acc.toList.map adr).map V.ref)) else
    match (List.range xs.length).find? (fun i => (acc.toList.map adr)[i]? == some b) with
    | some i => (xs[i]?).map fun x => .tup [.int (i : Nat), x]
    | none => none
  let H2 : Hp := fun b => if b < g.objs.size then H1 b else mk b
  have at_T : ∀ (i : Nat) (x : V) (T : Addr), xs[i]? = some x → (acc.toList.map adr)[i]? = some T → H2 T = some (.tup [.int (i : Nat), x]) := fun i x T hx hT => by
    obtain ⟨T', tk', u, f1, f2, _, f4⟩ := tget i x hx
    rw [hT] at f1
    cases f1
    show (if T < g.objs.size then H1 T else if T = g.objs.size then _ else _) = _
    rw [if_neg (Nat.not_lt.mpr (Nat.le_of_succ_le f2)), if_neg (Nat.ne_of_gt f2)]
    cases hf : (List.range xs.length).find? (fun i => (acc.toList.map adr)[i]? == some T) with
    | none =>
      have z := List.find?_eq_none.mp hf i (List.mem_range.mpr (List.getElem?_eq_some_iff.mp hx).1)
      rw [hT] at z
      simp at z
    | some j =>
      have hj := List.find?_some hf
      have hj2 := List.mem_range.mp (List.mem_of_find?_eq_some hf)
      have hj3 : (acc.toList.map adr)[j]? = some T := by simpa using hj
      obtain ⟨T2, tk2, u2, g1, _, g3, g4⟩ := tget j xs[j] (List.getElem?_eq_getElem hj2)
      rw [hj3] at g1
      cases g1
      rw [f4] at g4
      have e0 : (#[Value.int (i : Nat) tk', u] : Array Value) = #[.int (j : Nat) tk2, u2] := by
        injection (Option.some.inj g4) with _ _ d
        injection d
      have e5 : i = j := by
        have z := congrArg (fun a : Array Value => a[0]?) e0
        simp at z
        omega
      subst e5
      show Option.map (fun x => HO.tup [V.int (i : Nat), x]) xs[i]? = _
      rw [hx]
      rfl
  have I3 : Inv X pins σ H2 { s1 with heap := g2, toks := tk } := by
    have I3 := laid_many (H2 := H2) (g := g2) (tk := tk) I1 kall (fun b hb => if_pos (show b < g.objs.size by omega)) (fun b o hb e => ?_)
    · exact I3
    · by_cases h1 : b < g.objs.size
      · have e' : H1 b = some o := (if_pos h1).symm.trans e
        rw [I1.hok.fresh hb] at e'
        cases e'
      · have e' : mk b = some o := (if_neg h1).symm.trans e
        by_cases h2 : b = g.objs.size
        · have e2 : some (HO.lst ((acc.toList.map adr).map V.ref)) = some o := (if_pos h2).symm.trans e'
          cases e2
          subst h2
          refine ⟨by rw [List.length_map, tlen]; exact hz, acc.toList, c, ?_, by rw [Array.toArray_toList]; exact hS⟩
          have vals : ∀ l : List Value, (∀ v ∈ l, v = .ref (adr v)) → Vals ((l.map adr).map V.ref) l := fun l => by
            induction l with
            | nil => intro _; exact .nil
            | cons v r ih => intro hv; exact .cons (hv v List.mem_cons_self) (ih fun u hu => hv u (List.mem_cons_of_mem _ hu))
          exact vals _ hts
        · have e2 : (match (List.range xs.length).find? (fun i => (acc.toList.map adr)[i]? == some b) with
              | some i => (xs[i]?).map fun x => HO.tup [.int (i : Nat), x]
              | none => none) = some o := (if_neg h2).symm.trans e'
          cases hf : (List.range xs.length).find? (fun i => (acc.toList.map adr)[i]? == some b) with
          | none =>
            rw [hf] at e2
            cases e2
          | some j =>
            rw [hf] at e2
            have hj := List.find?_some hf
            have hj2 := List.mem_range.mp (List.mem_of_find?_eq_some hf)
            have hj3 : (acc.toList.map adr)[j]? = some b := by simpa using hj
            have e3 : some (HO.tup [.int (j : Nat), xs[j]]) = some o := by
              rw [← e2]
              show _ = Option.map (fun x => HO.tup [V.int (j : Nat), x]) xs[j]?
              rw [List.getElem?_eq_getElem hj2]
              rfl
            cases e3
            obtain ⟨T2, tk2, u2, g1, _, g3, g4⟩ := tget j xs[j] (List.getElem?_eq_getElem hj2)
            rw [hj3] at g1
            cases g1
            exact ⟨by show 2 ≤ sizeLine; decide, [.int (j : Nat) tk2, u2], .cons ⟨_, rfl⟩ (.cons g3 .nil), ⟨_, g4, rfl, _, rfl⟩⟩
  have same : Same H1 H2 := fun b o y => by
    show (if b < g.objs.size then H1 b else mk b) = some o
    rw [if_pos (show b < g.objs.size from Nat.lt_of_lt_of_le (I1.hok.lt y) (by rw [szg]; exact Nat.le_add_right _ _))]
    exact y
  have Snone : H1 g.objs.size = none := I1.hok.fresh (by omega)
  refine ⟨.ref g.objs.size, H2, I3, rfl, q H2 g.objs.size (acc.toList.map adr) same Snone ?_ tlen fun i x hx => ?_⟩
  · show (if g.objs.size < g.objs.size then H1 _ else mk _) = _
    rw [if_neg (Nat.lt_irrefl _)]
    exact if_pos rfl
  · obtain ⟨T, tk', u, e1, e2, e3, e4⟩ := tget i x hx
    exact ⟨T, e1, I1.hok.fresh (by omega), at_T i x T hx e1⟩
end
end RS
set_option Elab.async false
set_option maxRecDepth 100000
set_option maxHeartbeats 4000000
namespace RS
open PySem PySem.Spec PyProof.Rows L2 GX
/-- a for of n turns by a word of its own: the next turn -/
def ForNx (n : Nat) (Pv : Nat → L2.St → Hp → Prop) (i : Nat) (σ : L2.St) (H : Hp) : Prop := Pv (i + 1) σ H
theorem for_by {J : It} {g : TG} {tb : TS} {D : Ends} {σ : L2.St} {H : Hp} (n : Nat) (Pv : Nat → L2.St → Hp → Prop) (h0 : Pv 0 σ H)
    (turn : ∀ i σ H, i < n → Pv i σ H → J.go i H ∧ ∀ x H', J.yld i H x H' → g x σ H' fun σ2 H2 => tb { D with nx := Pv (i + 1), ct := Pv (i + 1), bk := D.nx } σ2 H2)
    (stop : ∀ σ H, Pv n σ H → J.stop n H ∧ D.nx σ H) :
    ∃ W : Nat → Nat → L2.St → Hp → Prop, (∃ m, W 0 m σ H) ∧ ∀ i m σ H, W i m σ H →
      (J.stop i H ∧ D.nx σ H) ∨ (J.go i H ∧ ∃ N : L2.St → Hp → Prop, (∀ σ' H', N σ' H' → ∃ m', m' < m ∧ W (i + 1) m' σ' H') ∧ ∀ x H', J.yld i H x H' → g x σ H' fun σ2 H2 => tb { D with nx := N, ct := N, bk := D.nx } σ2 H2) := by
  refine ⟨fun i m σ H => m = n - i ∧ i ≤ n ∧ Pv i σ H, ⟨n, rfl, Nat.zero_le _, h0⟩, ?_⟩
  rintro i m σ H ⟨rfl, hi, p⟩
  by_cases hlt : i < n
  · obtain ⟨go, nx⟩ := turn i σ H hlt p
    exact .inr ⟨go, Pv (i + 1), fun σ' H' p' => ⟨n - (i + 1), by omega, rfl, hlt, p'⟩, nx⟩
  · have e : i = n := by omega
    subst e
    exact .inl (stop σ H p)
theorem lc_by {J : It} {g : TG} {tt : TT} {te : TE} {vs : List Nat} {σ : L2.St} {H1 : Hp} {D : Addr} {Qd : Hp → Prop} (n : Nat) (Pv : Nat → Hp → Prop) (h0 : Pv 0 (upd H1 D (.lst [])))
    (turn : ∀ i H, i < n → Pv i H → J.go i H ∧ ∀ x H', J.yld i H x H' → g x (wipe σ vs) H' fun σ2 H2 => wipe σ2 vs = wipe σ vs ∧ tt σ2 H2 fun b H3 =>
      if b = true then te σ2 H3 fun y H4 => ∃ acc, H4 D = some (.lst acc) ∧ acc.length < sizeLine ∧ Pv (i + 1) (upd H4 D (.lst (acc ++ [y]))) else Pv (i + 1) H3)
    (stop : ∀ H, Pv n H → J.stop n H ∧ Qd H) :
    ∃ W : Nat → Nat → Hp → Prop, (∃ m, W 0 m (upd H1 D (.lst []))) ∧ ∀ i m H, W i m H →
      (J.stop i H ∧ Qd H) ∨ (J.go i H ∧ ∃ Nx : Hp → Prop, (∀ H', Nx H' → ∃ m', m' < m ∧ W (i + 1) m' H') ∧ ∀ x H', J.yld i H x H' → g x (wipe σ vs) H' fun σ2 H2 => wipe σ2 vs = wipe σ vs ∧ tt σ2 H2 fun b H3 =>
        if b = true then te σ2 H3 fun y H4 => ∃ acc, H4 D = some (.lst acc) ∧ acc.length < sizeLine ∧ Nx (upd H4 D (.lst (acc ++ [y]))) else Nx H3) := by
  refine ⟨fun i m H => m = n - i ∧ i ≤ n ∧ Pv i H, ⟨n, rfl, Nat.zero_le _, h0⟩, ?_⟩
  rintro i m H ⟨rfl, hi, p⟩
  by_cases hlt : i < n
  · obtain ⟨go, nx⟩ := turn i H hlt p
    exact .inr ⟨go, Pv (i + 1), fun H' p' => ⟨n - (i + 1), by omega, rfl, hlt, p'⟩, nx⟩
  · have e : i = n := by omega
    subst e
    exact .inl (stop H p)

/-! ### numbered things -/
def enumP {α : Type} : Nat → List α → List (Nat × α)
  | _, [] => []
  | k, x :: xs => (k, x) :: enumP (k + 1) xs
theorem enumP_get {α : Type} : ∀ (l : List α) (k i : Nat), (enumP k l)[i]? = l[i]?.map fun x => (k + i, x)
  | [], k, i => by simp [enumP]
  | x :: xs, k, 0 => by simp [enumP]
  | x :: xs, k, i + 1 => by
    show (enumP (k + 1) xs)[i]? = _
    rw [enumP_get xs (k + 1) i]
    have e : k + 1 + i = k + (i + 1) := by omega
    rw [e]
    simp
theorem enumP_length {α : Type} : ∀ (l : List α) (k : Nat), (enumP k l).length = l.length
  | [], _ => rfl
  | _ :: xs, k => congrArg (· + 1) (enumP_length xs (k + 1))
/-- a (number, row) -/
def pairD (q : Nat × List PyData) : PyData := .tuple [.int q.1, .tuple q.2]
def pairsD (l : List (Nat × List PyData)) : PyData := .list (l.map pairD)

/-- data by places -/
theorem dpAll_by {K : PySem.W.Frag} {H : Hp} : ∀ {vs : List V} {ds : List PyData}, vs.length = ds.length → (∀ (i : Nat) (v : V) (d : PyData), vs[i]? = some v → ds[i]? = some d → Dp K H v d) → DpAll K H vs ds
  | [], [], _, _ => .nil
  | [], _ :: _, h, _ => by simp at h
  | _ :: _, [], h, _ => by simp at h
  | v :: vs, d :: ds, h, k => .cons (k 0 v d rfl rfl) (dpAll_by (by simpa using h) fun i v d e1 e2 => k (i + 1) v d (by simpa using e1) (by simpa using e2))
end RS
set_option Elab.async false
set_option maxRecDepth 100000
set_option maxHeartbeats 4000000
namespace RS
open PySem PySem.Spec PyProof.Rows L2 GX

/-! ### orders -/
def wayS (b : Bool) : Str := if b then "down" else "up"
def partD (p : Nat × Bool) : PyData := .tuple [.int p.1, .str (wayS p.2)]
def orderD (os : List (Nat × Bool)) : PyData := .list (os.map partD)
structure OkOrder (n : Nat) (os : List (Nat × Bool)) : Prop where
  some_ : os ≠ []
  col : ∀ p ∈ os, p.1 < n
  nd : (os.map (·.1)).Nodup
def rowsD (rs : List (List PyData)) : PyData := .list (rs.map .tuple)

theorem inV_kind (b : Bool) : inV (.str (kindS b)) [.str "number", .str "word"] = true := by
  cases b
  · decide +kernel
  · decide +kernel
theorem inV_way (b : Bool) : inV (.str (wayS b)) [.str "up", .str "down"] = true := by
  cases b
  · decide +kernel
  · decide +kernel

theorem nodup_nat {l : List Nat} (h : l.Nodup) {i j c : Nat} (a : l[i]? = some c) (b : l[j]? = some c) : i = j := by
  obtain ⟨h1, e1⟩ := List.getElem?_eq_some_iff.mp a
  obtain ⟨h2, e2⟩ := List.getElem?_eq_some_iff.mp b
  exact (List.getElem_inj h).mp (e1.trans e2.symm)
section
variable {P : Program} {w : World} {K : PySem.W.Frag} {mg : Str → Option Value} {base : Heap}
theorem scIsPart : FnScope ["kinds", "part", "column", "way"] ["kinds", "part"] (defScope sIsPart) := ⟨rfl, rfl, rfl, by decide +kernel, rfl, by decide +kernel, by decide +kernel⟩
def spPart (K : PySem.W.Frag) : Sp := fun vs H Q _ => ∃ (vk vp : V) (ks : List Bool) (p : Nat × Bool), vs = [vk, vp] ∧ Dp K H vk (kindsD ks) ∧ Dp K H vp (partD p) ∧ p.1 < ks.length ∧ Q (.bl true) H
theorem is_part_ok {c : Addr} (D : DefAt K mg "is_part" sIsPart c) (T : Txt K mg) (cN : Cal P w K mg base CX0 1 "is_number" ["value"] (spNum K)) : Cal P w K mg base CX0 2 "is_part" ["kinds", "part"] (spPart K) := by
  have sc := scIsPart
  obtain ⟨aW, hW, hWS⟩ := T.ways
  refine def_ok0 D sc (fun vs H Q E h => ?_) (fun _ _ _ _ _ _ us hl => match us, hl with | [_, _], _ => rfl) (fun f A outer s H vs Q E hr h => ?_)
  · obtain ⟨vk, vp, ks, p, rfl, _⟩ := h
    rfl
  · obtain ⟨vk, vp, ks, ⟨c, b⟩, rfl, hk, hp, hc, k⟩ := h
    refine ⟨_, (pss_cons (ps_if ((pw_or (pt_not (pt_val (pe_callB call_isiD (by rfl) T.isinstance (by decide +kernel) (pa_cons (pv 1) (pa_cons (pe_bltn (v := V.ty "tuple") (u := Value.type "tuple") (by rfl) T.tuple_ (by decide +kernel) rfl) pa_nil))))) (pw_or1 (pt_cmpR op_ne (pe_callB call_lenD (by rfl) T.len PySem.boot_len (pa_cons (pv 1) pa_nil)) pe_int (nomark _)))).pt) (pss_one (ps_ret pe_bl)) pss_nil) (pss_cons (ps_asg (pv 1) (pg_tup (by rfl) (pgs_cons (pg_name (i := 2) sc.nd rfl (Or.inl rfl)) (pgs_cons (pg_name (i := 3) sc.nd rfl (Or.inl rfl)) pgs_nil)))) (pss_one (ps_ret (pe_and (pe_c cN hr (by decide) (by rfl) pass0 (pa_cons (pv 2) pa_nil)) (pe_and (pe_chain op_le op_lt pe_int (pv 2) (pe_callB call_lenD (by rfl) T.len PySem.boot_len (pa_cons (pv 0) pa_nil))) (pe_one (pe_cmpR op_in_seq (pv 3) (pe_glob (v := V.ref aW) (by rfl) hW rfl) (by rfl))))))))), ?_⟩
    refine ⟨_, rfl, _, _, _, rfl, by simp, hp, _, rfl, ?_⟩
    refine iteF ⟨_, rfl, _, _, 2, rfl, hp, rfl, rfl, _, rfl, ?_⟩
    refine iteF ⟨_, rfl, ?_⟩
    cases hp with
    | @tup a xs _ hS hI =>
      cases hI with
      | cons h1 hI =>
        cases hI with
        | cons h2 hI =>
          cases hI
          cases h1
          cases h2
          refine ⟨a, _, rfl, hS, rfl, _, _, rfl, _, _, rfl, rfl, ?_⟩
          refine ⟨_, rfl, _, _, rfl, .int (c : Int), _, rfl, ?_⟩
          have hn : isNum (.int (c : Int)) = true := by simp [isNum, isI, isT, tyN]
          rw [hn]
          refine iteT ?_
          refine ⟨_, rfl, _, _, rfl, rfl, _, rfl, ?_⟩
          have h0 : decide ((0 : Int) ≤ (c : Int)) = true := decide_eq_true (Int.natCast_nonneg c)
          rw [h0]
          refine iteT ⟨_, rfl, _, _, (ks.map fun b => PyData.str (kindS b)).length, rfl, hk, rfl, _, _, rfl, rfl, _, rfl, ?_⟩
          have h3 : decide ((c : Int) < ((ks.map fun b => PyData.str (kindS b)).length : Nat)) = true := decide_eq_true (by
            rw [List.length_map]
            exact Int.ofNat_lt.mpr hc)
          rw [h3]
          refine iteT ⟨_, rfl, aW, _, rfl, .inr (hWS _), rfl, rfl, ?_⟩
          show Q (.bl (if false then _ else inV (.str (wayS b)) [.str "up", .str "down"])) H
          rw [inV_way]
          exact k

theorem scCheckKinds : FnScope ["kinds", "kind"] ["kinds"] (defScope sCheckKinds) := ⟨rfl, rfl, rfl, by decide +kernel, rfl, by decide +kernel, by decide +kernel⟩
def spCheckKinds (K : PySem.W.Frag) (p : Addr) : Sp := fun vs H Q _ => ∃ (vk : V) (ks : List Bool), vs = [vk] ∧ Dp K H vk (kindsD ks) ∧ 1 ≤ ks.length ∧ ks.length ≤ 4 ∧ Tab H p ∧ Q .non H
theorem check_kinds_ok {c p : Addr} (D : DefAt K mg "check_kinds" sCheckKinds c) (T : Txt K mg) (TB : GxR.TabB base mg c p) : Cal P w K mg base CX0 2 "check_kinds" ["kinds"] (spCheckKinds K p) := by
  have sc := scCheckKinds
  obtain ⟨aK, hK, hKS⟩ := T.kinds
  obtain ⟨tCol, hC⟩ := T.columns
  refine def_ok0 D sc (fun vs H Q E h => ?_) (fun _ _ _ _ _ _ us hl => match us, hl with | [_], _ => rfl) (fun f A outer s H vs Q E hr h => ?_)
  · obtain ⟨vk, ks, rfl, _⟩ := h
    rfl
  · obtain ⟨vk, ks, rfl, hk, h1, h4, ht, k⟩ := h
    refine ⟨_, (pss_cons (ps_if ((pw_or (pt_not (pt_val (pe_callB call_isiD (by rfl) T.isinstance (by decide +kernel) (pa_cons (pv 0) (pa_cons (pe_bltn (v := V.ty "tuple") (u := Value.type "tuple") (by rfl) T.tuple_ (by decide +kernel) rfl) pa_nil))))) (pw_or1 (pt_not (pt_chain op_le op_le pe_int (pe_callB call_lenD (by rfl) T.len PySem.boot_len (pa_cons (pv 0) pa_nil)) (pe_glob (v := V.int 4) (by rfl) hC ⟨_, rfl⟩))))).pt) pss_never pss_nil) (pss_one (ps_if (pt_not (pt_val (pe_all (own := [("kind", 1)]) (te := tOp (rIn K false) (tVar 1) (tC (.ref aK))) hr rfl T.all TB rfl rfl sc.nd (blkOk_by (N := ["kinds", "kind"]) (sc := defScope sCheckKinds) (own := [("kind", 1)]) (by decide +kernel)) (by decide +kernel) rfl rfl (pi_tup (pv 0)) (fun _ _ _ _ _ _ _ => (pg_name (i := 1) sc.nd rfl (Or.inl rfl))) (fun _ _ _ _ _ _ _ hr => pe_cmpR op_in_seq (pv 1) (pe_glob (v := V.ref aK) (by rfl) hK rfl) (by rfl))))) pss_never pss_nil))), ?_⟩
    refine ⟨_, rfl, _, _, _, rfl, by simp, hk, _, rfl, ?_⟩
    refine iteF ⟨_, rfl, _, _, (ks.map fun b => PyData.str (kindS b)).length, rfl, hk, rfl, _, _, rfl, rfl, _, rfl, ?_⟩
    rw [List.length_map]
    have e1 : decide ((1 : Int) ≤ (ks.length : Nat)) = true := decide_eq_true (by omega)
    have e2 : decide (((ks.length : Nat) : Int) ≤ 4) = true := decide_eq_true (by omega)
    rw [e1]
    refine iteT ⟨_, _, rfl, rfl, _, rfl, ?_⟩
    rw [e2]
    refine iteF ?_
    cases hk with
    | @tup a xs _ hS hI =>
      refine ⟨_, rfl, a, rfl, ⟨xs, hS⟩, ht, ?_⟩
      have lx : xs.length = ks.length := by rw [dpLen hI, List.length_map]
      refine all_by xs.length (fun i H' => H' = H) rfl (fun i H' hi e => ?_) (fun H' e => ?_)
      · subst e
        refine ⟨⟨xs, xs[i], hS, List.getElem?_eq_getElem hi⟩, fun y H2 ⟨e, hy⟩ => ?_⟩
        subst e
        have ey := hy xs hS
        obtain ⟨d, ed, hd⟩ := dpGet hI ey
        obtain ⟨b, rfl⟩ : ∃ b, d = PyData.str (kindS b) := by
          rw [List.getElem?_map] at ed
          cases q : ks[i]? with
          | none => rw [q] at ed; cases ed
          | some b => rw [q] at ed; exact ⟨b, (Option.some.inj ed).symm⟩
        cases hd
        refine ⟨rfl, _, rfl, aK, _, rfl, .inr (hKS _), rfl, rfl, ?_⟩
        refine ⟨true, ?_, fun _ => .mk hi rfl, fun z => nomatch z⟩
        show V.bl (if false then _ else inV (.str (kindS b)) [.str "number", .str "word"]) = _
        rw [inV_kind]
        rfl
      · subst e
        exact ⟨⟨xs, hS, Nat.le_refl _⟩, _, rfl, iteF k⟩

theorem scCheckOrder : FnScope ["kinds", "order", "columns", "part"] ["kinds", "order"] (defScope sCheckOrder) := ⟨rfl, rfl, rfl, by decide +kernel, rfl, by decide +kernel, by decide +kernel⟩
def spCheckOrder (K : PySem.W.Frag) : Sp := fun vs H Q _ => ∃ (vk vo : V) (ks : List Bool) (os : List (Nat × Bool)), vs = [vk, vo] ∧ Dp K H vk (kindsD ks) ∧ Dp K H vo (orderD os) ∧ OkOrder ks.length os ∧ os.length ≤ 1000 ∧ ∀ H', Same H H' → Q .non H'
theorem check_order_ok {c : Addr} (D : DefAt K mg "check_order" sCheckOrder c) (T : Txt K mg) (cP : Cal P w K mg base CX0 2 "is_part" ["kinds", "part"] (spPart K)) : Cal P w K mg base CX0 3 "check_order" ["kinds", "order"] (spCheckOrder K) := by
  have sc := scCheckOrder
  refine def_ok0 D sc (fun vs H Q E h => ?_) (fun _ _ _ _ _ _ us hl => match us, hl with | [_, _], _ => rfl) (fun f A outer s H vs Q E hr h => ?_)
  · obtain ⟨vk, vo, ks, os, rfl, _⟩ := h
    rfl
  · obtain ⟨vk, vo, ks, os, rfl, hk, ho, hok, hz, k⟩ := h
    refine ⟨_, (pss_cons (ps_if ((pw_or (pt_not (pt_val (pe_callB call_isiD (by rfl) T.isinstance (by decide +kernel) (pa_cons (pv 1) (pa_cons (pe_bltn (v := V.ty "list") (u := Value.type "list") (by rfl) T.list_ (by decide +kernel) rfl) pa_nil))))) (pw_or1 (pt_not (pt_truth (pv 1) (by intro _; rfl))))).pt) pss_never pss_nil) (pss_cons (ps_set (i := 2) sc.nd rfl (Or.inl rfl) (pe_lst pa_nil)) (pss_one (ps_for PassesOwn.never rfl (pi_list (pv 1)) (pg_name (i := 3) sc.nd rfl (Or.inl rfl)) (pss_cons (ps_if ((pw_or (pt_not (pt_val (pe_c cP hr (by decide) (by rfl) pass0 (pa_cons (pv 0) (pa_cons (pv 3) pa_nil))))) (pw_or1 (pt_cmpR op_in_seq (pe_ix ixD (pv 3) pe_int (fun _ _ => rfl)) (pv 2) (by rfl)))).pt) pss_never pss_nil) (pss_one (ps_expr (pe_bm PySem.F.plainAttrs_list PySem.F.slot_list_append PySem.F.type_list_append mt_append (pv 2) (pa_cons (pe_ix ixD (pv 3) pe_int (fun _ _ => rfl)) pa_nil))))))))), ?_⟩
    refine ⟨_, rfl, _, _, _, rfl, by simp, ho, _, rfl, ?_⟩
    cases ho with
    | @lst a xs _ hS hI =>
      have lx : xs.length = os.length := by rw [dpLen hI, List.length_map]
      have ne : xs.isEmpty = false := by
        cases xs with
        | nil =>
          have : os.length = 0 := by rw [← lx]; rfl
          exact absurd (List.eq_nil_of_length_eq_zero this) hok.some_
        | cons _ _ => rfl
      refine iteF ⟨_, rfl, !xs.isEmpty, .inl ⟨xs, hS, rfl⟩, ?_⟩
      rw [ne]
      refine iteF ⟨Nat.zero_le _, fun p hp => ?_⟩
      have s0 : Same H (upd H p (.lst [])) := fun b o e => by rw [upd_ne (ne_of_none e hp)]; exact e
      refine ⟨_, rfl, a, rfl, ⟨_, s0.seq hS⟩, for_list (K := K) (a := a) (xs := xs) (fun i σ H' => ∃ v3 : Option V, σ = [some vk, some (.ref a), some (.ref p), v3] ∧ Same H H' ∧ H' p = some (.lst ((os.take i).map fun q => V.int q.1)))
        ⟨none, rfl, s0, upd_same⟩ (fun i σ H' _ ⟨_, _, sm, _⟩ => sm.seq hS) ?_ ?_⟩
      · rintro i y σ H' hi ⟨v3, rfl, sm, hL⟩
        obtain ⟨d, ed, hd⟩ := dpGet hI hi
        obtain ⟨⟨c, b⟩, eq, rfl⟩ : ∃ q, os[i]? = some q ∧ d = partD q := by
          rw [List.getElem?_map] at ed
          cases q : os[i]? with
          | none => rw [q] at ed; cases ed
          | some b => rw [q] at ed; exact ⟨b, rfl, (Option.some.inj ed).symm⟩
        have hm := List.mem_of_getElem? eq
        have hd' := dp_same sm _ hd
        have hi' : i < os.length := (List.getElem?_eq_some_iff.mp eq).1
        refine ⟨_, rfl, _, rfl, vk, y, ks, (c, b), rfl, dp_same sm _ hk, hd', hok.col _ hm, _, rfl, ?_⟩
        refine iteF ⟨_, rfl, _, _, 0, .int c, hd', rfl, rfl, rfl, fun v hv => ?_⟩
        cases hv
        have notin : inV (.int c) ((os.take i).map fun q => V.int q.1) = false := by
          rw [Bool.eq_false_iff]
          intro z
          unfold inV at z
          obtain ⟨u, hu, he⟩ := List.any_eq_true.mp z
          obtain ⟨q, hq, rfl⟩ := List.mem_map.mp hu
          obtain ⟨j, hj⟩ := List.getElem?_of_mem hq
          rw [List.getElem?_take] at hj
          split at hj
          · rename_i hji
            have e1 : q.1 = c := by
              simp [eqV] at he
              omega
            have h1 : (os.map (·.1))[j]? = some c := by rw [List.getElem?_map, hj, ← e1]; rfl
            have h2 : (os.map (·.1))[i]? = some c := by rw [List.getElem?_map, eq]; rfl
            have := nodup_nat hok.nd h1 h2
            omega
          · cases hj
        refine ⟨_, rfl, p, _, rfl, .inl (SqL.of hL), rfl, ?_, ?_⟩
        · rw [List.all_eq_true]
          intro z hz
          obtain ⟨q, _, rfl⟩ := List.mem_map.mp hz
          rfl
        show ∃ k, V.bl (if false then _ else inV (.int c) ((os.take i).map fun q => V.int q.1)) = V.bl k ∧ _
        rw [notin]
        refine ⟨false, rfl, iteF ?_⟩
        refine ⟨_, rfl, .inl ⟨rfl, _, SqL.of hL⟩, _, rfl, _, _, 0, .int c, hd', rfl, rfl, rfl, fun v hv => ?_⟩
        cases hv
        refine ⟨p, _, _, rfl, rfl, hL, small1000 (by rw [List.length_map, List.length_take]; omega), ?_⟩
        refine ⟨_, rfl, fun b' o e => ?_, ?_⟩
        · rw [upd_ne (fun z => by subst z; rw [hp] at e; cases e)]
          exact sm b' o e
        · rw [upd_same, List.take_add_one, eq, List.map_append]
          rfl
      · rintro σ H' ⟨v3, rfl, sm, hL⟩
        exact k _ sm
end
end RS
set_option Elab.async false
set_option maxRecDepth 100000
set_option maxHeartbeats 4000000
namespace RS
open PySem PySem.Spec PyProof.Rows L2 GX
def signOk (c : Nat) : Bool := !decide (([c] : List Nat) < [97]) && !decide (([122] : List Nat) < [c])
def isWord (d : PyData) : Bool := match d with
  | .str x => decide ((x.length : Int) ≤ 6) && x.cps.toList.all signOk
  | _ => false
/-- a text has its size -/
def fitD : PyData → Prop
  | .str x => x.length ≤ sizeLine
  | _ => True
section
variable {P : Program} {w : World} {K : PySem.W.Frag} {mg : Str → Option Value} {base : Heap}
theorem scIsWord : FnScope ["value", "sign"] ["value"] (defScope sIsWord) := ⟨rfl, rfl, rfl, by decide +kernel, rfl, by decide +kernel, by decide +kernel⟩
def spWord (K : PySem.W.Frag) (P : Addr) : Sp := fun vs H Q _ => ∃ (v : V) (d : PyData), vs = [v] ∧ Dp K H v d ∧ fitD d ∧ Tab H P ∧ Q (.bl (isWord d)) H
theorem is_word_ok {c p : Addr} (D : DefAt K mg "is_word" sIsWord c) (T : Txt K mg) (TB : GxR.TabB base mg c p) : Cal P w K mg base CX0 2 "is_word" ["value"] (spWord K p) := by
  have sc := scIsWord
  obtain ⟨tL, hL⟩ := T.letters
  refine def_ok0 D sc (fun vs H Q E h => ?_) (fun _ _ _ _ _ _ us hl => match us, hl with | [_], _ => rfl) (fun f A outer s H vs Q E hr h => ?_)
  · obtain ⟨v, d, rfl, _⟩ := h
    rfl
  · obtain ⟨v, d, rfl, hd, hz, ht, k⟩ := h
    refine ⟨_, (pss_one (ps_ret (pe_and (pe_callB call_isiD (by rfl) T.isinstance (by decide +kernel) (pa_cons (pv 0) (pa_cons (pe_bltn (v := V.ty "str") (u := Value.type "str") (by rfl) T.str_ (by decide +kernel) rfl) pa_nil))) (pe_and (pe_cmpR op_le (pe_callB call_lenD (by rfl) T.len PySem.boot_len (pa_cons (pv 0) pa_nil)) (pe_glob (v := V.int 6) rfl hL ⟨_, rfl⟩) (nomark _))
      (pe_one (pe_all (own := [("sign", 1)]) hr rfl T.all TB rfl rfl sc.nd (blkOk_by (N := ["value", "sign"]) (sc := defScope sIsWord) (own := [("sign", 1)]) (by decide +kernel)) (by decide +kernel) rfl rfl (pi_str (pv 0)) (fun _ _ _ _ _ _ _ => (pg_name (i := 1) sc.nd rfl (Or.inl rfl))) (fun _ _ _ _ _ _ _ hr => pe_chain op_le_str op_le_str pe_str (pv 1) pe_str))))))), ?_⟩
    refine ⟨_, rfl, _, _, _, rfl, by simp, hd, _, rfl, ?_⟩
    refine ite2 (fun h1 => ?_) (fun h1 => ?_)
    · cases hd <;> simp [isI, isT, tyN] at h1
      rename_i x
      refine ⟨_, rfl, _, _, _, rfl, .str x, if_pos hz, _, _, rfl, rfl, _, rfl, ?_⟩
      refine ite2 (fun h2 => ?_) (fun h2 => ?_)
      · refine ⟨_, rfl, _, rfl, ht, ?_⟩
        have full : isWord (.str x) = x.cps.toList.all signOk := by
          show (decide ((x.length : Int) ≤ 6) && x.cps.toList.all signOk) = _
          rw [h2, Bool.true_and]
        rw [full] at k
        refine all_by x.cps.size (fun i H' => H' = H ∧ (x.cps.toList.take i).all signOk = true) ⟨rfl, by simp⟩ (fun i H' hi hp => ?_) (fun H' hp => ?_)
        · obtain ⟨rfl, hp⟩ := hp
          refine ⟨hi, fun y H2 ⟨e, c, hc, ey⟩ => ⟨rfl, ?_⟩⟩
          subst e ey
          have hc2 : x.cps.toList[i]? = some c := by simpa using hc
          have step : signOk c = true → (x.cps.toList.take (i + 1)).all signOk = true := fun h => by
            rw [List.take_add_one, hc2]
            simp only [Option.toList_some, List.all_append, hp, List.all_cons, h, List.all_nil, Bool.and_self]
          have fail : signOk c = false → Q (.bl false) H2 := fun h => by
            have e : x.cps.toList.all signOk = false := by
              rw [Bool.eq_false_iff]
              intro z
              have z2 := List.all_eq_true.mp z c (List.mem_of_getElem? hc2)
              rw [h] at z2
              cases z2
            rw [← e]
            exact k
          have ea : ∀ z : Nat, (!decide ((⟨#[z]⟩ : Str).cps.toList < (Str.ofString "a").cps.toList)) = !decide (([z] : List Nat) < [97]) := fun z => rfl
          have ez : ∀ z : Nat, (!decide ((Str.ofString "z").cps.toList < (⟨#[z]⟩ : Str).cps.toList)) = !decide (([122] : List Nat) < [z]) := fun z => rfl
          refine ⟨_, rfl, _, _, rfl, rfl, _, rfl, ?_⟩
          refine ite2 (fun h3 => ?_) (fun h3 => ?_)
          · refine ⟨_, _, rfl, rfl, _, rfl, fun h4 => .mk hi ⟨rfl, step ?_⟩, fun h4 => fail ?_⟩
            · rw [ea] at h3
              rw [ez] at h4
              unfold signOk
              rw [h3, h4]
              rfl
            · rw [ea] at h3
              rw [ez] at h4
              unfold signOk
              rw [h3, h4]
              rfl
          · refine ⟨_, rfl, fun z => (nomatch z), fun _ => fail ?_⟩
            have h3 := bf h3
            rw [ea] at h3
            unfold signOk
            rw [h3, Bool.false_and]
        · obtain ⟨rfl, hp⟩ := hp
          refine ⟨Nat.le_refl _, ?_⟩
          have e : x.cps.toList.take x.cps.size = x.cps.toList := by rw [List.take_of_length_le (by simp)]
          rw [e] at hp
          show Q (.bl true) H'
          rw [← hp]
          exact k
      · have e : isWord (.str x) = false := by
          show (decide ((x.length : Int) ≤ 6) && x.cps.toList.all signOk) = _
          rw [bf h2, Bool.false_and]
        rw [← e]
        exact k
    · have e : isWord d = false := by
        cases hd <;> first | rfl | (simp [isI, isT, tyN] at h1)
      rw [← e]
      exact k
end
end RS
set_option Elab.async false
set_option maxRecDepth 100000
set_option maxHeartbeats 4000000
namespace RS
open PySem PySem.Spec PyProof.Rows L2 GX
def inBand (d : PyData) : Bool := match d with
  | .int n => decide (-999 ≤ n) && decide (n ≤ 999)
  | _ => false
def isVal (b : Bool) (d : PyData) : Bool := if b then isWord d else isNum d && inBand d
def isRow (ks : List Bool) (d : PyData) : Bool := match d with
  | .tuple ds => decide (ds.length = ks.length) && (ks.zip ds).all fun p => isVal p.1 p.2
  | _ => false
/-- the texts in a row have their size -/
def fitR (d : PyData) : Prop := match d with
  | .tuple ds => ds.length ≤ 1000 ∧ ∀ e ∈ ds, fitD e
  | .list ds => ds.length ≤ 1000
  | d => fitD d

section
variable {P : Program} {w : World} {K : PySem.W.Frag} {mg : Str → Option Value} {base : Heap}
theorem scIsValue : FnScope ["kind", "value"] ["kind", "value"] (defScope sIsValue) := ⟨rfl, rfl, rfl, by decide +kernel, rfl, by decide +kernel, by decide +kernel⟩
def spValue (K : PySem.W.Frag) (P : Addr) : Sp := fun vs H Q _ => ∃ (b : Bool) (v : V) (d : PyData), vs = [.str (kindS b), v] ∧ Dp K H v d ∧ fitD d ∧ Tab H P ∧ Q (.bl (isVal b d)) H
theorem is_value_ok {c p : Addr} (D : DefAt K mg "is_value" sIsValue c) (T : Txt K mg) (cW : Cal P w K mg base CX0 2 "is_word" ["value"] (spWord K p)) (cN : Cal P w K mg base CX0 1 "is_number" ["value"] (spNum K)) :
    Cal P w K mg base CX0 3 "is_value" ["kind", "value"] (spValue K p) := by
  have sc := scIsValue
  obtain ⟨tN, hN⟩ := T.number
  refine def_ok0 D sc (fun vs H Q E h => ?_) (fun _ _ _ _ _ _ us hl => match us, hl with | [_, _], _ => rfl) (fun f A outer s H vs Q E hr h => ?_)
  · obtain ⟨b, v, d, rfl, _⟩ := h
    rfl
  · obtain ⟨b, v, d, rfl, hd, hz, ht, k⟩ := h
    refine ⟨_, (pss_cons (ps_if (pt_cmpR op_eq (pv 0) pe_str (nomark _)) (pss_one (ps_ret (pe_c cW hr (by decide) (by rfl) pass0 (pa_cons (pv 1) pa_nil)))) pss_nil) (pss_one (ps_ret (pe_and (pe_c cN hr (by decide) (by rfl) pass0 (pa_cons (pv 1) pa_nil)) (pe_one (pe_chain op_le op_le (pe_un un_neg (pe_glob (v := V.int 999) rfl hN ⟨_, rfl⟩)) (pv 1) (pe_glob (v := V.int 999) rfl hN ⟨_, rfl⟩))))))), ?_⟩
    refine ⟨_, rfl, rfl, _, rfl, ?_⟩
    have hb : decide (V.str (kindS b) = V.str (Str.ofString "word")) = b := kindS_word b
    rw [hb]
    cases b with
    | true => exact iteT ⟨_, rfl, v, d, rfl, hd, hz, ht, k⟩
    | false =>
      refine iteF ⟨_, rfl, v, d, rfl, hd, _, rfl, ?_⟩
      refine ite2 (fun h1 => ?_) (fun h1 => ?_)
      · obtain ⟨n, rfl, rfl⟩ := isNum_int hd h1
        have ev : isVal false (.int n) = (decide (-999 ≤ n) && decide (n ≤ 999)) := by
          show (isNum (.int n) && inBand (.int n)) = _
          rw [h1, Bool.true_and]
          rfl
        rw [ev] at k
        refine ⟨_, rfl, _, rfl, _, _, rfl, rfl, _, rfl, ?_⟩
        refine ite2 (fun h2 => ?_) (fun h2 => ?_)
        · rw [h2, Bool.true_and] at k
          exact ⟨_, _, rfl, rfl, k⟩
        · rw [bf h2, Bool.false_and] at k
          exact k
      · have ev : isVal false d = false := by
          show (isNum d && inBand d) = false
          rw [bf h1, Bool.false_and]
        rw [ev] at k
        exact k

theorem scIsRow : FnScope ["kinds", "row", "kind", "value"] ["kinds", "row"] (defScope sIsRow) := ⟨rfl, rfl, rfl, by decide +kernel, rfl, by decide +kernel, by decide +kernel⟩
def spRow (K : PySem.W.Frag) (pW pR : Addr) : Sp := fun vs H Q _ => ∃ (vk vr : V) (ks : List Bool) (d : PyData), vs = [vk, vr] ∧ Dp K H vk (kindsD ks) ∧ Dp K H vr d ∧ ks.length ≤ 1000 ∧ fitR d ∧ Tab H pW ∧ Tab H pR ∧ ∀ H', Same H H' → Q (.bl (isRow ks d)) H'
theorem is_row_ok {c pW pR : Addr} (D : DefAt K mg "is_row" sIsRow c) (T : Txt K mg) (TB : GxR.TabB base mg c pR) (cV : Cal P w K mg base CX0 3 "is_value" ["kind", "value"] (spValue K pW)) :
    Cal P w K mg base CX0 5 "is_row" ["kinds", "row"] (spRow K pW pR) := by
  have sc := scIsRow
  refine def_ok0 D sc (fun vs H Q E h => ?_) (fun _ _ _ _ _ _ us hl => match us, hl with | [_, _], _ => rfl) (fun f A outer s H vs Q E hr h => ?_)
  · obtain ⟨vk, vr, ks, d, rfl, _⟩ := h
    rfl
  · obtain ⟨vk, vr, ks, d, rfl, hk, hd, hlk, hz, hW, hR, k⟩ := h
    refine ⟨_, (pss_cons (ps_if ((pw_or (pt_not (pt_val (pe_callB call_isiD (by rfl) T.isinstance (by decide +kernel) (pa_cons (pv 1) (pa_cons (pe_bltn (v := V.ty "tuple") (u := Value.type "tuple") (by rfl) T.tuple_ (by decide +kernel) rfl) pa_nil))))) (pw_or1 (pt_cmpR op_ne (pe_callB call_lenD (by rfl) T.len PySem.boot_len (pa_cons (pv 1) pa_nil)) (pe_callB call_lenD (by rfl) T.len PySem.boot_len (pa_cons (pv 0) pa_nil)) (nomark _)))).pt) (pss_one (ps_ret pe_bl)) pss_nil) (pss_one (ps_ret (pe_all (own := [("kind", 2), ("value", 3)]) (g := gTup K 2 (gCons (gName 2) (gCons (gName 3) gNil))) hr rfl T.all TB rfl rfl sc.nd (blkOk_by (N := ["kinds", "row", "kind", "value"]) (sc := defScope sIsRow) (own := [("kind", 2), ("value", 3)]) (by decide +kernel)) (by decide +kernel) rfl rfl (RZ.pi_zipA (by rfl) T.zip (pa_cons (pv 0) (pa_cons (pv 1) pa_nil))) (fun _ _ _ _ _ _ _ => (pg_tup (by rfl) (pgs_cons (pg_name (i := 2) sc.nd rfl (Or.inl rfl)) (pgs_cons (pg_name (i := 3) sc.nd rfl (Or.inl rfl)) pgs_nil)))) (fun _ _ _ _ _ _ _ hr => (pe_c cV hr (by decide) (by rfl) pass0 (pa_cons (pv 2) (pa_cons (pv 3) pa_nil)))))))), ?_⟩
    refine ⟨_, rfl, _, _, _, rfl, by simp, hd, _, rfl, ?_⟩
    have nf : isRow ks d = false → Q (.bl false) H := fun e => by
      rw [← e]
      exact k H (Same.refl H)
    cases hd with
    | non => exact iteT (iteT (nf rfl))
    | bl _ => exact iteT (iteT (nf rfl))
    | int _ => exact iteT (iteT (nf rfl))
    | str _ => exact iteT (iteT (nf rfl))
    | lst _ _ => exact iteT (iteT (nf rfl))
    | @tup a xs ds hS hI =>
      refine iteF ⟨_, rfl, _, _, ds.length, rfl, .tup hS hI, rfl, _, rfl, _, _, (ks.map fun b => PyData.str (kindS b)).length, rfl, hk, rfl, rfl, _, rfl, ?_⟩
      rw [List.length_map]
      obtain ⟨hz1, hz2⟩ : ds.length ≤ 1000 ∧ ∀ e ∈ ds, fitD e := hz
      refine ite2 (fun h1 => ?_) (fun h1 => ?_)
      · refine nf ?_
        have e : ¬ ds.length = ks.length := fun z => by
          rw [z] at h1
          simp at h1
        show (decide (ds.length = ks.length) && _) = false
        rw [decide_eq_false e, Bool.false_and]
      · have e : ds.length = ks.length := by
          by_cases z : ds.length = ks.length
          · exact z
          · exact absurd (by simp; omega) h1
        have full : isRow ks (.tuple ds) = (ks.zip ds).all fun p => isVal p.1 p.2 := by
          show (decide (ds.length = ks.length) && _) = _
          rw [decide_eq_true e, Bool.true_and]
        rw [full] at k
        obtain ⟨aK, kv, rfl, hKS, hKI⟩ : ∃ aK kv, vk = .ref aK ∧ SqT K H aK kv ∧ DpAll K H kv (ks.map fun b => PyData.str (kindS b)) := by
          cases hk with
          | tup h1 h2 => exact ⟨_, _, rfl, h1, h2⟩
        have lk : kv.length = ks.length := by rw [dpLen hKI, List.length_map]
        have lx : xs.length = ds.length := dpLen hI
        refine ⟨_, rfl, _, rfl, aK, a, kv, xs, rfl, .inr ⟨hKS, hS, hR, ?_⟩⟩
        refine all_by ks.length (fun i H' => Same H H' ∧ ((ks.zip ds).take i).all (fun p => isVal p.1 p.2) = true) ⟨Same.refl H, by simp⟩ (fun i H' hi hp => ?_) (fun H' hp => ?_)
        · obtain ⟨sm, hp⟩ := hp
          have hiv : i < kv.length := by omega
          have hix : i < xs.length := by omega
          refine ⟨⟨kv, xs, kv[i], xs[i], sqT_same sm hKS, sqT_same sm hS, List.getElem?_eq_getElem hiv, List.getElem?_eq_getElem hix⟩, fun y H2 ⟨TT, x1, y1, ey, hTT, eH, hx, hy⟩ => ?_⟩
          subst ey eH
          have ex := hx kv (sqT_same sm hKS)
          have ey := hy xs (sqT_same sm hS)
          obtain ⟨dk, edk, hdk⟩ := dpGet hKI ex
          obtain ⟨dx, edx, hdx⟩ := dpGet hI ey
          obtain ⟨b, eb, rfl⟩ : ∃ b, ks[i]? = some b ∧ PyData.str (kindS b) = dk := by
            rw [List.getElem?_map] at edk
            cases q : ks[i]? with
            | none => rw [q] at edk; cases edk
            | some b => rw [q] at edk; exact ⟨b, rfl, Option.some.inj edk⟩
          have sm2 : Same H (upd H' TT (.tup [x1, y1])) := fun c o q => by
            rw [upd_ne (ne_of_none (sm c o q) hTT)]
            exact sm c o q
          have ez : (ks.zip ds)[i]? = some (b, dx) := by
            rw [List.getElem?_zip_eq_some]
            exact ⟨eb, edx⟩
          cases hdk
          refine ⟨TT, [_, y1], rfl, SqT.of upd_same, rfl, _, _, rfl, _, _, rfl, rfl, rfl, ?_⟩
          refine ⟨_, rfl, _, rfl, b, y1, dx, rfl, dp_same sm2 _ hdx, hz2 dx (List.mem_of_getElem? edx), sm2 _ _ hW, ?_⟩
          refine ⟨_, rfl, fun h2 => .mk hi ⟨sm2, ?_⟩, fun h2 => ?_⟩
          · rw [List.take_add_one, ez]
            simp only [Option.toList_some, List.all_append, hp, List.all_cons, h2, List.all_nil, Bool.and_self]
          · have e2 : (ks.zip ds).all (fun p => isVal p.1 p.2) = false := by
              rw [Bool.eq_false_iff]
              intro z
              have z2 := List.all_eq_true.mp z _ (List.mem_of_getElem? ez)
              rw [h2] at z2
              cases z2
            rw [← e2]
            exact k _ sm2
        · obtain ⟨sm, hp⟩ := hp
          refine ⟨⟨kv, xs, sqT_same sm hKS, sqT_same sm hS, .inl (by omega)⟩, ?_⟩
          rw [List.take_of_length_le (by rw [List.length_zip]; omega)] at hp
          rw [← hp]
          exact k _ sm
end
end RS
set_option Elab.async false
set_option maxRecDepth 100000
set_option maxHeartbeats 4000000
namespace RS
open PySem PySem.Spec PyProof.Rows L2 GX

/-! ### ranks -/
def pad6 (l : List Nat) : List Nat := l ++ List.replicate (6 - l.length) 32
def worthsOf : PyData → List Int
  | .int n => [n]
  | .str x => (pad6 x.cps.toList).map Int.ofNat
  | _ => []
theorem len_cps (x : Str) : x.cps.toList.length = x.length := by simp [Str.length]
theorem isWord_len {x : Str} (h : isWord (.str x) = true) : x.length ≤ 6 := by
  have h' : (decide ((x.length : Int) ≤ 6) && x.cps.toList.all signOk) = true := h
  rw [Bool.and_eq_true] at h'
  have := of_decide_eq_true h'.1
  omega
theorem ljust6 {x : Str} (h : x.length ≤ 6) : (Txt.ljust x 6).cps.toList = pad6 x.cps.toList := by
  unfold Txt.ljust pad6
  split
  · rename_i q
    have e : x.length = 6 := by omega
    rw [len_cps, e]
    simp
  · show (Array.replicate 0 32 ++ x.cps ++ Array.replicate ((6 : Int).toNat - x.length) 32).toList = _
    rw [len_cps]
    simp
theorem pad6_len {l : List Nat} (h : l.length ≤ 6) : (pad6 l).length = 6 := by
  unfold pad6
  rw [List.length_append, List.length_replicate]
  omega
theorem worths_len {b : Bool} {d : PyData} (h : isVal b d = true) : (worthsOf d).length ≤ 6 := by
  cases d with
  | int n => exact (by decide : 1 ≤ 6)
  | str x =>
    show ((pad6 x.cps.toList).map Int.ofNat).length ≤ 6
    rw [List.length_map, pad6_len (by
      rw [len_cps]
      cases b with
      | true => exact isWord_len h
      | false => simp [isVal, isNum, isI, isT, tyN] at h)]
    exact Nat.le_refl _
  | _ => exact Nat.zero_le _
/-- what a column of an order makes of a row -/
def keyP (row : List PyData) (p : Nat × Bool) : List Int := (worthsOf (row.getD p.1 .none)).map fun z => if p.2 then -z else z
def rankOf (os : List (Nat × Bool)) (q : Nat × List PyData) : List Int := os.flatMap (keyP q.2) ++ [(q.1 : Int)]
/-- the row has what the order asks -/
def Fits (os : List (Nat × Bool)) (row : List PyData) : Prop := ∀ p ∈ os, ∃ b d, row[p.1]? = some d ∧ isVal b d = true
theorem key_len {os : List (Nat × Bool)} {row : List PyData} (h : Fits os row) : ∀ p ∈ os, (keyP row p).length ≤ 6 := fun p hp => by
  obtain ⟨b, d, e, v⟩ := h p hp
  unfold keyP
  rw [List.length_map, List.getD_eq_getElem?_getD, e]
  exact worths_len v
theorem flat_len {α β : Type} (f : α → List β) (n : Nat) : ∀ l : List α, (∀ x ∈ l, (f x).length ≤ n) → (l.flatMap f).length ≤ n * l.length
  | [], _ => by simp
  | x :: l, h => by
    rw [List.flatMap_cons, List.length_append, List.length_cons]
    have h1 := h x List.mem_cons_self
    have h2 := flat_len f n l fun y hy => h y (List.mem_cons_of_mem _ hy)
    rw [Nat.mul_add, Nat.mul_one]
    omega

section
variable {P : Program} {w : World} {K : PySem.W.Frag} {mg : Str → Option Value} {base : Heap}
theorem scWorths : FnScope ["value", "sign"] ["value"] (defScope sWorths) := ⟨rfl, rfl, rfl, by decide +kernel, rfl, by decide +kernel, by decide +kernel⟩
def spWorths (K : PySem.W.Frag) : Sp := fun vs H Q _ => ∃ (v : V) (d : PyData) (b : Bool), vs = [v] ∧ Dp K H v d ∧ isVal b d = true ∧
  ∀ (H' : Hp) (p : Addr), Same H H' → H p = none → H' p = some (.lst ((worthsOf d).map V.int)) → Q (.ref p) H'
theorem worths_ok {c : Addr} (D : DefAt K mg "worths" sWorths c) (T : Txt K mg) : Cal P w K mg base CX0 1 "worths" ["value"] (spWorths K) := by
  have sc := scWorths
  obtain ⟨tL, hL⟩ := T.letters
  refine def_ok0 D sc (fun vs H Q E h => ?_) (fun _ _ _ _ _ _ us hl => match us, hl with | [_], _ => rfl) (fun f A outer s H vs Q E hr h => ?_)
  · obtain ⟨v, d, b, rfl, _⟩ := h
    rfl
  · obtain ⟨v, d, b, rfl, hd, hv, k⟩ := h
    refine ⟨_, (pss_cons (ps_if (pt_val (pe_callB call_isiD (by rfl) T.isinstance (by decide +kernel) (pa_cons (pv 0) (pa_cons (pe_bltn (v := V.ty "str") (u := Value.type "str") (by rfl) T.str_ (by decide +kernel) rfl) pa_nil)))) (pss_one (ps_ret (pe_lc (own := [("sign", 1)]) (tt := tYes)  rfl sc.nd (pi_str (pe_bm PySem.F.plainAttrs_str PySem.F.slot_str_ljust PySem.F.type_str_ljust mt_ljust (pv 0) (pa_cons (pe_glob (v := V.int 6) (by rfl) hL ⟨_, rfl⟩) pa_nil))) (blkOk_by (N := ["value", "sign"]) (sc := defScope sWorths) (own := [("sign", 1)]) (by decide +kernel)) (fun _ _ _ _ _ => (pg_name (i := 1) sc.nd rfl (Or.inl rfl))) (fun _ _ _ _ _ => pts_nil) (fun _ _ _ _ _ => (pe_callB call_ord (by rfl) T.ord (by decide +kernel) (pa_cons (pv 1) pa_nil)))))) pss_nil) (pss_one (ps_ret (pe_lst (pa_cons (pv 0) pa_nil))))), ?_⟩
    refine ⟨_, rfl, _, _, _, rfl, by simp, hd, _, rfl, ?_⟩
    cases hd with
    | non => cases b <;> simp [isVal, isNum, isI, isT, tyN, isWord] at hv
    | bl _ => cases b <;> simp [isVal, isNum, isI, isT, tyN, isWord] at hv
    | lst _ _ => cases b <;> simp [isVal, isNum, isI, isT, tyN, isWord] at hv
    | tup _ _ => cases b <;> simp [isVal, isNum, isI, isT, tyN, isWord] at hv
    | int n =>
      have e : isI "str" (.int n) = false := by simp [isI, isT, tyN]
      rw [e]
      refine iteF ⟨_, rfl, by show 1 ≤ sizeLine; decide, fun p hp => ?_⟩
      exact k _ p (fun b' o q => by rw [upd_ne (ne_of_none q hp)]; exact q) hp upd_same
    | str x =>
      have e : isI "str" (.str x) = true := by simp [isI, isT, tyN]
      rw [e]
      have hx : x.length ≤ 6 := by
        cases b with
        | true => exact isWord_len hv
        | false => simp [isVal, isNum, isI, isT, tyN] at hv
      refine iteT ⟨_, rfl, rfl, x, 6, rfl, rfl, by decide +kernel, _, rfl, fun p hp => ?_⟩
      refine lc_by (Txt.ljust x 6).cps.size (fun i H' => Same H H' ∧ H' p = some (.lst (((pad6 x.cps.toList).take i).map fun c => V.int (Int.ofNat c)))) ⟨fun b' o q => by rw [upd_ne (ne_of_none q hp)]; exact q, upd_same⟩ ?_ ?_
      · rintro i H' hi ⟨sm, hl⟩
        refine ⟨hi, fun y H2 ⟨e2, cc, hc, ey⟩ => ?_⟩
        subst e2 ey
        have hc2 : (pad6 x.cps.toList)[i]? = some cc := by
          rw [← ljust6 hx]
          simpa using hc
        have li : i < 6 := by
          rw [← pad6_len (by rw [len_cps]; exact hx)]
          exact (List.getElem?_eq_some_iff.mp hc2).1
        refine ⟨rfl, _, rfl, _, rfl, rfl, _, hl, small1000 (by rw [List.length_map, List.length_take]; omega), ?_, ?_⟩
        · exact fun b' o q => by rw [upd_ne (ne_of_none q hp)]; exact sm b' o q
        · rw [upd_same, List.take_add_one, hc2, List.map_append]
          rfl
      · rintro H' ⟨sm, hl⟩
        refine ⟨Nat.le_refl _, ?_⟩
        have ez : (pad6 x.cps.toList).take (Txt.ljust x 6).cps.size = pad6 x.cps.toList := by
          rw [List.take_of_length_le]
          rw [← ljust6 hx]
          simp
        rw [ez] at hl
        refine k H' p sm hp ?_
        rw [hl]
        show _ = some (HO.lst (((pad6 x.cps.toList).map Int.ofNat).map V.int))
        rw [List.map_map]
        rfl

theorem scRank : FnScope ["order", "told", "number", "row", "ranked", "column", "way", "worth"] ["order", "told"] (defScope sRank) := ⟨rfl, rfl, rfl, by decide +kernel, rfl, by decide +kernel, by decide +kernel⟩
def spRank (K : PySem.W.Frag) : Sp := fun vs H Q _ => ∃ (vo vt : V) (os : List (Nat × Bool)) (q : Nat × List PyData), vs = [vo, vt] ∧ Dp K H vo (orderD os) ∧ Dp K H vt (pairD q) ∧ os.length ≤ 1000 ∧ Fits os q.2 ∧
  ∀ (H' : Hp) (p : Addr), Same H H' → H p = none → H' p = some (.tup ((rankOf os q).map V.int)) → Q (.ref p) H'
theorem rank_ok {c : Addr} (D : DefAt K mg "rank" sRank c) (T : Txt K mg) (cW : Cal P w K mg base CX0 1 "worths" ["value"] (spWorths K)) : Cal P w K mg base CX0 2 "rank" ["order", "told"] (spRank K) := by
  have sc := scRank
  refine def_ok0 D sc (fun vs H Q E h => ?_) (fun _ _ _ _ _ _ us hl => match us, hl with | [_, _], _ => rfl) (fun f A outer s H vs Q E hr h => ?_)
  · obtain ⟨vo, vt, os, q, rfl, _⟩ := h
    rfl
  · obtain ⟨vo, vt, os, ⟨n, row⟩, rfl, ho, hq, hz, hf, k⟩ := h
    refine ⟨_, (pss_cons (ps_asg (pv 1) (pg_tup (by rfl) (pgs_cons (pg_name (i := 2) sc.nd rfl (Or.inl rfl)) (pgs_cons (pg_name (i := 3) sc.nd rfl (Or.inl rfl)) pgs_nil)))) (pss_cons (ps_set (i := 4) sc.nd rfl (Or.inl rfl) (pe_lst pa_nil)) (pss_cons (ps_for PassesOwn.never rfl (pi_list (pv 0)) (pg_tup (by rfl) (pgs_cons (pg_name (i := 5) sc.nd rfl (Or.inl rfl)) (pgs_cons (pg_name (i := 6) sc.nd rfl (Or.inl rfl)) pgs_nil))) (pss_one (ps_if (pt_cmpR op_eq (pv 6) pe_str (nomark _)) (pss_one (ps_expr (pe_bm PySem.F.plainAttrs_list PySem.F.slot_list_extend PySem.F.type_list_extend mt_extend (pv 4) (pa_cons (pe_c cW hr (by decide) (by rfl) pass0 (pa_cons (pe_ix ixD (pv 3) (pv 5) (fun _ _ => rfl)) pa_nil)) pa_nil)))) (pss_one (ps_expr (pe_bm PySem.F.plainAttrs_list PySem.F.slot_list_extend PySem.F.type_list_extend mt_extend (pv 4) (pa_cons (pe_lc (own := [("worth", 7)]) (tt := tYes)  rfl sc.nd (pi_list (pe_c cW hr (by decide) (by rfl) pass0 (pa_cons (pe_ix ixD (pv 3) (pv 5) (fun _ _ => rfl)) pa_nil))) (blkOk_by (N := ["order", "told", "number", "row", "ranked", "column", "way", "worth"]) (sc := defScope sRank) (own := [("worth", 7)]) (by decide +kernel)) (fun _ _ _ _ _ => (pg_name (i := 7) sc.nd rfl (Or.inl rfl))) (fun _ _ _ _ _ => pts_nil) (fun _ _ _ _ _ => pe_un un_neg (pv 7))) pa_nil))))))) (pss_one (ps_ret (pe_callTy call_tuple_of (by rfl) T.tuple_ (by decide +kernel) (pa_cons (pe_op op_cat (pv 4) (pe_lst (pa_cons (pv 2) pa_nil))) pa_nil))))))), ?_⟩
    cases ho with
    | @lst ao xo _ hSo hIo =>
      cases hq with
      | @tup at_ xt _ hSt hIt =>
        cases hIt with
        | cons h1 hIt =>
          cases hIt with
          | cons h2 hIt =>
            cases hIt
            cases h1
            rename_i vr
            have lo : xo.length = os.length := by rw [dpLen hIo, List.length_map]
            refine ⟨_, rfl, at_, _, rfl, hSt, rfl, _, _, rfl, _, _, rfl, rfl, ?_⟩
            refine ⟨Nat.zero_le _, fun pr hp => ?_⟩
            have s0 : Same H (upd H pr (.lst [])) := fun b' o e => by rw [upd_ne (ne_of_none e hp)]; exact e
            refine ⟨_, rfl, ao, rfl, ⟨_, s0.seq hSo⟩, for_list (K := K) (a := ao) (xs := xo) (fun i σ H' => ∃ v5 v6 : Option V, σ = [some (.ref ao), some (.ref at_), some (.int (n : Int)), some vr, some (.ref pr), v5, v6, none] ∧ Same H H' ∧ H' pr = some (.lst (((os.take i).flatMap (keyP row)).map V.int)))
              ⟨none, none, rfl, s0, upd_same⟩ (fun i σ H' _ ⟨_, _, _, sm, _⟩ => sm.seq hSo) ?_ ?_⟩
            · rintro i y σ H' hi ⟨v5, v6, rfl, sm, hL⟩
              obtain ⟨d, ed, hd⟩ := dpGet hIo hi
              obtain ⟨⟨c, b⟩, eq, rfl⟩ : ∃ q, os[i]? = some q ∧ d = partD q := by
                rw [List.getElem?_map] at ed
                cases q : os[i]? with
                | none => rw [q] at ed; cases ed
                | some b => rw [q] at ed; exact ⟨b, rfl, (Option.some.inj ed).symm⟩
              have hm := List.mem_of_getElem? eq
              have hi' : i < os.length := (List.getElem?_eq_some_iff.mp eq).1
              obtain ⟨b', d, er, hv⟩ := hf _ hm
              have er : row[c]? = some d := er
              cases hd with
              | @tup ap xp _ hSp hIp =>
                cases hIp with
                | cons g1 hIp =>
                  cases hIp with
                  | cons g2 hIp =>
                    cases hIp
                    cases g1
                    cases g2
                    have ekey : keyP row (c, b) = (worthsOf d).map fun z => if b then -z else z := by
                      unfold keyP
                      rw [List.getD_eq_getElem?_getD, er]
                      rfl
                    have full : (os.take (i + 1)).flatMap (keyP row) = (os.take i).flatMap (keyP row) ++ keyP row (c, b) := by
                      rw [List.take_add_one, eq, List.flatMap_append]
                      simp
                    have l1 : ((os.take i).flatMap (keyP row)).length ≤ 6000 := by
                      have := flat_len (keyP row) 6 (os.take i) fun x hx => key_len hf x (List.mem_of_mem_take hx)
                      rw [List.length_take] at this
                      omega
                    have l2 : (worthsOf d).length ≤ 6 := worths_len hv
                    have big : (6006 : Nat) ≤ sizeLine := by decide
                    refine ⟨ap, _, rfl, sqT_same sm hSp, rfl, _, _, rfl, _, _, rfl, rfl, ?_⟩
                    refine ⟨_, rfl, rfl, _, rfl, ?_⟩
                    have hw : decide (V.str (wayS b) = V.str (Str.ofString "up")) = !b := by cases b <;> decide +kernel
                    rw [hw]
                    cases b with
                    | false =>
                      refine iteT ⟨_, rfl, .inl ⟨rfl, _, SqL.of hL⟩, _, rfl, _, rfl, _, row, c, d, dp_same sm _ h2, rfl, rfl, atI_nat er, fun v hv' => ?_⟩
                      refine ⟨v, d, b', rfl, hv', hv, fun H2 p2 s2 hp2 hL2 => ?_⟩
                      have ne2 : p2 ≠ pr := fun z => by rw [z, hL] at hp2; cases hp2
                      refine ⟨pr, p2, _, _, rfl, rfl, s2 _ _ hL, hL2, by simp only [List.length_map]; omega, ?_⟩
                      refine ⟨_, _, rfl, fun q o e => ?_, ?_⟩
                      · rw [upd_ne (fun z => by subst z; rw [hp] at e; cases e)]
                        exact s2 _ _ (sm q o e)
                      · rw [upd_same, full, List.map_append, ekey]
                        simp
                    | true =>
                      refine iteF ⟨_, rfl, .inl ⟨rfl, _, SqL.of hL⟩, _, rfl, _, rfl, _, row, c, d, dp_same sm _ h2, rfl, rfl, atI_nat er, fun v hv' => ?_⟩
                      refine ⟨v, d, b', rfl, hv', hv, fun H2 p2 s2 hp2 hL2 => ?_⟩
                      have ne2 : p2 ≠ pr := fun z => by rw [z, hL] at hp2; cases hp2
                      refine ⟨p2, rfl, ⟨_, SqL.of hL2⟩, fun DD hD => ?_⟩
                      have neD : p2 ≠ DD := fun z => by rw [← z, hL2] at hD; cases hD
                      have neD2 : pr ≠ DD := fun z => by rw [← z, s2 _ _ hL] at hD; cases hD
                      refine lc_list (K := K) (a := p2) (xs := (worthsOf d).map V.int) (fun j H3 => Same H2 H3 ∧ H3 DD = some (.lst (((worthsOf d).take j).map fun z => V.int (-z)))) ⟨fun q o e => by rw [upd_ne (ne_of_none e hD)]; exact e, upd_same⟩
                        (fun j H3 _ hp3 => SqL.of (hp3.1 _ _ hL2)) ?_ ?_
                      · rintro j x H3 hx ⟨sm3, hl3⟩
                        obtain ⟨z, ez, rfl⟩ : ∃ z, (worthsOf d)[j]? = some z ∧ x = V.int z := by
                          rw [List.getElem?_map] at hx
                          cases q : (worthsOf d)[j]? with
                          | none => rw [q] at hx; cases hx
                          | some z => rw [q] at hx; exact ⟨z, rfl, (Option.some.inj hx).symm⟩
                        refine ⟨rfl, _, rfl, _, rfl, _, hl3, small1000 (by rw [List.length_map, List.length_take]; omega), fun q o e => ?_, ?_⟩
                        · rw [upd_ne (fun z' => by subst z'; rw [hD] at e; cases e)]
                          exact sm3 q o e
                        · rw [upd_same, List.take_add_one, ez, List.map_append]
                          rfl
                      · rintro H3 ⟨sm3, hl3⟩
                        rw [List.length_map, List.take_length] at hl3
                        refine ⟨pr, DD, _, _, rfl, rfl, sm3 _ _ (s2 _ _ hL), hl3, by simp only [List.length_map]; omega, ?_⟩
                        refine ⟨_, _, rfl, fun q o e => ?_, ?_⟩
                        · rw [upd_ne (fun z => by subst z; rw [hp] at e; cases e)]
                          exact sm3 _ _ (s2 _ _ (sm q o e))
                        · rw [upd_same, full, List.map_append, ekey]
                          simp
            · rintro σ H' ⟨v5, v6, rfl, sm, hL⟩
              rw [lo, List.take_length] at hL
              have l1 : (os.flatMap (keyP row)).length ≤ 6000 := by
                have := flat_len (keyP row) 6 os fun x hx => key_len hf x hx
                omega
              have big : (6006 : Nat) ≤ sizeLine := by decide
              refine ⟨_, rfl, _, rfl, by show 1 ≤ sizeLine; decide, fun p1 hp1 => ?_⟩
              have ne1 : pr ≠ p1 := fun z => by rw [← z, hL] at hp1; cases hp1
              refine ⟨pr, p1, _, _, rfl, rfl, by rw [upd_ne ne1]; exact hL, upd_same, by simp only [List.length_map, List.length_cons, List.length_nil]; omega, fun p2 hp2 => ?_⟩
              refine ⟨p2, _, rfl, .inl ⟨SqL.of upd_same, fun p3 hp3 => ?_⟩⟩
              have s1 : Same H' (upd H' p1 (.lst [V.int (n : Int)])) := fun q o e => by rw [upd_ne (ne_of_none e hp1)]; exact e
              have s2 : Same H' (upd (upd H' p1 (.lst [V.int (n : Int)])) p2 (.lst ((os.flatMap (keyP row)).map V.int ++ [V.int (n : Int)]))) := fun q o e => by rw [upd_ne (ne_of_none (s1 q o e) hp2)]; exact s1 q o e
              refine k _ p3 (fun q o e => ?_) ((sm.trans s2).free hp3) ?_
              · have e2 := s2 q o (sm q o e)
                rw [upd_ne (ne_of_none e2 hp3)]
                exact e2
              · rw [upd_same]
                unfold rankOf
                rw [List.map_append]
                rfl
end
end RS
set_option Elab.async false
set_option maxRecDepth 100000
set_option maxHeartbeats 4000000
/-! heaps over places 0 .. n - 1, f what stands there -/
namespace HQ
section
variable {α : Type} {lt : α → α → Bool}
def par (i : Nat) : Nat := (i - 1) / 2
/-- each thing whose parent stands at k or behind it is no less than that parent -/
def From (lt : α → α → Bool) (n : Nat) (f : Nat → α) (k : Nat) : Prop := ∀ i, 1 ≤ i → i < n → k ≤ par i → lt (f i) (f (par i)) = false
def swp (f : Nat → α) (i j : Nat) : Nat → α := fun k => if k = i then f j else if k = j then f i else f k
inductive Desc (top : Nat) : Nat → Prop
  | refl : Desc top top
  | step {c : Nat} (h : 1 ≤ c) (d : Desc top (par c)) : Desc top c
/-- what lies under pos is no less than what lies over it -/
def Over (lt : α → α → Bool) (n : Nat) (f : Nat → α) (top pos : Nat) : Prop :=
  pos = top ∨ (1 ≤ pos ∧ Desc top (par pos) ∧ ∀ c, 1 ≤ c → c < n → par c = pos → lt (f c) (f (par pos)) = false)
structure Down (lt : α → α → Bool) (n : Nat) (f : Nat → α) (top pos : Nat) : Prop where
  ds : Desc top pos
  ok : ∀ i, 1 ≤ i → i < n → top ≤ par i → par i ≠ pos → i ≠ pos → lt (f i) (f (par i)) = false
  over : Over lt n f top pos
structure Up (lt : α → α → Bool) (n : Nat) (f : Nat → α) (top pos : Nat) : Prop where
  ds : Desc top pos
  ok : ∀ i, 1 ≤ i → i < n → top ≤ par i → i ≠ pos → lt (f i) (f (par i)) = false
  over : Over lt n f top pos
theorem par_lt {i : Nat} (h : 1 ≤ i) : par i < i := by unfold par; omega
theorem Desc.le {top p : Nat} (h : Desc top p) : top ≤ p := by
  induction h with
  | refl => exact Nat.le_refl _
  | step h _ ih => exact Nat.le_trans ih (Nat.le_of_lt (par_lt h))
theorem Desc.zero : ∀ p : Nat, Desc 0 p := fun p => by
  induction p using Nat.strongRecOn with
  | ind p ih =>
    by_cases h : 1 ≤ p
    · exact .step h (ih _ (par_lt h))
    · have e : p = 0 := by omega
      subst e
      exact .refl
theorem Desc.up {top p : Nat} (h : Desc top p) (ne : p ≠ top) : 1 ≤ p ∧ Desc top (par p) := by
  cases h with
  | refl => exact absurd rfl ne
  | step h d => exact ⟨h, d⟩
theorem par_left (i : Nat) : par (2 * i + 1) = i := by unfold par; omega
theorem par_right (i : Nat) : par (2 * i + 2) = i := by unfold par; omega
theorem par_iff {i p : Nat} (h : 1 ≤ i) : par i = p ↔ i = 2 * p + 1 ∨ i = 2 * p + 2 := by unfold par; omega
theorem From.down {n : Nat} {f : Nat → α} {k : Nat} (h : From lt n f (k + 1)) : Down lt n f k k :=
  ⟨.refl, fun i h1 h2 h3 h4 _ => h i h1 h2 (by omega), .inl rfl⟩
theorem Down.leaf {n : Nat} {f : Nat → α} {top pos : Nat} (h : Down lt n f top pos) (hl : ¬ pos < n / 2) : Up lt n f top pos :=
  ⟨h.ds, fun i h1 h2 h3 h4 => h.ok i h1 h2 h3 (fun e => by
    rcases (par_iff h1).mp e with z | z <;> omega) h4, h.over⟩
/-- the lesser child goes up -/
theorem Down.step (O : SrtO.Swo lt) {n : Nat} {f : Nat → α} {top pos c : Nat} (h : Down lt n f top pos) (hc : c < n) (hp : c = 2 * pos + 1 ∨ c = 2 * pos + 2)
    (hm : ∀ d, (d = 2 * pos + 1 ∨ d = 2 * pos + 2) → d < n → lt (f d) (f c) = false) : Down lt n (swp f c pos) top c := by
  have pc : par c = pos := (par_iff (by omega)).mpr hp
  have hle := h.ds.le
  refine ⟨.step (by omega) (by rw [pc]; exact h.ds), fun i h1 h2 h3 h4 h5 => ?_, .inr ⟨by omega, by rw [pc]; exact h.ds, fun d h1 h2 h3 => ?_⟩⟩
  · -- i is not c, its parent is not c
    have si : swp f c pos i = if i = pos then f c else f i := by
      unfold swp
      rw [if_neg h5]
    have sp : swp f c pos (par i) = if par i = pos then f c else f (par i) := by
      unfold swp
      rw [if_neg h4]
    rw [si, sp]
    have nn : ¬ (i = pos ∧ par i = pos) := fun z => by
      have := par_lt h1
      omega
    by_cases e1 : i = pos
    · have e2 : ¬ par i = pos := fun z => nn ⟨e1, z⟩
      rw [if_pos e1, if_neg e2]
      rcases h.over with z | ⟨z1, z2, z3⟩
      · rw [e1] at h3
        have := par_lt (i := pos) (by omega)
        omega
      · rw [e1]
        exact z3 c (by omega) hc pc
    · rw [if_neg e1]
      by_cases e2 : par i = pos
      · rw [if_pos e2]
        exact hm i ((par_iff h1).mp e2) h2
      · rw [if_neg e2]
        exact h.ok i h1 h2 h3 e2 e1
  · -- d under c
    have e1 : d ≠ c := fun z => by
      have := par_lt h1
      omega
    have e2 : d ≠ pos := fun z => by
      have := par_lt h1
      have := par_lt (i := c) (by omega)
      omega
    have s1 : swp f c pos d = f d := by
      unfold swp
      rw [if_neg e1, if_neg e2]
    have s2 : swp f c pos (par c) = f c := by
      unfold swp
      rw [pc, if_neg (by have := par_lt (i := c) (by omega); omega), if_pos rfl]
    rw [s1, s2]
    have := h.ok d h1 h2 (by rw [h3]; omega) (by rw [h3]; have := par_lt (i := c) (by omega); omega) e2
    rw [h3] at this
    exact this
/-- it goes up past its parent -/
theorem Up.step (O : SrtO.Swo lt) {n : Nat} {f : Nat → α} {top pos : Nat} (h : Up lt n f top pos) (hn : pos < n) (ht : top < pos) (hl : lt (f pos) (f (par pos)) = true) : Up lt n (swp f (par pos) pos) top (par pos) := by
  have hpp := par_lt (i := pos) (by omega)
  rcases h.over with z | ⟨z1, z2, z3⟩
  · omega
  refine ⟨z2, fun i h1 h2 h3 h4 => ?_, ?_⟩
  · have si : swp f (par pos) pos i = if i = pos then f (par pos) else f i := by
      unfold swp
      rw [if_neg h4]
    rw [si]
    by_cases e1 : i = pos
    · rw [if_pos e1]
      have sp : swp f (par pos) pos (par i) = f pos := by
        unfold swp
        rw [e1, if_pos rfl]
      rw [sp]
      exact O.asym _ _ hl
    · rw [if_neg e1]
      by_cases e2 : par i = par pos
      · have sp : swp f (par pos) pos (par i) = f pos := by
          unfold swp
          rw [if_pos e2]
        rw [sp]
        have a := h.ok i h1 h2 h3 e1
        rw [e2] at a
        exact O.tr _ _ _ (O.asym _ _ hl) a
      · by_cases e3 : par i = pos
        · have sp : swp f (par pos) pos (par i) = f (par pos) := by
            unfold swp
            rw [if_neg e2, if_pos e3]
          rw [sp]
          exact z3 i h1 h2 e3
        · have sp : swp f (par pos) pos (par i) = f (par i) := by
            unfold swp
            rw [if_neg e2, if_neg e3]
          rw [sp]
          exact h.ok i h1 h2 h3 e1
  · by_cases e : par pos = top
    · exact .inl e
    · obtain ⟨g1, g2⟩ := z2.up e
      refine .inr ⟨g1, g2, fun c c1 c2 c3 => ?_⟩
      have hq := par_lt g1
      have sq : swp f (par pos) pos (par (par pos)) = f (par (par pos)) := by
        unfold swp
        rw [if_neg (by omega), if_neg (by omega)]
      have a : lt (f (par pos)) (f (par (par pos))) = false := h.ok _ g1 (by omega) g2.le (by omega)
      rw [sq]
      have hc := par_lt c1
      by_cases e1 : c = pos
      · have sc : swp f (par pos) pos c = f (par pos) := by
          unfold swp
          rw [if_neg (by omega), if_pos e1]
        rw [sc]
        exact a
      · have sc : swp f (par pos) pos c = f c := by
          unfold swp
          rw [if_neg (by omega), if_neg e1]
        rw [sc]
        have b := h.ok c c1 c2 (by rw [c3]; exact z2.le) e1
        rw [c3] at b
        exact O.tr _ _ _ a b
theorem Up.top {n : Nat} {f : Nat → α} {top pos : Nat} (h : Up lt n f top pos) (hp : ¬ top < pos) : From lt n f top := fun i h1 h2 h3 => h.ok i h1 h2 h3 fun e => by
  have := par_lt h1
  omega
theorem Up.stop {n : Nat} {f : Nat → α} {top pos : Nat} (h : Up lt n f top pos) (hl : lt (f pos) (f (par pos)) = false) : From lt n f top := fun i h1 h2 h3 => by
  by_cases e : i = pos
  · rw [e]; exact hl
  · exact h.ok i h1 h2 h3 e
theorem From.push {n : Nat} {f g : Nat → α} (h : From lt n f 0) (e : ∀ i, i < n → g i = f i) : Up lt (n + 1) g 0 n := by
  refine ⟨.zero _, fun i h1 h2 h3 h4 => ?_, ?_⟩
  · have := par_lt h1
    rw [e i (by omega), e (par i) (by omega)]
    exact h i h1 (by omega) (Nat.zero_le _)
  · by_cases z : n = 0
    · exact .inl z
    · refine .inr ⟨by omega, .zero _, fun c c1 c2 c3 => ?_⟩
      have := par_lt c1
      omega
theorem From.root {n : Nat} {f g : Nat → α} (h : From lt n f 0) (e : ∀ i, 1 ≤ i → i < n → g i = f i) : Down lt n g 0 0 :=
  ⟨.refl, fun i h1 h2 _ h4 _ => by
    have := par_lt h1
    rw [e i h1 h2, e (par i) (by omega) (by omega)]
    exact h i h1 h2 (Nat.zero_le _), .inl rfl⟩
theorem From.less {n m : Nat} {f : Nat → α} {k : Nat} (h : From lt n f k) (hm : m ≤ n) : From lt m f k := fun i h1 h2 h3 => h i h1 (by omega) h3
theorem From.half {n : Nat} {f : Nat → α} : From lt n f (n / 2) := fun i h1 h2 h3 => by
  have : par i = (i - 1) / 2 := rfl
  omega
theorem From.few {n : Nat} {f : Nat → α} (h : n < 2) : From lt n f 0 := fun i h1 h2 _ => by omega
theorem From.least (O : SrtO.Swo lt) {n : Nat} {f : Nat → α} (h : From lt n f 0) : ∀ i, i < n → lt (f i) (f 0) = false := fun i => by
  induction i using Nat.strongRecOn with
  | ind i ih =>
    intro hi
    by_cases h1 : 1 ≤ i
    · have hp := par_lt h1
      exact O.tr _ _ _ (ih _ hp (by omega)) (h i h1 hi (Nat.zero_le _))
    · have e : i = 0 := by omega
      subst e
      exact O.refl _
end
end HQ
set_option Elab.async false
set_option maxRecDepth 100000
set_option maxHeartbeats 2000000
namespace HQ
open PySem PySem.Spec PyProof.Rows L2 PySem.SeqAt
/-! ### tuples whose first numbers differ -/
theorem tupLt2 (a b : Addr) (xs ys : Array Value) (n m : Nat) (da db : Option Addr) (sa sb : Array (Option Value)) (e r : Nat → Bool) :
    Meets (Builtin.«tuple.__lt__» ⟨[.ref a, .ref b], []⟩) (fun A R s => s.heap.get? a = some ⟨.type "tuple", da, .seq xs n, sa⟩ ∧ s.heap.get? b = some ⟨.type "tuple", db, .seq ys m, sb⟩ ∧
        (∀ j (p : j < xs.size) (q : j < ys.size), (∀ i < j, e i = true) → EqAt A.in1 s xs[j] ys[j] (e j)) ∧ (∀ j (p : j < xs.size) (q : j < ys.size), (∀ i < j, e i = true) → e j = false → RcLt A.in1 s xs[j] ys[j] (r j)) ∧
        R (.ok (.ret (.bool (firstLt e r (decide (xs.size < ys.size)) (List.range (min xs.size ys.size)))))) s) := .of_wp fun prog w A R s H => by
    obtain ⟨hp, g, d, tk, os⟩ := s
    obtain ⟨ha, hb, he, hr, H⟩ := H
    have sub := AutoSeq1.sub_tuple_tuple
    have lZ : (xs.toList.zip ys.toList).length = min xs.size ys.size := by simp
    wp_walk using AutoSeq1.wpAny_loadPart' ha, AutoSeq1.wpAny_loadPart' hb, wpAny_forIn_list _ (fun rest c s' => c.1 = none ∧ s' = ⟨hp, g, d, tk, os⟩ ∧ ∃ i, rest = (xs.toList.zip ys.toList).drop i ∧ (∀ k < i, e k = true) ∧ R (.ok (.ret (.bool (firstLt e r (decide (xs.size < ys.size)) ((List.range (min xs.size ys.size)).drop i))))) ⟨hp, g, d, tk, os⟩) _
    case turn =>
      rintro ⟨y, x⟩ rest c s' ⟨hc, rfl, i, hz, hk, hR⟩
      have hlt : i < (xs.toList.zip ys.toList).length := by
        by_cases z : i < (xs.toList.zip ys.toList).length
        · exact z
        · rw [List.drop_of_length_le (Nat.le_of_not_lt z)] at hz
          cases hz
      have hm : i < min xs.size ys.size := by rw [← lZ]; exact hlt
      have i1 : i < xs.size := by omega
      have i2 : i < ys.size := by omega
      rw [List.drop_eq_getElem_cons hlt] at hz
      obtain ⟨hyx, hrest⟩ := List.cons.inj hz
      have ey : y = xs[i] := by simpa using congrArg Prod.fst hyx
      have ex : x = ys[i] := by simpa using congrArg Prod.snd hyx
      subst ey ex
      have ed : (List.range (min xs.size ys.size)).drop i = i :: (List.range (min xs.size ys.size)).drop (i + 1) := by
        simp [List.drop_eq_getElem_cons, hm]
      rw [ed] at hR
      refine wpAny_bind (he i i1 i2 hk prog w _ _ ?_)
      by_cases ei : e i = true
      · rw [firstLt_yes ei] at hR
        rw [ei]
        wp_walk
        refine ⟨rfl, rfl, i + 1, hrest, fun k kk => ?_, hR⟩
        by_cases z : k = i
        · rw [z]; exact ei
        · exact hk k (by omega)
      · have ei : e i = false := by simpa using ei
        rw [firstLt_no ei] at hR
        rw [ei]
        generalize hrc : PySem.richCompare = rc
        wp_walk
        subst hrc
        refine hr i i1 i2 hk ei prog w _ _ ?_
        wp_walk
        exact ⟨_, rfl, hR⟩
    case fin =>
      rintro ⟨c1, c2⟩ s' ⟨hc, rfl, i, hz, _, hR⟩
      simp only at hc
      subst hc
      have hge : min xs.size ys.size ≤ i := by
        by_cases z : i < (xs.toList.zip ys.toList).length
        · rw [List.drop_eq_getElem_cons z] at hz
          cases hz
        · rw [← lZ]
          omega
      rw [List.drop_of_length_le (by simpa using hge)] at hR
      wp_walk
      exact ⟨_, rfl, by simpa [Builtin.Tuple.tupleCompareSizes, firstLt] using hR⟩
    case h =>
      exact ⟨rfl, rfl, 0, rfl, fun k kk => absurd kk (Nat.not_lt_zero _), by simpa using H⟩
def eTri (x1 x2 y1 y2 : Int) (j : Nat) : Bool := if j = 0 then decide (x1 = y1) else if j = 1 then decide (x2 = y2) else false
def rTri (x1 x2 y1 y2 : Int) (j : Nat) : Bool := if j = 0 then decide (x1 < y1) else decide (x2 < y2)
theorem triLt {x1 x2 y1 y2 : Int} {d d' : PyData} (h : x1 ≠ y1 ∨ x2 ≠ y2) : PySem.W.dataLt (.tuple [.int x1, .int x2, d]) (.tuple [.int y1, .int y2, d']) = (if x1 = y1 then decide (x2 < y2) else decide (x1 < y1)) := by
  have al : ∀ a b : Int, PySem.W.alike (.int a) (.int b) = true := fun a b => by simp [PySem.W.alike]
  have ev : ∀ a b : Int, PyData.eqv (.int a) (.int b) = decide (a = b) := fun a b => by by_cases q : a = b <;> simp [q, PyData.eqv]
  rw [PySem.W.dataLt_tuple]
  by_cases e1 : x1 = y1
  · have e2 : ¬ x2 = y2 := fun z => h.elim (fun q => q e1) fun q => q z
    rw [if_pos e1, PySem.W.dataLt_all_yes (al x1 y1) (by rw [ev]; exact decide_eq_true e1), PySem.W.dataLt_all_no (al x2 y2) (by rw [ev]; exact decide_eq_false e2), PySem.W.dataLt_int]
  · rw [if_neg e1, PySem.W.dataLt_all_no (al x1 y1) (by rw [ev]; exact decide_eq_false e1), PySem.W.dataLt_int]
theorem three {h : Heap} {l : List Value} {a b c : PyData} {as : List Addr} (r : ReadsAll h l [a, b, c] as) : ∃ v1 v2 v3 : Value, l = [v1, v2, v3] ∧ (∃ z, Reads h v1 a z) ∧ ∃ z, Reads h v2 b z := by
  cases r with
  | cons r1 t1 =>
    cases t1 with
    | cons r2 t2 =>
      cases t2 with
      | cons r3 t3 =>
        cases t3
        exact ⟨_, _, _, rfl, ⟨_, r1⟩, ⟨_, r2⟩⟩
theorem rc_tri {x1 x2 y1 y2 : Int} {d d' : PyData} {A : Around} {s : Shared} {u v : Value} {as bs : List Addr} (ra : Reads s.heap u (.tuple [.int x1, .int x2, d]) as) (rb : Reads s.heap v (.tuple [.int y1, .int y2, d']) bs) (h : x1 ≠ y1 ∨ x2 ≠ y2) (hu : A.units + 1 < cLine) :
    RcLt A s u v (PySem.W.dataLt (.tuple [.int x1, .int x2, d]) (.tuple [.int y1, .int y2, d'])) := by
  rw [triLt h]
  cases ra with
  | @tuple l o vs n _ as₁ h1 h2 h3 h4 =>
    cases rb with
    | @tuple l' o' vs' n' _ bs₁ k1 k2 k3 k4 =>
      obtain ⟨p1, p2, p3, ep, ⟨z1, r1⟩, ⟨z2, r2⟩⟩ := three h4
      obtain ⟨q1, q2, q3, eq, ⟨w1, t1⟩, ⟨w2, t2⟩⟩ := three k4
      have ep : vs = #[p1, p2, p3] := Array.toList_inj.mp ep
      have eq : vs' = #[q1, q2, q3] := Array.toList_inj.mp eq
      subst ep eq
      have al : ∀ a b : Int, PySem.W.alike (.int a) (.int b) = true := fun a b => by simp [PySem.W.alike]
      have ev : ∀ a b : Int, PyData.eqv (.int a) (.int b) = decide (a = b) := fun a b => by by_cases q : a = b <;> simp [q, PyData.eqv]
      have room : ∀ a b : Int, A.in1.units + min (PyData.int a).depth (PyData.int b).depth < cLine := fun a b => by
        show A.units + 1 + min (PyData.int a).depth (PyData.int b).depth < cLine
        simp only [PyData.depth, Nat.min_self]
        omega
      have E1 := PySem.W.eqAt_alike (.int x1) (.int y1) A.in1 s p1 q1 _ _ r1 t1 (al _ _) (room _ _)
      have E2 := PySem.W.eqAt_alike (.int x2) (.int y2) A.in1 s p2 q2 _ _ r2 t2 (al _ _) (room _ _)
      have L1 := PySem.W.rcLt_alike (.int x1) (.int y1) A.in1 s p1 q1 _ _ r1 t1 (al _ _) (by simp) (room _ _)
      have L2 := PySem.W.rcLt_alike (.int x2) (.int y2) A.in1 s p2 q2 _ _ r2 t2 (al _ _) (by simp) (room _ _)
      rw [ev] at E1 E2
      rw [PySem.W.dataLt_int] at L1 L2
      obtain ⟨oc, od, ot, osl⟩ := o
      obtain ⟨oc', od', ot', osl'⟩ := o'
      simp only at h2 h3 k2 k3
      subst h2 h3 k2 k3
      intro prog w E Q hq
      refine richCompare_meets_room (op := .Lt) ⟨_, h1, rfl⟩ ⟨_, k1, rfl⟩ F.slot_tuple_lt F.entry_tuple_lt (F.args_tuple_lt_2 _ _) (tupLt2 l l' #[p1, p2, p3] #[q1, q2, q3] n n' od od' osl osl' (eTri x1 x2 y1 y2) (rTri x1 x2 y1 y2)) ⟨h1, k1, fun j a b hj => ?_, fun j a b hj _ => ?_, (fun x => nomatch x), ?_⟩ (by omega)
      · match j, a, hj with
        | 0, _, _ => exact E1
        | 1, _, _ => exact E2
        | 2, _, hj =>
          have a1 := hj 0 (by decide)
          have a2 := hj 1 (by decide)
          simp [eTri] at a1 a2
          exact absurd a2 (h.resolve_left fun z => z a1)
      · match j, a, hj with
        | 0, _, _ => exact L1
        | 1, _, _ => exact L2
        | 2, _, hj =>
          have a1 := hj 0 (by decide)
          have a2 := hj 1 (by decide)
          simp [eTri] at a1 a2
          exact absurd a2 (h.resolve_left fun z => z a1)
      · have e : firstLt (eTri x1 x2 y1 y2) (rTri x1 x2 y1 y2) (decide ((#[p1, p2, p3] : Array Value).size < (#[q1, q2, q3] : Array Value).size)) (List.range (min (#[p1, p2, p3] : Array Value).size (#[q1, q2, q3] : Array Value).size)) = if x1 = y1 then decide (x2 < y2) else decide (x1 < y1) := by
          show firstLt _ _ _ [0, 1, 2] = _
          by_cases e1 : x1 = y1
          · have e2 : ¬ x2 = y2 := fun z => h.elim (fun q => q e1) fun q => q z
            simp [firstLt, eTri, rTri, e1, e2]
          · simp [firstLt, eTri, rTri, e1]
        rw [e]
        exact hq
end HQ
set_option Elab.async false
set_option maxRecDepth 100000
set_option maxHeartbeats 4000000
namespace HQ
open PySem PySem.Spec PyProof.Rows L2 RS

/-! ### entries -/
theorem en_sift : entryFor table "_heapq.heapify.sift" = some Builtin.«_heapq.heapify.sift» := entryFor_of_fast (by kernel_rfl)
theorem en_heapify : entryFor table "_heapq.heapify" = some Builtin.«_heapq.heapify» := entryFor_of_fast (by kernel_rfl)
theorem en_push : entryFor table "_heapq.heappush" = some Builtin.«_heapq.heappush» := entryFor_of_fast (by kernel_rfl)
theorem en_pop : entryFor table "_heapq.heappop" = some Builtin.«_heapq.heappop» := entryFor_of_fast (by kernel_rfl)
theorem pl_sift : plainId "_heapq.heapify.sift" = true := by decide +kernel
theorem pl_heapify : plainId "_heapq.heapify" = true := by decide +kernel
theorem pl_push : plainId "_heapq.heappush" = true := by decide +kernel
theorem pl_pop : plainId "_heapq.heappop" = true := by decide +kernel
theorem ki_heapify : builtinKind "_heapq.heapify" = none := by decide +kernel
theorem ki_push : builtinKind "_heapq.heappush" = none := by decide +kernel
theorem ki_pop : builtinKind "_heapq.heappop" = none := by decide +kernel
theorem ar_heapify (a : Value) : argsOk "_heapq.heapify" ⟨[a], []⟩ := by unfold argsOk; kernel_rfl
theorem ar_push (a b : Value) : argsOk "_heapq.heappush" ⟨[a, b], []⟩ := by unfold argsOk; kernel_rfl
theorem ar_pop (a : Value) : argsOk "_heapq.heappop" ⟨[a], []⟩ := by unfold argsOk; kernel_rfl

/-! ### the order of data -/
abbrev Z := V × PyData
def ltz (x y : Z) : Bool := PySem.W.dataLt x.2 y.2
theorem swo_z : SrtO.Swo ltz := by
  refine ⟨fun x y h => ?_, fun x y z h1 h2 => ?_⟩
  · cases q : ltz y x with
    | false => rfl
    | true =>
      have t := (PyProof.Rows.listOrd PyProof.Rows.itemOrd).trans _ _ _ h q
      rw [(PyProof.Rows.listOrd PyProof.Rows.itemOrd).irrefl] at t
      cases t
  · cases q : ltz z x with
    | false => rfl
    | true =>
      rcases (PyProof.Rows.listOrd PyProof.Rows.itemOrd).negTrans _ (PySem.W.keyToks y.2) _ q with t | t
      · exact t.symm.trans h2
      · exact t.symm.trans h1

/-! ### lists as heaps -/
def dz : Z := (.non, .none)
def nth (zs : List Z) (i : Nat) : Z := zs.getD i dz
def sw (zs : List Z) (i j : Nat) : List Z := (zs.set i (nth zs j)).set j (nth zs i)
theorem nth_eq {zs : List Z} {i : Nat} (h : i < zs.length) : nth zs i = zs[i] := by
  unfold nth
  rw [List.getD_eq_getElem?_getD, List.getElem?_eq_getElem h]
  rfl
theorem nth_at {zs : List Z} {i : Nat} (h : i < zs.length) : zs[i]? = some (nth zs i) := by rw [nth_eq h, List.getElem?_eq_getElem h]
theorem nth_mem {zs : List Z} {i : Nat} (h : i < zs.length) : nth zs i ∈ zs := by rw [nth_eq h]; exact List.getElem_mem h
theorem sw_len (zs : List Z) (i j : Nat) : (sw zs i j).length = zs.length := by unfold sw; rw [List.length_set, List.length_set]
theorem sw_perm {zs : List Z} {i j : Nat} (hi : i < zs.length) (hj : j < zs.length) : (sw zs i j).Perm zs := by
  unfold sw
  rw [nth_eq hi, nth_eq hj]
  exact List.set_set_perm hi hj
theorem sw_nth {zs : List Z} {i j : Nat} (hi : i < zs.length) (hj : j < zs.length) (ne : i ≠ j) : nth (sw zs i j) = swp (nth zs) i j := by
  funext k
  unfold swp
  unfold nth sw
  simp only [List.getD_eq_getElem?_getD, List.getElem?_set, List.length_set]
  by_cases e1 : j = k
  · subst e1
    rw [if_pos rfl, if_pos hj, if_neg (Ne.symm ne), if_pos rfl]
    rfl
  · rw [if_neg e1]
    by_cases e2 : i = k
    · subst e2
      rw [if_pos rfl, if_pos hi, if_pos rfl]
      rfl
    · rw [if_neg e2, if_neg (Ne.symm e2), if_neg (Ne.symm e1)]

/-- two that can be compared: alike, or of three parts with the first numbers unlike -/
def Cmp (d d' : PyData) : Prop := PySem.W.alike d d' = true ∨ ∃ (x1 x2 y1 y2 : Int) (e e' : PyData), d = .tuple [.int x1, .int x2, e] ∧ d' = .tuple [.int y1, .int y2, e'] ∧ (x1 ≠ y1 ∨ x2 ≠ y2)
/-- items that may stand in the heap at a -/
structure Good (K : PySem.W.Frag) (H : Hp) (a : Addr) (zs : List Z) : Prop where
  dp : ∀ z ∈ zs, ∀ u, Dp K (upd H a (.lst u)) z.1 z.2
  nn : ∀ z ∈ zs, z.2 ≠ .none
  dep : ∀ z ∈ zs, z.2.depth ≤ 60
  al : ∀ z ∈ zs, ∀ y ∈ zs, Cmp z.2 y.2
theorem Good.perm {K : PySem.W.Frag} {H : Hp} {a : Addr} {zs ys : List Z} (G : Good K H a zs) (p : ys.Perm zs) : Good K H a ys :=
  ⟨fun z h => G.dp z (p.mem_iff.mp h), fun z h => G.nn z (p.mem_iff.mp h), fun z h => G.dep z (p.mem_iff.mp h), fun z h y g => G.al z (p.mem_iff.mp h) y (p.mem_iff.mp g)⟩
theorem Good.sub {K : PySem.W.Frag} {H : Hp} {a : Addr} {zs ys : List Z} (G : Good K H a zs) (p : ∀ y ∈ ys, y ∈ zs) : Good K H a ys :=
  ⟨fun z h => G.dp z (p _ h), fun z h => G.nn z (p _ h), fun z h => G.dep z (p _ h), fun z h y g => G.al z (p _ h) y (p _ g)⟩
abbrev hp (H : Hp) (a : Addr) (zs : List Z) : Hp := upd H a (.lst (zs.map (·.1)))
section
variable {X : Cx} {pins : List (Addr × Obj)} {σ : L2.St} {H : Hp} {a : Addr} {zs : List Z} {s : Shared}
theorem less_ {x y : Z} {u v : Value} {E : Value → Shared → Prop} {Q : Value → Shared → Prop} {A : Around} (hu : A.units + 61 < cLine) (G : Good X.K H a zs) (I : Inv X pins σ (hp H a zs) s) (hx : x ∈ zs) (hy : y ∈ zs) (rx : RelV x.1 u) (ry : RelV y.1 v)
    (h : Q (.bool (ltz x y)) s) : wpAny (model X.prog X.w) A (richCompare .Lt u v) Q E s := by
  obtain ⟨as, r1⟩ := Dp.reads I _ _ _ (G.dp x hx _) rx
  obtain ⟨bs, r2⟩ := Dp.reads I _ _ _ (G.dp y hy _) ry
  rcases G.al x hx y hy with al | ⟨x1, x2, y1, y2, e, e', e1, e2, ne⟩
  · exact PySem.W.rcLt_alike x.2 y.2 A s u v as bs r1 r2 al (G.nn x hx) (by have := G.dep x hx; omega) X.prog X.w E Q h
  · unfold ltz at h
    rw [e1] at r1 h
    rw [e2] at r2 h
    exact rc_tri r1 r2 ne (by omega) X.prog X.w E Q h
/-- what the sifting does next -/
def Nx (X : Cx) (a : Addr) (after : Int) (res : Value) (R : Result → Shared → Prop) (s : Shared) : Prop :=
  if after < 0 then R (.ok (.ret res)) s else codeAny (model X.prog X.w) X.A (.builtin "_heapq.heapify.sift" ⟨[.ref a, .bool false, .bool true, rawInt (after.toNat : Nat), rawInt (after.toNat : Nat), res, rawInt (after - 1)], []⟩) R s

theorem at_ {M : Model} {A : Around} {xs : Array Value} {i : Nat} {u : Value} {f : Sem Value} {Q : Value → Shared → Prop} {E : Value → Shared → Prop} {s : Shared} (h : xs[i]? = some u) (q : Q u s) :
    wpAny M A (match xs[i]? with | some v => pure v | none => f) Q E s := by
  rw [h]
  exact wpAny_pure q
theorem vals_at {zs : List Z} {its : List Value} (r : Vals (zs.map (·.1)) its) {i : Nat} (h : i < zs.length) : ∃ u, its[i]? = some u ∧ its.toArray[i]? = some u ∧ RelV (nth zs i).1 u := by
  obtain ⟨u, h1, h2⟩ := r.get (i := i) (x := (nth zs i).1) (by rw [List.getElem?_map, nth_at h]; rfl)
  exact ⟨u, h1, by rw [← Array.getElem?_toList]; exact h1, h2⟩
theorem sw_map {zs : List Z} {i j : Nat} {its : List Value} (r : Vals (zs.map (·.1)) its) {u v : Value} (hu : RelV (nth zs i).1 u) (hv : RelV (nth zs j).1 v) :
    Vals ((sw zs i j).map (·.1)) ((its.set i v).set j u) := by
  unfold sw
  rw [List.map_set, List.map_set]
  exact (r.set hv i).set hu j
theorem swap_inv {i j : Nat} {its : List Value} {n : Nat} (I : Inv X pins σ (hp H a zs) s) (r : Vals (zs.map (·.1)) its) (e : s.heap.get? a = some { cls := .type "list", data := .seq its.toArray n }) (z : zs.length ≤ sizeLine) {u v : Value}
    (hu : RelV (nth zs i).1 u) (hv : RelV (nth zs j).1 v) :
    Inv X pins σ (hp H a (sw zs i j)) { s with heap := s.heap.update a (Obj.mapSeq fun xs => (xs.setIfInBounds i v).setIfInBounds j u) } := by
  have q := I.lset (l := a) (its' := (its.set i v).set j u) (f := fun xs => (xs.setIfInBounds i v).setIfInBounds j u) (t' := s.toks) upd_same e (by simp) (sw_map (i := i) (j := j) r hu hv) (by rw [List.length_map, sw_len]; exact z)
  rw [upd_upd] at q
  exact q
theorem up_run (hu : X.A.units + 64 < cLine) {top : Nat} {after : Int} {res : Value} {R : Result → Shared → Prop} (hz : zs.length ≤ sizeLine) (G : Good X.K H a zs)
    (hend : ∀ s' ys, ys.Perm zs → From ltz zs.length (nth ys) top → Inv X pins σ (hp H a ys) s' → Nx X a after res R s') :
    ∀ (m pos : Nat) (ys : List Z) (s : Shared), pos ≤ m → pos < zs.length → ys.Perm zs → Up ltz zs.length (nth ys) top pos → Inv X pins σ (hp H a ys) s →
      codeAny (model X.prog X.w) X.A (.builtin "_heapq.heapify.sift" ⟨[.ref a, .bool false, .bool false, rawInt pos, rawInt top, res, rawInt after], []⟩) R s := by
  intro m
  induction m using Nat.strongRecOn with
  | ind m ih =>
    intro pos ys s hm hp p U I
    obtain ⟨z, its, n, r, hl, e⟩ := I.lstM (l := a) (xs := ys.map (·.1)) upd_same
    rw [List.length_map] at hl z
    have lz := p.length_eq
    refine codeAny_builtin en_sift ?_
    rw [Around.under_plainId pl_sift _]
    show wpAny _ X.A.in1 (_ >>= _) _ _ _
    refine wpAny_bind (wpAny_bind (wpAny_seqItems e rfl (wpAny_pure ?_)))
    show wpAny _ X.A.in1 (if pos > top then _ else _) _ _ _
    have stop : ∀ s' : Shared, Nx X a after res R s' → wpAny (model X.prog X.w) X.A.in1 (if after < 0 then ret res else again (.builtin "_heapq.heapify.sift" ⟨[.ref a, .bool false, .bool true, rawInt (after.toNat : Nat), rawInt (after.toNat : Nat), res, rawInt (after - 1)], []⟩))
        (fun fin s' => match fin with | .done f => R (.ok f) s' | .again c' => c'.quiet = true ∧ codeAny (model X.prog X.w) X.A c' R s') (fun e s' => R (.error e) s') s' := by
      intro s' q
      unfold Nx at q
      by_cases g : after < 0
      · rw [if_pos g] at q ⊢
        exact wpAny_pure q
      · rw [if_neg g] at q ⊢
        exact wpAny_pure ⟨plainId_quiet pl_sift _, q⟩
    by_cases h1 : pos > top
    · rw [if_pos h1]
      have hpp := par_lt (i := pos) (by omega)
      obtain ⟨u, u1, u2, u3⟩ := vals_at r (i := pos) (by omega)
      obtain ⟨v, v1, v2, v3⟩ := vals_at r (i := par pos) (by omega)
      refine wpAny_bind (at_ u2 ?_)
      refine wpAny_bind (at_ v2 ?_)
      show wpAny _ X.A.in1 (_ >>= _) _ _ _
      refine wpAny_bind (wpAny_bind (wpAny_holding (wpAny_bind (less_ (x := nth ys pos) (y := nth ys (par pos)) (by show X.A.units + 1 + 61 < cLine; omega) (G.perm p) I (nth_mem (by omega)) (nth_mem (by omega)) u3 v3 (wpAny_truthy_bool ?_)))))
      refine wpAny_bind (wpAny_bind (wpAny_seqItems e rfl (wpAny_pure ?_)))
      show wpAny _ X.A.in1 (if (its.toArray.size != its.toArray.size) = true then _ else _) _ _ _
      rw [if_neg (by simp)]
      refine wpAny_pure ?_
      show wpAny _ X.A.in1 (if ltz (nth ys pos) (nth ys (par pos)) = true then _ else _) _ _ _
      by_cases h2 : ltz (nth ys pos) (nth ys (par pos)) = true
      · rw [if_pos h2]
        refine wpAny_bind (wpAny_bind (wpAny_bind (wpAny_seqItems e rfl (wpAny_pure ?_))))
        refine wpAny_bind (at_ v2 ?_)
        refine wpAny_bind (at_ u2 ?_)
        refine wpAny_updateSeq e rfl ?_ (by rw [List.size_toArray]; omega) (by simp only [Array.size_setIfInBounds, List.size_toArray]; omega)
        refine wpAny_pure ⟨plainId_quiet pl_sift _, ?_⟩
        have I2 := swap_inv (i := par pos) (j := pos) I r e z v3 u3
        have U2 := U.step swo_z hp h1 h2
        rw [← sw_nth (by omega) (by omega) (by omega)] at U2
        exact ih (par pos) (by omega) (par pos) _ _ (Nat.le_refl _) (by omega) ((sw_perm (by omega) (by omega)).trans p) U2 I2
      · rw [if_neg h2]
        exact stop _ (hend s ys p (U.stop (by
          cases q : ltz (nth ys pos) (nth ys (par pos)) with
          | false => rfl
          | true => exact absurd q h2)) I)
    · rw [if_neg h1]
      exact stop _ (hend s ys p (U.top h1) I)

theorem down_run (hu : X.A.units + 64 < cLine) {top : Nat} {after : Int} {res : Value} {R : Result → Shared → Prop} (hz : zs.length ≤ sizeLine) (G : Good X.K H a zs)
    (hend : ∀ s' ys, ys.Perm zs → From ltz zs.length (nth ys) top → Inv X pins σ (hp H a ys) s' → Nx X a after res R s') :
    ∀ (m pos : Nat) (ys : List Z) (s : Shared), zs.length - pos ≤ m → pos < zs.length → ys.Perm zs → Down ltz zs.length (nth ys) top pos → Inv X pins σ (hp H a ys) s →
      codeAny (model X.prog X.w) X.A (.builtin "_heapq.heapify.sift" ⟨[.ref a, .bool false, .bool true, rawInt pos, rawInt top, res, rawInt after], []⟩) R s := by
  intro m
  induction m using Nat.strongRecOn with
  | ind m ih =>
    intro pos ys s hm hp p D I
    obtain ⟨z, its, n, r, hl, e⟩ := I.lstM (l := a) (xs := ys.map (·.1)) upd_same
    rw [List.length_map] at hl z
    have lz := p.length_eq
    have sz : its.toArray.size = zs.length := by rw [List.size_toArray, ← hl, lz]
    refine codeAny_builtin en_sift ?_
    rw [Around.under_plainId pl_sift _]
    show wpAny _ X.A.in1 (_ >>= _) _ _ _
    refine wpAny_bind (wpAny_bind (wpAny_seqItems e rfl (wpAny_pure ?_)))
    show wpAny _ X.A.in1 (if pos < its.toArray.size / 2 then _ else _) _ _ _
    rw [sz]
    by_cases h1 : pos < zs.length / 2
    · rw [if_pos h1]
      obtain ⟨u, u1, u2, u3⟩ := vals_at r (i := pos) (by omega)
      obtain ⟨l, l1, l2, l3⟩ := vals_at r (i := 2 * pos + 1) (by omega)
      have nxt : ∀ c, (c = 2 * pos + 1 ∨ c = 2 * pos + 2) → c < zs.length → (∀ d, (d = 2 * pos + 1 ∨ d = 2 * pos + 2) → d < zs.length → ltz (nth ys d) (nth ys c) = false) → ∀ w, RelV (nth ys c).1 w →
          codeAny (model X.prog X.w) X.A (.builtin "_heapq.heapify.sift" ⟨[.ref a, .bool false, .bool true, rawInt c, rawInt top, res, rawInt after], []⟩) R { s with heap := s.heap.update a (Obj.mapSeq fun xs => (xs.setIfInBounds c u).setIfInBounds pos w) } := by
        intro c hc hl2 hmin w rw'
        have I2 := swap_inv (i := c) (j := pos) I r e z rw' u3
        have D2 := D.step swo_z hl2 hc hmin
        rw [← sw_nth (by omega) (by omega) (by omega)] at D2
        exact ih (zs.length - c) (by omega) c _ _ (Nat.le_refl _) hl2 ((sw_perm (by omega) (by omega)).trans p) D2 I2
      by_cases h2 : 2 * pos + 1 + 1 < zs.length
      · rw [if_pos (show 2 * (pos : Int).toNat + 1 + 1 < zs.length from h2)]
        obtain ⟨q, q1, q2, q3⟩ := vals_at r (i := 2 * pos + 1 + 1) (by omega)
        refine wpAny_bind (at_ l2 ?_)
        refine wpAny_bind (at_ q2 ?_)
        show wpAny _ X.A.in1 (_ >>= _) _ _ _
        refine wpAny_bind (wpAny_bind (wpAny_holding (wpAny_bind (less_ (x := nth ys (2 * pos + 1)) (y := nth ys (2 * pos + 1 + 1)) (by show X.A.units + 1 + 61 < cLine; omega) (G.perm p) I (nth_mem (by omega)) (nth_mem (by omega)) l3 q3 (wpAny_truthy_bool ?_)))))
        refine wpAny_bind (wpAny_bind (wpAny_seqItems e rfl (wpAny_pure ?_)))
        show wpAny _ X.A.in1 (if (its.toArray.size != zs.length) = true then _ else _) _ _ _
        rw [if_neg (by rw [sz]; simp)]
        refine wpAny_pure ?_
        show wpAny _ X.A.in1 (if (!ltz (nth ys (2 * pos + 1)) (nth ys (2 * pos + 1 + 1))) = true then _ else _) _ _ _
        by_cases h3 : ltz (nth ys (2 * pos + 1)) (nth ys (2 * pos + 1 + 1)) = true
        · rw [if_neg (by rw [h3]; decide)]
          refine wpAny_bind (wpAny_bind (wpAny_bind (wpAny_seqItems e rfl (wpAny_pure ?_))))
          refine wpAny_bind (at_ l2 ?_)
          refine wpAny_bind (at_ u2 ?_)
          refine wpAny_updateSeq e rfl ?_ (by rw [List.size_toArray]; omega) (by simp only [Array.size_setIfInBounds, List.size_toArray]; omega)
          refine wpAny_pure ⟨plainId_quiet pl_sift _, ?_⟩
          exact nxt _ (.inl rfl) (by omega) (fun d hd _ => by
                      rcases hd with e1 | e1
                      · subst e1; exact swo_z.refl _
                      · subst e1; exact swo_z.asym _ _ h3) l l3
        · have h3' : ltz (nth ys (2 * pos + 1)) (nth ys (2 * pos + 1 + 1)) = false := by
            cases q : ltz (nth ys (2 * pos + 1)) (nth ys (2 * pos + 1 + 1)) with
            | false => rfl
            | true => exact absurd q h3
          rw [if_pos (by rw [h3']; decide)]
          refine wpAny_bind (wpAny_bind (wpAny_bind (wpAny_seqItems e rfl (wpAny_pure ?_))))
          refine wpAny_bind (at_ q2 ?_)
          refine wpAny_bind (at_ u2 ?_)
          refine wpAny_updateSeq e rfl ?_ (by rw [List.size_toArray]; omega) (by simp only [Array.size_setIfInBounds, List.size_toArray]; omega)
          refine wpAny_pure ⟨plainId_quiet pl_sift _, ?_⟩
          exact nxt _ (.inr rfl) (by omega) (fun d hd _ => by
                      rcases hd with e1 | e1
                      · subst e1; exact h3'
                      · subst e1; exact swo_z.refl _) q q3
      · rw [if_neg (show ¬ 2 * (pos : Int).toNat + 1 + 1 < zs.length from h2)]
        refine wpAny_bind (wpAny_bind (wpAny_bind (wpAny_seqItems e rfl (wpAny_pure ?_))))
        refine wpAny_bind (at_ l2 ?_)
        refine wpAny_bind (at_ u2 ?_)
        refine wpAny_updateSeq e rfl ?_ (by rw [List.size_toArray]; omega) (by simp only [Array.size_setIfInBounds, List.size_toArray]; omega)
        refine wpAny_pure ⟨plainId_quiet pl_sift _, ?_⟩
        exact nxt _ (.inl rfl) (by omega) (fun d hd hd2 => by
                  rcases hd with e1 | e1
                  · subst e1; exact swo_z.refl _
                  · omega) l l3
    · rw [if_neg h1]
      refine wpAny_pure ⟨plainId_quiet pl_sift _, ?_⟩
      exact up_run hu hz G hend pos pos ys s (Nat.le_refl _) hp p (D.leaf h1) I
end
end HQ
set_option Elab.async false
set_option maxRecDepth 100000
set_option maxHeartbeats 4000000
namespace HQ
open PySem PySem.Spec PyProof.Rows L2 RS
section
variable {X : Cx} {pins : List (Addr × Obj)} {σ : L2.St} {H : Hp} {a : Addr} {zs : List Z} {s : Shared}

theorem heapify_run (hu : X.A.units + 64 < cLine) {res : Value} {R : Result → Shared → Prop} (hz : zs.length ≤ sizeLine) (G : Good X.K H a zs)
    (hend : ∀ s' ys, ys.Perm zs → From ltz zs.length (nth ys) 0 → Inv X pins σ (hp H a ys) s' → R (.ok (.ret res)) s') :
    ∀ (k : Nat) (ys : List Z) (s : Shared), k < zs.length → ys.Perm zs → Down ltz zs.length (nth ys) k k → Inv X pins σ (hp H a ys) s →
      codeAny (model X.prog X.w) X.A (.builtin "_heapq.heapify.sift" ⟨[.ref a, .bool false, .bool true, rawInt k, rawInt k, res, rawInt ((k : Int) - 1)], []⟩) R s := by
  intro k
  induction k with
  | zero =>
    intro ys s hk p D I
    refine down_run hu hz G (fun s' ys' p' F I' => ?_) _ 0 ys s (Nat.le_refl _) hk p D I
    unfold Nx
    rw [if_pos (by decide)]
    exact hend s' ys' p' F I'
  | succ k ih =>
    intro ys s hk p D I
    refine down_run hu hz G (fun s' ys' p' F I' => ?_) _ (k + 1) ys s (Nat.le_refl _) hk p D I
    unfold Nx
    rw [if_neg (by omega)]
    have e : (((k + 1 : Nat) : Int) - 1).toNat = k := by omega
    have e2 : (((k + 1 : Nat) : Int) - 1) - 1 = (k : Int) - 1 := by omega
    rw [e, e2]
    exact ih ys' s' (by omega) p' F.down I'
end
section
variable {X : Cx}
def rHeapify (K : PySem.W.Frag) : List V → Hp → VK → Prop := fun vs H Q => ∃ (a : Addr) (zs : List Z), vs = [.ref a] ∧ H a = some (.lst (zs.map (·.1))) ∧ Good K H a zs ∧ zs.length ≤ 2500 ∧
  ∀ ys : List Z, ys.Perm zs → From ltz ys.length (nth ys) 0 → Q .non (hp H a ys)
theorem hp_self {H : Hp} {a : Addr} {zs : List Z} (h : H a = some (.lst (zs.map (·.1)))) : hp H a zs = H := by
  funext b
  by_cases e : b = a
  · subst e
    exact upd_same.trans h.symm
  · exact upd_ne e
theorem call_heapify (hu : X.A.units + 64 < cLine) : CallR X (.builtin "_heapq.heapify") (rHeapify X.K) := by
  intro pins s σ H xs us Q I r ⟨a, zs, e, hH, G, hl, q⟩
  subst e
  obtain ⟨u, rfl, ru⟩ := r.one
  cases ru
  obtain ⟨z, its, n, r, hl2, e⟩ := I.lstM hH
  rw [List.length_map] at hl2 z
  refine kmk_tree ki_heapify pl_heapify en_heapify (ar_heapify _) ?_
  show wpAny _ X.A.in1 (_ >>= _) _ _ _
  refine wpAny_bind (wpAny_bind (wpAny_pure ?_))
  refine wpAny_bind (wpAny_bind (wpAny_isInstance (T := "list") ⟨_, e, rfl⟩ AutoSeq1.sub_list_list ?_))
  refine wpAny_pure (wpAny_pure ?_)
  show wpAny _ X.A.in1 (_ >>= _) _ _ _
  refine wpAny_bind (wpAny_bind (wpAny_seqItems e rfl (wpAny_pure ?_)))
  have sz : its.toArray.size = zs.length := by rw [List.size_toArray, ← hl2]
  show wpAny _ X.A.in1 (if its.toArray.size > 2500 then _ else _) _ _ _
  rw [sz, if_neg (by omega)]
  show wpAny _ X.A.in1 (if zs.length < 2 then _ else _) _ _ _
  have I0 : Inv X pins σ (hp H a zs) s := by rw [hp_self hH]; exact I
  by_cases h2 : zs.length < 2
  · rw [if_pos h2]
    refine wpAny_pure ?_
    exact ⟨.non, _, I0, rfl, q zs (List.Perm.refl _) (.few h2)⟩
  · rw [if_neg h2]
    refine wpAny_pure ⟨plainId_quiet pl_sift _, ?_⟩
    have e2 : ((zs.length / 2 : Nat) : Int) - 2 = ((zs.length / 2 - 1 : Nat) : Int) - 1 := by omega
    rw [e2]
    have F : From ltz zs.length (nth zs) (zs.length / 2 - 1 + 1) := by
      rw [show zs.length / 2 - 1 + 1 = zs.length / 2 by omega]
      exact .half
    exact heapify_run hu (by omega) G (fun s' ys p F' I' => ⟨.non, _, I', rfl, q ys p (by rw [p.length_eq]; exact F')⟩) (zs.length / 2 - 1) zs s (by omega) (List.Perm.refl _) F.down I0

def rPush (K : PySem.W.Frag) : List V → Hp → VK → Prop := fun vs H Q => ∃ (a : Addr) (zs : List Z) (z : Z), vs = [.ref a, z.1] ∧ H a = some (.lst (zs.map (·.1))) ∧ Good K H a (zs ++ [z]) ∧ zs.length < sizeLine ∧ From ltz zs.length (nth zs) 0 ∧
  ∀ ys : List Z, ys.Perm (zs ++ [z]) → From ltz ys.length (nth ys) 0 → Q .non (hp H a ys)
theorem nth_app {zs ws : List Z} {i : Nat} (h : i < zs.length) : nth (zs ++ ws) i = nth zs i := by
  unfold nth
  rw [List.getD_eq_getElem?_getD, List.getD_eq_getElem?_getD, List.getElem?_append_left h]
theorem call_push (hu : X.A.units + 64 < cLine) : CallR X (.builtin "_heapq.heappush") (rPush X.K) := by
  intro pins s σ H xs us Q I r ⟨a, zs, y, e, hH, G, hl, F, q⟩
  subst e
  obtain ⟨u, v, rfl, ru, rv⟩ := r.two
  cases ru
  obtain ⟨z, its, n, r, hl2, e⟩ := I.lstM hH
  rw [List.length_map] at hl2 z
  refine kmk_tree ki_push pl_push en_push (ar_push _ _) ?_
  show wpAny _ X.A.in1 (_ >>= _) _ _ _
  refine wpAny_bind (wpAny_bind (wpAny_pure ?_))
  refine wpAny_bind (wpAny_of_eq (show checkCount "heappush" 2 2 2 = pure () from rfl) ?_)
  refine wpAny_bind (wpAny_bind (wpAny_isInstance (T := "list") ⟨_, e, rfl⟩ AutoSeq1.sub_list_list ?_))
  refine wpAny_pure (wpAny_pure ?_)
  show wpAny _ X.A.in1 (_ >>= _) _ _ _
  refine wpAny_bind (wpAny_updateSeq e rfl ?_ (by rw [List.size_toArray]; omega) (by rw [Array.size_push, List.size_toArray]; omega))
  have I1 : Inv X pins σ (hp H a (zs ++ [y])) { s with heap := s.heap.update a (Obj.mapSeq fun x => x.push v) } := by
    have q := I.lset (l := a) (ys := (zs ++ [y]).map (·.1)) (its' := its ++ [v]) (f := fun x => x.push v) (t' := s.toks) hH e (by simp) (by rw [List.map_append]; exact r.append (.cons rv .nil)) (by rw [List.length_map, List.length_append, List.length_singleton]; omega)
    exact q
  obtain ⟨_, its2, n2, r2, hl3, e2⟩ := I1.lstM (l := a) (xs := (zs ++ [y]).map (·.1)) upd_same
  rw [List.length_map, List.length_append, List.length_singleton] at hl3
  refine wpAny_bind (wpAny_bind (wpAny_seqItems e2 rfl (wpAny_pure ?_)))
  refine wpAny_pure ⟨plainId_quiet pl_sift _, ?_⟩
  have e3 : its2.toArray.size - 1 = zs.length := by rw [List.size_toArray]; omega
  rw [e3]
  have ln : (zs ++ [y]).length = zs.length + 1 := by rw [List.length_append, List.length_singleton]
  have U : Up ltz (zs ++ [y]).length (nth (zs ++ [y])) 0 zs.length := by
    rw [ln]
    exact F.push fun i hi => nth_app hi
  refine up_run hu (by omega) G (fun s' ys p F' I' => ?_) zs.length zs.length (zs ++ [y]) _ (Nat.le_refl _) (by omega) (List.Perm.refl _) U I1
  unfold Nx
  rw [if_pos (by decide)]
  exact ⟨.non, _, I', rfl, q ys p (by rw [p.length_eq]; exact F')⟩

def rPopH (K : PySem.W.Frag) : List V → Hp → VK → Prop := fun vs H Q => ∃ (a : Addr) (zs : List Z), vs = [.ref a] ∧ H a = some (.lst (zs.map (·.1))) ∧ 0 < zs.length ∧ Good K H a zs ∧ From ltz zs.length (nth zs) 0 ∧
  ∀ (z : Z) (ys : List Z), zs.Perm (z :: ys) → From ltz ys.length (nth ys) 0 → (∀ y ∈ ys, ltz y z = false) → Q z.1 (hp H a ys)
theorem least_all {zs : List Z} {x : Z} {M : List Z} (e : zs = x :: M) (F : From ltz zs.length (nth zs) 0) : ∀ y ∈ zs, ltz y x = false := fun y hy => by
  obtain ⟨i, hi, ei⟩ := List.getElem_of_mem hy
  have q := F.least swo_z i hi
  rw [nth_eq hi, ei] at q
  rw [e] at q
  exact q
theorem snoc_z : ∀ {l : List Z}, 0 < l.length → ∃ M z, l = M ++ [z] := fun h => SrtO.snoc_of h
theorem call_popH (hu : X.A.units + 64 < cLine) : CallR X (.builtin "_heapq.heappop") (rPopH X.K) := by
  intro pins s σ H xs us Q I r ⟨a, zs, e, hH, h0, G, F, q⟩
  subst e
  obtain ⟨u, rfl, ru⟩ := r.one
  cases ru
  obtain ⟨z, its, n, r, hl2, e⟩ := I.lstM hH
  rw [List.length_map] at hl2 z
  obtain ⟨M, y, rfl⟩ := snoc_z h0
  refine kmk_tree ki_pop pl_pop en_pop (ar_pop _) ?_
  show wpAny _ X.A.in1 (_ >>= _) _ _ _
  refine wpAny_bind (wpAny_bind (wpAny_pure ?_))
  refine wpAny_bind (wpAny_bind (wpAny_isInstance (T := "list") ⟨_, e, rfl⟩ AutoSeq1.sub_list_list ?_))
  refine wpAny_pure (wpAny_pure ?_)
  show wpAny _ X.A.in1 (_ >>= _) _ _ _
  refine wpAny_bind (wpAny_bind (wpAny_seqItems e rfl (wpAny_pure ?_)))
  obtain ⟨iM, v, rfl⟩ := SrtO.snoc_of (l := its) (by omega)
  have rM : Vals (M.map (·.1)) iM := by
    have t := r.dropLast
    rw [List.map_append] at t
    simpa using t
  have lM : M.length = iM.length := by simpa using hl2
  have rv : RelV y.1 v := by
    obtain ⟨v', h1, h2⟩ := r.get (i := M.length) (x := y.1) (by simp)
    rw [lM] at h1
    simp at h1
    rw [h1]
    exact h2
  have hb : (iM ++ [v]).toArray.back? = some v := by simp
  rw [hb]
  have zM : (M ++ [y]).length = M.length + 1 := by rw [List.length_append, List.length_singleton]
  have I1 : Inv X pins σ (hp H a M) { s with heap := s.heap.update a (Obj.mapSeq fun x => x.pop) } :=
    I.lset (l := a) (ys := M.map (·.1)) (its' := iM) (f := fun x => x.pop) (t' := s.toks) hH e (by simp) rM (by rw [List.length_map]; omega)
  refine wpAny_bind (wpAny_updateSeq e rfl ?_ (by rw [List.size_toArray]; omega) (by rw [Array.size_pop, List.size_toArray]; omega))
  show wpAny _ X.A.in1 (if ((iM ++ [v]).toArray.size == 1) = true then _ else _) _ _ _
  have sz : (iM ++ [v]).toArray.size = M.length + 1 := by rw [List.size_toArray, ← hl2, zM]
  rw [sz]
  cases M with
  | nil =>
    rw [if_pos (by decide)]
    refine wpAny_pure ?_
    exact ⟨y.1, _, I1, rv, q y [] (List.Perm.refl _) (.few (by decide)) (fun _ h => nomatch h)⟩
  | cons x M =>
    rw [if_neg (by simp)]
    cases rM with
    | cons rx rM' =>
      rename_i u iM'
      have x0 : (u :: iM' ++ [v]).toArray[0]? = some u := rfl
      refine wpAny_bind (at_ (f := pure u) x0 ?_)
      obtain ⟨_, its2, n2, r2, hl3, e2⟩ := I1.lstM (l := a) (xs := (x :: M).map (·.1)) upd_same
      have I2 : Inv X pins σ (hp H a (y :: M)) { s with heap := (s.heap.update a (Obj.mapSeq fun x => x.pop)).update a (Obj.mapSeq fun xs => xs.setIfInBounds 0 v) } := by
        have t := I1.lset (l := a) (ys := (y :: M).map (fun p : Z => p.1)) (its' := its2.set 0 v) (f := fun xs => xs.setIfInBounds 0 v) (t' := s.toks) upd_same e2 (by simp) (show Vals ((y :: M).map (fun p : Z => p.1)) (its2.set 0 v) from r2.set rv 0) (by simp at *; omega)
        rw [upd_upd] at t
        exact t
      have ln : (y :: M).length = (x :: M).length := rfl
      refine wpAny_bind (wpAny_updateSeq e2 rfl ?_ (by rw [List.size_toArray]; simp at *; omega) (by rw [Array.size_setIfInBounds, List.size_toArray]; simp at *; omega))
      refine wpAny_pure ⟨plainId_quiet pl_sift _, ?_⟩
      have pe : (x :: M ++ [y]).Perm (x :: (y :: M)) := (List.perm_append_comm (l₁ := M) (l₂ := [y])).cons x
      have D : Down ltz (y :: M).length (nth (y :: M)) 0 0 := (F.less (m := (y :: M).length) (by simp)).root fun i h1 h2 => by
        cases i with
        | zero => omega
        | succ i => exact (nth_app (zs := x :: M) (ws := [y]) h2).symm
      have Gy : Good X.K H a (y :: M) := G.sub fun t ht => pe.mem_iff.mpr (List.mem_cons_of_mem _ ht)
      refine down_run hu (by simp at *; omega) Gy (fun s' ys p F' I' => ?_) _ 0 (y :: M) _ (Nat.le_refl _) (by simp) (List.Perm.refl _) D I2
      unfold Nx
      rw [if_pos (by decide)]
      exact ⟨x.1, _, I', rx, q x ys (pe.trans ((p.symm).cons x)) (by rw [p.length_eq]; exact F') fun t ht => least_all (zs := x :: M ++ [y]) rfl F t (pe.mem_iff.mpr (List.mem_cons_of_mem _ (p.mem_iff.mp ht)))⟩
end
end HQ
set_option Elab.async false
set_option maxRecDepth 100000
set_option maxHeartbeats 4000000
namespace RS
open PySem PySem.Spec PyProof.Rows L2 GX

/-! ### runs that come of exchanging -/
section
variable {α : Type} {lt : α → α → Bool}
inductive RunTo (lt : α → α → Bool) : List α → List α → List α → List α → List α → Prop
  | done (l : List α) : RunTo lt [] l [] [] l
  | last {g g' r w l : List α} {x : α} (p : g.Perm (x :: g')) (m : ∀ y ∈ g', lt y x = false) (t : RunTo lt g' [] r w l) : RunTo lt g [] (x :: r) w l
  | keep {g g' left r w l : List α} {x e : α} (p : g.Perm (x :: g')) (m : ∀ y ∈ g', lt y x = false) (h : lt e x = false) (t : RunTo lt (e :: g') left r w l) : RunTo lt g (e :: left) (x :: r) w l
  | wait {g g' left r w l : List α} {x e : α} (p : g.Perm (x :: g')) (m : ∀ y ∈ g', lt y x = false) (h : lt e x = true) (t : RunTo lt g' left r w l) : RunTo lt g (e :: left) (x :: r) (e :: w) l
theorem RunTo.perm {g left r w l : List α} (h : RunTo lt g left r w l) : (g ++ left).Perm (r ++ w ++ l) := by
  induction h with
  | done l => exact List.Perm.refl _
  | last p m t ih => exact (p.append_right _).trans (ih.cons _)
  | @keep g g' left r w l x e p m h t ih =>
    refine (p.append_right _).trans ?_
    refine List.Perm.trans ?_ (ih.cons x)
    exact (List.perm_middle (l₁ := g') (a := e) (l₂ := left)).cons x
  | @wait g g' left r w l x e p m h t ih =>
    refine (p.append_right _).trans ?_
    have q : (g' ++ e :: left).Perm (r ++ (e :: w) ++ l) := by
      refine (List.perm_middle (l₁ := g') (a := e) (l₂ := left)).trans ?_
      refine (ih.cons e).trans ?_
      rw [List.append_assoc, List.append_assoc]
      exact (List.perm_middle (l₁ := r) (a := e) (l₂ := w ++ l)).symm
    exact q.cons x
theorem RunTo.len {g left r w l : List α} (h : RunTo lt g left r w l) : l = [] ∨ w.length = g.length := by
  induction h with
  | done l => exact .inr rfl
  | last p m t ih =>
    rcases ih with e | e
    · exact .inl e
    · have h := t.perm.length_eq
      simp only [List.length_append, List.length_nil] at h
      refine .inl (List.length_eq_zero_iff.mp (by omega))
  | keep p m h t ih =>
    rcases ih with e | e
    · exact .inl e
    · right
      rw [e, p.length_eq, List.length_cons, List.length_cons]
  | wait p m h t ih =>
    rcases ih with e | e
    · exact .inl e
    · right
      rw [List.length_cons, e, p.length_eq, List.length_cons]
theorem RunTo.some {g left r w l : List α} (h : RunTo lt g left r w l) (hg : g ≠ []) : 1 ≤ r.length := by
  cases h with
  | done => exact absurd rfl hg
  | last => simp
  | keep => simp
  | wait => simp
theorem perm_head {S : α → Prop} (U : ∀ x y, S x → S y → lt x y = false → lt y x = false → x = y) {g g2 a b : List α} {x y : α} (e : g.Perm g2) (p : g.Perm (x :: a)) (q : g2.Perm (y :: b)) (mx : ∀ z ∈ a, lt z x = false) (my : ∀ z ∈ b, lt z y = false)
    (hS : ∀ z ∈ g, S z) : x = y ∧ a.Perm b := by
  have pq : (x :: a).Perm (y :: b) := p.symm.trans (e.trans q)
  have hx : S x := hS x (p.mem_iff.mpr List.mem_cons_self)
  have hy : S y := hS y (e.mem_iff.mpr (q.mem_iff.mpr List.mem_cons_self))
  have exy : x = y := by
    rcases List.mem_cons.mp (pq.mem_iff.mp (List.mem_cons_self (a := x) (l := a))) with z | z
    · exact z
    · rcases List.mem_cons.mp (pq.mem_iff.mpr (List.mem_cons_self (a := y) (l := b))) with v | v
      · exact v.symm
      · exact U x y hx hy (my x z) (mx y v)
  subst exy
  exact ⟨rfl, List.Perm.cons_inv pq⟩
theorem RunTo.det {S : α → Prop} (U : ∀ x y, S x → S y → lt x y = false → lt y x = false → x = y) {g left r w l : List α} (h : RunTo lt g left r w l) :
    ∀ {g2 r2 w2 l2 : List α}, g.Perm g2 → (∀ z ∈ g, S z) → (∀ z ∈ left, S z) → RunTo lt g2 left r2 w2 l2 → r = r2 ∧ w = w2 ∧ l = l2 := by
  induction h with
  | done l =>
    intro g2 r2 w2 l2 e _ _ h2
    have e2 := e.symm.eq_nil
    subst e2
    cases h2 with
    | done => exact ⟨rfl, rfl, rfl⟩
    | last p => exact absurd p.length_eq (by simp)
    | keep p => exact absurd p.length_eq (by simp)
    | wait p => exact absurd p.length_eq (by simp)
  | last p m t ih =>
    intro g2 r2 w2 l2 e s1 s2 h2
    cases h2 with
    | done => exact absurd (e.symm.trans p).length_eq (by simp)
    | last p2 m2 t2 =>
      obtain ⟨rfl, pa⟩ := perm_head U e p p2 m m2 s1
      obtain ⟨rfl, rfl, rfl⟩ := ih pa (fun z hz => s1 z (p.mem_iff.mpr (List.mem_cons_of_mem _ hz))) s2 t2
      exact ⟨rfl, rfl, rfl⟩
  | keep p m h t ih =>
    intro g2 r2 w2 l2 e s1 s2 h2
    cases h2 with
    | done => exact absurd (e.symm.trans p).length_eq (by simp)
    | keep p2 m2 h2 t2 =>
      obtain ⟨rfl, pa⟩ := perm_head U e p p2 m m2 s1
      obtain ⟨rfl, rfl, rfl⟩ := ih (pa.cons _) (fun z hz => by
        rcases List.mem_cons.mp hz with e | hz
        · rw [e]; exact s2 _ List.mem_cons_self
        · exact s1 z (p.mem_iff.mpr (List.mem_cons_of_mem _ hz))) (fun z hz => s2 z (List.mem_cons_of_mem _ hz)) t2
      exact ⟨rfl, rfl, rfl⟩
    | wait p2 m2 h2 t2 =>
      obtain ⟨rfl, pa⟩ := perm_head U e p p2 m m2 s1
      rw [h] at h2
      cases h2
  | wait p m h t ih =>
    intro g2 r2 w2 l2 e s1 s2 h2
    cases h2 with
    | done => exact absurd (e.symm.trans p).length_eq (by simp)
    | keep p2 m2 h2 t2 =>
      obtain ⟨rfl, pa⟩ := perm_head U e p p2 m m2 s1
      rw [h] at h2
      cases h2
    | wait p2 m2 h2 t2 =>
      obtain ⟨rfl, pa⟩ := perm_head U e p p2 m m2 s1
      obtain ⟨rfl, rfl, rfl⟩ := ih pa (fun z hz => s1 z (p.mem_iff.mpr (List.mem_cons_of_mem _ hz))) (fun z hz => s2 z (List.mem_cons_of_mem _ hz)) t2
      exact ⟨rfl, rfl, rfl⟩
inductive RunsTo (lt : α → α → Bool) : List α → List α → List (List α) → Prop
  | done (left : List α) : RunsTo lt [] left []
  | more {room left r w l : List α} {rs : List (List α)} (hr : room ≠ []) (t : RunTo lt room left r w l) (m : RunsTo lt w l rs) : RunsTo lt room left (r :: rs)
theorem RunsTo.det {S : α → Prop} (U : ∀ x y, S x → S y → lt x y = false → lt y x = false → x = y) {g left : List α} {rs : List (List α)} (h : RunsTo lt g left rs) :
    ∀ {rs2 : List (List α)}, (∀ z ∈ g, S z) → (∀ z ∈ left, S z) → RunsTo lt g left rs2 → rs = rs2 := by
  induction h with
  | done left =>
    intro rs2 _ _ h2
    cases h2 with
    | done => rfl
    | more hr => exact absurd rfl hr
  | @more room left r w l rs hr t m ih =>
    intro rs2 s1 s2 h2
    cases h2 with
    | done => exact absurd rfl hr
    | more hr2 t2 m2 =>
      obtain ⟨rfl, rfl, rfl⟩ := t.det U (List.Perm.refl _) s1 s2 t2
      have all : ∀ z ∈ r ++ w ++ l, S z := fun z hz => by
        rcases List.mem_append.mp (t.perm.mem_iff.mpr hz) with q | q
        · exact s1 z q
        · exact s2 z q
      rw [ih (fun z hz => all z (by simp [hz])) (fun z hz => all z (by simp [hz])) m2]
end

/-! ### which pair goes ahead -/
def before (os : List (Nat × Bool)) (a b : Nat × List PyData) : Bool := HT.lexLt (rankOf os a) (rankOf os b)
theorem swo_before (os : List (Nat × Bool)) : SrtO.Swo (before os) := NtL.swo_lexL (rankOf os)
end RS
set_option Elab.async false
set_option maxRecDepth 100000
set_option maxHeartbeats 4000000
namespace RS
open PySem PySem.Spec PyProof.Rows L2 GX
/-! ### data without lists -/
mutual
def noL : PyData → Bool
  | .list _ => false
  | .dict _ => false
  | .tuple ds => noLs ds
  | _ => true
def noLs : List PyData → Bool
  | [] => true
  | d :: ds => noL d && noLs ds
end
theorem noLs_iff : ∀ {ds : List PyData}, noLs ds = true ↔ ∀ d ∈ ds, noL d = true
  | [] => by simp [noLs]
  | d :: ds => by
    unfold noLs
    rw [Bool.and_eq_true, noLs_iff]
    simp
theorem sqT_upd {K : PySem.W.Frag} {H : Hp} {a b : Addr} {xs u ys : List V} (hH : H a = some (.lst xs)) (h : SqT K H b ys) : SqT K (upd H a (.lst u)) b ys := by
  rcases h with (h | ⟨o, h⟩) | h
  · refine .inl (.inl ?_)
    rw [upd_ne (fun z => by rw [z, hH] at h; cases h)]
    exact h
  · refine .inl (.inr ⟨o, ?_⟩)
    rw [upd_ne (fun z => by rw [z, hH] at h; cases h)]
    exact h
  · exact .inr h
mutual
theorem dp_upd {K : PySem.W.Frag} {H : Hp} {a : Addr} {xs u : List V} (hH : H a = some (.lst xs)) : ∀ (d : PyData) {v : V}, noL d = true → Dp K H v d → Dp K (upd H a (.lst u)) v d
  | .none, _, _, .non => .non
  | .bool b, _, _, .bl _ => .bl b
  | .int i, _, _, .int _ => .int i
  | .str x, _, _, .str _ => .str x
  | .list ds, _, h, _ => by cases h
  | .tuple ds, _, h, .tup q hs => .tup (sqT_upd hH q) (dpAll_upd hH ds h hs)
  | .dict _, _, h, _ => by cases h
theorem dpAll_upd {K : PySem.W.Frag} {H : Hp} {a : Addr} {xs u : List V} (hH : H a = some (.lst xs)) : ∀ (ds : List PyData) {vs : List V}, noLs ds = true → DpAll K H vs ds → DpAll K (upd H a (.lst u)) vs ds
  | [], _, _, .nil => .nil
  | d :: ds, _, h, .cons q hs => by
    unfold noLs at h
    rw [Bool.and_eq_true] at h
    exact .cons (dp_upd hH d h.1 q) (dpAll_upd hH ds h.2 hs)
end
/-- a list is changed that is none of those ahead -/
theorem dp_upd' {K : PySem.W.Frag} {H H' : Hp} {a : Addr} {xs u : List V} (s : Same H H') (hn : H a = none) {d : PyData} {v : V} (q : Dp K H v d) : Dp K (upd H' a (.lst u)) v d :=
  dp_same (fun b o e => by rw [upd_ne (ne_of_none e hn)]; exact s b o e) d q

theorem depth0 : ∀ {ds : List PyData}, (∀ d ∈ ds, d.depth = 0) → PyData.depthAll ds = 0
  | [], _ => by simp [PyData.depthAll]
  | d :: ds, h => by
    simp only [PyData.depthAll]
    rw [h d List.mem_cons_self, depth0 fun e he => h e (List.mem_cons_of_mem _ he)]
    rfl
theorem upd_no {H : Hp} {a b : Addr} {o : HO} (e : upd H a o b = none) : H b = none := by
  by_cases z : b = a
  · rw [z, upd_same] at e
    cases e
  · rw [upd_ne z] at e
    exact e
theorem cond_by {tc : TT} {σ : L2.St} {H : Hp} {Q : Bool → Hp → Prop} (b : Bool) (N : Hp → Prop) (h1 : ∀ Q' : Bool → Hp → Prop, (∀ H2, N H2 → Q' b H2) → tc σ H Q') (h2 : ∀ H2, N H2 → Q b H2) : tc σ H Q := h1 Q h2
theorem iteT' {b : Bool} {A B : Prop} (e : b = true) (h : A) : if b = true then A else B := by
  rw [if_pos e]
  exact h
theorem iteF' {b : Bool} {A B : Prop} (e : b = false) (h : B) : if b = true then A else B := by
  rw [if_neg (by rw [e]; decide)]
  exact h
end RS
set_option Elab.async false
set_option maxRecDepth 100000
set_option maxHeartbeats 4000000
namespace RS
open PySem PySem.Spec PyProof.Rows L2 GX

/-! ### ranks as data -/
def intsD (l : List Int) : PyData := .tuple (l.map .int)
theorem toks_ints : ∀ xs ys : List Int, PyProof.Rows.lexLt PyProof.Rows.itemOrd (PySem.W.keyToksAll (xs.map .int)) (PySem.W.keyToksAll (ys.map .int)) = HT.lexLt xs ys
  | [], [] => by decide
  | [], y :: ys => by
    rw [HT.lexLt_nil_cons]
    exact PyProof.Rows.lex_true.mpr (.inl (by decide))
  | x :: xs, [] => by
    rw [HT.lexLt_cons_nil]
    exact PyProof.Rows.lex_false.mpr ⟨by decide, .inl (by decide)⟩
  | x :: xs, y :: ys => by
    have ih := toks_ints xs ys
    rw [HT.lexLt_cons]
    show PyProof.Rows.lexLt PyProof.Rows.itemOrd (Sum.inl 1 :: Sum.inl x :: PySem.W.keyToksAll (xs.map .int)) (Sum.inl 1 :: Sum.inl y :: PySem.W.keyToksAll (ys.map .int)) = _
    rw [PyProof.Rows.lex_cons, PyProof.Rows.lex_cons]
    show ((decide ((1 : Int) < 1)) || (!(decide ((1 : Int) < 1)) && (decide (x < y) || (!(decide (y < x)) && _)))) = _
    rw [ih]
    by_cases e : x = y
    · subst e
      rw [if_pos rfl]
      simp
    · rw [if_neg e]
      by_cases h : x < y
      · simp [h]
      · have h2 : y < x := by omega
        simp [h, h2]
theorem lt_ints (xs ys : List Int) : PySem.W.dataLt (intsD xs) (intsD ys) = HT.lexLt xs ys := (PySem.W.dataLt_tuple _ _).trans (toks_ints xs ys)
theorem alike_ints : ∀ xs ys : List Int, PySem.W.alikeAll (xs.map .int) (ys.map .int) = true
  | [], _ => by simp [PySem.W.alikeAll]
  | _ :: _, [] => by simp [PySem.W.alikeAll]
  | x :: xs, y :: ys => by simp [PySem.W.alikeAll, PySem.W.alike, alike_ints xs ys]
theorem noL_ints (xs : List Int) : noLs (xs.map .int) = true := noLs_iff.mpr fun d hd => by
  obtain ⟨n, _, rfl⟩ := List.mem_map.mp hd
  rfl
/-- what stands in the heap: the rank and the pair -/
def itemD (os : List (Nat × Bool)) (q : Nat × List PyData) : PyData := .tuple [intsD (rankOf os q), pairD q]
theorem item_le {os : List (Nat × Bool)} {a b : Nat × List PyData} (h : PySem.W.dataLt (itemD os a) (itemD os b) = false) : before os a b = false := by
  have al : PySem.W.alike (intsD (rankOf os a)) (intsD (rankOf os b)) = true := by
    simp [intsD, PySem.W.alike, alike_ints]
  cases e : PyData.eqv (intsD (rankOf os a)) (intsD (rankOf os b)) with
  | true =>
    have t := (PySem.W.toks_eqv _ _ al).1 e
    have q : PySem.W.dataLt (intsD (rankOf os a)) (intsD (rankOf os b)) = false := by
      unfold PySem.W.dataLt
      rw [t]
      exact (PyProof.Rows.listOrd PyProof.Rows.itemOrd).irrefl _
    rw [lt_ints] at q
    exact q
  | false =>
    have t := PySem.W.dataLt_all_no (xs := [pairD a]) (ys := [pairD b]) al e
    rw [lt_ints] at t
    exact t.symm.trans ((PySem.W.dataLt_tuple _ _).symm.trans h)
/-! ### rows that may be compared -/
theorem val_atom {b : Bool} {d : PyData} (h : isVal b d = true) : (b = true ∧ ∃ x, d = .str x) ∨ (b = false ∧ ∃ n, d = .int n) := by
  cases b with
  | true =>
    cases d with
    | str x => exact .inl ⟨rfl, x, rfl⟩
    | _ => simp [isVal, isWord] at h
  | false =>
    cases d with
    | int n => exact .inr ⟨rfl, n, rfl⟩
    | _ => simp [isVal, isNum, isI, isT, tyN] at h
theorem row_alike : ∀ {ks : List Bool} {r r' : List PyData}, (ks.zip r).all (fun p => isVal p.1 p.2) = true → (ks.zip r').all (fun p => isVal p.1 p.2) = true → r.length = ks.length → r'.length = ks.length → PySem.W.alikeAll r r' = true
  | _, [], _, _, _, _, _ => by simp [PySem.W.alikeAll]
  | _, _ :: _, [], _, _, _, _ => by simp [PySem.W.alikeAll]
  | [], _ :: _, _ :: _, _, _, h, _ => by simp at h
  | k :: ks, d :: r, d' :: r', h, h', l, l' => by
    rw [List.zip_cons_cons, List.all_cons, Bool.and_eq_true] at h h'
    have ih := row_alike h.2 h'.2 (by simpa using l) (by simpa using l')
    have q : PySem.W.alike d d' = true := by
      rcases val_atom h.1 with ⟨e, x, rfl⟩ | ⟨e, n, rfl⟩
      · rcases val_atom h'.1 with ⟨_, y, rfl⟩ | ⟨e', _⟩
        · simp [PySem.W.alike]
        · simp only at e e'; rw [e] at e'; cases e'
      · rcases val_atom h'.1 with ⟨e', _⟩ | ⟨_, m, rfl⟩
        · simp only at e e'; rw [e] at e'; cases e'
        · simp [PySem.W.alike]
    simp [PySem.W.alikeAll, q, ih]
theorem isRow_iff {ks : List Bool} {r : List PyData} : isRow ks (.tuple r) = true ↔ r.length = ks.length ∧ (ks.zip r).all (fun p => isVal p.1 p.2) = true := by
  show (decide (r.length = ks.length) && (ks.zip r).all fun p => isVal p.1 p.2) = true ↔ _
  rw [Bool.and_eq_true]
  simp
theorem row_val {ks : List Bool} {r : List PyData} (h : isRow ks (.tuple r) = true) {d : PyData} (hd : d ∈ r) : ∃ b, isVal b d = true := by
  obtain ⟨hl, ha⟩ := isRow_iff.mp h
  obtain ⟨i, hi, rfl⟩ := List.getElem_of_mem hd
  have hi2 : i < ks.length := by omega
  refine ⟨ks[i], List.all_eq_true.mp ha (ks[i], r[i]) ?_⟩
  rw [List.mem_iff_getElem]
  exact ⟨i, by rw [List.length_zip]; omega, by simp⟩
theorem item_alike {ks : List Bool} {os : List (Nat × Bool)} {a b : Nat × List PyData} (ha : isRow ks (.tuple a.2) = true) (hb : isRow ks (.tuple b.2) = true) : PySem.W.alike (itemD os a) (itemD os b) = true := by
  obtain ⟨l1, h1⟩ := isRow_iff.mp ha
  obtain ⟨l2, h2⟩ := isRow_iff.mp hb
  have q := row_alike h1 h2 l1 l2
  simp [itemD, intsD, pairD, PySem.W.alike, PySem.W.alikeAll, alike_ints, q]
theorem pair_noL {ks : List Bool} {a : Nat × List PyData} (ha : isRow ks (.tuple a.2) = true) : noL (pairD a) = true := by
  have q : noLs a.2 = true := noLs_iff.mpr fun d hd => by
    obtain ⟨b, hv⟩ := row_val ha hd
    rcases val_atom hv with ⟨_, x, rfl⟩ | ⟨_, n, rfl⟩ <;> rfl
  simp [pairD, noL, noLs, q]
theorem item_noL {ks : List Bool} {os : List (Nat × Bool)} {a : Nat × List PyData} (ha : isRow ks (.tuple a.2) = true) : noL (itemD os a) = true := by
  have q := pair_noL ha
  simp [itemD, intsD, noL, noLs, q, noL_ints]
theorem item_depth {ks : List Bool} {os : List (Nat × Bool)} {a : Nat × List PyData} (ha : isRow ks (.tuple a.2) = true) : (itemD os a).depth ≤ 60 := by
  have q : PyData.depthAll a.2 = 0 := depth0 fun d hd => by
    obtain ⟨b, hv⟩ := row_val ha hd
    rcases val_atom hv with ⟨_, x, rfl⟩ | ⟨_, n, rfl⟩ <;> simp [PyData.depth]
  have q2 : PyData.depthAll ((rankOf os a).map .int) = 0 := depth0 fun d hd => by
    obtain ⟨n, _, rfl⟩ := List.mem_map.mp hd
    simp [PyData.depth]
  simp [itemD, intsD, pairD, PyData.depth, PyData.depthAll, q, q2]
end RS
set_option Elab.async false
set_option maxRecDepth 100000
set_option maxHeartbeats 4000000
namespace RS
open PySem PySem.Spec PyProof.Rows L2 GX
section
variable {X : Cx}
/-- a, b, c = x, y, z with plain local names -/
def tPar3 (i j l : Nat) (ta : TA) : TS := fun D σ H => ta σ H fun vs H1 => ∃ v w z, vs = [v, w, z] ∧ D.nx (((σ.set i (some v)).set j (some w)).set l (some z)) H1
theorem ps_par3 {i j l : Nat} {x y z : Str} {a b c : Expr} {ta : TA} {px py pz pt pos : Pos} {kt k2 pt2} (hc : X.calm = true) (hN : X.N.Nodup) (hi : X.N[i]? = some x) (hj : X.N[j]? = some y) (hl : X.N[l]? = some z) (hij : i ≠ j) (hil : i ≠ l) (hjl : j ≠ l)
    (hx : X.env.scope.names.lookup x = some .local) (hy : X.env.scope.names.lookup y = some .local) (hz : X.env.scope.names.lookup z = some .local) (ha : PA X [a, b, c] ta)
    (hw : swappedStores [.Tuple [.Name x px, .Name y py, .Name z pz] kt pt] (.Tuple [a, b, c] k2 pt2) X.env = pure (some [x, y, z]))
    (hs : swapsWithSole [.Tuple [.Name x px, .Name y py, .Name z pz] kt pt] (.Tuple [a, b, c] k2 pt2) pos.line X.env = pure false := by rfl) :
    PS X (.Assign [.Tuple [.Name x px, .Name y py, .Name z pz] kt pt] (.Tuple [a, b, c] k2 pt2) pos) (tPar3 i j l ta) := by
  refine ⟨fun pins s σ H D I h => ?_⟩
  rw [exec_Assign_arm]
  refine wpAny_bind (wpAny_standAt ?_)
  rw [hs]
  refine wpAny_bind (wpAny_pure ?_)
  rw [if_neg (by decide)]
  refine wpAny_bind (Tuple_ (thn (ha.run _ pins s σ H _ I h) fun us s1 ⟨vs, H1, I1, r1, q1⟩ => ?_))
  obtain ⟨v, w, q, e1, q1⟩ := q1
  subst e1
  obtain ⟨u1, u2, u3, rfl, rv, rw', rq⟩ : ∃ u1 u2 u3, us = [u1, u2, u3] ∧ RelV v u1 ∧ RelV w u2 ∧ RelV q u3 := by
    cases r1 with
    | cons p q =>
      cases q with
      | cons p' q' =>
        cases q' with
        | cons p2 q2 =>
          cases q2
          exact ⟨_, _, _, rfl, p, p', p2⟩
  refine wpAny_newObj_type ?_ (by show 3 ≤ sizeLine; decide)
  have I2 : Inv X pins σ H1 { s1 with heap := s1.heap.push { cls := .type "tuple", data := .seq [u1, u2, u3].toArray } } := I1.kept (t' := s1.toks) fun b o e => Heap.get?_push_of_some _ e
  rw [hw]
  refine wpAny_bind (wpAny_pure ?_)
  show wpAny (model X.prog X.w) X.A (do rule "assign.swapped-stores"; let items ← unpackItems (.ref s1.heap.objs.size) 3 none; assignInOrder [fun v => bindName X.env z v, fun v => bindName X.env y v, fun v => bindName X.env x v] items.reverse; pure Flow.next) _ _ _
  refine wpAny_bind (wpAny_rule (wpAny_bind (unpackItems_tuple (items := #[u1, u2, u3]) (I.ok.hd hc) (IsTup.new s1.heap _) fun h' hx' => ?_)))
  have I3 := I2.kept (h' := h') (t' := s1.toks) fun b o e => hx' b o (Nat.ne_of_lt (Heap.lt_size e)) e
  show wpAny _ _ (assignInOrder [fun v => bindName X.env z v, fun v => bindName X.env y v, fun v => bindName X.env x v] [u3, u2, u1] >>= fun _ => pure Flow.next) _ _ _
  refine wpAny_bind (assignInOrder_cons (wpAny_bindName (store_ok I3 hN hl (.inl hz) rq (fun s2 I4 => ?_) (.inr hz))))
  refine assignInOrder_cons (wpAny_bindName (store_ok I4 hN hj (.inl hy) rw' (fun s3 I5 => ?_) (.inr hy)))
  refine assignInOrder_cons (wpAny_bindName (store_ok I5 hN hi (.inl hx) rv (fun s4 I6 => assignInOrder_nil (wpAny_pure ?_)) (.inr hx)))
  rw [List.set_comm _ _ (Ne.symm hij), List.set_comm _ _ (Ne.symm hil), List.set_comm _ _ (Ne.symm hjl)] at I6
  exact ⟨_, H1, I6, q1⟩
end
end RS
set_option Elab.async false
set_option maxRecDepth 100000
set_option maxHeartbeats 4000000
namespace RS
open PySem PySem.Spec PyProof.Rows L2 GX HQ

/-- what the module took of heapq -/
structure TxtQ (mg : Str → Option Value) : Prop where
  heapify : mg "heapify" = some (.builtin "_heapq.heapify")
  push : mg "heappush" = some (.builtin "_heapq.heappush")
  pop : mg "heappop" = some (.builtin "_heapq.heappop")
theorem perm_unmap {α β : Type} {f : α → β} {x m : List β} (p : x.Perm m) : ∀ l : List α, l.map f = x → ∃ l', l.Perm l' ∧ l'.map f = m := by
  induction p with
  | nil => exact fun l e => ⟨l, .refl _, e⟩
  | cons a p ih =>
    intro l e
    cases l with
    | nil => cases e
    | cons b l =>
      rw [List.map_cons] at e
      injection e with e1 e2
      obtain ⟨l', p', e'⟩ := ih l e2
      exact ⟨b :: l', p'.cons b, by rw [List.map_cons, e1, e']⟩
  | swap a b l0 =>
    intro l e
    cases l with
    | nil => cases e
    | cons c l =>
      cases l with
      | nil => cases e
      | cons d l =>
        rw [List.map_cons, List.map_cons] at e
        injection e with e1 e2
        injection e2 with e2 e3
        exact ⟨d :: c :: l, .swap d c l, by rw [List.map_cons, List.map_cons, e1, e2, e3]⟩
  | trans p q ih1 ih2 =>
    intro l e
    obtain ⟨l1, p1, e1⟩ := ih1 l e
    obtain ⟨l2, p2, e2⟩ := ih2 l1 e1
    exact ⟨l2, p1.trans p2, e2⟩
theorem dpAll_ints {K : PySem.W.Frag} {H : Hp} : ∀ {ns : List Int} {xs : List V}, DpAll K H xs (ns.map .int) → xs = ns.map V.int
  | [], _, .nil => rfl
  | n :: ns, _, .cons h t => by
    cases h
    rw [dpAll_ints t]
    rfl
theorem dp_ints {K : PySem.W.Frag} {H : Hp} {v : V} {ns : List Int} (h : Dp K H v (intsD ns)) : ∃ a, v = .ref a ∧ SqT K H a (ns.map V.int) := by
  cases h with
  | tup q hs => exact ⟨_, rfl, by rw [← dpAll_ints hs]; exact q⟩
theorem ints_dp {K : PySem.W.Frag} {H : Hp} {ns : List Int} {a : Addr} (h : SqT K H a (ns.map V.int)) : Dp K H (.ref a) (intsD ns) := by
  refine .tup h ?_
  clear h
  induction ns with
  | nil => exact .nil
  | cons n ns ih => exact .cons (.int n) ih

theorem pairs_noL {ks : List Bool} {l : List (Nat × List PyData)} (h : ∀ q ∈ l, isRow ks (.tuple q.2) = true) : noLs (l.map pairD) = true := noLs_iff.mpr fun d hd => by
  obtain ⟨q, hq, rfl⟩ := List.mem_map.mp hd
  exact pair_noL (h q hq)
def RowsOk (os : List (Nat × Bool)) (ks : List Bool) (l : List (Nat × List PyData)) : Prop := ∀ q ∈ l, Fits os q.2 ∧ isRow ks (.tuple q.2) = true
theorem RunTo.permL {α : Type} {lt : α → α → Bool} {g g2 left r w l : List α} (e : g2.Perm g) (h : RunTo lt g left r w l) : RunTo lt g2 left r w l := by
  cases h with
  | done =>
    have z := e.eq_nil
    subst z
    exact .done _
  | last p m t => exact .last (e.trans p) m t
  | keep p m h t => exact .keep (e.trans p) m h t
  | wait p m h t => exact .wait (e.trans p) m h t
theorem cutV_from {xs : List V} {k : Nat} (h : k ≤ xs.length) : cutV xs (some (k : Nat)) none = xs.drop k := by
  unfold cutV
  rw [HT.sIx_nat, HT.sIx_none, Nat.min_eq_left h, List.take_of_length_le]
  rw [List.length_drop]
  exact Nat.le_refl _
theorem dpAll_drop {K : PySem.W.Frag} {H : Hp} : ∀ {xs : List V} {ds : List PyData}, DpAll K H xs ds → ∀ k : Nat, DpAll K H (xs.drop k) (ds.drop k)
  | _, _, h, 0 => h
  | _, _, .nil, _ + 1 => .nil
  | _, _, .cons _ t, k + 1 => dpAll_drop t k
theorem dpAll_take {K : PySem.W.Frag} {H : Hp} : ∀ {xs : List V} {ds : List PyData}, DpAll K H xs ds → ∀ k : Nat, DpAll K H (xs.take k) (ds.take k)
  | _, _, _, 0 => .nil
  | _, _, .nil, _ + 1 => .nil
  | _, _, .cons h t, k + 1 => .cons h (dpAll_take t k)
theorem zmem {α : Type} {f : α → PyData} {zs : List Z} {l : List α} (e : zs.map (·.2) = l.map f) {z : Z} (hz : z ∈ zs) : ∃ q ∈ l, z.2 = f q := by
  have : z.2 ∈ l.map f := by
    rw [← e]
    exact List.mem_map.mpr ⟨z, hz, rfl⟩
  obtain ⟨q, hq, e⟩ := List.mem_map.mp this
  exact ⟨q, hq, e.symm⟩
theorem good_of {K : PySem.W.Frag} {ks : List Bool} {os : List (Nat × Bool)} {H' : Hp} {G : Addr} {zs : List Z} {xs : List V} {l : List (Nat × List PyData)} (hG : H' G = some (.lst xs)) (e : zs.map (·.2) = l.map (itemD os)) (h : ∀ z ∈ zs, Dp K H' z.1 z.2) (ok : ∀ q ∈ l, isRow ks (.tuple q.2) = true) : Good K H' G zs := by
  refine ⟨fun z hz u => ?_, fun z hz => ?_, fun z hz => ?_, fun z hz y hy => ?_⟩
  · obtain ⟨q', hq', e⟩ := zmem e hz
    refine dp_upd hG _ ?_ (h z hz)
    rw [e]
    exact item_noL (ok q' hq')
  · obtain ⟨q', hq', e⟩ := zmem e hz
    rw [e]
    exact fun q => nomatch q
  · obtain ⟨q', hq', e⟩ := zmem e hz
    rw [e]
    exact item_depth (ok q' hq')
  · obtain ⟨q', hq', e1⟩ := zmem e hz
    obtain ⟨q2, hq2, e2⟩ := zmem e hy
    rw [e1, e2]
    exact .inl (item_alike (ok q' hq') (ok q2 hq2))

/-! ### a target that is an attribute -/
def gFld (K : PySem.W.Frag) (to : TE) (f : Str) : TG := fun v σ H Q => to σ H fun x H2 => ∃ a C dx fs, x = .ref a ∧ H2 a = some (.ins C dx fs) ∧ Cls K C ∧ NoAttr K C f ∧ fs.length < 1000 ∧ Q σ (upd H2 a (.ins C dx (putF f v fs)))
theorem pg_fld {X : Cx} {o : Expr} {f : Str} {pos : Pos} {to : TE} (ho : PE X o to) : PG X (.Attribute o f pos) (gFld X.K to f) := by
  refine ⟨fun pins s σ H v u Q I r h => ?_⟩
  rw [arm_assign_Attribute]
  refine wpAny_bind (wpAny_holding (thn (ho.run pins s σ H _ I h) fun ov s1 ⟨x, H1, I1, r1, a, C, dx, fs, ex, ea, c, n, l, q⟩ => ?_))
  subst ex
  obtain rfl : ov = Value.ref a := r1
  refine wpAny_bind (wpAny_standAt (wpAny_bind (wpAny_holding (setattr_ok I1 ea c n l r fun s2 I2 => ?_))))
  exact wpAny_release ⟨σ, _, I2, q⟩
/-! ### methods as constants of a class -/
structure MetC (P : Program) (w : World) (K : PySem.W.Frag) (mg : Str → Option Value) (base : Heap) (CX : CXT) (k : Nat) (C : Addr) (m : Str) (ps : List Str) (sp : Sp) : Prop where
  ex : ∃ (f : Addr) (fd : FuncData), Cls K C ∧ Meth K C m f ∧ FnOk P w K mg base CX k f fd ps sp ∧ Binds K fd ps []
structure MakC (P : Program) (w : World) (K : PySem.W.Frag) (mg : Str → Option Value) (base : Heap) (CX : CXT) (k : Nat) (x : Str) (C : Addr) (ps : List Str) (sp : Sp) : Prop where
  ex : ∃ (f : Addr) (fd : FuncData), Mk K C f ∧ FnOk P w K mg base CX k f fd ps sp ∧ mg x = some (.ref C) ∧ Binds K fd ps []
section
variable {X : Cx} {CX : CXT} {k j : Nat} {C : Addr} {ps : List Str} {sp : Sp} {E : XK} {x m : Str} {p pos apos : Pos} {e o : Expr} {es : List Expr} {ta : TE} {t : TA}
theorem pe_m {pl : Sem Bool} (c : MetC X.prog X.w X.K X.mg X.base CX k C m ps sp) (hr : Room j X.A) (hk : k ≤ j) (hx : Passes CX X E) (he : PE X o ta) (ha : PA X (e :: es) t)
    (hst : starEach (e :: es) X.env = (false, eval e X.env) :: starEach es X.env := by rfl) (hpl : (backTo pos (starEach es X.env)).any (·.1) = false := by rfl)
    (ht : eval (.Call (.Attribute o m apos) (e :: es) [] pos) X.env = (do
      let ov ← eval o X.env
      standAt apos.atName
      let (f, first) ← holding [ov] (getMethod ov m pl)
      callWith pos f first (backTo pos (starEach (e :: es) X.env)) (backToKw pos (keywordEach [] X.env))) := by rfl) :
    PE X (.Call (.Attribute o m apos) (e :: es) [] pos) (tMeth C m sp [] E ta t) := by
  obtain ⟨f, fd, cl, hm, F, hb⟩ := c.ex
  exact pe_meth he cl hm F (hr.mono hk) hb .nil hx ha hst hpl ht
theorem pe_m0 {pl : Sem Bool} (c : MetC X.prog X.w X.K X.mg X.base CX k C m ps sp) (hr : Room j X.A) (hk : k ≤ j) (hx : Passes CX X E) (he : PE X o ta)
    (ht : eval (.Call (.Attribute o m apos) [] [] pos) X.env = (do
      let ov ← eval o X.env
      standAt apos.atName
      let (f, first) ← holding [ov] (getMethod ov m pl)
      callWith pos f first (backTo pos (starEach [] X.env)) (backToKw pos (keywordEach [] X.env))) := by rfl) :
    PE X (.Call (.Attribute o m apos) [] [] pos) (tMeth C m sp [] E ta tNil) := by
  obtain ⟨f, fd, cl, hm, F, hb⟩ := c.ex
  exact pe_meth0 he cl hm F (hr.mono hk) hb .nil hx ht
theorem pe_mk (c : MakC X.prog X.w X.K X.mg X.base CX k x C ps sp) (hr : Room j X.A) (hk : k + 1 ≤ j) (hg : Gl X x) (hx : Passes CX X E) (ha : PA X (e :: es) t) (hdb : (x == ("__debug__" : Str)) = false := by decide)
    (he : starEach (e :: es) X.env = (false, eval e X.env) :: starEach es X.env := by rfl) (hpl : (backTo pos (starEach es X.env)).any (·.1) = false := by rfl) :
    PE X (.Call (.Name x p) (e :: es) [] pos) (tMake C sp [] E t) := by
  obtain ⟨f, fd, M, F, hm, hb⟩ := c.ex
  exact pe_make M F (hr.mono hk) hg hm hb .nil hx ha hdb he hpl
theorem pe_mk0 (c : MakC X.prog X.w X.K X.mg X.base CX k x C ps sp) (hr : Room j X.A) (hk : k + 1 ≤ j) (hg : Gl X x) (hx : Passes CX X E) (hdb : (x == ("__debug__" : Str)) = false := by decide) :
    PE X (.Call (.Name x p) [] [] pos) (tMake C sp [] E tNil) := by
  obtain ⟨f, fd, M, F, hm, hb⟩ := c.ex
  exact pe_make0 M F (hr.mono hk) hg hm hb .nil hx hdb
end
/-! ### attributes in a list -/
theorem putF_eq {f : Str} {v w : V} {r : List (Str × V)} : putF f v ((f, w) :: r) = (f, v) :: r := if_pos rfl
theorem putF_ne {f g : Str} {v w : V} {r : List (Str × V)} (h : ¬ g = f) : putF f v ((g, w) :: r) = (g, w) :: putF f v r := if_neg h
theorem lk_eq {f : Str} {v : V} {r : List (Str × V)} : ((f, v) :: r).lookup f = some v := by simp [List.lookup]
theorem lk_ne {f g : Str} {v : V} {r : List (Str × V)} (h : ¬ f = g) : ((g, v) :: r).lookup f = r.lookup f := by
  have e : (f == g) = false := beq_eq_false_iff_ne.mpr h
  simp [List.lookup, e]
/-! ### all but lists and instances stays -/
def KpS (H H' : Hp) : Prop := ∀ b o, H b = some o → (∀ xs, o ≠ .lst xs) → (∀ C dx fs, o ≠ .ins C dx fs) → H' b = some o
theorem KpS.of {H H' : Hp} (s : Same H H') : KpS H H' := fun b o e _ _ => s b o e
theorem KpS.trans {H H1 H2 : Hp} (a : KpS H H1) (b : KpS H1 H2) : KpS H H2 := fun c o e n1 n2 => b c o (a c o e n1 n2) n1 n2
theorem KpS.lst {H : Hp} {a : Addr} {xs u : List V} (h : H a = some (.lst xs)) : KpS H (upd H a (.lst u)) := fun b o e n _ => by
  rw [upd_ne (fun z => by rw [z, h] at e; exact n _ (Option.some.inj e).symm)]
  exact e
theorem KpS.ins {H : Hp} {a C dx : Addr} {fs : List (Str × V)} {o' : HO} (h : H a = some (.ins C dx fs)) : KpS H (upd H a o') := fun b o e _ n => by
  rw [upd_ne (fun z => by rw [z, h] at e; exact n _ _ _ (Option.some.inj e).symm)]
  exact e
theorem sqT_kp {K : PySem.W.Frag} {H H' : Hp} {a : Addr} {xs : List V} (k : KpS H H') (h : SqT K H a xs) : SqT K H' a xs := by
  rcases h with (h | ⟨o, h⟩) | h
  · exact .inl (.inl (k _ _ h (fun _ z => by cases z) (fun _ _ _ z => by cases z)))
  · exact .inl (.inr ⟨o, k _ _ h (fun _ z => by cases z) (fun _ _ _ z => by cases z)⟩)
  · exact .inr h
mutual
theorem dp_kp {K : PySem.W.Frag} {H H' : Hp} (k : KpS H H') : ∀ (d : PyData) {v : V}, noL d = true → Dp K H v d → Dp K H' v d
  | .none, _, _, .non => .non
  | .bool b, _, _, .bl _ => .bl b
  | .int i, _, _, .int _ => .int i
  | .str x, _, _, .str _ => .str x
  | .list ds, _, h, _ => by cases h
  | .tuple ds, _, h, .tup q hs => .tup (sqT_kp k q) (dpAll_kp k ds h hs)
  | .dict _, _, h, _ => by cases h
theorem dpAll_kp {K : PySem.W.Frag} {H H' : Hp} (k : KpS H H') : ∀ (ds : List PyData) {vs : List V}, noLs ds = true → DpAll K H vs ds → DpAll K H' vs ds
  | [], _, _, .nil => .nil
  | d :: ds, _, h, .cons q hs => by
    unfold noLs at h
    rw [Bool.and_eq_true] at h
    exact .cons (dp_kp k d h.1 q) (dpAll_kp k ds h.2 hs)
end
end RS
set_option Elab.async false
set_option maxRecDepth 100000
set_option maxHeartbeats 4000000
namespace RS
open PySem PySem.Spec PyProof.Rows L2 GX HQ
abbrev Pr := Nat × List PyData
/-! ### the room of an Exchange as it lies in the heap -/
def fldsX (vo : V) (G W : Addr) (vl : V) : List (Str × V) := [("order", vo), ("going", .ref G), ("waiting", .ref W), ("last", vl)]
theorem xog : ¬ (("order" : Str) = "going") := by decide +kernel
theorem xow : ¬ (("order" : Str) = "waiting") := by decide +kernel
theorem xol : ¬ (("order" : Str) = "last") := by decide +kernel
theorem xgo : ¬ (("going" : Str) = "order") := by decide +kernel
theorem xgw : ¬ (("going" : Str) = "waiting") := by decide +kernel
theorem xgl : ¬ (("going" : Str) = "last") := by decide +kernel
theorem xwo : ¬ (("waiting" : Str) = "order") := by decide +kernel
theorem xwg : ¬ (("waiting" : Str) = "going") := by decide +kernel
theorem xwl : ¬ (("waiting" : Str) = "last") := by decide +kernel
theorem xlo : ¬ (("last" : Str) = "order") := by decide +kernel
theorem xlg : ¬ (("last" : Str) = "going") := by decide +kernel
theorem xlw : ¬ (("last" : Str) = "waiting") := by decide +kernel
section
variable {vo vl v : V} {G W G' : Addr}
theorem fx_order : (fldsX vo G W vl).lookup ("order" : Str) = some vo := lk_eq
theorem fx_going : (fldsX vo G W vl).lookup ("going" : Str) = some (.ref G) := (lk_ne xgo).trans lk_eq
theorem fx_waiting : (fldsX vo G W vl).lookup ("waiting" : Str) = some (.ref W) := (lk_ne xwo).trans ((lk_ne xwg).trans lk_eq)
theorem fx_last : (fldsX vo G W vl).lookup ("last" : Str) = some vl := (lk_ne xlo).trans ((lk_ne xlg).trans ((lk_ne xlw).trans lk_eq))
theorem fp_going : putF "going" (.ref G') (fldsX vo G W vl) = fldsX vo G' W vl := by
  unfold fldsX
  rw [putF_ne xog, putF_eq]
theorem fp_waiting : putF "waiting" (.ref G') (fldsX vo G W vl) = fldsX vo G G' vl := by
  unfold fldsX
  rw [putF_ne xow, putF_ne xgw, putF_eq]
theorem fp_last : putF "last" v (fldsX vo G W vl) = fldsX vo G W v := by
  unfold fldsX
  rw [putF_ne xol, putF_ne xgl, putF_ne xwl, putF_eq]
end
theorem lenF1 {f : Str} {v : V} {fs : List (Str × V)} {n : Nat} (h : fs.length ≤ n) : (putF f v fs).length ≤ n + 1 := Nat.le_trans (length_putF f v fs) (Nat.succ_le_succ h)
theorem lenF {f : Str} {v : V} {fs : List (Str × V)} {n : Nat} (h : fs.length ≤ n) (hn : n + 1 < 1000) : (putF f v fs).length < 1000 := Nat.lt_of_le_of_lt (lenF1 h) hn
/-- a list of items -/
structure LstI (K : PySem.W.Frag) (os : List (Nat × Bool)) (H : Hp) (G : Addr) (zs : List Z) (gq : List Pr) : Prop where
  g : H G = some (.lst (zs.map (·.1)))
  gd : zs.map (·.2) = gq.map (itemD os)
  zd : ∀ z ∈ zs, Dp K H z.1 z.2
def LastV (K : PySem.W.Frag) (os : List (Nat × Bool)) (H : Hp) (vl : V) (lq : Option Pr) : Prop := (vl = .non ∧ lq = none) ∨ ∃ l a, lq = some l ∧ vl = .ref a ∧ SqT K H a ((rankOf os l).map V.int)
structure ExAt (K : PySem.W.Frag) (C : Addr) (ks : List Bool) (os : List (Nat × Bool)) (H0 H : Hp) (x G W : Addr) (gq ww : List Pr) (lq : Option Pr) : Prop where
  same : Same H0 H
  x0 : H0 x = none
  g0 : H0 G = none
  w0 : H0 W = none
  gw : G ≠ W
  oz : os.length ≤ 1000
  ob : ∃ dx vo vl, H x = some (.ins C dx (fldsX vo G W vl)) ∧ Dp K H0 vo (orderD os) ∧ LastV K os H vl lq
  g : ∃ zs : List Z, LstI K os H G zs gq ∧ From ltz zs.length (nth zs) 0
  w : ∃ zs : List Z, LstI K os H W zs ww
  gok : RowsOk os ks gq
  wok : RowsOk os ks ww
/-- all but x, G and W stays -/
def Frx (H H' : Hp) (x G W : Addr) : Prop := ∀ b o, H b = some o → b ≠ x → b ≠ G → b ≠ W → H' b = some o
section
variable {K : PySem.W.Frag} {C : Addr} {ks : List Bool} {os : List (Nat × Bool)} {H0 H H2 : Hp} {x G W : Addr} {zs : List Z} {gq ww : List Pr} {lq : Option Pr} {vl : V}
theorem Frx.refl : Frx H H x G W := fun _ _ e _ _ _ => e
theorem Frx.trans {H1 : Hp} (a : Frx H H1 x G W) (b : Frx H1 H2 x G W) : Frx H H2 x G W := fun c o e n1 n2 n3 => b c o (a c o e n1 n2 n3) n1 n2 n3
theorem Frx.of (s : Same H H2) : Frx H H2 x G W := fun c o e _ _ _ => s c o e
theorem Frx.updG {o : HO} : Frx H (upd H G o) x G W := fun c o e _ n _ => (upd_ne n).trans e
theorem Frx.updW {o : HO} : Frx H (upd H W o) x G W := fun c o e _ _ n => (upd_ne n).trans e
theorem Frx.updx {o : HO} : Frx H (upd H x o) x G W := fun c o e n _ _ => (upd_ne n).trans e
theorem LstI.len (h : LstI K os H G zs gq) : zs.length = gq.length := by
  have := congrArg List.length h.gd
  simpa using this
theorem LstI.zq (h : LstI K os H G zs gq) {z : Z} (hz : z ∈ zs) : ∃ q ∈ gq, z.2 = itemD os q := zmem h.gd hz
theorem LstI.move (h : LstI K os H G zs gq) (ok : RowsOk os ks gq) (k : KpS H H2) (e : H2 G = some (.lst (zs.map (·.1)))) : LstI K os H2 G zs gq := ⟨e, h.gd, fun z hz => by
  obtain ⟨q, hq, e'⟩ := h.zq hz
  exact dp_kp k _ (by rw [e']; exact item_noL (ok q hq).2) (h.zd z hz)⟩
theorem LstI.good (h : LstI K os H G zs gq) (ok : RowsOk os ks gq) : HQ.Good K H G zs := good_of h.g h.gd h.zd fun q hq => (ok q hq).2
theorem LstI.put (h : LstI K os H G zs gq) {u : V} {q : Pr} (hu : Dp K H u (itemD os q)) (ok : RowsOk os ks gq) (hq : isRow ks (.tuple q.2) = true) : LstI K os (upd H G (.lst ((zs ++ [(u, itemD os q)]).map (·.1)))) G (zs ++ [(u, itemD os q)]) (gq ++ [q]) := by
  refine ⟨upd_same, by rw [List.map_append, h.gd, List.map_append]; rfl, fun z hz => ?_⟩
  rcases List.mem_append.mp hz with hz | hz
  · obtain ⟨q', hq', e⟩ := h.zq hz
    exact dp_upd h.g _ (by rw [e]; exact item_noL (ok q' hq').2) (h.zd z hz)
  · rw [List.mem_singleton.mp hz]
    exact dp_upd h.g _ (item_noL hq) hu
theorem LastV.move (h : LastV K os H vl lq) (k : KpS H H2) : LastV K os H2 vl lq := by
  rcases h with h | ⟨l, a, e1, e2, h⟩
  · exact .inl h
  · exact .inr ⟨l, a, e1, e2, sqT_kp k h⟩
theorem ExAt.kp (h : ExAt K C ks os H0 H x G W gq ww lq) (f : Frx H H2 x G W) : KpS H H2 := fun b o e n1 n2 => by
  obtain ⟨dx, vo, vl, hx, _⟩ := h.ob
  obtain ⟨zs, hg, _⟩ := h.g
  obtain ⟨zw, hw⟩ := h.w
  exact f b o e (fun z => by rw [z, hx] at e; exact n2 _ _ _ (Option.some.inj e).symm) (fun z => by rw [z, hg.g] at e; exact n1 _ (Option.some.inj e).symm) (fun z => by rw [z, hw.g] at e; exact n1 _ (Option.some.inj e).symm)
theorem ExAt.same2 (h : ExAt K C ks os H0 H x G W gq ww lq) (f : Frx H H2 x G W) : Same H0 H2 := fun b o e => f b o (h.same b o e) (ne_of_none e h.x0) (ne_of_none e h.g0) (ne_of_none e h.w0)
/-- other things come or change -/
theorem ExAt.grow (h : ExAt K C ks os H0 H x G W gq ww lq) (s : Same H H2) : ExAt K C ks os H0 H2 x G W gq ww lq := by
  obtain ⟨dx, vo, vl, hx, ho, hl⟩ := h.ob
  obtain ⟨zs, hg, F⟩ := h.g
  obtain ⟨zw, hw⟩ := h.w
  exact ⟨h.same.trans s, h.x0, h.g0, h.w0, h.gw, h.oz, ⟨dx, vo, vl, s _ _ hx, ho, hl.move (.of s)⟩, ⟨zs, hg.move h.gok (.of s) (s _ _ hg.g), F⟩, ⟨zw, hw.move h.wok (.of s) (s _ _ hw.g)⟩, h.gok, h.wok⟩
theorem ExAt.nex (h : ExAt K C ks os H0 H x G W gq ww lq) {a : Addr} {xs : List V} (e : H a = some (.lst xs)) : a ≠ x := fun z => by
  obtain ⟨dx, vo, vl, hx, _⟩ := h.ob
  rw [z, hx] at e
  cases e
theorem ExAt.upd_ (h : ExAt K C ks os H0 H x G W gq ww lq) {a : Addr} {xs u : List V} (e : H a = some (.lst xs)) (h0 : H0 a = none) (nG : a ≠ G) (nW : a ≠ W) : ExAt K C ks os H0 (upd H a (.lst u)) x G W gq ww lq := by
  obtain ⟨dx, vo, vl, hx, ho, hl⟩ := h.ob
  obtain ⟨zs, hg, F⟩ := h.g
  obtain ⟨zw, hw⟩ := h.w
  have k : KpS H (upd H a (.lst u)) := .lst e
  exact ⟨fun b o q => (upd_ne (ne_of_none q h0)).trans (h.same b o q), h.x0, h.g0, h.w0, h.gw, h.oz, ⟨dx, vo, vl, (upd_ne (Ne.symm (h.nex e))).trans hx, ho, hl.move k⟩, ⟨zs, hg.move h.gok k ((upd_ne (Ne.symm nG)).trans hg.g), F⟩, ⟨zw, hw.move h.wok k ((upd_ne (Ne.symm nW)).trans hw.g)⟩, h.gok, h.wok⟩
/-- a new one -/
theorem ExAt.new {dx : Addr} {vo : V} (s : Same H0 H) (x0 : H0 x = none) (g0 : H0 G = none) (w0 : H0 W = none) (gw : G ≠ W) (oz : os.length ≤ 1000) (ho : Dp K H0 vo (orderD os)) (hx : H x = some (.ins C dx (fldsX vo G W .non))) (hg : H G = some (.lst [])) (hw : H W = some (.lst [])) :
    ExAt K C ks os H0 H x G W [] [] none :=
  ⟨s, x0, g0, w0, gw, oz, ⟨dx, vo, .non, hx, ho, .inl ⟨rfl, rfl⟩⟩, ⟨[], ⟨hg, rfl, fun _ h => nomatch h⟩, .few (by decide)⟩, ⟨[], hw, rfl, fun _ h => nomatch h⟩, (fun _ h => nomatch h), (fun _ h => nomatch h)⟩
end
/-! ### the promises -/
def spXInit (C : Addr) : Sp := fun vs H Q _ => ∃ (x dx : Addr) (vo : V), vs = [.ref x, vo] ∧ H x = some (.ins C dx []) ∧
  ∀ (H' : Hp) (G W : Addr), H G = none → H W = none → G ≠ W → H' x = some (.ins C dx (fldsX vo G W .non)) → H' G = some (.lst []) → H' W = some (.lst []) → (∀ b o, H b = some o → b ≠ x → H' b = some o) → Q .non H'
def Into (lt : Pr → Pr → Bool) (lq : Option Pr) (q : Pr) (gq ww gq' ww' : List Pr) : Prop :=
  (∃ l, lq = some l ∧ lt q l = true ∧ gq' = gq ∧ ww' = ww ++ [q]) ∨ ((∀ l, lq = some l → lt q l = false) ∧ gq'.Perm (q :: gq) ∧ ww' = ww)
def spLetIn (K : PySem.W.Frag) (C : Addr) : Sp := fun vs H Q _ => ∃ (x G W : Addr) (vt : V) (ks : List Bool) (os : List (Nat × Bool)) (H0 : Hp) (gq ww : List Pr) (lq : Option Pr) (q : Pr), vs = [.ref x, vt] ∧ ExAt K C ks os H0 H x G W gq ww lq ∧ Dp K H vt (pairD q) ∧ Fits os q.2 ∧ isRow ks (.tuple q.2) = true ∧ gq.length + ww.length ≤ 900 ∧
  ∀ (H' : Hp) (gq' ww' : List Pr), ExAt K C ks os H0 H' x G W gq' ww' lq → Into (before os) lq q gq ww gq' ww' → Frx H H' x G W → Q .non H'
def spLetOut (K : PySem.W.Frag) (C : Addr) : Sp := fun vs H Q _ => ∃ (x G W : Addr) (ks : List Bool) (os : List (Nat × Bool)) (H0 : Hp) (gq ww : List Pr) (lq : Option Pr), vs = [.ref x] ∧ ExAt K C ks os H0 H x G W gq ww lq ∧ gq ≠ [] ∧
  ∀ (H' : Hp) (v : V) (q : Pr) (gq' : List Pr), ExAt K C ks os H0 H' x G W gq' ww (some q) → gq.Perm (q :: gq') → (∀ y ∈ gq', before os y q = false) → Dp K H' v (pairD q) → Frx H H' x G W → Q v H'
def spIsOver (K : PySem.W.Frag) (C : Addr) : Sp := fun vs H Q _ => ∃ (x G W : Addr) (ks : List Bool) (os : List (Nat × Bool)) (H0 : Hp) (gq ww : List Pr) (lq : Option Pr), vs = [.ref x] ∧ ExAt K C ks os H0 H x G W gq ww lq ∧ Q (.bl gq.isEmpty) H
def spHolds (K : PySem.W.Frag) (C : Addr) : Sp := fun vs H Q _ => ∃ (x G W : Addr) (ks : List Bool) (os : List (Nat × Bool)) (H0 : Hp) (gq ww : List Pr) (lq : Option Pr), vs = [.ref x] ∧ ExAt K C ks os H0 H x G W gq ww lq ∧ Q (.int ((gq.length + ww.length : Nat) : Int)) H
def spNext (K : PySem.W.Frag) (C : Addr) : Sp := fun vs H Q _ => ∃ (x G W : Addr) (ks : List Bool) (os : List (Nat × Bool)) (H0 : Hp) (gq ww : List Pr) (lq : Option Pr), vs = [.ref x] ∧ ExAt K C ks os H0 H x G W gq ww lq ∧ ww.length ≤ 1000 ∧
  ∀ (H' : Hp) (W' : Addr) (gq' : List Pr), ExAt K C ks os H0 H' x W W' gq' [] none → gq'.Perm ww → H W' = none → Frx H H' x G W → Q .non H'
/-- the class as the top has made it -/
structure TxX (K : PySem.W.Frag) (C : Addr) : Prop where
  cl : Cls K C
  nO : NoAttr K C "order"
  nG : NoAttr K C "going"
  nW : NoAttr K C "waiting"
  nL : NoAttr K C "last"
/-- a method as it stands -/
structure MethAt (K : PySem.W.Frag) (C : Addr) (m qual : Str) (st : Stmt) (f : Addr) (fd : FuncData) : Prop where
  me : Meth K C m f
  fn : L2.Fun K m qual st f fd
theorem dpAll_take' {K : PySem.W.Frag} {H : Hp} {xs : List V} {ds : List (Nat × List PyData)} (h : DpAll K H xs (ds.map pairD)) (n : Nat) : DpAll K H (xs.take n) ((ds.take n).map pairD) := by
  rw [List.map_take]
  exact dpAll_take h n
theorem dpAll_drop' {K : PySem.W.Frag} {H : Hp} {xs : List V} {ds : List (Nat × List PyData)} (h : DpAll K H xs (ds.map pairD)) (n : Nat) : DpAll K H (xs.drop n) ((ds.drop n).map pairD) := by
  rw [List.map_drop]
  exact dpAll_drop h n
theorem row_fits {ks : List Bool} {os : List (Nat × Bool)} {r : List PyData} (h : isRow ks (.tuple r) = true) (o : OkOrder ks.length os) : Fits os r := fun p hp => by
  obtain ⟨hl, ha⟩ := isRow_iff.mp h
  have h1 := o.col p hp
  have h2 : p.1 < r.length := by omega
  obtain ⟨b, hv⟩ := row_val h (List.getElem_mem h2)
  exact ⟨b, _, List.getElem?_eq_getElem h2, hv⟩
theorem enumP_mem {α : Type} {l : List α} {k : Nat} {q : Nat × α} (h : q ∈ enumP k l) : q.2 ∈ l := by
  obtain ⟨i, hi, e⟩ := List.getElem_of_mem h
  have e2 : (enumP k l)[i]? = some q := by rw [List.getElem?_eq_getElem hi, e]
  rw [enumP_get] at e2
  cases q' : l[i]? with
  | none => rw [q'] at e2; cases e2
  | some x =>
    rw [q'] at e2
    cases e2
    exact List.mem_of_getElem? q'
end RS
set_option Elab.async false
set_option maxRecDepth 100000
set_option maxHeartbeats 4000000
namespace LM
open PySem PySem.Spec PyProof.Rows L2
/-! ### known objects that stay: the maker's cells while a call runs -/
def Pin (o : Obj) : HO := .frz o (.own 0)
/-- the addresses of a frame's cells -/
def Cell (cl : List (Str × Addr)) (b : Addr) : Prop := ∃ y, cl.lookup y = some b
open Classical in
/-- the abstract heap without the cells -/
noncomputable def off (cl : List (Str × Addr)) (H : Hp) : Hp := fun b => if Cell cl b then none else H b
open Classical in
/-- H' with the cells of H -/
noncomputable def back (cl : List (Str × Addr)) (H H' : Hp) : Hp := fun b => if Cell cl b then H b else H' b
theorem off_c {cl : List (Str × Addr)} {H : Hp} {b : Addr} (h : Cell cl b) : off cl H b = none := if_pos h
theorem off_n {cl : List (Str × Addr)} {H : Hp} {b : Addr} (h : ¬ Cell cl b) : off cl H b = H b := if_neg h
theorem back_c {cl : List (Str × Addr)} {H H' : Hp} {b : Addr} (h : Cell cl b) : back cl H H' b = H b := if_pos h
theorem back_n {cl : List (Str × Addr)} {H H' : Hp} {b : Addr} (h : ¬ Cell cl b) : back cl H H' b = H' b := if_neg h
/-- all cells are known in H -/
def Held (cl : List (Str × Addr)) (H : Hp) : Prop := ∀ b, Cell cl b → ∃ o, H b = some (Pin o)
/-- no cell is told of in H -/
def Loose (cl : List (Str × Addr)) (H : Hp) : Prop := ∀ b, Cell cl b → H b = none
theorem loose_off {cl : List (Str × Addr)} {H : Hp} : Loose cl (off cl H) := fun _ h => off_c h
theorem pin_own {o : Obj} {a : Addr} : Pin o ≠ .own a := fun z => nomatch z
theorem pin_tbl {o : Obj} {ps : Array Value} : Pin o ≠ .tbl ps := fun z => nomatch z
theorem pin_tup {o : Obj} {xs : List V} : Pin o ≠ .tup xs := fun z => nomatch z
section
variable {P : Program} {w : World} {K : PySem.W.Frag} {mg : Str → Option Value} {base : Heap} {A : Around} {outer : List Env} {s s' : Shared} {H H' G : Hp} {cl : List (Str × Addr)} {h h' : Heap} {fs : List Addr}
theorem pin_at (x : HOk P w H h) {b : Addr} {o : Obj} (e : H b = some (Pin o)) : h.get? b = some o := (x b _ e).1
theorem held_off (hd : Held cl H) (b : Addr) (u : HO) (hu : ∀ o, u ≠ Pin o) (e : H b = some u) : off cl H b = some u := by
  by_cases c : Cell cl b
  · obtain ⟨o, z⟩ := hd b c
    rw [z] at e
    exact absurd (Option.some.inj e).symm (hu o)
  · rw [off_n c]
    exact e
theorem hok_off (hd : Held cl H) (x : HOk P w H h) : HOk P w (off cl H) h := fun b u e => by
  by_cases c : Cell cl b
  · rw [off_c c] at e
    cases e
  · rw [off_n c] at e
    exact (x b u e).stay (fun _ _ _ q => q) (fun d q => held_off hd d _ (fun o z => pin_own z.symm) q) fun d xs q => held_off hd d _ (fun o z => pin_tup z.symm) q
/-- the state at a call, its cells let go -/
theorem env_off (hd : Held cl H) (e : Env0 P w K mg base A outer s H) : Env0 P w K mg base A outer s (off cl H) := by
  refine ⟨e.frames, e.mod, fun b o q => ⟨(e.bs b o q).1, ?_⟩, e.bsz, e.funs, fun b q => ?_, hok_off hd e.hok, e.bare⟩
  · by_cases c : Cell cl b
    · exact off_c c
    · rw [off_n c]
      exact (e.bs b o q).2
  · by_cases c : Cell cl b
    · exact off_c c
    · rw [off_n c]
      exact e.frf b q
/-- what a run did ahead of which the cells were let go: with them -/
theorem un_back (hd : Held cl H) (hk : HOk P w H h) (nf : ∀ b, Cell cl b → b ∉ fs) (u : Un fs [] (off cl H) H' h h') : Un fs [] H (back cl H H') h h' := by
  have nc : ∀ b, H b = none → ¬ Cell cl b := fun b n c => by
    obtain ⟨o, z⟩ := hd b c
    rw [n] at z
    cases z
  refine ⟨fun b o q n hb hx => u.keep b o q (by rw [off_n (nc b n)]; exact n) hb hx, fun b o q n hb hx => u.slot b o q (by rw [off_n (nc b n)]; exact n) hb hx, fun b o q n hx => ?_, u.there, fun b xs q => ?_, fun b o v q => ?_, fun b ps q => ?_⟩
  · rw [back_n (nc b n)]
    exact u.free b o q (by rw [off_n (nc b n)]; exact n) hx
  · have c : ¬ Cell cl b := fun c => by
      obtain ⟨o, z⟩ := hd b c
      rw [q] at z
      cases z
    rw [back_n c]
    exact u.tups b xs (by rw [off_n c]; exact q)
  · by_cases c : Cell cl b
    · rw [back_c c]
      exact q
    · rw [back_n c]
      exact u.frzs b o v (by rw [off_n c]; exact q)
  · have c : ¬ Cell cl b := fun c => by
      obtain ⟨o, z⟩ := hd b c
      rw [q] at z
      cases z
    rw [back_n c]
    exact u.tbls b ps (by rw [off_n c]; exact q)
theorem loose_un (hk : HOk P w H h) (hd : Held cl H) (u : Un fs [] (off cl H) H' h h') : Loose cl H' := fun b c => by
  obtain ⟨o, z⟩ := hd b c
  exact u.free b o (pin_at hk z) (off_c c) (by simp)
theorem hok_back (hd : Held cl H) (hk : HOk P w H h) (nf : ∀ b, Cell cl b → b ∉ fs) (u : Un fs [] (off cl H) H' h h') (x : HOk P w H' h') : HOk P w (back cl H H') h' := fun b v e => by
  have lo := loose_un hk hd u
  by_cases c : Cell cl b
  · rw [back_c c] at e
    obtain ⟨o, z⟩ := hd b c
    rw [z] at e
    cases e
    have := u.keep b o (pin_at hk z) (off_c c) (nf b c) (by simp)
    exact ⟨this, ⟨o, this⟩⟩
  · rw [back_n c] at e
    have st : ∀ d v, H' d = some v → back cl H H' d = some v := fun d v q => by
      have : ¬ Cell cl d := fun z => by
        rw [lo d z] at q
        cases q
      rw [back_n this]
      exact q
    exact (x b v e).stay (fun _ _ _ q => q) (fun d q => st d _ q) fun d xs q => st d _ q
/-- G is H with the cells known -/
structure Up (cl : List (Str × Addr)) (H G : Hp) (h : Heap) : Prop where
  lo : Loose cl H
  same : ∀ b, ¬ Cell cl b → G b = H b
  held : ∀ b, Cell cl b → ∃ o, h.get? b = some o ∧ G b = some (Pin o)
theorem Up.hd (p : Up cl H G h) : Held cl G := fun b c => by
  obtain ⟨o, _, z⟩ := p.held b c
  exact ⟨o, z⟩
theorem up_some (p : Up cl H G h) {b : Addr} {u : HO} (e : H b = some u) : G b = some u := by
  have : ¬ Cell cl b := fun c => by
    rw [p.lo b c] at e
    cases e
  rw [p.same b this]
  exact e
theorem hok_up (p : Up cl H G h) (x : HOk P w H h) : HOk P w G h := fun b u e => by
  by_cases c : Cell cl b
  · obtain ⟨o, ho, z⟩ := p.held b c
    rw [z] at e
    cases e
    exact ⟨ho, ⟨o, ho⟩⟩
  · rw [p.same b c] at e
    exact (x b u e).stay (fun _ _ _ q => q) (fun d q => up_some p q) fun d xs q => up_some p q
theorem env_up (p : Up cl H G s.heap) (nb : ∀ b, Cell cl b → base.get? b = none) (nf : ∀ b, Cell cl b → b ∉ frs outer) (e : Env0 P w K mg base A outer s H) : Env0 P w K mg base A outer s G := by
  refine ⟨e.frames, e.mod, fun b o q => ⟨(e.bs b o q).1, ?_⟩, e.bsz, e.funs, fun b q => ?_, hok_up p e.hok, e.bare⟩
  · rw [p.same b fun c => by rw [nb b c] at q; cases q]
    exact (e.bs b o q).2
  · rw [p.same b fun c => nf b c q]
    exact e.frf b q
/-- behind a call with known cells: they are let go again -/
theorem end_up {Q : VK} {u : Value} (p : Up cl H G s.heap) (h : CE outer P w G s (fun v H' => Q v (off cl H')) u s') : CE outer P w H s Q u s' := by
  obtain ⟨v, H', os, bare, un, hk, r, q⟩ := h
  have kept : ∀ b, Cell cl b → ∃ o, s.heap.get? b = some o ∧ H' b = some (Pin o) := fun b c => by
    obtain ⟨o, ho, z⟩ := p.held b c
    exact ⟨o, ho, un.frzs b o _ z⟩
  have hd : Held cl H' := fun b c => by
    obtain ⟨o, _, z⟩ := kept b c
    exact ⟨o, z⟩
  refine ⟨v, off cl H', os, bare, ⟨fun b o e n hb hx => ?_, fun b o e n hb hx => ?_, fun b o e n hx => ?_, un.there, fun b xs e => ?_, fun b o v e => ?_, fun b ps e => ?_⟩, hok_off hd hk, r, q⟩
  · by_cases c : Cell cl b
    · obtain ⟨o', ho, z⟩ := kept b c
      rw [e] at ho
      cases ho
      exact pin_at hk z
    · exact un.keep b o e (by rw [p.same b c]; exact n) hb hx
  · by_cases c : Cell cl b
    · obtain ⟨o', ho, z⟩ := kept b c
      rw [e] at ho
      cases ho
      exact ⟨o.slots, pin_at hk z⟩
    · exact un.slot b o e (by rw [p.same b c]; exact n) hb hx
  · by_cases c : Cell cl b
    · exact off_c c
    · rw [off_n c]
      exact un.free b o e (by rw [p.same b c]; exact n) hx
  · have g := un.tups b xs (up_some p e)
    exact held_off hd b _ (fun o z => pin_tup z.symm) g
  · have c : ¬ Cell cl b := fun c => by
      rw [p.lo b c] at e
      cases e
    rw [off_n c]
    exact un.frzs b o v (up_some p e)
  · obtain ⟨more, g⟩ := un.tbls b ps (up_some p e)
    exact ⟨more, held_off hd b _ (fun o z => nomatch z) g⟩
end
end LM
set_option Elab.async false
set_option maxRecDepth 100000
set_option maxHeartbeats 4000000
namespace LM
open PySem PySem.Spec PyProof.Rows L2
open LamX (ExtN TabS TabB CodeO LamS lamCx lamEnv)
/-! ### an exception through let-go cells -/
section
variable {P : Program} {w : World} {outer : List Env} {s s' : Shared} {H : Hp} {cl : List (Str × Addr)}
theorem cx_back {E : XK} {u : Value} (hd : Held cl H) (hk : HOk P w H s.heap) (nf : ∀ b, Cell cl b → b ∉ frs outer) (x : L2.CX P w outer (off cl H) s (fun c d H' => Loose cl H' → E c d (back cl H H')) u s') : L2.CX P w outer H s E u s' := by
  obtain ⟨a, B, H', c, d, e, fl, ok, ub, na, os, bare, q⟩ := x
  have nc : ∀ b, H b = none → ¬ Cell cl b := fun b n z => by
    obtain ⟨o, y⟩ := hd b z
    rw [n] at y
    cases y
  have lo : Loose cl H' := fun b z => by
    obtain ⟨o, y⟩ := hd b z
    exact ub.free b o (pin_at hk y) (off_c z)
  have ap : ∀ b u, (∀ o, u ≠ Pin o) → H b = some u → ¬ Cell cl b := fun b u hu y z => by
    obtain ⟨o, v⟩ := hd b z
    rw [y] at v
    exact hu o (Option.some.inj v)
  have inB : ∀ b, Cell cl b → ∃ o, H b = some (Pin o) ∧ B.get? b = some o := fun b z => by
    obtain ⟨o, y⟩ := hd b z
    exact ⟨o, y, ub.keep b o (pin_at hk y) (off_c z) (nf b z)⟩
  have nca : ¬ Cell cl a := fun z => by
    obtain ⟨o, _, y⟩ := inB a z
    rw [fl.2.1] at y
    cases y
  refine ⟨a, B, back cl H H', c, d, e, fl, fun b v y => ?_, ⟨fun b o y n hb => ub.keep b o y (by rw [off_n (nc b n)]; exact n) hb, ub.slot, fun b o y n => ?_, ub.there, fun b xs y => ?_, fun b o v y => ?_, fun b ps y => ?_⟩, by rw [back_n nca]; exact na, os, bare, q lo⟩
  · by_cases z : Cell cl b
    · rw [back_c z] at y
      obtain ⟨o, y2, g⟩ := inB b z
      rw [y2] at y
      cases y
      exact ⟨g, ⟨o, g⟩⟩
    · rw [back_n z] at y
      have st : ∀ d v, H' d = some v → back cl H H' d = some v := fun d v q => by
        have : ¬ Cell cl d := fun z => by
          rw [lo d z] at q
          cases q
        rw [back_n this]
        exact q
      exact (ok b v y).stay (fun _ _ _ q => q) (fun d q => st d _ q) fun d xs q => st d _ q
  · rw [back_n (nc b n)]
    exact ub.free b o y (by rw [off_n (nc b n)]; exact n)
  · have z := ap b _ (fun o y => pin_tup y.symm) y
    rw [back_n z]
    exact ub.tups b xs (by rw [off_n z]; exact y)
  · by_cases z : Cell cl b
    · rw [back_c z]
      exact y
    · rw [back_n z]
      exact ub.frzs b o v (by rw [off_n z]; exact y)
  · have z := ap b _ (fun o y => pin_tbl y.symm) y
    rw [back_n z]
    exact ub.tbls b ps (by rw [off_n z]; exact y)
theorem cr_back {Q : VK} {E : XK} {r : Result} (hd : Held cl H) (hk : HOk P w H s.heap) (nf : ∀ b, Cell cl b → b ∉ frs outer) (x : CR (L2.CX P w) outer P w (off cl H) s (fun v H' => Loose cl H' → Q v (back cl H H')) (fun c d H' => Loose cl H' → E c d (back cl H H')) r s') : CR (L2.CX P w) outer P w H s Q E r s' := by
  cases r with
  | error e => exact cx_back hd hk nf x
  | ok fl =>
    cases fl with
    | ret u =>
      obtain ⟨v, H', os, bare, un, ok, rv, q⟩ := x
      exact ⟨v, back cl H H', os, bare, un_back hd hk nf un, hok_back hd hk nf un ok, rv, q (loose_un hk hd un)⟩
    | next => exact x
    | brk => exact x
    | cont => exact x
end
/-! ### what a lambda does where it is called -/
/-- f, called without arguments where R holds, keeps tl -/
structure Act (P : Program) (w : World) (K : PySem.W.Frag) (mg : Str → Option Value) (base : Heap) (k : Nat) (f : Addr) (R : Hp → Prop) (tl : Hp → VK → XK → Prop) : Prop where
  same : ∀ H H' : Hp, (∀ b o, H b = some o → H' b = some o) → R H → R H'
  fn : ∀ (s : Shared) (H : Hp), R H → HOk P w H s.heap → PySem.W.FnAt f s.heap
  run : ∀ (A : Around) (outer : List Env) (s : Shared) (H : Hp) (Q : VK) (E : XK), Room k A → Env0 P w K mg base A outer s H → R H → tl H Q E → codeAny (model P w) A (.call (.ref f) ⟨[], []⟩) (CR (L2.CX P w) outer P w H s Q E) s
/-- the lambda that stands at f -/
def IsLam (H : Hp) (f : Addr) (q : Str) (params : Arguments) (body : Expr) (scope : Scope) (clos : List (Str × Addr)) : Prop :=
  ∃ (c' : Addr) (pm ctv : Value), H f = some (Pin (PySem.W.kla_obj "<lambda>" q params body scope clos pm c' ctv)) ∧ H c' = some (CodeO c' q)
theorem IsLam.ext {H H' : Hp} {f : Addr} {q : Str} {params : Arguments} {body : Expr} {scope : Scope} {clos : List (Str × Addr)} (h : IsLam H f q params body scope clos) (e : ExtN H H') : IsLam H' f q params body scope clos := by
  obtain ⟨c', pm, ctv, h1, h2⟩ := h
  exact ⟨c', pm, ctv, e _ _ h1 (fun ps z => nomatch z), e _ _ h2 (fun ps z => LamX.codeO_ne ps z)⟩
/-- what a frame's cells hold, told at a call: H ahead, G with the cells -/
structure Caught (X : Cx) (σ : L2.St) (H G : Hp) : Prop where
  len : σ.length = X.N.length
  has : ∀ y, X.env.kindOf y = some .cell ∨ X.env.kindOf y = some .free → ∃ c, X.env.cells.lookup y = some c
  inj : ∀ x y c, X.env.cells.lookup x = some c → X.env.cells.lookup y = some c → x = y
  lo : Loose X.env.cells H
  same : ∀ b, ¬ Cell X.env.cells b → G b = H b
  held : ∀ b, Cell X.env.cells b → ∃ o v, G b = some (Pin o) ∧ o.data = .cell v
  val : ∀ (i : Nat) (y : Str) (v : V), X.N[i]? = some y → σ[i]? = some (some v) → X.env.kindOf y = some .cell ∨ X.env.kindOf y = some .free → ∃ c o u, X.env.cells.lookup y = some c ∧ G c = some (Pin o) ∧ o.data = .cell (some u) ∧ RelV v u
theorem Caught.some {X : Cx} {σ : L2.St} {H G : Hp} (c : Caught X σ H G) {b : Addr} {o : HO} (e : H b = some o) : G b = some o := by
  rw [c.same b fun z => by rw [c.lo b z] at e; cases e]
  exact e
theorem Caught.hd {X : Cx} {σ : L2.St} {H G : Hp} (c : Caught X σ H G) : Held X.env.cells G := fun b z => by
  obtain ⟨o, _, e, _⟩ := c.held b z
  exact ⟨o, e⟩
open Classical in
theorem caught_of {X : Cx} {pins : List (Addr × Obj)} {σ : L2.St} {H : Hp} {s : Shared} (I : Inv X pins σ H s) : ∃ G, Up X.env.cells H G s.heap ∧ Caught X σ H G := by
  have lo : Loose X.env.cells H := fun b ⟨y, e⟩ => I.freeC y b e
  have at_ : ∀ b, Cell X.env.cells b → ∃ o v, s.heap.get? b = some o ∧ o.data = .cell v := fun b ⟨y, e⟩ => by
    obtain ⟨v, o, h1, h2⟩ := I.cell y b e
    exact ⟨o, v, h1, h2⟩
  refine ⟨fun b => if Cell X.env.cells b then (s.heap.get? b).map Pin else H b, ⟨lo, fun b c => if_neg c, fun b c => ?_⟩, ⟨I.len, fun y hy => I.ok.has y hy, I.ok.inj, lo, fun b c => if_neg c, fun b c => ?_, fun i y v h1 h2 h3 => ?_⟩⟩
  · obtain ⟨o, v, h1, h2⟩ := at_ b c
    refine ⟨o, h1, ?_⟩
    show (if Cell X.env.cells b then (s.heap.get? b).map Pin else H b) = _
    rw [if_pos c, h1]
    rfl
  · obtain ⟨o, v, h1, h2⟩ := at_ b c
    refine ⟨o, v, ?_, h2⟩
    show (if Cell X.env.cells b then (s.heap.get? b).map Pin else H b) = _
    rw [if_pos c, h1]
    rfl
  · obtain ⟨m, _, hl⟩ := I.loc
    have hv : Vis X.env.scope y := h3.elim (fun k => .inr (.inl k)) fun k => .inr (.inr k)
    obtain ⟨u, r, q⟩ := hl i y v h1 h2 hv
    rcases q with ⟨k, _⟩ | ⟨_, c, e, o, ho, hd⟩
    · rcases h3 with z | z <;> rw [z] at k <;> cases k
    · refine ⟨c, o, u, e, ?_, hd, r⟩
      show (if Cell X.env.cells c then (s.heap.get? c).map Pin else H c) = _
      rw [if_pos ⟨y, e⟩, ho]
      rfl
/-- the lambda's own frame is entered -/
theorem lam_in {X : Cx} {σ : L2.St} {H G HZ : Hp} {A : Around} {outer : List Env} {E : XK} {scope : Scope} {f c' : Addr} {h₁ : Heap} {tk : Nat} {s1 : Shared} (U : Caught X σ H G) (L : LamS X.env.scope scope) (e0 : Env0 X.prog X.w X.K X.mg X.base A outer s1 (off X.env.cells HZ)) (hd : A.handled = none)
    (hz : ∀ b, Cell X.env.cells b → ∃ o, G b = some (Pin o) ∧ s1.heap.get? b = some o) (hns : h₁.Ns s1.heap.objs.size fun y => ([] : List (Str × Value)).reverse.lookup y) (kp : ∀ b o, s1.heap.get? b = some o → h₁.get? b = some o) :
    Inv (lamCx X A outer s1 (off X.env.cells HZ) E scope f c') [] σ (off X.env.cells HZ) { s1 with heap := h₁, toks := tk } := by
  have has : ∀ y ∈ scope.names, y.2 = .free → ∃ c, X.env.cells.lookup y.1 = some c := fun y hy e => U.has _ (L.free y hy e)
  have cm : ∀ {y c}, (cloFrom X.env.cells scope.names []).lookup y = some c → X.env.cells.lookup y = some c := fun {y c} e => by
    rcases cloFrom_mem (PySem.mem_of_lookup e) with z | ⟨h1, h2⟩
    · cases z
    · obtain ⟨c1, hc⟩ := has _ h1 rfl
      have hc : X.env.cells.lookup y = some c1 := hc
      rw [hc] at h2
      rw [h2]
      exact hc
  have look : ∀ {y}, scope.names.lookup y = some .free → ∃ c, (cloFrom X.env.cells scope.names []).lookup y = some c := fun {y} hl =>
    mem_lookup (cloFrom_has (cells := X.env.cells) (acc := []) (PySem.mem_of_lookup hl))
  have isC : ∀ {y c}, X.env.cells.lookup y = some c → ∃ v, h₁.IsCell c v := fun {y c} e => by
    obtain ⟨o, v, g, d⟩ := U.held c ⟨y, e⟩
    obtain ⟨o', g', k⟩ := hz c ⟨y, e⟩
    rw [g] at g'
    have : o = o' := by injection g' with g'; injection g'
    subst this
    exact ⟨v, o, kp _ _ k, d⟩
  have noex : ∀ b : Addr, b ∉ (lamCx X A outer s1 (off X.env.cells HZ) E scope f c').ex := fun b z => nomatch (show b ∈ ([] : List Addr) from z)
  refine ⟨⟨e0.mod, L.kind, rfl, rfl, Nat.le_refl _, fun y z c e1 e2 => U.inj y z c (cm e1) (cm e2), fun y hy => ?_, fun y c z _ => Bool.noConfusion (show false = true from z), fun _ => hd, Around.frames_deeper e0.frames, .inr ⟨rfl, rfl⟩, fun b z => absurd z (noex b), e0.bs, e0.bsz, fun b _ _ => noex b,
      fun b z => absurd z (noex b), e0.funs, e0.frf⟩,
    rfl, e0.bare, Un.kept kp, ⟨_, hns, fun i y v e1 e2 e3 => ?_⟩, fun y c e => isC (cm e), e0.hok.fresh (Nat.le_refl _), fun y c e => off_c ⟨y, cm e⟩, fun q hq => absurd (show q ∈ ([] : List (Addr × Obj)) ++ [] from hq) (by simp), e0.hok.kept kp, U.len⟩
  · have hy : scope.names.lookup y = some .cell ∨ scope.names.lookup y = some .free := hy
    rcases hy with hy | hy
    · exact absurd rfl (L.own _ (PySem.mem_of_lookup hy)).2
    · exact look hy
  · have e3 : Vis scope y := e3
    rcases e3 with k | k | k
    · exact absurd rfl (L.own _ (PySem.mem_of_lookup k)).1
    · exact absurd rfl (L.own _ (PySem.mem_of_lookup k)).2
    · obtain ⟨c, o, u, h1, h2, h3, r⟩ := U.val i y v e1 e2 (L.free _ (PySem.mem_of_lookup k) rfl)
      obtain ⟨c2, z⟩ := look k
      have := cm z
      rw [h1] at this
      cases this
      obtain ⟨o', g', kk⟩ := hz c ⟨y, h1⟩
      rw [h2] at g'
      have : o = o' := by injection g' with g'; injection g'
      subst this
      exact ⟨u, r, .inr ⟨.inr k, c, z, o, kp _ _ kk, h3⟩⟩
/-- what the lambda at f does, wherever it is called while the frame's cells are known -/
theorem lam_act {X : Cx} {σ : L2.St} {H G : Hp} {params : Arguments} {body : Expr} {scope : Scope} {f : Addr} {k : Nat} {t : XK → TE} (U : Caught X σ H G) (L : LamS X.env.scope scope) (hl : IsLam G f (X.env.qual ++ "<lambda>") params body scope (cloFrom X.env.cells scope.names []))
    (hbind : ∀ (q : Str) (cl : List (Str × Addr)) (pm cv ctv : Value), bindArgs (PySem.W.kla_fn "<lambda>" q params body scope cl pm cv ctv) ⟨[], []⟩ = pure [])
    (hbody : ∀ (A : Around) (outer : List Env) (s : Shared) (H : Hp) (E : XK) (c' : Addr), Room k (A.deeper (lamEnv X scope s.heap.objs.size f c')) → PE (lamCx X A outer s H E scope f c') body (t E)) :
    ∃ R : Hp → Prop, R G ∧ Act X.prog X.w X.K X.mg X.base (k + 1) f R (fun H Q E => t (fun c d H' => Loose X.env.cells H' → E c d (back X.env.cells H H')) σ (off X.env.cells H) (fun v H' => Loose X.env.cells H' → Q v (back X.env.cells H H'))) := by
  obtain ⟨c', pm, ctv, h1, h2⟩ := hl
  refine ⟨fun HZ => HZ f = G f ∧ HZ c' = G c' ∧ ∀ b, Cell X.env.cells b → HZ b = G b, ⟨rfl, rfl, fun _ _ => rfl⟩, ⟨fun H H' e ⟨r1, r2, r3⟩ => ⟨?_, ?_, fun b c => ?_⟩, fun s H ⟨r1, _, _⟩ ok => ?_, fun A outer s HZ Q E hr e0 ⟨r1, r2, r3⟩ ht => ?_⟩⟩
  · rw [h1] at r1 ⊢
    exact e _ _ r1
  · rw [h2] at r2 ⊢
    exact e _ _ r2
  · obtain ⟨o, z⟩ := U.hd b c
    have r3 := r3 b c
    rw [z] at r3 ⊢
    exact e _ _ r3
  · rw [h1] at r1
    exact ⟨_, _, _, _, pin_at ok r1⟩
  have hd : Held X.env.cells HZ := fun b c => by
    rw [r3 b c]
    exact U.hd b c
  have nf : ∀ b, Cell X.env.cells b → b ∉ frs outer := fun b c z => by
    obtain ⟨o, y⟩ := hd b c
    rw [e0.frf b z] at y
    cases y
  rw [h1] at r1
  rw [h2] at r2
  have of1 := pin_at e0.hok r1
  obtain ⟨⟨oc, vs, tt, hoc, hdc, hvc⟩, _, _⟩ := e0.hok c' _ r2
  have e1 := env_off hd e0
  have lim : s.heap.NoLimit := e0.mod.nolimit.keeps fun b o e => (e0.bs b o e).1
  refine codeAny_mono (R := CR (L2.CX X.prog X.w) outer X.prog X.w (off X.env.cells HZ) s (fun v H' => Loose X.env.cells H' → Q v (back X.env.cells HZ H')) (fun c d H' => Loose X.env.cells H' → E c d (back X.env.cells HZ H'))) ?_ fun r s' hq => cr_back hd e0.hok nf hq
  refine PySem.W.kla_callFunE hr.depth of1 rfl L.co L.gen rfl ⟨c', oc, vs, tt, rfl, hoc, hdc, hvc⟩ ?_
  rw [hbind]
  refine wpAny_pure (wpAny_newFunctionEnv (fun y hy => (L.own y hy).2) (fun y hy => absurd hy (by simp)) (fun h₁ hns hsb => ⟨lim.fresh _ hsb, ?_⟩) L.kind)
  show codeAny _ _ (.expr body (lamEnv X scope s.heap.objs.size f c')) _ _
  have kp : ∀ b o, s.heap.get? b = some o → h₁.get? b = some o := fun b o e => hsb.extBut b o (Nat.ne_of_lt (Heap.lt_size e)) (Heap.get?_push_of_some _ e)
  have J := lam_in (E := fun c d H' => Loose X.env.cells H' → E c d (back X.env.cells HZ H')) (scope := scope) (f := f) (c' := c') (tk := s.toks + ([] : List (Str × Value)).length) U L e1 hr.hd (fun b c => by
    obtain ⟨o, z⟩ := U.hd b c
    exact ⟨o, z, pin_at e0.hok ((r3 b c).trans z)⟩) hns kp
  refine PySem.W.kla_codeExpr (wpAny_mono ((hbody _ _ s (off X.env.cells HZ) _ c' (hr.deeper _)).run [] _ _ (off X.env.cells HZ) _ J ht) (fun v s' hq => ?_) fun e s' hq => hq)
  obtain ⟨w', H', J', rv, q⟩ := hq
  exact ⟨w', H', J'.os, J'.bare, J'.base, J'.hok, rv, q⟩
theorem caught_same {X : Cx} {σ : L2.St} {H G H' : Hp} (c : Caught X σ H G) (s : ∀ b o, G b = some o → H' b = some o) : ∀ b o, H b = some o → off X.env.cells H' b = some o := fun b o e => by
  rw [off_n fun z => by rw [c.lo b z] at e; cases e]
  exact s b o (c.some e)
theorem back_same {cl : List (Str × Addr)} {H H' : Hp} (s : ∀ b o, off cl H b = some o → H' b = some o) : ∀ b o, H b = some o → back cl H H' b = some o := fun b o e => by
  by_cases c : Cell cl b
  · rw [back_c c]
    exact e
  · rw [back_n c]
    exact s b o (by rw [off_n c]; exact e)
theorem back_at {cl : List (Str × Addr)} {H H' : Hp} (lo : Loose cl H') {b : Addr} {o : HO} (e : H' b = some o) : back cl H H' b = some o := by
  rw [back_n fun c => by rw [lo b c] at e; cases e]
  exact e
end LM
set_option Elab.async false
set_option maxRecDepth 100000
set_option maxHeartbeats 4000000
namespace LM
open PySem PySem.Spec PyProof.Rows L2
open LamX (ExtN TabS TabB CodeO LamS lamCx lamEnv)
/-! ### a lambda is made -/
def tLam (P : Addr) (q : Str) (params : Arguments) (body : Expr) (scope : Scope) (clos : List (Str × Addr)) : TE := fun _ H Q => TabS H P q ∧
  ∀ (f : Addr) (H1 : Hp), ExtN H H1 → TabS H1 P q → IsLam H1 f q params body scope clos → H f = none → Q (.ref f) H1
section
variable {X : Cx}
theorem pe_lam {c P : Addr} {params : Arguments} {body : Expr} {scope : Scope} {pos : Pos} (TB : TabB X.base X.mg c P) (hcode : X.env.code = .ref c) (L : LamS X.env.scope scope) (hdef : defaultsOf params X.env = ([], [])) :
    PE X (.Lambda params body scope pos) (tLam P (X.env.qual ++ "<lambda>") params body scope (cloFrom X.env.cells scope.names [])) := by
  refine ⟨fun pins s σ H Q I ⟨hT, h⟩ => ?_⟩
  obtain ⟨ps, hP, ht, ha⟩ := id hT
  refine PySem.W.kla_eval hdef ?_
  have hP' : s.heap.get? P = some { cls := .none, data := .fields ps } := I.hok P _ hP
  cases hc : codeAmong pos ps.toList with
  | none =>
    refine PySem.W.kla_makeFunction (mg := X.mg) (c := c) (P := P) (ps := ps) (closure_ok (L.has I.ok)) I.ok.glob (I.mod.glob.keeps I.bk) hcode (TB.code.keeps I.bk) hP' ht hc TB.gP (TB.bm.keeps I.bk) fun c' ctv g tk hx hge hlt hrec htb => ?_
    obtain ⟨c2, oc, vs, t, e2, hoc, hd, hv⟩ := hrec
    cases e2
    have nC : H c' = none := I.hok.fresh hge
    have I1 := LamX.inv_table (t' := tk) (q := X.env.qual ++ "<lambda>") (more := #[rawInt pos.line, rawInt pos.col, .ref c']) I hP (fun b o hb e => hx b o hb e) htb hge ⟨oc, vs, t, hoc, hd, hv⟩
    have I2 := I1.laid (a := g.objs.size) (o := Pin (PySem.W.kla_obj "<lambda>" (X.env.qual ++ "<lambda>") params body scope (cloFrom X.env.cells scope.names []) ((X.mg "__name__").getD .none) c' ctv)) (t' := tk) (fun b u e => Heap.get?_push_of_some (h := g) _ e) (Nat.le_refl _) ⟨Heap.get?_push_size _ rfl, ⟨_, Heap.get?_push_size _ rfl⟩⟩
    have nF : H g.objs.size = none := I.hok.fresh (Nat.le_trans hge (Nat.le_of_lt hlt))
    have n1 : g.objs.size ≠ c' := Nat.ne_of_gt hlt
    have n2 : P ≠ g.objs.size := ne_of_none hP nF
    have n3 : P ≠ c' := ne_of_none hP nC
    have hE : ExtN H (upd (upd (upd H P (.tbl (ps ++ #[rawInt pos.line, rawInt pos.col, .ref c']))) c' (CodeO c' (X.env.qual ++ "<lambda>"))) g.objs.size (Pin (PySem.W.kla_obj "<lambda>" (X.env.qual ++ "<lambda>") params body scope (cloFrom X.env.cells scope.names []) ((X.mg "__name__").getD .none) c' ctv))) := fun b o e n => by
      rw [upd_ne (ne_of_none e nF), upd_ne (ne_of_none e nC), upd_ne fun z => n ps (Option.some.inj (e.symm.trans (by rw [z]; exact hP)))]
      exact e
    have hC2 : (upd (upd (upd H P (.tbl (ps ++ #[rawInt pos.line, rawInt pos.col, .ref c']))) c' (CodeO c' (X.env.qual ++ "<lambda>"))) g.objs.size (Pin (PySem.W.kla_obj "<lambda>" (X.env.qual ++ "<lambda>") params body scope (cloFrom X.env.cells scope.names []) ((X.mg "__name__").getD .none) c' ctv))) c' = some (CodeO c' (X.env.qual ++ "<lambda>")) := by
      rw [upd_ne (Ne.symm n1), upd_same]
    refine ⟨.ref g.objs.size, _, I2, rfl, h _ _ hE ⟨_, by rw [upd_ne n2, upd_ne n3, upd_same], ?_, fun p' cv hcv => ?_⟩ ⟨c', _, ctv, upd_same, hC2⟩ nF⟩
    · simp only [Array.toList_append]
      exact PySem.TriplesOk_snoc _ _ _ _ ht
    · simp only [Array.toList_append] at hcv
      rcases LamX.among_app _ ht hcv with z | z
      · obtain ⟨c0, y1, y2⟩ := ha p' cv z
        exact ⟨c0, y1, hE _ _ y2 (fun ps => LamX.codeO_ne ps)⟩
      · exact ⟨c', z, hC2⟩
  | some cv =>
    obtain ⟨c', rfl, hco⟩ := ha pos cv hc
    refine PySem.W.kla_makeFunctionHit (mg := X.mg) (c := c) (P := P) (ps := ps) (closure_ok (L.has I.ok)) I.ok.glob (I.mod.glob.keeps I.bk) hcode (TB.code.keeps I.bk) hP' ht hc (TB.bm.keeps I.bk) fun ctv g tk hx hsz => ?_
    have I1 : Inv X pins σ H { s with heap := g, toks := tk } := I.kept hx
    have I2 := I1.laid (a := g.objs.size) (o := Pin (PySem.W.kla_obj "<lambda>" (X.env.qual ++ "<lambda>") params body scope (cloFrom X.env.cells scope.names []) ((X.mg "__name__").getD .none) c' ctv)) (t' := tk) (fun b u e => Heap.get?_push_of_some (h := g) _ e) (Nat.le_refl _) ⟨Heap.get?_push_size _ rfl, ⟨_, Heap.get?_push_size _ rfl⟩⟩
    have nF : H g.objs.size = none := I.hok.fresh hsz
    have hE : ∀ b o, H b = some o → (upd H g.objs.size (Pin (PySem.W.kla_obj "<lambda>" (X.env.qual ++ "<lambda>") params body scope (cloFrom X.env.cells scope.names []) ((X.mg "__name__").getD .none) c' ctv))) b = some o := fun b o e => by
      rw [upd_ne (ne_of_none e nF)]
      exact e
    exact ⟨.ref g.objs.size, _, I2, rfl, h _ _ (ExtN.of hE) (hT.ext hE) ⟨c', _, ctv, upd_same, hE _ _ hco⟩ nF⟩
theorem IsLam.up {X : Cx} {σ : L2.St} {H G : Hp} {f : Addr} {q : Str} {params : Arguments} {body : Expr} {scope : Scope} {clos : List (Str × Addr)} (h : IsLam H f q params body scope clos) (c : Caught X σ H G) : IsLam G f q params body scope clos := by
  obtain ⟨c', pm, ctv, h1, h2⟩ := h
  exact ⟨c', pm, ctv, c.some h1, c.some h2⟩
/-! ### a def is called, this frame's cells being known meanwhile -/
def tCallP (X : Cx) (sp : Sp) (t : TA) : TE := fun σ H Q => t σ H fun vs H1 => ∀ G, Caught X σ H1 G → sp vs G (fun v H' => Q v (off X.env.cells H')) C8.E0
theorem cells_apart {pins : List (Addr × Obj)} {σ : L2.St} {H : Hp} {s : Shared} (I : Inv X pins σ H s) (hfn : ∀ y, X.fn y = true) : (∀ b, Cell X.env.cells b → X.base.get? b = none) ∧ ∀ b, Cell X.env.cells b → b ∉ frs X.stack := by
  have ab : ∀ b, Cell X.env.cells b → X.s_0.heap.objs.size ≤ b := fun b ⟨y, e⟩ => I.ok.cab y b (hfn y) e
  refine ⟨fun b c => Heap.get?_none_of_le (Nat.le_trans I.ok.bsz (ab b c)), fun b c hm => ?_⟩
  rcases List.mem_cons.mp (I.stkSub b hm) with z | z
  · obtain ⟨y, e⟩ := c
    exact I.cne y b e z
  · obtain ⟨_, o, ho, _⟩ := I.ok.funs.mem z
    exact absurd (Nat.lt_of_lt_of_le (Heap.lt_size ho) (ab b c)) (Nat.lt_irrefl _)
section
variable {CX : CXT} {k j : Nat} {ps : List Str} {sp : Sp} {E : XK} {x : Str} {p pos : Pos} {e : Expr} {es : List Expr} {t : TA} {to : TE}
theorem pe_cP (c : RS.Cal X.prog X.w X.K X.mg X.base C8.CX0 k x ps sp) (hr : Room j X.A) (hk : k ≤ j) (hfn : ∀ y, X.fn y = true) (hg : Gl X x) (ha : PA X (e :: es) t) (hdb : (x == ("__debug__" : Str)) = false := by decide)
    (he : starEach (e :: es) X.env = (false, eval e X.env) :: starEach es X.env := by rfl) (hpl : (backTo pos (starEach es X.env)).any (·.1) = false := by rfl) :
    PE X (.Call (.Name x p) (e :: es) [] pos) (tCallP X sp t) := by
  obtain ⟨f, fd, F, hm, kp, hb⟩ := c.ex
  refine ⟨fun pins s σ H Q I h => ?_⟩
  refine wpAny_Call_Name_kw (ld_glob I hg hm ?_ hdb)
  refine PySem.W.callWith_K (h₀ := X.base) I.ok.mod.kin kp (thn (ha.run pos pins s σ H _ I h) fun us s1 ⟨vs, H1, I1, r, q⟩ => ⟨I1.kIn, ?_⟩) he hpl
  obtain ⟨G, up, ca⟩ := caught_of I1
  obtain ⟨nb, nf⟩ := cells_apart I1 hfn
  have q := q G ca
  have hl : us.length = ps.length := by rw [← r.length]; exact F.len _ _ _ _ q
  have b := hb s1 us I1.kIn (by rw [List.append_nil]; exact hl)
  rw [List.append_nil] at b
  refine wpAny_call (codeAny_mono (F.run X.A X.stack s1 G ⟨us, []⟩ us vs _ _ (hr.mono hk) (env_up up nb nf I1.env0) b r q) fun r s' hq => ?_)
  cases r with
  | error e => exact False.elim hq
  | ok fl =>
    cases fl with
    | ret u => exact I1.after (end_up up hq)
    | next => exact False.elim hq
    | brk => exact False.elim hq
    | cont => exact False.elim hq
/-! ### what was handed in is called -/
def tAct (P : Program) (w : World) (K : PySem.W.Frag) (mg : Str → Option Value) (base : Heap) (k : Nat) (E : L2.St → XK) (to : TE) : TE := fun σ H Q => to σ H fun x H1 => ∃ (f : Addr) (R : Hp → Prop) (tl : Hp → VK → XK → Prop), x = .ref f ∧ Act P w K mg base k f R tl ∧ R H1 ∧ tl H1 Q (E σ)
theorem pe_act {P : Program} {w : World} {K : PySem.W.Frag} {mg : Str → Option Value} {base : Heap} {a : Str} {p1 p2 : Pos} {E : L2.St → XK} (eP : X.prog = P) (ew : X.w = w) (eK : X.K = K) (eg : X.mg = mg) (eb : X.base = base) (hx : ∀ σ, PassesAt (L2.CX X.prog X.w) X σ (E σ)) (hr : Room j X.A) (hk : k ≤ j) (ho : PE X (.Name a p1) to) : PE X (.Call (.Name a p1) [] [] p2) (tAct P w K mg base k E to) := by
  subst eP ew eK eg eb
  refine ⟨fun pins s σ H Q I h => ?_⟩
  refine wpAny_Call_Name_kw (thn (ho.run pins s σ H _ I h) fun u s1 ⟨v, H1, I1, r1, f, R, tl, ev, A, hR, q⟩ => ?_)
  subst ev
  obtain rfl : u = Value.ref f := r1
  refine PySem.W.callWith_F0 (first := []) (A.fn s1 H1 hR I1.hok) ?_
  refine wpAny_call (codeAny_mono (A.run X.A X.stack s1 H1 Q (E σ) (hr.mono hk) I1.env0 hR q) fun r s' hq => ?_)
  cases r with
  | error e => exact hx σ pins H1 s1 e s' I1 hq
  | ok fl =>
    cases fl with
    | ret u => exact I1.after hq
    | next => exact False.elim hq
    | brk => exact False.elim hq
    | cont => exact False.elim hq
end
end
end LM
set_option Elab.async false
set_option maxRecDepth 100000
set_option maxHeartbeats 4000000
namespace LM
open PySem PySem.Spec PyProof.Rows L2
/-! ### defs that are called within an except suite, and raise nothing -/
/-- the handled exception, its class, its dict -/
abbrev SpW := Addr → Value → Option Addr → Sp
structure FnW (P : Program) (w : World) (K : PySem.W.Frag) (mg : Str → Option Value) (base : Heap) (k : Nat) (f : Addr) (fd : FuncData) (ps : List Str) (sp : SpW) : Prop where
  len : ∀ a cls d vs H Q E, sp a cls d vs H Q E → vs.length = ps.length
  run : ∀ (A : Around) (outer : List Env) (s : Shared) (H : Hp) (args : Args) (us : List Value) (vs : List V) (Q : VK) (E : XK) (p : Addr × Obj) (cls : Value) (d : Option Addr), L2H.RoomH k A → L2H.PinOk outer H s p → Zc cls d p.2 → (∃ us, p.2.data = .fields us) → Env0 P w K mg base A outer s H → BindsTo s fd args (ps.zip us) → Vals vs us → sp p.1 cls d vs H Q E →
    codeAny (model P w) A (.call (.ref f) args) (CR C8.CX0 outer P w H s Q E) s
structure CalW (P : Program) (w : World) (K : PySem.W.Frag) (mg : Str → Option Value) (base : Heap) (k : Nat) (x : Str) (ps : List Str) (sp : SpW) : Prop where
  ex : ∃ (f : Addr) (fd : FuncData), FnW P w K mg base k f fd ps sp ∧ mg x = some (.ref f) ∧ PySem.W.keepIn K (.ref f) = true ∧ Binds K fd ps []
section
variable {P : Program} {w : World} {K : PySem.W.Frag} {mg : Str → Option Value} {base : Heap}
theorem def_okW {x : Str} {st : Stmt} {c : Addr} {N ps : List Str} {k : Nat} {sp : SpW} (D : RS.DefAt K mg x st c) (S : FnScope N ps (defScope st)) (len : ∀ a cls d vs H Q E, sp a cls d vs H Q E → vs.length = ps.length)
    (hb : ∀ (kV doc pm : Value) (an : Option Addr) (cdv ct : Value) (us : List Value), us.length = ps.length → bindArgs (PySem.W.fnOf x x (defArgs st) (defBody st) (defScope st) .none kV doc pm an cdv ct) ⟨us, []⟩ = pure (ps.zip us))
    (hbody : ∀ (f : Addr) (A : Around) (outer : List Env) (s : Shared) (H : Hp) (vs : List V) (Q : VK) (E : XK) (p : Addr × Obj) (cls : Value) (d : Option Addr), L2H.RoomH k (A.deeper (envOfC x (defScope st) s.heap.objs.size f (.ref c))) → Zc cls d p.2 → (∃ us, p.2.data = .fields us) → sp p.1 cls d vs H Q E →
      ∃ t, PSs (L2H.cxH C8.CX0 P w K mg base N x (defScope st) f (.ref c) A outer s H E p) (defBody st) t ∧ t { nx := fun _ H' => Q .non H', rt := Q } (L2.start N vs) H) :
    CalW P w K mg base (k + 1) x ps sp := by
  obtain ⟨f, oc, od, kV, doc, pm, an, ct, osl, hm, lk, hcd, kp⟩ := D.ex
  refine ⟨f, _, ⟨len, fun A outer s H args us vs Q E p cls d hr hpin hz hf e0 bd r hsp => ?_⟩, hm, kp, .all (hb kV doc pm an (.ref c) ct)⟩
  have hl := len _ _ _ _ _ _ _ hsp
  have KX : K.In s.heap := e0.mod.kin.keeps fun b o e => (e0.bs b o e).1
  have lim : s.heap.NoLimit := e0.mod.nolimit.keeps fun b o e => (e0.bs b o e).1
  have kd : ∀ y ∈ ps.zip us, (defScope st).names.lookup y.1 = some .local ∨ ((defScope st).names.lookup y.1 = some .cell ∧ ((cellsFrom (s.heap.objs.size + 1) (defScope st).names []).lookup y.1).isSome = true) := fun ⟨n, v⟩ hy => by
    rcases S.par n (List.of_mem_zip hy).1 with q | q
    · exact .inl q
    · exact .inr ⟨q, PySem.W.cellsFrom_some _ _ _ (.inl q)⟩
  refine codeAny_call_function hr.depth (KX _ _ lk) rfl S.co S.gen rfl (PySem.W.codeRec_of KX hcd) (bd _ _ _ _ ?_)
  refine wpAny_newFunctionEnv_cells S.kind kd fun env he s1 ic => ?_
  subst he
  refine ⟨lim.keeps ic.toInCall.keep, codeAny_func ?_⟩
  obtain ⟨t, ht, hq⟩ := hbody f A outer s H vs Q E p cls d (hr.deeper _) hz hf hsp
  refine wpAny_mono (ht.run [] s1 (L2.start N vs) H _ (L2H.inv_startH S hpin e0 hl r ic) hq) (fun fl s' hs => ?_) fun e s' hs => hs
  cases fl with
  | ret u =>
    obtain ⟨v, σ', H', J, rv, q⟩ := hs
    exact ⟨v, H', J.os, J.bare, J.base, J.hok, rv, q⟩
  | next =>
    obtain ⟨σ', H', J, q⟩ := hs
    exact ⟨.non, H', J.os, J.bare, J.base, J.hok, rfl, q⟩
  | brk =>
    obtain ⟨_, _, _, q⟩ := hs
    exact False.elim q
  | cont =>
    obtain ⟨_, _, _, q⟩ := hs
    exact False.elim q
end
section
variable {X : Cx} {k j : Nat} {ps : List Str} {sp : SpW} {x : Str} {q pos : Pos} {e : Expr} {es : List Expr} {t : TA}
/-- such a def is called in the suite that handles p -/
def tCallW (sp : SpW) (a : Addr) (cls : Value) (d : Option Addr) (t : TA) : TE := fun σ H Q => t σ H fun vs H1 => sp a cls d vs H1 Q C8.E0
theorem pe_cW {a : Addr} {oe : Obj} {cls : Value} {d : Option Addr} (c : CalW X.prog X.w X.K X.mg X.base k x ps sp) (hr : L2H.RoomH j X.A) (hk : k ≤ j) (hp : (a, oe) ∈ X.pn) (hz : Zc cls d oe) (hf : ∃ us, oe.data = .fields us) (hg : Gl X x) (ha : PA X (e :: es) t) (hdb : (x == ("__debug__" : Str)) = false := by decide)
    (he : starEach (e :: es) X.env = (false, eval e X.env) :: starEach es X.env := by rfl) (hpl : (backTo pos (starEach es X.env)).any (·.1) = false := by rfl) :
    PE X (.Call (.Name x q) (e :: es) [] pos) (tCallW sp a cls d t) := by
  obtain ⟨f, fd, F, hm, kp, hb⟩ := c.ex
  refine ⟨fun pins s σ H Q I h => ?_⟩
  refine wpAny_Call_Name_kw (ld_glob I hg hm ?_ hdb)
  refine PySem.W.callWith_K (h₀ := X.base) I.ok.mod.kin kp (thn (ha.run pos pins s σ H _ I h) fun us s1 ⟨vs, H1, I1, r, q⟩ => ⟨I1.kIn, ?_⟩) he hpl
  have hl : us.length = ps.length := by rw [← r.length]; exact F.len _ _ _ _ _ _ _ q
  have b := hb s1 us I1.kIn (by rw [List.append_nil]; exact hl)
  rw [List.append_nil] at b
  obtain ⟨h1, h2, h3, h4, h5⟩ := I1.pin (a, oe) (List.mem_append_left _ hp)
  have hpin : L2H.PinOk X.stack H1 s1 (a, oe) := ⟨h1, h2, fun hm => (List.mem_cons.mp (I1.stkSub a hm)).elim h3 h4, h5⟩
  refine wpAny_call (codeAny_mono (F.run X.A X.stack s1 H1 ⟨us, []⟩ us vs Q _ (a, oe) cls d (hr.mono hk) hpin hz hf I1.env0 b r q) fun r s' hq => ?_)
  cases r with
  | error e => exact False.elim hq
  | ok fl =>
    cases fl with
    | ret u => exact I1.after hq
    | next => exact False.elim hq
    | brk => exact False.elim hq
    | cont => exact False.elim hq
/-! ### isinstance of the handled exception, with or without a dict -/
def DictAt (d : Option Addr) (H : Hp) : Prop := ∀ dd, d = some dd → ∃ fs, H dd = some (.xd fs)
def rIsW (K : PySem.W.Frag) (D a : Addr) (d : Option Addr) : List V → Hp → VK → Prop := fun xs H Q => ∃ (c : V) (cv : Value) (b : Bool), xs = [.ref a, c] ∧ (∀ u, RelV c u → u = cv) ∧ DictAt d H ∧ PySem.W.kitOne K (.ref D) cv = some b ∧ Q (.bl b) H
theorem call_isW {p : Addr × Obj} {D : Addr} {d : Option Addr} (C : ExcC X.K D) (hp : p ∈ X.pn) (hz : Zc (.ref D) d p.2) (hf : ∃ vs, p.2.data = .fields vs) : CallR X (.builtin "isinstance") (rIsW X.K D p.1 d) := by
  intro pins s σ H xs us Q I r h
  obtain ⟨c, cv, b, rfl, hcv, hd, e, q⟩ := h
  obtain ⟨a, oe⟩ := p
  cases r with
  | cons rx rr =>
    cases rr with
    | cons rt rr =>
      cases rr
      cases rx
      have ec := hcv _ rt
      subst ec
      obtain ⟨hget, _⟩ := I.pin (a, oe) (List.mem_append_left _ hp)
      obtain ⟨vs, hv⟩ := hf
      obtain ⟨cd, hcd, _⟩ := PySem.W.any_some C.hd
      have J : ∃ od : Option Obj, PySem.W.InstAt s.heap a oe D od := by
        obtain ⟨oc, ody, oda, osl⟩ := oe
        obtain ⟨h1, h2⟩ := hz
        dsimp only at h1 h2 hv
        subst h1 h2 hv
        cases ody with
        | none => exact ⟨none, hget, rfl, rfl, trivial⟩
        | some dd =>
          obtain ⟨fs, hfs⟩ := hd dd rfl
          obtain ⟨mA, ⟨o, es, ep, ho, _⟩, _⟩ := (show ObjOk X.prog X.w H s.heap dd (.xd fs) from I.hok dd _ hfs)
          exact ⟨some o, hget, rfl, rfl, ho⟩
      obtain ⟨od, J⟩ := J
      exact PySem.W.kia_one (PySem.W.kitx_exc (od := od) (ox := oe) (by rw [hcd]; rfl) C.hg C.hk C.hs C.ha C.hn C.ht C.hm) I.kIn J e (fun z => nomatch z) fun tk => ⟨.bl b, H, I.kept (t' := tk) fun _ _ z => z, rfl, q⟩
/-- err.f, the class known by the reading -/
def tXfA (K : PySem.W.Frag) (a : Addr) (cls : Value) (d : Option Addr) (f : Str) (te : TE) : TE := fun σ H Q => ∃ C : Addr, XfC K C ∧ PySem.W.findIn K (.ref C) f = some none ∧ tXf a cls d C f te σ H Q
theorem pe_xfA {a : Addr} {oe : Obj} {cls : Value} {d : Option Addr} {pn : List (Addr × Obj)} {e : Expr} {te : TE} {pos : Pos} {n : Str} (hz : Zc cls d oe) (hf : ∃ vs, oe.data = .fields vs) (he : PE (X.suite a ((a, oe) :: pn)) e te) (hb : attributeBase e n X.env (eval e X.env) = eval e X.env := by rfl) :
    PE (X.suite a ((a, oe) :: pn)) (.Attribute e n pos) (tXfA X.K a cls d n te) :=
  ⟨fun pins s σ H Q I ⟨_, T, hno, h⟩ => (pe_xf T hno hz hf he hb).run pins s σ H Q I h⟩
/-! ### list.count, flat items -/
def rCountF (K : PySem.W.Frag) : V → List V → Hp → VK → Prop := fun x xs H Q => ∃ (a : Addr) (ys : List V) (y : V), x = V.ref a ∧ xs = [y] ∧ SqL K H a ys ∧ flatV y = true ∧ ys.all flatV = true ∧ Q (.int ((ys.countP fun z => eqV z y : Nat) : Int)) H
theorem count_flat {y : V} : ∀ {ys : List V} {us : List Value}, Vals ys us → ys.all flatV = true → us.countP (eqU y) = ys.countP fun z => eqV z y
  | _, _, .nil, _ => rfl
  | z :: ys, u :: us, .cons r t, f => by
    rw [List.all_cons, Bool.and_eq_true] at f
    rw [List.countP_cons, List.countP_cons, eqU_of r f.1, count_flat t f.2]
theorem mt_countF : MtR X "list.count" (rCountF X.K) := by
  intro pins s σ H x xs v us Q I rx rxs h
  obtain ⟨a, ys, y, rfl, rfl, hs, fy, fys, q⟩ := h
  cases rx
  cases rxs with
  | cons ry rt =>
    rename_i uy ut
    cases rt
    obtain ⟨its, rv, ⟨⟨cls, dd, data, sl⟩, n, ho, hc, hdn, hd⟩, hlen⟩ := I.list hs
    simp only at hc hd
    subst hc hd
    refine call_meets PySem.F.slot_list_count ⟨_, ho, rfl⟩ PySem.F.entry_list_count (PySem.F.args_list_count_2 _ _) (SeqAt.list_countAt a its.toArray n dd sl uy (eqU y)) ⟨ho, fun u' hu' => mem_eqAt ry fy rv fys u' (by simpa using hu'), ?_⟩
    have ec : its.toArray.toList.countP (eqU y) = ys.countP fun z => eqV z y := count_flat rv fys
    refine ⟨.int ((ys.countP fun z => eqV z y : Nat) : Int), H, I.tok _, ⟨s.toks, ?_⟩, q⟩
    show Value.int ((its.toArray.toList.countP (eqU y) : Nat) : Int) s.toks = _
    rw [ec]
end
end LM
set_option Elab.async false
set_option maxRecDepth 100000
namespace RS
open PySem PySem.Spec PyProof.Rows L2 GX
theorem sameNew {H H1 : Hp} {a : Addr} {o : HO} (s : Same H H1) (h : H1 a = none) : Same H (upd H1 a o) := fun b u e => by
  rw [upd_ne (ne_of_none (s _ _ e) h)]
  exact s _ _ e
end RS
set_option Elab.async false
set_option maxRecDepth 100000
set_option maxHeartbeats 4000000
set_option pp.maxSteps 400
namespace RS
open PySem PySem.Spec PyProof.Rows L2 GX LM
/-! ### the law's reading of errors -/
def nm15 : List Str := ["BadKinds", "BadOrder", "BadRows", "BadRuns", "BadRoom", "BadLengths", "BadPlan", "BadPaper", "BadCount", "BadBlock", "Stopped", "Shut", "NotYet", "Empty", "BadText"]
def ysJ (j : Nat) : List V := (List.range 15).map fun i => V.bl (decide (i = j))
theorem ysJ_ok : ∀ j < 15, (ysJ j).all flatV = true ∧ ((ysJ j).countP fun z => eqV z (.bl true)) = 1 ∧ (ysJ j)[j]? = some (.bl true) ∧ ∀ m < j, (ysJ j)[m]? = some (.bl false) := by decide +kernel
theorem nm15_ok : ∀ j < 15, (nm15.map V.str)[j]? = some (.str (nm15.getD j "")) := by decide +kernel
/-- the classes of the errors -/
structure Cls15 (mg : Str → Option Value) (C : Nat → Addr) : Prop where
  g0 : mg "BadKinds" = some (.ref (C 0))
  g1 : mg "BadOrder" = some (.ref (C 1))
  g2 : mg "BadRows" = some (.ref (C 2))
  g3 : mg "BadRuns" = some (.ref (C 3))
  g4 : mg "BadRoom" = some (.ref (C 4))
  g5 : mg "BadLengths" = some (.ref (C 5))
  g6 : mg "BadPlan" = some (.ref (C 6))
  g7 : mg "BadPaper" = some (.ref (C 7))
  g8 : mg "BadCount" = some (.ref (C 8))
  g9 : mg "BadBlock" = some (.ref (C 9))
  g10 : mg "Stopped" = some (.ref (C 10))
  g11 : mg "Shut" = some (.ref (C 11))
  g12 : mg "NotYet" = some (.ref (C 12))
  g13 : mg "Empty" = some (.ref (C 13))
  g14 : mg "BadText" = some (.ref (C 14))
/-- D is the class j, and none of the others -/
structure Own15 (K : PySem.W.Frag) (C : Nat → Addr) (D : Addr) (j : Nat) : Prop where
  lt : j < 15
  exc : ExcC K D
  one : ∀ i, i < 15 → PySem.W.kitOne K (.ref D) (.ref (C i)) = some (decide (i = j))
  ve : PySem.W.kitOne K (.ref D) (.type "ValueError") = some true
theorem dictAt_same {d : Option Addr} {H H' : Hp} (h : DictAt d H) (s : Same H H') : DictAt d H' := fun dd e => by
  obtain ⟨fs, z⟩ := h dd e
  exact ⟨fs, s _ _ z⟩
section
variable {P : Program} {w : World} {K : PySem.W.Frag} {mg : Str → Option Value} {base : Heap}
theorem scClass : FnScope ["_law_e", nKinds, "_law_words"] ["_law_e"] (defScope sClass) := ⟨rfl, rfl, rfl, by decide +kernel, rfl, by decide +kernel, by decide +kernel⟩
def spClass (K : PySem.W.Frag) (C : Nat → Addr) : SpW := fun a cls d vs H Q _ => ∃ (D : Addr) (j : Nat), vs = [.ref a] ∧ cls = .ref D ∧ Own15 K C D j ∧ DictAt d H ∧ ∀ H', Same H H' → Q (.str (nm15.getD j "")) H'
theorem class_ok {c : Addr} {C : Nat → Addr} (DD : DefAt K mg "_law_class" sClass c) (T : Txt K mg) (G : Cls15 mg C) (hve : mg "ValueError" = none) : CalW P w K mg base 1 "_law_class" ["_law_e"] (spClass K C) := by
  have sc := scClass
  refine def_okW DD sc (fun a cls d vs H Q E h => ?_) (fun _ _ _ _ _ _ us hl => match us, hl with | [_], _ => rfl) (fun f A outer s H vs Q E p cls d hr hz hf h => ?_)
  · obtain ⟨D, j, rfl, _⟩ := h
    rfl
  · obtain ⟨D, j, rfl, rfl, O, hd, k⟩ := h
    refine ⟨_, (pss_cons (ps_set (i := 1) sc.nd rfl (Or.inl rfl) (pe_lst (pa_cons (pe_callB (call_isW O.exc List.mem_cons_self hz hf) (by rfl) T.isinstance (by decide +kernel) (pa_cons (pv 0) (pa_cons (pe_glob (v := V.ref (C 0)) (by rfl) G.g0 rfl) pa_nil))) (pa_cons (pe_callB (call_isW O.exc List.mem_cons_self hz hf) (by rfl) T.isinstance (by decide +kernel) (pa_cons (pv 0) (pa_cons (pe_glob (v := V.ref (C 1)) (by rfl) G.g1 rfl) pa_nil))) (pa_cons (pe_callB (call_isW O.exc List.mem_cons_self hz hf) (by rfl) T.isinstance (by decide +kernel) (pa_cons (pv 0) (pa_cons (pe_glob (v := V.ref (C 2)) (by rfl) G.g2 rfl) pa_nil))) (pa_cons (pe_callB (call_isW O.exc List.mem_cons_self hz hf) (by rfl) T.isinstance (by decide +kernel) (pa_cons (pv 0) (pa_cons (pe_glob (v := V.ref (C 3)) (by rfl) G.g3 rfl) pa_nil))) pa_nil)))))) (pss_cons (ps_set (i := 1) sc.nd rfl (Or.inl rfl) (pe_op op_cat (pv 1) (pe_lst (pa_cons (pe_callB (call_isW O.exc List.mem_cons_self hz hf) (by rfl) T.isinstance (by decide +kernel) (pa_cons (pv 0) (pa_cons (pe_glob (v := V.ref (C 4)) (by rfl) G.g4 rfl) pa_nil))) (pa_cons (pe_callB (call_isW O.exc List.mem_cons_self hz hf) (by rfl) T.isinstance (by decide +kernel) (pa_cons (pv 0) (pa_cons (pe_glob (v := V.ref (C 5)) (by rfl) G.g5 rfl) pa_nil))) (pa_cons (pe_callB (call_isW O.exc List.mem_cons_self hz hf) (by rfl) T.isinstance (by decide +kernel) (pa_cons (pv 0) (pa_cons (pe_glob (v := V.ref (C 6)) (by rfl) G.g6 rfl) pa_nil))) (pa_cons (pe_callB (call_isW O.exc List.mem_cons_self hz hf) (by rfl) T.isinstance (by decide +kernel) (pa_cons (pv 0) (pa_cons (pe_glob (v := V.ref (C 7)) (by rfl) G.g7 rfl) pa_nil))) pa_nil))))))) (pss_cons (ps_set (i := 1) sc.nd rfl (Or.inl rfl) (pe_op op_cat (pv 1) (pe_lst (pa_cons (pe_callB (call_isW O.exc List.mem_cons_self hz hf) (by rfl) T.isinstance (by decide +kernel) (pa_cons (pv 0) (pa_cons (pe_glob (v := V.ref (C 8)) (by rfl) G.g8 rfl) pa_nil))) (pa_cons (pe_callB (call_isW O.exc List.mem_cons_self hz hf) (by rfl) T.isinstance (by decide +kernel) (pa_cons (pv 0) (pa_cons (pe_glob (v := V.ref (C 9)) (by rfl) G.g9 rfl) pa_nil))) (pa_cons (pe_callB (call_isW O.exc List.mem_cons_self hz hf) (by rfl) T.isinstance (by decide +kernel) (pa_cons (pv 0) (pa_cons (pe_glob (v := V.ref (C 10)) (by rfl) G.g10 rfl) pa_nil))) (pa_cons (pe_callB (call_isW O.exc List.mem_cons_self hz hf) (by rfl) T.isinstance (by decide +kernel) (pa_cons (pv 0) (pa_cons (pe_glob (v := V.ref (C 11)) (by rfl) G.g11 rfl) pa_nil))) pa_nil))))))) (pss_cons (ps_set (i := 1) sc.nd rfl (Or.inl rfl) (pe_op op_cat (pv 1) (pe_lst (pa_cons (pe_callB (call_isW O.exc List.mem_cons_self hz hf) (by rfl) T.isinstance (by decide +kernel) (pa_cons (pv 0) (pa_cons (pe_glob (v := V.ref (C 12)) (by rfl) G.g12 rfl) pa_nil))) (pa_cons (pe_callB (call_isW O.exc List.mem_cons_self hz hf) (by rfl) T.isinstance (by decide +kernel) (pa_cons (pv 0) (pa_cons (pe_glob (v := V.ref (C 13)) (by rfl) G.g13 rfl) pa_nil))) (pa_cons (pe_callB (call_isW O.exc List.mem_cons_self hz hf) (by rfl) T.isinstance (by decide +kernel) (pa_cons (pv 0) (pa_cons (pe_glob (v := V.ref (C 14)) (by rfl) G.g14 rfl) pa_nil))) pa_nil)))))) (pss_cons (ps_set (i := 2) sc.nd rfl (Or.inl rfl) (pe_lst (pa_cons pe_str (pa_cons pe_str (pa_cons pe_str (pa_cons pe_str (pa_cons pe_str (pa_cons pe_str (pa_cons pe_str (pa_cons pe_str (pa_cons pe_str pa_nil))))))))))) (pss_cons (ps_set (i := 2) sc.nd rfl (Or.inl rfl) (pe_op op_cat (pv 2) (pe_lst (pa_cons pe_str (pa_cons pe_str (pa_cons pe_str (pa_cons pe_str (pa_cons pe_str (pa_cons pe_str pa_nil))))))))) (pss_one (ps_ret (pe_ifExp (pw_and (pt_cmpR op_eq (pe_bm PySem.F.plainAttrs_list PySem.F.slot_list_count PySem.F.type_list_count mt_countF (pv 1) (pa_cons pe_bl pa_nil)) pe_int (nomark _)) (pw_and1 (pt_val (pe_callB (call_isW O.exc List.mem_cons_self hz hf) (by rfl) T.isinstance (by decide +kernel) (pa_cons (pv 0) (pa_cons (pe_bltn (v := V.ty "ValueError") (u := Value.type "ValueError") (by rfl) hve (by decide +kernel) rfl) pa_nil)))))).pt (pe_ix ix_list (pv 2) (pe_bm PySem.F.plainAttrs_list PySem.F.slot_list_index PySem.F.type_list_index mt_index (pv 1) (pa_cons pe_bl pa_nil)) (fun _ _ => rfl)) pe_str))))))))), ?_⟩
    refine ⟨_, rfl, _, _, _, rfl, (fun _ r => r), hd, O.one 0 (by decide), _, rfl, _, _, _, rfl, (fun _ r => r), hd, O.one 1 (by decide), _, rfl, _, _, _, rfl, (fun _ r => r), hd, O.one 2 (by decide), _, rfl, _, _, _, rfl, (fun _ r => r), hd, O.one 3 (by decide), by show 4 ≤ sizeLine; decide, fun k1 h1 => ?_⟩
    have s1 := sameNew (o := .lst [.bl (decide (0 = j)), .bl (decide (1 = j)), .bl (decide (2 = j)), .bl (decide (3 = j))]) (Same.refl H) h1
    have e1 : upd H k1 (.lst [.bl (decide (0 = j)), .bl (decide (1 = j)), .bl (decide (2 = j)), .bl (decide (3 = j))]) k1 = some (.lst [.bl (decide (0 = j)), .bl (decide (1 = j)), .bl (decide (2 = j)), .bl (decide (3 = j))]) := upd_same
    have hd1 := dictAt_same hd s1
    generalize upd H k1 (.lst [.bl (decide (0 = j)), .bl (decide (1 = j)), .bl (decide (2 = j)), .bl (decide (3 = j))]) = H1 at s1 e1 hd1 ⊢
    refine ⟨_, rfl, _, rfl, _, _, _, rfl, (fun _ r => r), hd1, O.one 4 (by decide), _, rfl, _, _, _, rfl, (fun _ r => r), hd1, O.one 5 (by decide), _, rfl, _, _, _, rfl, (fun _ r => r), hd1, O.one 6 (by decide), _, rfl, _, _, _, rfl, (fun _ r => r), hd1, O.one 7 (by decide), by show 4 ≤ sizeLine; decide, fun m2 hm2 => ?_⟩
    have t2 := sameNew (o := .lst [.bl (decide (4 = j)), .bl (decide (5 = j)), .bl (decide (6 = j)), .bl (decide (7 = j))]) (Same.refl H1) hm2
    have f2 : upd H1 m2 (.lst [.bl (decide (4 = j)), .bl (decide (5 = j)), .bl (decide (6 = j)), .bl (decide (7 = j))]) m2 = some (.lst [.bl (decide (4 = j)), .bl (decide (5 = j)), .bl (decide (6 = j)), .bl (decide (7 = j))]) := upd_same
    have e2' := t2 _ _ e1
    generalize upd H1 m2 (.lst [.bl (decide (4 = j)), .bl (decide (5 = j)), .bl (decide (6 = j)), .bl (decide (7 = j))]) = G2 at t2 f2 e2' ⊢
    refine ⟨k1, m2, _, _, rfl, rfl, e2', f2, by show 8 ≤ sizeLine; decide, fun k2 h2 => ?_⟩
    have s2 := sameNew (o := .lst ([.bl (decide (0 = j)), .bl (decide (1 = j)), .bl (decide (2 = j)), .bl (decide (3 = j))] ++ [.bl (decide (4 = j)), .bl (decide (5 = j)), .bl (decide (6 = j)), .bl (decide (7 = j))])) (s1.trans t2) h2
    have e2 : upd G2 k2 (.lst ([.bl (decide (0 = j)), .bl (decide (1 = j)), .bl (decide (2 = j)), .bl (decide (3 = j))] ++ [.bl (decide (4 = j)), .bl (decide (5 = j)), .bl (decide (6 = j)), .bl (decide (7 = j))])) k2 = some (.lst ([.bl (decide (0 = j)), .bl (decide (1 = j)), .bl (decide (2 = j)), .bl (decide (3 = j))] ++ [.bl (decide (4 = j)), .bl (decide (5 = j)), .bl (decide (6 = j)), .bl (decide (7 = j))])) := upd_same
    have hd2 := dictAt_same hd s2
    generalize upd G2 k2 (.lst ([.bl (decide (0 = j)), .bl (decide (1 = j)), .bl (decide (2 = j)), .bl (decide (3 = j))] ++ [.bl (decide (4 = j)), .bl (decide (5 = j)), .bl (decide (6 = j)), .bl (decide (7 = j))])) = H2 at s2 e2 hd2 ⊢
    refine ⟨_, rfl, _, rfl, _, _, _, rfl, (fun _ r => r), hd2, O.one 8 (by decide), _, rfl, _, _, _, rfl, (fun _ r => r), hd2, O.one 9 (by decide), _, rfl, _, _, _, rfl, (fun _ r => r), hd2, O.one 10 (by decide), _, rfl, _, _, _, rfl, (fun _ r => r), hd2, O.one 11 (by decide), by show 4 ≤ sizeLine; decide, fun m3 hm3 => ?_⟩
    have t3 := sameNew (o := .lst [.bl (decide (8 = j)), .bl (decide (9 = j)), .bl (decide (10 = j)), .bl (decide (11 = j))]) (Same.refl H2) hm3
    have f3 : upd H2 m3 (.lst [.bl (decide (8 = j)), .bl (decide (9 = j)), .bl (decide (10 = j)), .bl (decide (11 = j))]) m3 = some (.lst [.bl (decide (8 = j)), .bl (decide (9 = j)), .bl (decide (10 = j)), .bl (decide (11 = j))]) := upd_same
    have e3' := t3 _ _ e2
    generalize upd H2 m3 (.lst [.bl (decide (8 = j)), .bl (decide (9 = j)), .bl (decide (10 = j)), .bl (decide (11 = j))]) = G3 at t3 f3 e3' ⊢
    refine ⟨k2, m3, _, _, rfl, rfl, e3', f3, by show 12 ≤ sizeLine; decide, fun k3 h3 => ?_⟩
    have s3 := sameNew (o := .lst (([.bl (decide (0 = j)), .bl (decide (1 = j)), .bl (decide (2 = j)), .bl (decide (3 = j))] ++ [.bl (decide (4 = j)), .bl (decide (5 = j)), .bl (decide (6 = j)), .bl (decide (7 = j))]) ++ [.bl (decide (8 = j)), .bl (decide (9 = j)), .bl (decide (10 = j)), .bl (decide (11 = j))])) (s2.trans t3) h3
    have e3 : upd G3 k3 (.lst ([.bl (decide (0 = j)), .bl (decide (1 = j)), .bl (decide (2 = j)), .bl (decide (3 = j))] ++ [.bl (decide (4 = j)), .bl (decide (5 = j)), .bl (decide (6 = j)), .bl (decide (7 = j))] ++ [.bl (decide (8 = j)), .bl (decide (9 = j)), .bl (decide (10 = j)), .bl (decide (11 = j))])) k3 = some (.lst ([.bl (decide (0 = j)), .bl (decide (1 = j)), .bl (decide (2 = j)), .bl (decide (3 = j))] ++ [.bl (decide (4 = j)), .bl (decide (5 = j)), .bl (decide (6 = j)), .bl (decide (7 = j))] ++ [.bl (decide (8 = j)), .bl (decide (9 = j)), .bl (decide (10 = j)), .bl (decide (11 = j))])) := upd_same
    have hd3 := dictAt_same hd s3
    generalize upd G3 k3 (.lst ([.bl (decide (0 = j)), .bl (decide (1 = j)), .bl (decide (2 = j)), .bl (decide (3 = j))] ++ [.bl (decide (4 = j)), .bl (decide (5 = j)), .bl (decide (6 = j)), .bl (decide (7 = j))] ++ [.bl (decide (8 = j)), .bl (decide (9 = j)), .bl (decide (10 = j)), .bl (decide (11 = j))])) = H3 at s3 e3 hd3 ⊢
    refine ⟨_, rfl, _, rfl, _, _, _, rfl, (fun _ r => r), hd3, O.one 12 (by decide), _, rfl, _, _, _, rfl, (fun _ r => r), hd3, O.one 13 (by decide), _, rfl, _, _, _, rfl, (fun _ r => r), hd3, O.one 14 (by decide), by show 3 ≤ sizeLine; decide, fun m4 hm4 => ?_⟩
    have t4 := sameNew (o := .lst [.bl (decide (12 = j)), .bl (decide (13 = j)), .bl (decide (14 = j))]) (Same.refl H3) hm4
    have f4 : upd H3 m4 (.lst [.bl (decide (12 = j)), .bl (decide (13 = j)), .bl (decide (14 = j))]) m4 = some (.lst [.bl (decide (12 = j)), .bl (decide (13 = j)), .bl (decide (14 = j))]) := upd_same
    have e4' := t4 _ _ e3
    generalize upd H3 m4 (.lst [.bl (decide (12 = j)), .bl (decide (13 = j)), .bl (decide (14 = j))]) = G4 at t4 f4 e4' ⊢
    refine ⟨k3, m4, _, _, rfl, rfl, e4', f4, by show 15 ≤ sizeLine; decide, fun k4 h4 => ?_⟩
    have s4 := sameNew (o := .lst (([.bl (decide (0 = j)), .bl (decide (1 = j)), .bl (decide (2 = j)), .bl (decide (3 = j))] ++ [.bl (decide (4 = j)), .bl (decide (5 = j)), .bl (decide (6 = j)), .bl (decide (7 = j))] ++ [.bl (decide (8 = j)), .bl (decide (9 = j)), .bl (decide (10 = j)), .bl (decide (11 = j))]) ++ [.bl (decide (12 = j)), .bl (decide (13 = j)), .bl (decide (14 = j))])) (s3.trans t4) h4
    have e4 : upd G4 k4 (.lst ([.bl (decide (0 = j)), .bl (decide (1 = j)), .bl (decide (2 = j)), .bl (decide (3 = j))] ++ [.bl (decide (4 = j)), .bl (decide (5 = j)), .bl (decide (6 = j)), .bl (decide (7 = j))] ++ [.bl (decide (8 = j)), .bl (decide (9 = j)), .bl (decide (10 = j)), .bl (decide (11 = j))] ++ [.bl (decide (12 = j)), .bl (decide (13 = j)), .bl (decide (14 = j))])) k4 = some (.lst ([.bl (decide (0 = j)), .bl (decide (1 = j)), .bl (decide (2 = j)), .bl (decide (3 = j))] ++ [.bl (decide (4 = j)), .bl (decide (5 = j)), .bl (decide (6 = j)), .bl (decide (7 = j))] ++ [.bl (decide (8 = j)), .bl (decide (9 = j)), .bl (decide (10 = j)), .bl (decide (11 = j))] ++ [.bl (decide (12 = j)), .bl (decide (13 = j)), .bl (decide (14 = j))])) := upd_same
    have hd4 := dictAt_same hd s4
    generalize upd G4 k4 (.lst ([.bl (decide (0 = j)), .bl (decide (1 = j)), .bl (decide (2 = j)), .bl (decide (3 = j))] ++ [.bl (decide (4 = j)), .bl (decide (5 = j)), .bl (decide (6 = j)), .bl (decide (7 = j))] ++ [.bl (decide (8 = j)), .bl (decide (9 = j)), .bl (decide (10 = j)), .bl (decide (11 = j))] ++ [.bl (decide (12 = j)), .bl (decide (13 = j)), .bl (decide (14 = j))])) = H4 at s4 e4 hd4 ⊢
    have e4 : H4 k4 = some (.lst (ysJ j)) := e4
    refine ⟨by show 9 ≤ sizeLine; decide, fun a1 ha1 => ?_⟩
    have u1 := sameNew (o := .lst ((nm15.take 9).map V.str)) (Same.refl H4) ha1
    have g1 : upd H4 a1 (.lst ((nm15.take 9).map V.str)) a1 = some (.lst ((nm15.take 9).map V.str)) := upd_same
    refine ⟨_, rfl, by show 6 ≤ sizeLine; decide, fun a2 ha2 => ?_⟩
    have u2 := sameNew (o := .lst ((nm15.drop 9).map V.str)) (Same.refl (upd H4 a1 (.lst ((nm15.take 9).map V.str)))) ha2
    have g2 : upd (upd H4 a1 (.lst ((nm15.take 9).map V.str))) a2 (.lst ((nm15.drop 9).map V.str)) a2 = some (.lst ((nm15.drop 9).map V.str)) := upd_same
    refine ⟨a1, a2, (nm15.take 9).map V.str, (nm15.drop 9).map V.str, rfl, rfl, u2 _ _ g1, g2, by show 15 ≤ sizeLine; decide, fun a3 ha3 => ?_⟩
    have u3 := sameNew (o := .lst ((nm15.take 9).map V.str ++ (nm15.drop 9).map V.str)) ((s4.trans u1).trans u2) ha3
    have u43 := sameNew (o := .lst ((nm15.take 9).map V.str ++ (nm15.drop 9).map V.str)) (u1.trans u2) ha3
    have g3 : upd (upd (upd H4 a1 (.lst ((nm15.take 9).map V.str))) a2 (.lst ((nm15.drop 9).map V.str))) a3 (.lst ((nm15.take 9).map V.str ++ (nm15.drop 9).map V.str)) a3 = some (.lst (nm15.map V.str)) := upd_same
    have e5 := u43 _ _ e4
    have hd5 := dictAt_same hd u3
    have k5 := k _ u3
    obtain ⟨y1, y2, y3, y4⟩ := ysJ_ok j O.lt
    refine ⟨_, rfl, .inl ⟨rfl, _, SqL.of e5⟩, k4, ysJ j, .bl true, rfl, rfl, SqL.of e5, rfl, y1, ?_⟩
    rw [y2]
    refine ⟨rfl, _, rfl, iteT' rfl ?_⟩
    refine ⟨_, rfl, _, _, _, rfl, (fun _ r => r), hd5, O.ve, _, rfl, iteT ?_⟩
    refine ⟨_, rfl, _, rfl, .inl ⟨rfl, _, SqL.of e5⟩, k4, ysJ j, .bl true, j, .bl true, rfl, rfl, SqL.of e5, rfl, y1, y3, rfl, fun m z hm hz => ?_, ?_⟩
    · rw [y4 m hm] at hz
      cases hz
      rfl
    · exact ⟨a3, _, _, _, rfl, rfl, SqL.of g3, atI_nat (nm15_ok j O.lt), k5⟩
end
end RS
set_option Elab.async false
set_option maxRecDepth 100000
set_option maxHeartbeats 4000000
namespace RS
open PySem PySem.Spec PyProof.Rows L2 GX
/-! ### the drawer -/
structure BoxAt (H : Hp) (B L : Addr) : Prop where
  ne : B ≠ L
  b : ∃ s : Int, H B = some (.lst [.ref L, .int s])
  l : ∃ ms : List Int, H L = some (.lst (ms.map V.int))
/-- all but the drawer stays -/
def SameX (B L : Addr) (H H' : Hp) : Prop := ∀ b o, b ≠ B → b ≠ L → H b = some o → H' b = some o
theorem SameX.refl {B L : Addr} {H : Hp} : SameX B L H H := fun _ _ _ _ e => e
theorem SameX.trans {B L : Addr} {H H1 H2 : Hp} (a : SameX B L H H1) (b : SameX B L H1 H2) : SameX B L H H2 := fun c o h1 h2 e => b c o h1 h2 (a c o h1 h2 e)
theorem SameX.of {B L : Addr} {H H' : Hp} (s : Same H H') : SameX B L H H' := fun b o _ _ e => s b o e
theorem BoxAt.same {H H' : Hp} {B L : Addr} (h : BoxAt H B L) (s : Same H H') : BoxAt H' B L := by
  obtain ⟨n, ⟨x, hb⟩, ⟨ms, hl⟩⟩ := h
  exact ⟨n, ⟨x, s _ _ hb⟩, ⟨ms, s _ _ hl⟩⟩
section
variable {P : Program} {w : World} {K : PySem.W.Frag} {mg : Str → Option Value} {base : Heap}
theorem dpInts {K : PySem.W.Frag} {H : Hp} : ∀ {ns : List Int}, DpAll K H (ns.map V.int) (ns.map .int)
  | [] => .nil
  | n :: _ => .cons (.int n) dpInts
theorem scBegun : FnScope ["_law_script", "_law_stirred", "_law_cell"] ["_law_script"] (defScope sBegun) := ⟨rfl, rfl, rfl, by decide +kernel, rfl, by decide +kernel, by decide +kernel⟩
def spBegun (K : PySem.W.Frag) : Sp := fun vs H Q _ => ∃ (a : Addr) (ns : List Int), vs = [.ref a] ∧ SqL K H a (ns.map V.int) ∧
  ∀ (H' : Hp) (B L : Addr), Same H H' → H B = none → H L = none → BoxAt H' B L → Q (.ref B) H'
theorem begun_ok {c : Addr} (D : DefAt K mg "_law_begun" sBegun c) (T : Txt K mg) : Cal P w K mg base CX0 1 "_law_begun" ["_law_script"] (spBegun K) := by
  have sc := scBegun
  refine def_ok0 D sc (fun vs H Q E h => ?_) (fun _ _ _ _ _ _ us hl => match us, hl with | [_], _ => rfl) (fun f A outer s H vs Q E hr h => ?_)
  · obtain ⟨a, ns, rfl, _⟩ := h
    rfl
  · obtain ⟨a, ns, rfl, hS, k⟩ := h
    refine ⟨_, (pss_cons (ps_set (i := 1) sc.nd rfl (Or.inl rfl) pe_int) (pss_cons (ps_for PassesOwn.never rfl (pi_list (pv 0)) (pg_name (i := 2) sc.nd rfl (Or.inl rfl)) (pss_one (ps_set (i := 1) sc.nd rfl (Or.inl rfl) (pe_op op_mod (pe_op op_add (pe_op op_add (pe_op op_mul (pv 1) pe_int) (pe_op op_mul (pv 2) pe_int)) pe_int) pe_int)))) (pss_one (ps_ret (pe_lst (pa_cons (pe_callTy call_list_of (by rfl) T.list_ (by decide +kernel) (pa_cons (pv 0) pa_nil)) (pa_cons (pe_op op_mul (pv 1) (pe_callTy call_int1 (by rfl) T.int_ (by decide +kernel) (pa_cons (pe_cmpR op_gt (pe_callB call_lenD (by rfl) T.len PySem.boot_len (pa_cons (pv 0) pa_nil)) pe_int (nomark _)) pa_nil))) pa_nil))))))), ?_⟩
    refine ⟨_, rfl, a, rfl, ⟨_, hS⟩, for_list (K := K) (a := a) (xs := ns.map V.int) (fun i σ H' => ∃ (st : Int) (v2 : Option V), σ = [some (.ref a), some (.int st), v2] ∧ 0 ≤ st ∧ st < 2147483647 ∧ H' = H)
      ⟨0, none, rfl, by decide, by decide, rfl⟩ (fun i σ H' _ ⟨_, _, _, _, _, e⟩ => by rw [e]; exact hS) ?_ ?_⟩
    · rintro i x σ H' hx ⟨st, v2, rfl, h0, h1, rfl⟩
      obtain ⟨n, en, rfl⟩ : ∃ n, ns[i]? = some n ∧ x = V.int n := by
        rw [List.getElem?_map] at hx
        cases q : ns[i]? with
        | none => rw [q] at hx; cases hx
        | some b => rw [q] at hx; exact ⟨b, rfl, (Option.some.inj hx).symm⟩
      refine ⟨_, rfl, _, _, rfl, rfl, .inl ⟨by omega, by omega⟩, ?_⟩
      refine ⟨_, rfl, _, _, rfl, rfl, .inr ⟨by omega, by omega⟩, ?_⟩
      refine ⟨_, _, rfl, rfl, _, _, rfl, rfl, _, _, rfl, rfl, (by show (0 : Int) < 2147483647; decide), ?_⟩
      exact ⟨_, _, rfl, Int.emod_nonneg _ (by decide), Int.emod_lt_of_pos _ (by decide), rfl⟩
    · rintro σ H' ⟨st, v2, rfl, h0, h1, rfl⟩
      refine ⟨_, rfl, a, _, rfl, .inl hS, fun L hL => ?_⟩
      have s1 : Same H' (upd H' L (.lst (ns.map V.int))) := fun b o e => by
        rw [upd_ne (ne_of_none e hL)]
        exact e
      refine ⟨_, rfl, _, rfl, .ref a, _, _, rfl, .lst (s1.seq hS) dpInts, rfl, _, _, rfl, rfl, .inr ⟨_, rfl, ?_⟩⟩
      refine ⟨_, _, rfl, rfl, .inl ⟨by omega, by omega⟩, ?_⟩
      refine ⟨by show 2 ≤ sizeLine; decide, fun B hB => ?_⟩
      have n1 : L ≠ B := fun z => by rw [← z, upd_same] at hB; cases hB
      exact k _ B L (fun b o e => by rw [upd_ne (ne_of_none (s1 _ _ e) hB)]; exact s1 _ _ e) (s1.free hB) hL ⟨Ne.symm n1, ⟨_, upd_same⟩, ⟨ns, (upd_ne n1).trans upd_same⟩⟩
end
end RS
set_option Elab.async false
set_option maxRecDepth 100000
set_option maxHeartbeats 4000000
namespace RS
open PySem PySem.Spec PyProof.Rows L2 GX
section
variable {P : Program} {w : World} {K : PySem.W.Frag} {mg : Str → Option Value} {base : Heap}
theorem scTake : FnScope ["_law_box", "_law_many", "_law_number"] ["_law_box", "_law_many"] (defScope sTake) := ⟨rfl, rfl, rfl, by decide +kernel, rfl, by decide +kernel, by decide +kernel⟩
def spTake : Sp := fun vs H Q _ => ∃ (B L : Addr) (m : Int), vs = [.ref B, .int m] ∧ BoxAt H B L ∧ 1 ≤ m ∧ m ≤ 1000000000000000000 ∧
  ∀ (H' : Hp) (k : Int), SameX B L H H' → BoxAt H' B L → 0 ≤ k → k < m → Q (.int k) H'
theorem eqv_nil (ds : List PyData) : PyData.eqv (.list ds) (.list []) = ds.isEmpty := by
  cases ds <;> simp [PyData.eqv, PyData.eqvAll]
theorem shaped_ints (ms : List Int) : SeqAt.shaped (.list (ms.map .int)) = true := by
  have h1 : PyData.canLayAll0 (ms.map .int) = true := by
    induction ms with
    | nil => simp [PyData.canLayAll0]
    | cons m ms ih => simp [PyData.canLayAll0, PyData.canLay0, ih]
  have h2 : PyData.depthAll (ms.map .int) = 0 := depth0 fun d hd => by
    obtain ⟨n, _, rfl⟩ := List.mem_map.mp hd
    simp [PyData.depth]
  simp [SeqAt.shaped, PyData.canLay0, PyData.depth, h1, h2]
theorem take_ok {c : Addr} (D : DefAt K mg "_law_take" sTake c) : Cal P w K mg base CX0 1 "_law_take" ["_law_box", "_law_many"] spTake := by
  have sc := scTake
  refine def_ok0 D sc (fun vs H Q E h => ?_) (fun _ _ _ _ _ _ us hl => match us, hl with | [_, _], _ => rfl) (fun f A outer s H vs Q E hr h => ?_)
  · obtain ⟨B, L, m, rfl, _⟩ := h
    rfl
  · obtain ⟨B, L, m, rfl, ⟨nBL, ⟨st, hB⟩, ⟨ms, hL⟩⟩, hm, hm2, k⟩ := h
    have hu := hr.units
    refine ⟨_, (pss_cons (ps_if (pt_cmpR (op_eqD hu) (pe_ix ix_list (pv 0) pe_int (fun _ _ => rfl)) (pe_lst pa_nil) (nomark _)) (pss_cons (ps_asg (pe_op op_mod (pe_op op_mul (pe_ix ix_list (pv 0) pe_int (fun _ _ => rfl)) pe_int) pe_int) (pg_sub (pv 0) pe_int set_list)) (pss_one (ps_ret (pe_op op_mod (pe_op op_fdiv (pe_ix ix_list (pv 0) pe_int (fun _ _ => rfl)) pe_int) (pv 1))))) pss_nil) (pss_cons (ps_set (i := 2) sc.nd rfl (Or.inl rfl) (pe_ix ix_list (pe_ix ix_list (pv 0) pe_int (fun _ _ => rfl)) pe_int (fun _ _ => rfl))) (pss_cons (ps_asg (pe_op op_fdivW (pv 2) (pv 1)) (pg_sub (pe_ix ix_list (pv 0) pe_int (fun _ _ => rfl)) pe_int set_list)) (pss_cons (ps_if ((pw_or (pt_cmpR op_eq (pe_ix ix_list (pe_ix ix_list (pv 0) pe_int (fun _ _ => rfl)) pe_int (fun _ _ => rfl)) pe_int (nomark _)) (pw_or1 (pt_cmpR op_eq (pe_ix ix_list (pe_ix ix_list (pv 0) pe_int (fun _ _ => rfl)) pe_int (fun _ _ => rfl)) (pe_un un_neg pe_int) (nomark _)))).pt) (pss_one (ps_expr (pe_bm PySem.F.plainAttrs_list PySem.F.slot_list_pop PySem.F.type_list_pop mt_popAt (pe_ix ix_list (pv 0) pe_int (fun _ _ => rfl)) (pa_cons pe_int pa_nil)))) pss_nil) (pss_one (ps_ret (pe_op op_mod (pv 2) (pv 1)))))))), ?_⟩
    refine ⟨_, rfl, B, _, _, _, rfl, rfl, SqL.of hB, rfl, Nat.zero_le _, fun e0 he0 => ?_⟩
    have s0 : Same H (upd H e0 (.lst [])) := fun b o e => by
      rw [upd_ne (ne_of_none e he0)]
      exact e
    refine ⟨.list (ms.map .int), .list [], .lst (s0.seq (SqL.of hL)) dpInts, .lst (SqL.of upd_same) .nil, ?_, rfl, _, rfl, ?_⟩
    · exact shaped_ints ms
    rw [eqv_nil]
    have hB0 := s0 _ _ hB
    have hL0 := s0 _ _ hL
    cases ms with
    | nil =>
      refine iteT ⟨_, rfl, B, _, _, _, rfl, rfl, SqL.of hB0, atI_nat (j := 1) rfl, _, _, rfl, rfl, .inr ⟨by decide, by decide⟩, ?_⟩
      refine ⟨_, _, rfl, rfl, (by show (0 : Int) < 2147483647; decide), ?_⟩
      refine ⟨_, rfl, B, _, _, 1, rfl, rfl, hB0, rfl, ?_⟩
      refine ⟨_, rfl, B, _, _, _, rfl, rfl, SqL.of upd_same, atI_nat (j := 1) rfl, ?_⟩
      refine ⟨_, _, rfl, rfl, ⟨by decide, by decide⟩, _, rfl, _, _, rfl, rfl, (by show (0 : Int) < m; omega), ?_⟩
      refine k _ _ (fun b o h1 h2 e => ?_) ⟨nBL, ⟨_, upd_same⟩, ⟨[], (upd_ne (Ne.symm nBL)).trans hL0⟩⟩ (Int.emod_nonneg _ (by omega)) (Int.emod_lt_of_pos _ (by omega))
      rw [upd_ne h1]
      exact s0 _ _ e
    | cons m0 ms =>
      refine iteF ⟨_, rfl, B, _, _, _, rfl, rfl, SqL.of hB0, atI_nat (j := 0) rfl, L, _, _, _, rfl, rfl, SqL.of hL0, atI_nat (j := 0) rfl, ?_⟩
      refine ⟨_, rfl, _, rfl, _, _, rfl, rfl, wide_div (b := 64) (by omega) (by show m.natAbs < 18446744073709551616; omega) (by decide) (by decide), ?_⟩
      refine ⟨_, rfl, B, _, _, _, rfl, rfl, SqL.of hB0, atI_nat (j := 0) rfl, L, _, _, 0, rfl, rfl, hL0, by simp [ixN], ?_⟩
      have hB1 : upd (upd H e0 (.lst [])) L (.lst (((m0 :: ms).map V.int).set 0 (.int (m0 / m)))) B = some (.lst [.ref L, .int st]) := (upd_ne nBL).trans hB0
      refine ⟨_, rfl, B, _, _, _, rfl, rfl, SqL.of hB1, atI_nat (j := 0) rfl, L, _, _, _, rfl, rfl, SqL.of upd_same, atI_nat (j := 0) rfl, ?_⟩
      have sx : ∀ (u : HO) (b : Addr) (o : HO), b ≠ B → b ≠ L → H b = some o → upd (upd H e0 (.lst [])) L u b = some o := fun u b o h1 h2 e => by
        rw [upd_ne h2]
        exact s0 _ _ e
      have ret : ∀ (H2 : Hp), SameX B L H H2 → BoxAt H2 B L → (∃ v, (some (V.int m0) : Option V) = some v ∧ v = .int m0) → Q (.int (m0 % m)) H2 := fun H2 s2 b2 _ => k H2 _ s2 b2 (Int.emod_nonneg _ (by omega)) (Int.emod_lt_of_pos _ (by omega))
      have box1 : BoxAt (upd (upd H e0 (.lst [])) L (.lst (V.int (m0 / m) :: ms.map V.int))) B L := ⟨nBL, ⟨_, hB1⟩, ⟨m0 / m :: ms, upd_same⟩⟩
      have box2 : BoxAt (upd (upd (upd H e0 (.lst [])) L (.lst (V.int (m0 / m) :: ms.map V.int))) L (.lst (ms.map V.int))) B L := ⟨nBL, ⟨_, (upd_ne nBL).trans hB1⟩, ⟨ms, upd_same⟩⟩
      have sx2 : SameX B L H (upd (upd (upd H e0 (.lst [])) L (.lst (V.int (m0 / m) :: ms.map V.int))) L (.lst (ms.map V.int))) := fun b o h1 h2 e => by
        rw [upd_ne h2]
        exact sx _ b o h1 h2 e
      have sk : seqIndex? 0 (V.int (m0 / m) :: ms.map V.int).length = some 0 := by
        simp [seqIndex?]
      refine ⟨rfl, _, rfl, ?_⟩
      refine ite2 (fun h1 => ?_) (fun h1 => ?_)
      · refine iteT ⟨_, rfl, B, _, _, _, rfl, rfl, SqL.of hB1, atI_nat (j := 0) rfl, .inl ⟨rfl, _, SqL.of upd_same⟩, L, _, 0, 0, _, rfl, rfl, upd_same, by decide, by decide, sk, rfl, ?_⟩
        exact ⟨_, rfl, _, rfl, _, _, rfl, rfl, (by show (0 : Int) < m; omega), ret _ sx2 box2 ⟨_, rfl, rfl⟩⟩
      · refine ⟨_, rfl, B, _, _, _, rfl, rfl, SqL.of hB1, atI_nat (j := 0) rfl, L, _, _, _, rfl, rfl, SqL.of upd_same, atI_nat (j := 0) rfl, ?_⟩
        refine ⟨_, rfl, rfl, _, rfl, ?_⟩
        refine ite2 (fun h1 => ?_) (fun h1 => ?_)
        · refine ⟨_, rfl, B, _, _, _, rfl, rfl, SqL.of hB1, atI_nat (j := 0) rfl, .inl ⟨rfl, _, SqL.of upd_same⟩, L, _, 0, 0, _, rfl, rfl, upd_same, by decide, by decide, sk, rfl, ?_⟩
          exact ⟨_, rfl, _, rfl, _, _, rfl, rfl, (by show (0 : Int) < m; omega), ret _ sx2 box2 ⟨_, rfl, rfl⟩⟩
        · exact ⟨_, rfl, _, rfl, _, _, rfl, rfl, (by show (0 : Int) < m; omega), ret _ (sx _) box1 ⟨_, rfl, rfl⟩⟩
end
end RS
set_option Elab.async false
set_option maxRecDepth 100000
set_option maxHeartbeats 8000000
namespace RS
open PySem PySem.Spec PyProof.Rows L2 GX
mutual
def few : PyData → Prop
  | .list ds => ds.length ≤ 1000000 ∧ fews ds
  | .tuple ds => ds.length ≤ 1000000 ∧ fews ds
  | .dict _ => False
  | _ => True
def fews : List PyData → Prop
  | [] => True
  | d :: ds => few d ∧ fews ds
end
theorem fews_iff : ∀ {ds : List PyData}, fews ds ↔ ∀ d ∈ ds, few d
  | [] => by simp [fews]
  | d :: ds => by
    unfold fews
    rw [fews_iff]
    simp
theorem depth_mem : ∀ {ds : List PyData} {d : PyData}, d ∈ ds → d.depth ≤ PyData.depthAll ds
  | [], _, h => by cases h
  | e :: ds, d, h => by
    simp only [PyData.depthAll]
    rcases List.mem_cons.mp h with q | q
    · subst q
      omega
    · have := depth_mem q
      omega
end RS
set_option Elab.async false
set_option maxRecDepth 100000
set_option maxHeartbeats 8000000
namespace RS
open PySem PySem.Spec PyProof.Rows L2 GX
section
variable {P : Program} {w : World} {K : PySem.W.Frag} {mg : Str → Option Value} {base : Heap}
theorem scAlike : FnScope ["_law_found", "_law_due", "_law_k"] ["_law_found", "_law_due"] (defScope sAlike) := ⟨rfl, rfl, rfl, by decide +kernel, rfl, by decide +kernel, by decide +kernel⟩
def spAlike (K : PySem.W.Frag) (n : Nat) : Sp := fun vs H Q _ => ∃ (v1 v2 : V) (d : PyData), vs = [v1, v2] ∧ Dp K H v1 d ∧ Dp K H v2 d ∧ few d ∧ d.depth ≤ n ∧ Q (.bl true) H
set_option linter.unusedVariables false in
theorem alike_none {c : Addr} (D : DefAt K mg "_law_alike" sAlike c) : Cal P w K mg base CX0 1 "_law_alike" ["_law_found", "_law_due"] (fun _ _ _ _ => False) :=
  def_ok0 D scAlike (fun vs H Q E h => h.elim) (fun _ _ _ _ _ _ us hl => match us, hl with | [_, _], _ => rfl) (fun f A outer s H vs Q E hr h => h.elim)
theorem alike_step {c : Addr} (D : DefAt K mg "_law_alike" sAlike c) (T : Txt K mg) {j : Nat} (n : Nat) {sp : Sp} (hj : 1 ≤ j) (cR : Cal P w K mg base CX0 j "_law_alike" ["_law_found", "_law_due"] sp)
    (hsp : ∀ (v1 v2 : V) (d : PyData) (H : Hp) (Q : VK) (E : XK), Dp K H v1 d → Dp K H v2 d → few d → d.depth + 1 ≤ n → Q (.bl true) H → sp [v1, v2] H Q E) : Cal P w K mg base CX0 (j + 1) "_law_alike" ["_law_found", "_law_due"] (spAlike K n) := by
  have sc := scAlike
  refine def_ok0 D sc (fun vs H Q E h => ?_) (fun _ _ _ _ _ _ us hl => match us, hl with | [_, _], _ => rfl) (fun f A outer s H vs Q E hr h => ?_)
  · obtain ⟨v1, v2, d, rfl, _⟩ := h
    rfl
  · obtain ⟨v1, v2, d, rfl, h1, h2, hf, hn, k⟩ := h
    refine ⟨_, (pss_cons (ps_if (pt_cmpR op_isN (pv 1) pe_non (nomark _)) (pss_one (ps_ret (pe_cmpR op_isN (pv 0) pe_non (nomark _)))) pss_nil) (pss_cons (ps_if (pt_val (pe_callB call_isiD (by rfl) T.isinstance (by decide +kernel) (pa_cons (pv 1) (pa_cons (pe_bltn (v := V.ty "bool") (u := Value.type "bool") (by rfl) T.bool_ (by decide +kernel) rfl) pa_nil)))) (pss_one (ps_ret (pe_and (pe_callB call_isiD (by rfl) T.isinstance (by decide +kernel) (pa_cons (pv 0) (pa_cons (pe_bltn (v := V.ty "bool") (u := Value.type "bool") (by rfl) T.bool_ (by decide +kernel) rfl) pa_nil))) (pe_one (pe_cmpR op_eq (pv 0) (pv 1) (nomark _)))))) pss_nil) (pss_cons (ps_if (pt_val (pe_callB call_isiD (by rfl) T.isinstance (by decide +kernel) (pa_cons (pv 1) (pa_cons (pe_bltn (v := V.ty "int") (u := Value.type "int") (by rfl) T.int_ (by decide +kernel) rfl) pa_nil)))) (pss_one (ps_ret (pe_and (pe_callB call_isiD (by rfl) T.isinstance (by decide +kernel) (pa_cons (pv 0) (pa_cons (pe_bltn (v := V.ty "int") (u := Value.type "int") (by rfl) T.int_ (by decide +kernel) rfl) pa_nil))) (pe_and (pe_not (pe_callB call_isiD (by rfl) T.isinstance (by decide +kernel) (pa_cons (pv 0) (pa_cons (pe_bltn (v := V.ty "bool") (u := Value.type "bool") (by rfl) T.bool_ (by decide +kernel) rfl) pa_nil)))) (pe_one (pe_cmpR op_eq (pv 0) (pv 1) (nomark _))))))) pss_nil) (pss_cons (ps_if (pt_val (pe_callB call_isiD (by rfl) T.isinstance (by decide +kernel) (pa_cons (pv 1) (pa_cons (pe_bltn (v := V.ty "str") (u := Value.type "str") (by rfl) T.str_ (by decide +kernel) rfl) pa_nil)))) (pss_one (ps_ret (pe_and (pe_callB call_isiD (by rfl) T.isinstance (by decide +kernel) (pa_cons (pv 0) (pa_cons (pe_bltn (v := V.ty "str") (u := Value.type "str") (by rfl) T.str_ (by decide +kernel) rfl) pa_nil))) (pe_one (pe_cmpR op_eq (pv 0) (pv 1) (nomark _)))))) pss_nil) (pss_cons (ps_if ((pw_or (pt_cmpR op_ne (pe_callB call_isiD (by rfl) T.isinstance (by decide +kernel) (pa_cons (pv 1) (pa_cons (pe_bltn (v := V.ty "tuple") (u := Value.type "tuple") (by rfl) T.tuple_ (by decide +kernel) rfl) pa_nil))) (pe_callB call_isiD (by rfl) T.isinstance (by decide +kernel) (pa_cons (pv 0) (pa_cons (pe_bltn (v := V.ty "tuple") (u := Value.type "tuple") (by rfl) T.tuple_ (by decide +kernel) rfl) pa_nil))) (nomark _)) (pw_or1 (pt_cmpR op_ne (pe_callB call_isiD (by rfl) T.isinstance (by decide +kernel) (pa_cons (pv 1) (pa_cons (pe_bltn (v := V.ty "list") (u := Value.type "list") (by rfl) T.list_ (by decide +kernel) rfl) pa_nil))) (pe_callB call_isiD (by rfl) T.isinstance (by decide +kernel) (pa_cons (pv 0) (pa_cons (pe_bltn (v := V.ty "list") (u := Value.type "list") (by rfl) T.list_ (by decide +kernel) rfl) pa_nil))) (nomark _)))).pt) (pss_one (ps_ret pe_bl)) pss_nil) (pss_cons (ps_if (pt_cmpR op_ne (pe_callB call_lenD (by rfl) T.len PySem.boot_len (pa_cons (pv 0) pa_nil)) (pe_callB call_lenD (by rfl) T.len PySem.boot_len (pa_cons (pv 1) pa_nil)) (nomark _)) (pss_one (ps_ret pe_bl)) pss_nil) (pss_cons (ps_for PassesOwn.never rfl (pi_range1 (by rfl) T.range (pa_cons (pe_callB call_lenD (by rfl) T.len PySem.boot_len (pa_cons (pv 1) pa_nil)) pa_nil)) (pg_name (i := 2) sc.nd rfl (Or.inl rfl)) (pss_one (ps_if (pt_not (pt_val (pe_c cR hr (by omega) (by rfl) pass0 (pa_cons (pe_ix ixD (pv 0) (pv 2) (fun _ _ => rfl)) (pa_cons (pe_ix ixD (pv 1) (pv 2) (fun _ _ => rfl)) pa_nil))))) (pss_one (ps_ret pe_bl)) pss_nil))) (pss_one (ps_ret pe_bl))))))))), ?_⟩
    refine ⟨_, rfl, rfl, _, rfl, ?_⟩
    cases h2 with
    | non =>
      cases h1
      exact iteT ⟨_, rfl, rfl, k⟩
    | bl b =>
      cases h1
      refine iteF ⟨_, rfl, _, _, _, rfl, by simp, .bl b, _, rfl, ?_⟩
      refine iteT ⟨_, rfl, _, _, _, rfl, by simp, .bl b, _, rfl, ?_⟩
      refine iteT ⟨_, rfl, _, rfl, rfl, ?_⟩
      have e : decide (V.bl b = V.bl b) = true := decide_eq_true rfl
      rw [e]
      exact k
    | int i =>
      cases h1
      refine iteF ⟨_, rfl, _, _, _, rfl, by simp, .int i, _, rfl, ?_⟩
      refine iteF ⟨_, rfl, _, _, _, rfl, by simp, .int i, _, rfl, ?_⟩
      refine iteT ⟨_, rfl, _, _, _, rfl, by simp, .int i, _, rfl, ?_⟩
      refine iteT ⟨_, rfl, _, _, _, rfl, by simp, .int i, _, rfl, _, rfl, ?_⟩
      refine iteT ⟨_, rfl, _, rfl, rfl, ?_⟩
      have e : decide (V.int i = V.int i) = true := decide_eq_true rfl
      rw [e]
      exact k
    | str x =>
      cases h1
      refine iteF ⟨_, rfl, _, _, _, rfl, by simp, .str x, _, rfl, ?_⟩
      refine iteF ⟨_, rfl, _, _, _, rfl, by simp, .str x, _, rfl, ?_⟩
      refine iteF ⟨_, rfl, _, _, _, rfl, by simp, .str x, _, rfl, ?_⟩
      refine iteT ⟨_, rfl, _, _, _, rfl, by simp, .str x, _, rfl, ?_⟩
      refine iteT ⟨_, rfl, _, rfl, rfl, ?_⟩
      have e : decide (V.str x = V.str x) = true := decide_eq_true rfl
      rw [e]
      exact k
    | @lst a2 x2 ds q2 i2 =>
      have h2 : Dp K H (.ref a2) (.list ds) := .lst q2 i2
      have hds : ds.length ≤ 1000000 ∧ ∀ d ∈ ds, few d := by
        have : ds.length ≤ 1000000 ∧ fews ds := by simpa only [few] using hf
        exact ⟨this.1, fews_iff.mp this.2⟩
      have hdep : ∀ d ∈ ds, d.depth + 1 ≤ n := fun d hd => by
        have a : PyData.depthAll ds + 1 ≤ n := by simpa only [PyData.depth] using hn
        have := depth_mem hd
        omega
      obtain ⟨a1, rfl⟩ : ∃ a1, v1 = .ref a1 := by cases h1; exact ⟨_, rfl⟩
      refine iteF ⟨_, rfl, _, _, _, rfl, by simp, h2, _, rfl, ?_⟩
      refine iteF ⟨_, rfl, _, _, _, rfl, by simp, h2, _, rfl, ?_⟩
      refine iteF ⟨_, rfl, _, _, _, rfl, by simp, h2, _, rfl, ?_⟩
      refine iteF ⟨_, rfl, _, _, _, rfl, by simp, h2, _, rfl, _, _, _, rfl, by simp, h1, rfl, _, rfl, ?_⟩
      refine iteF' (by simp) ⟨_, rfl, _, _, _, rfl, by simp, h2, _, rfl, _, _, _, rfl, by simp, h1, rfl, _, rfl, ?_⟩
      refine iteF' (by simp) ⟨_, rfl, _, _, _, rfl, h1, rfl, _, rfl, _, _, _, rfl, h2, rfl, rfl, _, rfl, ?_⟩
      refine iteF' (by simp) ⟨_, rfl, _, _, _, rfl, h2, rfl, _, rfl, by omega, by omega, ?_⟩
      rw [Int.toNat_natCast]
      refine for_range (fun i σ H' => ∃ v3 : Option V, σ = [some (.ref a1), some (.ref a2), v3] ∧ H' = H) ⟨none, rfl, rfl⟩ ?_ ?_
      · rintro i σ H' hi ⟨v3, rfl, rfl⟩
        simp only [Int.zero_add]
        refine ⟨_, rfl, _, rfl, .list ds, ds, (i : Nat), ds[i], h1, rfl, rfl, atI_nat (List.getElem?_eq_getElem hi), fun w1 hw1 => ?_⟩
        refine ⟨_, rfl, _, rfl, .list ds, ds, (i : Nat), ds[i], h2, rfl, rfl, atI_nat (List.getElem?_eq_getElem hi), fun w2 hw2 => ?_⟩
        refine hsp w1 w2 ds[i] H' _ _ hw1 hw2 (hds.2 _ (List.getElem_mem hi)) (hdep _ (List.getElem_mem hi)) ⟨_, rfl, ?_⟩
        exact iteF ⟨_, rfl, rfl⟩
      · rintro σ H' ⟨v3, rfl, rfl⟩
        exact k
    | @tup a2 x2 ds q2 i2 =>
      have h2 : Dp K H (.ref a2) (.tuple ds) := .tup q2 i2
      have hds : ds.length ≤ 1000000 ∧ ∀ d ∈ ds, few d := by
        have : ds.length ≤ 1000000 ∧ fews ds := by simpa only [few] using hf
        exact ⟨this.1, fews_iff.mp this.2⟩
      have hdep : ∀ d ∈ ds, d.depth + 1 ≤ n := fun d hd => by
        have a : PyData.depthAll ds + 1 ≤ n := by simpa only [PyData.depth] using hn
        have := depth_mem hd
        omega
      obtain ⟨a1, rfl⟩ : ∃ a1, v1 = .ref a1 := by cases h1; exact ⟨_, rfl⟩
      refine iteF ⟨_, rfl, _, _, _, rfl, by simp, h2, _, rfl, ?_⟩
      refine iteF ⟨_, rfl, _, _, _, rfl, by simp, h2, _, rfl, ?_⟩
      refine iteF ⟨_, rfl, _, _, _, rfl, by simp, h2, _, rfl, ?_⟩
      refine iteF ⟨_, rfl, _, _, _, rfl, by simp, h2, _, rfl, _, _, _, rfl, by simp, h1, rfl, _, rfl, ?_⟩
      refine iteF' (by simp) ⟨_, rfl, _, _, _, rfl, by simp, h2, _, rfl, _, _, _, rfl, by simp, h1, rfl, _, rfl, ?_⟩
      refine iteF' (by simp) ⟨_, rfl, _, _, _, rfl, h1, rfl, _, rfl, _, _, _, rfl, h2, rfl, rfl, _, rfl, ?_⟩
      refine iteF' (by simp) ⟨_, rfl, _, _, _, rfl, h2, rfl, _, rfl, by omega, by omega, ?_⟩
      rw [Int.toNat_natCast]
      refine for_range (fun i σ H' => ∃ v3 : Option V, σ = [some (.ref a1), some (.ref a2), v3] ∧ H' = H) ⟨none, rfl, rfl⟩ ?_ ?_
      · rintro i σ H' hi ⟨v3, rfl, rfl⟩
        simp only [Int.zero_add]
        refine ⟨_, rfl, _, rfl, .tuple ds, ds, (i : Nat), ds[i], h1, rfl, rfl, atI_nat (List.getElem?_eq_getElem hi), fun w1 hw1 => ?_⟩
        refine ⟨_, rfl, _, rfl, .tuple ds, ds, (i : Nat), ds[i], h2, rfl, rfl, atI_nat (List.getElem?_eq_getElem hi), fun w2 hw2 => ?_⟩
        refine hsp w1 w2 ds[i] H' _ _ hw1 hw2 (hds.2 _ (List.getElem_mem hi)) (hdep _ (List.getElem_mem hi)) ⟨_, rfl, ?_⟩
        exact iteF ⟨_, rfl, rfl⟩
      · rintro σ H' ⟨v3, rfl, rfl⟩
        exact k
theorem alike_ok {c : Addr} (D : DefAt K mg "_law_alike" sAlike c) (T : Txt K mg) : ∀ n : Nat, Cal P w K mg base CX0 (n + 2) "_law_alike" ["_law_found", "_law_due"] (spAlike K n)
  | 0 => alike_step D T 0 (Nat.le_refl _) (alike_none D) (fun _ _ _ _ _ _ _ _ _ h _ => by omega)
  | n + 1 => alike_step D T (n + 1) (by omega) (alike_ok D T n) (fun v1 v2 d H Q E h1 h2 h3 h4 q => ⟨v1, v2, d, rfl, h1, h2, h3, by omega, q⟩)
end
end RS
set_option Elab.async false
set_option maxRecDepth 100000
set_option maxHeartbeats 4000000
set_option pp.maxSteps 400
namespace RS
open PySem PySem.Spec PyProof.Rows L2 GX LM
theorem in_seqC {X : Cx} {K : PySem.W.Frag} (e : X.K = K) : OpR X (compareOp .In) (rIn K false) := by
  subst e
  exact op_in_seq
/-- what the law tells of an error beside its name -/
def ErrV (K : PySem.W.Frag) (D : Addr) (j : Nat) (d : Option Addr) (H : Hp) (v : Int) : Prop :=
  if j = 3 ∨ j = 2 ∨ j = 14 then XfC K D ∧ PySem.W.findIn K (.ref D) (if j = 3 then ("number" : Str) else "place") = some none ∧ ∃ (dd : Addr) (fs : List (Str × V)), d = some dd ∧ H dd = some (.xd fs) ∧ fs.lookup (if j = 3 then ("number" : Str) else "place") = some (.int v) else v = 0
section
variable {P : Program} {w : World} {K : PySem.W.Frag} {mg : Str → Option Value} {base : Heap}
theorem word_runs : ∀ j < 15, decide (V.str (nm15.getD j "") = V.str "BadRuns") = decide (j = 3) := by decide +kernel
theorem word_place : ∀ j < 15, inV (.str (nm15.getD j "")) [.str "BadRows", .str "BadText"] = decide (j = 2 ∨ j = 14) := by decide +kernel
theorem scTold : FnScope ["_law_work", "_law_e", "_law_word"] ["_law_work"] (defScope sTold) := ⟨rfl, rfl, rfl, by decide +kernel, rfl, by decide +kernel, by decide +kernel⟩
/-- an error of the class j leaves, with the number v -/
def ErrOk (K : PySem.W.Frag) (SE : Addr) (C : Nat → Addr) (Q : V → Hp → Prop) : XK := fun cls d H' => ∃ (D : Addr) (j : Nat) (v : Int), cls = .ref D ∧ Own15 K C D j ∧ PySem.W.exmOne K (.ref D) (.ref SE) = some true ∧ DictAt d H' ∧ ErrV K D j d H' v ∧
  ∀ (H'' : Hp) (t : Addr), Same H' H'' → H'' t = some (.tup [.str (nm15.getD j ""), .int v]) → Q (.ref t) H''
def spTold (P : Program) (w : World) (K : PySem.W.Frag) (mg : Str → Option Value) (base : Heap) (SE : Addr) (C : Nat → Addr) (n : Nat) : Sp := fun vs H Q _ => ∃ (f : Addr) (R : Hp → Prop) (tl : Hp → VK → XK → Prop), vs = [.ref f] ∧ Act P w K mg base n f R tl ∧ R H ∧ ∀ E : XK, (∀ cls d H', ErrOk K SE C Q cls d H' → E cls d H') → tl H Q E
theorem told_ok {c SE : Addr} {C : Nat → Addr} (DD : DefAt K mg "_law_told" sTold c) (n : Nat) (hn : 1 ≤ n) (gS : mg "SortError" = some (.ref SE)) (cC : CalW P w K mg base 1 "_law_class" ["_law_e"] (spClass K C)) : Cal P w K mg base CX0 (n + 1) "_law_told" ["_law_work"] (spTold P w K mg base SE C n) := by
  have sc := scTold
  refine def_ok0 DD sc (fun vs H Q E h => ?_) (fun _ _ _ _ _ _ us hl => match us, hl with | [_], _ => rfl) (fun f A outer s H vs Q E hr h => ?_)
  · obtain ⟨f, R, tl, rfl, _⟩ := h
    rfl
  · obtain ⟨g, R, tl, rfl, act, hR, ht⟩ := h
    refine ⟨_, pss_one (ps_try_as (X := (cxOf CX0 P w K mg base ["_law_work", "_law_e", "_law_word"] "_law_told" (defScope sTold) f (.ref c) A outer s H E).nox) (i := 1) (c := .ref SE) rfl rfl sc.nd rfl rfl ⟨rfl, by decide, .inl gS⟩ LamX.takes0 (fun W pn xe tk _ => pss_one (ps_ret (pe_act (P := P) (w := w) (K := K) (mg := mg) (base := base) rfl rfl rfl rfl rfl (fun σ => passAt tk σ) hr (Nat.le_refl _) (pv 0))))
      (fun a oe cls d pn hz hf => (pss_cons (ps_set (i := 2) sc.nd rfl (Or.inl rfl) (pe_cW (X := Cx.suite (cxOf CX0 P w K mg base ["_law_work", "_law_e", "_law_word"] "_law_told" (defScope sTold) f (.ref c) A outer s H E).nox a ((a, oe) :: pn)) (k := 1) (j := n) cC ⟨hr.dp, hr.un⟩ hn List.mem_cons_self hz hf (by rfl) (pa_cons (pv 1) pa_nil))) (pss_cons (ps_if (pt_cmpR op_eq (pv 2) pe_str (nomark _)) (pss_one (ps_ret (pe_tup (pa_cons (pv 2) (pa_cons (pe_xfA hz hf (pv 1)) pa_nil))))) pss_nil) (pss_one (ps_ret (pe_tup (pa_cons (pv 2) (pa_cons (pe_ifExp (pt_cmpR (in_seqC (K := K) rfl) (pv 2) (pe_tup (pa_cons pe_str (pa_cons pe_str pa_nil))) (by rfl)) (pe_xfA hz hf (pv 1)) pe_int) pa_nil))))))))), ?_⟩
    refine ⟨_, rfl, g, R, tl, rfl, act, hR, ht _ fun cls d H' ⟨D, j, v, ec, O, hm, hd, ev, q⟩ => ?_⟩
    subst ec
    refine ⟨true, hm, fun _ a ha => ?_, fun z => nomatch z⟩
    refine ⟨_, rfl, D, j, rfl, rfl, O, hd, fun H2 s2 => ?_⟩
    refine ⟨_, rfl, rfl, _, rfl, ?_⟩
    rw [word_runs j O.lt]
    unfold ErrV at ev
    by_cases h3 : j = 3
    · subst h3
      rw [if_pos (.inl rfl), if_pos rfl] at ev
      obtain ⟨x1, x2, dd, fs, e1, e2, e3⟩ := ev
      refine iteT' rfl ?_
      exact ⟨_, rfl, D, x1, x2, _, rfl, rfl, rfl, dd, fs, _, e1, s2 _ _ e2, e3, by show 2 ≤ sizeLine; decide, fun t ht => q _ t (sameNew s2 ht) upd_same⟩
    · refine iteF' (decide_eq_false h3) ?_
      refine ⟨_, rfl, _, rfl, by show 2 ≤ sizeLine; decide, fun tt htt => ?_⟩
      have s3 := sameNew (o := .tup [.str "BadRows", .str "BadText"]) s2 htt
      refine ⟨tt, _, rfl, .inr (SqT.of upd_same), rfl, rfl, _, rfl, ?_⟩
      rw [if_neg Bool.false_ne_true, word_place j O.lt]
      by_cases h2 : j = 2 ∨ j = 14
      · rw [if_pos (.inr h2), if_neg h3] at ev
        obtain ⟨x1, x2, dd, fs, e1, e2, e3⟩ := ev
        refine iteT' (decide_eq_true h2) ?_
        exact ⟨D, x1, x2, _, rfl, rfl, rfl, dd, fs, _, e1, s3 _ _ e2, e3, by show 2 ≤ sizeLine; decide, fun t ht => q _ t (sameNew s3 ht) upd_same⟩
      · rw [if_neg fun z => z.elim h3 h2] at ev
        subst ev
        refine iteF' (decide_eq_false h2) ?_
        exact ⟨by show 2 ≤ sizeLine; decide, fun t ht => q _ t (sameNew s3 ht) upd_same⟩
theorem scAll : FnScope ["_law_works", "_law_due", "_law_work"] ["_law_works", "_law_due"] (defScope sAll) := ⟨rfl, rfl, rfl, by decide +kernel, rfl, by decide +kernel, by decide +kernel⟩
/-- f, called now or behind more, tells dd -/
def Works (P : Program) (w : World) (K : PySem.W.Frag) (mg : Str → Option Value) (base : Heap) (SE : Addr) (C : Nat → Addr) (n : Nat) (f : Addr) (H : Hp) (dd : PyData) : Prop :=
  ∀ (H1 : Hp) (Q1 : VK), Same H H1 → (∀ x H2, Same H1 H2 → Dp K H2 x dd → Q1 x H2) → spTold P w K mg base SE C n [.ref f] H1 Q1 E0
def spAll (P : Program) (w : World) (K : PySem.W.Frag) (mg : Str → Option Value) (base : Heap) (SE : Addr) (C : Nat → Addr) (n : Nat) : Sp := fun vs H Q _ => ∃ (L : Addr) (fs : List Addr) (v : V) (dd : PyData), vs = [.ref L, v] ∧ H L = some (.lst (fs.map V.ref)) ∧ fs.length ≤ 20 ∧ Dp K H v dd ∧ few dd ∧ dd.depth ≤ 40 ∧
  (∀ f ∈ fs, Works P w K mg base SE C n f H dd) ∧ ∀ H', Same H H' → Q (.bl true) H'
theorem all_ok {c SE : Addr} {C : Nat → Addr} (DD : DefAt K mg "_law_all" sAll c) (n m : Nat) (h1 : n + 1 ≤ m) (h2 : 42 ≤ m) (cT : Cal P w K mg base CX0 (n + 1) "_law_told" ["_law_work"] (spTold P w K mg base SE C n)) (cA : Cal P w K mg base CX0 42 "_law_alike" ["_law_found", "_law_due"] (spAlike K 40)) :
    Cal P w K mg base CX0 (m + 1) "_law_all" ["_law_works", "_law_due"] (spAll P w K mg base SE C n) := by
  have sc := scAll
  refine def_ok0 DD sc (fun vs H Q E h => ?_) (fun _ _ _ _ _ _ us hl => match us, hl with | [_, _], _ => rfl) (fun f A outer s H vs Q E hr h => ?_)
  · obtain ⟨L, fs, v, dd, rfl, _⟩ := h
    rfl
  · obtain ⟨L, fs, v, dd, rfl, hL, l20, hv, hf, hdp, hw, k⟩ := h
    have hu := hr.units
    refine ⟨_, (pss_one (ps_ret (pe_cmpR (op_eqD hu) (pe_lc (own := [("_law_work", 2)]) (tt := _) rfl sc.nd (pi_list (pv 0)) (blkOk_by (N := ["_law_works", "_law_due", "_law_work"]) (sc := defScope sAll) (own := [("_law_work", 2)]) (by decide +kernel)) (fun _ _ _ _ _ => (pg_name (i := 2) sc.nd rfl (Or.inl rfl))) (fun _ _ _ _ _ => pts_one (pt_not (pt_val (pe_c cA hr h2 (by rfl) pass0 (pa_cons (pe_c cT hr h1 (by rfl) pass0 (pa_cons (pv 2) pa_nil)) (pa_cons (pv 1) pa_nil)))))) (fun _ _ _ _ _ => pv 2)) (pe_lst pa_nil) (nomark _)))), ?_⟩
    refine ⟨_, rfl, L, rfl, ⟨_, SqL.of hL⟩, fun DD hD => ?_⟩
    refine lc_list (K := K) (a := L) (xs := fs.map V.ref) (fun j H' => Same H H' ∧ H' DD = some (.lst [])) ⟨fun b o e => by rw [upd_ne (ne_of_none e hD)]; exact e, upd_same⟩ (fun j H4 _ h => h.1.seq (SqL.of hL)) ?_ ?_
    · rintro j x H4 hx ⟨sm, hl4⟩
      obtain ⟨g, eg, rfl⟩ : ∃ g, fs[j]? = some g ∧ x = V.ref g := by
        rw [List.getElem?_map] at hx
        cases z : fs[j]? with
        | none => rw [z] at hx; cases hx
        | some b => rw [z] at hx; exact ⟨b, rfl, (Option.some.inj hx).symm⟩
      refine ⟨rfl, _, rfl, hw g (List.mem_of_getElem? eg) H4 _ sm fun x H5 s5 hx5 => ?_⟩
      refine ⟨_, rfl, x, v, dd, rfl, hx5, dp_same s5 _ (dp_same sm _ hv), hf, hdp, _, rfl, ?_⟩
      exact iteF ⟨sm.trans s5, s5 _ _ hl4⟩
    · rintro H4 ⟨sm, hl4⟩
      refine ⟨Nat.zero_le _, fun E2 hE2 => ?_⟩
      have s6 := sameNew (o := .lst []) (Same.refl H4) hE2
      refine ⟨.list [], .list [], .lst (s6.seq (SqL.of hl4)) .nil, .lst (SqL.of upd_same) .nil, by decide +kernel, ?_⟩
      refine ⟨by decide +kernel, ?_⟩
      have e : PyData.eqv (.list []) (.list []) = true := by simp [PyData.eqv, PyData.eqvAll]
      rw [e]
      exact k _ (sm.trans s6)
end
end RS
set_option Elab.async false
set_option maxRecDepth 100000
set_option maxHeartbeats 4000000
set_option pp.maxSteps 400
namespace RS
open PySem PySem.Spec PyProof.Rows L2 GX LM
section
variable {X : Cx} {e : Expr} {es : List Expr} {ta : TA} {p1 p2 pos : Pos}
/-- C.__init__(self, ..), C an own class that has ValueError's -/
theorem pe_veinitC {pl : Sem Bool} {x : Str} {SE : Addr} {mc : Value} (hg : Gl X x) (hm : X.mg x = some (.ref SE)) (cr : ClX.CRead X.K SE mc) (cv : PySem.W.findCls X.K (.ref SE) mc "__init__" = some (.val (.builtin "ValueError.__init__"))) (ha : PA X (e :: es) ta) (hdb : (x == ("__debug__" : Str)) = false := by decide)
    (hc : eval (.Call (.Attribute (.Name x p1) "__init__" p2) (e :: es) [] pos) X.env = (do
      let ov ← eval (.Name x p1) X.env
      standAt p2.atName
      let (f, first) ← holding [ov] (getMethod ov "__init__" pl)
      callWith pos f first (backTo pos (starEach (e :: es) X.env)) (backToKw pos (keywordEach [] X.env))) := by rfl)
    (he : starEach (e :: es) X.env = (false, eval e X.env) :: starEach es X.env := by rfl) (hpl : (backTo pos (starEach es X.env)).any (·.1) = false := by rfl) :
    PE X (.Call (.Attribute (.Name x p1) "__init__" p2) (e :: es) [] pos) (tVeI X.K ta) := by
  refine ⟨fun pins s σ H Q I h => ?_⟩
  refine PySem.W.methodCall_KW (ld_glob I hg hm ?_ hdb) hc
  refine PySem.W.method_cls I.kIn cr.ga (PySem.W.cls_value I.kIn cr.rd cv (by decide +kernel) ?_)
  show wpAny _ _ (callWith pos (Value.builtin "ValueError.__init__") [] (backTo pos (starEach (e :: es) X.env)) []) _ _ _
  refine PyProof.Rows.callWith_method1 (thn (ha.run pos pins _ σ H _ (I.tok _) h) fun us s1 ⟨vs, H1, I1, r1, a, C, ws, ev, hl, T, ea, q⟩ => ?_) he hpl
  subst ev
  cases r1 with
  | @cons _ u0 _ ur ra rw' =>
    obtain rfl : u0 = Value.ref a := ra
    have z : ur.length ≤ sizeLine := by
      rw [← Paired.length rw', sizeLine_eq]
      omega
    exact oinit_ok T I1 ea z fun s' J => ⟨.non, H1, J, rfl, q⟩
end
theorem len_app7 (x y : Str) : (x ++ y).length = x.length + y.length := by
  have e : ∀ z : Str, z.length = (TL.tl z).length := fun z => by simp [TL.tl, Str.length]
  rw [e, e x, e y, TL.tl_append, List.length_append]
/-! ### an error with a number -/
def spNumI (K : PySem.W.Frag) (C : Addr) (f : Str) : Sp := fun vs H Q _ => ∃ (a : Addr) (v : Nat), vs = [.ref a, .int (v : Nat)] ∧ v < 200 ∧ H a = some (exo a C none) ∧
  ∀ dx, H dx = none → dx ≠ a → Q .non (upd (upd H dx (exd dx [(f, .int (v : Nat))])) a (exo a C (some dx)))
theorem txt_small : ∀ n < 200, (toString ((n : Nat) : Int) : Str).length ≤ 20 ∧ ((n : Nat) : Int).natAbs.log2 < 1920 := by decide +kernel
/-- the text's class C: its __init__ tells a text, then keeps the number as f -/
structure NumE (P : Program) (w : World) (K : PySem.W.Frag) (mg : Str → Option Value) (base : Heap) (x f : Str) (C : Addr) : Prop where
  ex : ∃ (fI : Addr) (fd : FuncData), OexC K C ∧ PySem.W.findIn K (.ref C) "__init__" = some (some (.ref fI)) ∧ PySem.W.typeIn K (.ref fI) = some (.type "function") ∧ FnOk P w K mg base CX0 1 fI fd ["self", f] (spNumI K C f) ∧ Binds K fd ["self", f] [] ∧ mg x = some (.ref C)
section
variable {X : Cx} {e : Expr} {te : TE} {p pos : Pos} {x f : Str} {C : Addr}
theorem del_end {H1 : Hp} {a dx : Addr} {o u v y : HO} (hn : H1 a = none) (ne : dx ≠ a) : upd (L2.del (upd (upd (upd H1 a o) dx u) a v) a) dx y = upd H1 dx y := by
  funext b
  by_cases hb : b = dx
  · rw [hb, upd_same, upd_same]
  · rw [upd_ne hb, upd_ne hb]
    by_cases ha : b = a
    · rw [ha, L2.del_same, hn]
    · rw [L2.del_ne ha, upd_ne ha, upd_ne hb, upd_ne ha]
/-- C(e), to be raised -/
theorem pmk_num (N : NumE X.prog X.w X.K X.mg X.base x f C) (hr : Room 2 X.A) (hg : Gl X x) (he : PE X e te) (hs : starEach [e] X.env = (false, eval e X.env) :: starEach [] X.env := by rfl) (hdb : (x == ("__debug__" : Str)) = false := by decide) :
    L2.PMk X (.Call (.Name x p) [e] [] pos) (tMkO C (spNumI X.K C f) [] (tCons te tNil)) := by
  obtain ⟨fI, fd, T, iC, tI, F, hb, hm⟩ := N.ex
  exact pmk_oex T iC tI F hr hb .nil pass0 hg hm (pa_cons he pa_nil hs) hdb hs (by rfl)
/-- its reading, the number known -/
theorem num_end {K : PySem.W.Frag} {n : Nat} {H1 : Hp} {Q : XK} (hn : n < 200) (q : ∀ d, H1 d = none → Q (.ref C) (some d) (upd H1 d (.xd [(f, .int (n : Nat))]))) : [V.int (n : Nat)].length ≤ 1000 ∧ ∀ a, H1 a = none → spNumI K C f (.ref a :: ([V.int (n : Nat)] ++ [])) (upd H1 a (exo a C none))
    (fun v H2 => v = .non ∧ ∃ (d : Addr) (fs : List (Str × V)), H2 a = some (exo a C (some d)) ∧ H2 d = some (exd d fs) ∧ H1 d = none ∧ Q (.ref C) (some d) (upd (L2.del H2 a) d (.xd fs))) (fun _ _ _ => False) := by
  refine ⟨by show 1 ≤ 1000; decide, fun a ha => ⟨a, n, rfl, hn, upd_same, fun dx hd ne => ⟨rfl, dx, [(f, .int (n : Nat))], upd_same, (upd_ne ne).trans upd_same, (upd_ne ne).symm.trans hd, ?_⟩⟩⟩
  rw [del_end ha ne]
  exact q dx ((upd_ne ne).symm.trans hd)
end
section
variable {P : Program} {w : World} {K : PySem.W.Frag} {mg : Str → Option Value} {base : Heap}
theorem scPlaceI : FnScope ["self", "place"] ["self", "place"] (defScope s_BadRows_init) := ⟨rfl, rfl, rfl, by decide +kernel, rfl, by decide +kernel, by decide +kernel⟩
theorem init_place {fI C SE : Addr} {fd : FuncData} {mc : Value} (F : L2.Fun K "__init__" "BadRows.__init__" s_BadRows_init fI fd) (T : OexC K C) (iC : PySem.W.findIn K (.ref C) "__init__" = some (some (.ref fI))) (tI : PySem.W.typeIn K (.ref fI) = some (.type "function")) (hm : mg "BadRows" = some (.ref C)) (nf : PySem.W.findIn K (.ref C) "place" = some none)
    (gS : mg "SortError" = some (.ref SE)) (cr : ClX.CRead K SE mc) (cv : PySem.W.findCls K (.ref SE) mc "__init__" = some (.val (.builtin "ValueError.__init__"))) : NumE P w K mg base "BadRows" "place" C := by
  have sc := scPlaceI
  refine ⟨fI, fd, T, iC, tI, ?_, F.binds (fun _ _ _ _ _ _ us hl => match us, hl with | [_, _], _ => rfl), hm⟩
  refine F.ok sc (fun vs H Q E h => ?_) (fun cdv A outer s H vs Q E hr h => ?_)
  · obtain ⟨a, v, rfl, _⟩ := h
    rfl
  · obtain ⟨a, v, rfl, hv, ha, k⟩ := h
    refine ⟨_, (pss_cons (ps_expr (pe_veinitC (by rfl) gS cr cv (pa_cons (pv 0) (pa_cons (pe_joined (.cons pe_str (.cons (pe_fmt (pv 1)) .nil))) pa_nil)))) (pss_one (ps_ost (pv 0) (pv 1)))), ?_⟩
    obtain ⟨z1, z2⟩ := txt_small v hv
    have big : (1000 : Nat) ≤ sizeLine := by decide
    have e0 : (Str.empty ++ Str.ofString "no row that may stand at place ").length ≤ 100 := by decide +kernel
    refine ⟨_, rfl, _, rfl, by omega, _, rfl, .inr ⟨_, rfl, z2, _, rfl, ?_, a, C, _, rfl, by show 1 ≤ 1000; decide, T, ha, ?_⟩⟩
    · rw [len_app7]
      omega
    · exact ⟨_, rfl, _, rfl, a, C, rfl, T, nf, .inl ⟨ha, fun dx hd ne => k dx hd ne⟩⟩
end
end RS
set_option Elab.async false
set_option maxRecDepth 100000
set_option maxHeartbeats 4000000
set_option pp.maxSteps 400
namespace RS
open PySem PySem.Spec PyProof.Rows L2 GX HQ LM
/-! ### a Sieve as it lies in the heap -/
def fldsS (vk vo : V) (n : Nat) (G : Addr) : List (Str × V) := [("kinds", vk), ("order", vo), ("came", .int (n : Nat)), ("queue", .ref G)]
theorem sok : ¬ (("order" : Str) = "kinds") := by decide +kernel
theorem sck : ¬ (("came" : Str) = "kinds") := by decide +kernel
theorem sco : ¬ (("came" : Str) = "order") := by decide +kernel
theorem sqk : ¬ (("queue" : Str) = "kinds") := by decide +kernel
theorem sqo : ¬ (("queue" : Str) = "order") := by decide +kernel
theorem sqc : ¬ (("queue" : Str) = "came") := by decide +kernel
section
variable {vk vo : V} {n m : Nat} {G : Addr}
theorem fs_kinds : (fldsS vk vo n G).lookup ("kinds" : Str) = some vk := lk_eq
theorem fs_order : (fldsS vk vo n G).lookup ("order" : Str) = some vo := (lk_ne sok).trans lk_eq
theorem fs_came : (fldsS vk vo n G).lookup ("came" : Str) = some (.int (n : Nat)) := (lk_ne sck).trans ((lk_ne sco).trans lk_eq)
theorem fs_queue : (fldsS vk vo n G).lookup ("queue" : Str) = some (.ref G) := (lk_ne sqk).trans ((lk_ne sqo).trans ((lk_ne sqc).trans lk_eq))
theorem fs_put : putF "came" (.int (m : Nat)) (fldsS vk vo n G) = fldsS vk vo m G := by
  unfold fldsS
  rw [putF_ne (Ne.symm sck), putF_ne (Ne.symm sco), putF_eq]
theorem fs_no {f : Str} (h1 : ¬ f = "kinds") (h2 : ¬ f = "order") (h3 : ¬ f = "came") (h4 : ¬ f = "queue") : (fldsS vk vo n G).lookup f = none := (lk_ne h1).trans ((lk_ne h2).trans ((lk_ne h3).trans ((lk_ne h4).trans rfl)))
end
structure SvAt (K : PySem.W.Frag) (C : Addr) (ks : List Bool) (os : List (Nat × Bool)) (H0 H : Hp) (x G : Addr) (n : Nat) (gq : List Pr) : Prop where
  same : Same H0 H
  x0 : H0 x = none
  g0 : H0 G = none
  oz : os.length ≤ 1000
  ob : ∃ dx vk vo, H x = some (.ins C dx (fldsS vk vo n G)) ∧ Dp K H0 vk (kindsD ks) ∧ Dp K H0 vo (orderD os)
  g : ∃ zs : List Z, LstI K os H G zs gq ∧ From ltz zs.length (nth zs) 0
  gok : RowsOk os ks gq
/-- all but x and G stays -/
def Frv (H H' : Hp) (x G : Addr) : Prop := ∀ b o, H b = some o → b ≠ x → b ≠ G → H' b = some o
section
variable {K : PySem.W.Frag} {C : Addr} {ks : List Bool} {os : List (Nat × Bool)} {H0 H H2 : Hp} {x G : Addr} {n : Nat} {gq : List Pr}
theorem Frv.trans {H1 : Hp} (a : Frv H H1 x G) (b : Frv H1 H2 x G) : Frv H H2 x G := fun c o e n1 n2 => b c o (a c o e n1 n2) n1 n2
theorem Frv.of (s : Same H H2) : Frv H H2 x G := fun c o e _ _ => s c o e
theorem Frv.updG {o : HO} : Frv H (upd H G o) x G := fun c o e _ n => (upd_ne n).trans e
theorem Frv.updx {o : HO} : Frv H (upd H x o) x G := fun c o e n _ => (upd_ne n).trans e
theorem SvAt.kp (h : SvAt K C ks os H0 H x G n gq) (f : Frv H H2 x G) : KpS H H2 := fun b o e n1 n2 => by
  obtain ⟨dx, vk, vo, hx, _⟩ := h.ob
  obtain ⟨zs, hg, _⟩ := h.g
  exact f b o e (fun z => by rw [z, hx] at e; exact n2 _ _ _ (Option.some.inj e).symm) (fun z => by rw [z, hg.g] at e; exact n1 _ (Option.some.inj e).symm)
theorem SvAt.same2 (h : SvAt K C ks os H0 H x G n gq) (f : Frv H H2 x G) : Same H0 H2 := fun b o e => f b o (h.same b o e) (ne_of_none e h.x0) (ne_of_none e h.g0)
/-- other things come or change -/
theorem SvAt.move (h : SvAt K C ks os H0 H x G n gq) (k : KpS H H2) (s : Same H0 H2) (ex : H2 x = H x) (eg : H2 G = H G) : SvAt K C ks os H0 H2 x G n gq := by
  obtain ⟨dx, vk, vo, hx, hk, ho⟩ := h.ob
  obtain ⟨zs, hg, F⟩ := h.g
  exact ⟨s, h.x0, h.g0, h.oz, ⟨dx, vk, vo, ex.trans hx, hk, ho⟩, ⟨zs, hg.move h.gok k (eg.trans hg.g), F⟩, h.gok⟩
theorem SvAt.grow (h : SvAt K C ks os H0 H x G n gq) (s : Same H H2) : SvAt K C ks os H0 H2 x G n gq := by
  obtain ⟨dx, vk, vo, hx, hk, ho⟩ := h.ob
  obtain ⟨zs, hg, F⟩ := h.g
  exact ⟨h.same.trans s, h.x0, h.g0, h.oz, ⟨dx, vk, vo, s _ _ hx, hk, ho⟩, ⟨zs, hg.move h.gok (.of s) (s _ _ hg.g), F⟩, h.gok⟩
end
theorem sqL_ins {K : PySem.W.Frag} {H : Hp} {a x C dx : Addr} {fs : List (Str × V)} {o' : HO} {xs : List V} (hx : H x = some (.ins C dx fs)) (h : SqL K H a xs) : SqL K (upd H x o') a xs := by
  rcases h with (h | ⟨o, h⟩) | h
  · exact .inl (.inl ((upd_ne fun z => by rw [z, hx] at h; cases h).trans h))
  · exact .inl (.inr ⟨o, (upd_ne fun z => by rw [z, hx] at h; cases h).trans h⟩)
  · exact .inr h
theorem tuple_item7 {K : PySem.W.Frag} {H : Hp} {u : V} {os : List (Nat × Bool)} {q : Pr} (h : Dp K H u (itemD os q)) : ∃ a vr vt, u = .ref a ∧ SqT K H a [vr, vt] ∧ Dp K H vr (intsD (rankOf os q)) ∧ Dp K H vt (pairD q) := by
  cases h with
  | @tup a xs _ hS hI =>
    cases hI with
    | @cons vR _ _ _ h1 hI =>
      cases hI with
      | @cons vT _ _ _ h2 hI =>
        cases hI
        exact ⟨_, _, _, rfl, hS, h1, h2⟩
/-! ### the promises -/
def spSvI (K : PySem.W.Frag) (C pK : Addr) : Sp := fun vs H Q _ => ∃ (x dx O : Addr) (vk : V) (ks : List Bool) (os : List (Nat × Bool)) (xs : List V), vs = [.ref x, vk, .ref O] ∧ H x = some (.ins C dx []) ∧ Dp K H vk (kindsD ks) ∧ 1 ≤ ks.length ∧ ks.length ≤ 4 ∧ SqL K H O xs ∧ DpAll K H xs (os.map partD) ∧ OkOrder ks.length os ∧ os.length ≤ 1000 ∧ Tab H pK ∧
  ∀ (H' : Hp) (O' G : Addr), H O' = none → H G = none → O' ≠ G → O' ≠ x → H' x = some (.ins C dx (fldsS vk (.ref O') 0 G)) → H' O' = some (.lst xs) → H' G = some (.lst []) → (∀ b o, H b = some o → b ≠ x → H' b = some o) → Q .non H'
def spSvPut (K : PySem.W.Frag) (C CR pW pR : Addr) : Sp := fun vs H Q E => ∃ (x G : Addr) (vr : V) (d : PyData) (ks : List Bool) (os : List (Nat × Bool)) (H0 : Hp) (n : Nat) (gq : List Pr), vs = [.ref x, vr] ∧ SvAt K C ks os H0 H x G n gq ∧ Dp K H vr d ∧ fitR d ∧ ks.length ≤ 1000 ∧ Tab H pW ∧ Tab H pR ∧ gq.length ≤ 900 ∧
  ((isRow ks d = false ∧ ∀ (H' : Hp) (dd : Addr), Same H H' → H' dd = some (.xd [("place", .int ((0 : Nat) : Int))]) → E (.ref CR) (some dd) H') ∨
    ∃ r, d = .tuple r ∧ n < 120 ∧ isRow ks (.tuple r) = true ∧ Fits os r ∧ ∀ (H' : Hp) (gq' : List Pr), SvAt K C ks os H0 H' x G (n + 1) gq' → gq'.Perm ((n, r) :: gq) → Frv H H' x G → Q (.int (n : Nat)) H')
def spSvTake (K : PySem.W.Frag) (C CE : Addr) : Sp := fun vs H Q E => ∃ (x G : Addr) (ks : List Bool) (os : List (Nat × Bool)) (H0 : Hp) (n : Nat) (gq : List Pr), vs = [.ref x] ∧ SvAt K C ks os H0 H x G n gq ∧
  ((gq = [] ∧ E (.ref CE) none H) ∨
    (gq ≠ [] ∧ ∀ (H' : Hp) (v : V) (q : Pr) (gq' : List Pr), SvAt K C ks os H0 H' x G n gq' → gq.Perm (q :: gq') → (∀ y ∈ gq', before os y q = false) → Dp K H' v (pairD q) → Frv H H' x G → Q v H'))
def spSvRem (K : PySem.W.Frag) (C : Addr) : Sp := fun vs H Q _ => ∃ (x G : Addr) (ks : List Bool) (os : List (Nat × Bool)) (H0 : Hp) (n : Nat) (gq : List Pr), vs = [.ref x] ∧ SvAt K C ks os H0 H x G n gq ∧ Q (.int (gq.length : Nat)) H
structure TxS (K : PySem.W.Frag) (C : Addr) : Prop where
  cl : Cls K C
  nK : NoAttr K C "kinds"
  nO : NoAttr K C "order"
  nC : NoAttr K C "came"
  nQ : NoAttr K C "queue"
section
variable {P : Program} {w : World} {K : PySem.W.Frag} {mg : Str → Option Value} {base : Heap}
theorem scSvI : FnScope ["self", "kinds", "order"] ["self", "kinds", "order"] (defScope s_Sieve_init) := ⟨rfl, rfl, rfl, by decide +kernel, rfl, by decide +kernel, by decide +kernel⟩
theorem svinit_ok {f C pK : Addr} {fd : FuncData} (M : Mk K C f) (F : L2.Fun K "__init__" "Sieve.__init__" s_Sieve_init f fd) (X : TxS K C) (T : Txt K mg) (hm : mg "Sieve" = some (.ref C)) (cK : Cal P w K mg base CX0 2 "check_kinds" ["kinds"] (spCheckKinds K pK)) (cO : Cal P w K mg base CX0 3 "check_order" ["kinds", "order"] (spCheckOrder K)) :
    MakC P w K mg base CX0 4 "Sieve" C ["self", "kinds", "order"] (spSvI K C pK) := by
  have sc := scSvI
  refine ⟨f, fd, M, ?_, hm, F.binds (fun _ _ _ _ _ _ us hl => match us, hl with | [_, _, _], _ => rfl)⟩
  refine F.ok sc (fun vs H Q E h => ?_) (fun cdv A outer s H vs Q E hr h => ?_)
  · obtain ⟨x, dx, O, vk, ks, os, xs, rfl, _⟩ := h
    rfl
  · obtain ⟨x, dx, O, vk, ks, os, xs, rfl, hx, hk, k1, k4, hO, hd, ok, oz, ht, k⟩ := h
    refine ⟨_, (pss_cons (ps_expr (pe_c cK hr (by decide) (by rfl) pass0 (pa_cons (pv 1) pa_nil))) (pss_cons (ps_expr (pe_c cO hr (by decide) (by rfl) pass0 (pa_cons (pv 1) (pa_cons (pv 2) pa_nil)))) (pss_cons (ps_fld (pv 0) (pv 1) rfl) (pss_cons (ps_fld (pv 0) (pe_callTy call_list_of (by rfl) T.list_ (by decide +kernel) (pa_cons (pv 2) pa_nil)) rfl) (pss_cons (ps_fld (pv 0) pe_int rfl) (pss_one (ps_fld (pv 0) (pe_lst pa_nil) rfl))))))), ?_⟩
    refine ⟨_, rfl, vk, ks, rfl, hk, k1, k4, ht, ?_⟩
    refine ⟨_, rfl, _, rfl, vk, .ref O, ks, os, rfl, hk, .lst hO hd, ok, oz, fun H1 s1 => ?_⟩
    have hx1 := s1 _ _ hx
    refine ⟨_, rfl, _, rfl, x, C, dx, _, rfl, hx1, X.cl, X.nK, by show 0 < 1000; decide, ?_⟩
    have sO : SqL K (upd H1 x (.ins C dx (putF "kinds" vk []))) O xs := sqL_ins hx1 (s1.seq hO)
    refine ⟨_, rfl, O, _, rfl, .inl sO, fun O' hO' => ?_⟩
    have nOx : x ≠ O' := fun z => by rw [← z, upd_same] at hO'; cases hO'
    have hO1 := upd_no hO'
    refine ⟨_, rfl, x, C, dx, putF "kinds" vk [], rfl, (upd_ne nOx).trans upd_same, X.cl, X.nO, by show 1 < 1000; decide, ?_⟩
    refine ⟨_, rfl, x, C, dx, putF "order" (.ref O') (putF "kinds" vk []), rfl, upd_same, X.cl, X.nC, (lenF (n := 1) (by show 1 ≤ 1; decide) (by decide)), ?_⟩
    refine ⟨Nat.zero_le _, fun G hG => ?_⟩
    have nGx : x ≠ G := fun z => by rw [← z, upd_same] at hG; cases hG
    have hG1 := upd_no (upd_no hG)
    have nOG : O' ≠ G := fun z => by rw [← z, upd_same] at hG1; cases hG1
    have hG2 := upd_no (upd_no hG1)
    refine ⟨_, rfl, x, C, dx, putF "came" (.int ((0 : Nat) : Int)) (putF "order" (.ref O') (putF "kinds" vk [])), rfl, (upd_ne nGx).trans upd_same, X.cl, X.nQ, (lenF (n := 2) (lenF1 (n := 1) (by show 1 ≤ 1; decide)) (by decide)), ?_⟩
    refine k _ O' G (s1.free hO1) (s1.free hG2) nOG (Ne.symm nOx) ?_ ?_ ?_ fun b o e nb => ?_
    · rw [upd_same]
      exact congrArg (fun l => some (HO.ins C dx l)) (by
        show putF "queue" (.ref G) (putF "came" (.int ((0 : Nat) : Int)) (putF "order" (.ref O') [(("kinds" : Str), vk)])) = _
        rw [putF_ne (Ne.symm sok)]
        show putF "queue" (.ref G) (putF "came" (.int ((0 : Nat) : Int)) [(("kinds" : Str), vk), ("order", .ref O')]) = _
        rw [putF_ne (Ne.symm sck), putF_ne (Ne.symm sco)]
        show putF "queue" (.ref G) [(("kinds" : Str), vk), ("order", .ref O'), ("came", .int ((0 : Nat) : Int))] = _
        rw [putF_ne (Ne.symm sqk), putF_ne (Ne.symm sqo), putF_ne (Ne.symm sqc)]
        rfl)
    · rw [upd_ne (Ne.symm nOx), upd_ne nOG, upd_ne (Ne.symm nOx), upd_ne (Ne.symm nOx), upd_same]
    · rw [upd_ne (Ne.symm nGx), upd_same]
    · have e1 := s1 _ _ e
      rw [upd_ne nb, upd_ne (ne_of_none e1 hG2), upd_ne nb, upd_ne nb, upd_ne (ne_of_none e1 hO1), upd_ne nb]
      exact e1
theorem scSvPut : FnScope ["self", "row", "number", "told"] ["self", "row"] (defScope s_Sieve_put) := ⟨rfl, rfl, rfl, by decide +kernel, rfl, by decide +kernel, by decide +kernel⟩
theorem svput_ok {f C CR pW pR : Addr} {fd : FuncData} (X : TxS K C) (M : MethAt K C "put" "Sieve.put" s_Sieve_put f fd) (T : Txt K mg) (TP : mg "heappush" = some (.builtin "_heapq.heappush")) (NE : NumE P w K mg base "BadRows" "place" CR) (cB : Cal P w K mg base CX0 5 "is_row" ["kinds", "row"] (spRow K pW pR)) (cR : Cal P w K mg base CX0 2 "rank" ["order", "told"] (spRank K)) :
    MetC P w K mg base (L2.CX P w) 6 C "put" ["self", "row"] (spSvPut K C CR pW pR) := by
  have sc := scSvPut
  obtain ⟨tR, eR⟩ := T.rows
  refine ⟨f, fd, X.cl, M.me, ?_, M.fn.binds (fun _ _ _ _ _ _ us hl => match us, hl with | [_, _], _ => rfl)⟩
  refine M.fn.okX sc (fun vs H Q E h => ?_) (fun cdv A outer s H vs Q E hr h => ?_)
  · obtain ⟨x, G, vr, d, ks, os, H0, n, gq, rfl, _⟩ := h
    rfl
  · obtain ⟨x, G, vr, d, ks, os, H0, n, gq, rfl, sv, hd, hfr, hks, hW, hR, hz, k⟩ := h
    have hu := hr.units
    obtain ⟨dx, vk, vo, hx, hk, ho⟩ := sv.ob
    refine ⟨_, (pss_cons (ps_set (i := 2) sc.nd rfl (Or.inl rfl) (pe_fld (pv 0) rfl)) (pss_cons (ps_if ((pw_or (pt_cmpR op_ge (pv 2) (pe_glob (v := V.int 120) (by rfl) eR ⟨_, rfl⟩) (nomark _)) (pw_or1 (pt_not (pt_val (pe_c cB hr (by decide) (by rfl) pass0 (pa_cons (pe_fld (pv 0) rfl) (pa_cons (pv 1) pa_nil))))))).pt) (pss_one (ps_raise rfl (takes_of rfl rfl rfl rfl) (pmk_num NE (hr.mono (by decide)) (by rfl) pe_int))) pss_nil) (pss_cons (ps_set (i := 3) sc.nd rfl (Or.inl rfl) (pe_tup (pa_cons (pv 2) (pa_cons (pv 1) pa_nil)))) (pss_cons (ps_expr (pe_callBfun (call_push hu) (by rfl) TP (pa_cons (pe_fld (pv 0) rfl) (pa_cons (pe_tup (pa_cons (pe_c cR hr (by decide) (by rfl) pass0 (pa_cons (pe_fld (pv 0) rfl) (pa_cons (pv 3) pa_nil))) (pa_cons (pv 3) pa_nil))) pa_nil)))) (pss_cons (ps_fldaug (pv 0) pe_int in_add) (pss_one (ps_ret (pv 2)))))))), ?_⟩
    rcases k with ⟨bad, k⟩ | ⟨r, rfl, hn, good, hf, k⟩
    · refine ⟨_, rfl, x, C, dx, _, _, rfl, hx, X.cl, X.nC, fs_came, _, rfl, _, _, rfl, rfl, _, rfl, ?_⟩
      by_cases h120 : (120 : Int) ≤ (n : Nat)
      · refine iteT' (decide_eq_true h120) ?_
        refine iteT ?_
        exact num_end (n := 0) (by decide) fun dd hd => k _ dd (sameNew (Same.refl H) hd) upd_same
      · refine iteF' (decide_eq_false h120) ?_
        refine ⟨_, rfl, x, C, dx, _, _, rfl, hx, X.cl, X.nK, fs_kinds, _, rfl, vk, vr, ks, d, rfl, dp_same sv.same _ hk, hd, hks, hfr, hW, hR, fun H1 s1 => ⟨_, rfl, ?_⟩⟩
        rw [bad]
        refine iteT ?_
        exact num_end (n := 0) (by decide) fun dd hd => k _ dd (sameNew s1 hd) upd_same
    · refine ⟨_, rfl, x, C, dx, _, _, rfl, hx, X.cl, X.nC, fs_came, _, rfl, _, _, rfl, rfl, _, rfl, ?_⟩
      refine iteF' (decide_eq_false (by omega)) ?_
      refine ⟨_, rfl, x, C, dx, _, _, rfl, hx, X.cl, X.nK, fs_kinds, _, rfl, vk, vr, ks, .tuple r, rfl, dp_same sv.same _ hk, hd, hks, hfr, hW, hR, fun H1 s1 => ⟨_, rfl, ?_⟩⟩
      rw [good]
      refine iteF ?_
      refine ⟨_, rfl, _, rfl, by show 2 ≤ sizeLine; decide, fun t ht => ?_⟩
      have s2 := sameNew (o := .tup [.int (n : Nat), vr]) s1 ht
      have hT : Dp K (upd H1 t (.tup [.int (n : Nat), vr])) (.ref t) (pairD (n, r)) := .tup (SqT.of upd_same) (.cons (.int _) (.cons (dp_same s2 _ hd) .nil))
      generalize upd H1 t (.tup [.int (n : Nat), vr]) = H2 at s2 hT ⊢
      have hx2 := s2 _ _ hx
      refine ⟨_, rfl, x, C, dx, _, _, rfl, hx2, X.cl, X.nQ, fs_queue, ?_⟩
      refine ⟨_, rfl, x, C, dx, _, _, rfl, hx2, X.cl, X.nO, fs_order, _, rfl, vo, .ref t, os, (n, r), rfl, dp_same (sv.same.trans s2) _ ho, hT, sv.oz, hf, fun H3 p3 s3 hp3 hL3 => ?_⟩
      refine ⟨_, rfl, by show 2 ≤ sizeLine; decide, fun p4 hp4 => ?_⟩
      have s23 := s2.trans s3
      have s4 := sameNew (o := .tup [.ref p3, .ref t]) s23 hp4
      have n34 : p3 ≠ p4 := fun z => by rw [← z, hL3] at hp4; cases hp4
      have gp3 : upd H3 p4 (.tup [.ref p3, .ref t]) p3 = some (.tup ((rankOf os (n, r)).map V.int)) := (upd_ne n34).trans hL3
      have hI : Dp K (upd H3 p4 (.tup [.ref p3, .ref t])) (.ref p4) (itemD os (n, r)) := .tup (SqT.of upd_same) (.cons (ints_dp (SqT.of gp3)) (.cons (dp_same (sameNew s3 hp4) _ hT) .nil))
      generalize upd H3 p4 (.tup [.ref p3, .ref t]) = H4 at s4 hI ⊢
      have sv4 := sv.grow s4
      obtain ⟨zs, hg, F⟩ := sv4.g
      have lg := hg.len
      have hx4 := s4 _ _ hx
      have gd : HQ.Good K H4 G (zs ++ [(.ref p4, itemD os (n, r))]) := good_of (l := gq ++ [(n, r)]) hg.g (by rw [List.map_append, hg.gd, List.map_append]; rfl) (fun z hz => by
        rcases List.mem_append.mp hz with hz | hz
        · exact hg.zd z hz
        · rw [List.mem_singleton.mp hz]; exact hI) (fun z hz => by
        rcases List.mem_append.mp hz with hz | hz
        · exact (sv.gok z hz).2
        · rw [List.mem_singleton.mp hz]; exact good)
      refine ⟨G, zs, (.ref p4, itemD os (n, r)), rfl, hg.g, gd, small1000 (by omega), F, fun ys py F2 => ?_⟩
      have nxG : x ≠ G := fun z => by rw [z, hg.g] at hx4; cases hx4
      have hx5 : hp H4 G ys x = some (.ins C dx (fldsS vk vo n G)) := (upd_ne nxG).trans hx4
      refine ⟨_, rfl, x, C, dx, _, _, rfl, hx5, X.cl, X.nC, fs_came, _, _, rfl, rfl, dx, _, hx5, by show 4 < 1000; decide, ?_⟩
      refine ⟨_, rfl, ?_⟩
      rw [show ((n : Nat) : Int) + 1 = ((n + 1 : Nat) : Int) by omega, fs_put]
      have p2' : ((gq ++ [(n, r)]).map (itemD os)).Perm (ys.map (·.2)) := by
        rw [List.map_append, ← hg.gd]
        have := (py.map (·.2)).symm
        rw [List.map_append] at this
        exact this
      obtain ⟨gq', pl, el⟩ := perm_unmap p2' (gq ++ [(n, r)]) rfl
      have pq : gq'.Perm ((n, r) :: gq) := pl.symm.trans (List.perm_append_comm (l₁ := gq) (l₂ := [(n, r)]))
      have fr : Frv H4 (upd (hp H4 G ys) x (.ins C dx (fldsS vk vo (n + 1) G))) x G := Frv.updG.trans Frv.updx
      have kp := sv4.kp fr
      have kp2 : KpS (hp H4 G ys) (upd (hp H4 G ys) x (.ins C dx (fldsS vk vo (n + 1) G))) := .ins hx5
      have gok' : RowsOk os ks gq' := fun y hy => by
        rcases List.mem_cons.mp (pq.mem_iff.mp hy) with e | hy
        · rw [e]; exact ⟨hf, good⟩
        · exact sv.gok y hy
      refine k _ gq' ⟨sv4.same2 fr, sv.x0, sv.g0, sv.oz, ⟨dx, vk, vo, upd_same, hk, ho⟩, ⟨ys, ⟨(upd_ne (Ne.symm nxG)).trans upd_same, el.symm, fun z hz => ?_⟩, F2⟩, gok'⟩ pq ((Frv.of s4).trans fr)
      obtain ⟨q', hq', e'⟩ := zmem el.symm hz
      exact dp_kp kp2 _ (by rw [e']; exact item_noL (gok' q' hq').2) (gd.dp z (py.mem_iff.mp hz) _)
theorem scSvTake : FnScope ["self"] ["self"] (defScope s_Sieve_take) := ⟨rfl, rfl, rfl, by decide +kernel, rfl, by decide +kernel, by decide +kernel⟩
theorem svtake_ok {f C CE : Addr} {fd : FuncData} (X : TxS K C) (M : MethAt K C "take" "Sieve.take" s_Sieve_take f fd) (TP : mg "heappop" = some (.builtin "_heapq.heappop")) (xE : PySem.W.excIn K CE [.type "ValueError", .type "Exception", .type "BaseException", .type "object"] "ValueError.__new__" = true)
    (gE : mg "Empty" = some (.ref CE)) (kE : PySem.W.keepIn K (.ref CE) = true) (bE : PySem.W.subIn K (.ref CE) (.type "BaseException") = some true) (tE : PySem.W.typeIn K (.ref CE) = some (.type "type")) :
    MetC P w K mg base (L2.CX P w) 1 C "take" ["self"] (spSvTake K C CE) := by
  have sc := scSvTake
  refine ⟨f, fd, X.cl, M.me, ?_, M.fn.binds (fun _ _ _ _ _ _ us hl => match us, hl with | [_], _ => rfl)⟩
  refine M.fn.okX sc (fun vs H Q E h => ?_) (fun cdv A outer s H vs Q E hr h => ?_)
  · obtain ⟨x, G, ks, os, H0, n, gq, rfl, _⟩ := h
    rfl
  · obtain ⟨x, G, ks, os, H0, n, gq, rfl, sv, k⟩ := h
    have hu := hr.units
    obtain ⟨dx, vk, vo, hx, hk, ho⟩ := sv.ob
    obtain ⟨zs, hg, F⟩ := sv.g
    have lg := hg.len
    refine ⟨_, (pss_cons (ps_if (pt_not (pt_truth (pe_fld (pv 0) rfl) (by intro _; rfl))) (pss_one (ps_raise rfl (takes_of rfl rfl rfl rfl) (L2.pmk_own PySem.F.excBase_ValueError xE gE kE (raises_own bE tE) (by rfl)))) pss_nil) (pss_one (ps_ret (pe_ix ix_tup (pe_callBfun (call_popH hu) (by rfl) TP (pa_cons (pe_fld (pv 0) rfl) pa_nil)) pe_int (fun _ _ => rfl))))), ?_⟩
    refine ⟨_, rfl, x, C, dx, _, _, rfl, hx, X.cl, X.nQ, fs_queue, _, .inl ⟨_, SqL.of hg.g, rfl⟩, ?_⟩
    rcases k with ⟨rfl, k⟩ | ⟨hne, k⟩
    · have : zs = [] := List.eq_nil_of_length_eq_zero lg
      subst this
      exact iteT k
    · have ez : (zs.map (·.1)).isEmpty = false := by
        cases zs with
        | nil => exact absurd (List.eq_nil_of_length_eq_zero lg.symm) hne
        | cons _ _ => rfl
      rw [ez]
      refine iteF ?_
      have gd := hg.good sv.gok
      refine ⟨_, rfl, x, C, dx, _, _, rfl, hx, X.cl, X.nQ, fs_queue, G, zs, rfl, hg.g, ?_, gd, F, fun z ys p F2 m => ?_⟩
      · cases gq with
        | nil => exact absurd rfl hne
        | cons a l => rw [lg]; exact Nat.succ_pos _
      have p2 : (gq.map (itemD os)).Perm (z.2 :: ys.map (·.2)) := by
        rw [← hg.gd]
        exact p.map _
      obtain ⟨l, pl, el⟩ := perm_unmap p2 gq rfl
      cases l with
      | nil => cases el
      | cons q gq' =>
        rw [List.map_cons] at el
        injection el with e1 e2
        have zin : z ∈ zs := p.mem_iff.mpr List.mem_cons_self
        have qin : q ∈ gq := pl.mem_iff.mpr List.mem_cons_self
        have yin : ∀ y ∈ ys, y ∈ zs := fun y hy => p.mem_iff.mpr (List.mem_cons_of_mem _ hy)
        have gin : ∀ y ∈ gq', y ∈ gq := fun y hy => pl.mem_iff.mpr (List.mem_cons_of_mem _ hy)
        have hz1 : Dp K (hp H G ys) z.1 (itemD os q) := by
          rw [e1]
          exact gd.dp z zin _
        obtain ⟨pz, vR, vT, ez, hS, h1, h2⟩ := tuple_item7 hz1
        have nxG : x ≠ G := fun z => by rw [z, hg.g] at hx; cases hx
        have fr : Frv H (hp H G ys) x G := Frv.updG
        refine ⟨pz, _, _, _, ez, rfl, hS, atI_nat (j := 1) rfl, ?_⟩
        refine k _ vT q gq' ⟨sv.same2 fr, sv.x0, sv.g0, sv.oz, ⟨dx, vk, vo, (upd_ne nxG).trans hx, hk, ho⟩, ⟨ys, ⟨upd_same, e2.symm, fun y hy => gd.dp y (yin y hy) _⟩, F2⟩, fun y hy => sv.gok y (gin y hy)⟩ pl (fun y hy => ?_) h2 fr
        have : itemD os y ∈ ys.map (·.2) := by
          rw [← e2]
          exact List.mem_map.mpr ⟨y, hy, rfl⟩
        obtain ⟨t, ht, et⟩ := List.mem_map.mp this
        have q1 := m t ht
        unfold ltz at q1
        have et : t.2 = itemD os y := et
        rw [et, ← e1] at q1
        exact item_le q1
theorem scSvRem : FnScope ["self"] ["self"] (defScope s_Sieve_remains) := ⟨rfl, rfl, rfl, by decide +kernel, rfl, by decide +kernel, by decide +kernel⟩
theorem svrem_ok {f C : Addr} {fd : FuncData} (X : TxS K C) (M : MethAt K C "remains" "Sieve.remains" s_Sieve_remains f fd) (T : Txt K mg) : MetC P w K mg base CX0 1 C "remains" ["self"] (spSvRem K C) := by
  have sc := scSvRem
  refine ⟨f, fd, X.cl, M.me, ?_, M.fn.binds (fun _ _ _ _ _ _ us hl => match us, hl with | [_], _ => rfl)⟩
  refine M.fn.ok sc (fun vs H Q E h => ?_) (fun cdv A outer s H vs Q E hr h => ?_)
  · obtain ⟨x, G, ks, os, H0, n, gq, rfl, _⟩ := h
    rfl
  · obtain ⟨x, G, ks, os, H0, n, gq, rfl, sv, k⟩ := h
    obtain ⟨dx, vk, vo, hx, hk, ho⟩ := sv.ob
    obtain ⟨zs, hg, F⟩ := sv.g
    have lg := hg.len
    refine ⟨_, (pss_one (ps_ret (pe_callB call_len_seq (by rfl) T.len PySem.boot_len (pa_cons (pe_fld (pv 0) rfl) pa_nil)))), ?_⟩
    refine ⟨_, rfl, x, C, dx, _, _, rfl, hx, X.cl, X.nQ, fs_queue, G, _, rfl, .inl (SqL.of hg.g), ?_⟩
    rw [List.length_map, lg]
    exact k
end
end RS
set_option Elab.async false
set_option maxRecDepth 100000
set_option maxHeartbeats 4000000
namespace RS
open PySem PySem.Spec PyProof.Rows L2 GX
theorem BoxAt.nb {H : Hp} {B L a : Addr} (h : BoxAt H B L) (ha : H a = none) : a ≠ B ∧ a ≠ L := by
  obtain ⟨_, ⟨s, hb⟩, ⟨ms, hl⟩⟩ := h
  exact ⟨fun z => (by rw [z, hb] at ha; cases ha), fun z => (by rw [z, hl] at ha; cases ha)⟩
theorem BoxAt.upd_ {H : Hp} {B L a : Addr} {o : HO} (h : BoxAt H B L) (nB : a ≠ B) (nL : a ≠ L) : BoxAt (upd H a o) B L := by
  obtain ⟨n, ⟨s, hb⟩, ⟨ms, hl⟩⟩ := h
  exact ⟨n, ⟨s, (upd_ne (Ne.symm nB)).trans hb⟩, ⟨ms, (upd_ne (Ne.symm nL)).trans hl⟩⟩
theorem SameX.new {B L a : Addr} {H H' : Hp} {o : HO} (s : SameX B L H H') (ha : H a = none) : SameX B L H (upd H' a o) := fun b u h1 h2 e => by
  rw [upd_ne (ne_of_none e ha)]
  exact s b u h1 h2 e
theorem SameX.free {B L a : Addr} {H H' : Hp} (s : SameX B L H H') (_b : BoxAt H B L) (ha : H' a = none) (b' : BoxAt H' B L) : H a = none := by
  cases e : H a with
  | none => rfl
  | some o =>
    obtain ⟨n1, n2⟩ := b'.nb ha
    rw [s a o n1 n2 e] at ha
    cases ha
theorem ix_listC {X : Cx} {K : PySem.W.Frag} (e : X.K = K) : IxR X (rIxL K) := by
  subst e
  exact ix_list
theorem ix_tupC {X : Cx} {K : PySem.W.Frag} (e : X.K = K) : IxR X (rIxT K) := by
  subst e
  exact ix_tup
theorem ixDC {X : Cx} {K : PySem.W.Frag} (e : X.K = K) : IxR X (fun x y H Q => ∃ d ds i d', Dp K H x d ∧ itemsD d = some ds ∧ y = .int i ∧ atI ds i = some d' ∧ ∀ v, Dp K H v d' → Q v H) := by
  subst e
  exact ixD
/-- what has no list of its own stays -/
theorem sqT_x {K : PySem.W.Frag} {H H' : Hp} {B L a : Addr} {xs : List V} (b : BoxAt H B L) (s : SameX B L H H') (h : SqT K H a xs) : SqT K H' a xs := by
  obtain ⟨_, ⟨st, hb⟩, ⟨ms, hl⟩⟩ := b
  rcases h with (h | ⟨o, h⟩) | h
  · exact .inl (.inl (s a _ (fun z => by rw [z, hb] at h; cases h) (fun z => by rw [z, hl] at h; cases h) h))
  · exact .inl (.inr ⟨o, s a _ (fun z => by rw [z, hb] at h; cases h) (fun z => by rw [z, hl] at h; cases h) h⟩)
  · exact .inr h
mutual
theorem dp_x {K : PySem.W.Frag} {H H' : Hp} {B L : Addr} (b : BoxAt H B L) (s : SameX B L H H') : ∀ (d : PyData) {v : V}, noL d = true → Dp K H v d → Dp K H' v d
  | .none, _, _, .non => .non
  | .bool x, _, _, .bl _ => .bl x
  | .int i, _, _, .int _ => .int i
  | .str x, _, _, .str _ => .str x
  | .list ds, _, h, _ => by cases h
  | .tuple ds, _, h, .tup q hs => .tup (sqT_x b s q) (dpAll_x b s ds h hs)
  | .dict _, _, h, _ => by cases h
theorem dpAll_x {K : PySem.W.Frag} {H H' : Hp} {B L : Addr} (b : BoxAt H B L) (s : SameX B L H H') : ∀ (ds : List PyData) {vs : List V}, noLs ds = true → DpAll K H vs ds → DpAll K H' vs ds
  | [], _, _, .nil => .nil
  | d :: ds, _, h, .cons q hs => by
    unfold noLs at h
    rw [Bool.and_eq_true] at h
    exact .cons (dp_x b s d h.1 q) (dpAll_x b s ds h.2 hs)
end
end RS
set_option Elab.async false
set_option maxRecDepth 100000
set_option maxHeartbeats 4000000
namespace RS
open PySem PySem.Spec PyProof.Rows L2 GX
theorem kinds_noL (ks : List Bool) : noL (kindsD ks) = true := noLs_iff.mpr fun d hd => by
  obtain ⟨b, _, rfl⟩ := List.mem_map.mp hd
  rfl
section
variable {P : Program} {w : World} {K : PySem.W.Frag} {mg : Str → Option Value} {base : Heap}
theorem dpKinds {H : Hp} : ∀ ks : List Bool, DpAll K H (ks.map fun b => V.str (kindS b)) (ks.map fun b => .str (kindS b))
  | [] => .nil
  | _ :: ks => .cons (.str _) (dpKinds ks)
theorem scKinds : FnScope ["_law_box", "_law_k"] ["_law_box"] (defScope sKinds) := ⟨rfl, rfl, rfl, by decide +kernel, rfl, by decide +kernel, by decide +kernel⟩
def spKinds (K : PySem.W.Frag) : Sp := fun vs H Q _ => ∃ (B L : Addr), vs = [.ref B] ∧ BoxAt H B L ∧
  ∀ (H' : Hp) (v : V) (ks : List Bool), SameX B L H H' → BoxAt H' B L → 1 ≤ ks.length → ks.length ≤ 4 → Dp K H' v (kindsD ks) → Q v H'
theorem two_at {k : Int} (h0 : 0 ≤ k) (h1 : k < 2) : ∃ b, atI [V.str "number", V.str "word"] k = some (.str (kindS b)) := by
  rcases (by omega : k = 0 ∨ k = 1) with e | e
  · subst e
    exact ⟨false, atI_nat (j := 0) rfl⟩
  · subst e
    exact ⟨true, atI_nat (j := 1) rfl⟩
theorem kinds_ok {c : Addr} (D : DefAt K mg "_law_kinds" sKinds c) (T : Txt K mg) (cT : Cal P w K mg base CX0 1 "_law_take" ["_law_box", "_law_many"] spTake) : Cal P w K mg base CX0 2 "_law_kinds" ["_law_box"] (spKinds K) := by
  have sc := scKinds
  refine def_ok0 D sc (fun vs H Q E h => ?_) (fun _ _ _ _ _ _ us hl => match us, hl with | [_], _ => rfl) (fun f A outer s H vs Q E hr h => ?_)
  · obtain ⟨B, L, rfl, _⟩ := h
    rfl
  · obtain ⟨B, L, rfl, hb, k⟩ := h
    refine ⟨_, (pss_one (ps_ret (pe_callTy call_tuple_of (by rfl) T.tuple_ (by decide +kernel) (pa_cons (pe_lc (own := [("_law_k", 1)]) (tt := tYes)  rfl sc.nd (pi_range1 (by rfl) T.range (pa_cons (pe_op op_add pe_int (pe_c cT hr (by decide) (by rfl) pass0 (pa_cons (pv 0) (pa_cons pe_int pa_nil)))) pa_nil)) (blkOk_by (N := ["_law_box", "_law_k"]) (sc := defScope sKinds) (own := [("_law_k", 1)]) (by decide +kernel)) (fun _ _ _ _ _ => (pg_name (i := 1) sc.nd rfl (Or.inl rfl))) (fun _ _ _ _ _ => pts_nil) (fun _ _ _ _ _ => (pe_ix (ix_listC (K := K) rfl) (pe_lst (pa_cons pe_str (pa_cons pe_str pa_nil))) (pe_c cT hr (by decide) (by rfl) pass0 (pa_cons (pv 0) (pa_cons pe_int pa_nil))) (fun _ _ => rfl)))) pa_nil)))), ?_⟩
    refine ⟨_, rfl, B, L, 4, rfl, hb, by decide, by decide, fun H1 n s1 b1 n0 n1 => ?_⟩
    refine ⟨_, _, rfl, rfl, _, rfl, by omega, by omega, fun DD hD => ?_⟩
    obtain ⟨nB, nL⟩ := b1.nb hD
    have e1 : (1 + n).toNat = n.toNat + 1 := by omega
    rw [e1]
    refine lc_range (fun i H2 => SameX B L H1 H2 ∧ BoxAt H2 B L ∧ ∃ ks : List Bool, ks.length = i ∧ H2 DD = some (.lst (ks.map fun b => V.str (kindS b)))) ⟨SameX.refl.new hD, b1.upd_ nB nL, [], rfl, upd_same⟩ ?_ ?_
    · rintro i H2 hi ⟨s2, b2, ks, lk, hl⟩
      refine ⟨rfl, by show 2 ≤ sizeLine; decide, fun e he => ?_⟩
      obtain ⟨neB, neL⟩ := b2.nb he
      have neD : DD ≠ e := fun z => by rw [← z, hl] at he; cases he
      refine ⟨_, rfl, B, L, 2, rfl, b2.upd_ neB neL, by decide, by decide, fun H3 k' s3 b3 h0 h1 => ?_⟩
      obtain ⟨bb, hbb⟩ := two_at h0 h1
      refine ⟨e, _, k', _, rfl, rfl, SqL.of (s3 e _ neB neL upd_same), hbb, ?_⟩
      refine ⟨_, s3 DD _ nB nL ((upd_ne neD).trans hl), small1000 (by rw [List.length_map]; omega), ?_, b3.upd_ nB nL, ks ++ [bb], by rw [List.length_append, lk]; rfl, ?_⟩
      · exact (s2.trans ((SameX.refl.new he).trans s3)).new hD
      · rw [upd_same, List.map_append]
        rfl
    · rintro H2 ⟨s2, b2, ks, lk, hl⟩
      refine ⟨DD, _, rfl, .inl ⟨SqL.of hl, fun p hp => ?_⟩⟩
      obtain ⟨npB, npL⟩ := b2.nb hp
      have s12 := s1.trans s2
      exact k _ (.ref p) ks (s12.new (s12.free hb hp b2)) (b2.upd_ npB npL) (by omega) (by omega) (.tup (SqT.of upd_same) (dpKinds ks))
end
end RS
set_option Elab.async false
set_option maxRecDepth 100000
set_option maxHeartbeats 4000000
namespace RS
open PySem PySem.Spec PyProof.Rows L2 GX
theorem perm_erase {α : Type} : ∀ {l : List α} {k : Nat} {x : α}, l[k]? = some x → l.Perm (x :: l.eraseIdx k)
  | [], k, x, h => by simp at h
  | y :: l, 0, x, h => by
    simp at h
    subst h
    exact List.Perm.refl _
  | y :: l, k + 1, x, h => by
    have ih := perm_erase (l := l) (k := k) (x := x) (by simpa using h)
    exact (ih.cons y).trans (List.Perm.swap x y _)
theorem map_erase {α β : Type} (f : α → β) : ∀ (l : List α) (k : Nat), (l.map f).eraseIdx k = (l.eraseIdx k).map f
  | [], _ => rfl
  | _ :: _, 0 => rfl
  | x :: l, k + 1 => by
    show f x :: (l.map f).eraseIdx k = f x :: (l.eraseIdx k).map f
    rw [map_erase f l k]
theorem seqIx {k n : Nat} (h : k < n) : seqIndex? (k : Int) n = some k := by
  simp [seqIndex?]
  omega
section
variable {P : Program} {w : World} {K : PySem.W.Frag} {mg : Str → Option Value} {base : Heap}
theorem dpNats {H : Hp} : ∀ ns : List Nat, DpAll K H (ns.map fun c => V.int (c : Nat)) (ns.map fun c => .int (c : Nat))
  | [] => .nil
  | _ :: ns => .cons (.int _) (dpNats ns)
end
end RS
set_option Elab.async false
set_option maxRecDepth 100000
set_option maxHeartbeats 4000000
namespace RS
open PySem PySem.Spec PyProof.Rows L2 GX
section
variable {P : Program} {w : World} {K : PySem.W.Frag} {mg : Str → Option Value} {base : Heap}
theorem two_ways {k : Int} (h0 : 0 ≤ k) (h1 : k < 2) : ∃ b, atI [V.str "up", V.str "down"] k = some (.str (wayS b)) := by
  rcases (by omega : k = 0 ∨ k = 1) with e | e
  · subst e
    exact ⟨false, atI_nat (j := 0) rfl⟩
  · subst e
    exact ⟨true, atI_nat (j := 1) rfl⟩
theorem parts_noL (os : List (Nat × Bool)) : noLs (os.map partD) = true := noLs_iff.mpr fun d hd => by
  obtain ⟨p, _, rfl⟩ := List.mem_map.mp hd
  rfl
theorem scOrder : FnScope ["_law_box", "_law_kinds_here", "_law_left", "_law_found", "_law_turn"] ["_law_box", "_law_kinds_here"] (defScope sOrder) := ⟨rfl, rfl, rfl, by decide +kernel, rfl, by decide +kernel, by decide +kernel⟩
def spOrder (K : PySem.W.Frag) : Sp := fun vs H Q _ => ∃ (B L : Addr) (vk : V) (ks : List Bool), vs = [.ref B, vk] ∧ BoxAt H B L ∧ Dp K H vk (kindsD ks) ∧ 1 ≤ ks.length ∧ ks.length ≤ 4 ∧
  ∀ (H' : Hp) (a : Addr) (os : List (Nat × Bool)) (xs : List V), SameX B L H H' → BoxAt H' B L → OkOrder ks.length os → os.length ≤ 4 → H a = none → H' a = some (.lst xs) → DpAll K H' xs (os.map partD) → Q (.ref a) H'
theorem order_ok {c : Addr} (D : DefAt K mg "_law_order" sOrder c) (T : Txt K mg) (cT : Cal P w K mg base CX0 1 "_law_take" ["_law_box", "_law_many"] spTake) : Cal P w K mg base CX0 2 "_law_order" ["_law_box", "_law_kinds_here"] (spOrder K) := by
  have sc := scOrder
  refine def_ok0 D sc (fun vs H Q E h => ?_) (fun _ _ _ _ _ _ us hl => match us, hl with | [_, _], _ => rfl) (fun f A outer s H vs Q E hr h => ?_)
  · obtain ⟨B, L, vk, ks, rfl, _⟩ := h
    rfl
  · obtain ⟨B, L, vk, ks, rfl, hb, hk, k1, k4, k⟩ := h
    refine ⟨_, (pss_cons (ps_set (i := 2) sc.nd rfl (Or.inl rfl) (pe_listRg rfl (by rfl) T.list_ (prg_1 (by rfl) T.range (pe_callB call_lenD (by rfl) T.len PySem.boot_len (pa_cons (pv 1) pa_nil))))) (pss_cons (ps_set (i := 3) sc.nd rfl (Or.inl rfl) (pe_lst pa_nil)) (pss_cons (ps_for PassesOwn.never rfl (pi_range1 (by rfl) T.range (pa_cons (pe_op op_add pe_int (pe_c cT hr (by decide) (by rfl) pass0 (pa_cons (pv 0) (pa_cons (pe_callB call_lenD (by rfl) T.len PySem.boot_len (pa_cons (pv 1) pa_nil)) pa_nil)))) pa_nil)) (pg_name (i := 4) sc.nd rfl (Or.inl rfl)) (pss_one (ps_expr (pe_bm PySem.F.plainAttrs_list PySem.F.slot_list_append PySem.F.type_list_append mt_append (pv 3) (pa_cons (pe_tup (pa_cons (pe_bm PySem.F.plainAttrs_list PySem.F.slot_list_pop PySem.F.type_list_pop mt_popAt (pv 2) (pa_cons (pe_c cT hr (by decide) (by rfl) pass0 (pa_cons (pv 0) (pa_cons (pe_callB call_lenD (by rfl) T.len PySem.boot_len (pa_cons (pv 2) pa_nil)) pa_nil))) pa_nil)) (pa_cons (pe_ix ix_list (pe_lst (pa_cons pe_str (pa_cons pe_str pa_nil))) (pe_c cT hr (by decide) (by rfl) pass0 (pa_cons (pv 0) (pa_cons pe_int pa_nil))) (fun _ _ => rfl)) pa_nil))) pa_nil))))) (pss_one (ps_ret (pv 3)))))), ?_⟩
    have lk : (ks.map fun b => PyData.str (kindS b)).length = ks.length := List.length_map _
    refine ⟨_, rfl, vk, _, _, rfl, hk, rfl, _, rfl, .of_le (by decide) (by omega) (by decide) (by omega), fun Lf hLf => ?_⟩
    refine ⟨Nat.zero_le _, fun Fd hFd => ?_⟩
    obtain ⟨nfB, nfL⟩ := hb.nb hLf
    have hFd0 := upd_no hFd
    obtain ⟨ndB, ndL⟩ := hb.nb hFd0
    have nFL : Fd ≠ Lf := fun z => by rw [z, upd_same] at hFd; cases hFd
    have s1 : Same H (upd (upd H Lf (.lst (rgV 0 ((ks.map fun b => PyData.str (kindS b)).length : Nat)))) Fd (.lst [])) := fun b o e => by
      rw [upd_ne (ne_of_none e hFd0), upd_ne (ne_of_none e hLf)]
      exact e
    refine ⟨_, rfl, _, rfl, vk, _, _, rfl, dp_same s1 _ hk, rfl, B, L, _, rfl, hb.same s1, by omega, by omega, fun H1 n s2 b2 n0 n1 => ?_⟩
    refine ⟨_, _, rfl, rfl, _, rfl, by omega, by omega, ?_⟩
    rw [show (1 + n).toNat = n.toNat + 1 by omega]
    have hL1 : H1 Lf = some (.lst ((List.range ks.length).map fun c => V.int (c : Nat))) := by
      rw [s2 Lf (.lst (rgV 0 ((ks.map fun b => PyData.str (kindS b)).length : Nat))) nfB nfL ((upd_ne (Ne.symm nFL)).trans upd_same)]
      simp [rgV]
    have sHX : SameX B L H H1 := (SameX.of s1).trans s2
    have hF1 : H1 Fd = some (.lst []) := s2 Fd _ ndB ndL upd_same
    refine for_range (fun i σ H2 => ∃ (v4 : Option V) (cols : List Nat) (os : List (Nat × Bool)) (xs : List V), σ = [some (.ref B), some vk, some (.ref Lf), some (.ref Fd), v4] ∧ SameX B L H H2 ∧ BoxAt H2 B L ∧
      H2 Lf = some (.lst (cols.map fun c => V.int (c : Nat))) ∧ H2 Fd = some (.lst xs) ∧ DpAll K H2 xs (os.map partD) ∧ os.length = i ∧ cols.length + i = ks.length ∧ (os.map (·.1) ++ cols).Nodup ∧ ∀ c ∈ os.map (·.1) ++ cols, c < ks.length)
      ⟨none, List.range ks.length, [], [], rfl, sHX, b2, hL1, hF1, .nil, rfl, by rw [List.length_range]; rfl, List.nodup_range, fun c hc => List.mem_range.mp hc⟩ ?_ ?_
    · rintro i σ H2 hi ⟨v4, cols, os, xs, rfl, sm, b3, hL, hF, hd, lo, lc, nd, lt⟩
      have lc2 : (cols.map fun c => PyData.int (c : Nat)).length = cols.length := List.length_map _
      refine ⟨_, rfl, .inl ⟨rfl, _, SqL.of hF⟩, _, rfl, .inl ⟨rfl, _, SqL.of hL⟩, _, rfl, _, rfl, .ref Lf, _, _, rfl, .lst (SqL.of hL) (dpNats cols), rfl, B, L, _, rfl, b3, by omega, by omega, fun H3 k1 s4 b4 h0 h1 => ?_⟩
      obtain ⟨kn, rfl⟩ : ∃ kn : Nat, k1 = (kn : Int) := ⟨k1.toNat, by omega⟩
      have hkn : kn < cols.length := by omega
      have hL3 := s4 _ _ nfB nfL hL
      have hF3 := s4 _ _ ndB ndL hF
      refine ⟨Lf, _, (kn : Int), kn, .int (cols[kn] : Nat), rfl, rfl, hL3, by omega, by omega, seqIx (by rw [List.length_map]; exact hkn), by rw [List.getElem?_map, List.getElem?_eq_getElem hkn]; rfl, ?_⟩
      rw [map_erase]
      have b5 := b4.upd_ (o := .lst ((cols.eraseIdx kn).map fun c => V.int (c : Nat))) nfB nfL
      refine ⟨by show 2 ≤ sizeLine; decide, fun e he => ?_⟩
      obtain ⟨neB, neL⟩ := b5.nb he
      refine ⟨_, rfl, B, L, 2, rfl, b5.upd_ neB neL, by decide, by decide, fun H5 k2 s6 b6 g0 g1 => ?_⟩
      obtain ⟨bb, hbb⟩ := two_ways g0 g1
      refine ⟨e, _, k2, _, rfl, rfl, SqL.of (s6 e _ neB neL upd_same), hbb, ?_⟩
      refine ⟨by show 2 ≤ sizeLine; decide, fun p hp => ?_⟩
      obtain ⟨npB, npL⟩ := b6.nb hp
      have hF4 : upd H3 Lf (.lst ((cols.eraseIdx kn).map fun c => V.int (c : Nat))) Fd = some (.lst xs) := (upd_ne nFL).trans hF3
      have neF : Fd ≠ e := fun z => by rw [← z, hF4] at he; cases he
      have neLf : Lf ≠ e := fun z => by rw [← z, upd_same] at he; cases he
      have hF5 : H5 Fd = some (.lst xs) := s6 _ _ ndB ndL ((upd_ne neF).trans hF4)
      have hL5 : H5 Lf = some (.lst ((cols.eraseIdx kn).map fun c => V.int (c : Nat))) := s6 _ _ nfB nfL ((upd_ne neLf).trans upd_same)
      have npF : Fd ≠ p := fun z => by rw [← z, hF5] at hp; cases hp
      have npLf : Lf ≠ p := fun z => by rw [← z, hL5] at hp; cases hp
      have lx : xs.length = os.length := by rw [dpLen hd, List.length_map]
      refine ⟨Fd, xs, _, rfl, rfl, (upd_ne npF).trans hF5, small1000 (by omega), ?_⟩
      have he3 : H3 e = none := upd_no he
      have sH3 : SameX B L H H3 := sm.trans s4
      have hE0 := sH3.free hb he3 b4
      have sH5 : SameX B L H H5 := ((sH3.new hLf).new hE0).trans s6
      have hP0 := sH5.free hb hp b6
      have pn := parts_noL os
      have pn2 := parts_noL (os ++ [(cols[kn], bb)])
      have hd4 := dpAll_upd (u := (cols.eraseIdx kn).map fun c => V.int (c : Nat)) hL3 _ pn (dpAll_x b3 s4 _ pn hd)
      have hd5 : DpAll K H5 xs (os.map partD) := dpAll_x (b5.upd_ neB neL) s6 _ pn (dpAll_same (fun b o q => by rw [upd_ne (ne_of_none q he)]; exact q) _ hd4)
      have hd6 : DpAll K (upd H5 p (.tup [.int (cols[kn] : Nat), .str (wayS bb)])) (xs ++ [.ref p]) ((os ++ [(cols[kn], bb)]).map partD) := by
        rw [List.map_append]
        exact dpApp (dpAll_same (fun b o q => by rw [upd_ne (ne_of_none q hp)]; exact q) _ hd5) (.cons (.tup (SqT.of upd_same) (.cons (.int _) (.cons (.str _) .nil))) .nil)
      have pm := perm_erase (List.getElem?_eq_getElem hkn)
      have pq : ((os ++ [(cols[kn], bb)]).map (·.1) ++ cols.eraseIdx kn).Perm (os.map (·.1) ++ cols) := by
        rw [List.map_append, List.append_assoc]
        exact (pm.symm).append_left _
      have lE : (cols.eraseIdx kn).length + 1 = cols.length := by
        have := pm.length_eq
        rw [List.length_cons] at this
        omega
      refine ⟨_, cols.eraseIdx kn, os ++ [(cols[kn], bb)], _, rfl, (sH5.new hP0).new hFd0, (b6.upd_ npB npL).upd_ ndB ndL, (upd_ne (Ne.symm nFL)).trans ((upd_ne npLf).trans hL5), upd_same, dpAll_upd ((upd_ne npF).trans hF5) _ pn2 hd6, by rw [List.length_append, lo]; rfl, by omega, pq.nodup_iff.mpr nd, fun c hc => lt c (pq.mem_iff.mp hc)⟩
    · rintro σ H2 ⟨v4, cols, os, xs, rfl, sm, b3, hL, hF, hd, lo, lc, nd, lt⟩
      refine ⟨_, rfl, k H2 Fd os xs sm b3 ⟨fun z => ?_, fun p hp => lt _ (List.mem_append_left _ (List.mem_map.mpr ⟨p, hp, rfl⟩)), (List.nodup_append.mp nd).1⟩ (by omega) hFd0 hF hd⟩
      rw [z] at lo
      simp at lo
end
end RS
set_option Elab.async false
set_option maxRecDepth 100000
set_option maxHeartbeats 4000000
namespace RS
open PySem PySem.Spec PyProof.Rows L2 GX
/-- a new object in a heap that differs by the drawer -/
theorem al {B L e : Addr} {H H1 : Hp} {o : HO} (s : SameX B L H H1) (hb : BoxAt H B L) (b : BoxAt H1 B L) (he : H1 e = none) : SameX B L H (upd H1 e o) ∧ BoxAt (upd H1 e o) B L ∧ e ≠ B ∧ e ≠ L := by
  obtain ⟨n1, n2⟩ := b.nb he
  exact ⟨s.new (s.free hb he b), b.upd_ n1 n2, n1, n2⟩
theorem joinL_nil : ∀ ps : List (List Nat), TL.joinL [] ps = ps.flatten
  | [] => rfl
  | [p] => by simp [TL.joinL]
  | p :: q :: r => by
    show p ++ ([] ++ TL.joinL [] (q :: r)) = _
    rw [joinL_nil (q :: r), List.nil_append, List.flatten_cons, List.flatten_cons, List.flatten_cons]
def oneS (c : Nat) : Str := ⟨#[c]⟩
theorem flat_one : ∀ cs : List Nat, (cs.map (TL.tl ∘ oneS)).flatten = cs
  | [] => rfl
  | c :: cs => by
    rw [List.map_cons, List.flatten_cons, flat_one cs]
    rfl
theorem join_signs (cs : List Nat) : (Txt.join (Str.ofString "") (cs.map oneS)).cps.toList = cs := by
  have e := TL.tl_join (Str.ofString "") (cs.map oneS)
  rw [← TL.join_eq] at e
  have e2 : TL.tl (Str.ofString "") = [] := by decide +kernel
  rw [e2, joinL_nil, List.map_map, flat_one] at e
  exact e
theorem sum_ones : ∀ cs : List Nat, ((cs.map oneS).map (·.length)).sum = cs.length
  | [] => rfl
  | c :: cs => by
    rw [List.map_cons, List.map_cons, List.sum_cons, sum_ones cs]
    show 1 + cs.length = cs.length + 1
    omega
section
variable {P : Program} {w : World} {K : PySem.W.Frag} {mg : Str → Option Value} {base : Heap}
theorem scValue : FnScope ["_law_box", "_law_kind", "_law_many", "_law_letters", "_law_k"] ["_law_box", "_law_kind"] (defScope sValue) := ⟨rfl, rfl, rfl, by decide +kernel, rfl, by decide +kernel, by decide +kernel⟩
def spValueL (K : PySem.W.Frag) : Sp := fun vs H Q _ => ∃ (B L : Addr) (b : Bool), vs = [.ref B, .str (kindS b)] ∧ BoxAt H B L ∧
  ∀ (H' : Hp) (v : V) (d : PyData), SameX B L H H' → BoxAt H' B L → isVal b d = true → Dp K H' v d → Q v H'
theorem letters_ok {k : Int} (h0 : 0 ≤ k) (h1 : k < 2) : ∃ z : Str, atI [V.str "abz", V.str "abcdefghijklmnopqrstuvwxyz"] k = some (.str z) ∧ 1 ≤ z.length ∧ z.length ≤ 26 ∧ ∀ c ∈ z.cps.toList, signOk c = true := by
  rcases (by omega : k = 0 ∨ k = 1) with e | e
  · subst e
    exact ⟨_, atI_nat (j := 0) rfl, by decide +kernel, by decide +kernel, by decide +kernel⟩
  · subst e
    exact ⟨_, atI_nat (j := 1) rfl, by decide +kernel, by decide +kernel, by decide +kernel⟩
theorem num_isVal {n : Int} (h1 : -999 ≤ n) (h2 : n ≤ 999) : isVal false (.int n) = true := by
  simp [isVal, isNum, inBand, isI, isT, tyN, h1, h2]
theorem word_isVal {x : Str} (h : x.length ≤ 6) (ok : ∀ c ∈ x.cps.toList, signOk c = true) : isVal true (.str x) = true := by
  show (decide ((x.length : Int) ≤ 6) && x.cps.toList.all signOk) = true
  rw [Bool.and_eq_true]
  exact ⟨decide_eq_true (by omega), List.all_eq_true.mpr ok⟩
theorem value_ok {c : Addr} (D : DefAt K mg "_law_value" sValue c) (T : Txt K mg) (cT : Cal P w K mg base CX0 1 "_law_take" ["_law_box", "_law_many"] spTake) : Cal P w K mg base CX0 2 "_law_value" ["_law_box", "_law_kind"] (spValueL K) := by
  have sc := scValue
  refine def_ok0 D sc (fun vs H Q E h => ?_) (fun _ _ _ _ _ _ us hl => match us, hl with | [_, _], _ => rfl) (fun f A outer s H vs Q E hr h => ?_)
  · obtain ⟨B, L, b, rfl, _⟩ := h
    rfl
  · obtain ⟨B, L, b, rfl, hb, k⟩ := h
    refine ⟨_, (pss_cons (ps_if (pt_cmpR op_eq (pv 1) pe_str (nomark _)) (pss_one (ps_ret (pe_ix ix_list (pe_lst (pa_cons (pe_c cT hr (by decide) (by rfl) pass0 (pa_cons (pv 0) (pa_cons pe_int pa_nil))) (pa_cons (pe_op op_sub (pe_c cT hr (by decide) (by rfl) pass0 (pa_cons (pv 0) (pa_cons pe_int pa_nil))) pe_int) (pa_cons (pe_ix ix_list (pe_lst (pa_cons (pe_un un_neg pe_int) (pa_cons pe_int (pa_cons pe_int pa_nil)))) (pe_c cT hr (by decide) (by rfl) pass0 (pa_cons (pv 0) (pa_cons pe_int pa_nil))) (fun _ _ => rfl)) pa_nil)))) (pe_c cT hr (by decide) (by rfl) pass0 (pa_cons (pv 0) (pa_cons pe_int pa_nil))) (fun _ _ => rfl)))) pss_nil) (pss_cons (ps_set (i := 2) sc.nd rfl (Or.inl rfl) (pe_c cT hr (by decide) (by rfl) pass0 (pa_cons (pv 0) (pa_cons (pe_ix ix_list (pe_lst (pa_cons pe_int (pa_cons pe_int pa_nil))) (pe_c cT hr (by decide) (by rfl) pass0 (pa_cons (pv 0) (pa_cons pe_int pa_nil))) (fun _ _ => rfl)) pa_nil)))) (pss_cons (ps_set (i := 3) sc.nd rfl (Or.inr rfl) (pe_ix ix_list (pe_lst (pa_cons pe_str (pa_cons pe_str pa_nil))) (pe_c cT hr (by decide) (by rfl) pass0 (pa_cons (pv 0) (pa_cons pe_int pa_nil))) (fun _ _ => rfl))) (pss_one (ps_ret (pe_bm PySem.F.plainAttrs_str PySem.F.slot_str_join PySem.F.type_str_join mt_join pe_str (pa_cons (pe_lc (own := [("_law_k", 4)]) (tt := tYes)  rfl sc.nd (pi_range1 (by rfl) T.range (pa_cons (pv 2) pa_nil)) (blkOk_by (N := ["_law_box", "_law_kind", "_law_many", "_law_letters", "_law_k"]) (sc := defScope sValue) (own := [("_law_k", 4)]) (by decide +kernel)) (fun _ _ _ _ _ => (pg_name (i := 4) sc.nd rfl (Or.inl rfl))) (fun _ _ _ _ _ => pts_nil) (fun _ _ _ _ _ => pe_ix ix_str (pv 3) (pe_c cT hr (by decide) (by rfl) pass0 (pa_cons (pv 0) (pa_cons (pe_callB call_len_str (by rfl) T.len PySem.boot_len (pa_cons (pv 3) pa_nil)) pa_nil))) (fun _ _ => rfl))) pa_nil))))))), ?_⟩
    refine ⟨_, rfl, rfl, _, rfl, ?_⟩
    have ek : decide (V.str (kindS b) = V.str "number") = !b := by cases b <;> decide +kernel
    rw [ek]
    cases b with
    | false =>
      refine iteT ⟨_, rfl, B, L, 4, rfl, hb, by decide, by decide, fun H1 n1 s1 b1 a0 a1 => ?_⟩
      refine ⟨_, rfl, B, L, 1999, rfl, b1, by decide, by decide, fun H2 n2 s2 b2 c0 c1 => ?_⟩
      refine ⟨_, _, rfl, rfl, _, rfl, by show 3 ≤ sizeLine; decide, fun e1 he1 => ?_⟩
      have s12 := s1.trans s2
      obtain ⟨s3, b3, ne1, ne2⟩ := al (o := .lst [.int (-999), .int 999, .int 0]) s12 hb b2 he1
      refine ⟨_, rfl, B, L, 3, rfl, b3, by decide, by decide, fun H3 n3 s4 b4 d0 d1 => ?_⟩
      obtain ⟨w3, hw3, lo3, hi3⟩ : ∃ w3 : Int, atI [V.int (-999), V.int 999, V.int 0] n3 = some (.int w3) ∧ -999 ≤ w3 ∧ w3 ≤ 999 := by
        rcases (by omega : n3 = 0 ∨ n3 = 1 ∨ n3 = 2) with e | e | e
        · subst e; exact ⟨_, atI_nat (j := 0) rfl, by decide, by decide⟩
        · subst e; exact ⟨_, atI_nat (j := 1) rfl, by decide, by decide⟩
        · subst e; exact ⟨_, atI_nat (j := 2) rfl, by decide, by decide⟩
      refine ⟨e1, _, n3, _, rfl, rfl, SqL.of (s4 _ _ ne1 ne2 upd_same), hw3, by show 3 ≤ sizeLine; decide, fun e2 he2 => ?_⟩
      obtain ⟨s5, b5, me1, me2⟩ := al (o := .lst [.int n1, .int (n2 - 999), .int w3]) (s3.trans s4) hb b4 he2
      refine ⟨_, rfl, B, L, 3, rfl, b5, by decide, by decide, fun H4 n4 s6 b6 f0 f1 => ?_⟩
      obtain ⟨w4, hw4, lo4, hi4⟩ : ∃ w4 : Int, atI [V.int n1, V.int (n2 - 999), V.int w3] n4 = some (.int w4) ∧ -999 ≤ w4 ∧ w4 ≤ 999 := by
        rcases (by omega : n4 = 0 ∨ n4 = 1 ∨ n4 = 2) with e | e | e
        · subst e; exact ⟨_, atI_nat (j := 0) rfl, by omega, by omega⟩
        · subst e; exact ⟨_, atI_nat (j := 1) rfl, by omega, by omega⟩
        · subst e; exact ⟨_, atI_nat (j := 2) rfl, by omega, by omega⟩
      exact ⟨e2, _, n4, _, rfl, rfl, SqL.of (s6 _ _ me1 me2 upd_same), hw4, k _ _ (.int w4) (s5.trans s6) b6 (num_isVal lo4 hi4) (.int w4)⟩
    | true =>
      refine iteF ⟨_, rfl, by show 2 ≤ sizeLine; decide, fun e1 he1 => ?_⟩
      obtain ⟨s1, b1, ne1, ne2⟩ := al (o := .lst [.int 3, .int 7]) SameX.refl hb hb he1
      refine ⟨_, rfl, B, L, 2, rfl, b1, by decide, by decide, fun H1 n1 s2 b2 a0 a1 => ?_⟩
      obtain ⟨w1, hw1, lo1, hi1⟩ : ∃ w1 : Int, atI [V.int 3, V.int 7] n1 = some (.int w1) ∧ 1 ≤ w1 ∧ w1 ≤ 7 := by
        rcases (by omega : n1 = 0 ∨ n1 = 1) with e | e
        · subst e; exact ⟨_, atI_nat (j := 0) rfl, by decide, by decide⟩
        · subst e; exact ⟨_, atI_nat (j := 1) rfl, by decide, by decide⟩
      refine ⟨e1, _, n1, _, rfl, rfl, SqL.of (s2 _ _ ne1 ne2 upd_same), hw1, B, L, w1, rfl, b2, by omega, by omega, fun H2 n2 s3 b3 c0 c1 => ?_⟩
      have sA := (s1.trans s2).trans s3
      refine ⟨by show 2 ≤ sizeLine; decide, fun e2 he2 => ?_⟩
      obtain ⟨s4, b4, me1, me2⟩ := al (o := .lst [.str "abz", .str "abcdefghijklmnopqrstuvwxyz"]) sA hb b3 he2
      refine ⟨_, rfl, B, L, 2, rfl, b4, by decide, by decide, fun H3 n3 s5 b5 d0 d1 => ?_⟩
      obtain ⟨z, hz, z1, z26, zok⟩ := letters_ok d0 d1
      have big : (26 : Nat) ≤ sizeLine := by decide
      refine ⟨e2, _, n3, _, rfl, rfl, SqL.of (s5 _ _ me1 me2 upd_same), hz, ?_⟩
      have sB := s4.trans s5
      refine ⟨rfl, _, rfl, _, rfl, by omega, by omega, fun DD hD => ?_⟩
      obtain ⟨s6, b6, nDB, nDL⟩ := al (o := .lst []) sB hb b5 hD
      have hD0 := sB.free hb hD b5
      refine lc_range (fun i H' => SameX B L H H' ∧ BoxAt H' B L ∧ ∃ cs : List Nat, cs.length = i ∧ (∀ c ∈ cs, signOk c = true) ∧ H' DD = some (.lst (cs.map fun c => V.str (oneS c)))) ⟨s6, b6, [], rfl, (fun _ h => nomatch h), upd_same⟩ ?_ ?_
      · rintro i H4 hi ⟨s7, b7, cs, lc, okc, hl⟩
        refine ⟨rfl, _, rfl, _, rfl, _, rfl, z, rfl, by omega, B, L, _, rfl, b7, by omega, by omega, fun H5 n5 s8 b8 f0 f1 => ?_⟩
        obtain ⟨kn, rfl⟩ : ∃ kn : Nat, n5 = (kn : Int) := ⟨n5.toNat, by omega⟩
        have hkn : kn < z.cps.toList.length := by rw [len_cps]; omega
        refine ⟨z, _, z.cps.toList[kn], rfl, rfl, by omega, atI_nat (List.getElem?_eq_getElem hkn), ?_⟩
        refine ⟨_, s8 _ _ nDB nDL hl, small1000 (by rw [List.length_map]; omega), (s7.trans s8).new hD0, b8.upd_ nDB nDL, cs ++ [z.cps.toList[kn]], by rw [List.length_append, lc]; rfl, fun c hc => ?_, ?_⟩
        · rcases List.mem_append.mp hc with hc | hc
          · exact okc c hc
          · rw [List.mem_singleton.mp hc]
            exact zok _ (List.getElem_mem hkn)
        · rw [upd_same, List.map_append]
          rfl
      · rintro H4 ⟨s7, b7, cs, lc, okc, hl⟩
        have js := join_signs cs
        refine ⟨_, DD, cs.map oneS, rfl, rfl, .inl (SqL.of (by rw [List.map_map]; exact hl)), ?_, ?_⟩
        · rw [sum_ones, List.length_map]
          have e0 : (Str.ofString "").length = 0 := by decide +kernel
          show cs.length + cs.length * (Str.ofString "").length ≤ 16777216
          rw [e0]
          omega
        · refine k _ _ (.str _) s7 b7 (word_isVal ?_ ?_) (.str _)
          · rw [← len_cps, js]
            omega
          · rw [js]
            exact okc
end
end RS
set_option Elab.async false
set_option maxRecDepth 100000
set_option maxHeartbeats 4000000
namespace RS
open PySem PySem.Spec PyProof.Rows L2 GX
section
variable {P : Program} {w : World} {K : PySem.W.Frag} {mg : Str → Option Value} {base : Heap}
def Vals1 (ks : List Bool) (r : List PyData) : Prop := ∀ (j : Nat) (d : PyData), r[j]? = some d → ∃ b, ks[j]? = some b ∧ isVal b d = true
theorem isRow_get {ks : List Bool} {r : List PyData} : isRow ks (.tuple r) = true ↔ r.length = ks.length ∧ Vals1 ks r := by
  rw [isRow_iff]
  constructor
  · rintro ⟨hl, ha⟩
    refine ⟨hl, fun j d hj => ?_⟩
    have h1 := (List.getElem?_eq_some_iff.mp hj).1
    have h2 : j < ks.length := by omega
    refine ⟨ks[j], List.getElem?_eq_getElem h2, List.all_eq_true.mp ha (ks[j], d) ?_⟩
    rw [List.mem_iff_getElem]
    refine ⟨j, by rw [List.length_zip]; omega, ?_⟩
    rw [List.getElem_zip, (List.getElem?_eq_some_iff.mp hj).2]
  · rintro ⟨hl, ha⟩
    refine ⟨hl, List.all_eq_true.mpr fun p hp => ?_⟩
    obtain ⟨j, hj, e⟩ := List.getElem_of_mem hp
    rw [List.length_zip] at hj
    rw [List.getElem_zip] at e
    obtain ⟨b, h1, h2⟩ := ha j r[j] (List.getElem?_eq_getElem (by omega))
    rw [List.getElem?_eq_getElem (by omega)] at h1
    cases h1
    rw [← e]
    exact h2
theorem vals_noL {ks : List Bool} {r : List PyData} (h : Vals1 ks r) : noLs r = true := noLs_iff.mpr fun d hd => by
  obtain ⟨j, hj, e⟩ := List.getElem_of_mem hd
  obtain ⟨b, _, hv⟩ := h j d (by rw [List.getElem?_eq_getElem hj, e])
  rcases val_atom hv with ⟨_, x, rfl⟩ | ⟨_, n, rfl⟩ <;> rfl
theorem vals_snoc {ks : List Bool} {r : List PyData} {b : Bool} {d : PyData} (h : Vals1 ks r) (hb : ks[r.length]? = some b) (hv : isVal b d = true) : Vals1 ks (r ++ [d]) := fun j e hj => by
  by_cases hlt : j < r.length
  · rw [List.getElem?_append_left hlt] at hj
    exact h j e hj
  · have h1 := (List.getElem?_eq_some_iff.mp hj).1
    rw [List.length_append, List.length_singleton] at h1
    have e1 : j = r.length := by omega
    subst e1
    rw [List.getElem?_append_right (Nat.le_refl _), Nat.sub_self] at hj
    cases hj
    exact ⟨b, hb, hv⟩
theorem vals_set0 {ks : List Bool} {r : List PyData} {d : PyData} (h : Vals1 ks r) (hb : ks[0]? = some false) (hv : isVal false d = true) : Vals1 ks (r.set 0 d) := fun j e hj => by
  cases j with
  | zero =>
    cases r with
    | nil => cases hj
    | cons x r =>
      cases hj
      exact ⟨false, hb, hv⟩
  | succ j =>
    cases r with
    | nil => cases hj
    | cons x r => exact h (j + 1) e hj
theorem dpAll_set0 {K : PySem.W.Frag} {H : Hp} {xs : List V} {ds : List PyData} {v : V} {d : PyData} (h : DpAll K H xs ds) (hv : Dp K H v d) : DpAll K H (xs.set 0 v) (ds.set 0 d) := by
  cases h with
  | nil => exact .nil
  | cons _ t => exact .cons hv t
theorem rowsL_noL {ks : List Bool} {rs : List (List PyData)} (h : ∀ r ∈ rs, isRow ks (.tuple r) = true) : noLs (rs.map .tuple) = true := noLs_iff.mpr fun d hd => by
  obtain ⟨r, hr, rfl⟩ := List.mem_map.mp hd
  exact vals_noL (isRow_get.mp (h r hr)).2
theorem signOk_le {c : Nat} (h : signOk c = true) : c ≤ 122 := by
  unfold signOk at h
  rw [Bool.and_eq_true] at h
  have h2 : ¬ ([122] : List Nat) < [c] := by simpa using h.2
  by_cases q : c ≤ 122
  · exact q
  · exact absurd (List.cons_lt_cons_iff.mpr (.inl (by omega))) h2
theorem sign_strOk {x : Str} (h : isWord (.str x) = true) : PyData.strOk x = true := by
  have h' : (decide ((x.length : Int) ≤ 6) && x.cps.toList.all signOk) = true := h
  rw [Bool.and_eq_true] at h'
  unfold PyData.strOk
  rw [Array.all_eq_true']
  intro c hc
  have := signOk_le (List.all_eq_true.mp h'.2 c (Array.mem_toList_iff.mpr hc))
  exact decide_eq_true (by omega)
theorem val_shape {b : Bool} {d : PyData} (h : isVal b d = true) : d.canLay0 = true ∧ d.depth = 0 := by
  rcases val_atom h with ⟨e, x, rfl⟩ | ⟨e, n, rfl⟩
  · subst e
    exact ⟨by simp only [PyData.canLay0]; exact sign_strOk h, by simp [PyData.depth]⟩
  · exact ⟨by simp [PyData.canLay0], by simp [PyData.depth]⟩
theorem canLayAll {ds : List PyData} (h : ∀ d ∈ ds, d.canLay0 = true) : PyData.canLayAll0 ds = true := by
  induction ds with
  | nil => simp [PyData.canLayAll0]
  | cons d ds ih =>
    simp only [PyData.canLayAll0, Bool.and_eq_true]
    exact ⟨h d List.mem_cons_self, ih fun e he => h e (List.mem_cons_of_mem _ he)⟩
theorem depthLe {n : Nat} : ∀ {ds : List PyData}, (∀ d ∈ ds, d.depth ≤ n) → PyData.depthAll ds ≤ n
  | [], _ => by simp [PyData.depthAll]
  | d :: ds, h => by
    simp only [PyData.depthAll]
    have h1 := h d List.mem_cons_self
    have h2 := depthLe (ds := ds) fun e he => h e (List.mem_cons_of_mem _ he)
    omega
theorem row_shape {ks : List Bool} {r : List PyData} (h : isRow ks (.tuple r) = true) : (PyData.tuple r).canLay0 = true ∧ (PyData.tuple r).depth ≤ 1 := by
  refine ⟨?_, ?_⟩
  · simp only [PyData.canLay0]
    exact canLayAll fun d hd => by
      obtain ⟨b, hv⟩ := row_val h hd
      exact (val_shape hv).1
  · simp only [PyData.depth]
    have := depthLe (n := 0) (ds := r) fun d hd => by
      obtain ⟨b, hv⟩ := row_val h hd
      exact Nat.le_of_eq (val_shape hv).2
    omega
theorem rowsL_shaped {ks : List Bool} {rs : List (List PyData)} (h : ∀ r ∈ rs, isRow ks (.tuple r) = true) : SeqAt.shaped (.list (rs.map .tuple)) = true := by
  unfold SeqAt.shaped
  rw [Bool.and_eq_true]
  refine ⟨?_, decide_eq_true ?_⟩
  · simp only [PyData.canLay0]
    exact canLayAll fun d hd => by
      obtain ⟨r, hr, rfl⟩ := List.mem_map.mp hd
      exact (row_shape (h r hr)).1
  · simp only [PyData.depth]
    have := depthLe (n := 1) (ds := rs.map .tuple) fun d hd => by
      obtain ⟨r, hr, rfl⟩ := List.mem_map.mp hd
      exact (row_shape (h r hr)).2
    omega
theorem via {tc : TT} {ta tb : TS} {D : Ends} {σ : L2.St} {H : Hp} (N : L2.St → Hp → Prop) (h1 : ∀ nx : L2.St → Hp → Prop, (∀ σ' H', N σ' H' → nx σ' H') → tIfS tc ta tb { D with nx := nx } σ H) (h2 : ∀ σ' H', N σ' H' → D.nx σ' H') : tIfS tc ta tb D σ H := h1 D.nx h2
theorem viaS {tc : TT} {ta tb u : TS} {D : Ends} {σ : L2.St} {H : Hp} (N : L2.St → Hp → Prop) (h1 : ∀ nx : L2.St → Hp → Prop, (∀ σ' H', N σ' H' → nx σ' H') → tIfS tc ta tb { D with nx := nx } σ H) (h2 : ∀ σ' H', N σ' H' → u D σ' H') : tSeq (tIfS tc ta tb) u D σ H := h1 (u D) h2
theorem scRows : FnScope ["_law_box", "_law_kinds_here", "_law_most", "_law_found", "_law_way", "_law_turn", "_law_row", "_law_kind"] ["_law_box", "_law_kinds_here", "_law_most"] (defScope sRows) := ⟨rfl, rfl, rfl, by decide +kernel, rfl, by decide +kernel, by decide +kernel⟩
def spRows (K : PySem.W.Frag) : Sp := fun vs H Q _ => ∃ (B L : Addr) (vk : V) (ks : List Bool) (m : Int), vs = [.ref B, vk, .int m] ∧ BoxAt H B L ∧ Dp K H vk (kindsD ks) ∧ 1 ≤ ks.length ∧ ks.length ≤ 4 ∧ 0 ≤ m ∧ m ≤ 120 ∧
  ∀ (H' : Hp) (a : Addr) (rs : List (List PyData)) (xs : List V), SameX B L H H' → BoxAt H' B L → rs.length ≤ 120 → (∀ r ∈ rs, isRow ks (.tuple r) = true) → H a = none → H' a = some (.lst xs) → DpAll K H' xs (rs.map .tuple) → Q (.ref a) H'
theorem rows_ok {c : Addr} (D : DefAt K mg "_law_rows" sRows c) (T : Txt K mg) (cT : Cal P w K mg base CX0 1 "_law_take" ["_law_box", "_law_many"] spTake) (cV : Cal P w K mg base CX0 2 "_law_value" ["_law_box", "_law_kind"] (spValueL K)) :
    Cal P w K mg base CX0 3 "_law_rows" ["_law_box", "_law_kinds_here", "_law_most"] (spRows K) := by
  have sc := scRows
  refine def_ok0 D sc (fun vs H Q E h => ?_) (fun _ _ _ _ _ _ us hl => match us, hl with | [_, _, _], _ => rfl) (fun f A outer s H vs Q E hr h => ?_)
  · obtain ⟨B, L, vk, ks, m, rfl, _⟩ := h
    rfl
  · obtain ⟨B, L, vk, ks, m, rfl, hb, hk, k1, k4, m0, m1, k⟩ := h
    have hu := hr.units
    refine ⟨_, (pss_cons (ps_set (i := 3) sc.nd rfl (Or.inl rfl) (pe_lst pa_nil)) (pss_cons (ps_set (i := 4) sc.nd rfl (Or.inl rfl) (pe_c cT hr (by decide) (by rfl) pass0 (pa_cons (pv 0) (pa_cons pe_int pa_nil)))) (pss_cons (ps_for PassesOwn.never rfl (pi_range1 (by rfl) T.range (pa_cons (pe_c cT hr (by decide) (by rfl) pass0 (pa_cons (pv 0) (pa_cons (pe_op op_add (pv 2) pe_int) pa_nil))) pa_nil)) (pg_name (i := 5) sc.nd rfl (Or.inl rfl)) (pss_cons (ps_setLc (own := [("_law_kind", 7)]) (tt := tYes) rfl sc.nd (i := 6) rfl rfl (by rfl) (pi_tup (pv 1)) (blkOk_by (N := ["_law_box", "_law_kinds_here", "_law_most", "_law_found", "_law_way", "_law_turn", "_law_row", "_law_kind"]) (sc := defScope sRows) (own := [("_law_kind", 7)]) (by decide +kernel)) (fun _ _ _ _ _ => (pg_name (i := 7) sc.nd rfl (Or.inl rfl))) (fun _ _ _ _ _ => pts_nil) (fun _ _ _ _ _ => (pe_c cV hr (by decide) (by rfl) pass0 (pa_cons (pv 0) (pa_cons (pv 7) pa_nil))))) (pss_cons (ps_if ((pw_and (pt_cmpR (op_neD hu) (pv 3) (pe_lst pa_nil) (nomark _)) (pw_and1 (pt_cmpR op_eq (pe_c cT hr (by decide) (by rfl) pass0 (pa_cons (pv 0) (pa_cons pe_int pa_nil))) pe_int (nomark _)))).pt) (pss_one (ps_set (i := 6) sc.nd rfl (Or.inl rfl) (pe_callTy call_list_of (by rfl) T.list_ (by decide +kernel) (pa_cons (pe_ix ixD (pv 3) (pe_c cT hr (by decide) (by rfl) pass0 (pa_cons (pv 0) (pa_cons (pe_callB call_lenD (by rfl) T.len PySem.boot_len (pa_cons (pv 3) pa_nil)) pa_nil))) (fun _ _ => rfl)) pa_nil)))) pss_nil) (pss_cons (ps_if ((pw_and (pt_cmpR (op_neD hu) (pv 3) (pe_lst pa_nil) (nomark _)) (pw_and (pt_cmpR op_lt (pv 4) pe_int (nomark _)) (pw_and1 (pt_cmpR op_eq (pe_ix ix_tup (pv 1) pe_int (fun _ _ => rfl)) pe_str (nomark _))))).pt) (pss_one (ps_asg (pe_callB (call_max2 rfl) (by rfl) T.max boot_max (pa_cons (pe_un un_neg pe_int) (pa_cons (pe_callB (call_min2 rfl) (by rfl) T.min boot_min (pa_cons pe_int (pa_cons (pe_op op_add (pe_ix ixD (pe_ix ixD (pv 3) (pe_un un_neg pe_int) (fun _ _ => rfl)) pe_int (fun _ _ => rfl)) (pe_op op_mul (pe_ix ix_list (pe_lst (pa_cons pe_int (pa_cons (pe_un un_neg pe_int) pa_nil))) (pv 4) (fun _ _ => rfl)) (pe_c cT hr (by decide) (by rfl) pass0 (pa_cons (pv 0) (pa_cons pe_int pa_nil))))) pa_nil))) pa_nil))) (pg_sub (pv 6) pe_int set_list))) pss_nil) (pss_one (ps_expr (pe_bm PySem.F.plainAttrs_list PySem.F.slot_list_append PySem.F.type_list_append mt_append (pv 3) (pa_cons (pe_callTy call_tuple_of (by rfl) T.tuple_ (by decide +kernel) (pa_cons (pv 6) pa_nil)) pa_nil)))))))) (pss_one (ps_ret (pv 3)))))), ?_⟩
    refine ⟨Nat.zero_le _, fun Fd hFd => ?_⟩
    obtain ⟨s1, b1, nFB, nFL⟩ := al (o := .lst []) SameX.refl hb hb hFd
    refine ⟨_, rfl, B, L, 4, rfl, b1, by decide, by decide, fun H1 way s2 b2 w0 w1 => ?_⟩
    refine ⟨_, rfl, _, rfl, _, _, rfl, rfl, B, L, _, rfl, b2, by omega, by omega, fun H2 n s3 b3 n0 n1 => ?_⟩
    refine ⟨_, rfl, by omega, by omega, ?_⟩
    have sA := (s1.trans s2).trans s3
    have hF2 : H2 Fd = some (.lst []) := s3 _ _ nFB nFL (s2 _ _ nFB nFL upd_same)
    refine for_range (fun i σ H2 => ∃ (v5 v6 : Option V) (rs : List (List PyData)) (xs : List V), σ = [some (.ref B), some vk, some (.int m), some (.ref Fd), some (.int way), v5, v6, none] ∧ SameX B L H H2 ∧ BoxAt H2 B L ∧
      H2 Fd = some (.lst xs) ∧ DpAll K H2 xs (rs.map .tuple) ∧ rs.length = i ∧ ∀ r ∈ rs, isRow ks (.tuple r) = true) ⟨none, none, [], [], rfl, sA, b3, hF2, .nil, rfl, (fun _ h => nomatch h)⟩ ?_ ?_
    · rintro i σ H3 hi ⟨v5, v6, rs, xs, rfl, sm, b4, hF, hd, lr, okr⟩
      have hk3 := dp_x hb sm _ (kinds_noL ks) hk
      obtain ⟨ak, xk, rfl, hSk, hIk⟩ : ∃ ak xk, vk = .ref ak ∧ SqT K H3 ak xk ∧ DpAll K H3 xk (ks.map fun b => .str (kindS b)) := by
        cases hk3 with
        | tup q1 q2 => exact ⟨_, _, rfl, q1, q2⟩
      have lk : xk.length = ks.length := by rw [dpLen hIk, List.length_map]
      refine ⟨_, rfl, ak, rfl, ⟨_, hSk⟩, fun DD hD => ?_⟩
      obtain ⟨s5, b5, nDB, nDL⟩ := al (o := .lst []) SameX.refl b4 b4 hD
      have nDF : DD ≠ Fd := fun z => by rw [z, hF] at hD; cases hD
      refine lc_tup (K := K) (a := ak) (xs := xk) (fun j H4 => SameX B L H3 H4 ∧ BoxAt H4 B L ∧ ∃ (ds : List PyData) (ys : List V), ds.length = j ∧ Vals1 ks ds ∧ H4 DD = some (.lst ys) ∧ DpAll K H4 ys ds)
        ⟨s5, b5, [], [], rfl, (fun j d h => by simp at h), upd_same, .nil⟩ (fun j H4 _ h => sqT_x b4 h.1 hSk) ?_ ?_
      · rintro j x H4 hx ⟨s6, b6, ds, ys, ld, hv, hl, hdd⟩
        obtain ⟨dk, ek, hdk⟩ := dpGet hIk hx
        obtain ⟨bk, ebk, rfl⟩ : ∃ b, ks[j]? = some b ∧ dk = .str (kindS b) := by
          rw [List.getElem?_map] at ek
          cases q : ks[j]? with
          | none => rw [q] at ek; cases ek
          | some b => rw [q] at ek; exact ⟨b, rfl, (Option.some.inj ek).symm⟩
        cases hdk
        have hj : j < ks.length := (List.getElem?_eq_some_iff.mp ebk).1
        have ly : ys.length = ds.length := dpLen hdd
        refine ⟨rfl, _, rfl, _, rfl, B, L, bk, rfl, b6, fun H5 v d s7 b7 hv2 hd2 => ?_⟩
        have hl5 := s7 _ _ nDB nDL hl
        have vs2 := vals_snoc hv (by rw [ld]; exact ebk) hv2
        refine ⟨ys, hl5, small1000 (by omega), (s6.trans s7).new hD, b7.upd_ nDB nDL, ds ++ [d], ys ++ [v], by rw [List.length_append, ld]; rfl, vs2, upd_same, ?_⟩
        exact dpAll_upd hl5 _ (vals_noL vs2) (dpApp (dpAll_x b6 s7 _ (vals_noL hv) hdd) (.cons hd2 .nil))
      · rintro H4 ⟨s6, b6, ds, ys, ld, hv, hl, hdd⟩
        dsimp only [gName]
        have hF4 := s6 _ _ nFB nFL hF
        have okn := rowsL_noL okr
        have hd4 := dpAll_x b4 s6 _ okn hd
        have lx : xs.length = rs.length := by rw [dpLen hd, List.length_map]
        have shr := rowsL_shaped okr
        have fX : ∀ HX, SameX B L H3 HX → HX Fd = some (.lst xs) ∧ DpAll K HX xs (rs.map .tuple) := fun HX sX => ⟨sX _ _ nFB nFL hF, dpAll_x b4 sX _ okn hd⟩
        let N : L2.St → Hp → Prop := fun σ' H' => ∃ (Rw : Addr) (ys : List V) (r : List PyData), σ' = [some (.ref B), some (.ref ak), some (.int m), some (.ref Fd), some (.int way), some (.int (0 + (i : Nat))), some (.ref Rw), none] ∧ SameX B L H3 H' ∧ BoxAt H' B L ∧ H3 Rw = none ∧ H' Rw = some (.lst ys) ∧ DpAll K H' ys r ∧ r.length = ks.length ∧ Vals1 ks r
        have nD : ∀ HX, SameX B L H4 HX → BoxAt HX B L → N [some (.ref B), some (.ref ak), some (.int m), some (.ref Fd), some (.int way), some (.int (0 + (i : Nat))), some (.ref DD), none] HX := fun HX sX bX =>
          ⟨DD, ys, ds, rfl, s6.trans sX, bX, hD, sX _ _ nDB nDL hl, dpAll_x b6 sX _ (vals_noL hv) hdd, by omega, hv⟩
        refine viaS N (fun nx next => ?_) ?_
        · refine ⟨_, rfl, Nat.zero_le _, fun e he => ?_⟩
          obtain ⟨s7, b7, ne1, ne2⟩ := al (o := .lst []) SameX.refl b6 b6 he
          obtain ⟨hFe, hde⟩ := fX _ (s6.trans s7)
          refine ⟨.list (rs.map .tuple), .list [], .lst (SqL.of hFe) hde, .lst (SqL.of upd_same) .nil, shr, rfl, _, rfl, ?_⟩
          rw [eqv_nil]
          by_cases hrs : rs = []
          · subst hrs
            exact iteF (iteF (next _ _ (nD _ s7 b7)))
          · have en : (!(rs.map PyData.tuple).isEmpty) = true := by
              cases rs with
              | nil => exact absurd rfl hrs
              | cons _ _ => rfl
            rw [en]
            refine iteT ⟨_, rfl, B, L, 3, rfl, b7, by decide, by decide, fun H5 n5 s8 b8 h0 h1 => ?_⟩
            have s78 := s7.trans s8
            refine ⟨rfl, _, rfl, ?_⟩
            refine ite2 (fun h3 => ?_) (fun h3 => next _ _ (nD _ s78 b8))
            obtain ⟨hF5, hd5⟩ := fX _ (s6.trans s78)
            have lrs : (rs.map PyData.tuple).length = rs.length := List.length_map _
            have rs1 : 1 ≤ rs.length := by
              cases rs with
              | nil => exact absurd rfl hrs
              | cons _ _ => simp
            refine ⟨_, rfl, _, rfl, _, rfl, .ref Fd, _, _, rfl, .lst (SqL.of hF5) hd5, rfl, B, L, _, rfl, b8, by omega, by omega, fun H6 n6 s9 b9 g0 g1 => ?_⟩
            obtain ⟨kn, rfl⟩ : ∃ kn : Nat, n6 = (kn : Int) := ⟨n6.toNat, by omega⟩
            have hkn : kn < rs.length := by omega
            have s79 := s78.trans s9
            obtain ⟨hF6, hd6⟩ := fX _ (s6.trans s79)
            have hrow := isRow_get.mp (okr rs[kn] (List.getElem_mem hkn))
            refine ⟨.list (rs.map .tuple), _, (kn : Int), .tuple rs[kn], .lst (SqL.of hF6) hd6, rfl, rfl, atI_nat (by rw [List.getElem?_map, List.getElem?_eq_getElem hkn]; rfl), fun v hv6 => ?_⟩
            cases hv6 with
            | @tup at_ xt _ hSt hIt =>
              refine ⟨at_, xt, rfl, .inr hSt, fun l hl6 => ?_⟩
              obtain ⟨s10, b10, m1, m2⟩ := al (o := .lst xt) (s6.trans s79) b4 b9 hl6
              exact next _ _ ⟨l, xt, rs[kn], rfl, s10, b10, (s6.trans s79).free b4 hl6 b9, upd_same, dpAll_same (fun b' o e => by rw [upd_ne (ne_of_none e hl6)]; exact e) _ hIt, hrow.1, hrow.2⟩
        · rintro σ' H5 ⟨Rw, ys2, r, rfl, s7, b7, hRw0, hRw, hdr, lr2, vr⟩
          obtain ⟨nRB, nRL⟩ := b4.nb hRw0
          have nRF : Rw ≠ Fd := fun z => by rw [z, hF] at hRw0; cases hRw0
          have nN : ∀ HX, SameX B L H5 HX → BoxAt HX B L → N [some (.ref B), some (.ref ak), some (.int m), some (.ref Fd), some (.int way), some (.int (0 + (i : Nat))), some (.ref Rw), none] HX := fun HX sX bX =>
            ⟨Rw, ys2, r, rfl, s7.trans sX, bX, hRw0, sX _ _ nRB nRL hRw, dpAll_x b7 sX _ (vals_noL vr) hdr, lr2, vr⟩
          refine viaS N (fun nx next => ?_) ?_
          · refine ⟨_, rfl, Nat.zero_le _, fun e he => ?_⟩
            obtain ⟨s8, b8, ne1, ne2⟩ := al (o := .lst []) SameX.refl b7 b7 he
            obtain ⟨hFe, hde⟩ := fX _ (s7.trans s8)
            refine ⟨.list (rs.map .tuple), .list [], .lst (SqL.of hFe) hde, .lst (SqL.of upd_same) .nil, shr, rfl, _, rfl, ?_⟩
            rw [eqv_nil]
            by_cases hrs : rs = []
            · subst hrs
              exact iteF (iteF (next _ _ (nN _ s8 b8)))
            · obtain ⟨M, rl, rfl⟩ := SrtO.snoc_of (l := rs) (by
                cases rs with
                | nil => exact absurd rfl hrs
                | cons _ _ => simp)
              have en : (!((M ++ [rl]).map PyData.tuple).isEmpty) = true := by
                rw [List.map_append]
                cases M <;> rfl
              rw [en]
              refine iteT ⟨_, rfl, _, _, rfl, rfl, _, rfl, ?_⟩
              refine ite2 (fun hw => ?_) (fun hw => iteF (next _ _ (nN _ s8 b8)))
              have hw := of_decide_eq_true hw
              obtain ⟨b0, hb0⟩ : ∃ b0, ks[0]? = some b0 := ⟨_, List.getElem?_eq_getElem (by omega)⟩
              obtain ⟨vk0, evk, hvk⟩ := dpGet' (i := 0) (d := .str (kindS b0)) hIk (by rw [List.getElem?_map, hb0]; rfl)
              cases hvk
              have hSk8 := sqT_x b4 (s7.trans s8) hSk
              refine ⟨_, rfl, ak, xk, _, _, rfl, rfl, hSk8, atI_nat evk, rfl, _, rfl, ?_⟩
              have ek : decide (V.str (kindS b0) = V.str "number") = !b0 := by cases b0 <;> decide +kernel
              rw [ek]
              cases b0 with
              | true => exact iteF (next _ _ (nN _ s8 b8))
              | false =>
                have hrl := isRow_get.mp (okr rl (by simp))
                obtain ⟨d0, hd0⟩ : ∃ d0, rl[0]? = some d0 := ⟨_, List.getElem?_eq_getElem (by omega)⟩
                obtain ⟨b', hb', hv0⟩ := hrl.2 0 d0 hd0
                rw [hb0] at hb'
                cases hb'
                obtain ⟨nn, rfl⟩ : ∃ nn, d0 = .int nn := by
                  rcases val_atom hv0 with ⟨e, _⟩ | ⟨_, q⟩
                  · cases e
                  · exact q
                refine iteT ⟨_, rfl, _, rfl, _, rfl, .list ((M ++ [rl]).map .tuple), _, -1, .tuple rl, .lst (SqL.of hFe) hde, rfl, rfl, by rw [List.map_append]; exact atI_last _ _, fun v hv1 => ?_⟩
                refine ⟨.tuple rl, rl, 0, .int nn, hv1, rfl, rfl, atI_nat (j := 0) hd0, fun v2 hv2 => ?_⟩
                cases hv2
                refine ⟨_, rfl, by show 2 ≤ sizeLine; decide, fun e2 he2 => ?_⟩
                obtain ⟨s9, b9, nf1, nf2⟩ := al (o := .lst [.int 1, .int (-1)]) s8 b7 b8 he2
                obtain ⟨ww, hww, lo, hi'⟩ : ∃ ww : Int, atI [V.int 1, V.int (-1)] way = some (.int ww) ∧ -1 ≤ ww ∧ ww ≤ 1 := by
                  rcases (by omega : way = 0 ∨ way = 1) with e | e
                  · subst e; exact ⟨_, atI_nat (j := 0) rfl, by decide, by decide⟩
                  · subst e; exact ⟨_, atI_nat (j := 1) rfl, by decide, by decide⟩
                refine ⟨_, rfl, e2, _, way, _, rfl, rfl, SqL.of upd_same, hww, _, rfl, B, L, 3, rfl, b9, by decide, by decide, fun H7 n7 s10 b10 h0 h1 => ?_⟩
                refine ⟨_, _, rfl, rfl, .inl ⟨by omega, by omega⟩, _, _, rfl, rfl, _, _, rfl, _, _, rfl, ?_⟩
                have s57 := s9.trans s10
                have hRw7 := s57 _ _ nRB nRL hRw
                have lys : ys2.length = r.length := dpLen hdr
                have hdr7 := dpAll_x b7 s57 _ (vals_noL vr) hdr
                refine ⟨_, rfl, Rw, ys2, 0, 0, rfl, rfl, hRw7, (by unfold ixN; rw [if_pos (by decide), if_pos (by omega)]; rfl), ?_⟩
                generalize hz : (if (if nn + ww * n7 < 999 then nn + ww * n7 else 999) > -999 then (if nn + ww * n7 < 999 then nn + ww * n7 else 999) else -999) = z
                have z1 : -999 ≤ z ∧ z ≤ 999 := by
                  rw [← hz]
                  constructor <;> split <;> split <;> omega
                have vr2 := vals_set0 vr hb0 (num_isVal z1.1 z1.2)
                exact next _ _ ⟨Rw, ys2.set 0 (.int z), r.set 0 (.int z), rfl, (s7.trans s57).new hRw0, b10.upd_ nRB nRL, hRw0, upd_same, dpAll_upd hRw7 _ (vals_noL vr2) (dpAll_set0 hdr7 (.int z)), by rw [List.length_set]; exact lr2, vr2⟩
          · rintro σ' H6 ⟨Rw, ys2, r, rfl, s8, b8, hRw0, hRw, hdr, lr2, vr⟩
            obtain ⟨hF6, hd6⟩ := fX _ s8
            refine ⟨_, rfl, .inl ⟨rfl, _, SqL.of hF6⟩, _, rfl, Rw, ys2, rfl, .inl ⟨SqL.of hRw, fun p hp => ?_⟩⟩
            obtain ⟨s9, b9, np1, np2⟩ := al (o := .tup ys2) s8 b4 b8 hp
            have npF : Fd ≠ p := fun z => by rw [← z, hF6] at hp; cases hp
            refine ⟨Fd, xs, _, rfl, rfl, (upd_ne npF).trans hF6, small1000 (by omega), ?_⟩
            have okr2 : ∀ q ∈ rs ++ [r], isRow ks (.tuple q) = true := fun q hq => by
              rcases List.mem_append.mp hq with hq | hq
              · exact okr q hq
              · rw [List.mem_singleton.mp hq]
                exact isRow_get.mpr ⟨lr2, vr⟩
            have hnew : DpAll K (upd H6 p (.tup ys2)) (xs ++ [.ref p]) ((rs ++ [r]).map .tuple) := by
              rw [List.map_append]
              have sp : Same H6 (upd H6 p (.tup ys2)) := fun b' o e => by
                rw [upd_ne (ne_of_none e hp)]
                exact e
              exact dpApp (dpAll_same sp _ hd6) (.cons (.tup (SqT.of upd_same) (dpAll_same sp _ hdr)) .nil)
            exact ⟨_, _, rs ++ [r], xs ++ [.ref p], rfl, (sm.trans s9).new hFd, b9.upd_ nFB nFL, upd_same, dpAll_upd ((upd_ne npF).trans hF6) _ (rowsL_noL okr2) hnew, by rw [List.length_append, lr]; rfl, okr2⟩
    · rintro σ H3 ⟨v5, v6, rs, xs, rfl, sm, b4, hF, hd, lr, okr⟩
      exact ⟨_, rfl, k H3 Fd rs xs sm b4 (by omega) okr hFd hF hd⟩
end
end RS
set_option Elab.async false
set_option maxRecDepth 100000
set_option maxHeartbeats 4000000
set_option pp.maxSteps 400
namespace RS
open PySem PySem.Spec PyProof.Rows L2 GX
theorem catA_any {K : PySem.W.Frag} {H : Hp} {a b : Addr} {xs ys : List V} {Q : VK} (ha : SqT K H a xs) (hb : SqT K H b ys) (hz : xs.length + ys.length ≤ sizeLine) (q : ∀ p H', Same H H' → SqT K H' p (xs ++ ys) → Q (.ref p) H') : rCatA K (.ref a) (.ref b) H Q :=
  ⟨a, b, xs, ys, rfl, rfl, ha, hb, hz, fun e => q b H (Same.refl H) (by rw [e]; exact hb), fun _ e => q a H (Same.refl H) (by rw [e, List.append_nil]; exact ha), fun _ _ p hp => q p _ (sameNew (Same.refl H) hp) (SqT.of upd_same)⟩
theorem slA_any {K : PySem.W.Frag} {H : Hp} {a : Addr} {xs : List V} {lo hi : Option Int} {Q : VK} (ha : SqT K H a xs) (q : ∀ p H', Same H H' → SqT K H' p (cutV xs lo hi) → Q (.ref p) H') : rSlA K (.ref a) lo hi H Q :=
  ⟨a, xs, rfl, ha, fun ⟨e1, e2⟩ => q a H (Same.refl H) (by
    have : cutV xs lo hi = xs := by
      unfold cutV
      rw [e1, e2, List.drop_zero, Nat.sub_zero, List.take_length]
    rw [this]
    exact ha), fun _ p hp => q p _ (sameNew (Same.refl H) hp) (SqT.of upd_same)⟩
theorem cutV_to {xs : List V} {k : Nat} (h : k ≤ xs.length) : cutV xs none (some (k : Nat)) = xs.take k := by
  unfold cutV
  rw [HT.sIx_nat, HT.sIx_none, Nat.min_eq_left h, List.drop_zero, Nat.sub_zero]
theorem cutS_le (z : Str) (lo hi : Option Int) : (cutS z lo hi).length ≤ z.length := by
  show ((z.cps.toList.drop _).take _).toArray.size ≤ z.cps.size
  rw [List.size_toArray, List.length_take, List.length_drop, Array.length_toList]
  omega
theorem str_len (x y : Str) : (x ++ y).length = x.length + y.length := by
  have e : ∀ z : Str, z.length = (TL.tl z).length := fun z => by simp [TL.tl, Str.length]
  rw [e, e x, e y, TL.tl_append, List.length_append]
theorem row_noL7 {ks : List Bool} {r : List PyData} (h : isRow ks (.tuple r) = true) : noL (.tuple r) = true := by
  have := rowsL_noL (ks := ks) (rs := [r]) fun r' hr => by rw [List.mem_singleton.mp hr]; exact h
  simpa [noLs] using this
/-- a value of the row that is none -/
def BadV (b : Bool) (u : V) : Prop := ∃ e : PyData, (∀ (K : PySem.W.Frag) (H : Hp), Dp K H u e) ∧ isVal b e = false ∧ fitD e ∧ noL e = true
theorem bad_int {b : Bool} {n : Int} (h : b = true ∨ n < -999 ∨ 999 < n) : BadV b (.int n) := by
  refine ⟨.int n, fun _ _ => .int n, ?_, trivial, rfl⟩
  cases b with
  | true => rfl
  | false =>
    rcases h with h | h | h
    · cases h
    · simp [isVal, inBand, isNum, isI, isT, tyN]
      omega
    · simp [isVal, inBand, isNum, isI, isT, tyN]
      omega
theorem bad_str0 {x : Str} (h : x.length ≤ 100) : BadV false (.str x) := ⟨.str x, fun _ _ => .str x, by simp [isVal, isNum, isI, isT, tyN], Nat.le_trans h (by decide), rfl⟩
theorem bad_long {x : Str} (h : x.length ≤ 100) (h7 : 7 ≤ x.length) : BadV true (.str x) := ⟨.str x, fun _ _ => .str x, by
  show (decide ((x.length : Int) ≤ 6) && x.cps.toList.all signOk) = false
  rw [show decide ((x.length : Int) ≤ 6) = false from decide_eq_false (by omega)]
  rfl, Nat.le_trans h (by decide), rfl⟩
theorem bad_sign {x y : Str} {c : Nat} (h : (x ++ ⟨#[c]⟩ ++ y).length ≤ 100) (hc : signOk c = false) : BadV true (.str (x ++ ⟨#[c]⟩ ++ y)) := ⟨.str _, fun _ _ => .str _, by
  show (decide (((x ++ ⟨#[c]⟩ ++ y : Str).length : Int) ≤ 6) && (x ++ ⟨#[c]⟩ ++ y : Str).cps.toList.all signOk) = false
  have e : (x ++ ⟨#[c]⟩ ++ y : Str).cps.toList = x.cps.toList ++ [c] ++ y.cps.toList := by
    have := TL.tl_append (x ++ ⟨#[c]⟩) y
    have h2 := TL.tl_append x ⟨#[c]⟩
    unfold TL.tl at this h2
    rw [this, h2]
  rw [e, List.all_append, List.all_append]
  simp [hc], Nat.le_trans h (by decide), rfl⟩
theorem signs_bad : ∀ k < 15, ∃ c, (Str.ofString "ABMZ0189 -=_.!~").cps.toList[k]? = some c ∧ signOk c = false := by
  intro k hk
  have : ∀ k < 15, ∃ c ∈ (Str.ofString "ABMZ0189 -=_.!~").cps.toList, (Str.ofString "ABMZ0189 -=_.!~").cps.toList[k]? = some c ∧ signOk c = false := by decide +kernel
  obtain ⟨c, _, h⟩ := this k hk
  exact ⟨c, h⟩
theorem row_bad {ks : List Bool} {rs : List PyData} {k : Nat} {b : Bool} {e : PyData} (hk : ks[k]? = some b) (hr : rs.length = ks.length) (he : isVal b e = false) : isRow ks (.tuple (rs.take k ++ [e] ++ rs.drop (k + 1))) = false := by
  have hk2 := (List.getElem?_eq_some_iff.mp hk).1
  have hz : (ks.zip (rs.take k ++ [e] ++ rs.drop (k + 1)))[k]? = some (b, e) := by
    rw [List.getElem?_zip_eq_some]
    refine ⟨hk, ?_⟩
    rw [List.append_assoc, List.getElem?_append_right (by rw [List.length_take]; omega), List.length_take, Nat.min_eq_left (by omega), Nat.sub_self]
    rfl
  show (decide _ && (ks.zip (rs.take k ++ [e] ++ rs.drop (k + 1))).all fun p => isVal p.1 p.2) = false
  have : ((ks.zip (rs.take k ++ [e] ++ rs.drop (k + 1))).all fun p => isVal p.1 p.2) = false := by
    refine Bool.eq_false_iff.mpr fun h => ?_
    have := List.all_eq_true.mp h _ (List.mem_of_getElem? hz)
    rw [he] at this
    cases this
  rw [this, Bool.and_false]
theorem val_fit {b : Bool} {d : PyData} (h : isVal b d = true) : fitD d := by
  cases d with
  | str z =>
    cases b with
    | true =>
      have h : (decide ((z.length : Int) ≤ 6) && z.cps.toList.all signOk) = true := h
      rw [Bool.and_eq_true] at h
      have := of_decide_eq_true h.1
      exact Nat.le_trans (show z.length ≤ 6 by omega) (by decide)
    | false => simp [isVal, isNum, isI, isT, tyN] at h
  | _ => exact trivial
theorem row_len {ks : List Bool} {rs : List PyData} (h : isRow ks (.tuple rs) = true) : rs.length = ks.length := by
  have h : (decide (rs.length = ks.length) && (ks.zip rs).all fun p => isVal p.1 p.2) = true := h
  rw [Bool.and_eq_true] at h
  exact of_decide_eq_true h.1
theorem row_badL {ks : List Bool} {rs : List PyData} (h : rs.length ≠ ks.length) : isRow ks (.tuple rs) = false := by
  show (decide _ && _) = false
  rw [show decide (rs.length = ks.length) = false from decide_eq_false h]
  rfl
section
variable {P : Program} {w : World} {K : PySem.W.Frag} {mg : Str → Option Value} {base : Heap}
theorem scBadRow : FnScope ["_law_box", "_law_kinds_here", "_law_row", "_law_k", "_law_far", "_law_values", "_law_signs", "_law_word", "_law_place", "_law_odd"] ["_law_box", "_law_kinds_here", "_law_row"] (defScope sBadRow) := ⟨rfl, rfl, rfl, by decide +kernel, rfl, by decide +kernel, by decide +kernel⟩
def spBadRow (K : PySem.W.Frag) : Sp := fun vs H Q _ => ∃ (B L : Addr) (vk vr : V) (ks : List Bool) (rs : List PyData), vs = [.ref B, vk, vr] ∧ BoxAt H B L ∧ Dp K H vk (kindsD ks) ∧ 1 ≤ ks.length ∧ ks.length ≤ 4 ∧ Dp K H vr (.tuple rs) ∧ isRow ks (.tuple rs) = true ∧
  ∀ (H' : Hp) (v : V) (d : PyData), SameX B L H H' → BoxAt H' B L → Dp K H' v d → isRow ks d = false → fitR d → noL d = true → Q v H'
theorem badrow_ok {c : Addr} (D : DefAt K mg "_law_bad_row" sBadRow c) (T : Txt K mg) (cT : Cal P w K mg base CX0 1 "_law_take" ["_law_box", "_law_many"] spTake) (cV : Cal P w K mg base CX0 2 "_law_value" ["_law_box", "_law_kind"] (spValueL K)) : Cal P w K mg base CX0 3 "_law_bad_row" ["_law_box", "_law_kinds_here", "_law_row"] (spBadRow K) := by
  have sc := scBadRow
  refine def_ok0 D sc (fun vs H Q E h => ?_) (fun _ _ _ _ _ _ us hl => match us, hl with | [_, _, _], _ => rfl) (fun f A outer s H vs Q E hr h => ?_)
  · obtain ⟨B, L, vk, vr, ks, rs, rfl, _⟩ := h
    rfl
  · obtain ⟨B, L, vk, vr, ks, rs, rfl, hb, hk, k1, k4, hr0, okr, kk⟩ := h
    refine ⟨_, (pss_cons (ps_set (i := 3) sc.nd rfl (Or.inl rfl) (pe_c cT hr (by decide) (by rfl) pass0 (pa_cons (pv 0) (pa_cons (pe_callB call_lenD (by rfl) T.len PySem.boot_len (pa_cons (pv 1) pa_nil)) pa_nil)))) (pss_cons (ps_set (i := 4) sc.nd rfl (Or.inl rfl) (pe_c cT hr (by decide) (by rfl) pass0 (pa_cons (pv 0) (pa_cons (pe_op op_pow pe_int pe_int) pa_nil)))) (pss_cons (ps_set (i := 5) sc.nd rfl (Or.inl rfl) (pe_lst (pa_cons (pe_op op_add pe_int (pv 4)) (pa_cons (pe_op op_sub (pe_un un_neg pe_int) (pv 4)) (pa_cons pe_str (pa_cons pe_str pa_nil)))))) (pss_cons (ps_if (pt_cmpR op_eq (pe_ix ix_tup (pv 1) (pv 3) (fun _ _ => rfl)) pe_str (nomark _)) (pss_cons (ps_set (i := 6) sc.nd rfl (Or.inl rfl) pe_str) (pss_cons (ps_set (i := 7) sc.nd rfl (Or.inl rfl) (pe_slice sl_str (pe_c cV hr (by decide) (by rfl) pass0 (pa_cons (pv 0) (pa_cons pe_str pa_nil))) po_none (po_some pe_int))) (pss_cons (ps_set (i := 8) sc.nd rfl (Or.inl rfl) (pe_c cT hr (by decide) (by rfl) pass0 (pa_cons (pv 0) (pa_cons (pe_op op_add (pe_callB call_len_str (by rfl) T.len PySem.boot_len (pa_cons (pv 7) pa_nil)) pe_int) pa_nil)))) (pss_cons (ps_set (i := 9) sc.nd rfl (Or.inl rfl) (pe_op op_add_str (pe_op op_add_str (pe_slice sl_str (pv 7) po_none (po_some (pv 8))) (pe_ix ix_str (pv 6) (pe_c cT hr (by decide) (by rfl) pass0 (pa_cons (pv 0) (pa_cons pe_int pa_nil))) (fun _ _ => rfl))) (pe_slice sl_str (pv 7) (po_some (pv 8)) po_none))) (pss_one (ps_set (i := 5) sc.nd rfl (Or.inl rfl) (pe_lst (pa_cons (pv 9) (pa_cons (pv 9) (pa_cons (pe_op op_add_str (pv 7) pe_str) (pa_cons (pv 4) pa_nil))))))))))) pss_nil) (pss_cons (ps_set (i := 9) sc.nd rfl (Or.inl rfl) (pe_op op_catA (pe_op op_catA (pe_slice sl_tupA (pv 2) po_none (po_some (pv 3))) (pe_tup (pa_cons (pe_ix ix_list (pv 5) (pe_c cT hr (by decide) (by rfl) pass0 (pa_cons (pv 0) (pa_cons pe_int pa_nil))) (fun _ _ => rfl)) pa_nil))) (pe_slice sl_tupA (pv 2) (po_some (pe_op op_add (pv 3) pe_int)) po_none))) (pss_one (ps_ret (pe_ix ix_list (pe_lst (pa_cons (pv 9) (pa_cons (pv 9) (pa_cons (pv 9) (pa_cons (pe_op op_catA (pv 2) (pe_slice sl_tupA (pv 2) po_none (po_some pe_int))) (pa_cons (pe_slice sl_tupA (pv 2) (po_some pe_int) po_none) (pa_cons (pe_tup pa_nil) pa_nil))))))) (pe_c cT hr (by decide) (by rfl) pass0 (pa_cons (pv 0) (pa_cons pe_int pa_nil))) (fun _ _ => rfl))))))))), ?_⟩
    have lr := row_len okr
    have hkl : (kindsD ks) = .tuple (ks.map fun b => .str (kindS b)) := rfl
    refine ⟨_, rfl, _, rfl, vk, _, _, rfl, hk, rfl, B, L, _, rfl, hb, by rw [List.length_map]; omega, by rw [List.length_map]; omega, fun H1 kx s1 b1 g0 g1 => ?_⟩
    rw [List.length_map] at g1
    obtain ⟨k, rfl⟩ : ∃ k : Nat, kx = (k : Int) := ⟨kx.toNat, by omega⟩
    have hkl2 : k < ks.length := by omega
    have pw : ((10 : Int) ^ (18 : Int).toNat) = 1000000000000000000 := by decide +kernel
    refine ⟨_, rfl, _, _, rfl, rfl, ⟨by decide, by decide, by decide⟩, B, L, _, rfl, b1, by rw [pw]; decide, by rw [pw]; decide, fun H2 far s2 b2 f0 f1 => ?_⟩
    have s12 := s1.trans s2
    refine ⟨_, rfl, _, _, rfl, rfl, _, rfl, _, rfl, _, _, rfl, rfl, by show 4 ≤ sizeLine; decide, fun V5 hV5 => ?_⟩
    obtain ⟨s3, b3, n5B, n5L⟩ := al (o := .lst [.int (1000 + far), .int (-1000 - far), .str "a", .str ""]) s12 hb b2 hV5
    have h5 : upd H2 V5 (.lst [.int (1000 + far), .int (-1000 - far), .str "a", .str ""]) V5 = some (.lst [.int (1000 + far), .int (-1000 - far), .str "a", .str ""]) := upd_same
    generalize upd H2 V5 (.lst [.int (1000 + far), .int (-1000 - far), .str "a", .str ""]) = H3 at s3 b3 h5 ⊢
    have hk3 := dp_x hb s3 _ (kinds_noL ks) hk
    have nor : noL (.tuple rs) = true := row_noL7 okr
    have hr3 := dp_x hb s3 _ nor hr0
    obtain ⟨b, eb⟩ : ∃ b, ks[k]? = some b := ⟨_, List.getElem?_eq_getElem hkl2⟩
    obtain ⟨aK, xk, rfl, hSK, hIK⟩ : ∃ aK xk, vk = .ref aK ∧ SqT K H3 aK xk ∧ DpAll K H3 xk (ks.map fun b => .str (kindS b)) := by
      cases hk3 with
      | @tup a xs _ h1 h2 => exact ⟨a, xs, rfl, h1, h2⟩
    have exk : xk[k]? = some (.str (kindS b)) := by
      obtain ⟨v, ev, hv⟩ := dpGet' (i := k) (d := .str (kindS b)) hIK (by rw [List.getElem?_map, eb]; rfl)
      cases hv
      exact ev
    dsimp only [gName]
    refine viaS (fun σ' H' => ∃ (V5 : Addr) (us : List V) (v6 v7 v8 v9 : Option V), σ' = [some (.ref B), some (.ref aK), some vr, some (.int (k : Nat)), some (.int far), some (.ref V5), v6, v7, v8, v9] ∧ SameX B L H H' ∧ BoxAt H' B L ∧ H' V5 = some (.lst us) ∧ V5 ≠ B ∧ V5 ≠ L ∧ us.length = 4 ∧ ∀ u ∈ us, BadV b u) (fun nx fin => ?_) (fun σ3 H4 h4 => ?_)
    · refine ⟨_, rfl, _, rfl, aK, _, _, _, rfl, rfl, hSK, atI_nat exk, rfl, _, rfl, ?_⟩
      cases b with
      | false =>
        refine iteF' (by decide +kernel) ?_
        refine fin _ _ ⟨V5, _, none, none, none, none, rfl, s3, b3, h5, n5B, n5L, rfl, fun u hu => ?_⟩
        rcases List.mem_cons.mp hu with e | hu
        · rw [e]; exact bad_int (.inr (.inr (by omega)))
        rcases List.mem_cons.mp hu with e | hu
        · rw [e]; exact bad_int (.inr (.inl (by omega)))
        rcases List.mem_cons.mp hu with e | hu
        · rw [e]; exact bad_str0 (by decide +kernel)
        · rw [List.mem_singleton.mp hu]; exact bad_str0 (by decide +kernel)
      | true =>
        refine iteT' (by decide +kernel) ?_
        refine ⟨_, rfl, B, L, true, rfl, b3, fun H4 v d s4 b4 hv hd => ?_⟩
        obtain ⟨z, rfl, hz⟩ : ∃ z, d = .str z ∧ z.length ≤ 6 := by
          cases d with
          | str z =>
            have hv : (decide ((z.length : Int) ≤ 6) && z.cps.toList.all signOk) = true := hv
            rw [Bool.and_eq_true] at hv
            have := of_decide_eq_true hv.1
            exact ⟨z, rfl, by omega⟩
          | _ => cases hv
        cases hd
        have big : (1000 : Nat) ≤ sizeLine := by decide
        refine ⟨_, rfl, z, rfl, by omega, ?_⟩
        have hw := cutS_le z none (some 5)
        generalize cutS z none (some 5) = wd at hw ⊢
        refine ⟨_, rfl, _, rfl, wd, rfl, by omega, _, _, rfl, rfl, B, L, _, rfl, b4, by omega, by omega, fun H5 pl s5 b5 p0 p1 => ?_⟩
        refine ⟨_, rfl, _, rfl, _, rfl, wd, rfl, by omega, ?_⟩
        have hw1 := cutS_le wd none (some pl)
        generalize cutS wd none (some pl) = w1 at hw1 ⊢
        refine ⟨_, rfl, _, rfl, B, L, 15, rfl, b5, by decide, by decide, fun H6 sx s6 b6 q0 q1 => ?_⟩
        obtain ⟨sn, rfl⟩ : ∃ sn : Nat, sx = (sn : Int) := ⟨sx.toNat, by omega⟩
        obtain ⟨cc, e1, e2⟩ := signs_bad sn (by omega)
        have one : (⟨#[cc]⟩ : Str).length = 1 := rfl
        refine ⟨_, _, cc, rfl, rfl, by decide +kernel, atI_nat e1, _, _, rfl, rfl, by rw [one]; omega, ?_⟩
        refine ⟨_, rfl, _, rfl, _, rfl, wd, rfl, by omega, ?_⟩
        have hw2 := cutS_le wd (some pl) none
        generalize cutS wd (some pl) none = w2 at hw2 ⊢
        have l1 : (w1 ++ ⟨#[cc]⟩ : Str).length = w1.length + 1 := by rw [str_len, one]
        have l2 : (w1 ++ ⟨#[cc]⟩ ++ w2 : Str).length = w1.length + 1 + w2.length := by rw [str_len, l1]
        refine ⟨_, _, rfl, rfl, by rw [l1]; omega, ?_⟩
        have l7 : (Str.ofString "abcdefg").length = 7 := by decide +kernel
        refine ⟨_, rfl, _, rfl, _, rfl, _, _, rfl, rfl, by show wd.length + (Str.ofString "abcdefg").length ≤ sizeLine; rw [l7]; omega, _, rfl, by show 4 ≤ sizeLine; decide, fun V6 hV6 => ?_⟩
        obtain ⟨s7, b7, n6B, n6L⟩ := al (o := .lst [.str (w1 ++ ⟨#[cc]⟩ ++ w2), .str (w1 ++ ⟨#[cc]⟩ ++ w2), .str (wd ++ Str.ofString "abcdefg"), .int far]) (((s3.trans s4).trans s5).trans s6) hb b6 hV6
        refine fin _ _ ⟨V6, _, _, _, _, _, rfl, s7, b7, upd_same, n6B, n6L, rfl, fun u hu => ?_⟩
        rcases List.mem_cons.mp hu with e | hu
        · rw [e]; exact bad_sign (by rw [l2]; omega) e2
        rcases List.mem_cons.mp hu with e | hu
        · rw [e]; exact bad_sign (by rw [l2]; omega) e2
        rcases List.mem_cons.mp hu with e | hu
        · rw [e]; exact bad_long (by rw [str_len, l7]; omega) (by rw [str_len, l7]; omega)
        · rw [List.mem_singleton.mp hu]; exact bad_int (.inl rfl)
    · obtain ⟨V5, us, v6, v7, v8, v9, rfl, s4, b4, h5, n5B, n5L, lu, bu⟩ := h4
      have hr4 := dp_x hb s4 _ nor hr0
      have nors : noLs rs = true := nor
      obtain ⟨aR, xr, rfl, hSR, hIR⟩ : ∃ aR xr, vr = .ref aR ∧ SqT K H4 aR xr ∧ DpAll K H4 xr rs := by
        cases hr4 with
        | @tup a xs _ h1 h2 => exact ⟨a, xs, rfl, h1, h2⟩
      have lx : xr.length = rs.length := dpLen hIR
      have big : (1000 : Nat) ≤ sizeLine := by decide
      refine ⟨_, rfl, _, rfl, _, rfl, slA_any hSR fun p1 H5 s5 h5' => ?_⟩
      rw [cutV_to (by omega)] at h5'
      have b5 := b4.same s5
      refine ⟨_, rfl, _, rfl, B, L, 4, rfl, b5, by decide, by decide, fun H6 ux s6 b6 u0 u1 => ?_⟩
      obtain ⟨un, rfl⟩ : ∃ un : Nat, ux = (un : Int) := ⟨ux.toNat, by omega⟩
      obtain ⟨u, eu⟩ : ∃ u, us[un]? = some u := ⟨_, List.getElem?_eq_getElem (by omega)⟩
      obtain ⟨e, he, hev, hef, heL⟩ := bu u (List.mem_of_getElem? eu)
      have h56 := s6 _ _ n5B n5L (s5 _ _ h5)
      refine ⟨V5, _, _, _, rfl, rfl, SqL.of h56, atI_nat eu, by show 1 ≤ sizeLine; decide, fun p2 hp2 => ?_⟩
      have s7 := sameNew (o := .tup [u]) (Same.refl H6) hp2
      have b7 := b6.same s7
      have g1 := sqT_same s7 (sqT_x b5 s6 h5')
      have g2 : SqT K (upd H6 p2 (.tup [u])) p2 [u] := SqT.of upd_same
      have sR7 := sqT_same s7 (sqT_x b5 s6 (sqT_same s5 hSR))
      have sX7 := ((s4.trans (SameX.of s5)).trans s6).trans (SameX.of s7)
      generalize upd H6 p2 (.tup [u]) = H7 at s7 b7 g1 g2 sR7 sX7 ⊢
      refine catA_any g1 g2 (by rw [List.length_take]; show _ + 1 ≤ sizeLine; omega) fun p3 H8 s8 h8 => ?_
      refine ⟨_, rfl, _, rfl, _, _, rfl, rfl, _, rfl, ?_⟩
      dsimp only [tNoPart]
      refine slA_any (sqT_same s8 sR7) fun p4 H9 s9 h9 => ?_
      rw [show ((k : Nat) : Int) + 1 = ((k + 1 : Nat) : Int) by omega, cutV_from (by omega)] at h9
      refine catA_any (sqT_same s9 h8) h9 (by rw [List.length_append, List.length_take, List.length_drop]; show _ + 1 + _ ≤ sizeLine; omega) fun p5 HA sA hA => ?_
      have s7A := (s8.trans s9).trans sA
      have bA := b7.same s7A
      have sXA := sX7.trans (SameX.of s7A)
      have sRA := sqT_same s7A sR7
      have dR : DpAll K HA xr rs := dpAll_x b4 (((SameX.of s5).trans s6).trans (SameX.of (s7.trans s7A))) rs nors hIR
      have dO : Dp K HA (.ref p5) (.tuple (rs.take k ++ [e] ++ rs.drop (k + 1))) := .tup hA (dpApp (dpApp (dpAll_take dR k) (.cons (he K HA) .nil)) (dpAll_drop dR (k + 1)))
      have okO : isRow ks (.tuple (rs.take k ++ [e] ++ rs.drop (k + 1))) = false := row_bad eb lr hev
      have fitAll : ∀ d ∈ rs, fitD d := fun d hd => by
        obtain ⟨b, hv⟩ := row_val okr hd
        exact val_fit hv
      have nAll : ∀ d ∈ rs, noL d = true := noLs_iff.mp nors
      have ftO : fitR (.tuple (rs.take k ++ [e] ++ rs.drop (k + 1))) := by
        refine ⟨by rw [List.length_append, List.length_append, List.length_take, List.length_drop]; show _ + 1 + _ ≤ 1000; omega, fun d hd => ?_⟩
        rcases List.mem_append.mp hd with hd | hd
        · rcases List.mem_append.mp hd with hd | hd
          · exact fitAll d (List.mem_of_mem_take hd)
          · rw [List.mem_singleton.mp hd]; exact hef
        · exact fitAll d (List.mem_of_mem_drop hd)
      have nlO : noL (.tuple (rs.take k ++ [e] ++ rs.drop (k + 1))) = true := noLs_iff.mpr fun d hd => by
        rcases List.mem_append.mp hd with hd | hd
        · rcases List.mem_append.mp hd with hd | hd
          · exact nAll d (List.mem_of_mem_take hd)
          · rw [List.mem_singleton.mp hd]; exact heL
        · exact nAll d (List.mem_of_mem_drop hd)
      refine ⟨_, rfl, _, rfl, _, rfl, _, rfl, _, rfl, _, rfl, slA_any sRA fun p6 HB sB hB => ?_⟩
      rw [show (some (1 : Int)) = some ((1 : Nat) : Int) from rfl, cutV_to (by omega)] at hB
      refine catA_any (sqT_same sB sRA) hB (by rw [List.length_take]; omega) fun p7 HC sC hC => ?_
      refine ⟨_, rfl, _, rfl, ?_⟩
      dsimp only [tNoPart]
      refine slA_any (sqT_same (sB.trans sC) sRA) fun p8 HD sD hD => ?_
      rw [show (some (1 : Int)) = some ((1 : Nat) : Int) from rfl, cutV_from (by omega)] at hD
      refine ⟨Nat.zero_le _, fun p9 hp9 => ?_⟩
      have sE := sameNew (o := .tup []) (Same.refl HD) hp9
      have hE : upd HD p9 (.tup []) p9 = some (.tup []) := upd_same
      generalize upd HD p9 (.tup []) = HE at sE hE ⊢
      refine ⟨by show 6 ≤ sizeLine; decide, fun LL hLL => ?_⟩
      have sF := sameNew (o := .lst [.ref p5, .ref p5, .ref p5, .ref p7, .ref p8, .ref p9]) (Same.refl HE) hLL
      have sAF := (((sB.trans sC).trans sD).trans sE).trans sF
      have bF := bA.same sAF
      obtain ⟨nLB, nLL⟩ := (bA.same (((sB.trans sC).trans sD).trans sE)).nb hLL
      have hLF : upd HE LL (.lst [.ref p5, .ref p5, .ref p5, .ref p7, .ref p8, .ref p9]) LL = some (.lst [.ref p5, .ref p5, .ref p5, .ref p7, .ref p8, .ref p9]) := upd_same
      have dF : Dp K (upd HE LL (.lst [.ref p5, .ref p5, .ref p5, .ref p7, .ref p8, .ref p9])) (.ref p5) (.tuple (rs.take k ++ [e] ++ rs.drop (k + 1))) := dp_same sAF _ dO
      have d7 : Dp K (upd HE LL (.lst [.ref p5, .ref p5, .ref p5, .ref p7, .ref p8, .ref p9])) (.ref p7) (.tuple (rs ++ rs.take 1)) := .tup (sqT_same ((sD.trans sE).trans sF) hC) (dpAll_same sAF _ (dpApp dR (dpAll_take dR 1)))
      have d8 : Dp K (upd HE LL (.lst [.ref p5, .ref p5, .ref p5, .ref p7, .ref p8, .ref p9])) (.ref p8) (.tuple (rs.drop 1)) := .tup (sqT_same (sE.trans sF) hD) (dpAll_same sAF _ (dpAll_drop dR 1))
      have d9 : Dp K (upd HE LL (.lst [.ref p5, .ref p5, .ref p5, .ref p7, .ref p8, .ref p9])) (.ref p9) (.tuple []) := .tup (SqT.of (sF _ _ hE)) .nil
      generalize upd HE LL (.lst [.ref p5, .ref p5, .ref p5, .ref p7, .ref p8, .ref p9]) = HF at sF sAF bF hLF dF d7 d8 d9 ⊢
      refine ⟨_, rfl, B, L, 6, rfl, bF, by decide, by decide, fun HG x6 sG bG x0 x1 => ?_⟩
      have hLG := sG _ _ nLB nLL hLF
      have sXG := (sXA.trans (SameX.of sAF)).trans sG
      have nl7 : noL (.tuple (rs ++ rs.take 1)) = true := noLs_iff.mpr fun d hd => by
        rcases List.mem_append.mp hd with hd | hd
        · exact nAll d hd
        · exact nAll d (List.mem_of_mem_take hd)
      have nl8 : noL (.tuple (rs.drop 1)) = true := noLs_iff.mpr fun d hd => nAll d (List.mem_of_mem_drop hd)
      have fin : ∀ (u : V) (d : PyData), Dp K HF u d → isRow ks d = false → fitR d → noL d = true → Q u HG := fun u d h1 h2 h3 h4 => kk HG u d sXG bG (dp_x bF sG d h4 h1) h2 h3 h4
      rcases (by omega : x6 = 0 ∨ x6 = 1 ∨ x6 = 2 ∨ x6 = 3 ∨ x6 = 4 ∨ x6 = 5) with z | z | z | z | z | z <;> subst z
      · exact ⟨LL, _, _, _, rfl, rfl, SqL.of hLG, atI_nat (j := 0) rfl, fin _ _ dF okO ftO nlO⟩
      · exact ⟨LL, _, _, _, rfl, rfl, SqL.of hLG, atI_nat (j := 1) rfl, fin _ _ dF okO ftO nlO⟩
      · exact ⟨LL, _, _, _, rfl, rfl, SqL.of hLG, atI_nat (j := 2) rfl, fin _ _ dF okO ftO nlO⟩
      · refine ⟨LL, _, _, _, rfl, rfl, SqL.of hLG, atI_nat (j := 3) rfl, fin _ _ d7 (row_badL (by rw [List.length_append, List.length_take]; omega)) ⟨by rw [List.length_append, List.length_take]; omega, fun d hd => ?_⟩ nl7⟩
        rcases List.mem_append.mp hd with hd | hd
        · exact fitAll d hd
        · exact fitAll d (List.mem_of_mem_take hd)
      · exact ⟨LL, _, _, _, rfl, rfl, SqL.of hLG, atI_nat (j := 4) rfl, fin _ _ d8 (row_badL (by rw [List.length_drop]; omega)) ⟨by rw [List.length_drop]; omega, fun d hd => fitAll d (List.mem_of_mem_drop hd)⟩ nl8⟩
      · exact ⟨LL, _, _, _, rfl, rfl, SqL.of hLG, atI_nat (j := 5) rfl, fin _ _ d9 (row_badL (by show 0 ≠ ks.length; omega)) ⟨by show 0 ≤ 1000; omega, (fun _ h => nomatch h)⟩ rfl⟩
end
end RS
set_option Elab.async false
set_option maxRecDepth 100000
set_option maxHeartbeats 4000000
namespace RS
open PySem PySem.Spec PyProof.Rows L2 GX
/-- the tables put away -/
def noT (H : Hp) : Hp := fun b => match H b with
  | some (.tbl _) => none
  | o => o
theorem noT_at {H : Hp} {b : Addr} {o : HO} (e : H b = some o) (n : ∀ ps, o ≠ .tbl ps) : noT H b = some o := by
  unfold noT
  rw [e]
  cases o <;> first | rfl | exact absurd rfl (n _)
theorem noT_of {H : Hp} {b : Addr} {o : HO} (e : noT H b = some o) : H b = some o ∧ ∀ ps, o ≠ .tbl ps := by
  unfold noT at e
  cases q : H b with
  | none => rw [q] at e; cases e
  | some u =>
    rw [q] at e
    cases u <;> first
      | exact ⟨e, fun ps z => by cases z; cases e⟩
      | (cases e)
theorem noT_none {H : Hp} {b : Addr} (e : H b = none) : noT H b = none := by
  unfold noT
  rw [e]
theorem noT_same (H : Hp) : Same (noT H) H := fun _ _ e => (noT_of e).1
theorem noT_up {H H' : Hp} (s : Same (noT H) H') : Same (noT H) (noT H') := fun b o e => noT_at (s b o e) (noT_of e).2
theorem noT_ext {H H' : Hp} (s : LamX.ExtN H H') : Same (noT H) H' := fun b o e => s b o (noT_of e).1 (noT_of e).2
theorem noT_mono {H H' : Hp} (s : Same H H') : Same (noT H) (noT H') := noT_up ((noT_same H).trans s)
theorem sqT_noT {K : PySem.W.Frag} {H : Hp} {a : Addr} {xs : List V} (h : SqT K H a xs) : SqT K (noT H) a xs := by
  rcases h with (h | ⟨o, h⟩) | h
  · exact .inl (.inl (noT_at h (fun _ z => by cases z)))
  · exact .inl (.inr ⟨o, noT_at h (fun _ z => by cases z)⟩)
  · exact .inr h
theorem sqL_noT {K : PySem.W.Frag} {H : Hp} {a : Addr} {xs : List V} (h : SqL K H a xs) : SqL K (noT H) a xs := by
  rcases h with (h | ⟨o, h⟩) | h
  · exact .inl (.inl (noT_at h (fun _ z => by cases z)))
  · exact .inl (.inr ⟨o, noT_at h (fun _ z => by cases z)⟩)
  · exact .inr h
mutual
theorem dp_noT {K : PySem.W.Frag} {H : Hp} : ∀ (d : PyData) {v : V}, Dp K H v d → Dp K (noT H) v d
  | .none, _, .non => .non
  | .bool b, _, .bl _ => .bl b
  | .int i, _, .int _ => .int i
  | .str x, _, .str _ => .str x
  | .list ds, _, .lst h hs => .lst (sqL_noT h) (dpAll_noT ds hs)
  | .tuple ds, _, .tup h hs => .tup (sqT_noT h) (dpAll_noT ds hs)
  | .dict _, _, h => nomatch h
theorem dpAll_noT {K : PySem.W.Frag} {H : Hp} : ∀ (ds : List PyData) {vs : List V}, DpAll K H vs ds → DpAll K (noT H) vs ds
  | [], _, .nil => .nil
  | d :: ds, _, .cons h hs => .cons (dp_noT d h) (dpAll_noT ds hs)
end
end RS
set_option Elab.async false
set_option maxRecDepth 100000
set_option maxHeartbeats 4000000
namespace RS
open PySem PySem.Spec PyProof.Rows L2 GX
theorem row_fit {ks : List Bool} {r : List PyData} (hk : ks.length ≤ 4) (h : isRow ks (.tuple r) = true) : fitR (.tuple r) := by
  have big : (6 : Nat) ≤ sizeLine := by decide
  refine ⟨by have := (isRow_get.mp h).1; omega, fun d hd => ?_⟩
  obtain ⟨b, hv⟩ := row_val h hd
  rcases val_atom hv with ⟨e, x, rfl⟩ | ⟨e, m, rfl⟩
  · subst e
    have := isWord_len hv
    show x.length ≤ sizeLine
    omega
  · trivial
theorem tabS_x {H H' : Hp} {B L P : Addr} {q : Str} (b : BoxAt H B L) (s : SameX B L H H') (t : LamX.TabS H P q) : LamX.TabS H' P q := by
  obtain ⟨_, ⟨st, hb'⟩, ⟨ms, hl'⟩⟩ := b
  obtain ⟨ps, h1, h2, h3⟩ := t
  refine ⟨ps, s _ _ (fun z => by rw [z, hb'] at h1; cases h1) (fun z => by rw [z, hl'] at h1; cases h1) h1, h2, fun pos cv hc => ?_⟩
  obtain ⟨c, e1, e2⟩ := h3 pos cv hc
  refine ⟨c, e1, s _ _ (fun z => ?_) (fun z => ?_) e2⟩
  · rw [z, hb'] at e2
    unfold LamX.CodeO at e2
    cases e2
  · rw [z, hl'] at e2
    unfold LamX.CodeO at e2
    cases e2
theorem box_noT {H : Hp} {B L : Addr} (b : BoxAt H B L) : BoxAt (noT H) B L := by
  obtain ⟨n, ⟨st, hb'⟩, ⟨ms, hl'⟩⟩ := b
  exact ⟨n, ⟨st, noT_at hb' (fun _ z => by cases z)⟩, ⟨ms, noT_at hl' (fun _ z => by cases z)⟩⟩
end RS
set_option Elab.async false
set_option maxRecDepth 100000
set_option maxHeartbeats 4000000
namespace RS
open PySem PySem.Spec PyProof.Rows L2 GX
/-! ### ranks, column by column -/
theorem lex_irr : ∀ l : List Int, HT.lexLt l l = false
  | [] => rfl
  | x :: l => by rw [HT.lexLt_cons, if_pos rfl]; exact lex_irr l
theorem lexLt_app : ∀ (A B X Y : List Int), A.length = B.length → HT.lexLt (A ++ X) (B ++ Y) = if A = B then HT.lexLt X Y else HT.lexLt A B
  | [], [], X, Y, _ => by rw [if_pos rfl]; rfl
  | [], _ :: _, _, _, h => by simp at h
  | _ :: _, [], _, _, h => by simp at h
  | a :: A, b :: B, X, Y, h => by
    rw [List.cons_append, List.cons_append, HT.lexLt_cons, HT.lexLt_cons]
    by_cases e : a = b
    · subst e
      rw [if_pos rfl, if_pos rfl, lexLt_app A B X Y (by simpa using h)]
      by_cases e2 : A = B
      · rw [if_pos e2, if_pos (by rw [e2])]
      · rw [if_neg e2, if_neg (fun z => e2 (List.cons.inj z).2)]
    · rw [if_neg e, if_neg e, if_neg (fun z => e (List.cons.inj z).1)]
def sg (b : Bool) (z : Int) : Int := if b then -z else z
def padL (k : Nat) (l : List Nat) : List Nat := l ++ List.replicate (k - l.length) 32
def padI (b : Bool) (k : Nat) (l : List Nat) : List Int := ((padL k l).map Int.ofNat).map (sg b)
theorem padI_cons (b : Bool) (k : Nat) (x : Nat) (l : List Nat) : padI b (k + 1) (x :: l) = sg b (x : Nat) :: padI b k l := by
  unfold padI padL
  rw [List.length_cons, Nat.add_sub_add_right]
  rfl
theorem padI_nil (b : Bool) (k : Nat) : padI b (k + 1) [] = sg b 32 :: padI b k [] := by
  unfold padI padL
  rfl
theorem sg_lt {b : Bool} {x y : Nat} : decide (sg b (x : Nat) < sg b (y : Nat)) = if b then decide (y < x) else decide (x < y) := by
  cases b
  · show decide ((x : Int) < (y : Int)) = decide (x < y)
    simp
  · show decide (-(x : Int) < -(y : Int)) = decide (y < x)
    congr 1
    simp
theorem sg_inj {b : Bool} {x y : Nat} (h : sg b (x : Nat) = sg b (y : Nat)) : x = y := by
  cases b
  · have h : (x : Int) = (y : Int) := h
    omega
  · have h : -(x : Int) = -(y : Int) := h
    omega
theorem nil_lt (x : Nat) (l : List Nat) : decide (([] : List Nat) < x :: l) = true := by simp
theorem lt_nil (l : List Nat) : decide (l < ([] : List Nat)) = false := by simp
theorem cons_lt (x y : Nat) (l m : List Nat) : decide (x :: l < y :: m) = if x = y then decide (l < m) else decide (x < y) := by
  by_cases e : x = y
  · subst e
    rw [if_pos rfl]
    congr 1
    simp
  · rw [if_neg e]
    congr 1
    rw [List.cons_lt_cons_iff]
    simp [e]
theorem pad_lt (b : Bool) : ∀ (k : Nat) (l m : List Nat), l.length ≤ k → m.length ≤ k → (∀ c ∈ l, 32 < c) → (∀ c ∈ m, 32 < c) → HT.lexLt (padI b k l) (padI b k m) = if b then decide (m < l) else decide (l < m)
  | 0, [], [], _, _, _, _ => by cases b <;> rfl
  | 0, _ :: _, _, h, _, _, _ => by simp at h
  | 0, _, _ :: _, _, h, _, _ => by simp at h
  | k + 1, [], [], _, _, _, _ => by
    rw [lex_irr]
    cases b <;> simp
  | k + 1, [], y :: m, _, _, _, hm => by
    have hy := hm y List.mem_cons_self
    rw [padI_cons, padI_nil, HT.lexLt_cons]
    have ne : ¬ sg b 32 = sg b (y : Nat) := fun z => by
      have := sg_inj (b := b) (x := 32) (y := y) z
      omega
    rw [if_neg ne]
    have := sg_lt (b := b) (x := 32) (y := y)
    rw [nil_lt, lt_nil]
    refine this.trans ?_
    cases b
    · simp [hy]
    · simp
      omega
  | k + 1, x :: l, [], _, _, hl, _ => by
    have hx := hl x List.mem_cons_self
    rw [padI_cons, padI_nil, HT.lexLt_cons]
    have ne : ¬ sg b (x : Nat) = sg b 32 := fun z => by
      have := sg_inj (b := b) (x := x) (y := 32) z
      omega
    rw [if_neg ne]
    have := sg_lt (b := b) (x := x) (y := 32)
    rw [nil_lt, lt_nil]
    refine this.trans ?_
    cases b
    · simp
      omega
    · simp [hx]
  | k + 1, x :: l, y :: m, h1, h2, hl, hm => by
    have ih := pad_lt b k l m (by simpa using h1) (by simpa using h2) (fun c hc => hl c (List.mem_cons_of_mem _ hc)) (fun c hc => hm c (List.mem_cons_of_mem _ hc))
    rw [padI_cons, padI_cons, HT.lexLt_cons, cons_lt, cons_lt]
    by_cases e : x = y
    · subst e
      rw [if_pos rfl, if_pos rfl, if_pos rfl]
      exact ih
    · rw [if_neg (fun z => e (sg_inj z)), if_neg e, if_neg (Ne.symm e)]
      exact sg_lt
theorem lt_total {l m : List Nat} (h : l ≠ m) : l < m ∨ m < l := by
  induction l generalizing m with
  | nil =>
    cases m with
    | nil => exact absurd rfl h
    | cons y m => exact .inl (by simp)
  | cons x l ih =>
    cases m with
    | nil => exact .inr (by simp)
    | cons y m =>
      by_cases e : x = y
      · subst e
        rcases ih (m := m) (fun z => h (by rw [z])) with q | q
        · exact .inl (List.cons_lt_cons_iff.mpr (.inr ⟨rfl, q⟩))
        · exact .inr (List.cons_lt_cons_iff.mpr (.inr ⟨rfl, q⟩))
      · rcases Nat.lt_or_gt_of_ne e with q | q
        · exact .inl (List.cons_lt_cons_iff.mpr (.inl q))
        · exact .inr (List.cons_lt_cons_iff.mpr (.inl q))
theorem pad_ne (b : Bool) {k : Nat} {l m : List Nat} (h1 : l.length ≤ k) (h2 : m.length ≤ k) (hl : ∀ c ∈ l, 32 < c) (hm : ∀ c ∈ m, 32 < c) (ne : l ≠ m) : padI b k l ≠ padI b k m := fun z => by
  have a := pad_lt b k l m h1 h2 hl hm
  have c := pad_lt b k m l h2 h1 hm hl
  rw [z, lex_irr] at a
  rw [z, lex_irr] at c
  rcases lt_total ne with q | q
  · cases b
    · simp [q] at a
    · simp [q] at c
  · cases b
    · simp [q] at c
    · simp [q] at a
end RS
set_option Elab.async false
set_option maxRecDepth 100000
set_option maxHeartbeats 4000000
namespace RS
open PySem PySem.Spec PyProof.Rows L2 GX
def colLt (b : Bool) : PyData → PyData → Bool
  | .int x, .int y => if b then decide (y < x) else decide (x < y)
  | .str x, .str y => if b then decide (y.cps.toList < x.cps.toList) else decide (x.cps.toList < y.cps.toList)
  | _, _ => false
def keyD (b : Bool) (d : PyData) : List Int := (worthsOf d).map (sg b)
theorem sign_gt {c : Nat} (h : signOk c = true) : 32 < c := by
  unfold signOk at h
  rw [Bool.and_eq_true] at h
  have h2 : ¬ ([c] : List Nat) < [97] := by simpa using h.1
  by_cases q : 97 ≤ c
  · omega
  · exact absurd (List.cons_lt_cons_iff.mpr (.inl (by omega))) h2
theorem word_parts {x : Str} (h : isWord (.str x) = true) : x.cps.toList.length ≤ 6 ∧ ∀ c ∈ x.cps.toList, 32 < c := by
  have h' : (decide ((x.length : Int) ≤ 6) && x.cps.toList.all signOk) = true := h
  rw [Bool.and_eq_true] at h'
  have h1 := of_decide_eq_true h'.1
  exact ⟨by rw [len_cps]; omega, fun c hc => sign_gt (List.all_eq_true.mp h'.2 c hc)⟩
theorem sg_injI {b : Bool} {x y : Int} (h : sg b x = sg b y) : x = y := by
  cases b
  · exact h
  · have h : -x = -y := h
    omega
theorem key_lt {kb b : Bool} {m t : PyData} (hm : isVal kb m = true) (ht : isVal kb t = true) (ne : m ≠ t) : (keyD b m).length = (keyD b t).length ∧ keyD b m ≠ keyD b t ∧ HT.lexLt (keyD b m) (keyD b t) = colLt b m t := by
  cases kb with
  | false =>
    obtain ⟨x, rfl⟩ : ∃ n, m = .int n := by
      rcases val_atom hm with ⟨e, _⟩ | ⟨_, q⟩
      · cases e
      · exact q
    obtain ⟨y, rfl⟩ : ∃ n, t = .int n := by
      rcases val_atom ht with ⟨e, _⟩ | ⟨_, q⟩
      · cases e
      · exact q
    have nxy : x ≠ y := fun z => ne (by rw [z])
    have n2 : sg b x ≠ sg b y := fun z => nxy (sg_injI z)
    refine ⟨rfl, fun z => n2 (List.cons.inj z).1, ?_⟩
    show HT.lexLt [sg b x] [sg b y] = if b then decide (y < x) else decide (x < y)
    rw [HT.lexLt_cons, if_neg n2]
    cases b
    · rfl
    · show decide (-x < -y) = decide (y < x)
      congr 1
      simp
  | true =>
    obtain ⟨x, rfl⟩ : ∃ n, m = .str n := by
      rcases val_atom hm with ⟨_, q⟩ | ⟨e, _⟩
      · exact q
      · cases e
    obtain ⟨y, rfl⟩ : ∃ n, t = .str n := by
      rcases val_atom ht with ⟨_, q⟩ | ⟨e, _⟩
      · exact q
      · cases e
    obtain ⟨lx, hx⟩ := word_parts hm
    obtain ⟨ly, hy⟩ := word_parts ht
    have nxy : x.cps.toList ≠ y.cps.toList := fun z => ne (by rw [TL.ext_tl (x := x) (y := y) z])
    have e1 : (padL 6 x.cps.toList).length = 6 := pad6_len lx
    have e2 : (padL 6 y.cps.toList).length = 6 := pad6_len ly
    refine ⟨?_, pad_ne b lx ly hx hy nxy, pad_lt b 6 _ _ lx ly hx hy⟩
    show (padI b 6 x.cps.toList).length = (padI b 6 y.cps.toList).length
    unfold padI
    rw [List.length_map, List.length_map, List.length_map, List.length_map, e1, e2]
theorem rank_cons {os : List (Nat × Bool)} {c : Nat} {b : Bool} {p : Nat × List PyData} {m : PyData} (h : p.2[c]? = some m) : rankOf ((c, b) :: os) p = keyD b m ++ rankOf os p := by
  unfold rankOf
  rw [List.flatMap_cons, List.append_assoc]
  unfold keyP
  rw [List.getD_eq_getElem?_getD, h]
  rfl
theorem before_cons {os : List (Nat × Bool)} {c : Nat} {b kb : Bool} {p q : Nat × List PyData} {m t : PyData} (h1 : p.2[c]? = some m) (h2 : q.2[c]? = some t) (v1 : isVal kb m = true) (v2 : isVal kb t = true) :
    (m = t → before ((c, b) :: os) p q = before os p q) ∧ (m ≠ t → before ((c, b) :: os) p q = colLt b m t) := by
  unfold before
  rw [rank_cons h1, rank_cons h2]
  constructor
  · intro e
    subst e
    rw [lexLt_app _ _ _ _ rfl, if_pos rfl]
  · intro e
    obtain ⟨k1, k2, k3⟩ := key_lt (b := b) v1 v2 e
    rw [lexLt_app _ _ _ _ k1, if_neg k2, k3]
theorem before_nil {p q : Nat × List PyData} : before [] p q = decide (p.1 < q.1) := by
  show HT.lexLt [(p.1 : Int)] [(q.1 : Int)] = _
  rw [HT.lexLt_cons]
  by_cases e : (p.1 : Int) = (q.1 : Int)
  · rw [if_pos e]
    have : p.1 = q.1 := by omega
    rw [this]
    simp [HT.lexLt_nil_nil]
  · rw [if_neg e]
    simp
/-- pairs of different numbers: one is ahead -/
theorem rank_ne {os : List (Nat × Bool)} {p q : Nat × List PyData} (h : before os p q = false) (h2 : before os q p = false) : rankOf os p = rankOf os q := by
  have tot : ∀ A B : List Int, HT.lexLt A B = false → HT.lexLt B A = false → A = B := by
    intro A
    induction A with
    | nil =>
      intro B h1 h2
      cases B with
      | nil => rfl
      | cons y B => rw [HT.lexLt_nil_cons] at h1; cases h1
    | cons x A ih =>
      intro B h1 h2
      cases B with
      | nil => rw [HT.lexLt_nil_cons] at h2; cases h2
      | cons y B =>
        rw [HT.lexLt_cons] at h1 h2
        by_cases e : x = y
        · subst e
          rw [if_pos rfl] at h1 h2
          rw [ih B h1 h2]
        · rw [if_neg e] at h1
          rw [if_neg (Ne.symm e)] at h2
          have a := of_decide_eq_false h1
          have b := of_decide_eq_false h2
          omega
  exact tot _ _ h h2
theorem rank_num {os : List (Nat × Bool)} {p q : Nat × List PyData} (h : rankOf os p = rankOf os q) : p.1 = q.1 := by
  have e := congrArg List.getLast? h
  unfold rankOf at e
  rw [List.getLast?_append, List.getLast?_append] at e
  simp at e
  omega
end RS
set_option Elab.async false
set_option maxRecDepth 100000
set_option maxHeartbeats 4000000
namespace RS
open PySem PySem.Spec PyProof.Rows L2 GX
section
variable {P : Program} {w : World} {K : PySem.W.Frag} {mg : Str → Option Value} {base : Heap}
/-- the two have values of one kind in the order's columns -/
def Alike (os : List (Nat × Bool)) (p q : Nat × List PyData) : Prop := ∀ o ∈ os, ∃ kb m t, p.2[o.1]? = some m ∧ q.2[o.1]? = some t ∧ isVal kb m = true ∧ isVal kb t = true
theorem alike_rows {ks : List Bool} {os : List (Nat × Bool)} {p q : Nat × List PyData} (ok : OkOrder ks.length os) (hp : isRow ks (.tuple p.2) = true) (hq : isRow ks (.tuple q.2) = true) : Alike os p q := fun o ho => by
  have h1 := isRow_get.mp hp
  have h2 := isRow_get.mp hq
  have hc := ok.col o ho
  have l1 : o.1 < p.2.length := by omega
  have l2 : o.1 < q.2.length := by omega
  obtain ⟨b, e1, v1⟩ := h1.2 o.1 _ (List.getElem?_eq_getElem l1)
  obtain ⟨b', e2, v2⟩ := h2.2 o.1 _ (List.getElem?_eq_getElem l2)
  rw [e1] at e2
  cases e2
  exact ⟨b, _, _, List.getElem?_eq_getElem l1, List.getElem?_eq_getElem l2, v1, v2⟩
theorem scAhead : FnScope ["_law_order_here", "_law_one", "_law_other", "_law_column", "_law_way", "_law_mine", "_law_theirs"] ["_law_order_here", "_law_one", "_law_other"] (defScope sAhead) := ⟨rfl, rfl, rfl, by decide +kernel, rfl, by decide +kernel, by decide +kernel⟩
def spAhead (K : PySem.W.Frag) : Sp := fun vs H Q _ => ∃ (vo v1 v2 : V) (os : List (Nat × Bool)) (p q : Nat × List PyData), vs = [vo, v1, v2] ∧ Dp K H vo (orderD os) ∧ Dp K H v1 (pairD p) ∧ Dp K H v2 (pairD q) ∧ Alike os p q ∧ Q (.bl (before os p q)) H
theorem ahead_ok {c : Addr} (D : DefAt K mg "_law_ahead" sAhead c) : Cal P w K mg base CX0 1 "_law_ahead" ["_law_order_here", "_law_one", "_law_other"] (spAhead K) := by
  have sc := scAhead
  refine def_ok0 D sc (fun vs H Q E h => ?_) (fun _ _ _ _ _ _ us hl => match us, hl with | [_, _, _], _ => rfl) (fun f A outer s H vs Q E hr h => ?_)
  · obtain ⟨vo, v1, v2, os, p, q, rfl, _⟩ := h
    rfl
  · obtain ⟨vo, v1, v2, os, p, q, rfl, ho, hp, hq, ha, k⟩ := h
    refine ⟨_, (pss_cons (ps_for PassesOwn.never rfl (pi_list (pv 0)) (pg_tup (by rfl) (pgs_cons (pg_name (i := 3) sc.nd rfl (Or.inl rfl)) (pgs_cons (pg_name (i := 4) sc.nd rfl (Or.inl rfl)) pgs_nil))) (pss_cons (ps_par (i := 5) (j := 6) rfl sc.nd rfl rfl (by decide) rfl rfl (pa_cons (pe_ix ixD (pe_ix ixD (pv 1) pe_int (fun _ _ => rfl)) (pv 3) (fun _ _ => rfl)) (pa_cons (pe_ix ixD (pe_ix ixD (pv 2) pe_int (fun _ _ => rfl)) (pv 3) (fun _ _ => rfl)) pa_nil)) (by rfl)) (pss_one (ps_if (pt_cmpR op_ne (pv 5) (pv 6) (nomark _)) (pss_one (ps_ret (pe_ifExp (pt_cmpR op_eq (pv 4) pe_str (nomark _)) (pe_cmpR (op_lt.or op_lt_str) (pv 5) (pv 6) (nomark _)) (pe_cmpR (op_gt.or op_gt_str) (pv 5) (pv 6) (nomark _))))) pss_nil)))) (pss_one (ps_ret (pe_cmpR op_lt (pe_ix ixD (pv 1) pe_int (fun _ _ => rfl)) (pe_ix ixD (pv 2) pe_int (fun _ _ => rfl)) (nomark _))))), ?_⟩
    cases ho with
    | @lst ao xo _ hSo hIo =>
      have lo : xo.length = os.length := by rw [dpLen hIo, List.length_map]
      refine ⟨_, rfl, ao, rfl, ⟨_, hSo⟩, for_list (K := K) (a := ao) (xs := xo) (fun i σ H' => ∃ v3 v4 v5 v6 : Option V, σ = [some (.ref ao), some v1, some v2, v3, v4, v5, v6] ∧ H' = H ∧ before os p q = before (os.drop i) p q)
        ⟨none, none, none, none, rfl, rfl, rfl⟩ (fun i σ H' _ ⟨_, _, _, _, _, e, _⟩ => by rw [e]; exact hSo) ?_ ?_⟩
      · rintro i y σ H' hi ⟨v3, v4, v5, v6, rfl, rfl, hbe⟩
        obtain ⟨d, ed, hd⟩ := dpGet hIo hi
        obtain ⟨⟨c, b⟩, eq, rfl⟩ : ∃ o, os[i]? = some o ∧ d = partD o := by
          rw [List.getElem?_map] at ed
          cases z : os[i]? with
          | none => rw [z] at ed; cases ed
          | some b => rw [z] at ed; exact ⟨b, rfl, (Option.some.inj ed).symm⟩
        have hi' : i < os.length := (List.getElem?_eq_some_iff.mp eq).1
        have dr : os.drop i = (c, b) :: os.drop (i + 1) := by
          rw [List.drop_eq_getElem_cons hi', (List.getElem?_eq_some_iff.mp eq).2]
        obtain ⟨kb, m, t, hm, ht, vm, vt⟩ := ha (c, b) (List.mem_of_getElem? eq)
        obtain ⟨c1, c2⟩ := before_cons (os := os.drop (i + 1)) (b := b) hm ht vm vt
        cases hd with
        | @tup ap xp _ hSp hIp =>
          cases hIp with
          | cons g1 hIp =>
            cases hIp with
            | cons g2 hIp =>
              cases hIp
              cases g1
              cases g2
              refine ⟨ap, _, rfl, hSp, rfl, _, _, rfl, _, _, rfl, rfl, ?_⟩
              refine ⟨_, rfl, pairD p, [.int p.1, .tuple p.2], 1, .tuple p.2, hp, rfl, rfl, atI_nat (j := 1) rfl, fun w1 hw1 => ?_⟩
              refine ⟨_, rfl, .tuple p.2, p.2, (c : Nat), m, hw1, rfl, rfl, atI_nat hm, fun w2 hw2 => ?_⟩
              refine ⟨_, rfl, pairD q, [.int q.1, .tuple q.2], 1, .tuple q.2, hq, rfl, rfl, atI_nat (j := 1) rfl, fun w3 hw3 => ?_⟩
              refine ⟨_, rfl, .tuple q.2, q.2, (c : Nat), t, hw3, rfl, rfl, atI_nat ht, fun w4 hw4 => ?_⟩
              refine ⟨_, _, rfl, _, rfl, _, rfl, ?_⟩
              have hw : decide (V.str (wayS b) = V.str "up") = !b := by cases b <;> decide +kernel
              cases kb with
              | true =>
                obtain ⟨x, rfl⟩ : ∃ n, m = .str n := by
                  rcases val_atom vm with ⟨_, q⟩ | ⟨e, _⟩
                  · exact q
                  · cases e
                obtain ⟨y, rfl⟩ : ∃ n, t = .str n := by
                  rcases val_atom vt with ⟨_, q⟩ | ⟨e, _⟩
                  · exact q
                  · cases e
                cases hw2
                cases hw4
                refine ⟨rfl, _, rfl, ?_⟩
                by_cases e : x = y
                · have ed : (!decide (V.str x = V.str y)) = false := by rw [e]; simp
                  rw [ed]
                  exact iteF ⟨_, _, _, _, rfl, rfl, by rw [hbe, dr]; exact c1 (by rw [e])⟩
                · have ed : (!decide (V.str x = V.str y)) = true := by simp [e]
                  rw [ed]
                  have cc := c2 fun z => e (by cases z; rfl)
                  rw [hbe, dr, cc] at k
                  refine iteT ⟨_, rfl, rfl, _, rfl, ?_⟩
                  rw [hw]
                  cases b with
                  | false => exact iteT ⟨_, rfl, _, rfl, .inr ⟨_, _, rfl, rfl, k⟩⟩
                  | true => exact iteF ⟨_, rfl, _, rfl, .inr ⟨_, _, rfl, rfl, k⟩⟩
              | false =>
                obtain ⟨x, rfl⟩ : ∃ n, m = .int n := by
                  rcases val_atom vm with ⟨e, _⟩ | ⟨_, q⟩
                  · cases e
                  · exact q
                obtain ⟨y, rfl⟩ : ∃ n, t = .int n := by
                  rcases val_atom vt with ⟨e, _⟩ | ⟨_, q⟩
                  · cases e
                  · exact q
                cases hw2
                cases hw4
                refine ⟨rfl, _, rfl, ?_⟩
                by_cases e : x = y
                · have ed : (!decide (V.int x = V.int y)) = false := by rw [e]; simp
                  rw [ed]
                  exact iteF ⟨_, _, _, _, rfl, rfl, by rw [hbe, dr]; exact c1 (by rw [e])⟩
                · have ed : (!decide (V.int x = V.int y)) = true := by simp [e]
                  rw [ed]
                  have cc := c2 fun z => e (by cases z; rfl)
                  rw [hbe, dr, cc] at k
                  refine iteT ⟨_, rfl, rfl, _, rfl, ?_⟩
                  rw [hw]
                  cases b with
                  | false => exact iteT ⟨_, rfl, _, rfl, .inl ⟨_, _, rfl, rfl, k⟩⟩
                  | true => exact iteF ⟨_, rfl, _, rfl, .inl ⟨_, _, rfl, rfl, k⟩⟩
      · rintro σ H' ⟨v3, v4, v5, v6, rfl, rfl, hbe⟩
        rw [lo, List.drop_length, before_nil] at hbe
        refine ⟨_, rfl, pairD p, [.int p.1, .tuple p.2], 0, .int p.1, hp, rfl, rfl, atI_nat (j := 0) rfl, fun w1 hw1 => ?_⟩
        cases hw1
        refine ⟨_, rfl, pairD q, [.int q.1, .tuple q.2], 0, .int q.1, hq, rfl, rfl, atI_nat (j := 0) rfl, fun w2 hw2 => ?_⟩
        cases hw2
        refine ⟨_, _, rfl, rfl, ?_⟩
        rw [hbe] at k
        have e : decide ((p.1 : Int) < (q.1 : Int)) = decide (p.1 < q.1) := by congr 1; simp
        show Q (.bl (decide ((p.1 : Int) < (q.1 : Int)))) H'
        rw [e]
        exact k
end
end RS
set_option Elab.async false
set_option maxRecDepth 100000
set_option maxHeartbeats 4000000
namespace RS
open PySem PySem.Spec PyProof.Rows L2 GX
section
variable {P : Program} {w : World} {K : PySem.W.Frag} {mg : Str → Option Value} {base : Heap}
theorem srtd_get {α : Type} {lt : α → α → Bool} {l : List α} (h : SrtO.Srtd lt l) {i j : Nat} {x y : α} (hij : i < j) (hx : l[i]? = some x) (hy : l[j]? = some y) : lt y x = false := by
  obtain ⟨h1, rfl⟩ := List.getElem?_eq_some_iff.mp hx
  obtain ⟨h2, rfl⟩ := List.getElem?_eq_some_iff.mp hy
  exact List.pairwise_iff_getElem.mp h i j h1 h2 hij
theorem scSorted : FnScope ["_law_order_here", "_law_pairs_here", "_law_found", "_law_pair", "_law_low", "_law_high", "_law_half"] ["_law_order_here", "_law_pairs_here"] (defScope sSorted) := ⟨rfl, rfl, rfl, by decide +kernel, rfl, by decide +kernel, by decide +kernel⟩
def spSorted (K : PySem.W.Frag) : Sp := fun vs H Q _ => ∃ (vo : V) (a : Addr) (xs : List V) (ks : List Bool) (os : List (Nat × Bool)) (ps : List (Nat × List PyData)), vs = [vo, .ref a] ∧ Dp K H vo (orderD os) ∧ SqL K H a xs ∧ DpAll K H xs (ps.map pairD) ∧ OkOrder ks.length os ∧ (∀ p ∈ ps, isRow ks (.tuple p.2) = true) ∧ ps.length ≤ 500 ∧
  ∀ (H' : Hp) (p : Addr) (ys : List V) (qs : List (Nat × List PyData)), Same H H' → H p = none → H' p = some (.lst ys) → DpAll K H' ys (qs.map pairD) → qs.Perm ps → SrtO.Srtd (before os) qs → Q (.ref p) H'
theorem sorted_ok {c : Addr} (D : DefAt K mg "_law_sorted" sSorted c) (T : Txt K mg) (cA : Cal P w K mg base CX0 1 "_law_ahead" ["_law_order_here", "_law_one", "_law_other"] (spAhead K)) : Cal P w K mg base CX0 2 "_law_sorted" ["_law_order_here", "_law_pairs_here"] (spSorted K) := by
  have sc := scSorted
  refine def_ok0 D sc (fun vs H Q E h => ?_) (fun _ _ _ _ _ _ us hl => match us, hl with | [_, _], _ => rfl) (fun f A outer s H vs Q E hr h => ?_)
  · obtain ⟨vo, a, xs, ks, os, ps, rfl, _⟩ := h
    rfl
  · obtain ⟨vo, a, xs, ks, os, ps, rfl, ho, hS, hI, ok, okp, hz, k⟩ := h
    refine ⟨_, (pss_cons (ps_set (i := 2) sc.nd rfl (Or.inl rfl) (pe_lst pa_nil)) (pss_cons (ps_for PassesOwn.never rfl (pi_list (pv 1)) (pg_name (i := 3) sc.nd rfl (Or.inl rfl)) (pss_cons (ps_par (i := 4) (j := 5) rfl sc.nd rfl rfl (by decide) rfl rfl (pa_cons pe_int (pa_cons (pe_callB call_lenD (by rfl) T.len PySem.boot_len (pa_cons (pv 2) pa_nil)) pa_nil)) (by rfl)) (pss_cons (ps_while PassesOwn.never (pt_cmpR op_lt (pv 4) (pv 5) (nomark _)) (pss_cons (ps_set (i := 6) sc.nd rfl (Or.inl rfl) (pe_op op_fdiv (pe_op op_add (pv 4) (pv 5)) pe_int)) (pss_one (ps_if (pt_val (pe_c cA hr (by decide) (by rfl) pass0 (pa_cons (pv 0) (pa_cons (pv 3) (pa_cons (pe_ix ix_list (pv 2) (pv 6) (fun _ _ => rfl)) pa_nil))))) (pss_one (ps_set (i := 5) sc.nd rfl (Or.inl rfl) (pv 6))) (pss_one (ps_set (i := 4) sc.nd rfl (Or.inl rfl) (pe_op op_add (pv 6) pe_int))))))) (pss_one (ps_expr (pe_bm PySem.F.plainAttrs_list PySem.F.slot_list_insert PySem.F.type_list_insert mt_insert (pv 2) (pa_cons (pv 4) (pa_cons (pv 3) pa_nil)))))))) (pss_one (ps_ret (pv 2))))), ?_⟩
    refine ⟨Nat.zero_le _, fun Fd hFd => ?_⟩
    have s1 : Same H (upd H Fd (.lst [])) := fun b o e => by
      rw [upd_ne (ne_of_none e hFd)]
      exact e
    have lx : xs.length = ps.length := by rw [dpLen hI, List.length_map]
    refine ⟨_, rfl, a, rfl, ⟨_, s1.seq hS⟩, for_list (K := K) (a := a) (xs := xs) (fun i σ H' => ∃ (v3 v4 v5 v6 : Option V) (ys : List V) (qs : List (Nat × List PyData)), σ = [some vo, some (.ref a), some (.ref Fd), v3, v4, v5, v6] ∧ Same H H' ∧ H' Fd = some (.lst ys) ∧ DpAll K H' ys (qs.map pairD) ∧ qs.Perm (ps.take i) ∧ SrtO.Srtd (before os) qs)
      ⟨none, none, none, none, [], [], rfl, s1, upd_same, .nil, by simp, .nil⟩ (fun i σ H' _ ⟨_, _, _, _, _, _, _, sm, _⟩ => sm.seq hS) ?_ ?_⟩
    · rintro i x σ H' hx ⟨v3, v4, v5, v6, ys, qs, rfl, sm, hF, hd, pm, srt⟩
      obtain ⟨d, ed, hdx⟩ := dpGet hI hx
      obtain ⟨p, ep, rfl⟩ : ∃ q, ps[i]? = some q ∧ d = pairD q := by
        rw [List.getElem?_map] at ed
        cases e : ps[i]? with
        | none => rw [e] at ed; cases ed
        | some q => rw [e] at ed; exact ⟨q, rfl, (Option.some.inj ed).symm⟩
      have hpm := List.mem_of_getElem? ep
      have hpr := okp p hpm
      have ly : ys.length = qs.length := by rw [dpLen hd, List.length_map]
      have okq : ∀ q ∈ qs, isRow ks (.tuple q.2) = true := fun q hq => okp q (List.mem_of_mem_take (pm.mem_iff.mp hq))
      have lq : qs.length ≤ 500 := by
        have := pm.length_eq
        rw [List.length_take] at this
        omega
      have ho' := dp_same sm _ ho
      have hx' := dp_same sm _ hdx
      refine ⟨_, rfl, .ref Fd, _, _, rfl, .lst (SqL.of hF) hd, rfl, _, _, rfl, ?_⟩
      have lqm : (qs.map pairD).length = qs.length := List.length_map _
      refine ⟨fun m σ' H2 => ∃ (lo hi : Nat) (v6 : Option V), σ' = [some vo, some (.ref a), some (.ref Fd), some x, some (.int (lo : Nat)), some (.int (hi : Nat)), v6] ∧ H2 = H' ∧ m = hi - lo ∧ lo ≤ hi ∧ hi ≤ qs.length ∧ (∀ j q, j < lo → qs[j]? = some q → before os p q = false) ∧ (∀ j q, hi ≤ j → qs[j]? = some q → before os p q = true),
        ⟨_, 0, qs.length, _, by rw [lqm]; rfl, rfl, rfl, Nat.zero_le _, Nat.le_refl _, (fun j q h => by omega), (fun j q h e => by have := (List.getElem?_eq_some_iff.mp e).1; omega)⟩, ?_⟩
      rintro m σ' H2 ⟨lo, hi, v6, rfl, rfl, rfl, hle, hhi, hA, hB⟩
      refine ⟨_, rfl, _, rfl, _, _, rfl, rfl, _, rfl, ?_⟩
      refine ite2 (fun hlt => ?_) (fun hlt => ?_)
      · have hlt := of_decide_eq_true hlt
        refine ⟨_, fun σ' H2 h => h, ?_⟩
        refine ⟨_, rfl, _, rfl, _, _, rfl, rfl, _, _, rfl, rfl, ⟨by decide, by decide⟩, ?_⟩
        have eh : ((lo : Nat) + (hi : Nat) : Int) / 2 = (((lo + hi) / 2 : Nat) : Int) := by omega
        obtain ⟨hf, ehf⟩ : ∃ hf : Nat, hf = (lo + hi) / 2 := ⟨_, rfl⟩
        simp only [eh, ← ehf]
        have hh : hf < qs.length := by omega
        obtain ⟨vh, evh, hvh⟩ := dpGet' (i := hf) (d := pairD qs[hf]) hd (by rw [List.getElem?_map, List.getElem?_eq_getElem hh]; rfl)
        have hqr := okq qs[hf] (List.getElem_mem hh)
        refine ⟨_, rfl, _, rfl, _, rfl, _, rfl, Fd, ys, _, vh, rfl, rfl, SqL.of hF, atI_nat evh, vo, x, vh, os, p, qs[hf], rfl, ho', hx', hvh, alike_rows ok hpr hqr, _, rfl, ?_⟩
        refine ite2 (fun hb => ?_) (fun hb => ?_)
        · refine ⟨_, rfl, _, ?_, lo, hf, _, rfl, rfl, rfl, by omega, by omega, hA, fun j q hj ej => ?_⟩
          · omega
          · by_cases e : j = hf
            · subst e
              rw [List.getElem?_eq_getElem hh] at ej
              cases ej
              exact hb
            · exact (swo_before os).ltle hb (srtd_get srt (by omega) (List.getElem?_eq_getElem hh) ej)
        · refine ⟨_, rfl, _, _, rfl, rfl, _, ?_, hf + 1, hi, _, rfl, rfl, rfl, by omega, by omega, fun j q hj ej => ?_, hB⟩
          · omega
          · have hb' : before os p qs[hf] = false := by
              cases e : before os p qs[hf] with
              | false => rfl
              | true => exact absurd e hb
            by_cases e : j = hf
            · subst e
              rw [List.getElem?_eq_getElem hh] at ej
              cases ej
              exact hb'
            · exact (swo_before os).tr _ _ _ (srtd_get srt (by omega) ej (List.getElem?_eq_getElem hh)) hb'
      · have hlt2 : ¬ ((lo : Nat) : Int) < ((hi : Nat) : Int) := fun z => hlt (decide_eq_true z)
        have e : hi = lo := by omega
        subst e
        refine ⟨_, rfl, .inl ⟨rfl, _, SqL.of hF⟩, _, rfl, _, rfl, Fd, ys, _, x, rfl, rfl, hF, small1000 (by omega), by omega, by omega, ?_⟩
        rw [Int.toNat_natCast]
        have e1 : ps.take (i + 1) = ps.take i ++ [p] := by rw [List.take_add_one, ep]; rfl
        have okn : ∀ q ∈ qs.take hi ++ [p] ++ qs.drop hi, isRow ks (.tuple q.2) = true := fun q hq => by
          rcases List.mem_append.mp hq with hq | hq
          · rcases List.mem_append.mp hq with hq | hq
            · exact okq q (List.mem_of_mem_take hq)
            · rw [List.mem_singleton.mp hq]; exact hpr
          · exact okq q (List.mem_of_mem_drop hq)
        refine ⟨_, _, _, _, ys.take hi ++ [x] ++ ys.drop hi, qs.take hi ++ [p] ++ qs.drop hi, rfl, fun b o e => ?_, upd_same, dpAll_upd hF _ (pairs_noL okn) ?_, ?_, ?_⟩
        · rw [upd_ne (ne_of_none e hFd)]
          exact sm _ _ e
        · rw [List.map_append, List.map_append]
          exact dpApp (dpApp (dpAll_take' hd hi) (.cons hx' .nil)) (dpAll_drop' hd hi)
        · rw [e1]
          have q1 : (qs.take hi ++ [p] ++ qs.drop hi).Perm (qs ++ [p]) := by
            rw [List.append_assoc]
            have q2 : (qs.take hi ++ ([p] ++ qs.drop hi)).Perm (qs.take hi ++ (qs.drop hi ++ [p])) := List.perm_append_comm.append_left _
            rw [← List.append_assoc, ← List.append_assoc, List.take_append_drop] at q2
            rw [← List.append_assoc]
            exact q2
          exact q1.trans (pm.append_right _)
        · have sp : SrtO.Srtd (before os) (qs.take hi ++ qs.drop hi) := by rw [List.take_append_drop]; exact srt
          obtain ⟨t1, t2, t3⟩ := SrtO.srtd_app.mp sp
          refine SrtO.srtd_app.mpr ⟨SrtO.srtd_snoc t1 fun y hy => ?_, t2, fun y hy z hz => ?_⟩
          · obtain ⟨j, hj, ej⟩ := List.getElem_of_mem hy
            rw [List.getElem_take] at ej
            rw [List.length_take] at hj
            exact hA j y (by omega) (by rw [List.getElem?_eq_getElem (by omega), ej])
          · obtain ⟨j, hj, ej⟩ := List.getElem_of_mem hz
            rw [List.getElem_drop] at ej
            rw [List.length_drop] at hj
            rcases List.mem_append.mp hy with hy | hy
            · exact t3 y hy z hz
            · rw [List.mem_singleton.mp hy]
              exact (swo_before os).asym _ _ (hB (hi + j) z (by omega) (by rw [List.getElem?_eq_getElem (by omega), ej]))
    · rintro σ H' ⟨v3, v4, v5, v6, ys, qs, rfl, sm, hF, hd, pm, srt⟩
      rw [lx, List.take_length] at pm
      exact ⟨_, rfl, k H' Fd ys qs sm hFd hF hd pm srt⟩
end
end RS
set_option Elab.async false
set_option maxRecDepth 100000
set_option maxHeartbeats 4000000
namespace RS
open PySem PySem.Spec PyProof.Rows L2 GX
section
variable {ks : List Bool} {ps : List (Nat × List PyData)}
theorem pair_shape {p : Nat × List PyData} (h : isRow ks (.tuple p.2) = true) : (pairD p).canLay0 = true ∧ (pairD p).depth ≤ 2 := by
  obtain ⟨h1, h2⟩ := row_shape h
  constructor
  · simp only [pairD, PyData.canLay0, PyData.canLayAll0, Bool.and_eq_true]
    refine ⟨trivial, ?_, trivial⟩
    simpa only [PyData.canLay0] using h1
  · simp only [pairD, PyData.depth, PyData.depthAll] at h2 ⊢
    omega
theorem pairs_shaped (h : ∀ p ∈ ps, isRow ks (.tuple p.2) = true) : SeqAt.shaped (.list (ps.map pairD)) = true := by
  unfold SeqAt.shaped
  rw [Bool.and_eq_true]
  refine ⟨?_, decide_eq_true ?_⟩
  · simp only [PyData.canLay0]
    exact canLayAll fun d hd => by
      obtain ⟨r, hr, rfl⟩ := List.mem_map.mp hd
      exact (pair_shape (h r hr)).1
  · simp only [PyData.depth]
    have := depthLe (n := 2) (ds := ps.map pairD) fun d hd => by
      obtain ⟨r, hr, rfl⟩ := List.mem_map.mp hd
      exact (pair_shape (h r hr)).2
    omega
end
end RS
set_option Elab.async false
set_option maxRecDepth 100000
set_option maxHeartbeats 4000000
namespace RS
open PySem PySem.Spec PyProof.Rows L2 GX
theorem few_list {ds : List PyData} (h1 : ds.length ≤ 1000000) (h2 : ∀ d ∈ ds, few d) : few (.list ds) := by
  simp only [few]
  exact ⟨h1, fews_iff.mpr h2⟩
theorem few_tup {ds : List PyData} (h1 : ds.length ≤ 1000000) (h2 : ∀ d ∈ ds, few d) : few (.tuple ds) := by
  simp only [few]
  exact ⟨h1, fews_iff.mpr h2⟩
theorem few_val {b : Bool} {d : PyData} (h : isVal b d = true) : few d := by
  rcases val_atom h with ⟨_, x, rfl⟩ | ⟨_, n, rfl⟩ <;> simp [few]
theorem few_row {ks : List Bool} {r : List PyData} (hk : ks.length ≤ 4) (h : isRow ks (.tuple r) = true) : few (.tuple r) :=
  few_tup (by have := (isRow_get.mp h).1; omega) fun d hd => by
    obtain ⟨b, hv⟩ := row_val h hd
    exact few_val hv
theorem few_pair {ks : List Bool} {p : Nat × List PyData} (hk : ks.length ≤ 4) (h : isRow ks (.tuple p.2) = true) : few (pairD p) :=
  few_tup (by simp) fun d hd => by
    rcases List.mem_cons.mp hd with e | hd
    · rw [e]; simp [few]
    · rw [List.mem_singleton.mp hd]; exact few_row hk h
theorem few_order {os : List (Nat × Bool)} (h : os.length ≤ 1000) : few (orderD os) :=
  few_list (by rw [List.length_map]; omega) fun d hd => by
    obtain ⟨p, _, rfl⟩ := List.mem_map.mp hd
    exact few_tup (by simp) fun d hd => by
      simp at hd
      rcases hd with rfl | rfl <;> simp [few]
theorem few_rows {ks : List Bool} {rs : List (List PyData)} (hk : ks.length ≤ 4) (h1 : rs.length ≤ 1000) (h : ∀ r ∈ rs, isRow ks (.tuple r) = true) : few (rowsD rs) :=
  few_list (by rw [List.length_map]; omega) fun d hd => by
    obtain ⟨r, hr, rfl⟩ := List.mem_map.mp hd
    exact few_row hk (h r hr)
theorem srtd_uniq {α : Type} {lt : α → α → Bool} : ∀ {l m : List α}, l.Perm m → SrtO.Srtd lt l → SrtO.Srtd lt m → (∀ x y, x ∈ l → y ∈ l → lt x y = false → lt y x = false → x = y) → l = m
  | [], m, p, _, _, _ => (p.symm.eq_nil).symm
  | x :: l, [], p, _, _, _ => absurd p.length_eq (by simp)
  | x :: l, y :: m, p, h1, h2, U => by
    have hx : x ∈ y :: m := p.mem_iff.mp List.mem_cons_self
    have hy : y ∈ x :: l := p.mem_iff.mpr List.mem_cons_self
    have exy : x = y := by
      rcases List.mem_cons.mp hx with e | hx
      · exact e
      · rcases List.mem_cons.mp hy with e | hy'
        · exact e.symm
        · exact U x y List.mem_cons_self (List.mem_cons_of_mem _ hy') (SrtO.srtd_head h2 x hx) (SrtO.srtd_head h1 y hy')
    subst exy
    rw [srtd_uniq (List.Perm.cons_inv p) (List.pairwise_cons.mp h1).2 (List.pairwise_cons.mp h2).2 fun a b ha hb => U a b (List.mem_cons_of_mem _ ha) (List.mem_cons_of_mem _ hb)]
theorem enumP_num {α : Type} {l : List α} {p q : Nat × α} (hp : p ∈ enumP 0 l) (hq : q ∈ enumP 0 l) (e : p.1 = q.1) : p = q := by
  obtain ⟨i, hi, ei⟩ := List.getElem_of_mem hp
  obtain ⟨j, hj, ej⟩ := List.getElem_of_mem hq
  have e1 : (enumP 0 l)[i]? = some p := by rw [List.getElem?_eq_getElem hi, ei]
  have e2 : (enumP 0 l)[j]? = some q := by rw [List.getElem?_eq_getElem hj, ej]
  rw [enumP_get] at e1 e2
  cases q1 : l[i]? with
  | none => rw [q1] at e1; cases e1
  | some x =>
    cases q2 : l[j]? with
    | none => rw [q2] at e2; cases e2
    | some y =>
      rw [q1] at e1
      rw [q2] at e2
      cases e1
      cases e2
      have ij : i = j := by simpa using e
      subst ij
      rw [q1] at q2
      cases q2
      rfl
theorem before_tot {os : List (Nat × Bool)} {rs : List (List PyData)} : ∀ x y, x ∈ enumP 0 rs → y ∈ enumP 0 rs → before os x y = false → before os y x = false → x = y := fun x y hx hy h1 h2 => enumP_num hx hy (rank_num (rank_ne h1 h2))
end RS
set_option Elab.async false
set_option maxRecDepth 100000
set_option maxHeartbeats 8000000
set_option pp.maxSteps 400
namespace RS
open PySem PySem.Spec PyProof.Rows L2 GX HQ LM
/-! ### frames that leave the tables out -/
def FrD (H H' : Hp) (A : List Addr) : Prop := ∀ b o, H b = some o → b ∉ A → (∀ ps, o ≠ .tbl ps) → H' b = some o
theorem FrD.of {H H' : Hp} {A : List Addr} (s : Same H H') : FrD H H' A := fun b o e _ _ => s b o e
theorem FrD.ext {H H' : Hp} {A : List Addr} (s : LamX.ExtN H H') : FrD H H' A := fun b o e _ n => s b o e n
theorem FrD.trans {H H1 H2 : Hp} {A : List Addr} (a : FrD H H1 A) (b : FrD H1 H2 A) : FrD H H2 A := fun c o e n t => b c o (a c o e n t) n t
theorem FrD.mono {H H1 : Hp} {A A' : List Addr} (a : FrD H H1 A) (h : ∀ b ∈ A, b ∈ A') : FrD H H1 A' := fun c o e n t => a c o e (fun z => n (h c z)) t
theorem FrD.x {H H' : Hp} {B L : Addr} (s : SameX B L H H') : FrD H H' [B, L] := fun b o e n _ => s b o (fun z => n (by simp [z])) (fun z => n (by simp [z])) e
theorem FrD.upd {H : Hp} {a : Addr} {o : HO} {A : List Addr} (h : a ∈ A) : FrD H (upd H a o) A := fun b u e n _ => (upd_ne fun z => n (by rw [z]; exact h)).trans e
def FrA (H H' : Hp) (A : List Addr) : Prop := ∀ b o, H b = some o → b ∉ A → H' b = some o
theorem FrA.d {H H' : Hp} {A : List Addr} (f : FrA H H' A) : FrD H H' A := fun b o e n _ => f b o e n
theorem FrA.of {H H' : Hp} {A : List Addr} (s : Same H H') : FrA H H' A := fun b o e _ => s b o e
theorem FrA.trans {H H1 H2 : Hp} {A : List Addr} (a : FrA H H1 A) (b : FrA H1 H2 A) : FrA H H2 A := fun c o e n => b c o (a c o e n) n
theorem FrA.mono {H H1 : Hp} {A A' : List Addr} (a : FrA H H1 A) (h : ∀ b ∈ A, b ∈ A') : FrA H H1 A' := fun c o e n => a c o e fun z => n (h c z)
theorem FrA.x {H H' : Hp} {B L : Addr} (s : SameX B L H H') : FrA H H' [B, L] := fun b o e n => s b o (fun z => n (by simp [z])) (fun z => n (by simp [z])) e
theorem FrA.upd {H : Hp} {a : Addr} {o : HO} {A : List Addr} (h : a ∈ A) : FrA H (upd H a o) A := fun b u e n => (upd_ne fun z => n (by rw [z]; exact h)).trans e
theorem FrA.v {H H' : Hp} {x G : Addr} (f : Frv H H' x G) : FrA H H' [x, G] := fun b o e n => f b o e (fun z => n (by simp [z])) (fun z => n (by simp [z]))
def KpN (H H' : Hp) : Prop := ∀ b o, H b = some o → (∀ xs, o ≠ .lst xs) → (∀ C dx fs, o ≠ .ins C dx fs) → (∀ ps, o ≠ .tbl ps) → H' b = some o
theorem dp_kpN {K : PySem.W.Frag} {H H' : Hp} (k : KpN H H') (d : PyData) {v : V} (n : noL d = true) (h : Dp K H v d) : Dp K H' v d :=
  dp_kp (H := noT H) (fun b o e n1 n2 => k b o (noT_of e).1 n1 n2 (noT_of e).2) d n (dp_noT d h)
def Mutb (H : Hp) (a : Addr) : Prop := ∀ o, H a = some o → (∃ xs, o = .lst xs) ∨ ∃ C dx fs, o = .ins C dx fs
theorem FrD.kpN {H H' : Hp} {A : List Addr} (f : FrD H H' A) (m : ∀ a ∈ A, Mutb H a) : KpN H H' := fun b o e n1 n2 n3 => f b o e (fun z => by
  rcases m b z o e with ⟨xs, y⟩ | ⟨C, dx, fs, y⟩
  · exact n1 xs y
  · exact n2 C dx fs y) n3
theorem mutb_lst {H : Hp} {a : Addr} {xs : List V} (h : H a = some (.lst xs)) : Mutb H a := fun o e => .inl ⟨xs, by rw [h] at e; exact (Option.some.inj e).symm⟩
theorem mutb_ins {H : Hp} {a C dx : Addr} {fs : List (Str × V)} (h : H a = some (.ins C dx fs)) : Mutb H a := fun o e => .inr ⟨C, dx, fs, by rw [h] at e; exact (Option.some.inj e).symm⟩
theorem dpAll_kpN {K : PySem.W.Frag} {H H' : Hp} (k : KpN H H') : ∀ {ds : List PyData} {xs : List V}, (∀ d ∈ ds, noL d = true) → DpAll K H xs ds → DpAll K H' xs ds
  | [], _, _, .nil => .nil
  | d :: ds, _, n, .cons h t => .cons (dp_kpN k d (n d List.mem_cons_self) h) (dpAll_kpN k (fun e he => n e (List.mem_cons_of_mem _ he)) t)
theorem tabS_mut {H H' : Hp} {P : Addr} {q : Str} {A : List Addr} (f : FrA H H' A) (m : ∀ a ∈ A, Mutb H a) (t : LamX.TabS H P q) : LamX.TabS H' P q := by
  have no : ∀ {a : Addr} {o : HO}, H a = some o → (∀ xs, o ≠ .lst xs) → (∀ C dx fs, o ≠ .ins C dx fs) → a ∉ A := fun {a o} e n1 n2 z => by
    rcases m a z o e with ⟨xs, y⟩ | ⟨C, dx, fs, y⟩
    · exact n1 xs y
    · exact n2 C dx fs y
  obtain ⟨ps, h1, h2, h3⟩ := t
  refine ⟨ps, f _ _ h1 (no h1 (fun xs z => nomatch z) fun C dx fs z => nomatch z), h2, fun pos cv hc => ?_⟩
  obtain ⟨c, e1, e2⟩ := h3 pos cv hc
  refine ⟨c, e1, f _ _ e2 (no e2 (fun xs z => ?_) fun C dx fs z => ?_)⟩
  · unfold LamX.CodeO at z
    cases z
  · unfold LamX.CodeO at z
    cases z
theorem SvAt.moveN {K : PySem.W.Frag} {C : Addr} {ks : List Bool} {os : List (Nat × Bool)} {H0 H H2 : Hp} {x G : Addr} {n : Nat} {gq : List Pr} (h : SvAt K C ks os H0 H x G n gq) (k : KpN H H2) (s : Same H0 H2) (ex : H2 x = H x) (eg : H2 G = H G) : SvAt K C ks os H0 H2 x G n gq := by
  obtain ⟨dx, vk, vo, hx, hk, ho⟩ := h.ob
  obtain ⟨zs, hg, F⟩ := h.g
  exact ⟨s, h.x0, h.g0, h.oz, ⟨dx, vk, vo, ex.trans hx, hk, ho⟩, ⟨zs, ⟨eg.trans hg.g, hg.gd, fun z hz => by
    obtain ⟨q, hq, e'⟩ := hg.zq hz
    exact dp_kpN k _ (by rw [e']; exact item_noL (h.gok q hq).2) (hg.zd z hz)⟩, F⟩, h.gok⟩
/-! ### one side of the law -/
structure SideAt (K : PySem.W.Frag) (C : Addr) (ks : List Bool) (os : List (Nat × Bool)) (rs : List (List PyData)) (Hc H : Hp) (S x G Lf : Addr) (n : Nat) (gq : List Pr) : Prop where
  s : H S = some (.lst [.ref x, .ref Lf, .int (n : Nat)])
  sv : SvAt K C ks os Hc H x G n gq
  l : ∃ (xs : List V) (ps : List Pr), H Lf = some (.lst xs) ∧ DpAll K H xs (ps.map pairD) ∧ ps.Perm gq ∧ SrtO.Srtd (before os) ps
  mem : ∀ p ∈ gq, p ∈ enumP 0 rs
  le : n ≤ rs.length
  gl : gq.length ≤ n
  sc : Hc S = none
  lc : Hc Lf = none
  nSL : S ≠ Lf
  nSG : S ≠ G
  nLG : Lf ≠ G
theorem SideAt.other {K : PySem.W.Frag} {C : Addr} {ks : List Bool} {os : List (Nat × Bool)} {rs : List (List PyData)} {Hc H H' : Hp} {S x G Lf : Addr} {n : Nat} {gq : List Pr} {A : List Addr} (h : SideAt K C ks os rs Hc H S x G Lf n gq) (f : FrD H H' A) (nA : S ∉ A ∧ x ∉ A ∧ G ∉ A ∧ Lf ∉ A)
    (mA : ∀ a ∈ A, Hc a = none ∧ Mutb H a) (nt : ∀ b ps, Hc b ≠ some (.tbl ps)) (okr : ∀ r ∈ rs, isRow ks (.tuple r) = true) : SideAt K C ks os rs Hc H' S x G Lf n gq := by
  obtain ⟨xs, ps, hl, hd, pm, srt⟩ := h.l
  obtain ⟨dx, vk, vo, hx, _⟩ := h.sv.ob
  obtain ⟨zs, hg, _⟩ := h.sv.g
  have kp := f.kpN fun a ha => (mA a ha).2
  have lst : ∀ {a : Addr} {ys : List V}, a ∉ A → H a = some (.lst ys) → H' a = some (.lst ys) := fun {a ys} na e => f a _ e na fun ps z => nomatch z
  refine ⟨lst nA.1 h.s, h.sv.moveN kp (fun b o e => f b o (h.sv.same b o e) (fun z => by rw [(mA b z).1] at e; cases e) fun ps z => nt b ps (by rw [e, z])) ?_ ?_, ⟨xs, ps, lst nA.2.2.2 hl, ?_, pm, srt⟩, h.mem, h.le, h.gl, h.sc, h.lc, h.nSL, h.nSG, h.nLG⟩
  · rw [hx]
    exact f x _ hx nA.2.1 fun ps z => nomatch z
  · rw [hg.g]
    exact lst nA.2.2.1 hg.g
  · have : ∀ p ∈ ps, noL (pairD p) = true := fun p hp => pair_noL (h.sv.gok p (pm.mem_iff.mp hp)).2
    clear pm srt hl
    induction ps generalizing xs with
    | nil => cases hd; exact .nil
    | cons p ps ih =>
      cases hd with
      | cons h1 h2 => exact .cons (dp_kpN kp _ (this p List.mem_cons_self) h1) (ih _ h2 fun q hq => this q (List.mem_cons_of_mem _ hq))
theorem head_eq {os : List (Nat × Bool)} {rs : List (List PyData)} {gq gq' ps' : List Pr} {q p0 : Pr} (pq : gq.Perm (q :: gq')) (mn : ∀ y ∈ gq', before os y q = false) (pm : (p0 :: ps').Perm gq) (srt : SrtO.Srtd (before os) (p0 :: ps')) (mem : ∀ p ∈ gq, p ∈ enumP 0 rs) : q = p0 ∧ ps'.Perm gq' := by
  have e : q = p0 := by
    by_cases e : q = p0
    · exact e
    · have hq : q ∈ gq := pq.mem_iff.mpr List.mem_cons_self
      have hp : p0 ∈ gq := pm.mem_iff.mp List.mem_cons_self
      have q1 : q ∈ ps' := (List.mem_cons.mp (pm.mem_iff.mpr hq)).resolve_left e
      have p1 : p0 ∈ gq' := (List.mem_cons.mp (pq.mem_iff.mp hp)).resolve_left fun z => e z.symm
      have b1 : before os q p0 = false := (List.pairwise_cons.mp srt).1 q q1
      exact before_tot (rs := rs) q p0 (mem q hq) (mem p0 hp) b1 (mn p0 p1)
  subst e
  exact ⟨rfl, (pm.trans pq).cons_inv⟩
theorem passX0 {P : Program} {w : World} {X : Cx} : Passes (L2.CX P w) X E0 := fun _ _ _ _ _ _ _ h => by
  obtain ⟨_, _, _, _, _, _, _, _, _, _, _, _, z⟩ := h
  exact z.elim
end RS
set_option Elab.async false
set_option maxRecDepth 100000
set_option maxHeartbeats 8000000
set_option pp.maxSteps 400
namespace RS
open PySem PySem.Spec PyProof.Rows L2 GX HQ LM
abbrev qD : Str := (envOfC "_law_deed" (defScope sDeed) 0 0 (.ref 0)).qual ++ "<lambda>"
/-- an error class as the law looks at it -/
structure ErrC (K : PySem.W.Frag) (SE : Addr) (C15 : Nat → Addr) (D : Addr) (j : Nat) : Prop where
  own : Own15 K C15 D j
  exm : PySem.W.exmOne K (.ref D) (.ref SE) = some true
theorem box_ext {H H' : Hp} {B L : Addr} (b : BoxAt H B L) (s : LamX.ExtN H H') : BoxAt H' B L := by
  obtain ⟨n, ⟨st, hb⟩, ⟨ms, hl⟩⟩ := b
  exact ⟨n, ⟨st, s _ _ hb fun ps z => nomatch z⟩, ⟨ms, s _ _ hl fun ps z => nomatch z⟩⟩
section
variable {P : Program} {w : World} {K : PySem.W.Frag} {mg : Str → Option Value} {base : Heap}
theorem scDeed : FnScope ["_law_box", "_law_kinds_here", "_law_order_here", "_law_rows_here", "_law_side", "_law_sieve", "_law_left", "_law_many", "_law_way", "_law_odd", "_law_kind"] ["_law_box", "_law_kinds_here", "_law_order_here", "_law_rows_here", "_law_side"] (defScope sDeed) := ⟨rfl, rfl, rfl, by decide +kernel, rfl, by decide +kernel, by decide +kernel⟩
def spDeed (K : PySem.W.Frag) (C pW pR pD : Addr) : Sp := fun vs H Q _ => ∃ (B L S x G Lf : Addr) (vk vo vr : V) (ks : List Bool) (os : List (Nat × Bool)) (rs : List (List PyData)) (Hc : Hp) (n : Nat) (gq : List Pr), vs = [.ref B, vk, vo, vr, .ref S] ∧ BoxAt H B L ∧ Hc B = none ∧ Hc L = none ∧
  Dp K Hc vk (kindsD ks) ∧ Dp K Hc vo (orderD os) ∧ Dp K Hc vr (rowsD rs) ∧ 1 ≤ ks.length ∧ ks.length ≤ 4 ∧ OkOrder ks.length os ∧ rs.length ≤ 120 ∧ (∀ r ∈ rs, isRow ks (.tuple r) = true) ∧ (∀ b ps, Hc b ≠ some (.tbl ps)) ∧
  SideAt K C ks os rs Hc H S x G Lf n gq ∧ (S ≠ B ∧ S ≠ L) ∧ (G ≠ B ∧ G ≠ L) ∧ (Lf ≠ B ∧ Lf ≠ L) ∧ Tab Hc pW ∧ Tab Hc pR ∧ LamX.TabS H pD qD ∧
  ∀ (H' : Hp) (Lf' : Addr) (n' : Nat) (gq' : List Pr), BoxAt H' B L → SideAt K C ks os rs Hc H' S x G Lf' n' gq' → (Lf' = Lf ∨ H Lf' = none) → FrD H H' [B, L, S, x, G, Lf] → LamX.TabS H' pD qD → Q (.bl true) H'
theorem deed_ok {c C CR CE SE pW pR pD : Addr} {C15 : Nat → Addr} (D : DefAt K mg "_law_deed" sDeed c) (T : Txt K mg) (TB : LamX.TabB base mg c pD) (eR : ErrC K SE C15 CR 2) (xR : XfC K CR) (nR : PySem.W.findIn K (.ref CR) "place" = some none) (eE : ErrC K SE C15 CE 13)
    (cT : Cal P w K mg base CX0 1 "_law_take" ["_law_box", "_law_many"] spTake) (cV : Cal P w K mg base CX0 2 "_law_value" ["_law_box", "_law_kind"] (spValueL K)) (cB : Cal P w K mg base CX0 3 "_law_bad_row" ["_law_box", "_law_kinds_here", "_law_row"] (spBadRow K))
    (cS : Cal P w K mg base CX0 2 "_law_sorted" ["_law_order_here", "_law_pairs_here"] (spSorted K)) (cA : Cal P w K mg base CX0 42 "_law_alike" ["_law_found", "_law_due"] (spAlike K 40)) (cAll : Cal P w K mg base CX0 43 "_law_all" ["_law_works", "_law_due"] (spAll P w K mg base SE C15 7))
    (cP : MetC P w K mg base (L2.CX P w) 6 C "put" ["self", "row"] (spSvPut K C CR pW pR)) (cTk : MetC P w K mg base (L2.CX P w) 1 C "take" ["self"] (spSvTake K C CE)) :
    Cal P w K mg base CX0 44 "_law_deed" ["_law_box", "_law_kinds_here", "_law_order_here", "_law_rows_here", "_law_side"] (spDeed K C pW pR pD) := by
  have sc := scDeed
  refine def_ok0 D sc (fun vs H Q E h => ?_) (fun _ _ _ _ _ _ us hl => match us, hl with | [_, _, _, _, _], _ => rfl) (fun f A outer s H vs Q E hr h => ?_)
  · obtain ⟨B, L, S, x, G, Lf, vk, vo, vr, ks, os, rs, Hc, n, gq, rfl, _⟩ := h
    rfl
  · obtain ⟨B, L, S, x, G, Lf, vk, vo, vr, ks, os, rs, Hc, n, gq, rfl, hb, cB0, cL0, hk, ho, hrw, k1, k4, oko, r120, okr, nt, sd, ⟨nSB, nSL⟩, ⟨nGB, nGL⟩, ⟨nLB, nLL⟩, tW, tR, tD, kk⟩ := h
    have hu := hr.units
    refine ⟨_, (pss_cons (ps_asg (pv 4) (pg_lst rfl (pgs_cons (pg_name (i := 5) sc.nd rfl (Or.inr rfl)) (pgs_cons (pg_name (i := 6) sc.nd rfl (Or.inl rfl)) (pgs_cons (pg_name (i := 7) sc.nd rfl (Or.inl rfl)) pgs_nil))))) (pss_cons (ps_set (i := 8) sc.nd rfl (Or.inl rfl) (pe_c cT hr (by decide) (by rfl) pass0 (pa_cons (pv 0) (pa_cons pe_int pa_nil)))) (pss_cons (ps_if ((pw_and (pt_cmpR op_lt (pv 8) pe_int (nomark _)) (pw_and1 (pt_cmpR op_lt (pv 7) (pe_callB call_lenD (by rfl) T.len PySem.boot_len (pa_cons (pv 3) pa_nil)) (nomark _)))).pt) (pss_cons (ps_asg (pe_c cS hr (by decide) (by rfl) pass0 (pa_cons (pv 2) (pa_cons (pe_op op_cat (pv 6) (pe_lst (pa_cons (pe_tup (pa_cons (pv 7) (pa_cons (pe_ix ixD (pv 3) (pv 7) (fun _ _ => rfl)) pa_nil))) pa_nil))) pa_nil))) (pg_sub (pv 4) pe_int set_list)) (pss_cons (ps_asg (pe_op op_add (pv 7) pe_int) (pg_sub (pv 4) pe_int set_list)) (pss_one (ps_ret (pe_c cA hr (by decide) (by rfl) pass0 (pa_cons (pe_m cP hr (by decide) passX0 (pv 5) (pa_cons (pe_ix ixD (pv 3) (pv 7) (fun _ _ => rfl)) pa_nil)) (pa_cons (pv 7) pa_nil))))))) pss_nil) (pss_cons (ps_if (pt_cmpR op_eq (pv 8) pe_int (nomark _)) (pss_cons (ps_set (i := 9) sc.nd rfl (Or.inr rfl) (pe_c cB hr (by decide) (by rfl) pass0 (pa_cons (pv 0) (pa_cons (pv 1) (pa_cons (pe_callTy call_tuple_of (by rfl) T.tuple_ (by decide +kernel) (pa_cons (pe_lc (own := [("_law_kind", 10)]) (tt := tYes)  rfl sc.nd (pi_tup (pv 1)) (blkOk_by (N := ["_law_box", "_law_kinds_here", "_law_order_here", "_law_rows_here", "_law_side", "_law_sieve", "_law_left", "_law_many", "_law_way", "_law_odd", "_law_kind"]) (sc := defScope sDeed) (own := [("_law_kind", 10)]) (by decide +kernel)) (fun _ _ _ _ _ => (pg_name (i := 10) sc.nd rfl (Or.inl rfl))) (fun _ _ _ _ _ => pts_nil) (fun _ _ _ _ _ => (pe_c cV hr (by decide) (by rfl) pass0 (pa_cons (pv 0) (pa_cons (pv 10) pa_nil))))) pa_nil)) pa_nil))))) (pss_one (ps_ret (pe_cP cAll hr (by decide) (fun _ => rfl) (by rfl) (pa_cons (pe_lst (pa_cons (pe_lam TB rfl (LamX.lamS_by (sc := defScope sDeed) (by decide +kernel)) (by rfl)) pa_nil)) (pa_cons (pe_tup (pa_cons pe_str (pa_cons pe_int pa_nil))) pa_nil)))))) pss_nil) (pss_cons (ps_if (pt_cmpR (op_eqD hu) (pv 6) (pe_lst pa_nil) (nomark _)) (pss_one (ps_ret (pe_cP cAll hr (by decide) (fun _ => rfl) (by rfl) (pa_cons (pe_lst (pa_cons (pe_lam TB rfl (LamX.lamS_by (sc := defScope sDeed) (by decide +kernel)) (by rfl)) pa_nil)) (pa_cons (pe_tup (pa_cons pe_str (pa_cons pe_int pa_nil))) pa_nil))))) pss_nil) (pss_one (ps_ret (pe_c cA hr (by decide) (by rfl) pass0 (pa_cons (pe_m0 cTk hr (by decide) passX0 (pv 5)) (pa_cons (pe_bm PySem.F.plainAttrs_list PySem.F.slot_list_pop PySem.F.type_list_pop mt_popAt (pv 6) (pa_cons pe_int pa_nil)) pa_nil)))))))))), ?_⟩
    obtain ⟨dx, vk', vo', hx, _⟩ := sd.sv.ob
    have nxl : ∀ {a : Addr} {xs : List V} , H a = some (.lst xs) → x ≠ a := fun {a xs} e z => by rw [z, e] at hx; cases hx
    have mBL : ∀ {H2 : Hp}, BoxAt H2 B L → ∀ a ∈ [B, L], Hc a = none ∧ Mutb H2 a := fun {H2} b a ha => by
      obtain ⟨_, ⟨st, hB⟩, ⟨ms, hL⟩⟩ := b
      rcases List.mem_cons.mp ha with e | ha
      · rw [e]; exact ⟨cB0, mutb_lst hB⟩
      · rw [List.mem_singleton.mp ha]; exact ⟨cL0, mutb_lst hL⟩
    have xBL : x ≠ B ∧ x ≠ L := by
      obtain ⟨_, ⟨st, hB⟩, ⟨ms, hL⟩⟩ := hb
      exact ⟨nxl hB, nxl hL⟩
    have nBL : S ∉ [B, L] ∧ x ∉ [B, L] ∧ G ∉ [B, L] ∧ Lf ∉ [B, L] := ⟨by simp [nSB, nSL], by simp [xBL.1, xBL.2], by simp [nGB, nGL], by simp [nLB, nLL]⟩
    have big : (1000 : Nat) ≤ sizeLine := by decide
    have gq120 : gq.length ≤ 120 := Nat.le_trans sd.gl (Nat.le_trans sd.le r120)
    refine ⟨_, rfl, S, _, rfl, SqL.of sd.s, rfl, _, _, rfl, _, _, rfl, _, _, rfl, rfl, ?_⟩
    refine ⟨_, rfl, B, L, 6, rfl, hb, by decide, by decide, fun H1 way s1 b1 w0 w1 => ?_⟩
    have f1 : FrA H H1 [B, L] := .x s1
    have sd1 := sd.other f1.d nBL (mBL hb) nt okr
    have hx1 := f1 _ _ hx nBL.2.1
    have tD1 : LamX.TabS H1 pD qD := tabS_x hb s1 tD
    have sc1 := sd1.sv.same
    obtain ⟨xs, ps, hl1, hd1, pm, srt⟩ := sd1.l
    have lps : ps.length = gq.length := pm.length_eq
    have okp : ∀ p ∈ ps, isRow ks (.tuple p.2) = true := fun p hp => (sd.sv.gok p (pm.mem_iff.mp hp)).2
    have lxs : xs.length = ps.length := by rw [dpLen hd1, List.length_map]
    have big6 : ∀ b ∈ [B, L], b ∈ [B, L, S, x, G, Lf] := fun b hb => by
      rcases List.mem_cons.mp hb with e | hb
      · simp [e]
      · simp [List.mem_singleton.mp hb]
    by_cases hw3 : way < 3 ∧ n < rs.length
    · obtain ⟨hw3, hn⟩ := hw3
      refine ⟨_, rfl, _, _, rfl, rfl, _, rfl, ?_⟩
      refine iteT' (decide_eq_true hw3) ?_
      refine ⟨_, rfl, _, rfl, vr, _, _, rfl, dp_same sc1 _ hrw, rfl, _, _, rfl, rfl, _, rfl, ?_⟩
      refine iteT' (decide_eq_true (by rw [List.length_map]; omega)) ?_
      obtain ⟨r, er⟩ : ∃ r, rs[n]? = some r := ⟨_, List.getElem?_eq_getElem hn⟩
      have okn := okr r (List.mem_of_getElem? er)
      have erD : (rs.map PyData.tuple)[n]? = some (.tuple r) := by rw [List.getElem?_map, er]; rfl
      refine ⟨_, rfl, _, rfl, _, rfl, _, rfl, _, rfl, _, _, _, _, dp_same sc1 _ hrw, rfl, rfl, atI_nat erD, fun vrow hvrow => ?_⟩
      refine ⟨by show 2 ≤ sizeLine; decide, fun t1 ht1 => ?_⟩
      have s2 := sameNew (o := .tup [.int (n : Nat), vrow]) (Same.refl H1) ht1
      have hT1 : Dp K (upd H1 t1 (.tup [.int (n : Nat), vrow])) (.ref t1) (pairD (n, r)) := .tup (SqT.of upd_same) (.cons (.int _) (.cons (dp_same s2 _ hvrow) .nil))
      generalize upd H1 t1 (.tup [.int (n : Nat), vrow]) = H2 at s2 hT1 ⊢
      refine ⟨by show 1 ≤ sizeLine; decide, fun l1 hl1n => ?_⟩
      have s3 := sameNew (o := .lst [.ref t1]) s2 hl1n
      have hl1' : upd H2 l1 (.lst [.ref t1]) l1 = some (.lst [.ref t1]) := upd_same
      have hT3 := dp_same (sameNew (o := .lst [.ref t1]) (Same.refl H2) hl1n) _ hT1
      generalize upd H2 l1 (.lst [.ref t1]) = H3 at s3 hl1' hT3 ⊢
      refine ⟨Lf, l1, xs, _, rfl, rfl, s3 _ _ hl1, hl1', by show xs.length + 1 ≤ sizeLine; omega, fun l2 hl2 => ?_⟩
      have s4 := sameNew (o := .lst (xs ++ [.ref t1])) s3 hl2
      have h4 : upd H3 l2 (.lst (xs ++ [.ref t1])) l2 = some (.lst (xs ++ [.ref t1])) := upd_same
      have hT4 := dp_same (sameNew (o := .lst (xs ++ [.ref t1])) (Same.refl H3) hl2) _ hT3
      generalize upd H3 l2 (.lst (xs ++ [.ref t1])) = H4 at s4 h4 hT4 ⊢
      refine ⟨vo, l2, _, ks, os, ps ++ [(n, r)], rfl, dp_same (sc1.trans s4) _ ho, SqL.of h4, by rw [List.map_append]; exact dpApp (dpAll_same s4 _ hd1) (.cons hT4 .nil), oko, fun p hp => ?_, by rw [List.length_append, List.length_singleton]; omega, fun H5 p5 ys qs s5 hp5 hL5 hd5 pm5 srt5 => ?_⟩
      · rcases List.mem_append.mp hp with hp | hp
        · exact okp p hp
        · rw [List.mem_singleton.mp hp]; exact okn
      have s15 := s4.trans s5
      have hS5 := s15 _ _ sd1.s
      have hp5H1 : H1 p5 = none := s4.free hp5
      refine ⟨_, rfl, S, _, _, 1, rfl, rfl, hS5, rfl, ?_⟩
      refine ⟨_, rfl, _, _, rfl, rfl, _, rfl, S, _, _, 2, rfl, rfl, upd_same, rfl, ?_⟩
      rw [upd_upd]
      have hS6 : upd H5 S (.lst (([V.ref x, .ref Lf, .int (n : Nat)].set 1 (.ref p5)).set 2 (.int ((n : Nat) + 1)))) S = some (.lst [.ref x, .ref p5, .int ((n + 1 : Nat) : Int)]) := upd_same
      have f6 : FrA H1 (upd H5 S (.lst (([V.ref x, .ref Lf, .int (n : Nat)].set 1 (.ref p5)).set 2 (.int ((n : Nat) + 1))))) [S] := (FrA.of s15).trans (.upd (by simp))
      have f56 : FrA H5 (upd H5 S (.lst (([V.ref x, .ref Lf, .int (n : Nat)].set 1 (.ref p5)).set 2 (.int ((n : Nat) + 1))))) [S] := .upd (by simp)
      have hL6 : upd H5 S (.lst (([V.ref x, .ref Lf, .int (n : Nat)].set 1 (.ref p5)).set 2 (.int ((n : Nat) + 1)))) p5 = some (.lst ys) := (upd_ne fun z => by rw [← z, hL5] at hS5; rw [z, sd1.s] at hp5H1; cases hp5H1).trans hL5
      generalize upd H5 S (.lst (([V.ref x, .ref Lf, .int (n : Nat)].set 1 (.ref p5)).set 2 (.int ((n : Nat) + 1)))) = H6 at hS6 f6 f56 hL6 ⊢
      have m6 : ∀ a ∈ [S], Hc a = none ∧ Mutb H1 a := fun a ha => by
        rw [List.mem_singleton.mp ha]
        exact ⟨sd1.sc, mutb_lst sd1.s⟩
      have nxS : x ≠ S := fun z => by rw [z, sd1.s] at hx1; cases hx1
      have hx6 := f6 _ _ hx1 (by simp [nxS])
      obtain ⟨zs, hg1, _⟩ := sd1.sv.g
      have kp6 := f6.d.kpN fun a ha => (m6 a ha).2
      have sc6 : Same Hc H6 := fun b o e => f6 b o (sc1 b o e) fun z => by rw [(m6 b z).1] at e; cases e
      have sv6 := sd1.sv.moveN kp6 sc6 (hx6.trans hx1.symm) ((f6 _ _ hg1.g (by simp [Ne.symm sd1.nSG])).trans hg1.g.symm)
      have nxp : x ≠ p5 := fun z => by rw [z, hp5H1] at hx1; cases hx1
      have nGp : G ≠ p5 := fun z => by rw [← z, hg1.g] at hp5H1; cases hp5H1
      have nSp : S ≠ p5 := fun z => by rw [← z, sd1.s] at hp5H1; cases hp5H1
      refine ⟨_, rfl, x, dx, _, rfl, hx6, fs_no (by decide +kernel) (by decide +kernel) (by decide +kernel) (by decide +kernel), ?_⟩
      refine ⟨_, rfl, _, rfl, _, _, _, _, dp_same sc6 _ hrw, rfl, rfl, atI_nat erD, fun vrow2 hv2 => ?_⟩
      refine ⟨x, G, vrow2, .tuple r, ks, os, Hc, n, gq, rfl, sv6, hv2, row_fit k4 okn, by omega, sc6 _ _ tW, sc6 _ _ tR, by omega, .inr ⟨r, rfl, by omega, okn, row_fits okn oko, fun H7 gq' sv7 pq fr7 => ?_⟩⟩
      refine ⟨_, rfl, .int (n : Nat), .int (n : Nat), .int (n : Nat), rfl, .int _, .int _, by simp [few], by simp [PyData.depth], ?_⟩
      have f67 : FrA H6 H7 [x, G] := .v fr7
      have m67 : ∀ a ∈ [x, G], Mutb H6 a := fun a ha => by
        rcases List.mem_cons.mp ha with e | ha
        · rw [e]; exact mutb_ins hx6
        · rw [List.mem_singleton.mp ha]
          obtain ⟨zs', hg', _⟩ := sv6.g
          exact mutb_lst hg'.g
      have fall : FrA H H7 [B, L, S, x, G, Lf] := ((f1.mono big6).trans (f6.mono (by simp))).trans (f67.mono (by simp))
      have eq : (enumP 0 rs)[n]? = some (n, r) := by rw [enumP_get, er]; simp
      have bx : BoxAt H7 B L := by
        obtain ⟨_, ⟨st, hB⟩, ⟨ms, hL⟩⟩ := b1
        have q1 : B ∉ [S] ∧ L ∉ [S] := ⟨by simp [Ne.symm nSB], by simp [Ne.symm nSL]⟩
        have q2 : B ∉ [x, G] ∧ L ∉ [x, G] := ⟨by simp [Ne.symm xBL.1, Ne.symm nGB], by simp [Ne.symm xBL.2, Ne.symm nGL]⟩
        exact ⟨‹B ≠ L›, ⟨st, f67 _ _ (f6 _ _ hB q1.1) q2.1⟩, ⟨ms, f67 _ _ (f6 _ _ hL q1.2) q2.2⟩⟩
      refine kk H7 p5 (n + 1) gq' bx ⟨f67 _ _ hS6 (by simp [Ne.symm nxS, sd1.nSG]), sv7, ⟨ys, qs, f67 _ _ hL6 (by simp [Ne.symm nxp, Ne.symm nGp]), ?_, ?_, srt5⟩, fun p hp => ?_, by omega, by rw [pq.length_eq, List.length_cons]; have := sd1.gl; omega, sd1.sc, sc1.free hp5H1, nSp, sd1.nSG, Ne.symm nGp⟩ (.inr (s1.free hb hp5H1 b1)) fall.d (tabS_mut (f67) m67 (tabS_mut f6 (fun a ha => (m6 a ha).2) tD1))
      · have kp57 : KpN H5 H7 := fun b o e n1 n2 n3 => (FrD.kpN f67.d m67) b o (FrD.kpN f56.d (fun a ha => by rw [List.mem_singleton.mp ha]; exact mutb_lst hS5) b o e n1 n2 n3) n1 n2 n3
        refine dpAll_kpN kp57 (fun d hd => ?_) hd5
        obtain ⟨q, hq, rfl⟩ := List.mem_map.mp hd
        have := pm5.mem_iff.mp hq
        rcases List.mem_append.mp this with h | h
        · exact pair_noL (okp q h)
        · rw [List.mem_singleton.mp h]; exact pair_noL okn
      · refine pm5.trans (List.Perm.trans ?_ pq.symm)
        exact (List.perm_append_comm (l₁ := ps) (l₂ := [(n, r)])).trans (pm.cons _)
      · rcases List.mem_cons.mp (pq.mem_iff.mp hp) with e | h
        · rw [e]; exact List.mem_of_getElem? eq
        · exact sd1.mem p h
    · have rest : ∀ Qb : Bool → Hp → Prop, Qb false H1 → tAnd (tTest (tOp (rI0 fun i j => .bl (decide (i < j))) (tVar 8) (tC (.int 3)))) (tTest (tOp (rI0 fun i j => .bl (decide (i < j))) (tVar 7) (tCB (fun xs H Q => ∃ x d n, xs = [x] ∧ Dp K H x d ∧ lenD d = some n ∧ Q (.int n) H) (tCons (tVar 3) tNil)))) [some (.ref B), some vk, some vo, some vr, some (.ref S), some (.ref x), some (.ref Lf), some (.int (n : Nat)), some (.int way), none, none] H1 Qb := fun Qb q => by
        refine ⟨_, rfl, _, _, rfl, rfl, _, rfl, ?_⟩
        by_cases h3 : way < 3
        · refine iteT' (decide_eq_true h3) ?_
          refine ⟨_, rfl, _, rfl, vr, _, _, rfl, dp_same sc1 _ hrw, rfl, _, _, rfl, rfl, _, rfl, ?_⟩
          rw [List.length_map, show decide (((n : Nat) : Int) < ((rs.length : Nat) : Int)) = false from decide_eq_false fun z => hw3 ⟨h3, by omega⟩]
          exact q
        · exact iteF' (decide_eq_false h3) q
      dsimp only [gName, tSeq, tIfS]
      refine rest _ (iteF ?_)
      obtain ⟨aK, xk, rfl, hSK0, hIK0⟩ : ∃ aK xk, vk = .ref aK ∧ SqT K Hc aK xk ∧ DpAll K Hc xk (ks.map fun b => .str (kindS b)) := by
        cases hk with
        | @tup a xs _ h1 h2 => exact ⟨a, xs, rfl, h1, h2⟩
      have hSK := sqT_same sc1 hSK0
      have hIK := dpAll_same sc1 _ hIK0
      refine ⟨_, rfl, rfl, _, rfl, ?_⟩
      by_cases h5 : way = 5
      · subst h5
        refine iteT' (decide_eq_true rfl) ?_
        refine ⟨_, rfl, _, rfl, _, rfl, aK, rfl, ⟨_, hSK⟩, fun DD hD => ?_⟩
        obtain ⟨s2, b2, nDB, nDL⟩ := al (o := .lst []) SameX.refl b1 b1 hD
        refine lc_tup (K := K) (a := aK) (xs := xk) (fun j H4 => SameX B L H1 H4 ∧ BoxAt H4 B L ∧ ∃ (ds : List PyData) (ys : List V), ds.length = j ∧ Vals1 ks ds ∧ H4 DD = some (.lst ys) ∧ DpAll K H4 ys ds)
          ⟨s2, b2, [], [], rfl, (fun j d h => by simp at h), upd_same, .nil⟩ (fun j H4 _ h => sqT_x b1 h.1 hSK) ?_ ?_
        · rintro j y H4 hy ⟨s6, b6, ds, ys, ld, hv, hl, hdd⟩
          obtain ⟨dk, ek, hdk⟩ := dpGet hIK hy
          obtain ⟨bk, ebk, rfl⟩ : ∃ b, ks[j]? = some b ∧ dk = .str (kindS b) := by
            rw [List.getElem?_map] at ek
            cases q : ks[j]? with
            | none => rw [q] at ek; cases ek
            | some b => rw [q] at ek; exact ⟨b, rfl, (Option.some.inj ek).symm⟩
          cases hdk
          have hj : j < ks.length := (List.getElem?_eq_some_iff.mp ebk).1
          have ly : ys.length = ds.length := dpLen hdd
          refine ⟨rfl, _, rfl, _, rfl, B, L, bk, rfl, b6, fun H5 v d s7 b7 hv2 hd2 => ?_⟩
          have hl5 := s7 _ _ nDB nDL hl
          have vs2 := vals_snoc hv (by rw [ld]; exact ebk) hv2
          refine ⟨ys, hl5, small1000 (by omega), (s6.trans s7).new hD, b7.upd_ nDB nDL, ds ++ [d], ys ++ [v], by rw [List.length_append, ld]; rfl, vs2, upd_same, ?_⟩
          exact dpAll_upd hl5 _ (vals_noL vs2) (dpApp (dpAll_x b6 s7 _ (vals_noL hv) hdd) (.cons hd2 .nil))
        · rintro H4 ⟨s6, b6, ds, ys, ld, hv, hl, hdd⟩
          dsimp only [gName]
          have lk : xk.length = ks.length := by rw [dpLen hIK, List.length_map]
          refine ⟨DD, ys, rfl, .inl ⟨SqL.of hl, fun tp htp => ?_⟩⟩
          have s7 := sameNew (o := .tup ys) (Same.refl H4) htp
          have b7 := b6.same s7
          have dT : Dp K (upd H4 tp (.tup ys)) (.ref tp) (.tuple ds) := .tup (SqT.of upd_same) (dpAll_same s7 _ hdd)
          generalize upd H4 tp (.tup ys) = H5 at s7 b7 dT ⊢
          have s15 := s6.trans (SameX.of s7)
          have sd5 := sd1.other (FrD.x s15) nBL (mBL b1) nt okr
          refine ⟨B, L, .ref aK, .ref tp, ks, ds, rfl, b7, dp_same sd5.sv.same _ (.tup hSK0 hIK0), k1, k4, dT, isRow_get.mpr ⟨by omega, hv⟩, fun H6 vodd dodd s8 b8 hodd nodd fodd lodd => ?_⟩
          have s16 := s15.trans s8
          have sd6 := sd1.other (FrD.x s16) nBL (mBL b1) nt okr
          have tD6 := tabS_x b1 s16 tD1
          refine ⟨tD6, fun fL H7 eN tS isL hfN => ⟨by show 1 ≤ sizeLine; decide, fun LL hLL => ?_⟩⟩
          have s9 := sameNew (o := .lst [.ref fL]) (Same.refl H7) hLL
          have hL9 : upd H7 LL (.lst [.ref fL]) LL = some (.lst [.ref fL]) := upd_same
          generalize upd H7 LL (.lst [.ref fL]) = H8 at s9 hL9 ⊢
          refine ⟨by show 2 ≤ sizeLine; decide, fun TT hTT => ?_⟩
          have s10 := sameNew (o := .tup [.str "BadRows", .int 0]) s9 hTT
          have hL10 := sameNew (o := .tup [.str "BadRows", .int 0]) (Same.refl H8) hTT _ _ hL9
          have hT10 : upd H8 TT (.tup [.str "BadRows", .int 0]) TT = some (.tup [.str "BadRows", .int 0]) := upd_same
          generalize upd H8 TT (.tup [.str "BadRows", .int 0]) = H9 at s10 hL10 hT10 ⊢
          intro Gp ca
          have e69 : LamX.ExtN H6 H9 := eN.trans (LamX.ExtN.of s10)
          have sd9 := sd6.other (A := []) (FrD.ext e69) ⟨by simp, by simp, by simp, by simp⟩ (fun a ha => nomatch ha) nt okr
          have odd9 : Dp K H9 vodd dodd := dp_kpN (fun b o e n1 n2 n3 => e69 b o e n3) _ lodd hodd
          refine ⟨LL, [fL], .ref TT, .tuple [.str "BadRows", .int 0], rfl, ca.some hL10, by show 1 ≤ 20; decide, .tup (SqT.of (ca.some hT10)) (.cons (.str _) (.cons (.int _) .nil)), by simp [few, fews], by simp [PyData.depth, PyData.depthAll], fun g hg => ?_, fun H' sG' => ?_⟩
          · rw [List.mem_singleton.mp hg]
            intro H2 Q1 s2' told
            obtain ⟨R, rG, act⟩ := lam_act (k := 6) ca (LamX.lamS_by (sc := defScope sDeed) (by decide +kernel)) ((isL.ext (LamX.ExtN.of s10)).up ca) (fun _ _ _ _ _ => rfl) (fun A outer s H E c' hr' => pe_m cP hr' (Nat.le_refl _) (passes_call (takes_of rfl rfl rfl rfl) fun _ _ _ _ h => h) (pv 5) (pa_cons (pv 9) pa_nil))
            refine ⟨fL, R, _, rfl, act, act.same _ _ s2' rG, fun E hE => ?_⟩
            have so := caught_same ca s2'
            have svo := sd9.sv.grow so
            obtain ⟨dx9, vk9, vo9, hx9, _⟩ := svo.ob
            refine ⟨_, rfl, x, dx9, _, rfl, hx9, fs_no (by decide +kernel) (by decide +kernel) (by decide +kernel) (by decide +kernel), ?_⟩
            refine ⟨_, rfl, x, G, vodd, dodd, ks, os, Hc, n, gq, rfl, svo, dp_same so _ odd9, fodd, by omega, svo.same _ _ tW, svo.same _ _ tR, by omega, .inl ⟨nodd, fun H3 dd s3 hdd lo => hE _ _ _ ⟨CR, 2, 0, rfl, eR.own, eR.exm, fun d e => ?_, ?_, fun H4 t s4 ht4 => ?_⟩⟩⟩
            · cases e
              exact ⟨_, back_at lo hdd⟩
            · unfold ErrV
              rw [if_pos (.inr (.inl rfl))]
              exact ⟨xR, nR, dd, _, rfl, back_at lo hdd, lk_eq⟩
            · exact told _ _ (fun b o e => s4 b o (back_same s3 b o e)) (.tup (SqT.of ht4) (.cons (.str _) (.cons (.int _) .nil)))
          · have sf := caught_same ca sG'
            have ext := e69.trans (LamX.ExtN.of sf)
            refine kk _ Lf n gq (box_ext b8 ext) (sd6.other (A := []) (FrD.ext ext) ⟨by simp, by simp, by simp, by simp⟩ (fun a ha => nomatch ha) nt okr) (.inl rfl) ?_ (tS.ext fun b o e => sf b o (s10 b o e))
            exact ((f1.d.trans (FrD.x s16)).mono big6).trans (FrD.ext ext)
      · refine iteF' (decide_eq_false fun z => h5 (V.int.inj z)) ?_
        refine ⟨_, rfl, Nat.zero_le _, fun e0 he0 => ?_⟩
        have s2 := sameNew (o := .lst []) (Same.refl H1) he0
        have hl2 := s2 _ _ hl1
        have hd2 := dpAll_same s2 _ hd1
        have tD2 := tD1.ext s2
        have he2 : upd H1 e0 (.lst []) e0 = some (.lst []) := upd_same
        have sd2 := sd1.other (A := []) (FrD.of s2) ⟨by simp, by simp, by simp, by simp⟩ (fun a ha => nomatch ha) nt okr
        generalize upd H1 e0 (.lst []) = H2 at s2 hl2 hd2 tD2 he2 sd2 ⊢
        have b2 := b1.same s2
        have shp := pairs_shaped okp
        refine ⟨.list (ps.map pairD), .list [], .lst (SqL.of hl2) hd2, .lst (SqL.of he2) .nil, shp, by decide +kernel, _, rfl, ?_⟩
        rw [eqv_nil]
        cases ps with
        | nil =>
          have g0 : gq = [] := pm.symm.eq_nil
          refine iteT ?_
          refine ⟨tD2, fun fL H7 eN tS isL hfN => ⟨by show 1 ≤ sizeLine; decide, fun LL hLL => ?_⟩⟩
          have s9 := sameNew (o := .lst [.ref fL]) (Same.refl H7) hLL
          have hL9 : upd H7 LL (.lst [.ref fL]) LL = some (.lst [.ref fL]) := upd_same
          generalize upd H7 LL (.lst [.ref fL]) = H8 at s9 hL9 ⊢
          refine ⟨by show 2 ≤ sizeLine; decide, fun TT hTT => ?_⟩
          have s10 := sameNew (o := .tup [.str "Empty", .int 0]) s9 hTT
          have hL10 := sameNew (o := .tup [.str "Empty", .int 0]) (Same.refl H8) hTT _ _ hL9
          have hT10 : upd H8 TT (.tup [.str "Empty", .int 0]) TT = some (.tup [.str "Empty", .int 0]) := upd_same
          generalize upd H8 TT (.tup [.str "Empty", .int 0]) = H9 at s10 hL10 hT10 ⊢
          intro Gp ca
          have e29 : LamX.ExtN H2 H9 := eN.trans (LamX.ExtN.of s10)
          have sd9 := sd2.other (A := []) (FrD.ext e29) ⟨by simp, by simp, by simp, by simp⟩ (fun a ha => nomatch ha) nt okr
          refine ⟨LL, [fL], .ref TT, .tuple [.str "Empty", .int 0], rfl, ca.some hL10, by show 1 ≤ 20; decide, .tup (SqT.of (ca.some hT10)) (.cons (.str _) (.cons (.int _) .nil)), by simp [few, fews], by simp [PyData.depth, PyData.depthAll], fun g hg => ?_, fun H' sG' => ?_⟩
          · rw [List.mem_singleton.mp hg]
            intro H3 Q1 s2' told
            obtain ⟨R, rG, act⟩ := lam_act (k := 6) ca (LamX.lamS_by (sc := defScope sDeed) (by decide +kernel)) ((isL.ext (LamX.ExtN.of s10)).up ca) (fun _ _ _ _ _ => rfl) (fun A outer s H E c' hr' => pe_m0 cTk hr' (by decide) (passes_call (takes_of rfl rfl rfl rfl) fun _ _ _ _ h => h) (pv 5))
            refine ⟨fL, R, _, rfl, act, act.same _ _ s2' rG, fun E hE => ?_⟩
            have so := caught_same ca s2'
            have svo := sd9.sv.grow so
            obtain ⟨dx9, vk9, vo9, hx9, _⟩ := svo.ob
            refine ⟨_, rfl, x, dx9, _, rfl, hx9, fs_no (by decide +kernel) (by decide +kernel) (by decide +kernel) (by decide +kernel), ?_⟩
            refine ⟨x, G, ks, os, Hc, n, gq, rfl, svo, .inl ⟨g0, fun lo => hE _ _ _ ⟨CE, 13, 0, rfl, eE.own, eE.exm, (fun d e => nomatch e), rfl, fun H4 t s4 ht4 => ?_⟩⟩⟩
            exact told _ _ (fun b o e => s4 b o (back_same (fun _ _ e => e) b o e)) (.tup (SqT.of ht4) (.cons (.str _) (.cons (.int _) .nil)))
          · have sf := caught_same ca sG'
            have ext := e29.trans (LamX.ExtN.of sf)
            refine kk _ Lf n gq (box_ext b2 ext) (sd2.other (A := []) (FrD.ext ext) ⟨by simp, by simp, by simp, by simp⟩ (fun a ha => nomatch ha) nt okr) (.inl rfl) ?_ (tS.ext fun b o e => sf b o (s10 b o e))
            exact ((f1.d.trans (FrD.of s2)).mono big6).trans (FrD.ext ext)
        | cons p0 ps' =>
          refine iteF ?_
          have hne : gq ≠ [] := fun z => by rw [z] at pm; exact absurd pm.eq_nil (by simp)
          obtain ⟨dx2, vk2, vo2, hx2, _⟩ := sd2.sv.ob
          obtain ⟨zs2, hg2, _⟩ := sd2.sv.g
          refine ⟨_, rfl, x, dx2, _, rfl, hx2, fs_no (by decide +kernel) (by decide +kernel) (by decide +kernel) (by decide +kernel), ?_⟩
          refine ⟨x, G, ks, os, Hc, n, gq, rfl, sd2.sv, .inr ⟨hne, fun H3 v q gq' sv3 pq mn hv fr3 => ?_⟩⟩
          obtain ⟨eqq, pm'⟩ := head_eq pq mn pm srt sd1.mem
          subst eqq
          have f23 : FrA H2 H3 [x, G] := .v fr3
          have m23 : ∀ a ∈ [x, G], Mutb H2 a := fun a ha => by
            rcases List.mem_cons.mp ha with e | ha
            · rw [e]; exact mutb_ins hx2
            · rw [List.mem_singleton.mp ha]; exact mutb_lst hg2.g
          have nxLf : x ≠ Lf := fun z => by rw [z, hl2] at hx2; cases hx2
          have nxS2 : x ≠ S := fun z => by rw [z, sd2.s] at hx2; cases hx2
          have hl3 := f23 _ _ hl2 (by simp [Ne.symm nxLf, sd2.nLG])
          have noP : ∀ d ∈ (q :: ps').map pairD, noL d = true := fun d hd => by
            obtain ⟨p, hp, rfl⟩ := List.mem_map.mp hd
            exact pair_noL (okp p hp)
          have hd3 := dpAll_kpN (f23.d.kpN m23) noP hd2
          cases xs with
          | nil => cases hd3
          | cons v0 xs' =>
            cases hd3 with
            | cons hv0 hd3' =>
              refine ⟨_, rfl, .inl ⟨rfl, _, SqL.of hl3⟩, Lf, _, 0, 0, v0, rfl, rfl, hl3, by decide, by show (0 : Int) < _; simp, by simp [seqIndex?], rfl, ?_⟩
              have kpp : KpN H3 (upd H3 Lf (.lst ((v0 :: xs').eraseIdx 0))) := (FrA.upd (A := [Lf]) (by simp)).d.kpN fun a ha => by rw [List.mem_singleton.mp ha]; exact mutb_lst hl3
              refine ⟨v, v0, pairD q, rfl, dp_kpN kpp _ (noP _ (by simp)) hv, dp_kpN kpp _ (noP _ (by simp)) hv0, few_pair k4 (okp q (by simp)), by
                have := (pair_shape (p := q) (okp q (by simp))).2
                omega, ?_⟩
              have f34 : FrA H3 (upd H3 Lf (.lst ((v0 :: xs').eraseIdx 0))) [Lf] := .upd (by simp)
              have m34 : ∀ a ∈ [Lf], Mutb H3 a := fun a ha => by rw [List.mem_singleton.mp ha]; exact mutb_lst hl3
              have hl4 : upd H3 Lf (.lst ((v0 :: xs').eraseIdx 0)) Lf = some (.lst xs') := upd_same
              generalize upd H3 Lf (.lst ((v0 :: xs').eraseIdx 0)) = H4 at f34 hl4 kpp ⊢
              have hx3 : ∃ dx3 vk3 vo3, H3 x = some (.ins C dx3 (fldsS vk3 vo3 n G)) := by
                obtain ⟨d1, d2, d3, d4, _⟩ := sv3.ob
                exact ⟨d1, d2, d3, d4⟩
              obtain ⟨dx3, vk3, vo3, hx3⟩ := hx3
              obtain ⟨zs3, hg3, _⟩ := sv3.g
              have sv4 := sv3.moveN kpp (fun b o e => f34 b o (sv3.same b o e) fun z => by rw [List.mem_singleton.mp z, sd2.lc] at e; cases e) ((f34 _ _ hx3 (by simp [nxLf])).trans hx3.symm) ((f34 _ _ hg3.g (by simp [Ne.symm sd2.nLG])).trans hg3.g.symm)
              have bx : BoxAt H4 B L := by
                obtain ⟨nbl, ⟨st, hB⟩, ⟨ms, hL⟩⟩ := b2
                exact ⟨nbl, ⟨st, f34 _ _ (f23 _ _ hB (by simp [Ne.symm xBL.1, Ne.symm nGB])) (by simp [Ne.symm nLB])⟩, ⟨ms, f34 _ _ (f23 _ _ hL (by simp [Ne.symm xBL.2, Ne.symm nGL])) (by simp [Ne.symm nLL])⟩⟩
              refine kk H4 Lf n gq' bx ⟨f34 _ _ (f23 _ _ sd2.s (by simp [Ne.symm nxS2, sd2.nSG])) (by simp [sd2.nSL]), sv4, ⟨xs', ps', hl4, dpAll_kpN kpp (fun d hd => noP d (by rw [List.map_cons]; exact List.mem_cons_of_mem _ hd)) hd3', pm', (List.pairwise_cons.mp srt).2⟩, fun p hp => sd1.mem p (pq.mem_iff.mpr (List.mem_cons_of_mem _ hp)), sd2.le, ?_, sd2.sc, sd2.lc, sd2.nSL, sd2.nSG, sd2.nLG⟩ (.inl rfl) ?_ (tabS_mut f34 m34 (tabS_mut f23 m23 tD2))
              · have := pq.length_eq
                rw [List.length_cons] at this
                have := sd2.gl
                omega
              · exact ((((f1.mono big6).trans (FrA.of s2)).trans (f23.mono (by simp))).trans (f34.mono (by simp))).d
end
end RS
set_option Elab.async false
set_option maxRecDepth 100000
set_option maxHeartbeats 4000000
namespace RS
open PySem PySem.Spec PyProof.Rows L2 GX
/-! ### tables that are empty at the entry, as tables of any size -/
def extOf (T : List Addr) (H : Hp) : Hp := fun b => if b ∈ T then some (.ext (TabE b)) else H b
def tabAt (h : Heap) (b : Addr) : Array Value := match h.get? b with
  | some o => (match o.data with
    | .fields rs => rs
    | _ => #[])
  | none => #[]
def tblOf (T : List Addr) (h : Heap) (H : Hp) : Hp := fun b => if b ∈ T then some (.tbl (tabAt h b)) else H b
/-- a promise that speaks of tables of any size, asked where they are empty -/
def spT (T : List Addr) (sp : Sp) : Sp := fun vs H Q E => (∀ b ∈ T, H b = some (.tbl #[])) ∧ sp vs (extOf T H) (fun v H' => (∀ b ∈ T, Tab H' b) ∧ ∀ H2, Q v H2) E
theorem ext_in {T : List Addr} {H : Hp} {b : Addr} (h : b ∈ T) : extOf T H b = some (.ext (TabE b)) := if_pos h
theorem ext_out {T : List Addr} {H : Hp} {b : Addr} (h : b ∉ T) : extOf T H b = H b := if_neg h
theorem tbl_in {T : List Addr} {g : Heap} {H : Hp} {b : Addr} (h : b ∈ T) : tblOf T g H b = some (.tbl (tabAt g b)) := if_pos h
theorem tbl_out {T : List Addr} {g : Heap} {H : Hp} {b : Addr} (h : b ∉ T) : tblOf T g H b = H b := if_neg h
theorem FnOk.tables {P : Program} {w : World} {K : PySem.W.Frag} {mg : Str → Option Value} {base : Heap} {k : Nat} {f : Addr} {fd : FuncData} {ps : List Str} {sp : Sp} {T : List Addr} (F : FnOk P w K mg base CX0 k f fd ps sp) : FnOk P w K mg base CX0 k f fd ps (spT T sp) := by
  refine ⟨fun vs H Q E h => F.len _ _ _ _ h.2, fun A outer s H args us vs Q E hr e0 hb hv ⟨hT, hs⟩ => ?_⟩
  have nT : ∀ b, H b = none → b ∉ T := fun b e hb => by
    rw [hT b hb] at e
    cases e
  have nT2 : ∀ b o, H b = some o → (∀ ps, o ≠ .tbl ps) → b ∉ T := fun b o e n hb => by
    rw [hT b hb] at e
    exact n #[] (Option.some.inj e).symm
  have e2 : Env0 P w K mg base A outer s (extOf T H) := by
    refine ⟨e0.frames, e0.mod, fun b o e => ⟨(e0.bs b o e).1, by rw [ext_out (nT b (e0.bs b o e).2)]; exact (e0.bs b o e).2⟩, e0.bsz, e0.funs, fun b hb => by rw [ext_out (nT b (e0.frf b hb))]; exact e0.frf b hb, fun b o e => ?_, e0.bare⟩
    by_cases hb : b ∈ T
    · rw [ext_in hb] at e
      cases e
      have q := e0.hok b _ (hT b hb)
      exact ⟨⟨#[], q, trivial⟩, ⟨_, q⟩, tabE_stable⟩
    · rw [ext_out hb] at e
      refine (e0.hok b o e).stay (fun c u _ q => q) (fun c q => ?_) (fun c xs q => ?_)
      · rw [ext_out (nT2 c _ q (fun ps z => by cases z))]
        exact q
      · rw [ext_out (nT2 c _ q (fun ps z => by cases z))]
        exact q
  refine codeAny_mono (F.run A outer s (extOf T H) args us vs _ E hr e2 hb hv hs) fun r s' hq => ?_
  cases r with
  | error e => exact hq
  | ok fl =>
    cases fl with
    | next => exact hq
    | brk => exact hq
    | cont => exact hq
    | ret u =>
      obtain ⟨v, H', os, bare, un, hok', r', hT', q⟩ := hq
      refine ⟨v, tblOf T s'.heap H', os, bare, ⟨fun b o e n => un.keep b o e (by rw [ext_out (nT b n)]; exact n), fun b o e n => un.slot b o e (by rw [ext_out (nT b n)]; exact n), fun b o e n hx => ?_, un.there, fun b xs e => ?_, fun b o u e => ?_, fun b ps e => ?_⟩, fun b o e => ?_, r', q _⟩
      · rw [tbl_out (nT b n)]
        exact un.free b o e (by rw [ext_out (nT b n)]; exact n) hx
      · have hb := nT2 b _ e (fun ps z => by cases z)
        rw [tbl_out hb]
        exact un.tups b xs (by rw [ext_out hb]; exact e)
      · have hb := nT2 b _ e (fun ps z => by cases z)
        rw [tbl_out hb]
        exact un.frzs b o u (by rw [ext_out hb]; exact e)
      · by_cases hb : b ∈ T
        · rw [hT b hb] at e
          cases e
          exact ⟨tabAt s'.heap b, by rw [tbl_in hb, Array.empty_append]⟩
        · rw [tbl_out hb]
          exact un.tbls b ps (by rw [ext_out hb]; exact e)
      · have inT : ∀ c, c ∈ T → ∃ rs : Array Value, s'.heap.get? c = some { cls := .none, data := .fields rs } := fun c hc => by
          obtain ⟨⟨rs, h1, _⟩, _⟩ := hok' c _ (hT' c hc)
          exact ⟨rs, h1⟩
        by_cases hb : b ∈ T
        · rw [tbl_in hb] at e
          cases e
          obtain ⟨rs, h1⟩ := inT b hb
          have e2 : tabAt s'.heap b = rs := by
            unfold tabAt
            rw [h1]
          show s'.heap.get? b = some { cls := .none, data := .fields (tabAt s'.heap b) }
          rw [e2]
          exact h1
        · rw [tbl_out hb] at e
          have nT3 : ∀ c o, H' c = some o → (∀ φ, o ≠ .ext φ) → c ∉ T := fun c o e n hc => by
            have z : H' c = some (.ext (TabE c)) := hT' c hc
            rw [e] at z
            exact n _ (Option.some.inj z)
          refine (hok' b o e).stay (fun c u _ q => q) (fun c q => ?_) (fun c xs q => ?_)
          · rw [tbl_out (nT3 c _ q (fun φ z => by cases z))]
            exact q
          · rw [tbl_out (nT3 c _ q (fun φ z => by cases z))]
            exact q
section
variable {P : Program} {w : World} {K : PySem.W.Frag} {mg : Str → Option Value} {base : Heap}
theorem fn_of0 {f c : Addr} {oc kV doc pm ct : Value} {od an : Option Addr} {osl : Array (Option Value)} {x : Str} {st : Stmt} {N ps : List Str} {k : Nat} {sp : Sp}
    (lk : K.lookup f = some ⟨oc, od, .func (PySem.W.fnOf x x (defArgs st) (defBody st) (defScope st) .none kV doc pm an (.ref c) ct), osl⟩) (hcd : PySem.W.codeIn K (.ref c) x = true) (S : FnScope N ps (defScope st)) (len : ∀ vs H Q E, sp vs H Q E → vs.length = ps.length)
    (hbody : ∀ (f : Addr) (A : Around) (outer : List Env) (s : Shared) (H : Hp) (vs : List V) (Q : VK) (E : XK), Room k (A.deeper (envOfC x (defScope st) s.heap.objs.size f (.ref c))) → sp vs H Q E →
      ∃ t, PSs (cxOf CX0 P w K mg base N x (defScope st) f (.ref c) A outer s H E).nox (defBody st) t ∧ t { nx := fun _ H' => Q .non H', rt := Q } (start N vs) H) :
    FnOk P w K mg base CX0 (k + 1) f (PySem.W.fnOf x x (defArgs st) (defBody st) (defScope st) .none kV doc pm an (.ref c) ct) ps sp :=
  fn_of lk hcd S len fun A outer s H vs Q E hr hsp => by
    obtain ⟨t, ht, q⟩ := hbody f A outer s H vs Q E hr hsp
    exact ⟨t, ht.nox, q⟩
end
end RS
set_option Elab.async false
set_option maxRecDepth 100000
set_option maxHeartbeats 4000000
namespace RS
open PySem PySem.Spec PyProof.Rows L2 GX
section
variable {X : Cx} {o e : Expr} {es : List Expr} {to : TE} {t : TA} {name : Str} {apos cpos : Pos} {T id : String} {r : V → List V → Hp → VK → Prop} {K : PySem.W.Frag}
/-- a method called where the frame's own facts are named -/
theorem pe_bmC (eK : X.K = K) (pa : PlainAttrs T) (slot : Slot T name id) (hty : typeOf (.builtin id) = pure (.type "method_descriptor")) (hm : MtR X id r) (ho : PE X o to) (ha : PA X (e :: es) t) (h1 : attributeBase o name X.env (eval o X.env) = eval o X.env := by rfl) (h2 : ((backTo cpos (starEach (e :: es) X.env)).all (fun x => !x.1) && (backToKw cpos (keywordEach [] X.env)).all (fun x => x.1.isSome) && decide ((e :: es).length + ([] : List Keyword).length + (if ([] : List Keyword).isEmpty then 0 else 1) < 30)) = true := by rfl) (h3 : (apos.endLine == cpos.line) = true := by rfl) (h4 : starEach (e :: es) X.env = (false, eval e X.env) :: starEach es X.env := by rfl) (h5 : (backTo cpos (starEach es X.env)).any (·.1) = false := by rfl) : PE X (.Call (.Attribute o name apos) (e :: es) [] cpos) (tBM K T r to t) := by
  subst eK
  exact pe_bm pa slot hty hm ho ha h1 h2 h3 h4 h5
theorem len_seqC (eK : X.K = K) : CallR X (.builtin "len") (fun xs H Q => ∃ p ys, xs = [.ref p] ∧ (SqL K H p ys ∨ SqT K H p ys) ∧ Q (.int ys.length) H) := by
  subst eK
  exact call_len_seq
end
end RS
set_option Elab.async false
set_option maxRecDepth 100000
set_option maxHeartbeats 8000000
set_option pp.maxSteps 400
namespace RS
open PySem PySem.Spec PyProof.Rows L2 GX HQ LM
/-! ### a side as it is made -/
structure Sd where
  S : Addr
  x : Addr
  G : Addr
  Lf : Addr
  O : Addr
def Sd.ads (s : Sd) : List Addr := [s.S, s.G, s.Lf, s.O]
structure Pre (C : Addr) (vk : V) (xo : List V) (H : Hp) (d : Sd) : Prop where
  s : H d.S = some (.lst [.ref d.x, .ref d.Lf, .int ((0 : Nat) : Int)])
  l : H d.Lf = some (.lst [])
  g : H d.G = some (.lst [])
  o : H d.O = some (.lst xo)
  x : ∃ dx, H d.x = some (.ins C dx (fldsS vk (.ref d.O) 0 d.G))
theorem Pre.move {C : Addr} {vk : V} {xo : List V} {H H' : Hp} {d : Sd} (h : Pre C vk xo H d) (f : ∀ b o, H b = some o → b ∈ d.x :: d.ads → H' b = some o) : Pre C vk xo H' d := by
  obtain ⟨dx, hx⟩ := h.x
  exact ⟨f _ _ h.s (by simp [Sd.ads]), f _ _ h.l (by simp [Sd.ads]), f _ _ h.g (by simp [Sd.ads]), f _ _ h.o (by simp [Sd.ads]), dx, f _ _ hx (by simp)⟩
/-- both sides, the second one untouched while the first one is at work -/
structure Two (K : PySem.W.Frag) (C pD : Addr) (ks : List Bool) (os : List (Nat × Bool)) (rs : List (List PyData)) (Hc H : Hp) (B L SL : Addr) (sls : List V) (S x G Lf : Addr) (n : Nat) (gq : List Pr) (S' x' G' Lf' : Addr) (n' : Nat) (gq' : List Pr) : Prop where
  box : BoxAt H B L
  sl : H SL = some (.lst sls)
  a : SideAt K C ks os rs Hc H S x G Lf n gq
  b : SideAt K C ks os rs Hc H S' x' G' Lf' n' gq'
  tD : LamX.TabS H pD qD
  nx : x ≠ x'
  nd : (B :: L :: SL :: S :: G :: Lf :: S' :: G' :: [Lf']).Nodup
theorem Two.swap {K : PySem.W.Frag} {C pD : Addr} {ks : List Bool} {os : List (Nat × Bool)} {rs : List (List PyData)} {Hc H : Hp} {B L SL S x G Lf S' x' G' Lf' : Addr} {sls : List V} {n n' : Nat} {gq gq' : List Pr} (h : Two K C pD ks os rs Hc H B L SL sls S x G Lf n gq S' x' G' Lf' n' gq') : Two K C pD ks os rs Hc H B L SL sls S' x' G' Lf' n' gq' S x G Lf n gq := by
  refine ⟨h.box, h.sl, h.b, h.a, h.tD, Ne.symm h.nx, ?_⟩
  have p : (B :: L :: SL :: S :: G :: Lf :: S' :: G' :: [Lf']).Perm (B :: L :: SL :: S' :: G' :: Lf' :: S :: G :: [Lf]) :=
    ((((List.perm_append_comm (l₁ := [S, G, Lf]) (l₂ := [S', G', Lf'])).cons SL).cons L).cons B)
  exact p.nodup_iff.mp h.nd
theorem Two.step {K : PySem.W.Frag} {C pD : Addr} {ks : List Bool} {os : List (Nat × Bool)} {rs : List (List PyData)} {Hc H H' : Hp} {B L SL S x G Lf S' x' G' Lf' Lf2 : Addr} {sls : List V} {n n' n2 : Nat} {gq gq' gq2 : List Pr} (h : Two K C pD ks os rs Hc H B L SL sls S x G Lf n gq S' x' G' Lf' n' gq')
    (b : BoxAt H' B L) (sd : SideAt K C ks os rs Hc H' S x G Lf2 n2 gq2) (l : Lf2 = Lf ∨ H Lf2 = none) (f : FrD H H' [B, L, S, x, G, Lf]) (t : LamX.TabS H' pD qD) (nt : ∀ b ps, Hc b ≠ some (.tbl ps)) (okr : ∀ r ∈ rs, isRow ks (.tuple r) = true) (cB : Hc B = none) (cL : Hc L = none) :
    Two K C pD ks os rs Hc H' B L SL sls S x G Lf2 n2 gq2 S' x' G' Lf' n' gq' := by
  have nd := h.nd
  simp only [List.nodup_cons, List.mem_cons, List.not_mem_nil, or_false, not_or, not_false_eq_true, List.nodup_nil, and_true] at nd
  obtain ⟨⟨b1, b2, b3, b4, b5, b6, b7, b8⟩, ⟨l1, l2, l3, l4, l5, l6, l7⟩, ⟨s1, s2, s3, s4, s5, s6⟩, ⟨u1, u2, u3, u4, u5⟩, ⟨g1, g2, g3, g4⟩, ⟨m1, m2, m3⟩, ⟨p1, p2⟩, q1⟩ := nd
  obtain ⟨_, ⟨st, hB⟩, ⟨ms, hL⟩⟩ := h.box
  obtain ⟨dx, _, _, hx, _⟩ := h.a.sv.ob
  obtain ⟨dx', _, _, hx', _⟩ := h.b.sv.ob
  obtain ⟨zs, hg, _⟩ := h.a.sv.g
  obtain ⟨zs', hg', _⟩ := h.b.sv.g
  obtain ⟨xs, _, hl, _⟩ := h.a.l
  obtain ⟨xs', _, hl', _⟩ := h.b.l
  have nl : ∀ {a : Addr} {ys : List V}, H a = some (.lst ys) → x ≠ a := fun {a ys} e z => by rw [z, e] at hx; cases hx
  have nl' : ∀ {a : Addr} {ys : List V}, H a = some (.lst ys) → x' ≠ a := fun {a ys} e z => by rw [z, e] at hx'; cases hx'
  have nA : S' ∉ [B, L, S, x, G, Lf] ∧ x' ∉ [B, L, S, x, G, Lf] ∧ G' ∉ [B, L, S, x, G, Lf] ∧ Lf' ∉ [B, L, S, x, G, Lf] := by
    refine ⟨?_, ?_, ?_, ?_⟩
    · simp only [List.mem_cons, List.not_mem_nil, or_false, not_or]
      exact ⟨fun z => b6 z.symm, fun z => l5 z.symm, fun z => u3 z.symm, Ne.symm (nl h.b.s), fun z => g2 z.symm, fun z => m1 z.symm⟩
    · simp only [List.mem_cons, List.not_mem_nil, or_false, not_or]
      exact ⟨nl' hB, nl' hL, nl' h.a.s, Ne.symm h.nx, nl' hg.g, nl' hl⟩
    · simp only [List.mem_cons, List.not_mem_nil, or_false, not_or]
      exact ⟨fun z => b7 z.symm, fun z => l6 z.symm, fun z => u4 z.symm, Ne.symm (nl hg'.g), fun z => g3 z.symm, fun z => m2 z.symm⟩
    · simp only [List.mem_cons, List.not_mem_nil, or_false, not_or]
      exact ⟨fun z => b8 z.symm, fun z => l7 z.symm, fun z => u5 z.symm, Ne.symm (nl hl'), fun z => g4 z.symm, fun z => m3 z.symm⟩
  have mA : ∀ a ∈ [B, L, S, x, G, Lf], Hc a = none ∧ Mutb H a := fun a ha => by
    simp only [List.mem_cons, List.not_mem_nil, or_false] at ha
    rcases ha with e | e | e | e | e | e <;> rw [e]
    · exact ⟨cB, mutb_lst hB⟩
    · exact ⟨cL, mutb_lst hL⟩
    · exact ⟨h.a.sc, mutb_lst h.a.s⟩
    · exact ⟨h.a.sv.x0, mutb_ins hx⟩
    · exact ⟨h.a.sv.g0, mutb_lst hg.g⟩
    · exact ⟨h.a.lc, mutb_lst hl⟩
  have hsl : H' SL = some (.lst sls) := f _ _ h.sl (by
    simp only [List.mem_cons, List.not_mem_nil, or_false, not_or]
    exact ⟨fun z => b2 z.symm, fun z => l1 z.symm, s1, Ne.symm (nl h.sl), s2, s3⟩) fun ps z => nomatch z
  refine ⟨b, hsl, sd, h.b.other f nA mA nt okr, t, h.nx, ?_⟩
  rcases l with rfl | l
  · exact h.nd
  · have ne : ∀ {a : Addr} {o : HO}, H a = some o → a ≠ Lf2 := fun {a o} e z => by rw [z, l] at e; cases e
    simp only [List.nodup_cons, List.mem_cons, List.not_mem_nil, or_false, not_or, not_false_eq_true, List.nodup_nil, and_true]
    exact ⟨⟨b1, b2, b3, b4, ne hB, b6, b7, b8⟩, ⟨l1, l2, l3, ne hL, l5, l6, l7⟩, ⟨s1, s2, ne h.sl, s4, s5, s6⟩, ⟨u1, ne h.a.s, u3, u4, u5⟩, ⟨ne hg.g, g2, g3, g4⟩, ⟨Ne.symm (ne h.b.s), Ne.symm (ne hg'.g), Ne.symm (ne hl')⟩, ⟨p1, p2⟩, q1⟩

theorem Two.grow {K : PySem.W.Frag} {C pD : Addr} {ks : List Bool} {os : List (Nat × Bool)} {rs : List (List PyData)} {Hc H H' : Hp} {B L SL S x G Lf S' x' G' Lf' : Addr} {sls : List V} {n n' : Nat} {gq gq' : List Pr} (h : Two K C pD ks os rs Hc H B L SL sls S x G Lf n gq S' x' G' Lf' n' gq') (s : Same H H') (nt : ∀ b ps, Hc b ≠ some (.tbl ps)) (okr : ∀ r ∈ rs, isRow ks (.tuple r) = true) : Two K C pD ks os rs Hc H' B L SL sls S x G Lf n gq S' x' G' Lf' n' gq' :=
  ⟨h.box.same s, s _ _ h.sl, h.a.other (A := []) (FrD.of s) ⟨by simp, by simp, by simp, by simp⟩ (fun a ha => nomatch ha) nt okr, h.b.other (A := []) (FrD.of s) ⟨by simp, by simp, by simp, by simp⟩ (fun a ha => nomatch ha) nt okr, h.tD.ext s, h.nx, h.nd⟩
/-- the first one goes, from the sieve and from the list -/
theorem SideAt.took {K : PySem.W.Frag} {C : Addr} {ks : List Bool} {os : List (Nat × Bool)} {rs : List (List PyData)} {Hc H H3 : Hp} {S x G Lf : Addr} {n : Nat} {gq gq' : List Pr} {q : Pr} {v : V} (sd : SideAt K C ks os rs Hc H S x G Lf n gq) (sv3 : SvAt K C ks os Hc H3 x G n gq') (pq : gq.Perm (q :: gq')) (mn : ∀ y ∈ gq', before os y q = false) (hv : Dp K H3 v (pairD q)) (fr : Frv H H3 x G) :
    ∃ v0 xs', H3 Lf = some (.lst (v0 :: xs')) ∧ isRow ks (.tuple q.2) = true ∧ Dp K (upd H3 Lf (.lst xs')) v (pairD q) ∧ Dp K (upd H3 Lf (.lst xs')) v0 (pairD q) ∧ SideAt K C ks os rs Hc (upd H3 Lf (.lst xs')) S x G Lf n gq' ∧ FrA H (upd H3 Lf (.lst xs')) [x, G, Lf] ∧ ∀ a ∈ [x, G, Lf], Mutb H a := by
  obtain ⟨xs, ps, hl, hd, pm, srt⟩ := sd.l
  have okp : ∀ p ∈ ps, isRow ks (.tuple p.2) = true := fun p hp => (sd.sv.gok p (pm.mem_iff.mp hp)).2
  obtain ⟨dx2, vk2, vo2, hx2, _⟩ := sd.sv.ob
  obtain ⟨zs2, hg2, _⟩ := sd.sv.g
  cases ps with
  | nil =>
    have := pm.symm.eq_nil
    rw [this] at pq
    exact absurd pq.symm.eq_nil (by simp)
  | cons p0 ps' =>
    obtain ⟨eqq, pm'⟩ := head_eq pq mn pm srt sd.mem
    subst eqq
    have f23 : FrA H H3 [x, G] := .v fr
    have m23 : ∀ a ∈ [x, G], Mutb H a := fun a ha => by
      rcases List.mem_cons.mp ha with e | ha
      · rw [e]; exact mutb_ins hx2
      · rw [List.mem_singleton.mp ha]; exact mutb_lst hg2.g
    have nxLf : x ≠ Lf := fun z => by rw [z, hl] at hx2; cases hx2
    have nxS2 : x ≠ S := fun z => by rw [z, sd.s] at hx2; cases hx2
    have hl3 := f23 _ _ hl (by simp [Ne.symm nxLf, sd.nLG])
    have noP : ∀ d ∈ (q :: ps').map pairD, noL d = true := fun d hd => by
      obtain ⟨p, hp, rfl⟩ := List.mem_map.mp hd
      exact pair_noL (okp p hp)
    have hd3 := dpAll_kpN (f23.d.kpN m23) noP hd
    cases xs with
    | nil => cases hd3
    | cons v0 xs' =>
      cases hd3 with
      | cons hv0 hd3' =>
        have kpp : KpN H3 (upd H3 Lf (.lst xs')) := (FrA.upd (A := [Lf]) (by simp)).d.kpN fun a ha => by rw [List.mem_singleton.mp ha]; exact mutb_lst hl3
        have f34 : FrA H3 (upd H3 Lf (.lst xs')) [Lf] := .upd (by simp)
        have hl4 : upd H3 Lf (.lst xs') Lf = some (.lst xs') := upd_same
        refine ⟨v0, xs', hl3, okp q (by simp), dp_kpN kpp _ (noP _ (by simp)) hv, dp_kpN kpp _ (noP _ (by simp)) hv0, ?_, (f23.mono (by simp)).trans (f34.mono (by simp)), fun a ha => ?_⟩
        · have hx3 : ∃ dx3 vk3 vo3, H3 x = some (.ins C dx3 (fldsS vk3 vo3 n G)) := by
            obtain ⟨d1, d2, d3, d4, _⟩ := sv3.ob
            exact ⟨d1, d2, d3, d4⟩
          obtain ⟨dx3, vk3, vo3, hx3⟩ := hx3
          obtain ⟨zs3, hg3, _⟩ := sv3.g
          have sv4 := sv3.moveN kpp (fun b o e => f34 b o (sv3.same b o e) fun z => by rw [List.mem_singleton.mp z, sd.lc] at e; cases e) ((f34 _ _ hx3 (by simp [nxLf])).trans hx3.symm) ((f34 _ _ hg3.g (by simp [Ne.symm sd.nLG])).trans hg3.g.symm)
          refine ⟨f34 _ _ (f23 _ _ sd.s (by simp [Ne.symm nxS2, sd.nSG])) (by simp [sd.nSL]), sv4, ⟨xs', ps', hl4, dpAll_kpN kpp (fun d hd => noP d (by rw [List.map_cons]; exact List.mem_cons_of_mem _ hd)) hd3', pm', (List.pairwise_cons.mp srt).2⟩, fun p hp => sd.mem p (pq.mem_iff.mpr (List.mem_cons_of_mem _ hp)), sd.le, ?_, sd.sc, sd.lc, sd.nSL, sd.nSG, sd.nLG⟩
          have := pq.length_eq
          rw [List.length_cons] at this
          have := sd.gl
          omega
        · simp only [List.mem_cons, List.not_mem_nil, or_false] at ha
          rcases ha with e | e | e <;> rw [e]
          · exact mutb_ins hx2
          · exact mutb_lst hg2.g
          · exact mutb_lst hl
def mutsOf (B L SL : Addr) (d1 d2 : Sd) : List Addr := [B, L, SL, d1.S, d1.x, d1.G, d1.Lf, d2.S, d2.x, d2.G, d2.Lf]
def hold (H : Hp) (ms : List Addr) : Hp := fun b => if b ∈ ms then none else noT H b
theorem hold_of {H : Hp} {ms : List Addr} {b : Addr} {o : HO} (e : hold H ms b = some o) : b ∉ ms ∧ H b = some o ∧ ∀ ps, o ≠ .tbl ps := by
  unfold hold at e
  by_cases h : b ∈ ms
  · rw [if_pos h] at e; cases e
  · rw [if_neg h] at e
    exact ⟨h, noT_of e⟩
theorem hold_at {H : Hp} {ms : List Addr} {b : Addr} {o : HO} (h : b ∉ ms) (e : H b = some o) (n : ∀ ps, o ≠ .tbl ps) : hold H ms b = some o := by
  unfold hold
  rw [if_neg h]
  exact noT_at e n
theorem hold_none {H : Hp} {ms : List Addr} {b : Addr} (h : b ∈ ms) : hold H ms b = none := by
  unfold hold
  rw [if_pos h]
theorem hold_same (H : Hp) (ms : List Addr) : Same (hold H ms) H := fun _ _ e => (hold_of e).2.1
theorem hold_kpN {H : Hp} {ms : List Addr} (m : ∀ a ∈ ms, Mutb H a) : KpN H (hold H ms) := fun b o e n1 n2 n3 => hold_at (fun z => by
  rcases m b z o e with ⟨xs, y⟩ | ⟨C, dx, fs, y⟩
  · exact n1 xs y
  · exact n2 C dx fs y) e n3

theorem side_init {K : PySem.W.Frag} {C : Addr} {ks : List Bool} {os : List (Nat × Bool)} {rs : List (List PyData)} {vk : V} {xo : List V} {H : Hp} {ms : List Addr} {d : Sd} (p : Pre C vk xo H d) (m : ∀ a ∈ d.x :: [d.S, d.G, d.Lf], a ∈ ms) (o : d.O ∉ ms) (nd : d.ads.Nodup) (hk : Dp K (hold H ms) vk (kindsD ks)) (hO : Dp K (hold H ms) (.ref d.O) (orderD os)) (oz : os.length ≤ 1000) :
    SideAt K C ks os rs (hold H ms) H d.S d.x d.G d.Lf 0 [] := by
  obtain ⟨dx, hx⟩ := p.x
  simp only [Sd.ads, List.nodup_cons, List.mem_cons, List.not_mem_nil, or_false, not_or, not_false_eq_true, List.nodup_nil, and_true] at nd
  obtain ⟨⟨n1, n2, n3⟩, ⟨n4, n5⟩, n6⟩ := nd
  refine ⟨p.s, ⟨hold_same _ _, hold_none (m _ (by simp)), hold_none (m _ (by simp)), oz, ⟨dx, vk, _, hx, hk, hO⟩, ⟨[], ⟨p.g, rfl, fun z h => nomatch h⟩, fun i _ h => nomatch h⟩, fun q h => nomatch h⟩, ⟨[], [], p.l, .nil, List.Perm.nil, List.Pairwise.nil⟩, (fun q h => nomatch h), Nat.zero_le _, Nat.le_refl _, hold_none (m _ (by simp)), hold_none (m _ (by simp)), n2, n1, Ne.symm n4⟩
theorem two_init {K : PySem.W.Frag} {C pK pW pR pD : Addr} {ks : List Bool} {os : List (Nat × Bool)} {rs : List (List PyData)} {vk : V} {xo xr : List V} {H2 H4 H5 : Hp} {B L SL O0 vr : Addr} {d1 d2 : Sd} (b2 : BoxAt H2 B L) (sm : Same H2 H4) (s5 : SameX B L H4 H5) (b5 : BoxAt H5 B L) (hSL : H2 SL = none) (hSL4 : H4 SL = some (.lst [.ref d1.S, .ref d2.S]))
    (p1 : Pre C vk xo H4 d1) (p2 : Pre C vk xo H4 d2) (fr : ∀ d ∈ [d1, d2], ∀ b ∈ d.x :: d.ads, H2 b = none ∧ b ≠ SL) (nd : ([d1, d2].flatMap Sd.ads).Nodup) (nx : d1.x ≠ d2.x) (hk2 : Dp K H2 vk (kindsD ks)) (hO : H2 O0 = some (.lst xo)) (hOB : O0 ≠ B) (hOL : O0 ≠ L) (hdO : DpAll K H2 xo (os.map partD)) (oz : os.length ≤ 1000)
    (hr0 : H4 vr = none) (hR : H5 vr = some (.lst xr)) (hdR : DpAll K H5 xr (rs.map .tuple)) (tK : Tab H2 pK) (tW : Tab H2 pW) (tR : Tab H2 pR) (tD : LamX.TabS H2 pD qD) (okr : ∀ r ∈ rs, isRow ks (.tuple r) = true) :
    Two K C pD ks os rs (hold H5 (mutsOf B L SL d1 d2)) H5 B L SL [.ref d1.S, .ref d2.S] d1.S d1.x d1.G d1.Lf 0 [] d2.S d2.x d2.G d2.Lf 0 [] ∧ Dp K (hold H5 (mutsOf B L SL d1 d2)) vk (kindsD ks) ∧ Dp K (hold H5 (mutsOf B L SL d1 d2)) (.ref O0) (orderD os) ∧ Dp K (hold H5 (mutsOf B L SL d1 d2)) (.ref vr) (rowsD rs) ∧ Tab (hold H5 (mutsOf B L SL d1 d2)) pK ∧ Tab (hold H5 (mutsOf B L SL d1 d2)) pW ∧ Tab (hold H5 (mutsOf B L SL d1 d2)) pR ∧ (∀ b ps, hold H5 (mutsOf B L SL d1 d2) b ≠ some (.tbl ps)) := by
  have s25 : SameX B L H2 H5 := fun b o n1 n2 e => s5 b o n1 n2 (sm b o e)
  have b4 := b2.same sm
  obtain ⟨_, ⟨st, hB⟩, ⟨mz, hL⟩⟩ := b5
  obtain ⟨nBL, ⟨st2, hB2⟩, ⟨mz2, hL2⟩⟩ := b2
  have nb : ∀ d ∈ [d1, d2], ∀ b ∈ d.x :: d.ads, b ≠ B ∧ b ≠ L := fun d hd b hb => ⟨fun z => (by have := (fr d hd b hb).1; rw [z, hB2] at this; cases this), fun z => (by have := (fr d hd b hb).1; rw [z, hL2] at this; cases this)⟩
  have hSLB : SL ≠ B ∧ SL ≠ L := ⟨fun z => (by rw [z, hB2] at hSL; cases hSL), fun z => (by rw [z, hL2] at hSL; cases hSL)⟩
  have hSL5 := s5 _ _ hSLB.1 hSLB.2 hSL4
  have q1 : Pre C vk xo H5 d1 := p1.move fun b o e hb => s5 b o (nb d1 (by simp) b hb).1 (nb d1 (by simp) b hb).2 e
  have q2 : Pre C vk xo H5 d2 := p2.move fun b o e hb => s5 b o (nb d2 (by simp) b hb).1 (nb d2 (by simp) b hb).2 e
  obtain ⟨dx1, hx1⟩ := q1.x
  obtain ⟨dx2, hx2⟩ := q2.x
  have mm : ∀ a ∈ mutsOf B L SL d1 d2, Mutb H5 a := fun a ha => by
    simp only [mutsOf, List.mem_cons, List.not_mem_nil, or_false] at ha
    rcases ha with e | e | e | e | e | e | e | e | e | e | e <;> rw [e]
    · exact mutb_lst hB
    · exact mutb_lst hL
    · exact mutb_lst hSL5
    · exact mutb_lst q1.s
    · exact mutb_ins hx1
    · exact mutb_lst q1.g
    · exact mutb_lst q1.l
    · exact mutb_lst q2.s
    · exact mutb_ins hx2
    · exact mutb_lst q2.g
    · exact mutb_lst q2.l
  have kp := hold_kpN mm
  have nd' := nd
  simp only [List.flatMap_cons, List.flatMap_nil, List.append_nil, Sd.ads, List.cons_append, List.nil_append, List.nodup_cons, List.mem_cons, List.not_mem_nil, or_false, not_or, not_false_eq_true, List.nodup_nil, and_true] at nd'
  obtain ⟨⟨a1, a2, a3, a4, a5, a6, a7⟩, ⟨c1, c2, c3, c4, c5, c6⟩, ⟨e1, e2, e3, e4, e5⟩, ⟨f1, f2, f3, f4⟩, ⟨g1, g2, g3⟩, ⟨i1, i2⟩, j1⟩ := nd'
  have nxl : ∀ {x : Addr} {C dx : Addr} {fs : List (Str × V)} {a : Addr} {ys : List V}, H5 x = some (.ins C dx fs) → H5 a = some (.lst ys) → a ≠ x := fun h1 h2 z => by rw [z, h1] at h2; cases h2
  have fresh1 : ∀ b ∈ d1.x :: d1.ads, H2 b = none ∧ b ≠ SL := fr d1 (by simp)
  have fresh2 : ∀ b ∈ d2.x :: d2.ads, H2 b = none ∧ b ≠ SL := fr d2 (by simp)
  have o1 : d1.O ∉ mutsOf B L SL d1 d2 := by
    have h1 := nb d1 (by simp) d1.O (by simp [Sd.ads])
    have h2 := fresh1 d1.O (by simp [Sd.ads])
    simp only [mutsOf, List.mem_cons, List.not_mem_nil, or_false, not_or]
    exact ⟨h1.1, h1.2, h2.2, Ne.symm a3, nxl hx1 q1.o, Ne.symm c2, Ne.symm e1, f1, nxl hx2 q1.o, f2, f3⟩
  have o2 : d2.O ∉ mutsOf B L SL d1 d2 := by
    have h1 := nb d2 (by simp) d2.O (by simp [Sd.ads])
    have h2 := fresh2 d2.O (by simp [Sd.ads])
    simp only [mutsOf, List.mem_cons, List.not_mem_nil, or_false, not_or]
    exact ⟨h1.1, h1.2, h2.2, Ne.symm a7, nxl hx1 q2.o, Ne.symm c6, Ne.symm e5, Ne.symm g3, nxl hx2 q2.o, Ne.symm i2, Ne.symm j1⟩
  have old : ∀ {b : Addr} {o : HO}, H2 b = some o → b ≠ B → b ≠ L → b ∉ mutsOf B L SL d1 d2 := fun {b o} e n1 n2 => by
    have ne : ∀ {c : Addr}, H2 c = none → b ≠ c := fun h z => by rw [z, h] at e; cases e
    have F1 : ∀ c ∈ d1.x :: d1.ads, b ≠ c := fun c hc => ne (fresh1 c hc).1
    have F2 : ∀ c ∈ d2.x :: d2.ads, b ≠ c := fun c hc => ne (fresh2 c hc).1
    simp only [mutsOf, List.mem_cons, List.not_mem_nil, or_false, not_or]
    exact ⟨n1, n2, ne hSL, F1 _ (by simp [Sd.ads]), F1 _ (by simp), F1 _ (by simp [Sd.ads]), F1 _ (by simp [Sd.ads]), F2 _ (by simp [Sd.ads]), F2 _ (by simp), F2 _ (by simp [Sd.ads]), F2 _ (by simp [Sd.ads])⟩
  have new : vr ∉ mutsOf B L SL d1 d2 := by
    obtain ⟨y1, hy1⟩ := p1.x
    obtain ⟨y2, hy2⟩ := p2.x
    have ne : ∀ {c : Addr} {o : HO}, H4 c = some o → vr ≠ c := fun h z => by rw [← z, hr0] at h; cases h
    simp only [mutsOf, List.mem_cons, List.not_mem_nil, or_false, not_or]
    exact ⟨ne (sm _ _ hB2), ne (sm _ _ hL2), ne hSL4, ne p1.s, ne hy1, ne p1.g, ne p1.l, ne p2.s, ne hy2, ne p2.g, ne p2.l⟩
  have noT2 : ∀ {p : Addr}, Tab H2 p → Tab (hold H5 (mutsOf B L SL d1 d2)) p := fun {p} h => by
    have n1 : p ≠ B := fun z => by unfold Tab at h; rw [z, hB2] at h; cases h
    have n2 : p ≠ L := fun z => by unfold Tab at h; rw [z, hL2] at h; cases h
    exact hold_at (old h n1 n2) (s25 _ _ n1 n2 h) fun ps z => nomatch z
  have hk5 := dp_x ⟨nBL, ⟨st2, hB2⟩, ⟨mz2, hL2⟩⟩ s25 _ (kinds_noL ks) hk2
  have hkc := dp_kpN kp _ (kinds_noL ks) hk5
  have noO : ∀ d ∈ os.map partD, noL d = true := fun d hd => by
    obtain ⟨p, _, rfl⟩ := List.mem_map.mp hd
    rfl
  have hdO5 := dpAll_x ⟨nBL, ⟨st2, hB2⟩, ⟨mz2, hL2⟩⟩ s25 _ (noLs_iff.mpr noO) hdO
  have hdOc := dpAll_kpN kp noO hdO5
  have ordOf : ∀ {o : Addr}, o ∉ mutsOf B L SL d1 d2 → H5 o = some (.lst xo) → Dp K (hold H5 (mutsOf B L SL d1 d2)) (.ref o) (orderD os) := fun {o} h e => .lst (SqL.of (hold_at h e fun ps z => nomatch z)) hdOc
  have noR : ∀ d ∈ rs.map PyData.tuple, noL d = true := fun d hd => by
    obtain ⟨p, hp, rfl⟩ := List.mem_map.mp hd
    exact row_noL7 (okr p hp)
  refine ⟨⟨⟨nBL, ⟨st, hB⟩, ⟨mz, hL⟩⟩, hSL5, ?_, ?_, tabS_x b4 s5 (tD.ext sm), nx, ?_⟩, hkc, ordOf (old hO hOB hOL) (s25 _ _ hOB hOL hO), .lst (SqL.of (hold_at new hR fun ps z => nomatch z)) (dpAll_kpN kp noR hdR), noT2 tK, noT2 tW, noT2 tR, fun b ps e => (hold_of e).2.2 ps rfl⟩
  · exact side_init q1 (fun a ha => by
      simp only [List.mem_cons, List.not_mem_nil, or_false] at ha
      rcases ha with e | e | e | e <;> simp [mutsOf, e]) o1 (by simp [Sd.ads, a1, a2, a3, c1, c2, e1]) hkc (ordOf o1 q1.o) oz
  · exact side_init q2 (fun a ha => by
      simp only [List.mem_cons, List.not_mem_nil, or_false] at ha
      rcases ha with e | e | e | e <;> simp [mutsOf, e]) o2 (by simp_all [Sd.ads]) hkc (ordOf o2 q2.o) oz
  · have A : ∀ d ∈ [d1, d2], ∀ b ∈ [d.S, d.G, d.Lf], B ≠ b ∧ L ≠ b ∧ SL ≠ b := fun d hd b hb => by
      have hb' : b ∈ d.x :: d.ads := by
        simp only [Sd.ads, List.mem_cons, List.not_mem_nil, or_false] at hb ⊢
        rcases hb with e | e | e <;> simp [e]
      exact ⟨Ne.symm (nb d hd b hb').1, Ne.symm (nb d hd b hb').2, Ne.symm (fr d hd b hb').2⟩
    have A1 := A d1 (by simp)
    have A2 := A d2 (by simp)
    have s1 := A1 d1.S (by simp)
    have s2 := A1 d1.G (by simp)
    have s3 := A1 d1.Lf (by simp)
    have s4 := A2 d2.S (by simp)
    have s5' := A2 d2.G (by simp)
    have s6 := A2 d2.Lf (by simp)
    simp only [List.nodup_cons, List.mem_cons, List.not_mem_nil, or_false, not_or, not_false_eq_true, List.nodup_nil, and_true]
    exact ⟨⟨nBL, Ne.symm hSLB.1, s1.1, s2.1, s3.1, s4.1, s5'.1, s6.1⟩, ⟨Ne.symm hSLB.2, s1.2.1, s2.2.1, s3.2.1, s4.2.1, s5'.2.1, s6.2.1⟩, ⟨s1.2.2, s2.2.2, s3.2.2, s4.2.2, s5'.2.2, s6.2.2⟩, ⟨a1, a2, a4, a5, a6⟩, ⟨c1, c3, c4, c5⟩, ⟨e2, e3, e4⟩, ⟨g1, g2⟩, i1⟩

/-- both sides, in their order -/
def Inv1 (K : PySem.W.Frag) (C pD : Addr) (ks : List Bool) (os : List (Nat × Bool)) (rs : List (List PyData)) (Hc : Hp) (B L SL : Addr) (d1 d2 : Sd) (H : Hp) : Prop := ∃ (Lf : Addr) (n : Nat) (gq : List Pr) (Lf' : Addr) (n' : Nat) (gq' : List Pr), Two K C pD ks os rs Hc H B L SL [.ref d1.S, .ref d2.S] d1.S d1.x d1.G Lf n gq d2.S d2.x d2.G Lf' n' gq'
theorem Inv1.pick {K : PySem.W.Frag} {C pD : Addr} {ks : List Bool} {os : List (Nat × Bool)} {rs : List (List PyData)} {Hc : Hp} {B L SL : Addr} {d1 d2 : Sd} {H : Hp} (h : Inv1 K C pD ks os rs Hc B L SL d1 d2 H) {i : Nat} {v : V} (e : [V.ref d1.S, .ref d2.S][i]? = some v) :
    ∃ (S x G Lf : Addr) (n : Nat) (gq : List Pr) (S' x' G' Lf' : Addr) (n' : Nat) (gq' : List Pr), v = .ref S ∧ Two K C pD ks os rs Hc H B L SL [.ref d1.S, .ref d2.S] S x G Lf n gq S' x' G' Lf' n' gq' ∧ ∀ (H2 : Hp) (Lf2 : Addr) (n2 : Nat) (gq2 : List Pr), Two K C pD ks os rs Hc H2 B L SL [.ref d1.S, .ref d2.S] S x G Lf2 n2 gq2 S' x' G' Lf' n' gq' → Inv1 K C pD ks os rs Hc B L SL d1 d2 H2 := by
  obtain ⟨Lf, n, gq, Lf', n', gq', t⟩ := h
  match i, e with
  | 0, e => exact ⟨_, _, _, Lf, n, gq, _, _, _, Lf', n', gq', (Option.some.inj e).symm, t, fun H2 Lf2 n2 gq2 t2 => ⟨_, _, _, _, _, _, t2⟩⟩
  | 1, e => exact ⟨_, _, _, Lf', n', gq', _, _, _, Lf, n, gq, (Option.some.inj e).symm, t.swap, fun H2 Lf2 n2 gq2 t2 => ⟨_, _, _, _, _, _, t2.swap⟩⟩
theorem Inv1.grow {K : PySem.W.Frag} {C pD : Addr} {ks : List Bool} {os : List (Nat × Bool)} {rs : List (List PyData)} {Hc : Hp} {B L SL : Addr} {d1 d2 : Sd} {H H' : Hp} (h : Inv1 K C pD ks os rs Hc B L SL d1 d2 H) (s : Same H H') (nt : ∀ b ps, Hc b ≠ some (.tbl ps)) (okr : ∀ r ∈ rs, isRow ks (.tuple r) = true) : Inv1 K C pD ks os rs Hc B L SL d1 d2 H' := by
  obtain ⟨Lf, n, gq, Lf', n', gq', t⟩ := h
  exact ⟨Lf, n, gq, Lf', n', gq', t.grow s nt okr⟩
theorem Two.x {K : PySem.W.Frag} {C pD : Addr} {ks : List Bool} {os : List (Nat × Bool)} {rs : List (List PyData)} {Hc H H' : Hp} {B L SL S x G Lf S' x' G' Lf' : Addr} {sls : List V} {n n' : Nat} {gq gq' : List Pr} (h : Two K C pD ks os rs Hc H B L SL sls S x G Lf n gq S' x' G' Lf' n' gq') (s : SameX B L H H') (b : BoxAt H' B L) (nt : ∀ b ps, Hc b ≠ some (.tbl ps)) (okr : ∀ r ∈ rs, isRow ks (.tuple r) = true) (cB : Hc B = none) (cL : Hc L = none) : Two K C pD ks os rs Hc H' B L SL sls S x G Lf n gq S' x' G' Lf' n' gq' := by
  have nd := h.nd
  simp only [List.nodup_cons, List.mem_cons, List.not_mem_nil, or_false, not_or, not_false_eq_true, List.nodup_nil, and_true] at nd
  obtain ⟨⟨b1, b2, b3, b4, b5, b6, b7, b8⟩, ⟨l1, l2, l3, l4, l5, l6, l7⟩, _⟩ := nd
  obtain ⟨_, ⟨st, hB⟩, ⟨ms, hL⟩⟩ := h.box
  obtain ⟨dx, _, _, hx, _⟩ := h.a.sv.ob
  obtain ⟨dx', _, _, hx', _⟩ := h.b.sv.ob
  have nl : ∀ {x C dx : Addr} {fs : List (Str × V)} {a : Addr} {ys : List V}, H x = some (.ins C dx fs) → H a = some (.lst ys) → x ≠ a := fun h1 h2 z => by rw [z, h2] at h1; cases h1
  have mA : ∀ a ∈ [B, L], Hc a = none ∧ Mutb H a := fun a ha => by
    simp only [List.mem_cons, List.not_mem_nil, or_false] at ha
    rcases ha with e | e <;> rw [e]
    · exact ⟨cB, mutb_lst hB⟩
    · exact ⟨cL, mutb_lst hL⟩
  refine ⟨b, s _ _ (Ne.symm b2) (Ne.symm l1) h.sl, h.a.other (FrD.x s) ?_ mA nt okr, h.b.other (FrD.x s) ?_ mA nt okr, tabS_x h.box s h.tD, h.nx, h.nd⟩
  · simp only [List.mem_cons, List.not_mem_nil, or_false, not_or]
    exact ⟨⟨Ne.symm b3, Ne.symm l2⟩, ⟨nl hx hB, nl hx hL⟩, ⟨Ne.symm b4, Ne.symm l3⟩, ⟨Ne.symm b5, Ne.symm l4⟩⟩
  · simp only [List.mem_cons, List.not_mem_nil, or_false, not_or]
    exact ⟨⟨Ne.symm b6, Ne.symm l5⟩, ⟨nl hx' hB, nl hx' hL⟩, ⟨Ne.symm b7, Ne.symm l6⟩, ⟨Ne.symm b8, Ne.symm l7⟩⟩
theorem Inv1.x {K : PySem.W.Frag} {C pD : Addr} {ks : List Bool} {os : List (Nat × Bool)} {rs : List (List PyData)} {Hc : Hp} {B L SL : Addr} {d1 d2 : Sd} {H H' : Hp} (h : Inv1 K C pD ks os rs Hc B L SL d1 d2 H) (s : SameX B L H H') (b : BoxAt H' B L) (nt : ∀ b ps, Hc b ≠ some (.tbl ps)) (okr : ∀ r ∈ rs, isRow ks (.tuple r) = true) (cB : Hc B = none) (cL : Hc L = none) : Inv1 K C pD ks os rs Hc B L SL d1 d2 H' := by
  obtain ⟨Lf, n, gq, Lf', n', gq', t⟩ := h
  exact ⟨Lf, n, gq, Lf', n', gq', t.x s b nt okr cB cL⟩

theorem Two.at {K : PySem.W.Frag} {C pD : Addr} {ks : List Bool} {os : List (Nat × Bool)} {rs : List (List PyData)} {Hc H : Hp} {B L SL : Addr} {S x G Lf S' x' G' Lf' : Addr} {sls : List V} {n n' : Nat} {gq gq' : List Pr} (h : Two K C pD ks os rs Hc H B L SL sls S x G Lf n gq S' x' G' Lf' n' gq') {j : Nat} {v : V} (e : [V.ref S, .ref S'][j]? = some v) :
    ∃ (S x G Lf : Addr) (n : Nat) (gr : List Pr), v = .ref S ∧ SideAt K C ks os rs Hc H S x G Lf n gr ∧ [V.int gq.length, .int gq'.length].take (j + 1) = [V.int gq.length, .int gq'.length].take j ++ [.int gr.length] ∧ j < 2 := by
  match j, e with
  | 0, e => exact ⟨_, _, _, Lf, n, gq, (Option.some.inj e).symm, h.a, rfl, by decide⟩
  | 1, e => exact ⟨_, _, _, Lf', n', gq', (Option.some.inj e).symm, h.b, rfl, by decide⟩

theorem Inv1.sl {K : PySem.W.Frag} {C pD : Addr} {ks : List Bool} {os : List (Nat × Bool)} {rs : List (List PyData)} {Hc : Hp} {B L SL : Addr} {d1 d2 : Sd} {H : Hp} (h : Inv1 K C pD ks os rs Hc B L SL d1 d2 H) : H SL = some (.lst [.ref d1.S, .ref d2.S]) := by
  obtain ⟨Lf, n, gq, Lf', n', gq', t⟩ := h
  exact t.sl
theorem Inv1.same {K : PySem.W.Frag} {C pD : Addr} {ks : List Bool} {os : List (Nat × Bool)} {rs : List (List PyData)} {Hc : Hp} {B L SL : Addr} {d1 d2 : Sd} {H : Hp} (h : Inv1 K C pD ks os rs Hc B L SL d1 d2 H) : Same Hc H := by
  obtain ⟨Lf, n, gq, Lf', n', gq', t⟩ := h
  exact t.a.sv.same
end RS
set_option Elab.async false
set_option maxRecDepth 100000
set_option maxHeartbeats 8000000
set_option pp.maxSteps 400
namespace RS
open PySem PySem.Spec PyProof.Rows L2 GX HQ LM
structure Parts1 (P : Program) (w : World) (K : PySem.W.Frag) (mg : Str → Option Value) (base : Heap) (C CR CE SE pK pW pR pD : Addr) : Prop where
  begun : Cal P w K mg base CX0 1 "_law_begun" ["_law_script"] (spBegun K)
  take : Cal P w K mg base CX0 1 "_law_take" ["_law_box", "_law_many"] spTake
  kinds : Cal P w K mg base CX0 2 "_law_kinds" ["_law_box"] (spKinds K)
  order : Cal P w K mg base CX0 2 "_law_order" ["_law_box", "_law_kinds_here"] (spOrder K)
  rows : Cal P w K mg base CX0 3 "_law_rows" ["_law_box", "_law_kinds_here", "_law_most"] (spRows K)
  alike : Cal P w K mg base CX0 42 "_law_alike" ["_law_found", "_law_due"] (spAlike K 40)
  deed : Cal P w K mg base CX0 44 "_law_deed" ["_law_box", "_law_kinds_here", "_law_order_here", "_law_rows_here", "_law_side"] (spDeed K C pW pR pD)
  make : MakC P w K mg base CX0 4 "Sieve" C ["self", "kinds", "order"] (spSvI K C pK)
  tk : MetC P w K mg base (L2.CX P w) 1 C "take" ["self"] (spSvTake K C CE)
  rem : MetC P w K mg base CX0 1 C "remains" ["self"] (spSvRem K C)
def spLaw1 (K : PySem.W.Frag) (pK pW pR pD : Addr) : Sp := fun vs H Q _ => ∃ (a : Addr) (ns : List Int), vs = [.ref a] ∧ SqL K H a (ns.map V.int) ∧ Tab H pK ∧ Tab H pW ∧ Tab H pR ∧ LamX.TabS H pD qD ∧ ∀ H', Tab H' pK → Tab H' pW → Tab H' pR → Q (.bl true) H'
section
variable {P : Program} {w : World} {K : PySem.W.Frag} {mg : Str → Option Value} {base : Heap}
theorem scLaw1 : FnScope ["_law_script", "_law_box", "_law_kinds_here", "_law_order_here", "_law_sides", "_law_k", "_law_handed", "_law_rows_here", "_law_turn", "_law_side"] ["_law_script"] (defScope sLaw) := ⟨rfl, rfl, rfl, by decide +kernel, rfl, by decide +kernel, by decide +kernel⟩
theorem law1_fn {f c C CR CE SE pK pW pR pD : Addr} {oc kV doc pm ct : Value} {od an : Option Addr} {osl : Array (Option Value)} (lk : K.lookup f = some ⟨oc, od, .func (PySem.W.fnOf "law" "law" (defArgs sLaw) (defBody sLaw) (defScope sLaw) .none kV doc pm an (.ref c) ct), osl⟩) (hcd : PySem.W.codeIn K (.ref c) "law" = true)
    (T : Txt K mg) (C1 : Parts1 P w K mg base C CR CE SE pK pW pR pD) : FnOk P w K mg base CX0 45 f (PySem.W.fnOf "law" "law" (defArgs sLaw) (defBody sLaw) (defScope sLaw) .none kV doc pm an (.ref c) ct) ["_law_script"] (spLaw1 K pK pW pR pD) := by
  have sc := scLaw1
  refine fn_of0 lk hcd sc (fun vs H Q E h => ?_) (fun f A outer s H vs Q E hr h => ?_)
  · obtain ⟨a, ns, rfl, _⟩ := h
    rfl
  · obtain ⟨a, ns, rfl, hS, tK, tW, tR, tD, k⟩ := h
    have hu := hr.units
    refine ⟨_, (pss_cons (ps_set (i := 1) sc.nd rfl (Or.inl rfl) (pe_c C1.begun hr (by decide) (by rfl) pass0 (pa_cons (pv 0) pa_nil))) (pss_cons (ps_set (i := 2) sc.nd rfl (Or.inl rfl) (pe_c C1.kinds hr (by decide) (by rfl) pass0 (pa_cons (pv 1) pa_nil))) (pss_cons (ps_set (i := 3) sc.nd rfl (Or.inl rfl) (pe_c C1.order hr (by decide) (by rfl) pass0 (pa_cons (pv 1) (pa_cons (pv 2) pa_nil)))) (pss_cons (ps_set (i := 4) sc.nd rfl (Or.inl rfl) (pe_lst pa_nil)) (pss_cons (ps_for PassesOwn.never rfl (pi_range1 (by rfl) T.range (pa_cons pe_int pa_nil)) (pg_name (i := 5) sc.nd rfl (Or.inl rfl)) (pss_cons (ps_set (i := 6) sc.nd rfl (Or.inl rfl) (pe_callTy call_list_of (by rfl) T.list_ (by decide +kernel) (pa_cons (pv 3) pa_nil))) (pss_cons (ps_expr (pe_bm PySem.F.plainAttrs_list PySem.F.slot_list_append PySem.F.type_list_append mt_append (pv 4) (pa_cons (pe_lst (pa_cons (pe_mk C1.make hr (by decide) (by rfl) pass0 (pa_cons (pv 2) (pa_cons (pv 6) pa_nil))) (pa_cons (pe_lst pa_nil) (pa_cons pe_int pa_nil)))) pa_nil))) (pss_one (ps_expr (pe_bm0 PySem.F.plainAttrs_list PySem.F.slot_list_clear PySem.F.type_list_clear mt_clear (pv 6))))))) (pss_cons (ps_set (i := 7) sc.nd rfl (Or.inl rfl) (pe_c C1.rows hr (by decide) (by rfl) pass0 (pa_cons (pv 1) (pa_cons (pv 2) (pa_cons pe_int pa_nil))))) (pss_cons (ps_for PassesOwn.never rfl (pi_range1 (by rfl) T.range (pa_cons (pe_c C1.take hr (by decide) (by rfl) pass0 (pa_cons (pv 1) (pa_cons pe_int pa_nil))) pa_nil)) (pg_name (i := 8) sc.nd rfl (Or.inl rfl)) (pss_cons (ps_if (pt_not (pt_val (pe_c C1.deed hr (by decide) (by rfl) pass0 (pa_cons (pv 1) (pa_cons (pv 2) (pa_cons (pv 3) (pa_cons (pv 7) (pa_cons (pe_ix ix_list (pv 4) (pe_op op_fdiv (pe_c C1.take hr (by decide) (by rfl) pass0 (pa_cons (pv 1) (pa_cons pe_int pa_nil))) pe_int) (fun _ _ => rfl)) pa_nil)))))))) (pss_one (ps_ret pe_bl)) pss_nil) (pss_one (ps_if (pt_not (pt_val (pe_c C1.alike hr (by decide) (by rfl) pass0 (pa_cons (pe_lc (own := [("_law_side", 9)]) (tt := tYes)  rfl sc.nd (pi_list (pv 4)) (blkOk_by (N := ["_law_script", "_law_box", "_law_kinds_here", "_law_order_here", "_law_sides", "_law_k", "_law_handed", "_law_rows_here", "_law_turn", "_law_side"]) (sc := defScope sLaw) (own := [("_law_side", 9)]) (by decide +kernel)) (fun _ _ _ _ _ => (pg_name (i := 9) sc.nd rfl (Or.inl rfl))) (fun _ _ _ _ _ => pts_nil) (fun _ _ _ _ _ => (pe_m0 C1.rem hr (by decide) pass0 (pe_ix (ix_listC (K := K) rfl) (pv 9) pe_int (fun _ _ => rfl))))) (pa_cons (pe_lc (own := [("_law_side", 9)]) (tt := tYes)  rfl sc.nd (pi_list (pv 4)) (blkOk_by (N := ["_law_script", "_law_box", "_law_kinds_here", "_law_order_here", "_law_sides", "_law_k", "_law_handed", "_law_rows_here", "_law_turn", "_law_side"]) (sc := defScope sLaw) (own := [("_law_side", 9)]) (by decide +kernel)) (fun _ _ _ _ _ => (pg_name (i := 9) sc.nd rfl (Or.inl rfl))) (fun _ _ _ _ _ => pts_nil) (fun _ _ _ _ _ => (pe_callB (len_seqC (K := K) rfl) (by rfl) T.len PySem.boot_len (pa_cons (pe_ix (ix_listC (K := K) rfl) (pv 9) pe_int (fun _ _ => rfl)) pa_nil)))) pa_nil))))) (pss_one (ps_ret pe_bl)) pss_nil)))) (pss_cons (ps_for PassesOwn.never rfl (pi_list (pv 4)) (pg_name (i := 9) sc.nd rfl (Or.inl rfl)) (pss_one (ps_while PassesOwn.never (pt_cmpR (op_neD hu) (pe_ix ix_list (pv 9) pe_int (fun _ _ => rfl)) (pe_lst pa_nil) (nomark _)) (pss_one (ps_if (pt_not (pt_val (pe_c C1.alike hr (by decide) (by rfl) pass0 (pa_cons (pe_m0 C1.tk hr (by decide) passX0 (pe_ix ix_list (pv 9) pe_int (fun _ _ => rfl))) (pa_cons (pe_bm PySem.F.plainAttrs_list PySem.F.slot_list_pop PySem.F.type_list_pop mt_popAt (pe_ix ix_list (pv 9) pe_int (fun _ _ => rfl)) (pa_cons pe_int pa_nil)) pa_nil))))) (pss_one (ps_ret pe_bl)) pss_nil))))) (pss_one (ps_ret pe_bl)))))))))), ?_⟩
    refine ⟨_, rfl, a, ns, rfl, hS, fun H0 B L s0 _ _ bx0 => ?_⟩
    refine ⟨_, rfl, B, L, rfl, bx0, fun H1 vk ks s1 b1 k1 k4 hk => ?_⟩
    refine ⟨_, rfl, _, rfl, B, L, vk, ks, rfl, b1, hk, k1, k4, fun H2 O0 os xo s2 b2 oko l4 fO hO hdO => ?_⟩
    have nkL := kinds_noL ks
    have hk2 := dp_x b1 s2 _ nkL hk
    have s02 := s1.trans s2
    have tK2 : Tab H2 pK := s02 _ _ (fun z => by rw [z] at tK; obtain ⟨_, ⟨st, hB⟩, _⟩ := bx0; have := s0 _ _ tK; rw [hB] at this; cases this) (fun z => by rw [z] at tK; obtain ⟨_, _, ⟨st, hB⟩⟩ := bx0; have := s0 _ _ tK; rw [hB] at this; cases this) (s0 _ _ tK)
    have tW2 : Tab H2 pW := s02 _ _ (fun z => by rw [z] at tW; obtain ⟨_, ⟨st, hB⟩, _⟩ := bx0; have := s0 _ _ tW; rw [hB] at this; cases this) (fun z => by rw [z] at tW; obtain ⟨_, _, ⟨st, hB⟩⟩ := bx0; have := s0 _ _ tW; rw [hB] at this; cases this) (s0 _ _ tW)
    have tR2 : Tab H2 pR := s02 _ _ (fun z => by rw [z] at tR; obtain ⟨_, ⟨st, hB⟩, _⟩ := bx0; have := s0 _ _ tR; rw [hB] at this; cases this) (fun z => by rw [z] at tR; obtain ⟨_, _, ⟨st, hB⟩⟩ := bx0; have := s0 _ _ tR; rw [hB] at this; cases this) (s0 _ _ tR)
    have tD2 : LamX.TabS H2 pD qD := tabS_x bx0 s02 (tD.ext s0)
    have big : (1000 : Nat) ≤ sizeLine := by decide
    refine ⟨Nat.zero_le _, fun SL hSL => ?_⟩
    refine ⟨_, rfl, by decide, by decide, ?_⟩
    rw [show (2 : Int).toNat = 2 from rfl]
    refine for_range (fun j σ H' => ∃ (v5 v6 : Option V) (sds : List Sd), σ = [some (.ref a), some (.ref B), some vk, some (.ref O0), some (.ref SL), v5, v6, none, none, none] ∧ Same H2 H' ∧ H' SL = some (.lst (sds.map fun d => V.ref d.S)) ∧ sds.length = j ∧ (∀ d ∈ sds, Pre C vk xo H' d) ∧ (∀ d ∈ sds, ∀ b ∈ d.x :: d.ads, H2 b = none ∧ b ≠ SL) ∧ (sds.flatMap Sd.ads).Nodup ∧ (sds.map Sd.x).Nodup)
      ⟨none, none, [], rfl, sameNew (Same.refl H2) hSL, upd_same, rfl, (fun _ h => nomatch h), (fun _ h => nomatch h), List.nodup_nil, List.nodup_nil⟩ ?_ ?_
    · rintro j σ H4 hj ⟨v5, v6, sds, rfl, sm, hSL4, lj, pre, fresh, nd, ndx⟩
      refine ⟨_, rfl, O0, _, rfl, .inl (SqL.of (sm _ _ hO)), fun A0 hA0 => ?_⟩
      have s5 := sameNew (o := .lst xo) (Same.refl H4) hA0
      have hA5 : upd H4 A0 (.lst xo) A0 = some (.lst xo) := upd_same
      generalize upd H4 A0 (.lst xo) = H5 at s5 hA5 ⊢
      have sm5 := sm.trans s5
      refine ⟨_, rfl, .inl ⟨rfl, _, SqL.of (s5 _ _ hSL4)⟩, ?_⟩
      refine ⟨_, rfl, _, rfl, fun x dx hx0 hdx0 ned => ?_⟩
      have s6 := sameNew (o := .ins C dx []) (sameNew (o := .own x) (Same.refl H5) hdx0) ((upd_ne (Ne.symm ned)).trans hx0)
      have hx6 : upd (upd H5 dx (.own x)) x (.ins C dx []) x = some (.ins C dx []) := upd_same
      generalize upd (upd H5 dx (.own x)) x (.ins C dx []) = H6 at s6 hx6 ⊢
      have sm6 := sm5.trans s6
      refine ⟨x, dx, A0, vk, ks, os, xo, rfl, hx6, dp_same sm6 _ hk2, k1, k4, SqL.of (s6 _ _ hA5), dpAll_same sm6 _ hdO, oko, by omega, sm6 _ _ tK2, fun H7 O' G nO nG nOG nOx hx7 hO7 hG7 fr7 => ⟨rfl, ?_⟩⟩
      have s57 : Same H5 H7 := fun b o e => fr7 b o (s6 _ _ e) (ne_of_none e hx0)
      refine ⟨Nat.zero_le _, fun Lf hLf => ?_⟩
      have s8 := sameNew (o := .lst []) (Same.refl H7) hLf
      have hL8 : upd H7 Lf (.lst []) Lf = some (.lst []) := upd_same
      generalize upd H7 Lf (.lst []) = H8 at s8 hL8 ⊢
      refine ⟨by show 3 ≤ sizeLine; decide, fun S hS => ?_⟩
      have s9 := sameNew (o := .lst [.ref x, .ref Lf, .int 0]) (Same.refl H8) hS
      have hS9 : upd H8 S (.lst [.ref x, .ref Lf, .int 0]) S = some (.lst [.ref x, .ref Lf, .int 0]) := upd_same
      generalize upd H8 S (.lst [.ref x, .ref Lf, .int 0]) = H9 at s9 hS9 ⊢
      have s79 := s8.trans s9
      have s59 := s57.trans s79
      have s49 := s5.trans s59
      have hSL9 := s49 _ _ hSL4
      refine ⟨SL, _, _, rfl, rfl, hSL9, small1000 (by rw [List.length_map]; omega), ?_⟩
      have nSA : A0 ≠ SL := fun z => by rw [z, hSL4] at hA0; cases hA0
      have hA10 : upd H9 SL (.lst ((sds.map fun d => V.ref d.S) ++ [.ref S])) A0 = some (.lst xo) := (upd_ne nSA).trans (s59 _ _ hA5)
      refine ⟨_, rfl, .inl ⟨rfl, _, SqL.of hA10⟩, A0, _, rfl, rfl, hA10, ?_⟩
      have fA : ∀ b o, H9 b = some o → b ≠ SL → b ≠ A0 → upd (upd H9 SL (.lst ((sds.map fun d => V.ref d.S) ++ [.ref S]))) A0 (.lst []) b = some o := fun b o e n1 n2 => (upd_ne n2).trans ((upd_ne n1).trans e)
      have hSLn : upd (upd H9 SL (.lst ((sds.map fun d => V.ref d.S) ++ [.ref S]))) A0 (.lst []) SL = some (.lst ((sds ++ [(⟨S, x, G, Lf, O'⟩ : Sd)]).map fun d => V.ref d.S)) := by
        rw [upd_ne (Ne.symm nSA), upd_same, List.map_append]
        rfl
      have hx9 := s79 _ _ hx7
      have hO9 := s79 _ _ hO7
      have hG9 := s79 _ _ hG7
      have hL9 := s9 _ _ hL8
      have nO4 := s5.free (s6.free nO)
      have nG4 := s5.free (s6.free nG)
      have nx4 := s5.free hx0
      have nL4 := s5.free (s57.free hLf)
      have nS4 := (s5.trans (s57.trans s8)).free hS
      have n4 : ∀ b ∈ [x, S, G, Lf, O'], H4 b = none := fun b hb => by
        simp only [List.mem_cons, List.not_mem_nil, or_false] at hb
        rcases hb with e | e | e | e | e <;> rw [e]
        · exact nx4
        · exact nS4
        · exact nG4
        · exact nL4
        · exact nO4
      have nsl : ∀ b ∈ [x, S, G, Lf, O'], b ≠ SL := fun b hb z => by have := n4 b hb; rw [z, hSL4] at this; cases this
      have nA5 : ∀ b ∈ [S, G, Lf, O'], b ≠ A0 := fun b hb z => by
        simp only [List.mem_cons, List.not_mem_nil, or_false] at hb
        rcases hb with e | e | e | e
        · rw [z] at e; rw [← e] at hS; rw [s8 _ _ (s57 _ _ hA5)] at hS; cases hS
        · rw [z] at e; rw [← e] at nG; rw [s6 _ _ hA5] at nG; cases nG
        · rw [z] at e; rw [← e] at hLf; rw [s57 _ _ hA5] at hLf; cases hLf
        · rw [z] at e; rw [← e] at nO; rw [s6 _ _ hA5] at nO; cases nO
      have nxA : x ≠ A0 := fun z => by rw [z, hA5] at hx0; cases hx0
      have sN : ∀ b o, H4 b = some o → b ≠ SL → upd (upd H9 SL (.lst ((sds.map fun d => V.ref d.S) ++ [.ref S]))) A0 (.lst []) b = some o := fun b o e n => fA b o (s49 _ _ e) n (ne_of_none e hA0)
      refine ⟨_, _, sds ++ [⟨S, x, G, Lf, O'⟩], rfl, fun b o e => sN b o (sm _ _ e) (ne_of_none e hSL), hSLn, by rw [List.length_append, lj]; rfl, fun d hd => ?_, fun d hd => ?_, ?_, ?_⟩
      · rcases List.mem_append.mp hd with hd | hd
        · exact (pre d hd).move fun b o e hb => sN b o e (fresh d hd b hb).2
        · rw [List.mem_singleton.mp hd]
          exact ⟨fA _ _ hS9 (nsl _ (by simp)) (nA5 _ (by simp)), fA _ _ hL9 (nsl _ (by simp)) (nA5 _ (by simp)), fA _ _ hG9 (nsl _ (by simp)) (nA5 _ (by simp)), fA _ _ hO9 (nsl _ (by simp)) (nA5 _ (by simp)), dx, fA _ _ hx9 (nsl _ (by simp)) nxA⟩
      · rcases List.mem_append.mp hd with hd | hd
        · exact fresh d hd
        · rw [List.mem_singleton.mp hd]
          intro b hb
          have hb' : b ∈ [x, S, G, Lf, O'] := hb
          exact ⟨sm.free (n4 b hb'), nsl b hb'⟩
      · rw [List.flatMap_append, List.flatMap_singleton]
        refine List.nodup_append.mpr ⟨nd, ?_, fun b hb b' hb' z => ?_⟩
        · have h1 : S ≠ G := fun z => by rw [z, s8 _ _ hG7] at hS; cases hS
          have h2 : S ≠ Lf := fun z => by rw [z, hL8] at hS; cases hS
          have h3 : S ≠ O' := fun z => by rw [z, s8 _ _ hO7] at hS; cases hS
          have h4 : G ≠ Lf := fun z => by rw [← z, hG7] at hLf; cases hLf
          have h5 : Lf ≠ O' := fun z => by rw [z, hO7] at hLf; cases hLf
          show [S, G, Lf, O'].Nodup
          simp [h1, h2, h3, h4, h5, Ne.symm nOG]
        · obtain ⟨d, hd, hb⟩ := List.mem_flatMap.mp hb
          have hb'' : b' ∈ [S, G, Lf, O'] := hb'
          have e := n4 b' (List.mem_cons_of_mem _ hb'')
          rw [← z] at e
          have pd := pre d hd
          have hb : b ∈ [d.S, d.G, d.Lf, d.O] := hb
          simp only [List.mem_cons, List.not_mem_nil, or_false] at hb
          rcases hb with q | q | q | q <;> rw [q] at e
          · rw [pd.s] at e; cases e
          · rw [pd.g] at e; cases e
          · rw [pd.l] at e; cases e
          · rw [pd.o] at e; cases e
      · rw [List.map_append]
        refine List.nodup_append.mpr ⟨ndx, by simp, fun b hb b' hb' z => ?_⟩
        obtain ⟨d, hd, e⟩ := List.mem_map.mp hb
        have hb'' : b' = x := by simpa using hb'
        obtain ⟨dx', hx'⟩ := (pre d hd).x
        rw [e, z, hb'', nx4] at hx'
        cases hx'
    · rintro σ H4 ⟨v5, v6, sds, rfl, sm, hSL4, lj, pre, fresh, nd, ndx⟩
      obtain ⟨d1, d2, rfl⟩ : ∃ d1 d2, sds = [d1, d2] := by
        match sds, lj with
        | [d1, d2], _ => exact ⟨d1, d2, rfl⟩
      have b4 := b2.same sm
      refine ⟨_, rfl, _, rfl, B, L, vk, ks, 60, rfl, b4, dp_same sm _ hk2, k1, k4, by decide, by decide, fun H5 vr rs xr s5 b5 r120 okr nR hR hdR => ?_⟩
      have hOB : O0 ≠ B := fun z => by
        obtain ⟨_, ⟨st, hB⟩, _⟩ := b1
        rw [z, hB] at fO; cases fO
      have hOL : O0 ≠ L := fun z => by
        obtain ⟨_, _, ⟨ms, hL⟩⟩ := b1
        rw [z, hL] at fO; cases fO
      obtain ⟨T0, hkc, hoc, hrc, tKc, tWc, tRc, nt⟩ := two_init (K := K) (C := C) (pK := pK) (pW := pW) (pR := pR) (pD := pD) (ks := ks) (os := os) (rs := rs) b2 sm s5 b5 hSL hSL4 (pre d1 (by simp)) (pre d2 (by simp)) (fun d hd => fresh d hd) nd (by simpa using ndx) hk2 hO hOB hOL hdO (by omega) nR hR hdR tK2 tW2 tR2 tD2 okr
      have cB : hold H5 (mutsOf B L SL d1 d2) B = none := hold_none (by simp [mutsOf])
      have cL : hold H5 (mutsOf B L SL d1 d2) L = none := hold_none (by simp [mutsOf])
      generalize hold H5 (mutsOf B L SL d1 d2) = Hc at T0 hkc hoc hrc tKc tWc tRc nt cB cL
      have I0 : Inv1 K C pD ks os rs Hc B L SL d1 d2 H5 := ⟨_, _, _, _, _, _, T0⟩
      refine ⟨_, rfl, B, L, 121, rfl, b5, by decide, by decide, fun H6 turns s6 b6 u0 u1 => ?_⟩
      refine ⟨_, rfl, by omega, by omega, ?_⟩
      refine for_range (fun j σ H' => ∃ v8 v9 : Option V, σ = [some (.ref a), some (.ref B), some vk, some (.ref O0), some (.ref SL), v5, v6, some (.ref vr), v8, v9] ∧ Inv1 K C pD ks os rs Hc B L SL d1 d2 H')
        ⟨none, none, rfl, I0.x s6 b6 nt okr cB cL⟩ ?_ ?_
      · rintro j σ H7 hj ⟨v8, v9, rfl, I7⟩
        obtain ⟨Lf, n, gq, Lf', n', gq', T7⟩ := id I7
        refine ⟨_, rfl, _, rfl, _, rfl, _, rfl, _, rfl, _, rfl, B, L, 3, rfl, T7.box, by decide, by decide, fun H8 wh s8 b8 h0 h3 => ?_⟩
        have I8 := I7.x s8 b8 nt okr cB cL
        obtain ⟨i, hi2, ei⟩ : ∃ i : Nat, i < 2 ∧ wh / 2 = (i : Int) := ⟨(wh / 2).toNat, by omega, by omega⟩
        refine ⟨_, _, rfl, rfl, ⟨by decide, by decide⟩, ?_⟩
        obtain ⟨v, ev⟩ : ∃ v, [V.ref d1.S, .ref d2.S][i]? = some v := ⟨_, List.getElem?_eq_getElem (show i < [V.ref d1.S, .ref d2.S].length from hi2)⟩
        obtain ⟨S, x, G, Lg, m, gr, S', x', G', Lg', m', gr', rfl, T8, back⟩ := I8.pick ev
        refine ⟨SL, _, _, _, rfl, rfl, SqL.of T8.sl, by rw [ei]; exact atI_nat ev, ?_⟩
        have nd8 := T8.nd
        simp only [List.nodup_cons, List.mem_cons, List.not_mem_nil, or_false, not_or, not_false_eq_true, List.nodup_nil, and_true] at nd8
        obtain ⟨⟨b1', b2', n3, n4, n5, n6, n7, n8⟩, ⟨l1, l2, l3, l4', l5, l6, l7⟩, _⟩ := nd8
        have sc8 := T8.a.sv.same
        refine ⟨B, L, S, x, G, Lg, vk, .ref O0, .ref vr, ks, os, rs, Hc, m, gr, rfl, T8.box, cB, cL, hkc, hoc, hrc, k1, k4, oko, r120, okr, nt, T8.a, ⟨Ne.symm n3, Ne.symm l2⟩, ⟨Ne.symm n4, Ne.symm l3⟩, ⟨Ne.symm n5, Ne.symm l4'⟩, tWc, tRc, T8.tD, fun H9 Lf2 n2 gq2 b9 sd9 elf f9 tD9 => ?_⟩
        have T9 := T8.step b9 sd9 elf f9 tD9 nt okr cB cL
        have I9 := back _ _ _ _ T9
        refine ⟨_, rfl, ?_⟩
        refine iteF ?_
        obtain ⟨La, na, ga, Lb, nb, gb, TT⟩ := id I9
        refine ⟨_, rfl, SL, rfl, ⟨_, SqL.of TT.sl⟩, fun DD hD => ?_⟩
        refine lc_list (K := K) (a := SL) (xs := [V.ref d1.S, .ref d2.S]) (fun j H' => Same H9 H' ∧ H' DD = some (.lst ([V.int ga.length, .int gb.length].take j)))
          ⟨sameNew (Same.refl _) hD, upd_same⟩ (fun j H' _ h => SqL.of (h.1 _ _ TT.sl)) ?_ ?_
        · rintro j y H4 hy ⟨sj, hDj⟩
          obtain ⟨S1, x1, G1, Lf1, n1, g1, rfl, sd1, tk, hj2⟩ := (TT.grow sj nt okr).at hy
          obtain ⟨dx1, _, _, hx1, _⟩ := sd1.sv.ob
          refine ⟨rfl, _, rfl, S1, _, _, _, rfl, rfl, SqL.of sd1.s, rfl, x1, dx1, _, rfl, hx1, fs_no (by decide +kernel) (by decide +kernel) (by decide +kernel) (by decide +kernel), ?_⟩
          refine ⟨x1, G1, ks, os, Hc, n1, g1, rfl, sd1.sv, _, hDj, small1000 (by rw [List.length_take]; omega), ?_, ?_⟩
          · exact fun b o e => (upd_ne (ne_of_none e hD)).trans (sj b o e)
          · rw [upd_same, tk]
        · rintro H4 ⟨sA, hDA⟩
          have T4 := TT.grow sA nt okr
          refine ⟨_, rfl, SL, rfl, ⟨_, SqL.of T4.sl⟩, fun DE hE => ?_⟩
          refine lc_list (K := K) (a := SL) (xs := [V.ref d1.S, .ref d2.S]) (fun j H' => Same H4 H' ∧ H' DE = some (.lst ([V.int ga.length, .int gb.length].take j)))
            ⟨sameNew (Same.refl _) hE, upd_same⟩ (fun j H' _ h => SqL.of (h.1 _ _ T4.sl)) ?_ ?_
          · rintro j y H5 hy ⟨sj, hDj⟩
            obtain ⟨S1, x1, G1, Lf1, n1, g1, rfl, sd1, tk, hj2⟩ := (T4.grow sj nt okr).at hy
            obtain ⟨xs1, ps1, hl1, hd1, pm1, _⟩ := sd1.l
            refine ⟨rfl, _, rfl, S1, _, _, _, rfl, rfl, SqL.of sd1.s, rfl, Lf1, xs1, rfl, .inl (SqL.of hl1), _, hDj, small1000 (by rw [List.length_take]; omega), ?_, ?_⟩
            · exact fun b o e => (upd_ne (ne_of_none e hE)).trans (sj b o e)
            · rw [upd_same, tk, dpLen hd1, List.length_map, pm1.length_eq]
          · rintro H5 ⟨sB, hDB⟩
            have T5 := T4.grow sB nt okr
            have dd : DpAll K H5 [V.int ga.length, .int gb.length] [PyData.int ga.length, .int gb.length] := .cons (.int _) (.cons (.int _) .nil)
            refine ⟨_, _, .list [.int ga.length, .int gb.length], rfl, .lst (SqL.of (sB _ _ hDA)) dd, .lst (SqL.of hDB) dd, by simp [few, fews], by simp [PyData.depth, PyData.depthAll], ?_⟩
            refine ⟨_, rfl, ?_⟩
            refine iteF ?_
            exact ⟨_, _, rfl, _, _, _, _, _, _, T5⟩
      · rintro σ H7 ⟨v8, v9, rfl, I7⟩
        refine ⟨_, rfl, SL, rfl, ⟨_, SqL.of I7.sl⟩, ?_⟩
        refine for_list (K := K) (a := SL) (xs := [V.ref d1.S, .ref d2.S]) (fun j σ H' => ∃ v8 v9 : Option V, σ = [some (.ref a), some (.ref B), some vk, some (.ref O0), some (.ref SL), v5, v6, some (.ref vr), v8, v9] ∧ Inv1 K C pD ks os rs Hc B L SL d1 d2 H')
          ⟨_, _, rfl, I7⟩ (fun j σ H' _ h => by obtain ⟨_, _, _, h⟩ := h; exact SqL.of h.sl) ?_ ?_
        · rintro j y σ H8 hy ⟨v8, v9, rfl, I8⟩
          obtain ⟨S, x, G, Lg, m, gr, S', x', G', Lg', m', gr', rfl, T8, back⟩ := I8.pick hy
          refine ⟨fun z σ H' => ∃ (Lg : Addr) (m : Nat) (gr : List Pr), σ = [some (.ref a), some (.ref B), some vk, some (.ref O0), some (.ref SL), v5, v6, some (.ref vr), v8, some (.ref S)] ∧ z = gr.length ∧ Two K C pD ks os rs Hc H' B L SL [.ref d1.S, .ref d2.S] S x G Lg m gr S' x' G' Lg' m' gr',
            ⟨_, Lg, m, gr, rfl, rfl, T8⟩, ?_⟩
          rintro z σ H9 ⟨Lg, m, gr, rfl, rfl, T9⟩
          obtain ⟨xs, ps, hl, hd, pm, srt⟩ := T9.a.l
          refine ⟨_, rfl, S, _, _, _, rfl, rfl, SqL.of T9.a.s, rfl, ?_⟩
          refine ⟨Nat.zero_le _, fun e0 he0 => ?_⟩
          have s2 := sameNew (o := .lst []) (Same.refl H9) he0
          have he2 : upd H9 e0 (.lst []) e0 = some (.lst []) := upd_same
          have hl2 := s2 _ _ hl
          have hd2 := dpAll_same s2 _ hd
          have T10 := T9.grow s2 nt okr
          generalize upd H9 e0 (.lst []) = H10 at s2 he2 hl2 hd2 T10 ⊢
          have okp : ∀ p ∈ ps, isRow ks (.tuple p.2) = true := fun p hp => (T9.a.sv.gok p (pm.mem_iff.mp hp)).2
          have shp := pairs_shaped okp
          refine ⟨.list (ps.map pairD), .list [], .lst (SqL.of hl2) hd2, .lst (SqL.of he2) .nil, shp, by decide +kernel, _, rfl, ?_⟩
          rw [eqv_nil]
          cases ps with
          | nil => exact iteF ⟨_, _, rfl, back _ _ _ _ T10⟩
          | cons p0 ps' =>
            refine iteT ⟨fun σ' H' => ∃ (Lg : Addr) (m : Nat) (gr2 : List Pr), σ' = [some (.ref a), some (.ref B), some vk, some (.ref O0), some (.ref SL), v5, v6, some (.ref vr), v8, some (.ref S)] ∧ gr2.length < gr.length ∧ Two K C pD ks os rs Hc H' B L SL [.ref d1.S, .ref d2.S] S x G Lg m gr2 S' x' G' Lg' m' gr',
              fun σ' H' h => by obtain ⟨a1, a2, a3, a4, a5, a6⟩ := h; exact ⟨_, a5, a1, a2, a3, a4, rfl, a6⟩, ?_⟩
            have hne : gr ≠ [] := fun z => by rw [z] at pm; exact absurd pm.eq_nil (by simp)
            obtain ⟨dx2, vk2, vo2, hx2, _⟩ := T10.a.sv.ob
            refine ⟨_, rfl, S, _, _, _, rfl, rfl, SqL.of T10.a.s, rfl, x, dx2, _, rfl, hx2, fs_no (by decide +kernel) (by decide +kernel) (by decide +kernel) (by decide +kernel), ?_⟩
            refine ⟨x, G, ks, os, Hc, m, gr, rfl, T10.a.sv, .inr ⟨hne, fun H11 v q gq' sv3 pq mn hv fr3 => ?_⟩⟩
            obtain ⟨v0, xs', hl3, okq, hdv, hdv0, sd12, f12, m12⟩ := T10.a.took sv3 pq mn hv fr3
            have nxS : S ≠ x := fun z => by have h := T10.a.s; rw [z, hx2] at h; cases h
            have hS11 := fr3 _ _ T10.a.s nxS T10.a.nSG
            refine ⟨_, rfl, S, _, _, _, rfl, rfl, SqL.of hS11, rfl, .inl ⟨rfl, _, SqL.of hl3⟩, Lg, _, 0, 0, v0, rfl, rfl, hl3, by decide, by show (0 : Int) < _; simp, by simp [seqIndex?], rfl, ?_⟩
            refine ⟨v, v0, pairD q, rfl, hdv, hdv0, few_pair k4 okq, by
              have := (pair_shape (p := q) okq).2
              omega, ⟨_, rfl, iteF ?_⟩⟩
            have lq : gq'.length < gr.length := by
              rw [pq.length_eq]
              exact Nat.lt_succ_self _
            refine ⟨Lg, m, gq', rfl, lq, ?_⟩
            have nd := T10.nd
            simp only [List.nodup_cons, List.mem_cons, List.not_mem_nil, or_false, not_or, not_false_eq_true, List.nodup_nil, and_true] at nd
            obtain ⟨⟨_, _, n3, n4, n5, _⟩, ⟨_, l2, l3, l4', _⟩, _⟩ := nd
            obtain ⟨nBL, ⟨st, hB⟩, ⟨mz, hL⟩⟩ := T10.box
            have nl : ∀ {a : Addr} {ys : List V}, H10 a = some (.lst ys) → a ≠ x := fun h1 z => by rw [z, hx2] at h1; cases h1
            have bx := BoxAt.mk nBL ⟨st, f12 _ _ hB (by simp [nl hB, n4, n5])⟩ ⟨mz, f12 _ _ hL (by simp [nl hL, l3, l4'])⟩
            exact T10.step bx sd12 (.inl rfl) (f12.mono (by simp)).d (tabS_mut f12 m12 T10.tD) nt okr cB cL
        · rintro σ H8 ⟨v8, v9, rfl, I8⟩
          have sc := I8.same
          exact k _ (sc _ _ tKc) (sc _ _ tWc) (sc _ _ tRc)
end
end RS
set_option Elab.async false
set_option maxRecDepth 100000
set_option maxHeartbeats 4000000
namespace RS
open PySem PySem.Spec PyProof.Rows L2 GX LM
/-! ### what one reads of the classes of the errors -/
theorem kit_ne {K : PySem.W.Frag} {D C : Addr} {b : Bool} (hne : D ≠ C) (h1 : PySem.W.isClsIn K C = true) (h2 : PySem.W.typeIn K (.ref C) = some (.type "type")) (h3 : PySem.W.subIn K (.ref D) (.ref C) = some b) : PySem.W.kitOne K (.ref D) (.ref C) = some b := by
  have e0 : ((Value.ref D : Value) == .ref C) = false := by
    rw [beq_eq_false_iff_ne]
    exact fun z => hne (Value.ref.inj z)
  have e2 : ((PySem.W.clsIn K C).isSome && PySem.W.typeIn K (.ref C) == some (.type "type")) = true := by
    have h1' : (PySem.W.clsIn K C).isSome = true := h1
    rw [h1', h2] <;> rfl
  unfold PySem.W.kitOne
  rw [if_neg (by rw [e0]; decide)]
  show (if ((PySem.W.clsIn K C).isSome && PySem.W.typeIn K (.ref C) == some (.type "type")) = true then PySem.W.subIn K (.ref D) (.ref C) else none) = some b
  rw [if_pos e2]
  exact h3
theorem kit_same {K : PySem.W.Frag} {D : Addr} : PySem.W.kitOne K (.ref D) (.ref D) = some true := by
  unfold PySem.W.kitOne
  rw [if_pos (beq_self_eq_true _)]
theorem kit_ve {K : PySem.W.Frag} {D : Addr} (h : PySem.W.subIn K (.ref D) (.type "ValueError") = some true) : PySem.W.kitOne K (.ref D) (.type "ValueError") = some true := by
  unfold PySem.W.kitOne
  rw [if_neg (show ¬((Value.ref D : Value) == .type "ValueError") = true from fun z => by have := beq_iff_eq.mp z; cases this)]
  show (if PySem.W.kitMeta "ValueError" = true then PySem.W.subIn K (.ref D) (.type "ValueError") else none) = some true
  rw [if_pos (by decide +kernel)]
  exact h
theorem exm_mk {K : PySem.W.Frag} {D S : Addr} (h1 : PySem.W.subIn K (.ref S) (.type "BaseException") = some true) (h2 : PySem.W.isClsIn K S = true) (h3 : PySem.W.typeIn K (.ref S) = some (.type "type")) (h4 : PySem.W.subIn K (.ref D) (.ref S) = some true) :
    PySem.W.exmOne K (.ref D) (.ref S) = some true := by
  have e1 : (PySem.W.subIn K (.ref S) (.type "BaseException") == some true) = true := by rw [h1] <;> rfl
  have e2 : ((PySem.W.clsIn K S).isSome && PySem.W.typeIn K (.ref S) == some (.type "type")) = true := by
    have h2' : (PySem.W.clsIn K S).isSome = true := h2
    rw [h2', h3] <;> rfl
  show (if (PySem.W.subIn K (.ref S) (.type "BaseException") == some true) = true then (if ((PySem.W.clsIn K S).isSome && PySem.W.typeIn K (.ref S) == some (.type "type")) = true then PySem.W.subIn K (.ref D) (.ref S) else none) else none) = some true
  rw [if_pos e1, if_pos e2]
  exact h4
/-- what one class of an error shows -/
structure OneE (K : PySem.W.Frag) (SE D : Addr) : Prop where
  exc : ExcC K D
  ve : PySem.W.subIn K (.ref D) (.type "ValueError") = some true
  se : PySem.W.exmOne K (.ref D) (.ref SE) = some true
theorem own15_mk {K : PySem.W.Frag} {C : Nat → Addr} {SE : Addr} {j : Nat} (hj : j < 15) (E : OneE K SE (C j)) (cl : ∀ i < 15, PySem.W.isClsIn K (C i) = true ∧ PySem.W.typeIn K (.ref (C i)) = some (.type "type")) (no : ∀ i < 15, i ≠ j → C j ≠ C i ∧ PySem.W.subIn K (.ref (C j)) (.ref (C i)) = some false) : Own15 K C (C j) j := by
  refine ⟨hj, E.exc, fun i hi => ?_, kit_ve E.ve⟩
  by_cases e : i = j
  · subst e
    rw [kit_same, decide_eq_true rfl]
  · obtain ⟨n1, n2⟩ := no i hi e
    rw [kit_ne n1 (cl i hi).1 (cl i hi).2 n2, decide_eq_false e]
def listC (cs : List Addr) : Nat → Addr := fun i => cs.getD i 0
end RS
set_option Elab.async false
set_option maxRecDepth 100000
set_option maxHeartbeats 4000000
namespace RS
open PySem PySem.Spec PyProof.Rows L2 GX
/-- the end: the tables of the defs are empty at the law's entry -/
theorem walk_tabs {l : PySem.W.OpenLaw} {n k : Nat} {q : Program} {loose : List Str} {XP : (Str → Option Value) → Heap → Prop} {YP : World → Heap → Prop} {d : DefRec} {K : Params → PySem.W.Frag} {x : Str}
    (hn : l.most = some n) (hn2 : n ≤ sizeLine) (hdf : d.params.defaults = []) (hr : Room k callerA) (hY : ∀ (w : World) (h : Heap), YP w h → (K w.params).In h)
    (F : ∀ (w : World) (mg : Str → Option Value) (fa : Addr) (h : Heap), (K w.params).In h → h.Ns mainGlobals mg → mg d.name = some (.ref fa) →
      (∀ (y : Str) (d' : DefRec) (c P : Addr), (recsOf q).find? (fun e => e.name == y) = some d' → PySem.W.tabIn (K w.params) y = some (c, P) → PySem.W.CodeHd h c P ∧ h.get? P = some { cls := .none, data := .fields #[] }) →
      LamX.LawAtS l w (K w.params) CX0 k n x mg fa h) :
    PySem.W.WalkO q loose XP YP l.row.toRowW d [] (fun f vs => PySem.call f vs) := by
  refine Att.attach_callB hn hdf fun w s₀ s₁ mg mb fa o pm cd doc a vs ns G Y ho hd hcd hmg hobj hints hlen hbits hg => ?_
  have KX := hY w _ Y
  obtain ⟨fd, cs, sp, hT, nT, C, hb, hsp, hF⟩ := F w mg fa _ KX G.T.g hmg fun y d' c P e1 e2 => PySem.W.tab_of G.T KX e1 e2
  exact LamX.law_callTs KX G.T.g G.T.b G.T.builtins G.T.nolimit hg hT nT C G.T.bmain hobj hints (Nat.le_trans hlen hn2) hr hF hb (fun H hH hS => hsp H a ns hlen hbits hH hS) fun H e s' z => z
end RS
set_option Elab.async false
set_option maxRecDepth 100000
set_option maxHeartbeats 8000000
namespace RS
open PySem PySem.Spec PyProof.Rows L2 GX HQ LM
theorem def_at {K : PySem.W.Frag} {h : Heap} {mg : Str → Option Value} {x : Str} {st : Stmt} {f c : Addr} {oc kV doc pm ct : Value} {od an : Option Addr} {osl : Array (Option Value)} (X : K.In h) (G : h.Ns mainGlobals mg) (a : PySem.W.nsIn K mainGlobals x = some (some (.ref f)))
    (l : K.lookup f = some ⟨oc, od, .func (PySem.W.fnOf x x (defArgs st) (defBody st) (defScope st) .none kV doc pm an (.ref c) ct), osl⟩) (e : PySem.W.codeIn K (.ref c) x = true) (k : PySem.W.keepIn K (.ref f) = true) : DefAt K mg x st c :=
  ⟨f, oc, od, kV, doc, pm, an, ct, osl, PySem.W.mg_of X G a, l, e, k⟩
theorem two_in {K : PySem.W.Frag} {a : Addr} {x y : Str} {t u : Tok} {od : Option Addr} {n : Nat} {sl : Array (Option Value)} (h : K.lookup a = some ⟨.type "tuple", od, .seq #[.str x t, .str y u] n, sl⟩) : ∀ H, SqT K H a [.str x, .str y] :=
  fun _ => .inr ⟨_, #[.str x t, .str y u], n, h, rfl, rfl, by show 2 ≤ sizeLine; decide, .cons ⟨t, rfl⟩ (.cons ⟨u, rfl⟩ .nil)⟩
theorem tabB_of {base : Heap} {mg : Str → Option Value} {c P : Addr} (h : LamX.TabB base mg c P) : GxR.TabB base mg c P := ⟨h.code, h.bm, h.gP⟩
theorem tab_in {K : PySem.W.Frag} {x : Str} {st : Stmt} {f c P : Addr} {oc kV doc pm ct e : Value} {od an dd : Option Addr} {osl sl : Array (Option Value)} {vs : Array Value} (a : PySem.W.nsIn K mainGlobals x = some (some (.ref f)))
    (l : K.lookup f = some ⟨oc, od, .func (PySem.W.fnOf x x (defArgs st) (defBody st) (defScope st) .none kV doc pm an (.ref c) ct), osl⟩) (h1 : K.lookup c = some ⟨e, dd, .fields vs, sl⟩) (h2 : vs[11]? = some (.ref P)) : PySem.W.tabIn K x = some (c, P) := by
  unfold PySem.W.tabIn
  rw [a]
  dsimp only
  rw [l]
  show (match K.lookup c with
    | some ⟨_, _, .fields vs, _⟩ => (match (vs[11]? : Option Value) with
      | some (.ref P) => some (c, P)
      | _ => none)
    | _ => none) = some (c, P)
  rw [h1]
  dsimp only
  rw [h2]
theorem all_mk {l : PySem.W.OpenLaw} {w : World} {K : PySem.W.Frag} {h : Heap} {mg : Str → Option Value} {fa pW pR pK pD aK aW : Addr} {q : Program} {dW dR dK dD : DefRec} {eW eR eK eD : Value} {ddW ddR ddK ddD : Option Addr} {vsW vsR vsK vsD : Array Value} {stW stR stK stD : Array (Option Value)} (tabs : ∀ (y : Str) (d' : DefRec) (c P : Addr), (recsOf q).find? (fun e => e.name == y) = some d' → PySem.W.tabIn K y = some (c, P) → PySem.W.CodeHd h c P ∧ h.get? P = some { cls := .none, data := .fields #[] }) (X : K.In h) (G : h.Ns mainGlobals mg) (hfa : mg "law" = some (.ref fa))
    {f0 c0 : Addr} {oc0 kV0 dc0 pm0 ct0 : Value} {od0 an0 : Option Addr} {sl0 : Array (Option Value)}
    {f1 c1 : Addr} {oc1 kV1 dc1 pm1 ct1 : Value} {od1 an1 : Option Addr} {sl1 : Array (Option Value)}
    {f2 c2 : Addr} {oc2 kV2 dc2 pm2 ct2 : Value} {od2 an2 : Option Addr} {sl2 : Array (Option Value)}
    {f3 c3 : Addr} {oc3 kV3 dc3 pm3 ct3 : Value} {od3 an3 : Option Addr} {sl3 : Array (Option Value)}
    {f4 c4 : Addr} {oc4 kV4 dc4 pm4 ct4 : Value} {od4 an4 : Option Addr} {sl4 : Array (Option Value)}
    {f5 c5 : Addr} {oc5 kV5 dc5 pm5 ct5 : Value} {od5 an5 : Option Addr} {sl5 : Array (Option Value)}
    {f6 c6 : Addr} {oc6 kV6 dc6 pm6 ct6 : Value} {od6 an6 : Option Addr} {sl6 : Array (Option Value)}
    {f7 c7 : Addr} {oc7 kV7 dc7 pm7 ct7 : Value} {od7 an7 : Option Addr} {sl7 : Array (Option Value)}
    {f8 c8 : Addr} {oc8 kV8 dc8 pm8 ct8 : Value} {od8 an8 : Option Addr} {sl8 : Array (Option Value)}
    {f9 c9 : Addr} {oc9 kV9 dc9 pm9 ct9 : Value} {od9 an9 : Option Addr} {sl9 : Array (Option Value)}
    {f10 c10 : Addr} {oc10 kV10 dc10 pm10 ct10 : Value} {od10 an10 : Option Addr} {sl10 : Array (Option Value)}
    {f11 c11 : Addr} {oc11 kV11 dc11 pm11 ct11 : Value} {od11 an11 : Option Addr} {sl11 : Array (Option Value)}
    {f12 c12 : Addr} {oc12 kV12 dc12 pm12 ct12 : Value} {od12 an12 : Option Addr} {sl12 : Array (Option Value)}
    {f13 c13 : Addr} {oc13 kV13 dc13 pm13 ct13 : Value} {od13 an13 : Option Addr} {sl13 : Array (Option Value)}
    {f14 c14 : Addr} {oc14 kV14 dc14 pm14 ct14 : Value} {od14 an14 : Option Addr} {sl14 : Array (Option Value)}
    {f15 c15 : Addr} {oc15 kV15 dc15 pm15 ct15 : Value} {od15 an15 : Option Addr} {sl15 : Array (Option Value)}
    {f16 c16 : Addr} {oc16 kV16 dc16 pm16 ct16 : Value} {od16 an16 : Option Addr} {sl16 : Array (Option Value)}
    {f17 c17 : Addr} {oc17 kV17 dc17 pm17 ct17 : Value} {od17 an17 : Option Addr} {sl17 : Array (Option Value)}
    {f18 c18 : Addr} {oc18 kV18 dc18 pm18 ct18 : Value} {od18 an18 : Option Addr} {sl18 : Array (Option Value)}
    {f19 c19 : Addr} {oc19 kV19 dc19 pm19 ct19 : Value} {od19 an19 : Option Addr} {sl19 : Array (Option Value)}
    {f20 c20 : Addr} {oc20 kV20 dc20 pm20 ct20 : Value} {od20 an20 : Option Addr} {sl20 : Array (Option Value)}
    {f21 c21 : Addr} {oc21 kV21 dc21 pm21 ct21 : Value} {od21 an21 : Option Addr} {sl21 : Array (Option Value)}
    {f22 c22 : Addr} {oc22 kV22 dc22 pm22 ct22 : Value} {od22 an22 : Option Addr} {sl22 : Array (Option Value)}
    {f23 c23 : Addr} {oc23 kV23 dc23 pm23 ct23 : Value} {od23 an23 : Option Addr} {sl23 : Array (Option Value)}
    {t1 t2 t3 t4 u1 u2 u3 u4 : Tok} {odK : Option Addr} {nK : Nat} {slK : Array (Option Value)} {odW : Option Addr} {nW : Nat} {slW : Array (Option Value)}
    {CSieve : Addr}
    {mfSieve0 : Addr} {mocSieve0 mkVSieve0 mdcSieve0 mpmSieve0 mctSieve0 mcdSieve0 : Value} {modSieve0 manSieve0 : Option Addr} {mslSieve0 : Array (Option Value)}
    {mfSieve1 : Addr} {mocSieve1 mkVSieve1 mdcSieve1 mpmSieve1 mctSieve1 mcdSieve1 : Value} {modSieve1 manSieve1 : Option Addr} {mslSieve1 : Array (Option Value)}
    {mfSieve2 : Addr} {mocSieve2 mkVSieve2 mdcSieve2 mpmSieve2 mctSieve2 mcdSieve2 : Value} {modSieve2 manSieve2 : Option Addr} {mslSieve2 : Array (Option Value)}
    {mfSieve3 : Addr} {mocSieve3 mkVSieve3 mdcSieve3 mpmSieve3 mctSieve3 mcdSieve3 : Value} {modSieve3 manSieve3 : Option Addr} {mslSieve3 : Array (Option Value)}
    {SE CC0 CC1 CC2 CC3 CC4 CC5 CC6 CC7 CC8 CC9 CC10 CC11 CC12 CC13 CC14 : Addr}
    {enm2 eq2 : Str} {eN2 : Addr} {ebs2 esub2 : List Value} {esn2 : List Str} {eab2 : Bool} {ecol2 : Option Bool} {edd2 : Option Addr} {em02 em12 em22 em32 em52 : Option Value}
    {bf2 : Addr} {boc2 bkV2 bdc2 bpm2 bct2 bcd2 : Value} {bod2 ban2 : Option Addr} {bsl2 : Array (Option Value)}
    (xCSieve : PySem.W.nsIn K mainGlobals "Sieve" = some (some (.ref CSieve)))
    (xpgSieve : PySem.W.plainGet K CSieve Str.empty = true)
    (xhdSieve : PySem.W.hasDictIn K CSieve = true)
    (xpoSieve : PySem.W.plainOver K CSieve = true)
    (xsaSieve : PySem.W.findIn K (.ref CSieve) "__setattr__" = some (some (.builtin "object.__setattr__")))
    (xmkSieve : PySem.W.makesIn K CSieve = true)
    (xkcSieve : PySem.W.keepIn K (.ref CSieve) = true)
    (xnSieve0 : PySem.W.findIn K (.ref CSieve) "kinds" = some none)
    (xnSieve1 : PySem.W.findIn K (.ref CSieve) "order" = some none)
    (xnSieve2 : PySem.W.findIn K (.ref CSieve) "came" = some none)
    (xnSieve3 : PySem.W.findIn K (.ref CSieve) "queue" = some none)
    (maSieve0 : PySem.W.findIn K (.ref CSieve) "__init__" = some (some (.ref mfSieve0)))
    (miSieve0 : PySem.W.isFn K (.ref mfSieve0) = true)
    (mlSieve0 : K.lookup mfSieve0 = some ⟨mocSieve0, modSieve0, .func (PySem.W.fnOf "__init__" "Sieve.__init__" (defArgs s_Sieve_init) (defBody s_Sieve_init) (defScope s_Sieve_init) .none mkVSieve0 mdcSieve0 mpmSieve0 manSieve0 mcdSieve0 mctSieve0), mslSieve0⟩)
    (mcSieve0 : PySem.W.codeIn K mcdSieve0 "Sieve.__init__" = true)
    (mkSieve0 : PySem.W.keepIn K (.ref mfSieve0) = true)
    (maSieve1 : PySem.W.findIn K (.ref CSieve) "put" = some (some (.ref mfSieve1)))
    (miSieve1 : PySem.W.isFn K (.ref mfSieve1) = true)
    (mlSieve1 : K.lookup mfSieve1 = some ⟨mocSieve1, modSieve1, .func (PySem.W.fnOf "put" "Sieve.put" (defArgs s_Sieve_put) (defBody s_Sieve_put) (defScope s_Sieve_put) .none mkVSieve1 mdcSieve1 mpmSieve1 manSieve1 mcdSieve1 mctSieve1), mslSieve1⟩)
    (mcSieve1 : PySem.W.codeIn K mcdSieve1 "Sieve.put" = true)
    (mkSieve1 : PySem.W.keepIn K (.ref mfSieve1) = true)
    (maSieve2 : PySem.W.findIn K (.ref CSieve) "take" = some (some (.ref mfSieve2)))
    (miSieve2 : PySem.W.isFn K (.ref mfSieve2) = true)
    (mlSieve2 : K.lookup mfSieve2 = some ⟨mocSieve2, modSieve2, .func (PySem.W.fnOf "take" "Sieve.take" (defArgs s_Sieve_take) (defBody s_Sieve_take) (defScope s_Sieve_take) .none mkVSieve2 mdcSieve2 mpmSieve2 manSieve2 mcdSieve2 mctSieve2), mslSieve2⟩)
    (mcSieve2 : PySem.W.codeIn K mcdSieve2 "Sieve.take" = true)
    (mkSieve2 : PySem.W.keepIn K (.ref mfSieve2) = true)
    (maSieve3 : PySem.W.findIn K (.ref CSieve) "remains" = some (some (.ref mfSieve3)))
    (miSieve3 : PySem.W.isFn K (.ref mfSieve3) = true)
    (mlSieve3 : K.lookup mfSieve3 = some ⟨mocSieve3, modSieve3, .func (PySem.W.fnOf "remains" "Sieve.remains" (defArgs s_Sieve_remains) (defBody s_Sieve_remains) (defScope s_Sieve_remains) .none mkVSieve3 mdcSieve3 mpmSieve3 manSieve3 mcdSieve3 mctSieve3), mslSieve3⟩)
    (mcSieve3 : PySem.W.codeIn K mcdSieve3 "Sieve.remains" = true)
    (mkSieve3 : PySem.W.keepIn K (.ref mfSieve3) = true)
    (sg : PySem.W.nsIn K mainGlobals "SortError" = some (some (.ref SE)))
    (scl : PySem.W.isClsIn K SE = true)
    (sty : PySem.W.typeIn K (.ref SE) = some (.type "type"))
    (sbe : PySem.W.subIn K (.ref SE) (.type "BaseException") = some true)
    (srd : PySem.W.readsIn K SE (.type "type") = true)
    (sga : PySem.W.specialIn K (.ref SE) "__getattribute__" = some (some (.builtin "type.__getattribute__")))
    (sfi : PySem.W.findCls K (.ref SE) (.type "type") "__init__" = some (.val (.builtin "ValueError.__init__")))
    (ohn : PySem.W.specialIn K (.builtin "object.__class__") "__get__" = some (some (.builtin "getset_descriptor.__get__")))
    (oht : PySem.W.takesIn K (.builtin "object.__class__") = some true)
    (cg0 : PySem.W.nsIn K mainGlobals "BadKinds" = some (some (.ref CC0)))
    (cc0 : PySem.W.isClsIn K CC0 = true)
    (cy0 : PySem.W.typeIn K (.ref CC0) = some (.type "type"))
    (cg1 : PySem.W.nsIn K mainGlobals "BadOrder" = some (some (.ref CC1)))
    (cc1 : PySem.W.isClsIn K CC1 = true)
    (cy1 : PySem.W.typeIn K (.ref CC1) = some (.type "type"))
    (cg2 : PySem.W.nsIn K mainGlobals "BadRows" = some (some (.ref CC2)))
    (cc2 : PySem.W.isClsIn K CC2 = true)
    (cy2 : PySem.W.typeIn K (.ref CC2) = some (.type "type"))
    (cg3 : PySem.W.nsIn K mainGlobals "BadRuns" = some (some (.ref CC3)))
    (cc3 : PySem.W.isClsIn K CC3 = true)
    (cy3 : PySem.W.typeIn K (.ref CC3) = some (.type "type"))
    (cg4 : PySem.W.nsIn K mainGlobals "BadRoom" = some (some (.ref CC4)))
    (cc4 : PySem.W.isClsIn K CC4 = true)
    (cy4 : PySem.W.typeIn K (.ref CC4) = some (.type "type"))
    (cg5 : PySem.W.nsIn K mainGlobals "BadLengths" = some (some (.ref CC5)))
    (cc5 : PySem.W.isClsIn K CC5 = true)
    (cy5 : PySem.W.typeIn K (.ref CC5) = some (.type "type"))
    (cg6 : PySem.W.nsIn K mainGlobals "BadPlan" = some (some (.ref CC6)))
    (cc6 : PySem.W.isClsIn K CC6 = true)
    (cy6 : PySem.W.typeIn K (.ref CC6) = some (.type "type"))
    (cg7 : PySem.W.nsIn K mainGlobals "BadPaper" = some (some (.ref CC7)))
    (cc7 : PySem.W.isClsIn K CC7 = true)
    (cy7 : PySem.W.typeIn K (.ref CC7) = some (.type "type"))
    (cg8 : PySem.W.nsIn K mainGlobals "BadCount" = some (some (.ref CC8)))
    (cc8 : PySem.W.isClsIn K CC8 = true)
    (cy8 : PySem.W.typeIn K (.ref CC8) = some (.type "type"))
    (cg9 : PySem.W.nsIn K mainGlobals "BadBlock" = some (some (.ref CC9)))
    (cc9 : PySem.W.isClsIn K CC9 = true)
    (cy9 : PySem.W.typeIn K (.ref CC9) = some (.type "type"))
    (cg10 : PySem.W.nsIn K mainGlobals "Stopped" = some (some (.ref CC10)))
    (cc10 : PySem.W.isClsIn K CC10 = true)
    (cy10 : PySem.W.typeIn K (.ref CC10) = some (.type "type"))
    (cg11 : PySem.W.nsIn K mainGlobals "Shut" = some (some (.ref CC11)))
    (cc11 : PySem.W.isClsIn K CC11 = true)
    (cy11 : PySem.W.typeIn K (.ref CC11) = some (.type "type"))
    (cg12 : PySem.W.nsIn K mainGlobals "NotYet" = some (some (.ref CC12)))
    (cc12 : PySem.W.isClsIn K CC12 = true)
    (cy12 : PySem.W.typeIn K (.ref CC12) = some (.type "type"))
    (cg13 : PySem.W.nsIn K mainGlobals "Empty" = some (some (.ref CC13)))
    (cc13 : PySem.W.isClsIn K CC13 = true)
    (cy13 : PySem.W.typeIn K (.ref CC13) = some (.type "type"))
    (cg14 : PySem.W.nsIn K mainGlobals "BadText" = some (some (.ref CC14)))
    (cc14 : PySem.W.isClsIn K CC14 = true)
    (cy14 : PySem.W.typeIn K (.ref CC14) = some (.type "type"))
    (hg2 : PySem.W.findIn K (.ref CC2) "__getattribute__" = some (some (.builtin "BaseException.__getattribute__")))
    (hk2 : PySem.W.findIn K (.ref CC2) "__getattr__" = some none)
    (hs2 : PySem.W.subIn K (.ref CC2) (.type "BaseException") = some true)
    (hd2 : PySem.W.hasDictIn K CC2 = true)
    (ha2 : PySem.W.findIn K (.ref CC2) "__class__" = some (some (.builtin "object.__class__")))
    (hm2 : PySem.W.mroIn K CC2 (.type "object") = some true)
    (hv2 : PySem.W.subIn K (.ref CC2) (.type "ValueError") = some true)
    (hS2 : PySem.W.subIn K (.ref CC2) (.ref SE) = some true)
    (kc2 : PySem.W.keepIn K (.ref CC2) = true)
    (no2_0 : PySem.W.subIn K (.ref CC2) (.ref CC0) = some false)
    (ne2_0 : CC2 ≠ CC0)
    (no2_1 : PySem.W.subIn K (.ref CC2) (.ref CC1) = some false)
    (ne2_1 : CC2 ≠ CC1)
    (no2_3 : PySem.W.subIn K (.ref CC2) (.ref CC3) = some false)
    (ne2_3 : CC2 ≠ CC3)
    (no2_4 : PySem.W.subIn K (.ref CC2) (.ref CC4) = some false)
    (ne2_4 : CC2 ≠ CC4)
    (no2_5 : PySem.W.subIn K (.ref CC2) (.ref CC5) = some false)
    (ne2_5 : CC2 ≠ CC5)
    (no2_6 : PySem.W.subIn K (.ref CC2) (.ref CC6) = some false)
    (ne2_6 : CC2 ≠ CC6)
    (no2_7 : PySem.W.subIn K (.ref CC2) (.ref CC7) = some false)
    (ne2_7 : CC2 ≠ CC7)
    (no2_8 : PySem.W.subIn K (.ref CC2) (.ref CC8) = some false)
    (ne2_8 : CC2 ≠ CC8)
    (no2_9 : PySem.W.subIn K (.ref CC2) (.ref CC9) = some false)
    (ne2_9 : CC2 ≠ CC9)
    (no2_10 : PySem.W.subIn K (.ref CC2) (.ref CC10) = some false)
    (ne2_10 : CC2 ≠ CC10)
    (no2_11 : PySem.W.subIn K (.ref CC2) (.ref CC11) = some false)
    (ne2_11 : CC2 ≠ CC11)
    (no2_12 : PySem.W.subIn K (.ref CC2) (.ref CC12) = some false)
    (ne2_12 : CC2 ≠ CC12)
    (no2_13 : PySem.W.subIn K (.ref CC2) (.ref CC13) = some false)
    (ne2_13 : CC2 ≠ CC13)
    (no2_14 : PySem.W.subIn K (.ref CC2) (.ref CC14) = some false)
    (ne2_14 : CC2 ≠ CC14)
    (hg13 : PySem.W.findIn K (.ref CC13) "__getattribute__" = some (some (.builtin "BaseException.__getattribute__")))
    (hk13 : PySem.W.findIn K (.ref CC13) "__getattr__" = some none)
    (hs13 : PySem.W.subIn K (.ref CC13) (.type "BaseException") = some true)
    (hd13 : PySem.W.hasDictIn K CC13 = true)
    (ha13 : PySem.W.findIn K (.ref CC13) "__class__" = some (some (.builtin "object.__class__")))
    (hm13 : PySem.W.mroIn K CC13 (.type "object") = some true)
    (hv13 : PySem.W.subIn K (.ref CC13) (.type "ValueError") = some true)
    (hS13 : PySem.W.subIn K (.ref CC13) (.ref SE) = some true)
    (kc13 : PySem.W.keepIn K (.ref CC13) = true)
    (no13_0 : PySem.W.subIn K (.ref CC13) (.ref CC0) = some false)
    (ne13_0 : CC13 ≠ CC0)
    (no13_1 : PySem.W.subIn K (.ref CC13) (.ref CC1) = some false)
    (ne13_1 : CC13 ≠ CC1)
    (no13_2 : PySem.W.subIn K (.ref CC13) (.ref CC2) = some false)
    (ne13_2 : CC13 ≠ CC2)
    (no13_3 : PySem.W.subIn K (.ref CC13) (.ref CC3) = some false)
    (ne13_3 : CC13 ≠ CC3)
    (no13_4 : PySem.W.subIn K (.ref CC13) (.ref CC4) = some false)
    (ne13_4 : CC13 ≠ CC4)
    (no13_5 : PySem.W.subIn K (.ref CC13) (.ref CC5) = some false)
    (ne13_5 : CC13 ≠ CC5)
    (no13_6 : PySem.W.subIn K (.ref CC13) (.ref CC6) = some false)
    (ne13_6 : CC13 ≠ CC6)
    (no13_7 : PySem.W.subIn K (.ref CC13) (.ref CC7) = some false)
    (ne13_7 : CC13 ≠ CC7)
    (no13_8 : PySem.W.subIn K (.ref CC13) (.ref CC8) = some false)
    (ne13_8 : CC13 ≠ CC8)
    (no13_9 : PySem.W.subIn K (.ref CC13) (.ref CC9) = some false)
    (ne13_9 : CC13 ≠ CC9)
    (no13_10 : PySem.W.subIn K (.ref CC13) (.ref CC10) = some false)
    (ne13_10 : CC13 ≠ CC10)
    (no13_11 : PySem.W.subIn K (.ref CC13) (.ref CC11) = some false)
    (ne13_11 : CC13 ≠ CC11)
    (no13_12 : PySem.W.subIn K (.ref CC13) (.ref CC12) = some false)
    (ne13_12 : CC13 ≠ CC12)
    (no13_14 : PySem.W.subIn K (.ref CC13) (.ref CC14) = some false)
    (ne13_14 : CC13 ≠ CC14)
    (xl2 : K.lookup CC2 = some (excClassObj enm2 eq2 CC2 eN2 ebs2 [.ref SE, .type "ValueError", .type "Exception", .type "BaseException", .type "object"] true esn2 esub2 eab2 ecol2 edd2 em02 em12 em22 em32 em52 "ValueError.__new__"))
    (sa2 : PySem.W.findIn K (.ref CC2) "__setattr__" = some (some (.builtin "object.__setattr__")))
    (bi2 : PySem.W.findIn K (.ref CC2) "__init__" = some (some (.ref bf2)))
    (bt2 : PySem.W.typeIn K (.ref bf2) = some (.type "function"))
    (bl2 : K.lookup bf2 = some ⟨boc2, bod2, .func (PySem.W.fnOf "__init__" "BadRows.__init__" (defArgs s_BadRows_init) (defBody s_BadRows_init) (defScope s_BadRows_init) .none bkV2 bdc2 bpm2 ban2 bcd2 bct2), bsl2⟩)
    (bc2 : PySem.W.codeIn K bcd2 "BadRows.__init__" = true)
    (bk2 : PySem.W.keepIn K (.ref bf2) = true)
    (bp2 : PySem.W.findIn K (.ref CC2) "place" = some none)
    (xE13 : PySem.W.excIn K CC13 [.type "ValueError", .type "Exception", .type "BaseException", .type "object"] "ValueError.__new__" = true)
    (a0 : PySem.W.nsIn K mainGlobals "is_number" = some (some (.ref f0))) (l0 : K.lookup f0 = some ⟨oc0, od0, .func (PySem.W.fnOf "is_number" "is_number" (defArgs sIsNumber) (defBody sIsNumber) (defScope sIsNumber) .none kV0 dc0 pm0 an0 (.ref c0) ct0), sl0⟩) (e0 : PySem.W.codeIn K (.ref c0) "is_number" = true) (k0 : PySem.W.keepIn K (.ref f0) = true)
    (a1 : PySem.W.nsIn K mainGlobals "is_word" = some (some (.ref f1))) (l1 : K.lookup f1 = some ⟨oc1, od1, .func (PySem.W.fnOf "is_word" "is_word" (defArgs sIsWord) (defBody sIsWord) (defScope sIsWord) .none kV1 dc1 pm1 an1 (.ref c1) ct1), sl1⟩) (e1 : PySem.W.codeIn K (.ref c1) "is_word" = true) (k1 : PySem.W.keepIn K (.ref f1) = true)
    (a2 : PySem.W.nsIn K mainGlobals "is_value" = some (some (.ref f2))) (l2 : K.lookup f2 = some ⟨oc2, od2, .func (PySem.W.fnOf "is_value" "is_value" (defArgs sIsValue) (defBody sIsValue) (defScope sIsValue) .none kV2 dc2 pm2 an2 (.ref c2) ct2), sl2⟩) (e2 : PySem.W.codeIn K (.ref c2) "is_value" = true) (k2 : PySem.W.keepIn K (.ref f2) = true)
    (a3 : PySem.W.nsIn K mainGlobals "is_row" = some (some (.ref f3))) (l3 : K.lookup f3 = some ⟨oc3, od3, .func (PySem.W.fnOf "is_row" "is_row" (defArgs sIsRow) (defBody sIsRow) (defScope sIsRow) .none kV3 dc3 pm3 an3 (.ref c3) ct3), sl3⟩) (e3 : PySem.W.codeIn K (.ref c3) "is_row" = true) (k3 : PySem.W.keepIn K (.ref f3) = true)
    (a4 : PySem.W.nsIn K mainGlobals "is_part" = some (some (.ref f4))) (l4 : K.lookup f4 = some ⟨oc4, od4, .func (PySem.W.fnOf "is_part" "is_part" (defArgs sIsPart) (defBody sIsPart) (defScope sIsPart) .none kV4 dc4 pm4 an4 (.ref c4) ct4), sl4⟩) (e4 : PySem.W.codeIn K (.ref c4) "is_part" = true) (k4 : PySem.W.keepIn K (.ref f4) = true)
    (a5 : PySem.W.nsIn K mainGlobals "check_kinds" = some (some (.ref f5))) (l5 : K.lookup f5 = some ⟨oc5, od5, .func (PySem.W.fnOf "check_kinds" "check_kinds" (defArgs sCheckKinds) (defBody sCheckKinds) (defScope sCheckKinds) .none kV5 dc5 pm5 an5 (.ref c5) ct5), sl5⟩) (e5 : PySem.W.codeIn K (.ref c5) "check_kinds" = true) (k5 : PySem.W.keepIn K (.ref f5) = true)
    (a6 : PySem.W.nsIn K mainGlobals "check_order" = some (some (.ref f6))) (l6 : K.lookup f6 = some ⟨oc6, od6, .func (PySem.W.fnOf "check_order" "check_order" (defArgs sCheckOrder) (defBody sCheckOrder) (defScope sCheckOrder) .none kV6 dc6 pm6 an6 (.ref c6) ct6), sl6⟩) (e6 : PySem.W.codeIn K (.ref c6) "check_order" = true) (k6 : PySem.W.keepIn K (.ref f6) = true)
    (a7 : PySem.W.nsIn K mainGlobals "worths" = some (some (.ref f7))) (l7 : K.lookup f7 = some ⟨oc7, od7, .func (PySem.W.fnOf "worths" "worths" (defArgs sWorths) (defBody sWorths) (defScope sWorths) .none kV7 dc7 pm7 an7 (.ref c7) ct7), sl7⟩) (e7 : PySem.W.codeIn K (.ref c7) "worths" = true) (k7 : PySem.W.keepIn K (.ref f7) = true)
    (a8 : PySem.W.nsIn K mainGlobals "rank" = some (some (.ref f8))) (l8 : K.lookup f8 = some ⟨oc8, od8, .func (PySem.W.fnOf "rank" "rank" (defArgs sRank) (defBody sRank) (defScope sRank) .none kV8 dc8 pm8 an8 (.ref c8) ct8), sl8⟩) (e8 : PySem.W.codeIn K (.ref c8) "rank" = true) (k8 : PySem.W.keepIn K (.ref f8) = true)
    (a9 : PySem.W.nsIn K mainGlobals "_law_begun" = some (some (.ref f9))) (l9 : K.lookup f9 = some ⟨oc9, od9, .func (PySem.W.fnOf "_law_begun" "_law_begun" (defArgs sBegun) (defBody sBegun) (defScope sBegun) .none kV9 dc9 pm9 an9 (.ref c9) ct9), sl9⟩) (e9 : PySem.W.codeIn K (.ref c9) "_law_begun" = true) (k9 : PySem.W.keepIn K (.ref f9) = true)
    (a10 : PySem.W.nsIn K mainGlobals "_law_take" = some (some (.ref f10))) (l10 : K.lookup f10 = some ⟨oc10, od10, .func (PySem.W.fnOf "_law_take" "_law_take" (defArgs sTake) (defBody sTake) (defScope sTake) .none kV10 dc10 pm10 an10 (.ref c10) ct10), sl10⟩) (e10 : PySem.W.codeIn K (.ref c10) "_law_take" = true) (k10 : PySem.W.keepIn K (.ref f10) = true)
    (a11 : PySem.W.nsIn K mainGlobals "_law_alike" = some (some (.ref f11))) (l11 : K.lookup f11 = some ⟨oc11, od11, .func (PySem.W.fnOf "_law_alike" "_law_alike" (defArgs sAlike) (defBody sAlike) (defScope sAlike) .none kV11 dc11 pm11 an11 (.ref c11) ct11), sl11⟩) (e11 : PySem.W.codeIn K (.ref c11) "_law_alike" = true) (k11 : PySem.W.keepIn K (.ref f11) = true)
    (a12 : PySem.W.nsIn K mainGlobals "_law_class" = some (some (.ref f12))) (l12 : K.lookup f12 = some ⟨oc12, od12, .func (PySem.W.fnOf "_law_class" "_law_class" (defArgs sClass) (defBody sClass) (defScope sClass) .none kV12 dc12 pm12 an12 (.ref c12) ct12), sl12⟩) (e12 : PySem.W.codeIn K (.ref c12) "_law_class" = true) (k12 : PySem.W.keepIn K (.ref f12) = true)
    (a13 : PySem.W.nsIn K mainGlobals "_law_told" = some (some (.ref f13))) (l13 : K.lookup f13 = some ⟨oc13, od13, .func (PySem.W.fnOf "_law_told" "_law_told" (defArgs sTold) (defBody sTold) (defScope sTold) .none kV13 dc13 pm13 an13 (.ref c13) ct13), sl13⟩) (e13 : PySem.W.codeIn K (.ref c13) "_law_told" = true) (k13 : PySem.W.keepIn K (.ref f13) = true)
    (a14 : PySem.W.nsIn K mainGlobals "_law_all" = some (some (.ref f14))) (l14 : K.lookup f14 = some ⟨oc14, od14, .func (PySem.W.fnOf "_law_all" "_law_all" (defArgs sAll) (defBody sAll) (defScope sAll) .none kV14 dc14 pm14 an14 (.ref c14) ct14), sl14⟩) (e14 : PySem.W.codeIn K (.ref c14) "_law_all" = true) (k14 : PySem.W.keepIn K (.ref f14) = true)
    (a15 : PySem.W.nsIn K mainGlobals "_law_kinds" = some (some (.ref f15))) (l15 : K.lookup f15 = some ⟨oc15, od15, .func (PySem.W.fnOf "_law_kinds" "_law_kinds" (defArgs sKinds) (defBody sKinds) (defScope sKinds) .none kV15 dc15 pm15 an15 (.ref c15) ct15), sl15⟩) (e15 : PySem.W.codeIn K (.ref c15) "_law_kinds" = true) (k15 : PySem.W.keepIn K (.ref f15) = true)
    (a16 : PySem.W.nsIn K mainGlobals "_law_order" = some (some (.ref f16))) (l16 : K.lookup f16 = some ⟨oc16, od16, .func (PySem.W.fnOf "_law_order" "_law_order" (defArgs sOrder) (defBody sOrder) (defScope sOrder) .none kV16 dc16 pm16 an16 (.ref c16) ct16), sl16⟩) (e16 : PySem.W.codeIn K (.ref c16) "_law_order" = true) (k16 : PySem.W.keepIn K (.ref f16) = true)
    (a17 : PySem.W.nsIn K mainGlobals "_law_value" = some (some (.ref f17))) (l17 : K.lookup f17 = some ⟨oc17, od17, .func (PySem.W.fnOf "_law_value" "_law_value" (defArgs sValue) (defBody sValue) (defScope sValue) .none kV17 dc17 pm17 an17 (.ref c17) ct17), sl17⟩) (e17 : PySem.W.codeIn K (.ref c17) "_law_value" = true) (k17 : PySem.W.keepIn K (.ref f17) = true)
    (a18 : PySem.W.nsIn K mainGlobals "_law_rows" = some (some (.ref f18))) (l18 : K.lookup f18 = some ⟨oc18, od18, .func (PySem.W.fnOf "_law_rows" "_law_rows" (defArgs sRows) (defBody sRows) (defScope sRows) .none kV18 dc18 pm18 an18 (.ref c18) ct18), sl18⟩) (e18 : PySem.W.codeIn K (.ref c18) "_law_rows" = true) (k18 : PySem.W.keepIn K (.ref f18) = true)
    (a19 : PySem.W.nsIn K mainGlobals "_law_ahead" = some (some (.ref f19))) (l19 : K.lookup f19 = some ⟨oc19, od19, .func (PySem.W.fnOf "_law_ahead" "_law_ahead" (defArgs sAhead) (defBody sAhead) (defScope sAhead) .none kV19 dc19 pm19 an19 (.ref c19) ct19), sl19⟩) (e19 : PySem.W.codeIn K (.ref c19) "_law_ahead" = true) (k19 : PySem.W.keepIn K (.ref f19) = true)
    (a20 : PySem.W.nsIn K mainGlobals "_law_sorted" = some (some (.ref f20))) (l20 : K.lookup f20 = some ⟨oc20, od20, .func (PySem.W.fnOf "_law_sorted" "_law_sorted" (defArgs sSorted) (defBody sSorted) (defScope sSorted) .none kV20 dc20 pm20 an20 (.ref c20) ct20), sl20⟩) (e20 : PySem.W.codeIn K (.ref c20) "_law_sorted" = true) (k20 : PySem.W.keepIn K (.ref f20) = true)
    (a21 : PySem.W.nsIn K mainGlobals "_law_bad_row" = some (some (.ref f21))) (l21 : K.lookup f21 = some ⟨oc21, od21, .func (PySem.W.fnOf "_law_bad_row" "_law_bad_row" (defArgs sBadRow) (defBody sBadRow) (defScope sBadRow) .none kV21 dc21 pm21 an21 (.ref c21) ct21), sl21⟩) (e21 : PySem.W.codeIn K (.ref c21) "_law_bad_row" = true) (k21 : PySem.W.keepIn K (.ref f21) = true)
    (a22 : PySem.W.nsIn K mainGlobals "_law_deed" = some (some (.ref f22))) (l22 : K.lookup f22 = some ⟨oc22, od22, .func (PySem.W.fnOf "_law_deed" "_law_deed" (defArgs sDeed) (defBody sDeed) (defScope sDeed) .none kV22 dc22 pm22 an22 (.ref c22) ct22), sl22⟩) (e22 : PySem.W.codeIn K (.ref c22) "_law_deed" = true) (k22 : PySem.W.keepIn K (.ref f22) = true)
    (a23 : PySem.W.nsIn K mainGlobals "law" = some (some (.ref f23))) (l23 : K.lookup f23 = some ⟨oc23, od23, .func (PySem.W.fnOf "law" "law" (defArgs sLaw) (defBody sLaw) (defScope sLaw) .none kV23 dc23 pm23 an23 (.ref c23) ct23), sl23⟩) (e23 : PySem.W.codeIn K (.ref c23) "law" = true) (k23 : PySem.W.keepIn K (.ref f23) = true)
    (z0 : PySem.W.nsIn K mainGlobals "isinstance" = some none)
    (z1 : PySem.W.nsIn K mainGlobals "int" = some none)
    (z2 : PySem.W.nsIn K mainGlobals "bool" = some none)
    (z3 : PySem.W.nsIn K mainGlobals "str" = some none)
    (z4 : PySem.W.nsIn K mainGlobals "list" = some none)
    (z5 : PySem.W.nsIn K mainGlobals "tuple" = some none)
    (z6 : PySem.W.nsIn K mainGlobals "len" = some none)
    (z7 : PySem.W.nsIn K mainGlobals "all" = some none)
    (z8 : PySem.W.nsIn K mainGlobals "zip" = some none)
    (z9 : PySem.W.nsIn K mainGlobals "enumerate" = some none)
    (z10 : PySem.W.nsIn K mainGlobals "ord" = some none)
    (z11 : PySem.W.nsIn K mainGlobals "range" = some none)
    (z12 : PySem.W.nsIn K mainGlobals "sorted" = some none)
    (z13 : PySem.W.nsIn K mainGlobals "max" = some none)
    (z14 : PySem.W.nsIn K mainGlobals "min" = some none)
    (y0 : PySem.W.nsIn K mainGlobals "MOST_COLUMNS" = some (some (.int 4 t1)))
    (y1 : PySem.W.nsIn K mainGlobals "MOST_NUMBER" = some (some (.int 999 t2)))
    (y2 : PySem.W.nsIn K mainGlobals "MOST_LETTERS" = some (some (.int 6 t3)))
    (y3 : PySem.W.nsIn K mainGlobals "MOST_ROWS" = some (some (.int 120 t4)))
    (ak : PySem.W.nsIn K mainGlobals "KINDS" = some (some (.ref aK))) (lk : K.lookup aK = some ⟨.type "tuple", odK, .seq #[.str "number" u1, .str "word" u2] nK, slK⟩)
    (aw : PySem.W.nsIn K mainGlobals "WAYS" = some (some (.ref aW))) (lw : K.lookup aW = some ⟨.type "tuple", odW, .seq #[.str "up" u3, .str "down" u4] nW, slW⟩)
    (q1 : PySem.W.nsIn K mainGlobals "heappush" = some (some (.builtin "_heapq.heappush")))
    (q2 : PySem.W.nsIn K mainGlobals "heappop" = some (some (.builtin "_heapq.heappop")))
    (zzValueError : PySem.W.nsIn K mainGlobals "ValueError" = some none)
    (rW : (recsOf q).find? (fun e => e.name == ("is_word" : Str)) = some dW) (hW : K.lookup c1 = some ⟨eW, ddW, .fields vsW, stW⟩) (iW : vsW[11]? = some (.ref pW)) (nW' : K.lookup pW = none)
    (rR : (recsOf q).find? (fun e => e.name == ("is_row" : Str)) = some dR) (hR : K.lookup c3 = some ⟨eR, ddR, .fields vsR, stR⟩) (iR : vsR[11]? = some (.ref pR)) (nR' : K.lookup pR = none)
    (rK : (recsOf q).find? (fun e => e.name == ("check_kinds" : Str)) = some dK) (hK : K.lookup c5 = some ⟨eK, ddK, .fields vsK, stK⟩) (iK : vsK[11]? = some (.ref pK)) (nK' : K.lookup pK = none)
    (rD : (recsOf q).find? (fun e => e.name == ("_law_deed" : Str)) = some dD) (hD : K.lookup c22 = some ⟨eD, ddD, .fields vsD, stD⟩) (iD : vsD[11]? = some (.ref pD)) (nD' : K.lookup pD = none)
    (dDW' : pD ≠ pW)
    (dDR' : pD ≠ pR)
    (dDK' : pD ≠ pK)
    : LamX.LawAtS l w K CX0 45 63 "_law_script" mg fa h := by
  have efa := hfa.symm.trans (PySem.W.mg_of X G a23)
  cases efa
  have gW := tabs "is_word" dW c1 pW rW (tab_in (st := sIsWord) a1 l1 hW iW)
  have gR := tabs "is_row" dR c3 pR rR (tab_in (st := sIsRow) a3 l3 hR iR)
  have gK := tabs "check_kinds" dK c5 pK rK (tab_in (st := sCheckKinds) a5 l5 hK iK)
  have gD := tabs "_law_deed" dD c22 pD rD (tab_in (st := sDeed) a22 l22 hD iD)
  have T : Txt K mg := ⟨PySem.W.mg_none_of X G z0, PySem.W.mg_none_of X G z1, PySem.W.mg_none_of X G z2, PySem.W.mg_none_of X G z3, PySem.W.mg_none_of X G z4, PySem.W.mg_none_of X G z5, PySem.W.mg_none_of X G z6, PySem.W.mg_none_of X G z7, PySem.W.mg_none_of X G z8, PySem.W.mg_none_of X G z9, PySem.W.mg_none_of X G z10, PySem.W.mg_none_of X G z11, PySem.W.mg_none_of X G z12, PySem.W.mg_none_of X G z13, PySem.W.mg_none_of X G z14, ⟨t1, PySem.W.mg_of X G y0⟩, ⟨t2, PySem.W.mg_of X G y1⟩, ⟨t3, PySem.W.mg_of X G y2⟩, ⟨t4, PySem.W.mg_of X G y3⟩, ⟨aK, PySem.W.mg_of X G ak, two_in lk⟩, ⟨aW, PySem.W.mg_of X G aw, two_in lw⟩⟩
  have ZValueError : mg "ValueError" = none := PySem.W.mg_none_of X G zzValueError
  have D0 := def_at (st := sIsNumber) X G a0 l0 e0 k0
  have D1 := def_at (st := sIsWord) X G a1 l1 e1 k1
  have D2 := def_at (st := sIsValue) X G a2 l2 e2 k2
  have D3 := def_at (st := sIsRow) X G a3 l3 e3 k3
  have D4 := def_at (st := sIsPart) X G a4 l4 e4 k4
  have D5 := def_at (st := sCheckKinds) X G a5 l5 e5 k5
  have D6 := def_at (st := sCheckOrder) X G a6 l6 e6 k6
  have D7 := def_at (st := sWorths) X G a7 l7 e7 k7
  have D8 := def_at (st := sRank) X G a8 l8 e8 k8
  have D9 := def_at (st := sBegun) X G a9 l9 e9 k9
  have D10 := def_at (st := sTake) X G a10 l10 e10 k10
  have D11 := def_at (st := sAlike) X G a11 l11 e11 k11
  have D12 := def_at (st := sClass) X G a12 l12 e12 k12
  have D13 := def_at (st := sTold) X G a13 l13 e13 k13
  have D14 := def_at (st := sAll) X G a14 l14 e14 k14
  have D15 := def_at (st := sKinds) X G a15 l15 e15 k15
  have D16 := def_at (st := sOrder) X G a16 l16 e16 k16
  have D17 := def_at (st := sValue) X G a17 l17 e17 k17
  have D18 := def_at (st := sRows) X G a18 l18 e18 k18
  have D19 := def_at (st := sAhead) X G a19 l19 e19 k19
  have D20 := def_at (st := sSorted) X G a20 l20 e20 k20
  have D21 := def_at (st := sBadRow) X G a21 l21 e21 k21
  have D22 := def_at (st := sDeed) X G a22 l22 e22 k22
  have D23 := def_at (st := sLaw) X G a23 l23 e23 k23
  refine ⟨PySem.W.fnOf "law" "law" (defArgs sLaw) (defBody sLaw) (defScope sLaw) .none kV23 dc23 pm23 an23 (.ref c23) ct23, [(c1, pW), (c3, pR), (c5, pK), (c22, pD)], spT [pW, pR, pK] (spLaw1 K pK pW pR pD), ?_, ?_, ?_, fun s v => .of_eq rfl, ?_, fun base KB GB TB => ?_⟩
  · intro p hp
    simp only [List.mem_cons, List.not_mem_nil, or_false] at hp
    rcases hp with rfl | rfl | rfl | rfl
    · exact gW.2
    · exact gR.2
    · exact gK.2
    · exact gD.2
  · intro p hp
    simp only [List.mem_cons, List.not_mem_nil, or_false] at hp
    rcases hp with rfl | rfl | rfl | rfl
    · exact nW'
    · exact nR'
    · exact nK'
    · exact nD'
  · intro p hp
    simp only [List.mem_cons, List.not_mem_nil, or_false] at hp
    rcases hp with rfl | rfl | rfl | rfl
    · exact gW.1
    · exact gR.1
    · exact gK.1
    · exact gD.1
  · intro H a ns hl hb hT hS
    have hT2 : ∀ b ∈ [pW, pR, pK], H b = some (.tbl #[]) := fun b hb => by
      simp only [List.mem_cons, List.not_mem_nil, or_false] at hb
      rcases hb with rfl | rfl | rfl
      · exact hT (c1, b) (by simp)
      · exact hT (c3, b) (by simp)
      · exact hT (c5, b) (by simp)
    have hFD : H pD = some (.tbl #[]) := hT (c22, pD) (by simp)
    refine ⟨hT2, a, ns, rfl, ?_, ext_in (by simp), ext_in (by simp), ext_in (by simp), .nil ((ext_out (by simp [dDW', dDR', dDK'])).trans hFD), fun H' tK tW tR => ⟨fun b hb => ?_, fun _ => rfl⟩⟩
    · rcases hS with (hS | ⟨o, hS⟩) | hS
      · refine .inl (.inl ?_)
        rw [ext_out fun hb => by rw [hT2 a hb] at hS; cases hS]
        exact hS
      · refine .inl (.inr ⟨o, ?_⟩)
        rw [ext_out fun hb => by rw [hT2 a hb] at hS; cases hS]
        exact hS
      · exact .inr hS
    · simp only [List.mem_cons, List.not_mem_nil, or_false] at hb
      rcases hb with rfl | rfl | rfl
      · exact tW
      · exact tR
      · exact tK
  · have bW := TB (c1, pW) (by simp)
    have bR := TB (c3, pR) (by simp)
    have bK := TB (c5, pK) (by simp)
    have bD := TB (c22, pD) (by simp)
    let CC : Nat → Addr := listC [CC0, CC1, CC2, CC3, CC4, CC5, CC6, CC7, CC8, CC9, CC10, CC11, CC12, CC13, CC14]
    have gSE := PySem.W.mg_of X G sg
    have G15 : Cls15 mg CC := ⟨PySem.W.mg_of X G cg0, PySem.W.mg_of X G cg1, PySem.W.mg_of X G cg2, PySem.W.mg_of X G cg3, PySem.W.mg_of X G cg4, PySem.W.mg_of X G cg5, PySem.W.mg_of X G cg6, PySem.W.mg_of X G cg7, PySem.W.mg_of X G cg8, PySem.W.mg_of X G cg9, PySem.W.mg_of X G cg10, PySem.W.mg_of X G cg11, PySem.W.mg_of X G cg12, PySem.W.mg_of X G cg13, PySem.W.mg_of X G cg14⟩
    have cl15 : ∀ i < 15, PySem.W.isClsIn K (CC i) = true ∧ PySem.W.typeIn K (.ref (CC i)) = some (.type "type") := fun i hi => match i, hi with
      | 0, _ => ⟨cc0, cy0⟩
      | 1, _ => ⟨cc1, cy1⟩
      | 2, _ => ⟨cc2, cy2⟩
      | 3, _ => ⟨cc3, cy3⟩
      | 4, _ => ⟨cc4, cy4⟩
      | 5, _ => ⟨cc5, cy5⟩
      | 6, _ => ⟨cc6, cy6⟩
      | 7, _ => ⟨cc7, cy7⟩
      | 8, _ => ⟨cc8, cy8⟩
      | 9, _ => ⟨cc9, cy9⟩
      | 10, _ => ⟨cc10, cy10⟩
      | 11, _ => ⟨cc11, cy11⟩
      | 12, _ => ⟨cc12, cy12⟩
      | 13, _ => ⟨cc13, cy13⟩
      | 14, _ => ⟨cc14, cy14⟩
    have oe2 : OneE K SE CC2 := ⟨⟨hg2, hk2, hs2, hd2, ha2, ohn, oht, hm2⟩, hv2, exm_mk sbe scl sty hS2⟩
    have o15_2 : Own15 K CC CC2 2 := own15_mk (C := CC) (j := 2) (by decide) oe2 cl15 fun i hi n => match i, hi, n with
      | 0, _, _ => ⟨ne2_0, no2_0⟩
      | 1, _, _ => ⟨ne2_1, no2_1⟩
      | 2, _, n => absurd rfl n
      | 3, _, _ => ⟨ne2_3, no2_3⟩
      | 4, _, _ => ⟨ne2_4, no2_4⟩
      | 5, _, _ => ⟨ne2_5, no2_5⟩
      | 6, _, _ => ⟨ne2_6, no2_6⟩
      | 7, _, _ => ⟨ne2_7, no2_7⟩
      | 8, _, _ => ⟨ne2_8, no2_8⟩
      | 9, _, _ => ⟨ne2_9, no2_9⟩
      | 10, _, _ => ⟨ne2_10, no2_10⟩
      | 11, _, _ => ⟨ne2_11, no2_11⟩
      | 12, _, _ => ⟨ne2_12, no2_12⟩
      | 13, _, _ => ⟨ne2_13, no2_13⟩
      | 14, _, _ => ⟨ne2_14, no2_14⟩
    have oe13 : OneE K SE CC13 := ⟨⟨hg13, hk13, hs13, hd13, ha13, ohn, oht, hm13⟩, hv13, exm_mk sbe scl sty hS13⟩
    have o15_13 : Own15 K CC CC13 13 := own15_mk (C := CC) (j := 13) (by decide) oe13 cl15 fun i hi n => match i, hi, n with
      | 0, _, _ => ⟨ne13_0, no13_0⟩
      | 1, _, _ => ⟨ne13_1, no13_1⟩
      | 2, _, _ => ⟨ne13_2, no13_2⟩
      | 3, _, _ => ⟨ne13_3, no13_3⟩
      | 4, _, _ => ⟨ne13_4, no13_4⟩
      | 5, _, _ => ⟨ne13_5, no13_5⟩
      | 6, _, _ => ⟨ne13_6, no13_6⟩
      | 7, _, _ => ⟨ne13_7, no13_7⟩
      | 8, _, _ => ⟨ne13_8, no13_8⟩
      | 9, _, _ => ⟨ne13_9, no13_9⟩
      | 10, _, _ => ⟨ne13_10, no13_10⟩
      | 11, _, _ => ⟨ne13_11, no13_11⟩
      | 12, _, _ => ⟨ne13_12, no13_12⟩
      | 13, _, n => absurd rfl n
      | 14, _, _ => ⟨ne13_14, no13_14⟩
    have oxc2 : OexC K CC2 := ⟨⟨_, _, _, _, _, _, _, _, _, _, _, _, _, _, _, xl2, by rfl⟩, sa2, hs2, cy2, kc2⟩
    have NE : NumE l.prog w K mg base "BadRows" "place" CC2 := init_place (fun_mk bl2 bc2 bk2) oxc2 bi2 bt2 (PySem.W.mg_of X G cg2) bp2 gSE ⟨srd, sga⟩ sfi
    have X0 : TxS K CSieve := ⟨⟨xpgSieve, xhdSieve, xpoSieve, xsaSieve⟩, xnSieve0, xnSieve1, xnSieve2, xnSieve3⟩
    have eR15 : ErrC K SE CC CC2 2 := ⟨o15_2, oe2.se⟩
    have eE15 : ErrC K SE CC CC13 13 := ⟨o15_13, oe13.se⟩
    have xR : XfC K CC2 := ⟨hg2, hk2, hs2, hd2⟩
    have nR := bp2
    have P0 : Cal l.prog w K mg base CX0 1 "is_number" ["value"] (spNum K) := is_number_ok D0 T
    have P1 : Cal l.prog w K mg base CX0 2 "is_word" ["value"] (spWord K pW) := is_word_ok D1 T (tabB_of bW)
    have P2 : Cal l.prog w K mg base CX0 3 "is_value" ["kind", "value"] (spValue K pW) := is_value_ok D2 T P1 P0
    have P3 : Cal l.prog w K mg base CX0 5 "is_row" ["kinds", "row"] (spRow K pW pR) := is_row_ok D3 T (tabB_of bR) P2
    have P4 : Cal l.prog w K mg base CX0 2 "is_part" ["kinds", "part"] (spPart K) := is_part_ok D4 T P0
    have P5 : Cal l.prog w K mg base CX0 2 "check_kinds" ["kinds"] (spCheckKinds K pK) := check_kinds_ok D5 T (tabB_of bK)
    have P6 : Cal l.prog w K mg base CX0 3 "check_order" ["kinds", "order"] (spCheckOrder K) := check_order_ok D6 T P4
    have P7 : Cal l.prog w K mg base CX0 1 "worths" ["value"] (spWorths K) := worths_ok D7 T
    have P8 : Cal l.prog w K mg base CX0 2 "rank" ["order", "told"] (spRank K) := rank_ok D8 T P7
    have P9 : Cal l.prog w K mg base CX0 1 "_law_begun" ["_law_script"] (spBegun K) := begun_ok D9 T
    have P10 : Cal l.prog w K mg base CX0 1 "_law_take" ["_law_box", "_law_many"] (spTake) := take_ok D10
    have P11 : Cal l.prog w K mg base CX0 42 "_law_alike" ["_law_found", "_law_due"] (spAlike K 40) := alike_ok D11 T 40
    have P12 : CalW l.prog w K mg base 1 "_law_class" ["_law_e"] (spClass K CC) := class_ok D12 T G15 ZValueError
    have P13 : Cal l.prog w K mg base CX0 8 "_law_told" ["_law_work"] (spTold l.prog w K mg base SE CC 7) := told_ok D13 7 (by decide) gSE P12
    have P14 : Cal l.prog w K mg base CX0 43 "_law_all" ["_law_works", "_law_due"] (spAll l.prog w K mg base SE CC 7) := all_ok D14 7 42 (by decide) (by decide) P13 P11
    have P15 : Cal l.prog w K mg base CX0 2 "_law_kinds" ["_law_box"] (spKinds K) := kinds_ok D15 T P10
    have P16 : Cal l.prog w K mg base CX0 2 "_law_order" ["_law_box", "_law_kinds_here"] (spOrder K) := order_ok D16 T P10
    have P17 : Cal l.prog w K mg base CX0 2 "_law_value" ["_law_box", "_law_kind"] (spValueL K) := value_ok D17 T P10
    have P18 : Cal l.prog w K mg base CX0 3 "_law_rows" ["_law_box", "_law_kinds_here", "_law_most"] (spRows K) := rows_ok D18 T P10 P17
    have P19 : Cal l.prog w K mg base CX0 1 "_law_ahead" ["_law_order_here", "_law_one", "_law_other"] (spAhead K) := ahead_ok D19
    have P20 : Cal l.prog w K mg base CX0 2 "_law_sorted" ["_law_order_here", "_law_pairs_here"] (spSorted K) := sorted_ok D20 T P19
    have P21 : Cal l.prog w K mg base CX0 3 "_law_bad_row" ["_law_box", "_law_kinds_here", "_law_row"] (spBadRow K) := badrow_ok D21 T P10 P17
    have PSvPut : MetC l.prog w K mg base (L2.CX l.prog w) 6 CSieve "put" ["self", "row"] (spSvPut K CSieve CC2 pW pR) := svput_ok X0 ⟨⟨maSieve1, miSieve1, mkSieve1⟩, fun_mk mlSieve1 mcSieve1 mkSieve1⟩ T (PySem.W.mg_of X G q1) NE P3 P8
    have PSvTake : MetC l.prog w K mg base (L2.CX l.prog w) 1 CSieve "take" ["self"] (spSvTake K CSieve CC13) := svtake_ok X0 ⟨⟨maSieve2, miSieve2, mkSieve2⟩, fun_mk mlSieve2 mcSieve2 mkSieve2⟩ (PySem.W.mg_of X G q2) xE13 (PySem.W.mg_of X G cg13) kc13 hs13 cy13
    have P22 : Cal l.prog w K mg base CX0 44 "_law_deed" ["_law_box", "_law_kinds_here", "_law_order_here", "_law_rows_here", "_law_side"] (spDeed K CSieve pW pR pD) := deed_ok D22 T bD eR15 xR nR eE15 P10 P17 P21 P20 P11 P14 PSvPut PSvTake
    have PSvInit : MakC l.prog w K mg base CX0 4 "Sieve" CSieve ["self", "kinds", "order"] (spSvI K CSieve pK) := svinit_ok ⟨xmkSieve, maSieve0, miSieve0, xkcSieve⟩ (fun_mk mlSieve0 mcSieve0 mkSieve0) X0 T (PySem.W.mg_of X G xCSieve) P5 P6
    have PSvRem : MetC l.prog w K mg base CX0 1 CSieve "remains" ["self"] (spSvRem K CSieve) := svrem_ok X0 ⟨⟨maSieve3, miSieve3, mkSieve3⟩, fun_mk mlSieve3 mcSieve3 mkSieve3⟩ T
    exact FnOk.tables (law1_fn (CR := CC2) (SE := SE) l23 e23 T ⟨P9, P10, P15, P16, P18, P11, P22, PSvInit, PSvTake, PSvRem⟩)
end RS
set_option Elab.async false
open PySem PySem.W PyProof.Rows in
set_option maxRecDepth 100000 in
set_option maxHeartbeats 0 in
theorem PySem.Challenge.cw_runsorts_k01_sieves_holds : PySem.Challenge.rw_runsorts_k01_sieves.Holds := by
  w_on; o_law; k_head; (case hw => w_witness2)
  k_fill
  refine RS.walk_tabs (l := PySem.Challenge.rw_runsorts_k01_sieves) (n := 63) (k := 45) (x := "_law_script") rfl (by decide) rfl ⟨rfl, by decide, by decide⟩ (fun w h Y => PySem.W.km_in_of Y) ?F
  case F =>
    intro w mg fa h KX G hmg tabs
    refine' RS.all_mk tabs KX G hmg ?xCSieve ?xpgSieve ?xhdSieve ?xpoSieve ?xsaSieve ?xmkSieve ?xkcSieve ?xnSieve0 ?xnSieve1 ?xnSieve2 ?xnSieve3 ?maSieve0 ?miSieve0 ?mlSieve0 ?mcSieve0 ?mkSieve0 ?maSieve1 ?miSieve1 ?mlSieve1 ?mcSieve1 ?mkSieve1 ?maSieve2 ?miSieve2 ?mlSieve2 ?mcSieve2 ?mkSieve2 ?maSieve3 ?miSieve3 ?mlSieve3 ?mcSieve3 ?mkSieve3 ?sg ?scl ?sty ?sbe ?srd ?sga ?sfi ?ohn ?oht ?cg0 ?cc0 ?cy0 ?cg1 ?cc1 ?cy1 ?cg2 ?cc2 ?cy2 ?cg3 ?cc3 ?cy3 ?cg4 ?cc4 ?cy4 ?cg5 ?cc5 ?cy5 ?cg6 ?cc6 ?cy6 ?cg7 ?cc7 ?cy7 ?cg8 ?cc8 ?cy8 ?cg9 ?cc9 ?cy9 ?cg10 ?cc10 ?cy10 ?cg11 ?cc11 ?cy11 ?cg12 ?cc12 ?cy12 ?cg13 ?cc13 ?cy13 ?cg14 ?cc14 ?cy14 ?hg2 ?hk2 ?hs2 ?hd2 ?ha2 ?hm2 ?hv2 ?hS2 ?kc2 ?no2_0 ?ne2_0 ?no2_1 ?ne2_1 ?no2_3 ?ne2_3 ?no2_4 ?ne2_4 ?no2_5 ?ne2_5 ?no2_6 ?ne2_6 ?no2_7 ?ne2_7 ?no2_8 ?ne2_8 ?no2_9 ?ne2_9 ?no2_10 ?ne2_10 ?no2_11 ?ne2_11 ?no2_12 ?ne2_12 ?no2_13 ?ne2_13 ?no2_14 ?ne2_14 ?hg13 ?hk13 ?hs13 ?hd13 ?ha13 ?hm13 ?hv13 ?hS13 ?kc13 ?no13_0 ?ne13_0 ?no13_1 ?ne13_1 ?no13_2 ?ne13_2 ?no13_3 ?ne13_3 ?no13_4 ?ne13_4 ?no13_5 ?ne13_5 ?no13_6 ?ne13_6 ?no13_7 ?ne13_7 ?no13_8 ?ne13_8 ?no13_9 ?ne13_9 ?no13_10 ?ne13_10 ?no13_11 ?ne13_11 ?no13_12 ?ne13_12 ?no13_14 ?ne13_14 ?xl2 ?sa2 ?bi2 ?bt2 ?bl2 ?bc2 ?bk2 ?bp2 ?xE13 ?a0 ?l0 ?e0 ?k0 ?a1 ?l1 ?e1 ?k1 ?a2 ?l2 ?e2 ?k2 ?a3 ?l3 ?e3 ?k3 ?a4 ?l4 ?e4 ?k4 ?a5 ?l5 ?e5 ?k5 ?a6 ?l6 ?e6 ?k6 ?a7 ?l7 ?e7 ?k7 ?a8 ?l8 ?e8 ?k8 ?a9 ?l9 ?e9 ?k9 ?a10 ?l10 ?e10 ?k10 ?a11 ?l11 ?e11 ?k11 ?a12 ?l12 ?e12 ?k12 ?a13 ?l13 ?e13 ?k13 ?a14 ?l14 ?e14 ?k14 ?a15 ?l15 ?e15 ?k15 ?a16 ?l16 ?e16 ?k16 ?a17 ?l17 ?e17 ?k17 ?a18 ?l18 ?e18 ?k18 ?a19 ?l19 ?e19 ?k19 ?a20 ?l20 ?e20 ?k20 ?a21 ?l21 ?e21 ?k21 ?a22 ?l22 ?e22 ?k22 ?a23 ?l23 ?e23 ?k23 ?z0 ?z1 ?z2 ?z3 ?z4 ?z5 ?z6 ?z7 ?z8 ?z9 ?z10 ?z11 ?z12 ?z13 ?z14 ?y0 ?y1 ?y2 ?y3 ?ak ?lk ?aw ?lw ?q1 ?q2 ?zzValueError ?rW ?hW ?iW ?nW2 ?rR ?hR ?iR ?nR2 ?rK ?hK ?iK ?nK2 ?rD ?hD ?iD ?nD2 ?dDW2 ?dDR2 ?dDK2
    (case xCSieve => k_is)
    (case xpgSieve => k_is)
    (case xhdSieve => k_is)
    (case xpoSieve => k_is)
    (case xsaSieve => k_is)
    (case xmkSieve => k_is)
    (case xkcSieve => k_is)
    (case xnSieve0 => k_is)
    (case xnSieve1 => k_is)
    (case xnSieve2 => k_is)
    (case xnSieve3 => k_is)
    (case maSieve0 => k_is)
    (case miSieve0 => k_is)
    (case mlSieve0 => k_is)
    (case mcSieve0 => k_is)
    (case mkSieve0 => k_is)
    (case maSieve1 => k_is)
    (case miSieve1 => k_is)
    (case mlSieve1 => k_is)
    (case mcSieve1 => k_is)
    (case mkSieve1 => k_is)
    (case maSieve2 => k_is)
    (case miSieve2 => k_is)
    (case mlSieve2 => k_is)
    (case mcSieve2 => k_is)
    (case mkSieve2 => k_is)
    (case maSieve3 => k_is)
    (case miSieve3 => k_is)
    (case mlSieve3 => k_is)
    (case mcSieve3 => k_is)
    (case mkSieve3 => k_is)
    (case sg => k_is)
    (case scl => k_is)
    (case sty => k_is)
    (case sbe => k_is)
    (case srd => k_is)
    (case sga => k_is)
    (case sfi => k_is)
    (case ohn => k_is)
    (case oht => k_is)
    (case cg0 => k_is)
    (case cc0 => k_is)
    (case cy0 => k_is)
    (case cg1 => k_is)
    (case cc1 => k_is)
    (case cy1 => k_is)
    (case cg2 => k_is)
    (case cc2 => k_is)
    (case cy2 => k_is)
    (case cg3 => k_is)
    (case cc3 => k_is)
    (case cy3 => k_is)
    (case cg4 => k_is)
    (case cc4 => k_is)
    (case cy4 => k_is)
    (case cg5 => k_is)
    (case cc5 => k_is)
    (case cy5 => k_is)
    (case cg6 => k_is)
    (case cc6 => k_is)
    (case cy6 => k_is)
    (case cg7 => k_is)
    (case cc7 => k_is)
    (case cy7 => k_is)
    (case cg8 => k_is)
    (case cc8 => k_is)
    (case cy8 => k_is)
    (case cg9 => k_is)
    (case cc9 => k_is)
    (case cy9 => k_is)
    (case cg10 => k_is)
    (case cc10 => k_is)
    (case cy10 => k_is)
    (case cg11 => k_is)
    (case cc11 => k_is)
    (case cy11 => k_is)
    (case cg12 => k_is)
    (case cc12 => k_is)
    (case cy12 => k_is)
    (case cg13 => k_is)
    (case cc13 => k_is)
    (case cy13 => k_is)
    (case cg14 => k_is)
    (case cc14 => k_is)
    (case cy14 => k_is)
    (case hg2 => k_is)
    (case hk2 => k_is)
    (case hs2 => k_is)
    (case hd2 => k_is)
    (case ha2 => k_is)
    (case hm2 => k_is)
    (case hv2 => k_is)
    (case hS2 => k_is)
    (case kc2 => k_is)
    (case no2_0 => k_is)
    (case ne2_0 => decide)
    (case no2_1 => k_is)
    (case ne2_1 => decide)
    (case no2_3 => k_is)
    (case ne2_3 => decide)
    (case no2_4 => k_is)
    (case ne2_4 => decide)
    (case no2_5 => k_is)
    (case ne2_5 => decide)
    (case no2_6 => k_is)
    (case ne2_6 => decide)
    (case no2_7 => k_is)
    (case ne2_7 => decide)
    (case no2_8 => k_is)
    (case ne2_8 => decide)
    (case no2_9 => k_is)
    (case ne2_9 => decide)
    (case no2_10 => k_is)
    (case ne2_10 => decide)
    (case no2_11 => k_is)
    (case ne2_11 => decide)
    (case no2_12 => k_is)
    (case ne2_12 => decide)
    (case no2_13 => k_is)
    (case ne2_13 => decide)
    (case no2_14 => k_is)
    (case ne2_14 => decide)
    (case hg13 => k_is)
    (case hk13 => k_is)
    (case hs13 => k_is)
    (case hd13 => k_is)
    (case ha13 => k_is)
    (case hm13 => k_is)
    (case hv13 => k_is)
    (case hS13 => k_is)
    (case kc13 => k_is)
    (case no13_0 => k_is)
    (case ne13_0 => decide)
    (case no13_1 => k_is)
    (case ne13_1 => decide)
    (case no13_2 => k_is)
    (case ne13_2 => decide)
    (case no13_3 => k_is)
    (case ne13_3 => decide)
    (case no13_4 => k_is)
    (case ne13_4 => decide)
    (case no13_5 => k_is)
    (case ne13_5 => decide)
    (case no13_6 => k_is)
    (case ne13_6 => decide)
    (case no13_7 => k_is)
    (case ne13_7 => decide)
    (case no13_8 => k_is)
    (case ne13_8 => decide)
    (case no13_9 => k_is)
    (case ne13_9 => decide)
    (case no13_10 => k_is)
    (case ne13_10 => decide)
    (case no13_11 => k_is)
    (case ne13_11 => decide)
    (case no13_12 => k_is)
    (case ne13_12 => decide)
    (case no13_14 => k_is)
    (case ne13_14 => decide)
    (case xl2 => k_is)
    (case sa2 => k_is)
    (case bi2 => k_is)
    (case bt2 => k_is)
    (case bl2 => k_is)
    (case bc2 => k_is)
    (case bk2 => k_is)
    (case bp2 => k_is)
    (case xE13 => k_exc)
    (case a0 => k_is)
    (case l0 => k_is)
    (case e0 => k_is)
    (case k0 => k_is)
    (case a1 => k_is)
    (case l1 => k_is)
    (case e1 => k_is)
    (case k1 => k_is)
    (case a2 => k_is)
    (case l2 => k_is)
    (case e2 => k_is)
    (case k2 => k_is)
    (case a3 => k_is)
    (case l3 => k_is)
    (case e3 => k_is)
    (case k3 => k_is)
    (case a4 => k_is)
    (case l4 => k_is)
    (case e4 => k_is)
    (case k4 => k_is)
    (case a5 => k_is)
    (case l5 => k_is)
    (case e5 => k_is)
    (case k5 => k_is)
    (case a6 => k_is)
    (case l6 => k_is)
    (case e6 => k_is)
    (case k6 => k_is)
    (case a7 => k_is)
    (case l7 => k_is)
    (case e7 => k_is)
    (case k7 => k_is)
    (case a8 => k_is)
    (case l8 => k_is)
    (case e8 => k_is)
    (case k8 => k_is)
    (case a9 => k_is)
    (case l9 => k_is)
    (case e9 => k_is)
    (case k9 => k_is)
    (case a10 => k_is)
    (case l10 => k_is)
    (case e10 => k_is)
    (case k10 => k_is)
    (case a11 => k_is)
    (case l11 => k_is)
    (case e11 => k_is)
    (case k11 => k_is)
    (case a12 => k_is)
    (case l12 => k_is)
    (case e12 => k_is)
    (case k12 => k_is)
    (case a13 => k_is)
    (case l13 => k_is)
    (case e13 => k_is)
    (case k13 => k_is)
    (case a14 => k_is)
    (case l14 => k_is)
    (case e14 => k_is)
    (case k14 => k_is)
    (case a15 => k_is)
    (case l15 => k_is)
    (case e15 => k_is)
    (case k15 => k_is)
    (case a16 => k_is)
    (case l16 => k_is)
    (case e16 => k_is)
    (case k16 => k_is)
    (case a17 => k_is)
    (case l17 => k_is)
    (case e17 => k_is)
    (case k17 => k_is)
    (case a18 => k_is)
    (case l18 => k_is)
    (case e18 => k_is)
    (case k18 => k_is)
    (case a19 => k_is)
    (case l19 => k_is)
    (case e19 => k_is)
    (case k19 => k_is)
    (case a20 => k_is)
    (case l20 => k_is)
    (case e20 => k_is)
    (case k20 => k_is)
    (case a21 => k_is)
    (case l21 => k_is)
    (case e21 => k_is)
    (case k21 => k_is)
    (case a22 => k_is)
    (case l22 => k_is)
    (case e22 => k_is)
    (case k22 => k_is)
    (case a23 => k_is)
    (case l23 => k_is)
    (case e23 => k_is)
    (case k23 => k_is)
    (case z0 => k_is)
    (case z1 => k_is)
    (case z2 => k_is)
    (case z3 => k_is)
    (case z4 => k_is)
    (case z5 => k_is)
    (case z6 => k_is)
    (case z7 => k_is)
    (case z8 => k_is)
    (case z9 => k_is)
    (case z10 => k_is)
    (case z11 => k_is)
    (case z12 => k_is)
    (case z13 => k_is)
    (case z14 => k_is)
    (case y0 => k_is)
    (case y1 => k_is)
    (case y2 => k_is)
    (case y3 => k_is)
    (case ak => k_is)
    (case lk => k_is)
    (case aw => k_is)
    (case lw => k_is)
    (case q1 => k_is)
    (case q2 => k_is)
    (case zzValueError => k_is)
    (case rW => rfl)
    (case hW => k_is)
    (case iW => rfl)
    (case nW2 => first | kernel_rfl | rfl)
    (case rR => rfl)
    (case hR => k_is)
    (case iR => rfl)
    (case nR2 => first | kernel_rfl | rfl)
    (case rK => rfl)
    (case hK => k_is)
    (case iK => rfl)
    (case nK2 => first | kernel_rfl | rfl)
    (case rD => rfl)
    (case hD => k_is)
    (case iD => rfl)
    (case nD2 => first | kernel_rfl | rfl)
    (case dDW2 => decide)
    (case dDR2 => decide)
    (case dDK2 => decide)
