import PyProof.Rows.All
import Wide.All
import OpenK.AllK
import Wide.FinOn
import HandS.ForMost
import HandS.AnyAll
import HandS.GenList
import HandS.IsInst
import HandS.Zip
import HandS.Deep
import HandS.StrMore
import HandS.Codes
import HandS.FStr
import KE.KDictZip
import HandS.More
import PyProof.AutoSeq1
import HandS.Iter
import HandS.Conv
import HandS.SortInts
import HandS.SortOrd
import KE.LtData
import KE.KMinKey
import HandS.Gcd
import HandS.EndTab
import PySem.Challenge.RW_runsorts_k08_whole_no_plan_moves_fewer
set_option Elab.async false
set_option maxRecDepth 100000
set_option maxHeartbeats 4000000
namespace GX
open PySem PySem.Spec PyProof.Rows L2

/-- the table of a def's code objects, whatever has come into it -/
def TabE (P : Addr) : Heap → Prop := fun g =>
  ∃ rs : Array Value, g.get? P = some { cls := .none, data := .fields rs } ∧ TriplesOk rs.toList
def Tab (H : Hp) (P : Addr) : Prop := H P = some (.ext (TabE P))
theorem tabE_stable {P : Addr} : ∀ g1 g2 : Heap, TabE P g1 → (∀ o, g1.get? P = some o → g2.get? P = some o) → TabE P g2 :=
  fun _ _ ⟨rs, e, t⟩ k => ⟨rs, k _ e, t⟩

section
variable {X : Cx} {pins : List (Addr × Obj)} {σ : L2.St} {H : Hp} {s : Shared}

/-- the table has grown; what else stood is kept -/
theorem tab_grown {P : Addr} {rs : Array Value} {g : Heap} {G : Array GenState} {dd : Drawn} {tk : Nat}
    (I : Inv X pins σ H s) (hP : Tab H P)
    (kp : ∀ b o, b ≠ P → s.heap.get? b = some o → g.get? b = some o)
    (at_ : g.get? P = some { cls := .none, data := .fields rs }) (ht : TriplesOk rs.toList) (hG : AllBare G) :
    Inv X pins σ H { s with heap := g, gens := G, drawn := dd, toks := tk } := by
  have free_ne : ∀ b, H b = none → b ≠ P := fun b e z => by
    subst z
    have q : H b = some (.ext (TabE b)) := hP
    rw [q] at e
    cases e
  have own_ne : ∀ b c, H b = some (.own c) → b ≠ P := fun b c e z => by
    subst z
    have q : H b = some (.ext (TabE b)) := hP
    rw [q] at e
    cases e
  refine I.step (g' := G) (d' := dd) (ch := []) (fun b hb => by cases hb) (fun b o _ _ _ e n => kp b o (free_ne b n) e)
    (fun b o _ _ _ e n => ⟨o.slots, kp b o (free_ne b n) e⟩) (fun _ _ _ _ n => n) (fun b o _ e => ?_)
    (fun _ _ e => e) (fun _ _ _ e => e) (fun b qs e => ⟨#[], by rw [e, Array.append_empty]⟩) (fun m hm => ?_) (fun b u e => ?_) hG
  · by_cases z : b = P
    · subst z
      exact ⟨_, at_⟩
    · exact ⟨o, kp b o z e⟩
  · obtain ⟨o, es, ep, ho, r⟩ := hm
    exact ⟨o, es, ep, kp _ o (free_ne _ I.free) ho, r⟩
  · by_cases z : b = P
    · subst z
      have q : H b = some (.ext (TabE b)) := hP
      rw [q] at e
      cases e
      exact ⟨⟨rs, at_, ht⟩, ⟨_, at_⟩, tabE_stable⟩
    · refine (I.hok b u e).stay (fun c o hc q => kp c o ?_ q) (fun _ q => q) (fun _ _ q => q)
      rcases hc with y | y
      · rw [y]
        exact z
      · exact own_ne c b y

/-- the context of a generator expression's element -/
abbrev genCx (X : Cx) (B : Around) (s0 : Shared) (H0 : Hp) (ce : Env) (fp : List Addr) (pn : List (Addr × Obj)) : Cx :=
  { X with A := B, s_0 := s0, H_0 := H0, env := ce, outer := X.stack, stack := ce :: X.stack, ex := fp, fn := fun _ => false, pn := pn, xe := fun _ _ => False }
/-- its environment -/
abbrev gEnv (X : Cx) (sc : Scope) (C : Addr) (cv : Value) : Env :=
  genEnv sc (cloFrom X.env.cells sc.names []) C cv builtinsNs X.env

theorem gen_start {B : Around} {sc : Scope} {own : List (Str × Nat)} {fp : List Addr} {cv : Value} {g : Heap} {go fo : Obj} {m : Str → Option Value} {gs : GenState} {tk : Nat}
    (I : Inv X pins σ H s) (ok : BlkOk X.N X.env.scope sc own) (nocell : ∀ y ∈ sc.names, y.2 ≠ .cell) (hN : X.N.Nodup)
    (hfp : ∀ b ∈ fp, FpOk X pins H b ∧ b < s.heap.objs.size) (hB : X.calm = true → B.handled = none)
    (hF : B.frames = some (gEnv X sc s.heap.objs.size cv :: X.stack))
    (hn : g.Ns s.heap.objs.size m) (hs : Heap.SameBut s.heap.objs.size (s.heap.push fo) g)
    (hgo : ∀ v, go.data ≠ .cell v) (hgp : (g.push go).get? g.objs.size = some go) (hgs : gs.bare = true) :
    Inv (genCx X B s H (gEnv X sc s.heap.objs.size cv) fp [(g.objs.size, go)]) [] (wipe σ (own.map (·.2))) H
      { s with gens := s.gens.push gs, toks := tk, heap := g.push go } := by
  have caught : ∀ y ∈ sc.names, y.2 = .free → ∃ c, X.env.cells.lookup y.1 = some c := fun y hy e =>
    (ok.free y hy e).elim (fun z => I.ok.has _ (.inl z)) (fun z => I.ok.has _ (.inr z))
  have gsz : g.objs.size = s.heap.objs.size + 1 := by rw [hs.1, Heap.size_push]
  have kp1 : ∀ b o, s.heap.get? b = some o → g.get? b = some o := fun b o e =>
    hs.extBut b o (Nat.ne_of_lt (Heap.lt_size e)) (Heap.get?_push_of_some _ e)
  have kp : ∀ b o, s.heap.get? b = some o → (g.push go).get? b = some o := fun b o e => Heap.get?_push_of_some _ (kp1 b o e)
  have down : ∀ {y c}, (gEnv X sc s.heap.objs.size cv).cells.lookup y = some c → X.env.cells.lookup y = some c ∧ c < s.heap.objs.size := fun {y c} e => by
    have e' : (cloFrom X.env.cells sc.names []).lookup y = some c := e
    rcases cloFrom_mem (PySem.mem_of_lookup e') with q | ⟨q1, q2⟩
    · cases q
    · obtain ⟨c', hc'⟩ := caught _ q1 rfl
      have hc2 : X.env.cells.lookup y = some c' := hc'
      rw [hc2] at q2
      have q3 : c = c' := q2
      subst q3
      obtain ⟨v, z⟩ := I.cell _ _ hc2
      exact ⟨hc2, z.lt⟩
  have up : ∀ {y}, sc.names.lookup y = some .free → ∃ c, (gEnv X sc s.heap.objs.size cv).cells.lookup y = some c ∧ X.env.cells.lookup y = some c := fun {y} hl => by
    obtain ⟨c, e⟩ := mem_lookup (cloFrom_has (cells := X.env.cells) (acc := []) (PySem.mem_of_lookup hl))
    exact ⟨c, e, (down e).1⟩
  have young : ∀ b, b < s.heap.objs.size → b ≠ s.heap.objs.size := fun b hb => Nat.ne_of_lt hb
  have okG : (genCx X B s H (gEnv X sc s.heap.objs.size cv) fp [(g.objs.size, go)]).Ok := by
    refine ⟨I.ok.mod, ok.kind, I.ok.glob, rfl, Nat.le_refl _, fun y z c e1 e2 => I.ok.inj y z c (down e1).1 (down e2).1, fun y hy => ?_,
      (fun y c z _ => nomatch z), hB, hF, .inr ⟨rfl, rfl⟩, fun b hb => ⟨young b (hfp b hb).2, fun y c e z => ?_⟩, I.bs, Nat.le_trans I.ok.bsz I.sz,
      fun b o e hb => ?_, fun b hb z => ?_, I.stack, I.stkFree⟩
    · rcases hy with z | z
      · exact absurd rfl (nocell _ (PySem.mem_of_lookup z))
      · obtain ⟨c, e, _⟩ := up z
        exact ⟨c, e⟩
    · exact (hfp b hb).1.2.2.2.2.1 y c (down e).1 z
    · rcases (hfp b hb).1.2.2.2.1 with z | z
      · exact I.ok.noex b o e z
      · exact Nat.lt_irrefl _ (Nat.lt_of_lt_of_le (Heap.lt_size e) (Nat.le_trans I.ok.bsz z))
    · rcases List.mem_cons.mp (I.stkSub b z) with y | y
      · exact (hfp b hb).1.2.1 y
      · exact (hfp b hb).1.2.2.1 y
  refine ⟨okG, rfl, I.bare.push hgs, Un.kept kp, ⟨m, ?_, fun i y av e1 e2 e3 => ?_⟩, fun y c e => ?_, I.hok.fresh (Nat.le_refl _), fun y c e => I.freeC y c (down e).1, fun p hp => ?_, I.hok.kept kp, by rw [wipe_length]; exact I.len⟩
  · exact hn.push _
  · obtain ⟨e2, ne⟩ := wipe_some e2
    have notOwn : ∀ k, sc.names.lookup y = some k → k = .local ∨ k = .cell → False := fun k hk hk' => by
      rcases ok.own _ (PySem.mem_of_lookup hk) hk' with q | q
      · obtain ⟨p, hp, hpy⟩ := List.mem_map.mp q
        have e4 := ok.ix p hp
        have hpy' : p.1 = y := hpy
        rw [hpy'] at e4
        exact ne (List.mem_map.mpr ⟨p, hp, nodup_ix hN e4 e1⟩)
      · exact q (List.mem_of_getElem? e1)
    have hfree : sc.names.lookup y = some .free := by
      rcases e3 with z | z | z
      · exact (notOwn _ z (.inl rfl)).elim
      · exact (notOwn _ z (.inr rfl)).elim
      · exact z
    obtain ⟨m', _, hl⟩ := I.loc
    have q0 := ok.free _ (PySem.mem_of_lookup hfree) rfl
    have hv : Vis X.env.scope y := q0.elim (fun z => .inr (.inl z)) (fun z => .inr (.inr z))
    obtain ⟨u, r, q⟩ := hl i y av e1 e2 hv
    obtain ⟨c, h1, h2⟩ := up hfree
    refine ⟨u, r, .inr ⟨.inr hfree, c, h1, ?_⟩⟩
    rcases q with ⟨k, _⟩ | ⟨_, c', e', z⟩
    · have k' : X.env.scope.names.lookup y = some .local := k
      rcases q0 with z | z
      · have z' : X.env.scope.names.lookup y = some .cell := z
        rw [z'] at k'
        cases k'
      · have z' : X.env.scope.names.lookup y = some .free := z
        rw [z'] at k'
        cases k'
    · rw [h2] at e'
      cases e'
      exact z.keeps kp
  · obtain ⟨v, z⟩ := I.cell y c (down e).1
    exact ⟨v, z.keeps kp⟩
  · have e : p = (g.objs.size, go) := by simpa using hp
    subst e
    refine ⟨hgp, I.hok.fresh (by rw [gsz]; exact Nat.le_succ _), ?_, fun z => ?_, hgo⟩
    · show g.objs.size ≠ s.heap.objs.size
      rw [gsz]
      exact Nat.succ_ne_self _
    · have z' : g.objs.size ∈ frs X.stack := z
      obtain ⟨_, o, ho, _⟩ := I.stack.mem z'
      have q := Heap.lt_size ho
      rw [gsz] at q
      exact absurd q (Nat.not_lt.mpr (Nat.le_succ _))
end
end GX
set_option Elab.async false
set_option maxRecDepth 100000
set_option maxHeartbeats 4000000
namespace GX
open PySem PySem.Spec PyProof.Rows L2

/-- what is known when an element has been handed out: a truth; where it is true, the generator goes on at any state with the same heap -/
def YAll (Y : Cx) (τ : L2.St) (Qf : Hp → Prop) : Protocol := fun _ _ v s kap =>
  ∃ (b : Bool) (H : Hp), v = .bool b ∧ Inv Y [] τ H s ∧ (b = false → Qf H) ∧
    (b = true → ∀ s2 : Shared, s2.heap = s.heap → s2.os = s.os → AllBare s2.gens → kap (.send .none) s2)
abbrev RAll (Y : Cx) (τ : L2.St) (Qt : Hp → Prop) : Nat → Shared → Shared → Prop := fun _ _ s =>
  ∃ H : Hp, Inv Y [] τ H s ∧ Qt H
theorem inv_samehp {Y : Cx} {pins : List (Addr × Obj)} {τ : L2.St} {H : Hp} {s s2 : Shared} (I : Inv Y pins τ H s) (h : s2.heap = s.heap) (ho : s2.os = s.os) (hb : AllBare s2.gens) : Inv Y pins τ H s2 := by
  have J := I.call' (s' := s2) (H' := H) (ch := []) ho (by rw [h]; exact Un.refl) (by rw [h]; exact I.hok) hb (fun b z => by cases z)
  exact J

section
variable {Y : Cx} {B : Around} {elt tg iter : Expr} {sc : Scope} {gpos : Pos} {it : Addr} {fp : List Addr} {tn : Nat → Heap → Prop} {J : It} {g : TG} {te : TE} {vs : List Nat}

/-- one turn of the walk that a generator expression's elements pass -/
def Step (J : It) (g : TG) (te : TE) (vs : List Nat) (τ : L2.St) (Qt Qf : Hp → Prop) (W : Nat → Nat → Hp → Prop) : Prop :=
  ∀ i m H, W i m H → (J.stop i H ∧ Qt H) ∨ (J.go i H ∧ ∀ x H', J.yld i H x H' → g x τ H' fun τ2 H2 => wipe τ2 vs = τ ∧
    te τ2 H2 fun y H3 => ∃ b, y = V.bl b ∧ (b = true → ∃ m', m' < m ∧ W (i + 1) m' H3) ∧ (b = false → Qf H3))

theorem seg_all {τ : L2.St} {Qt Qf : Hp → Prop} {W : Nat → Nat → Hp → Prop}
    (hA : Y.A = B.over (.compLoop (.GeneratorExp elt [⟨tg, iter, [], 0⟩] sc gpos) 0 (.ref it) .none Y.env) [])
    (hc : Y.calm = true) (hco : Y.env.scope.isCoroutine = false) (hfp : ∀ b ∈ fp, b ∈ Y.ex) (hpn : ∀ p ∈ Y.pn, p.1 ∉ fp)
    (xe : Y.xe = fun _ _ => False)
    (pg : PG Y tg g) (pe : PE Y elt te) (T : Turn Y.prog Y.w Y.K tg J fp it tn) (turn : Step J g te vs τ Qt Qf W) (hτ : ∀ τ2, wipe τ2 vs = τ → ∀ (k : Nat) v, τ[k]? = some (some v) → τ2[k]? = some (some v)) :
    ∀ (n i m : Nat) (s0 s : Shared) (H : Hp), m < n → Inv Y [] τ H s → tn i s.heap → (∀ b ∈ fp, H b = none) → W i m H →
      Seg (model Y.prog Y.w) B (fun n s₀ r s₁ => r = .ok .next ∧ RAll Y τ Qt n s₀ s₁) (YAll Y τ Qf) n s0
        (.compLoop (.GeneratorExp elt [⟨tg, iter, [], 0⟩] sc gpos) 0 (.ref it) .none Y.env)
        ((model Y.prog Y.w).den (.compLoop (.GeneratorExp elt [⟨tg, iter, [], 0⟩] sc gpos) 0 (.ref it) .none Y.env)) [] s := by
  intro n
  induction n with
  | zero => intro i m s0 s H hm; exact absurd hm (Nat.not_lt_zero _)
  | succ n ih =>
    intro i m s0 s H hm I st nf w0
    have fpo : ∀ {pins' : List (Addr × Obj)} {τ' : L2.St} {H' : Hp} {s' : Shared}, Inv Y pins' τ' H' s' → (∀ p ∈ pins', p.1 ∉ fp) → (∀ b ∈ fp, H' b = none) → ∀ b ∈ fp, FpOk Y pins' H' b := fun {pins' τ' H' s'} I' hp hn b hb =>
      ⟨hn b hb, (I'.ok.exf b (hfp b hb)).1, I'.ok.exfs b (hfp b hb), .inl (hfp b hb), fun x c e => (I'.ok.exf b (hfp b hb)).2 x c e, fun p q z => by
        rcases List.mem_append.mp q with q | q
        · exact hpn p q (by rw [z]; exact hb)
        · exact hp p q (by rw [z]; exact hb)⟩
    show Seg _ B _ _ _ s0 _ ((compTurn (.GeneratorExp elt [⟨tg, iter, [], 0⟩] sc gpos) 0 (.ref it) .none Y.env).onRaise (leaving Y.env)) [] s
    rw [compTurn_gen, Sem.onRaise_eq_wrap]
    apply seg_bind_wrap
    apply wpAny_standAt
    apply seg_bind_wrap
    rw [← hA]
    rcases turn i m H w0 with ⟨stop, q⟩ | ⟨go, step⟩
    · refine wpAny_mono (T.done Y rfl rfl rfl hc i [] s τ H (fun _ _ => False) I (fpo I (fun _ z => by cases z) nf) st stop) (fun r s1 h1 => ?_) (fun _ _ z => z.elim)
      obtain ⟨hr, I1⟩ := h1
      subst hr
      exact seg_end (.ok .next) ⟨rfl, H, I1, q⟩
    · refine wpAny_mono (T.item Y rfl rfl rfl hc i [] s τ H (fun _ _ => False) I (fpo I (fun _ z => by cases z) nf) st go) (fun r s1 h1 => ?_) (fun _ _ z => z.elim)
      obtain ⟨u, hr, h1⟩ := h1
      subst hr
      apply seg_bind_wrap
      rw [← hA]
      refine wpAny_mono h1 (fun _ s2 h2 => ?_) (fun _ _ z => z.elim)
      obtain ⟨x, H2, I2, r2, y2, st2, n2⟩ := h2
      have I2' := I2.pinned (fpo I2 (fun _ z => by cases z) n2) (T.obj _ _ st2)
      apply seg_bind_wrap
      rw [← hA]
      refine wpAny_mono (pg.run _ s2 τ H2 x u _ I2' r2 (step x H2 y2)) (fun _ s3 h3 => ?_) (fun e s3 z => by rw [xe] at z; exact z.elim)
      obtain ⟨τ3, H3, I3, hw3, q3⟩ := h3
      have hy : ∀ v, yieldOut Y.env v = yieldValue v := fun v => by simp only [yieldOut, hco, Bool.false_eq_true, if_false]
      simp only [List.forIn_nil, pure_bind, if_true, hy]
      rw [Sem.bind_eq_wrap', Sem.bind_eq_wrap', Sem.wrap_wrap, Sem.wrap_wrap]
      apply seg_wrap
      rw [← hA]
      refine wpAny_mono (pe.run _ s3 τ3 H3 _ I3 q3) (fun v s4 h4 => ?_) (fun e s4 z => by rw [xe] at z; exact z.elim)
      obtain ⟨yv, H4, I4, r4, b, rfl, ht, hf⟩ := h4
      have hv : v = .bool b := r4
      subst hv
      have kp : ∀ b' ∈ fp, ∀ o, s2.heap.get? b' = some o → s4.heap.get? b' = some o ∧ H4 b' = none := fun b' hb o e => by
        have z := I4.pin (b', o) (List.mem_append_right _ (List.mem_append_right _ (mem_pinsAt hb e)))
        exact ⟨z.1, z.2.1⟩
      have J4 : Inv Y [] τ H4 s4 := (I4.unpinned (pins := [])).weak (by rw [← hw3, wipe_length]) fun k v e => hτ τ3 hw3 k v e
      refine seg_at (seg_yield rfl rfl rfl ⟨b, H4, rfl, J4, hf, fun hb s5 e5 o5 b5 => ?_⟩)
      obtain ⟨m', hm', w'⟩ := ht hb
      refine seg_again rfl (ih (i + 1) m' s5 s5 H4 (by omega) (inv_samehp J4 e5 o5 b5) ?_ (fun b' hb' => ?_) w')
      · rw [e5]
        exact T.keep _ _ _ st2 fun b' hb' o e => (kp b' hb' o e).1
      · obtain ⟨o, e, _⟩ := T.obj _ _ st2 b' hb'
        exact (kp b' hb' o e).2
end
end GX
set_option Elab.async false
set_option maxRecDepth 100000
set_option maxHeartbeats 4000000
namespace GX
open PySem PySem.Spec PyProof.Rows L2

theorem seg_all_start {P : Program} {w : World} {K : PySem.W.Frag} {B : Around} {R : GenEnd} {Yp : Protocol} {n : Nat} {s0 s : Shared} {elt tg iter : Expr} {sc : Scope} {gpos : Pos} {it : Addr} {fp : List Addr} {tn : Nat → Heap → Prop} {J : It} {ce : Env}
    (T : Turn P w K tg J fp it tn) (st : tn 0 s.heap)
    (loop : Seg (model P w) B R Yp n s0 (.compLoop (.GeneratorExp elt [⟨tg, iter, [], 0⟩] sc gpos) 0 (.ref it) .none ce)
      ((model P w).den (.compLoop (.GeneratorExp elt [⟨tg, iter, [], 0⟩] sc gpos) 0 (.ref it) .none ce)) [] s) :
    Seg (model P w) B R Yp n s0 (.compStart (.GeneratorExp elt [⟨tg, iter, [], 0⟩] sc gpos) 0 (.ref it) .none ce)
      ((model P w).den (.compStart (.GeneratorExp elt [⟨tg, iter, [], 0⟩] sc gpos) 0 (.ref it) .none ce)) [] s := by
  show Seg _ B _ _ _ s0 _ ((compStart (.GeneratorExp elt [⟨tg, iter, [], 0⟩] sc gpos) 0 (.ref it) .none ce).onRaise (leaving ce)) [] s
  unfold compStart
  rw [Sem.onRaise_eq_wrap]
  show Seg _ B _ _ _ s0 _ ((ask >>= _).wrap _ _ _ _) [] s
  apply seg_bind_wrap
  apply wpAny_askSetting
  split
  · exact seg_again rfl loop
  · apply seg_bind_wrap
    apply wpAny_rule
    show Seg _ B _ _ _ s0 _ ((standAt iter.pos >>= _).wrap _ _ _ _) [] s
    apply seg_bind_wrap
    apply wpAny_standAt
    apply seg_bind_wrap
    exact T.self _ 0 s _ _ st (seg_again rfl loop)

section
variable {Y : Cx} {A : Around} {a : Addr} {g : Nat} {go : Obj} {τ : L2.St} {Qt Qf : Hp → Prop}
theorem code_all {R : Result → Shared → Prop} (hh : A.handled = none) (hroom : A.depth < recursionLimit) (hpin : (a, go) ∈ Y.pn) (hgen : ∀ h : Heap, h.get? a = some go → h.IsGen a g)
    (hT : ∀ s H, Inv Y [] τ H s → Qt H → R (.ok (.ret (.bool true))) s) (hF : ∀ s H, Inv Y [] τ H s → Qf H → R (.ok (.ret (.bool false))) s) :
    ∀ (n : Nat) (s : Shared) (gs : GenState), s.heap.IsGen a g → s.heap.NoLimit → AllBare s.gens → s.gens[g]? = some gs →
      (∀ s2 : Shared, s2.heap = s.heap → s2.os = s.os → AllBare s2.gens →
        gs.Goes (model Y.prog Y.w) A.in1.in1 (fun n s₀ r s₁ => r = .ok .next ∧ RAll Y τ Qt n s₀ s₁) (YAll Y τ Qf) n (.send .none) s2) →
      codeAny (model Y.prog Y.w) A (.builtin "all.loop" ⟨[.ref a], []⟩) R s := by
  intro n
  induction n with
  | zero =>
    intro s gs hg hl hb hgs hgo
    refine codeAny_builtin F.entry_all_loop ?_
    rw [Around.under_plainId F.plain_all_loop _]
    show wpAny _ A.in1 (pyNext (.ref a) >>= _) _ _ s
    refine wpAny_bind (GenW.wpAny_gsz (n := g + 1) (Array.getElem?_eq_some_iff.mp hgs).1 (wpAny_pyNext_genexpQ (A := A.in1) (P := RAll Y τ Qt) hh hl hroom hg hgs (hgo _ rfl rfl (allBare_setGen hb rfl)) (fun v s1 gs' hb' hv hsz => ?_) (fun s1 hp h' hk hsz => ?_)))
    · obtain ⟨b, H, rfl, I, hf, ht⟩ := hv
      apply wpAny_bind
      apply wpAny_holding
      apply wpAny_truthy_bool
      apply wpAny_bind
      apply wpAny_letGo
      cases b with
      | true => exact (ht rfl s1 rfl rfl I.bare).elim
      | false =>
        simp only [Bool.false_eq_true, if_false]
        apply wpAny_bind
        apply wpAny_rule
        apply wpAny_pure
        exact hF _ H (inv_samehp I rfl rfl (allBare_setGen I.bare hb')) (hf rfl)
    · obtain ⟨H, I, q⟩ := hp
      apply wpAny_bind
      apply wpAny_rule
      apply wpAny_pure
      have I2 := inv_samehp (s2 := s1.setGen g .finished) I rfl rfl (allBare_setGen I.bare rfl)
      exact hT _ H (I2.kept (t' := (s1.setGen g .finished).toks) hk) q
  | succ n ih =>
    intro s gs hg hl hb hgs hgo
    refine codeAny_builtin F.entry_all_loop ?_
    rw [Around.under_plainId F.plain_all_loop _]
    show wpAny _ A.in1 (pyNext (.ref a) >>= _) _ _ s
    refine wpAny_bind (GenW.wpAny_gsz (n := g + 1) (Array.getElem?_eq_some_iff.mp hgs).1 (wpAny_pyNext_genexpQ (A := A.in1) (P := RAll Y τ Qt) hh hl hroom hg hgs (hgo _ rfl rfl (allBare_setGen hb rfl)) (fun v s1 gs' hb' hv hsz => ?_) (fun s1 hp h' hk hsz => ?_)))
    · obtain ⟨b, H, rfl, I, hf, ht⟩ := hv
      apply wpAny_bind
      apply wpAny_holding
      apply wpAny_truthy_bool
      apply wpAny_bind
      apply wpAny_letGo
      cases b with
      | true =>
        simp only [if_true]
        apply wpAny_pure
        refine ⟨plainId_quiet F.plain_all_loop _, ih _ gs' (hgen _ (I.pin (a, go) (List.mem_append_left _ hpin)).1) I.nolimit (allBare_setGen I.bare hb') (setGen_at ?_) fun s2 e1 e2 e3 => ht rfl s2 e1 e2 e3⟩
        rw [GenW.setGen_size] at hsz
        exact hsz
      | false =>
        simp only [Bool.false_eq_true, if_false]
        apply wpAny_bind
        apply wpAny_rule
        apply wpAny_pure
        exact hF _ H (inv_samehp I rfl rfl (allBare_setGen I.bare hb')) (hf rfl)
    · obtain ⟨H, I, q⟩ := hp
      apply wpAny_bind
      apply wpAny_rule
      apply wpAny_pure
      have I2 := inv_samehp (s2 := s1.setGen g .finished) I rfl rfl (allBare_setGen I.bare rfl)
      exact hT _ H (I2.kept (t' := (s1.setGen g .finished).toks) hk) q
end
end GX
set_option Elab.async false
set_option maxRecDepth 100000
set_option maxHeartbeats 4000000
namespace GX
open PySem PySem.Spec PyProof.Rows L2

section
variable {X : Cx} {pins : List (Addr × Obj)} {σ : L2.St} {H : Hp} {s : Shared}

/-- a generator expression has been made, ready to be walked, in the state s5; what stood ahead of its frame: s4 -/
structure Ready (X : Cx) (pins : List (Addr × Obj)) (σ : L2.St) (own : List (Str × Nat)) (sc : Scope) (elt tg iter : Expr) (gpos : Pos) (J : It) (H1 : Hp) (a : Addr) (s5 : Shared)
    (s4 : Shared) (cv : Value) (g : Nat) (go : Obj) (it : Addr) (fp : List Addr) (tn : Nat → Heap → Prop) : Prop where
  outer : Inv X pins σ H1 s4
  fps : ∀ b ∈ fp, FpOk X pins H1 b ∧ b < s4.heap.objs.size
  turn : Turn X.prog X.w X.K tg J fp it tn
  st : tn 0 s5.heap
  inner : ∀ B : Around, (X.calm = true → B.handled = none) → B.frames = some (gEnv X sc s4.heap.objs.size cv :: X.stack) →
    Inv (genCx X B s4 H1 (gEnv X sc s4.heap.objs.size cv) fp [(a, go)]) [] (wipe σ (own.map (·.2))) H1 s5
  gen : ∀ h : Heap, h.get? a = some go → h.IsGen a g
  at_ : s5.heap.get? a = some go
  old : a ∉ fp
  gs : s5.gens[g]? = some (.fresh (.compStart (.GeneratorExp elt [⟨tg, iter, [], 0⟩] sc gpos) 0 (.ref it) .none (gEnv X sc s4.heap.objs.size cv)))
  lim : s5.heap.NoLimit
  bare : AllBare s5.gens

theorem gx_make {c P : Addr} {own : List (Str × Nat)} {sc : Scope} {elt tg iter : Expr} {gpos : Pos} {wi : TI} {k : Nat} {R : It → Hp → Prop} {Q' : Value → Shared → Prop}
    (hr : Room k X.A) (TB : GxR.TabB X.base X.mg c P) (hcode : X.env.code = .ref c) (hN : X.N.Nodup)
    (ok : BlkOk X.N X.env.scope sc own) (nocell : ∀ y ∈ sc.names, y.2 ≠ .cell) (dot : sc.names.lookup (".0" : Str) = some NameKind.local) (hco : sc.isCoroutine = false)
    (hi : PI X tg iter wi) (hs : ∀ v, genFold iter X.env v = pure v)
    (I : Inv X pins σ H s) (h : wi σ H fun J H1 => Tab H1 P ∧ R J H1)
    (hQ : ∀ J H1 a s5 s4 cv g go it fp tn, R J H1 → Ready X pins σ own sc elt tg iter gpos J H1 a s5 s4 cv g go it fp tn → Q' (.ref a) s5) :
    wpAny (model X.prog X.w) X.A (eval (.GeneratorExp elt [⟨tg, iter, [], 0⟩] sc gpos) X.env) Q' X.xe s := by
  have caught : ∀ y ∈ sc.names, y.2 = .free → ∃ c, X.env.cells.lookup y.1 = some c := fun y hy e =>
    (ok.free y hy e).elim (fun z => I.ok.has _ (.inl z)) (fun z => I.ok.has _ (.inr z))
  refine wpAny_GeneratorExp_make hco (closure_ok caught) nocell dot ok.kind (by have := hr.dp; omega) ?_ hs
  refine thn (hi.run pins s σ H _ I h) fun xv s1 h1 => thn h1 fun itv s2 h2 => ?_
  obtain ⟨it, fp, tn, J, H2, rfl, I2, T, st2, f2, hT, hR⟩ := h2
  obtain ⟨⟨rs, hPs, ht⟩, _, _⟩ := I2.hok P _ hT
  have cd : PySem.W.CodeHd s2.heap c P := TB.code.keeps I2.bk
  refine ⟨I2.nolimit, ?_⟩
  have fsz : ∀ b ∈ fp, b < s2.heap.objs.size := fun b hb => by
    obtain ⟨o, e, _⟩ := T.obj _ _ st2 b hb
    exact Heap.lt_size e
  have neP : ∀ b ∈ fp, b ≠ P := fun b hb z => by
    have q := (f2 b hb).1
    have q2 : H2 P = some (.ext (TabE P)) := hT
    rw [z, q2] at q
    cases q
  have cont : ∀ (cv : Value) (s4 : Shared), Inv X pins σ H2 s4 → (∀ b o, b ≠ P → s2.heap.get? b = some o → s4.heap.get? b = some o) → s2.heap.objs.size ≤ s4.heap.objs.size →
      wpAny (model X.prog X.w) X.A (builtinsFor X.env.globals X.env.builtins) (fun bi s₄ => ∀ h', h'.Ns s₄.heap.objs.size (fun y => if y = ".0" then some (Value.ref it) else none) →
        Heap.SameBut s₄.heap.objs.size (s₄.heap.push { cls := .type "frame", data := .dict #[] }) h' →
          Q' (.ref h'.objs.size) { s₄ with
            gens := s₄.gens.push (.fresh (.compStart (.GeneratorExp elt [⟨tg, iter, [], 0⟩] sc gpos) 0 (.ref it) .none (genEnv sc (cloFrom X.env.cells sc.names []) s₄.heap.objs.size cv bi X.env))),
            toks := s₄.toks + 1 + 1 + 1,
            heap := h'.push { cls := .type "generator", data := .fields #[.int s₄.gens.size 0, .str "<genexpr>" (s₄.toks + 1), .str (X.env.qual ++ "<genexpr>") (s₄.toks + 1 + 1)] } }) X.xe s4 := by
    intro cv s4 I4 kp sz
    obtain ⟨bm, ob, e1, e2, e3, e4, e5, e6, e7, e8⟩ := TB.bm
    refine wpAny_builtinsFor (m := X.mg) (by rw [I4.ok.glob]; exact I4.mod.glob.keeps I4.bk) e1 e2 (I4.bk _ _ e5) e6 e7 e8 ?_
    intro h' hn' hs'
    have hsz : h'.objs.size = s4.heap.objs.size + 1 := by rw [hs'.1, Heap.size_push]
    have kp4 : ∀ b o, s4.heap.get? b = some o → (h'.push { cls := .type "generator", data := .fields #[.int s4.gens.size 0, .str "<genexpr>" (s4.toks + 1), .str (X.env.qual ++ "<genexpr>") (s4.toks + 1 + 1)] }).get? b = some o := fun b o e =>
      Heap.get?_push_of_some _ (hs'.extBut b o (Nat.ne_of_lt (Heap.lt_size e)) (Heap.get?_push_of_some _ e))
    have fok : ∀ b ∈ fp, FpOk X pins H2 b ∧ b < s4.heap.objs.size := fun b hb => ⟨f2 b hb, Nat.lt_of_lt_of_le (fsz b hb) sz⟩
    refine hQ J H2 h'.objs.size _ s4 cv s4.gens.size { cls := .type "generator", data := .fields #[.int s4.gens.size 0, .str "<genexpr>" (s4.toks + 1), .str (X.env.qual ++ "<genexpr>") (s4.toks + 1 + 1)] } it fp tn hR
      ⟨I4, fok, T, ?_, fun B hB hF => gen_start I4 ok nocell hN fok hB hF hn' hs' (fun v z => by cases z) (Heap.get?_push_size _ rfl) rfl, fun h e => ⟨_, _, _, e, rfl, rfl, rfl⟩, Heap.get?_push_size _ rfl, fun z => ?_, Array.getElem?_push_size .., I4.nolimit.keeps kp4, I4.bare.push rfl⟩
    · refine T.keep _ _ _ st2 fun b hb o e => kp4 b o (kp b o (neP b hb) e)
    · have q := (fok _ z).2
      rw [hsz] at q
      exact absurd q (Nat.not_lt.mpr (Nat.le_succ _))
  cases hf : codeAmong gpos rs.toList with
  | none =>
    refine wpAny_genexprCodeX hcode (cd.code hPs ht) (cd.tab hPs) hf fun c' h' tk hx hge hlt hco' _ htab' _ => ?_
    obtain ⟨o1, vs, f1, tf, fl, tg', inF, tx, tt, op, _, _, _, _, _, _, _, _, _, htr, _⟩ := hco'
    exact cont _ { s2 with heap := h', toks := tk } (tab_grown (tk := tk) (dd := s2.drawn) (G := s2.gens) I2 hT (fun b o hb e => hx b o hb e) htab'.2 htr I2.bare) (fun b o hb e => hx b o hb e) (Nat.le_trans hge (Nat.le_of_lt hlt))
  | some cv =>
    refine wpAny_genexprCode_hit hcode (cd.code hPs ht) hf ?_
    exact cont cv s2 I2 (fun b o _ e => e) (Nat.le_refl _)

/-- all(e for x in xs): J what is walked; W by the turn and a measure -/
def tAll (P : Addr) (wi : TI) (g : TG) (te : TE) (vs : List Nat) : TE := fun σ H Q => wi σ H fun J H1 => Tab H1 P ∧
  ∃ W : Nat → Nat → Hp → Prop, (∃ m, W 0 m H1) ∧ Step J g te vs (wipe σ vs) (Q (.bl true)) (Q (.bl false)) W

theorem over_gx {A : Around} {elt tg iter : Expr} {sc : Scope} {gpos : Pos} {it : Addr} {ce : Env} :
    (A.over (.compLoop (.GeneratorExp elt [⟨tg, iter, [], 0⟩] sc gpos) 0 (.ref it) .none ce) []).frames = A.frames.map (ce :: ·) := by
  show pushEnvs [ce] (pushEnvs [] A.frames) = _
  cases A.frames <;> rfl
theorem room_gx {A : Around} {k : Nat} {elt tg iter : Expr} {sc : Scope} {gpos : Pos} {it : Addr} {ce : Env} (r : Room (k + 1) A) :
    Room k (A.in1.in1.over (.compLoop (.GeneratorExp elt [⟨tg, iter, [], 0⟩] sc gpos) 0 (.ref it) .none ce) []) := by
  refine ⟨r.hd, ?_, ?_⟩
  · have := r.dp
    show A.depth + 0 + 1 + 3 * k + 5 < _
    omega
  · have := r.un
    show A.units + 1 + 1 + 0 + 3 + 16 * k + 200 < _
    omega

theorem pe_all {c P : Addr} {own : List (Str × Nat)} {sc : Scope} {elt tg iter : Expr} {p pos gpos : Pos} {wi : TI} {g : TG} {te : TE} {k : Nat}
    (hr : Room (k + 1) X.A) (hg : Gl X "all") (hm : X.mg "all" = none) (TB : GxR.TabB X.base X.mg c P) (hcode : X.env.code = .ref c) (hc : X.calm = true) (hN : X.N.Nodup)
    (ok : BlkOk X.N X.env.scope sc own) (nocell : ∀ y ∈ sc.names, y.2 ≠ .cell) (dot : sc.names.lookup (".0" : Str) = some NameKind.local) (hco : sc.isCoroutine = false)
    (hi : PI X tg iter wi) (pg : ∀ (B : Around) (s0 : Shared) (H0 : Hp) (C : Addr) (cv : Value) (fp : List Addr) (pn : List (Addr × Obj)), PG (genCx X B s0 H0 (gEnv X sc C cv) fp pn) tg g)
    (pe : ∀ (B : Around) (s0 : Shared) (H0 : Hp) (C : Addr) (cv : Value) (fp : List Addr) (pn : List (Addr × Obj)), Room k B → PE (genCx X B s0 H0 (gEnv X sc C cv) fp pn) elt te)
    (hs : ∀ v, genFold iter X.env v = pure v := by intro _; rfl)
    (he : starEach [.GeneratorExp elt [⟨tg, iter, [], 0⟩] sc gpos] X.env = (false, eval (.GeneratorExp elt [⟨tg, iter, [], 0⟩] sc gpos) X.env) :: starEach [] X.env := by rfl) :
    PE X (.Call (.Name "all" p) [.GeneratorExp elt [⟨tg, iter, [], 0⟩] sc gpos] [] pos) (tAll P wi g te (own.map (·.2))) := by
  refine ⟨fun pins s σ H Q I h => ?_⟩
  refine wpAny_Call_Name_kw (ld_blt I hg hm (show bootBuiltins "all" = some (.builtin "all") by decide +kernel) ?_)
  refine PyProof.Rows.callWith_builtin1 ?_ he (by rfl)
  rw [he]
  show wpAny _ _ (spliced ((false, eval (.GeneratorExp elt [⟨tg, iter, [], 0⟩] sc gpos) X.env) :: backTo pos (starEach [] X.env))) _ _ s
  refine Calls.spliced_cons (gx_make (own := own) (R := fun J H1 => ∃ W : Nat → Nat → Hp → Prop, (∃ m, W 0 m H1) ∧ Step J g te (List.map Prod.snd own) (wipe σ (List.map Prod.snd own)) (Q (.bl true)) (Q (.bl false)) W)
    hr TB hcode hN ok nocell dot hco hi hs I h fun J H1 a s5 s4 cv gn go it fp tn hR rd => ?_)
  obtain ⟨W, ⟨m0, w0⟩, step⟩ := hR
  refine Calls.spliced_nil ?_
  refine call_function_tree F.kind_all F.plain_all F.entry_all (F.args_all1 _) ?_
  unfold Builtin.«all»
  apply wpAny_bind (m := oneArg "all" _)
  apply wpAny_pure
  apply wpAny_bind
  refine wpAny_pyIter_gen (rd.gen _ rd.at_) ?_
  apply wpAny_pure
  refine ⟨plainId_quiet F.plain_all_loop _, ?_⟩
  -- the element's context
  have hB : X.calm = true → (X.A.in1.in1.over (.compLoop (.GeneratorExp elt [⟨tg, iter, [], 0⟩] sc gpos) 0 (.ref it) .none (gEnv X sc s4.heap.objs.size cv)) []).handled = none := fun z => I.ok.hd z
  have hF : (X.A.in1.in1.over (.compLoop (.GeneratorExp elt [⟨tg, iter, [], 0⟩] sc gpos) 0 (.ref it) .none (gEnv X sc s4.heap.objs.size cv)) []).frames = some (gEnv X sc s4.heap.objs.size cv :: X.stack) := by
    rw [over_gx]
    show X.A.frames.map _ = _
    rw [I.ok.frames]
    rfl
  have J5 := rd.inner _ hB hF
  have back : ∀ (s6 : Shared) (H6 : Hp), Inv (genCx X (X.A.in1.in1.over (.compLoop (.GeneratorExp elt [⟨tg, iter, [], 0⟩] sc gpos) 0 (.ref it) .none (gEnv X sc s4.heap.objs.size cv)) []) s4 H1 (gEnv X sc s4.heap.objs.size cv) fp [(a, go)]) [] (wipe σ (own.map (·.2))) H6 s6 →
      Inv X pins σ H6 s6 := fun s6 H6 I6 => by
    exact rd.outer.call' (ch := fp) I6.os I6.base I6.hok I6.bare fun b hb => ⟨(rd.fps b hb).1.2.2.2.1, (rd.fps b hb).1.2.1, (rd.fps b hb).1.2.2.2.2.1, (rd.fps b hb).1.2.2.2.2.2⟩
  refine code_all (Y := genCx X (X.A.in1.in1.over (.compLoop (.GeneratorExp elt [⟨tg, iter, [], 0⟩] sc gpos) 0 (.ref it) .none (gEnv X sc s4.heap.objs.size cv)) []) s4 H1 (gEnv X sc s4.heap.objs.size cv) fp [(a, go)])
    (A := X.A) (go := go) (g := gn) (τ := wipe σ (own.map (·.2))) (Qt := Q (.bl true)) (Qf := Q (.bl false)) hr.hd hr.depth (by simp) rd.gen
    (fun s6 H6 I6 q6 => ⟨.bl true, H6, back s6 H6 I6, rfl, q6⟩) (fun s6 H6 I6 q6 => ⟨.bl false, H6, back s6 H6 I6, rfl, q6⟩) (m0 + 1) s5 _ (rd.gen _ rd.at_) rd.lim rd.bare rd.gs (fun s7 e7 o7 b7 => ?_)
  have J7 := inv_samehp J5 e7 o7 b7
  have st7 : tn 0 s7.heap := by
    rw [e7]
    exact rd.st
  refine ⟨rfl, seg_all_start rd.turn st7 ?_⟩
  refine seg_all (Y := genCx X (X.A.in1.in1.over (.compLoop (.GeneratorExp elt [⟨tg, iter, [], 0⟩] sc gpos) 0 (.ref it) .none (gEnv X sc s4.heap.objs.size cv)) []) s4 H1 (gEnv X sc s4.heap.objs.size cv) fp [(a, go)])
    rfl hc hco (fun b hb => hb) (fun q hq => ?_) rfl (pg _ _ _ _ _ _ _) (pe _ _ _ _ _ _ _ (room_gx hr)) rd.turn step (fun τ2 hw k v e => ?_) (m0 + 1) 0 m0 s7 s7 H1 (Nat.lt_succ_self _) J7 st7 (fun b hb => (rd.fps b hb).1.1) w0
  · have e : q = (a, go) := by simpa using hq
    subst e
    exact rd.old
  · rw [← hw] at e
    exact (wipe_some e).1
end
end GX
set_option Elab.async false
set_option maxRecDepth 100000
set_option maxHeartbeats 4000000
namespace GX
open PySem PySem.Spec PyProof.Rows L2

/-- a walk of n turns by a word of its own: the next turn is reached -/
def AllNx (n : Nat) (Pv : Nat → Hp → Prop) (i : Nat) (H : Hp) : Prop := ∃ m', m' < n - i ∧ (m' = n - (i + 1) ∧ i + 1 ≤ n ∧ Pv (i + 1) H)
theorem AllNx.mk {n : Nat} {Pv : Nat → Hp → Prop} {i : Nat} {H : Hp} (hi : i < n) (p : Pv (i + 1) H) : AllNx n Pv i H := ⟨n - (i + 1), by omega, rfl, hi, p⟩
theorem all_by {J : It} {g : TG} {te : TE} {vs : List Nat} {τ : L2.St} {Qt Qf : Hp → Prop} {H1 : Hp} (n : Nat) (Pv : Nat → Hp → Prop) (h0 : Pv 0 H1)
    (turn : ∀ i H, i < n → Pv i H → J.go i H ∧ ∀ x H', J.yld i H x H' → g x τ H' fun τ2 H2 => wipe τ2 vs = τ ∧ te τ2 H2 fun y H3 => ∃ b, y = V.bl b ∧ (b = true → AllNx n Pv i H3) ∧ (b = false → Qf H3))
    (stop : ∀ H, Pv n H → J.stop n H ∧ Qt H) :
    ∃ W : Nat → Nat → Hp → Prop, (∃ m, W 0 m H1) ∧ Step J g te vs τ Qt Qf W := by
  refine ⟨fun i m H => m = n - i ∧ i ≤ n ∧ Pv i H, ⟨n, rfl, Nat.zero_le _, h0⟩, ?_⟩
  rintro i m H ⟨rfl, hi, p⟩
  by_cases hlt : i < n
  · obtain ⟨go, nx⟩ := turn i H hlt p
    exact .inr ⟨go, nx⟩
  · have e : i = n := by omega
    subst e
    exact .inl (stop H p)
theorem bf {b : Bool} (h : ¬ b = true) : b = false := by
  cases b with
  | true => exact absurd rfl h
  | false => rfl
end GX

namespace RS
open PySem PySem.Spec PyProof.Rows L2 GX
/-! ### defs as constants of the module -/
/-- the def st stands as the module's x; c: its code object -/
structure DefAt (K : PySem.W.Frag) (mg : Str → Option Value) (x : Str) (st : Stmt) (c : Addr) : Prop where
  ex : ∃ (f : Addr) (oc : Value) (od : Option Addr) (kV doc pm : Value) (an : Option Addr) (ct : Value) (osl : Array (Option Value)),
    mg x = some (.ref f) ∧ K.lookup f = some ⟨oc, od, .func (PySem.W.fnOf x x (defArgs st) (defBody st) (defScope st) .none kV doc pm an (.ref c) ct), osl⟩ ∧
    PySem.W.codeIn K (.ref c) x = true ∧ PySem.W.keepIn K (.ref f) = true
/-- what a caller needs of a def: its promise -/
structure Cal (P : Program) (w : World) (K : PySem.W.Frag) (mg : Str → Option Value) (base : Heap) (CX : CXT) (k : Nat) (x : Str) (ps : List Str) (sp : Sp) : Prop where
  ex : ∃ (f : Addr) (fd : FuncData), FnOk P w K mg base CX k f fd ps sp ∧ mg x = some (.ref f) ∧ PySem.W.keepIn K (.ref f) = true ∧ Binds K fd ps []
section
variable {P : Program} {w : World} {K : PySem.W.Frag} {mg : Str → Option Value} {base : Heap}
theorem def_ok {CX : CXT} {x : Str} {st : Stmt} {c : Addr} {N ps : List Str} {k : Nat} {sp : Sp} (D : DefAt K mg x st c) (S : FnScope N ps (defScope st)) (len : ∀ vs H Q E, sp vs H Q E → vs.length = ps.length)
    (hb : ∀ (kV doc pm : Value) (an : Option Addr) (cdv ct : Value) (us : List Value), us.length = ps.length → bindArgs (PySem.W.fnOf x x (defArgs st) (defBody st) (defScope st) .none kV doc pm an cdv ct) ⟨us, []⟩ = pure (ps.zip us))
    (hbody : ∀ (f : Addr) (A : Around) (outer : List Env) (s : Shared) (H : Hp) (vs : List V) (Q : VK) (E : XK), Room k (A.deeper (envOfC x (defScope st) s.heap.objs.size f (.ref c))) → sp vs H Q E →
      ∃ t, PSs (cxOf CX P w K mg base N x (defScope st) f (.ref c) A outer s H E) (defBody st) t ∧ t { nx := fun _ H' => Q .non H', rt := Q } (start N vs) H) :
    Cal P w K mg base CX (k + 1) x ps sp := by
  obtain ⟨f, oc, od, kV, doc, pm, an, ct, osl, hm, lk, hcd, kp⟩ := D.ex
  exact ⟨f, _, fn_of lk hcd S len fun A outer s H vs Q E hr hsp => hbody f A outer s H vs Q E hr hsp, hm, kp, .all (hb kV doc pm an (.ref c) ct)⟩
/-- .. that no exception leaves -/
theorem def_ok0 {x : Str} {st : Stmt} {c : Addr} {N ps : List Str} {k : Nat} {sp : Sp} (D : DefAt K mg x st c) (S : FnScope N ps (defScope st)) (len : ∀ vs H Q E, sp vs H Q E → vs.length = ps.length)
    (hb : ∀ (kV doc pm : Value) (an : Option Addr) (cdv ct : Value) (us : List Value), us.length = ps.length → bindArgs (PySem.W.fnOf x x (defArgs st) (defBody st) (defScope st) .none kV doc pm an cdv ct) ⟨us, []⟩ = pure (ps.zip us))
    (hbody : ∀ (f : Addr) (A : Around) (outer : List Env) (s : Shared) (H : Hp) (vs : List V) (Q : VK) (E : XK), Room k (A.deeper (envOfC x (defScope st) s.heap.objs.size f (.ref c))) → sp vs H Q E →
      ∃ t, PSs (cxOf CX0 P w K mg base N x (defScope st) f (.ref c) A outer s H E).nox (defBody st) t ∧ t { nx := fun _ H' => Q .non H', rt := Q } (start N vs) H) :
    Cal P w K mg base CX0 (k + 1) x ps sp :=
  def_ok D S len hb fun f A outer s H vs Q E hr hsp => by
    obtain ⟨t, ht, q⟩ := hbody f A outer s H vs Q E hr hsp
    exact ⟨t, ht.nox, q⟩
end
section
variable {X : Cx} {CX : CXT} {k j : Nat} {ps : List Str} {sp : Sp} {E : XK} {x : Str} {p pos : Pos} {e : Expr} {es : List Expr} {t : TA}
theorem pe_c (c : Cal X.prog X.w X.K X.mg X.base CX k x ps sp) (hr : Room j X.A) (hk : k ≤ j) (hg : Gl X x) (hx : Passes CX X E) (ha : PA X (e :: es) t) (hdb : (x == ("__debug__" : Str)) = false := by decide)
    (he : starEach (e :: es) X.env = (false, eval e X.env) :: starEach es X.env := by rfl) (hpl : (backTo pos (starEach es X.env)).any (·.1) = false := by rfl) :
    PE X (.Call (.Name x p) (e :: es) [] pos) (tCall sp [] E t) := by
  obtain ⟨f, fd, F, hm, kp, hb⟩ := c.ex
  exact pe_call F (hr.mono hk) hg hm kp hb .nil hx ha hdb he hpl
end

/-! ### data -/
theorem sqT_same {K : PySem.W.Frag} {H H' : Hp} {a : Addr} {xs : List V} (e : Same H H') (h : SqT K H a xs) : SqT K H' a xs := by
  rcases h with (h | ⟨o, h⟩) | h
  · exact .inl (.inl (e _ _ h))
  · exact .inl (.inr ⟨o, e _ _ h⟩)
  · exact .inr h
mutual
theorem dp_same {K : PySem.W.Frag} {H H' : Hp} (e : Same H H') : ∀ (d : PyData) {v : V}, Dp K H v d → Dp K H' v d
  | .none, _, .non => .non
  | .bool b, _, .bl _ => .bl b
  | .int i, _, .int _ => .int i
  | .str x, _, .str _ => .str x
  | .list ds, _, .lst h hs => .lst (e.seq h) (dpAll_same e ds hs)
  | .tuple ds, _, .tup h hs => .tup (sqT_same e h) (dpAll_same e ds hs)
  | .dict _, _, h => nomatch h
theorem dpAll_same {K : PySem.W.Frag} {H H' : Hp} (e : Same H H') : ∀ (ds : List PyData) {vs : List V}, DpAll K H vs ds → DpAll K H' vs ds
  | [], _, .nil => .nil
  | d :: ds, _, .cons h hs => .cons (dp_same e d h) (dpAll_same e ds hs)
end
theorem dpLen {K : PySem.W.Frag} {H : Hp} : ∀ {vs : List V} {ds : List PyData}, DpAll K H vs ds → vs.length = ds.length
  | _, _, .nil => rfl
  | _, _, .cons _ t => congrArg (· + 1) (dpLen t)
theorem dpGet {K : PySem.W.Frag} {H : Hp} : ∀ {vs : List V} {ds : List PyData} {i : Nat} {v : V}, DpAll K H vs ds → vs[i]? = some v → ∃ d, ds[i]? = some d ∧ Dp K H v d
  | _, _, _, _, .nil, e => by simp at e
  | _, _, 0, _, .cons h _, e => by
    simp at e
    subst e
    exact ⟨_, rfl, h⟩
  | _, _, i + 1, v, .cons _ t, e => by
    obtain ⟨d, h1, h2⟩ := dpGet (i := i) (v := v) t (by simpa using e)
    exact ⟨d, by simpa using h1, h2⟩
theorem dpGet' {K : PySem.W.Frag} {H : Hp} {vs : List V} {ds : List PyData} {i : Nat} {d : PyData} (h : DpAll K H vs ds) (e : ds[i]? = some d) : ∃ v, vs[i]? = some v ∧ Dp K H v d := by
  have hl := dpLen h
  have hi : i < vs.length := by
    rw [hl]
    exact (List.getElem?_eq_some_iff.mp e).1
  obtain ⟨d', e', h'⟩ := dpGet h (List.getElem?_eq_getElem hi)
  rw [e] at e'
  cases e'
  exact ⟨_, List.getElem?_eq_getElem hi, h'⟩
theorem dpApp {K : PySem.W.Frag} {H : Hp} : ∀ {vs ws : List V} {ds es : List PyData}, DpAll K H vs ds → DpAll K H ws es → DpAll K H (vs ++ ws) (ds ++ es)
  | _, _, _, _, .nil, h => h
  | _, _, _, _, .cons h t, q => .cons h (dpApp t q)

/-- the name of a datum's type -/
def tyN : PyData → String
  | .none => "NoneType"
  | .bool _ => "bool"
  | .int _ => "int"
  | .str _ => "str"
  | .list _ => "list"
  | .tuple _ => "tuple"
  | .dict _ => "dict"
/-- isinstance(d, T), d's type being n -/
def isT (T n : String) : Bool := T == n || (T == "int" && n == "bool")
def isI (T : String) (d : PyData) : Bool := isT T (tyN d)
theorem kit_names : ∀ n ∈ ["NoneType", "bool", "int", "str", "list", "tuple"], ∀ T ∈ ["int", "bool", "str", "list", "tuple"], kitB n T = some (isT T n) := by decide +kernel
theorem dp_ty {K : PySem.W.Frag} {H : Hp} {v : V} {d : PyData} (h : Dp K H v d) : TyX K H v (.type (tyN d)) := by
  cases h with
  | non => exact .base .non
  | bl b => exact .base (.bl b)
  | int i => exact .base (.int i)
  | str x => exact .base (.str x)
  | lst q _ =>
    rcases q with (q | ⟨o, q⟩) | ⟨o, its, n, q, c, _⟩
    · exact .base (.lst q)
    · exact .base (.frz q)
    · exact .kList q c
  | tup q _ =>
    rcases q with (q | ⟨o, q⟩) | ⟨o, its, n, q, c, _⟩
    · exact .base (.tup q)
    · exact .fTuple q
    · exact .kTuple q c
theorem kit_isI {K : PySem.W.Frag} {T : String} (hT : T ∈ ["int", "bool", "str", "list", "tuple"]) {H : Hp} {v : V} {d : PyData} (h : Dp K H v d) : PySem.W.kitOne K (.type (tyN d)) (.type T) = some (isI T d) := by
  refine kit_ty (kit_names _ ?_ _ hT)
  cases h <;> simp [tyN]
theorem isi_at {K : PySem.W.Frag} {H : Hp} {v : V} {d : PyData} {T : String} {Q : VK} (h : Dp K H v d) (q : Q (.bl (isI T d)) H) (hT : T ∈ ["int", "bool", "str", "list", "tuple"] := by simp) : rIsi K [v, .ty T] H Q :=
  ⟨v, .ty T, _, _, isI T d, rfl, .ty T, dp_ty h, kit_isI hT h, q⟩
end RS
set_option Elab.async false
set_option maxRecDepth 100000
set_option maxHeartbeats 4000000
namespace RS
open PySem PySem.Spec PyProof.Rows L2 GX
section
variable {X : Cx}
/-! ### rules whose readings speak of data -/
/-- isinstance(x, T) -/
theorem call_isiD : CallR X (.builtin "isinstance") (fun xs H Q => ∃ x T d, xs = [x, .ty T] ∧ T ∈ ["int", "bool", "str", "list", "tuple"] ∧ Dp X.K H x d ∧ Q (.bl (isI T d)) H) := by
  intro pins s σ H xs us Q I r ⟨x, T, d, e, hT, hd, q⟩
  subst e
  exact call_isi pins s σ H _ us Q I r ⟨x, .ty T, _, _, isI T d, rfl, .ty T, dp_ty hd, kit_isI hT hd, q⟩
/-- how many items -/
def lenD : PyData → Option Nat
  | .list ds => some ds.length
  | .tuple ds => some ds.length
  | .str x => if x.length ≤ sizeLine then some x.length else none
  | _ => none
/-- len(x) of a list, a tuple, a text -/
theorem call_lenD : CallR X (.builtin "len") (fun xs H Q => ∃ x d n, xs = [x] ∧ Dp X.K H x d ∧ lenD d = some n ∧ Q (.int n) H) := by
  intro pins s σ H xs us Q I r ⟨x, d, n, e, hd, hn, q⟩
  subst e
  cases hd with
  | non => cases hn
  | bl _ => cases hn
  | int _ => cases hn
  | str y =>
    simp only [lenD] at hn
    split at hn
    · rename_i hz
      cases hn
      exact call_len_str pins s σ H _ us Q I r ⟨y, rfl, hz, q⟩
    · cases hn
  | @lst a ys ds h hs =>
    cases hn
    rw [← dpLen hs] at q
    exact call_len_seq pins s σ H _ us Q I r ⟨a, ys, rfl, .inl h, q⟩
  | @tup a ys ds h hs =>
    cases hn
    rw [← dpLen hs] at q
    exact call_len_seq pins s σ H _ us Q I r ⟨a, ys, rfl, .inr h, q⟩
/-- the items of a list or tuple -/
def itemsD : PyData → Option (List PyData)
  | .list ds => some ds
  | .tuple ds => some ds
  | _ => none
/-- x[i] of a list or a tuple -/
theorem ixD : IxR X (fun x y H Q => ∃ d ds i d', Dp X.K H x d ∧ itemsD d = some ds ∧ y = .int i ∧ atI ds i = some d' ∧ ∀ v, Dp X.K H v d' → Q v H) := by
  intro value slice pins s σ H x y v u Q I rx ry ⟨d, ds, i, d', hd, hi, ey, ha, q⟩ hs
  have at_ : ∀ {vs : List V}, DpAll X.K H vs ds → ∃ v, atI vs i = some v ∧ Dp X.K H v d' := fun {vs} hv => by
    unfold atI at ha ⊢
    rw [← dpLen hv] at ha
    cases hx : ixN vs.length i with
    | none => rw [hx] at ha; cases ha
    | some j =>
      rw [hx] at ha
      exact dpGet' hv ha
  cases hd with
  | non => cases hi
  | bl _ => cases hi
  | int _ => cases hi
  | str _ => cases hi
  | @lst a ys es h hes =>
    cases hi
    obtain ⟨z, hz, hzd⟩ := at_ hes
    exact ix_list value slice pins s σ H _ y v u Q I rx ry ⟨a, ys, i, z, rfl, ey, h, hz, q z hzd⟩ hs
  | @tup a ys es h hes =>
    cases hi
    obtain ⟨z, hz, hzd⟩ := at_ hes
    exact ix_tup value slice pins s σ H _ y v u Q I rx ry ⟨a, ys, i, z, rfl, ey, h, hz, q z hzd⟩ hs
end
end RS
set_option Elab.async false
set_option maxRecDepth 100000
set_option maxHeartbeats 4000000
namespace RS
open PySem L2
def top (i : Nat) : Stmt := PySem.Challenge.pw_runsorts_k08_whole_no_plan_moves_fewer.main.body.getD i (.Pass ⟨0, 0, 0, 0⟩)

abbrev sIsNumber : Stmt := top 7
abbrev s_check_lengths : Stmt := top 13
abbrev s_check_ways : Stmt := top 14
abbrev s_check_plan : Stmt := top 15
abbrev s_check_merging : Stmt := top 16
abbrev s_how_many : Stmt := top 17
abbrev s_cost : Stmt := top 18
abbrev s_cheapest : Stmt := top 19
abbrev sBegun : Stmt := top 21
abbrev sTake : Stmt := top 22
abbrev sAlike : Stmt := top 23
abbrev s__law_lengths : Stmt := top 24
abbrev s__law_plan : Stmt := top 25
abbrev s__law_side : Stmt := top 26
abbrev s__law_in : Stmt := top 27
abbrev s__law_cost : Stmt := top 28
abbrev s__law_fits : Stmt := top 29
abbrev s__law_choices : Stmt := top 30
abbrev s__law_fewest : Stmt := top 31
abbrev s__law_padded : Stmt := top 32
abbrev sRight : Stmt := top 33
abbrev sLaw : Stmt := top 34

/-- what the module's names hold -/
structure Txt (K : PySem.W.Frag) (mg : Str → Option Value) : Prop where
  isinstance : mg "isinstance" = none
  int_ : mg "int" = none
  bool_ : mg "bool" = none
  str_ : mg "str" = none
  list_ : mg "list" = none
  tuple_ : mg "tuple" = none
  len : mg "len" = none
  all : mg "all" = none
  zip : mg "zip" = none
  enumerate : mg "enumerate" = none
  ord : mg "ord" = none
  range : mg "range" = none
  sorted : mg "sorted" = none
  max : mg "max" = none
  min : mg "min" = none
  lengths : ∃ t, mg "MOST_LENGTHS" = some (.int 40 t)
  length : ∃ t, mg "MOST_LENGTH" = some (.int 1000000 t)
  leastw : ∃ t, mg "LEAST_WAYS" = some (.int 2 t)
  mostw : ∃ t, mg "MOST_WAYS" = some (.int 6 t)
end RS
set_option Elab.async false
set_option maxRecDepth 100000
set_option maxHeartbeats 4000000
namespace RS
open PySem PySem.Spec PyProof.Rows L2 GX

/-! ### the mathematics: what a number, a word, a value, a row is -/
def isNum (d : PyData) : Bool := isI "int" d && !isI "bool" d

section
variable {P : Program} {w : World} {K : PySem.W.Frag} {mg : Str → Option Value} {base : Heap}
theorem scIsNumber : FnScope ["value"] ["value"] (defScope sIsNumber) := ⟨rfl, rfl, rfl, by decide +kernel, rfl, by decide +kernel, by decide +kernel⟩
def spNum (K : PySem.W.Frag) : Sp := fun vs H Q _ => ∃ (v : V) (d : PyData), vs = [v] ∧ Dp K H v d ∧ Q (.bl (isNum d)) H
theorem is_number_ok {c : Addr} (D : DefAt K mg "is_number" sIsNumber c) (T : Txt K mg) : Cal P w K mg base CX0 1 "is_number" ["value"] (spNum K) := by
  have sc := scIsNumber
  refine def_ok0 D sc (fun vs H Q E h => ?_) (fun _ _ _ _ _ _ us hl => match us, hl with | [_], _ => rfl) (fun f A outer s H vs Q E hr h => ?_)
  · obtain ⟨v, d, rfl, _⟩ := h
    rfl
  · obtain ⟨v, d, rfl, hd, k⟩ := h
    refine ⟨_, (pss_one (ps_ret (pe_and (pe_callB call_isiD (by rfl) T.isinstance (by decide +kernel) (pa_cons (pv 0) (pa_cons (pe_bltn (v := V.ty "int") (u := Value.type "int") (by rfl) T.int_ (by decide +kernel) rfl) pa_nil))) (pe_one (pe_not (pe_callB call_isiD (by rfl) T.isinstance (by decide +kernel) (pa_cons (pv 0) (pa_cons (pe_bltn (v := V.ty "bool") (u := Value.type "bool") (by rfl) T.bool_ (by decide +kernel) rfl) pa_nil)))))))), ?_⟩
    refine ⟨_, rfl, _, _, _, rfl, by simp, hd, _, rfl, ?_⟩
    refine ite2 (fun h1 => ?_) (fun h1 => ?_)
    · refine ⟨_, rfl, _, _, _, rfl, by simp, hd, _, rfl, ?_⟩
      have e : isNum d = !isI "bool" d := by unfold isNum; rw [h1, Bool.true_and]
      rw [← e]
      exact k
    · have e : isNum d = false := by unfold isNum; rw [bf h1, Bool.false_and]
      rw [← e]
      exact k

end
end RS
set_option Elab.async false
set_option maxRecDepth 100000
set_option maxHeartbeats 4000000
namespace RS
open PySem PySem.Spec PyProof.Rows L2 GX

/-- many new objects are laid and tracked at once -/
theorem laid_many {X : Cx} {pins : List (Addr × Obj)} {σ : L2.St} {H H2 : Hp} {s : Shared} {g : Heap} {tk : Nat} (I : Inv X pins σ H s) (kp : ∀ b u, s.heap.get? b = some u → g.get? b = some u)
    (old : ∀ b, b < s.heap.objs.size → H2 b = H b) (new : ∀ b o, s.heap.objs.size ≤ b → H2 b = some o → ObjOk X.prog X.w H2 g b o) : Inv X pins σ H2 { s with heap := g, toks := tk } := by
  have up : ∀ b o, H b = some o → H2 b = some o := fun b o e => by rw [old b (I.hok.lt e)]; exact e
  refine I.un (t' := tk) ⟨fun b o e _ _ _ => kp b o e, fun b o e _ _ _ => ⟨o.slots, kp b o e⟩, fun b o e n _ => by rw [old b (Heap.lt_size e)]; exact n, fun b o e _ => ⟨o, kp b o e⟩,
    fun b xs e => up b _ e, fun b o u e => up b _ e, fun b ps e => ⟨#[], by rw [up b _ e, Array.append_empty]⟩⟩ (fun b o e => ?_)
  by_cases hb : b < s.heap.objs.size
  · rw [old b hb] at e
    exact (I.hok b o e).stay (fun c u _ q => kp c u q) (fun c q => up c _ q) (fun c xs q => up c _ q)
  · exact new b o (Nat.le_of_not_lt hb) e

theorem enum_no_len : typeLookup (.type "enumerate") "__len__" = pure none := by rw [typeLookup_type, builtinLookup_eq_fast]; kernel_rfl
theorem enum_no_hint : typeLookup (.type "enumerate") "__length_hint__" = pure none := by rw [typeLookup_type, builtinLookup_eq_fast]; kernel_rfl

/-- the enumeration e over the iterator it of the list l stands ahead of item i -/
def EnumAt (h : Heap) (e it l : Addr) (i : Nat) : Prop :=
  h.IsListIter it l i ∧ ((i = 0 ∧ IsEnum h e it 0 .none) ∨ ∃ (T : Addr) (f : Bool) (x : Value) (o : Obj), IsEnumHeld h e it (i : Int) x T f ∧ h.get? T = some o ∧ T ≠ e ∧ T ≠ it)
/-- the pairs that have been put into acc -/
def Pairs (h : Heap) (lo : Nat) (items : Array Value) (acc : Array Value) : Prop :=
  ∀ j v, acc[j]? = some v → ∃ (T : Addr) (tk : Nat) (x : Value), v = .ref T ∧ lo ≤ T ∧ items[j]? = some x ∧ h.get? T = some { cls := .type "tuple", data := .seq #[.int (j : Nat) tk, x] }
section
variable {prog : Program} {w : World} {A : Around} {s0 : Shared} {S e it l : Addr} {items : Array Value}
theorem enum_next {E : Value → Shared → Prop} {s : Shared} {i : Nat} {x : Value} {Q : Option Value → Shared → Prop} (hs : EnumAt s.heap e it l i) (hl : s.heap.IsList l items) (hx : items[i]? = some x) (hne : e ≠ it)
    (he : e < s.heap.objs.size) (hi : it < s.heap.objs.size)
    (hQ : ∀ g, EnumAt g e it l (i + 1) → g.get? s.heap.objs.size = some { cls := .type "tuple", data := .seq #[.int (i : Nat) s.toks, x] } → (∀ b o, b ≠ e → b ≠ it → s.heap.get? b = some o → g.get? b = some o) →
      Q (some (.ref s.heap.objs.size)) { s with heap := g, toks := s.toks + 1 }) : wpAny (model prog w) A (pyNext (.ref e)) Q E s := by
  obtain ⟨hit, ⟨rfl, h0⟩ | ⟨T, f, y, o, h1, hT, hTe, hTi⟩⟩ := hs
  · refine wpAny_pyNext_enum_item (i := 0) h0 hit hl hx hne fun g a b c _ d => hQ g ⟨b, .inr ⟨_, _, _, _, a, c, Nat.ne_of_gt he, Nat.ne_of_gt hi⟩⟩ c d
  · exact wpAny_pyNext_enum_item_held h1 hT hTe hTi hit hl hx hne fun g a b c _ d => hQ g ⟨b, .inr ⟨T, true, y, o, a, d T o hTe hTi hT, hTe, hTi⟩⟩ c d
theorem enum_stop {E : Value → Shared → Prop} {s : Shared} {i : Nat} {Q : Option Value → Shared → Prop} (hh : A.handled = none) (hs : EnumAt s.heap e it l i) (hl : s.heap.IsList l items) (hx : items[i]? = none)
    (hQ : ∀ g, Heap.ExtBut it s.heap g → Q none { s with heap := g }) : wpAny (model prog w) A (pyNext (.ref e)) Q E s := by
  obtain ⟨hit, ⟨rfl, h0⟩ | ⟨T, f, y, o, h1, hT, hTe, hTi⟩⟩ := hs
  · exact wpAny_pyNext_enum_end hh h0 hit hl hx hQ
  · exact wpAny_pyNext_enum_end_held hh h1 hit hl hx hQ

theorem enum_loop {R : Result → Shared → Prop} {res : Value} (hh : A.handled = none) (hne : e ≠ it) (hSe : S ≠ e) (hSi : S ≠ it) (hSl : S ≠ l) (hle : l ≠ e) (hli : l ≠ it) (lo : Nat) (hz : items.size ≤ sizeLine)
    (hend : ∀ g tk acc c, g.get? S = some (lstObj acc c) → acc.size = items.size → Pairs g lo items acc → (∀ b o, b ≠ e → b ≠ it → b ≠ S → s0.heap.get? b = some o → g.get? b = some o) → R (.ok (.ret res)) { s0 with heap := g, toks := tk }) :
    ∀ (k i : Nat) (g : Heap) (tk : Nat) (acc : Array Value) (c : Nat), items.size - i = k → i ≤ items.size → acc.size = i → g.get? S = some (lstObj acc c) → EnumAt g e it l i → g.IsList l items → lo ≤ g.objs.size → e < lo → it < lo → S < lo →
      Pairs g lo items acc → (∀ b o, b ≠ e → b ≠ it → b ≠ S → s0.heap.get? b = some o → g.get? b = some o) →
      codeAny (model prog w) A (.builtin "list.extend.loop" ⟨[.ref S, .ref e, res], []⟩) R { s0 with heap := g, toks := tk } := by
  intro k
  induction k with
  | zero =>
    intro i g tk acc c hk hi ha hS he hl hlo helo hilo hSlo hp hkp
    have hin : i = items.size := by omega
    refine codeAny_builtin F.entry_extend_loop ?_
    rw [Around.under_plainId F.plain_extend_loop _]
    show wpAny _ A.in1 (pyNext (.ref e) >>= _) _ _ _
    refine wpAny_bind (enum_stop (s := { s0 with heap := g, toks := tk }) hh he hl (by rw [hin]; simp) fun g2 ext => ?_)
    refine wpAny_pure (hend g2 tk acc c (ext S _ hSi hS) (by omega) (fun j v hv => ?_) (fun b o h1 h2 h3 q => ext b o h2 (hkp b o h1 h2 h3 q)))
    obtain ⟨T, tk', x, e1, e2, e3, e4⟩ := hp j v hv
    exact ⟨T, tk', x, e1, e2, e3, ext T _ (Nat.ne_of_gt (Nat.lt_of_lt_of_le hilo e2)) e4⟩
  | succ k ih =>
    intro i g tk acc c hk hi ha hS he hl hlo helo hilo hSlo hp hkp
    have hlt : i < items.size := by omega
    refine codeAny_builtin F.entry_extend_loop ?_
    rw [Around.under_plainId F.plain_extend_loop _]
    show wpAny _ A.in1 (pyNext (.ref e) >>= _) _ _ _
    refine wpAny_bind (enum_next (s := { s0 with heap := g, toks := tk }) he hl (Array.getElem?_eq_getElem hlt) hne (Nat.lt_of_lt_of_le helo hlo) (Nat.lt_of_lt_of_le hilo hlo) fun g2 he2 hT2 hk2 => ?_)
    have hS2 : g2.get? S = some (lstObj acc c) := hk2 S _ hSe hSi hS
    have gT : g.objs.size ≠ S := fun z => Nat.lt_irrefl _ (Nat.lt_of_lt_of_le (by rw [z]; exact hSlo) hlo)
    have gTe : g.objs.size ≠ e := fun z => Nat.lt_irrefl _ (Nat.lt_of_lt_of_le (by rw [z]; exact helo) hlo)
    have gTi : g.objs.size ≠ it := fun z => Nat.lt_irrefl _ (Nat.lt_of_lt_of_le (by rw [z]; exact hilo) hlo)
    show wpAny _ A.in1 (updateSeq S (·.push (.ref g.objs.size)) >>= _) _ _ _
    apply wpAny_bind
    refine wpAny_updateSeq hS2 rfl (wpAny_pure ⟨plainId_quiet F.plain_extend_loop _, ?_⟩) (by omega) (by show (acc.push _).size ≤ sizeLine + 1; rw [Array.size_push]; omega)
    have up : ∀ b o, b ≠ S → g2.get? b = some o → (g2.update S (Obj.mapSeq (·.push (.ref g.objs.size)))).get? b = some o := fun b o hb q => (Heap.get?_update_other _ _ (Ne.symm hb)).trans q
    have lt2 : g.objs.size < g2.objs.size := Heap.lt_size hT2
    refine ih (i + 1) _ _ (acc.push (.ref g.objs.size)) _ (by omega) hlt (by rw [Array.size_push]; omega) (Heap.get?_update_self _ hS2 rfl) ?_ ?_ ?_ helo hilo hSlo (fun j v hv => ?_) (fun b o h1 h2 h3 q => up b o h3 (hk2 b o h1 h2 (hkp b o h1 h2 h3 q)))
    · obtain ⟨⟨oi, hoi, r⟩, hd⟩ := he2
      refine ⟨⟨oi, up it oi (Ne.symm hSi) hoi, r⟩, ?_⟩
      rcases hd with ⟨z, q⟩ | ⟨T, f, x, o, q1, q2, q3, q4⟩
      · exact .inl ⟨z, up e _ (Ne.symm hSe) q⟩
      · by_cases hTS : T = S
        · subst hTS
          exact .inr ⟨T, f, x, _, up e _ (Ne.symm hSe) q1, Heap.get?_update_self _ hS2 rfl, q3, q4⟩
        · exact .inr ⟨T, f, x, o, up e _ (Ne.symm hSe) q1, up T o hTS q2, q3, q4⟩
    · obtain ⟨ol, hol, r⟩ := hl
      exact ⟨ol, up l ol (Ne.symm hSl) (hk2 l ol hle hli hol), r⟩
    · rw [Heap.size_update]
      exact Nat.le_trans hlo (Nat.le_of_lt lt2)
    · rw [Array.getElem?_push] at hv
      split at hv
      · rename_i hj
        cases hv
        have ej : j = i := by omega
        subst ej
        exact ⟨g.objs.size, tk, items[j], rfl, hlo, Array.getElem?_eq_getElem hlt, up _ _ gT hT2⟩
      · obtain ⟨T, tk', x, e1, e2, e3, e4⟩ := hp j v hv
        have nTS : T ≠ S := Nat.ne_of_gt (Nat.lt_of_lt_of_le hSlo e2)
        exact ⟨T, tk', x, e1, e2, e3, up T _ nTS (hk2 T _ (Nat.ne_of_gt (Nat.lt_of_lt_of_le helo e2)) (Nat.ne_of_gt (Nat.lt_of_lt_of_le hilo e2)) e4)⟩
end
end RS
set_option Elab.async false
set_option maxRecDepth 100000
set_option maxHeartbeats 4000000
namespace RS
open PySem PySem.Spec PyProof.Rows L2 GX

/-- list(e), e an enumeration of the list l that has just been made -/
theorem list_of_enum {P : Program} {w : World} {A : Around} {E : Value → Shared → Prop} {s : Shared} {e it l : Addr} {items : Array Value} {Q : Value → Shared → Prop} (hh : A.handled = none) (he : IsEnum s.heap e it 0 .none) (hit : s.heap.IsListIter it l 0) (hl : s.heap.IsList l items)
    (hne : e ≠ it) (hle : l ≠ e) (hli : l ≠ it) (hz : items.size ≤ sizeLine)
    (hQ : ∀ g tk acc c, g.get? s.heap.objs.size = some (lstObj acc c) → acc.size = items.size → Pairs g (s.heap.objs.size + 1) items acc → (∀ b o, b ≠ e → b ≠ it → s.heap.get? b = some o → g.get? b = some o) → Q (.ref s.heap.objs.size) { s with heap := g, toks := tk }) :
    wpAny (model P w) A (call (.type "list") [.ref e]) Q E s := by
  have lte : e < s.heap.objs.size := Heap.lt_size he
  have lti : it < s.heap.objs.size := by obtain ⟨o, ho, _⟩ := hit; exact Heap.lt_size ho
  have ltl : l < s.heap.objs.size := by obtain ⟨o, ho, _⟩ := hl; exact Heap.lt_size ho
  have hSe : s.heap.objs.size ≠ e := Nat.ne_of_gt lte
  have tyE : ∀ {g : Heap}, (∀ b o, s.heap.get? b = some o → g.get? b = some o) → ({ s with heap := g } : Shared).TypeIs (.ref e) "enumerate" := fun {g} q => ⟨_, q _ _ he, rfl⟩
  refine callType_codes (Q₁ := fun obj s₁ => obj = .ref s.heap.objs.size ∧ s₁ = { s with heap := s.heap.push { cls := .type "list", data := .seq #[] } }) PySem.F.called_list (PySem.F.typeCall_list_1 _) PySem.F.entry_list_init
    (code_list_new _ ⟨rfl, rfl⟩) fun obj s₁ h₁ => ?_
  obtain ⟨rfl, rfl⟩ := h₁
  have hS : (s.heap.push { cls := .type "list", data := .seq #[] }).get? s.heap.objs.size = some { cls := .type "list", data := .seq #[] } := Heap.get?_push_size _ rfl
  refine ⟨⟨_, hS, rfl⟩, PySem.F.args_list_init_2 _ _, ?_⟩
  show wpAny _ A.in1.in1 (do
    let old ← Builtin.List.listItems (.ref s.heap.objs.size)
    Builtin.List.listUpdate (.ref s.heap.objs.size) (fun _ => #[])
    letGo old.toList.reverse
    Builtin.List.listExtendWith (.ref s.heap.objs.size) (.ref e) .none) _ _ _
  apply wpAny_bind
  unfold Builtin.List.listItems
  refine wpAny_bind (wpAny_seqItems hS rfl (wpAny_pure ?_))
  show wpAny _ A.in1.in1 (updateSeq s.heap.objs.size (fun _ => #[]) >>= fun _ => letGo (#[] : Array Value).toList.reverse >>= fun _ =>
    Builtin.List.listExtendWith (.ref s.heap.objs.size) (.ref e) .none) _ _ _
  refine wpAny_bind (wpAny_updateSeq hS rfl ?_)
  have hS2 := Heap.get?_update_self (Obj.mapSeq (fun _ => (#[] : Array Value))) hS rfl
  apply wpAny_bind
  apply wpAny_letGo
  unfold Builtin.List.listExtendWith
  have up : ∀ (h : Heap) (f : Obj → Obj), (∀ b o, s.heap.get? b = some o → h.get? b = some o) → ∀ b o, s.heap.get? b = some o → (h.update s.heap.objs.size f).get? b = some o := fun h f q b o y =>
    (Heap.get?_update_other _ _ (Ne.symm (Nat.ne_of_lt (Heap.lt_size y)))).trans (q b o y)
  have k1 : ∀ b o, s.heap.get? b = some o → (s.heap.push { cls := .type "list", data := .seq #[] }).get? b = some o := fun b o y => Heap.get?_push_of_some _ y
  have k2 := up _ (Obj.mapSeq (fun _ => (#[] : Array Value))) k1
  apply wpAny_bind
  refine wpAny_typeOf (tyE k2) ?_
  have h1 : Builtin.List.listSameRef (.ref s.heap.objs.size) (.ref e) = false := by simp [Builtin.List.listSameRef, hSe]
  have h2 : (Value.type "enumerate" == Value.type "list") = false := by decide
  have h3 : (Value.type "enumerate" == Value.type "tuple") = false := by decide
  simp only [h1, h2, h3, Bool.or_false, Bool.false_eq_true, if_false]
  apply wpAny_bind
  refine wpAny_pyIter_enum (s := { s with heap := _ }) (k2 _ _ he) ?_
  apply wpAny_bind
  apply wpAny_holding
  unfold Builtin.List.listLengthHint
  apply wpAny_bind
  refine wpAny_specialOf (tyE k2) enum_no_len ?_
  show wpAny _ A.in1.in1 (specialOf (Value.ref e) (Str.ofString "__length_hint__") >>= _) _ _ _
  apply wpAny_bind
  refine wpAny_specialOf (tyE k2) enum_no_hint ?_
  apply wpAny_pure
  show wpAny _ A.in1.in1 (rule "list.extend.makes-room" >>= fun _ => Builtin.List.listTouch (.ref s.heap.objs.size) >>= fun _ =>
    again (.builtin "list.extend.loop" ⟨[.ref s.heap.objs.size, .ref e, .none], []⟩)) _ _ _
  apply wpAny_bind
  apply wpAny_rule
  apply wpAny_bind
  show wpAny _ A.in1.in1 (updateSeq s.heap.objs.size (·.push .none) >>= fun _ => updateSeq s.heap.objs.size (·.pop)) _ _ _
  refine wpAny_bind (wpAny_updateSeq hS2 rfl ?_)
  have hS3 := Heap.get?_update_self (Obj.mapSeq (·.push Value.none)) hS2 rfl
  refine wpAny_updateSeq (hz := by seq_fits) hS3 rfl ?_
  have hS4 := Heap.get?_update_self (Obj.mapSeq (·.pop)) hS3 rfl
  have k4 := up _ (Obj.mapSeq (·.pop)) (up _ (Obj.mapSeq (·.push Value.none)) k2)
  refine wpAny_pure ⟨plainId_quiet PySem.F.plain_extend_loop _, ?_⟩
  refine enum_loop (s0 := s) (A := A.in1) (S := s.heap.objs.size) hh hne hSe (Nat.ne_of_gt lti) (Nat.ne_of_gt ltl) hle hli (s.heap.objs.size + 1) hz
    (fun g tk acc c q1 q2 q3 q4 => ⟨rfl, hQ g tk acc c q1 q2 q3 fun b o n1 n2 y => q4 b o n1 n2 (Nat.ne_of_lt (Heap.lt_size y)) y⟩) items.size 0 _ s.toks #[] _ (Nat.sub_zero _) (Nat.zero_le _) rfl hS4 ⟨?_, .inl ⟨rfl, k4 _ _ he⟩⟩ ?_ ?_
    (Nat.lt_succ_of_lt lte) (Nat.lt_succ_of_lt lti) (Nat.lt_succ_self _) (fun j v hv => by simp at hv) (fun b o _ _ _ y => k4 b o y)
  · obtain ⟨o, ho, r⟩ := hit
    exact ⟨o, k4 _ _ ho, r⟩
  · obtain ⟨o, ho, r⟩ := hl
    exact ⟨o, k4 _ _ ho, r⟩
  · exact Heap.lt_size hS4

/-- list(enumerate(e)) -/
def tLE (K : PySem.W.Frag) (te : TE) : TE := fun σ H Q => te σ H fun v H1 => ∃ a xs, v = .ref a ∧ SqL K H1 a xs ∧
  ∀ (H2 : Hp) (p : Addr) (ts : List Addr), Same H1 H2 → H1 p = none → H2 p = some (.lst (ts.map V.ref)) → ts.length = xs.length →
    (∀ (i : Nat) (x : V), xs[i]? = some x → ∃ T, ts[i]? = some T ∧ H1 T = none ∧ H2 T = some (.tup [.int i, x])) → Q (.ref p) H2
section
variable {X : Cx} {e : Expr} {te : TE} {p1 p2 q1 q2 : Pos}
theorem pe_le (hc : X.calm = true) (hg : Gl X "list") (hm : X.mg "list" = none) (hg2 : Gl X "enumerate") (hm2 : X.mg "enumerate" = none) (he : PE X e te)
    (hs : starEach [e] X.env = [(false, eval e X.env)] := by rfl)
    (hs2 : starEach [.Call (.Name "enumerate" q1) [e] [] q2] X.env = [(false, eval (.Call (.Name "enumerate" q1) [e] [] q2) X.env)] := by rfl) :
    PE X (.Call (.Name "list" p1) [.Call (.Name "enumerate" q1) [e] [] q2] [] p2) (tLE X.K te) := by
  refine ⟨fun pins s σ H Q I h => ?_⟩
  refine wpAny_Call_Name_kw (ld_blt I hg hm (show bootBuiltins "list" = some (.type "list") by decide +kernel) ?_)
  refine PyProof.Rows.callWith_type1 ?_ hs2 rfl
  rw [hs2]
  show wpAny _ _ (spliced [(false, eval (.Call (.Name "enumerate" q1) [e] [] q2) X.env)]) _ _ s
  refine Calls.spliced_cons ?_
  refine wpAny_Call_Name_kw (ld_blt I hg2 hm2 (show bootBuiltins "enumerate" = some (.type "enumerate") by decide +kernel) ?_)
  refine PyProof.Rows.callWith_type1 ?_ hs rfl
  rw [hs]
  show wpAny _ _ (spliced [(false, eval e X.env)]) _ _ s
  refine Calls.spliced_cons (thn (he.run pins s σ H _ I h) fun u s1 ⟨v, H1, I1, r1, a, xs, ev, hq, q⟩ => ?_)
  subst ev
  cases r1
  obtain ⟨its, rv, pl, hz⟩ := I1.list hq
  have lits : its.toArray.size = xs.length := by rw [List.size_toArray]; exact rv.length.symm
  have lta : a < s1.heap.objs.size := by obtain ⟨o, ho, _⟩ := pl.isList; exact Heap.lt_size ho
  refine Calls.spliced_nil ?_
  refine call_enumerate_list pl.isList fun g hen hit hsz hk => ?_
  refine Calls.spliced_nil ?_
  have I2 : Inv X pins σ H1 { s1 with heap := g } := I1.kept (t' := s1.toks) hk
  have hl2 : g.IsList a its.toArray := by
    obtain ⟨o, ho, r⟩ := pl.isList
    exact ⟨o, hk _ _ ho, r⟩
  refine list_of_enum (s := { s1 with heap := g }) (I1.ok.hd hc) hen hit hl2 (Nat.succ_ne_self _) (Nat.ne_of_lt (Nat.lt_succ_of_lt lta)) (Nat.ne_of_lt lta) (by rw [lits]; exact hz) fun g2 tk acc c hS ha hp hk2 => ?_
  -- what is new
  have szg : g.objs.size = s1.heap.objs.size + 2 := hsz
  have kall : ∀ b o, s1.heap.get? b = some o → g2.get? b = some o := fun b o y => by
    have lt := Heap.lt_size y
    exact hk2 b o (Nat.ne_of_lt (Nat.lt_succ_of_lt lt)) (Nat.ne_of_lt lt) (hk b o y)
  have sym : ∀ (i : Nat) (x : V), xs[i]? = some x → ∃ (T : Addr) (tk' : Nat) (u : Value), acc[i]? = some (.ref T) ∧ g.objs.size + 1 ≤ T ∧ RelV x u ∧ g2.get? T = some { cls := .type "tuple", data := .seq #[.int (i : Nat) tk', u] } := fun i x hx => by
    have hi : i < acc.size := by
      rw [ha, lits]
      exact (List.getElem?_eq_some_iff.mp hx).1
    obtain ⟨T, tk', u, e1, e2, e3, e4⟩ := hp i _ (Array.getElem?_eq_getElem hi)
    obtain ⟨u', hu', ru⟩ := rv.get hx
    have e3' : its[i]? = some u := by simpa using e3
    rw [hu'] at e3'
    cases e3'
    exact ⟨T, tk', u, by rw [Array.getElem?_eq_getElem hi, e1], e2, ru, e4⟩
  let adr : Value → Addr := fun v => match v with | .ref b => b | _ => 0
  have hts : ∀ v ∈ acc.toList, v = .ref (adr v) := fun v hv => by
    obtain ⟨j, hj⟩ := List.getElem?_of_mem hv
    obtain ⟨T, _, _, e1, _⟩ := hp j v (by simpa using hj)
    rw [e1]
  have tlen : (acc.toList.map adr).length = xs.length := by rw [List.length_map, Array.length_toList, ha, lits]
  have tget : ∀ (i : Nat) (x : V), xs[i]? = some x → ∃ (T : Addr) (tk' : Nat) (u : Value), (acc.toList.map adr)[i]? = some T ∧ g.objs.size + 1 ≤ T ∧ RelV x u ∧ g2.get? T = some { cls := .type "tuple", data := .seq #[.int (i : Nat) tk', u] } := fun i x hx => by
    obtain ⟨T, tk', u, e1, e2, e3, e4⟩ := sym i x hx
    refine ⟨T, tk', u, ?_, e2, e3, e4⟩
    rw [List.getElem?_map, Array.getElem?_toList, e1]
    rfl
  -- the new abstract heap
  let mk : Addr → Option HO := fun b => if b = g.objs.size then some (.lst ((acc.toList.map adr).map V.ref)) else
    match (List.range xs.length).find? (fun i => (acc.toList.map adr)[i]? == some b) with
    | some i => (xs[i]?).map fun x => .tup [.int (i : Nat), x]
    | none => none
  let H2 : Hp := fun b => if b < g.objs.size then H1 b else mk b
  have at_T : ∀ (i : Nat) (x : V) (T : Addr), xs[i]? = some x → (acc.toList.map adr)[i]? = some T → H2 T = some (.tup [.int (i : Nat), x]) := fun i x T hx hT => by
    obtain ⟨T', tk', u, f1, f2, _, f4⟩ := tget i x hx
    rw [hT] at f1
    cases f1
    show (if T < g.objs.size then H1 T else if T = g.objs.size then _ else _) = _
    rw [if_neg (Nat.not_lt.mpr (Nat.le_of_succ_le f2)), if_neg (Nat.ne_of_gt f2)]
    cases hf : (List.range xs.length).find? (fun i => (acc.toList.map adr)[i]? == some T) with
    | none =>
      have z := List.find?_eq_none.mp hf i (List.mem_range.mpr (List.getElem?_eq_some_iff.mp hx).1)
      rw [hT] at z
      simp at z
    | some j =>
      have hj := List.find?_some hf
      have hj2 := List.mem_range.mp (List.mem_of_find?_eq_some hf)
      have hj3 : (acc.toList.map adr)[j]? = some T := by simpa using hj
      obtain ⟨T2, tk2, u2, g1, _, g3, g4⟩ := tget j xs[j] (List.getElem?_eq_getElem hj2)
      rw [hj3] at g1
      cases g1
      rw [f4] at g4
      have e0 : (#[Value.int (i : Nat) tk', u] : Array Value) = #[.int (j : Nat) tk2, u2] := by
        injection (Option.some.inj g4) with _ _ d
        injection d
      have e5 : i = j := by
        have z := congrArg (fun a : Array Value => a[0]?) e0
        simp at z
        omega
      subst e5
      show Option.map (fun x => HO.tup [V.int (i : Nat), x]) xs[i]? = _
      rw [hx]
      rfl
  have I3 : Inv X pins σ H2 { s1 with heap := g2, toks := tk } := by
    have I3 := laid_many (H2 := H2) (g := g2) (tk := tk) I1 kall (fun b hb => if_pos (show b < g.objs.size by omega)) (fun b o hb e => ?_)
    · exact I3
    · by_cases h1 : b < g.objs.size
      · have e' : H1 b = some o := (if_pos h1).symm.trans e
        rw [I1.hok.fresh hb] at e'
        cases e'
      · have e' : mk b = some o := (if_neg h1).symm.trans e
        by_cases h2 : b = g.objs.size
        · have e2 : some (HO.lst ((acc.toList.map adr).map V.ref)) = some o := (if_pos h2).symm.trans e'
          cases e2
          subst h2
          refine ⟨by rw [List.length_map, tlen]; exact hz, acc.toList, c, ?_, by rw [Array.toArray_toList]; exact hS⟩
          have vals : ∀ l : List Value, (∀ v ∈ l, v = .ref (adr v)) → Vals ((l.map adr).map V.ref) l := fun l => by
            induction l with
            | nil => intro _; exact .nil
            | cons v r ih => intro hv; exact .cons (hv v List.mem_cons_self) (ih fun u hu => hv u (List.mem_cons_of_mem _ hu))
          exact vals _ hts
        · have e2 : (match (List.range xs.length).find? (fun i => (acc.toList.map adr)[i]? == some b) with
              | some i => (xs[i]?).map fun x => HO.tup [.int (i : Nat), x]
              | none => none) = some o := (if_neg h2).symm.trans e'
          cases hf : (List.range xs.length).find? (fun i => (acc.toList.map adr)[i]? == some b) with
          | none =>
            rw [hf] at e2
            cases e2
          | some j =>
            rw [hf] at e2
            have hj := List.find?_some hf
            have hj2 := List.mem_range.mp (List.mem_of_find?_eq_some hf)
            have hj3 : (acc.toList.map adr)[j]? = some b := by simpa using hj
            have e3 : some (HO.tup [.int (j : Nat), xs[j]]) = some o := by
              rw [← e2]
              show _ = Option.map (fun x => HO.tup [V.int (j : Nat), x]) xs[j]?
              rw [List.getElem?_eq_getElem hj2]
              rfl
            cases e3
            obtain ⟨T2, tk2, u2, g1, _, g3, g4⟩ := tget j xs[j] (List.getElem?_eq_getElem hj2)
            rw [hj3] at g1
            cases g1
            exact ⟨by show 2 ≤ sizeLine; decide, [.int (j : Nat) tk2, u2], .cons ⟨_, rfl⟩ (.cons g3 .nil), ⟨_, g4, rfl, _, rfl⟩⟩
  have same : Same H1 H2 := fun b o y => by
    show (if b < g.objs.size then H1 b else mk b) = some o
    rw [if_pos (show b < g.objs.size from Nat.lt_of_lt_of_le (I1.hok.lt y) (by rw [szg]; exact Nat.le_add_right _ _))]
    exact y
  have Snone : H1 g.objs.size = none := I1.hok.fresh (by omega)
  refine ⟨.ref g.objs.size, H2, I3, rfl, q H2 g.objs.size (acc.toList.map adr) same Snone ?_ tlen fun i x hx => ?_⟩
  · show (if g.objs.size < g.objs.size then H1 _ else mk _) = _
    rw [if_neg (Nat.lt_irrefl _)]
    exact if_pos rfl
  · obtain ⟨T, tk', u, e1, e2, e3, e4⟩ := tget i x hx
    exact ⟨T, e1, I1.hok.fresh (by omega), at_T i x T hx e1⟩
end
end RS
set_option Elab.async false
set_option maxRecDepth 100000
set_option maxHeartbeats 4000000
namespace RS
open PySem PySem.Spec PyProof.Rows L2 GX
/-- a for of n turns by a word of its own: the next turn -/
def ForNx (n : Nat) (Pv : Nat → L2.St → Hp → Prop) (i : Nat) (σ : L2.St) (H : Hp) : Prop := Pv (i + 1) σ H
theorem for_by {J : It} {g : TG} {tb : TS} {D : Ends} {σ : L2.St} {H : Hp} (n : Nat) (Pv : Nat → L2.St → Hp → Prop) (h0 : Pv 0 σ H)
    (turn : ∀ i σ H, i < n → Pv i σ H → J.go i H ∧ ∀ x H', J.yld i H x H' → g x σ H' fun σ2 H2 => tb { D with nx := Pv (i + 1), ct := Pv (i + 1), bk := D.nx } σ2 H2)
    (stop : ∀ σ H, Pv n σ H → J.stop n H ∧ D.nx σ H) :
    ∃ W : Nat → Nat → L2.St → Hp → Prop, (∃ m, W 0 m σ H) ∧ ∀ i m σ H, W i m σ H →
      (J.stop i H ∧ D.nx σ H) ∨ (J.go i H ∧ ∃ N : L2.St → Hp → Prop, (∀ σ' H', N σ' H' → ∃ m', m' < m ∧ W (i + 1) m' σ' H') ∧ ∀ x H', J.yld i H x H' → g x σ H' fun σ2 H2 => tb { D with nx := N, ct := N, bk := D.nx } σ2 H2) := by
  refine ⟨fun i m σ H => m = n - i ∧ i ≤ n ∧ Pv i σ H, ⟨n, rfl, Nat.zero_le _, h0⟩, ?_⟩
  rintro i m σ H ⟨rfl, hi, p⟩
  by_cases hlt : i < n
  · obtain ⟨go, nx⟩ := turn i σ H hlt p
    exact .inr ⟨go, Pv (i + 1), fun σ' H' p' => ⟨n - (i + 1), by omega, rfl, hlt, p'⟩, nx⟩
  · have e : i = n := by omega
    subst e
    exact .inl (stop σ H p)
theorem lc_by {J : It} {g : TG} {tt : TT} {te : TE} {vs : List Nat} {σ : L2.St} {H1 : Hp} {D : Addr} {Qd : Hp → Prop} (n : Nat) (Pv : Nat → Hp → Prop) (h0 : Pv 0 (upd H1 D (.lst [])))
    (turn : ∀ i H, i < n → Pv i H → J.go i H ∧ ∀ x H', J.yld i H x H' → g x (wipe σ vs) H' fun σ2 H2 => wipe σ2 vs = wipe σ vs ∧ tt σ2 H2 fun b H3 =>
      if b = true then te σ2 H3 fun y H4 => ∃ acc, H4 D = some (.lst acc) ∧ acc.length < sizeLine ∧ Pv (i + 1) (upd H4 D (.lst (acc ++ [y]))) else Pv (i + 1) H3)
    (stop : ∀ H, Pv n H → J.stop n H ∧ Qd H) :
    ∃ W : Nat → Nat → Hp → Prop, (∃ m, W 0 m (upd H1 D (.lst []))) ∧ ∀ i m H, W i m H →
      (J.stop i H ∧ Qd H) ∨ (J.go i H ∧ ∃ Nx : Hp → Prop, (∀ H', Nx H' → ∃ m', m' < m ∧ W (i + 1) m' H') ∧ ∀ x H', J.yld i H x H' → g x (wipe σ vs) H' fun σ2 H2 => wipe σ2 vs = wipe σ vs ∧ tt σ2 H2 fun b H3 =>
        if b = true then te σ2 H3 fun y H4 => ∃ acc, H4 D = some (.lst acc) ∧ acc.length < sizeLine ∧ Nx (upd H4 D (.lst (acc ++ [y]))) else Nx H3) := by
  refine ⟨fun i m H => m = n - i ∧ i ≤ n ∧ Pv i H, ⟨n, rfl, Nat.zero_le _, h0⟩, ?_⟩
  rintro i m H ⟨rfl, hi, p⟩
  by_cases hlt : i < n
  · obtain ⟨go, nx⟩ := turn i H hlt p
    exact .inr ⟨go, Pv (i + 1), fun H' p' => ⟨n - (i + 1), by omega, rfl, hlt, p'⟩, nx⟩
  · have e : i = n := by omega
    subst e
    exact .inl (stop H p)

/-! ### numbered things -/
def enumP {α : Type} : Nat → List α → List (Nat × α)
  | _, [] => []
  | k, x :: xs => (k, x) :: enumP (k + 1) xs
theorem enumP_get {α : Type} : ∀ (l : List α) (k i : Nat), (enumP k l)[i]? = l[i]?.map fun x => (k + i, x)
  | [], k, i => by simp [enumP]
  | x :: xs, k, 0 => by simp [enumP]
  | x :: xs, k, i + 1 => by
    show (enumP (k + 1) xs)[i]? = _
    rw [enumP_get xs (k + 1) i]
    have e : k + 1 + i = k + (i + 1) := by omega
    rw [e]
    simp
theorem enumP_length {α : Type} : ∀ (l : List α) (k : Nat), (enumP k l).length = l.length
  | [], _ => rfl
  | _ :: xs, k => congrArg (· + 1) (enumP_length xs (k + 1))
/-- a (number, row) -/
def pairD (q : Nat × List PyData) : PyData := .tuple [.int q.1, .tuple q.2]
def pairsD (l : List (Nat × List PyData)) : PyData := .list (l.map pairD)

/-- data by places -/
theorem dpAll_by {K : PySem.W.Frag} {H : Hp} : ∀ {vs : List V} {ds : List PyData}, vs.length = ds.length → (∀ (i : Nat) (v : V) (d : PyData), vs[i]? = some v → ds[i]? = some d → Dp K H v d) → DpAll K H vs ds
  | [], [], _, _ => .nil
  | [], _ :: _, h, _ => by simp at h
  | _ :: _, [], h, _ => by simp at h
  | v :: vs, d :: ds, h, k => .cons (k 0 v d rfl rfl) (dpAll_by (by simpa using h) fun i v d e1 e2 => k (i + 1) v d (by simpa using e1) (by simpa using e2))
end RS
set_option Elab.async false
set_option maxRecDepth 100000
set_option maxHeartbeats 4000000
namespace RS
open PySem PySem.Spec PyProof.Rows L2 GX
/-! ### data without lists -/
mutual
def noL : PyData → Bool
  | .list _ => false
  | .dict _ => false
  | .tuple ds => noLs ds
  | _ => true
def noLs : List PyData → Bool
  | [] => true
  | d :: ds => noL d && noLs ds
end
theorem noLs_iff : ∀ {ds : List PyData}, noLs ds = true ↔ ∀ d ∈ ds, noL d = true
  | [] => by simp [noLs]
  | d :: ds => by
    unfold noLs
    rw [Bool.and_eq_true, noLs_iff]
    simp
theorem sqT_upd {K : PySem.W.Frag} {H : Hp} {a b : Addr} {xs u ys : List V} (hH : H a = some (.lst xs)) (h : SqT K H b ys) : SqT K (upd H a (.lst u)) b ys := by
  rcases h with (h | ⟨o, h⟩) | h
  · refine .inl (.inl ?_)
    rw [upd_ne (fun z => by rw [z, hH] at h; cases h)]
    exact h
  · refine .inl (.inr ⟨o, ?_⟩)
    rw [upd_ne (fun z => by rw [z, hH] at h; cases h)]
    exact h
  · exact .inr h
mutual
theorem dp_upd {K : PySem.W.Frag} {H : Hp} {a : Addr} {xs u : List V} (hH : H a = some (.lst xs)) : ∀ (d : PyData) {v : V}, noL d = true → Dp K H v d → Dp K (upd H a (.lst u)) v d
  | .none, _, _, .non => .non
  | .bool b, _, _, .bl _ => .bl b
  | .int i, _, _, .int _ => .int i
  | .str x, _, _, .str _ => .str x
  | .list ds, _, h, _ => by cases h
  | .tuple ds, _, h, .tup q hs => .tup (sqT_upd hH q) (dpAll_upd hH ds h hs)
  | .dict _, _, h, _ => by cases h
theorem dpAll_upd {K : PySem.W.Frag} {H : Hp} {a : Addr} {xs u : List V} (hH : H a = some (.lst xs)) : ∀ (ds : List PyData) {vs : List V}, noLs ds = true → DpAll K H vs ds → DpAll K (upd H a (.lst u)) vs ds
  | [], _, _, .nil => .nil
  | d :: ds, _, h, .cons q hs => by
    unfold noLs at h
    rw [Bool.and_eq_true] at h
    exact .cons (dp_upd hH d h.1 q) (dpAll_upd hH ds h.2 hs)
end
/-- a list is changed that is none of those ahead -/
theorem dp_upd' {K : PySem.W.Frag} {H H' : Hp} {a : Addr} {xs u : List V} (s : Same H H') (hn : H a = none) {d : PyData} {v : V} (q : Dp K H v d) : Dp K (upd H' a (.lst u)) v d :=
  dp_same (fun b o e => by rw [upd_ne (ne_of_none e hn)]; exact s b o e) d q

theorem depth0 : ∀ {ds : List PyData}, (∀ d ∈ ds, d.depth = 0) → PyData.depthAll ds = 0
  | [], _ => by simp [PyData.depthAll]
  | d :: ds, h => by
    simp only [PyData.depthAll]
    rw [h d List.mem_cons_self, depth0 fun e he => h e (List.mem_cons_of_mem _ he)]
    rfl
theorem upd_no {H : Hp} {a b : Addr} {o : HO} (e : upd H a o b = none) : H b = none := by
  by_cases z : b = a
  · rw [z, upd_same] at e
    cases e
  · rw [upd_ne z] at e
    exact e
theorem cond_by {tc : TT} {σ : L2.St} {H : Hp} {Q : Bool → Hp → Prop} (b : Bool) (N : Hp → Prop) (h1 : ∀ Q' : Bool → Hp → Prop, (∀ H2, N H2 → Q' b H2) → tc σ H Q') (h2 : ∀ H2, N H2 → Q b H2) : tc σ H Q := h1 Q h2
theorem iteT' {b : Bool} {A B : Prop} (e : b = true) (h : A) : if b = true then A else B := by
  rw [if_pos e]
  exact h
theorem iteF' {b : Bool} {A B : Prop} (e : b = false) (h : B) : if b = true then A else B := by
  rw [if_neg (by rw [e]; decide)]
  exact h
end RS
set_option Elab.async false
set_option maxRecDepth 100000
set_option maxHeartbeats 4000000
namespace RS
open PySem PySem.Spec PyProof.Rows L2 GX
/-! ### lengths and ways -/
def lensD (ls : List Nat) : PyData := .list (ls.map fun n => .int (n : Nat))
structure OkLens (ls : List Nat) : Prop where
  one : 1 ≤ ls.length
  most : ls.length ≤ 40
  each : ∀ n ∈ ls, 1 ≤ n ∧ n ≤ 1000000
section
variable {P : Program} {w : World} {K : PySem.W.Frag} {mg : Str → Option Value} {base : Heap}
theorem scCheckLengths : FnScope ["lengths", "length"] ["lengths"] (defScope s_check_lengths) := ⟨rfl, rfl, rfl, by decide +kernel, rfl, by decide +kernel, by decide +kernel⟩
def spCheckLengths (K : PySem.W.Frag) (p : Addr) : Sp := fun vs H Q _ => ∃ (vl : V) (ls : List Nat), vs = [vl] ∧ Dp K H vl (lensD ls) ∧ OkLens ls ∧ Tab H p ∧ ∀ H', Same H H' → Q .non H'
theorem check_lengths_ok {c p : Addr} (D : DefAt K mg "check_lengths" s_check_lengths c) (T : Txt K mg) (TB : GxR.TabB base mg c p) (cN : Cal P w K mg base CX0 1 "is_number" ["value"] (spNum K)) : Cal P w K mg base CX0 3 "check_lengths" ["lengths"] (spCheckLengths K p) := by
  have sc := scCheckLengths
  obtain ⟨tA, hA⟩ := T.lengths
  obtain ⟨tB, hB⟩ := T.length
  refine def_ok0 D sc (fun vs H Q E h => ?_) (fun _ _ _ _ _ _ us hl => match us, hl with | [_], _ => rfl) (fun f A outer s H vs Q E hr h => ?_)
  · obtain ⟨vl, ls, rfl, _⟩ := h
    rfl
  · obtain ⟨vl, ls, rfl, hl, ok, ht, k⟩ := h
    refine ⟨_, (pss_cons (ps_if ((pw_or (pt_not (pt_val (pe_callB call_isiD (by rfl) T.isinstance (by decide +kernel) (pa_cons (pv 0) (pa_cons (pe_bltn (v := V.ty "list") (u := Value.type "list") (by rfl) T.list_ (by decide +kernel) rfl) pa_nil))))) (pw_or1 (pt_not (pt_chain op_le op_le pe_int (pe_callB call_lenD (by rfl) T.len PySem.boot_len (pa_cons (pv 0) pa_nil)) (pe_glob (v := V.int 40) (by rfl) hA ⟨_, rfl⟩))))).pt) pss_never pss_nil) (pss_one (ps_if (pt_not (pt_val (pe_all (own := [("length", 1)])  hr rfl T.all TB rfl rfl sc.nd (blkOk_by (N := ["lengths", "length"]) (sc := defScope s_check_lengths) (own := [("length", 1)]) (by decide +kernel)) (by decide +kernel) rfl rfl (pi_list (pv 0)) (fun _ _ _ _ _ _ _ => (pg_name (i := 1) sc.nd rfl (Or.inl rfl))) (fun _ _ _ _ _ _ _ hr => pe_and (pe_c cN hr (by decide) (by rfl) pass0 (pa_cons (pv 1) pa_nil)) (pe_one (pe_chain op_le op_le pe_int (pv 1) (pe_glob (v := V.int 1000000) (by rfl) hB ⟨_, rfl⟩))))))) pss_never pss_nil))), ?_⟩
    refine ⟨_, rfl, _, _, _, rfl, by simp, hl, _, rfl, ?_⟩
    refine iteF ⟨_, rfl, _, _, (ls.map fun n => PyData.int (n : Nat)).length, rfl, hl, rfl, _, _, rfl, rfl, _, rfl, ?_⟩
    rw [List.length_map]
    have o1 := ok.one
    have o2 := ok.most
    have e1 : decide ((1 : Int) ≤ (ls.length : Nat)) = true := decide_eq_true (by omega)
    have e2 : decide (((ls.length : Nat) : Int) ≤ 40) = true := decide_eq_true (by omega)
    rw [e1]
    refine iteT ⟨_, _, rfl, rfl, _, rfl, ?_⟩
    rw [e2]
    refine iteF ?_
    cases hl with
    | @lst a xs _ hS hI =>
      refine ⟨_, rfl, a, rfl, ⟨xs, hS⟩, ht, ?_⟩
      have lx : xs.length = ls.length := by rw [dpLen hI, List.length_map]
      refine all_by xs.length (fun i H' => Same H H') (Same.refl H) (fun i H' hi sm => ?_) (fun H' sm => ?_)
      · refine ⟨⟨xs, xs[i], sm.seq hS, List.getElem?_eq_getElem hi⟩, fun y H2 ⟨e, hy⟩ => ?_⟩
        have ey := hy xs (sm.seq hS)
        obtain ⟨d, ed, hd⟩ := dpGet hI ey
        obtain ⟨n, en, rfl⟩ : ∃ n, ls[i]? = some n ∧ d = PyData.int (n : Nat) := by
          rw [List.getElem?_map] at ed
          cases q : ls[i]? with
          | none => rw [q] at ed; cases ed
          | some b => rw [q] at ed; exact ⟨b, rfl, (Option.some.inj ed).symm⟩
        cases hd
        obtain ⟨m1, m2⟩ := ok.each n (List.mem_of_getElem? en)
        subst e
        refine ⟨rfl, _, rfl, _, _, rfl, .int (n : Int), _, rfl, ?_⟩
        have hn : isNum (.int (n : Int)) = true := by simp [isNum, isI, isT, tyN]
        rw [hn]
        refine iteT ⟨_, rfl, _, _, rfl, rfl, _, rfl, ?_⟩
        have e3 : decide ((1 : Int) ≤ (n : Nat)) = true := decide_eq_true (by omega)
        have e4 : decide (((n : Nat) : Int) ≤ 1000000) = true := decide_eq_true (by omega)
        rw [e3]
        refine iteT ⟨_, _, rfl, rfl, _, rfl, fun _ => .mk hi ?_, fun z => ?_⟩
        · exact sm
        · rw [e4] at z
          cases z
      · exact ⟨⟨xs, sm.seq hS, Nat.le_refl _⟩, _, rfl, iteF (k _ sm)⟩

theorem scCheckWays : FnScope ["ways"] ["ways"] (defScope s_check_ways) := ⟨rfl, rfl, rfl, by decide +kernel, rfl, by decide +kernel, by decide +kernel⟩
def spCheckWays : Sp := fun vs H Q _ => ∃ (n : Int), vs = [.int n] ∧ 2 ≤ n ∧ n ≤ 6 ∧ Q .non H
theorem check_ways_ok {c : Addr} (D : DefAt K mg "check_ways" s_check_ways c) (T : Txt K mg) (cN : Cal P w K mg base CX0 1 "is_number" ["value"] (spNum K)) : Cal P w K mg base CX0 2 "check_ways" ["ways"] spCheckWays := by
  have sc := scCheckWays
  obtain ⟨tA, hA⟩ := T.leastw
  obtain ⟨tB, hB⟩ := T.mostw
  refine def_ok0 D sc (fun vs H Q E h => ?_) (fun _ _ _ _ _ _ us hl => match us, hl with | [_], _ => rfl) (fun f A outer s H vs Q E hr h => ?_)
  · obtain ⟨n, rfl, _⟩ := h
    rfl
  · obtain ⟨n, rfl, h1, h2, k⟩ := h
    refine ⟨_, (pss_one (ps_if ((pw_or (pt_not (pt_val (pe_c cN hr (by decide) (by rfl) pass0 (pa_cons (pv 0) pa_nil)))) (pw_or1 (pt_not (pt_chain op_le op_le (pe_glob (v := V.int 2) (by rfl) hA ⟨_, rfl⟩) (pv 0) (pe_glob (v := V.int 6) (by rfl) hB ⟨_, rfl⟩))))).pt) pss_never pss_nil)), ?_⟩
    refine ⟨_, rfl, _, _, rfl, .int n, _, rfl, ?_⟩
    have hn : isNum (.int n) = true := by simp [isNum, isI, isT, tyN]
    rw [hn]
    refine iteF ⟨_, rfl, _, _, rfl, rfl, _, rfl, ?_⟩
    rw [decide_eq_true h1]
    refine iteT ⟨_, _, rfl, rfl, _, rfl, ?_⟩
    rw [decide_eq_true h2]
    exact iteF k

theorem scCheckMerging : FnScope ["lengths", "ways"] ["lengths", "ways"] (defScope s_check_merging) := ⟨rfl, rfl, rfl, by decide +kernel, rfl, by decide +kernel, by decide +kernel⟩
def spCheckMerging (K : PySem.W.Frag) (p : Addr) : Sp := fun vs H Q _ => ∃ (vl : V) (ls : List Nat) (n : Int), vs = [vl, .int n] ∧ Dp K H vl (lensD ls) ∧ OkLens ls ∧ 2 ≤ n ∧ n ≤ 6 ∧ Tab H p ∧ ∀ H', Same H H' → Q .non H'
theorem check_merging_ok {c p : Addr} (D : DefAt K mg "check_merging" s_check_merging c) (cL : Cal P w K mg base CX0 3 "check_lengths" ["lengths"] (spCheckLengths K p)) (cW : Cal P w K mg base CX0 2 "check_ways" ["ways"] spCheckWays) : Cal P w K mg base CX0 4 "check_merging" ["lengths", "ways"] (spCheckMerging K p) := by
  have sc := scCheckMerging
  refine def_ok0 D sc (fun vs H Q E h => ?_) (fun _ _ _ _ _ _ us hl => match us, hl with | [_, _], _ => rfl) (fun f A outer s H vs Q E hr h => ?_)
  · obtain ⟨vl, ls, n, rfl, _⟩ := h
    rfl
  · obtain ⟨vl, ls, n, rfl, hl, ok, h1, h2, ht, k⟩ := h
    refine ⟨_, (pss_cons (ps_expr (pe_c cL hr (by decide) (by rfl) pass0 (pa_cons (pv 0) pa_nil))) (pss_one (ps_expr (pe_c cW hr (by decide) (by rfl) pass0 (pa_cons (pv 1) pa_nil))))), ?_⟩
    refine ⟨_, rfl, vl, ls, rfl, hl, ok, ht, fun H' sm => ?_⟩
    exact ⟨_, rfl, n, rfl, h1, h2, k H' sm⟩
end
end RS
set_option Elab.async false
set_option maxRecDepth 100000
set_option maxHeartbeats 4000000
namespace RS
open PySem PySem.Spec PyProof.Rows L2 GX
/-! ### the drawer -/
structure BoxAt (H : Hp) (B L : Addr) : Prop where
  ne : B ≠ L
  b : ∃ s : Int, H B = some (.lst [.ref L, .int s])
  l : ∃ ms : List Int, H L = some (.lst (ms.map V.int))
/-- all but the drawer stays -/
def SameX (B L : Addr) (H H' : Hp) : Prop := ∀ b o, b ≠ B → b ≠ L → H b = some o → H' b = some o
theorem SameX.refl {B L : Addr} {H : Hp} : SameX B L H H := fun _ _ _ _ e => e
theorem SameX.trans {B L : Addr} {H H1 H2 : Hp} (a : SameX B L H H1) (b : SameX B L H1 H2) : SameX B L H H2 := fun c o h1 h2 e => b c o h1 h2 (a c o h1 h2 e)
theorem SameX.of {B L : Addr} {H H' : Hp} (s : Same H H') : SameX B L H H' := fun b o _ _ e => s b o e
theorem BoxAt.same {H H' : Hp} {B L : Addr} (h : BoxAt H B L) (s : Same H H') : BoxAt H' B L := by
  obtain ⟨n, ⟨x, hb⟩, ⟨ms, hl⟩⟩ := h
  exact ⟨n, ⟨x, s _ _ hb⟩, ⟨ms, s _ _ hl⟩⟩
section
variable {P : Program} {w : World} {K : PySem.W.Frag} {mg : Str → Option Value} {base : Heap}
theorem dpInts {K : PySem.W.Frag} {H : Hp} : ∀ {ns : List Int}, DpAll K H (ns.map V.int) (ns.map .int)
  | [] => .nil
  | n :: _ => .cons (.int n) dpInts
theorem scBegun : FnScope ["_law_script", "_law_stirred", "_law_cell"] ["_law_script"] (defScope sBegun) := ⟨rfl, rfl, rfl, by decide +kernel, rfl, by decide +kernel, by decide +kernel⟩
def spBegun (K : PySem.W.Frag) : Sp := fun vs H Q _ => ∃ (a : Addr) (ns : List Int), vs = [.ref a] ∧ SqL K H a (ns.map V.int) ∧
  ∀ (H' : Hp) (B L : Addr), Same H H' → H B = none → H L = none → BoxAt H' B L → Q (.ref B) H'
theorem begun_ok {c : Addr} (D : DefAt K mg "_law_begun" sBegun c) (T : Txt K mg) : Cal P w K mg base CX0 1 "_law_begun" ["_law_script"] (spBegun K) := by
  have sc := scBegun
  refine def_ok0 D sc (fun vs H Q E h => ?_) (fun _ _ _ _ _ _ us hl => match us, hl with | [_], _ => rfl) (fun f A outer s H vs Q E hr h => ?_)
  · obtain ⟨a, ns, rfl, _⟩ := h
    rfl
  · obtain ⟨a, ns, rfl, hS, k⟩ := h
    refine ⟨_, (pss_cons (ps_set (i := 1) sc.nd rfl (Or.inl rfl) pe_int) (pss_cons (ps_for PassesOwn.never rfl (pi_list (pv 0)) (pg_name (i := 2) sc.nd rfl (Or.inl rfl)) (pss_one (ps_set (i := 1) sc.nd rfl (Or.inl rfl) (pe_op op_mod (pe_op op_add (pe_op op_add (pe_op op_mul (pv 1) pe_int) (pe_op op_mul (pv 2) pe_int)) pe_int) pe_int)))) (pss_one (ps_ret (pe_lst (pa_cons (pe_callTy call_list_of (by rfl) T.list_ (by decide +kernel) (pa_cons (pv 0) pa_nil)) (pa_cons (pe_op op_mul (pv 1) (pe_callTy call_int1 (by rfl) T.int_ (by decide +kernel) (pa_cons (pe_cmpR op_gt (pe_callB call_lenD (by rfl) T.len PySem.boot_len (pa_cons (pv 0) pa_nil)) pe_int (nomark _)) pa_nil))) pa_nil))))))), ?_⟩
    refine ⟨_, rfl, a, rfl, ⟨_, hS⟩, for_list (K := K) (a := a) (xs := ns.map V.int) (fun i σ H' => ∃ (st : Int) (v2 : Option V), σ = [some (.ref a), some (.int st), v2] ∧ 0 ≤ st ∧ st < 2147483647 ∧ H' = H)
      ⟨0, none, rfl, by decide, by decide, rfl⟩ (fun i σ H' _ ⟨_, _, _, _, _, e⟩ => by rw [e]; exact hS) ?_ ?_⟩
    · rintro i x σ H' hx ⟨st, v2, rfl, h0, h1, rfl⟩
      obtain ⟨n, en, rfl⟩ : ∃ n, ns[i]? = some n ∧ x = V.int n := by
        rw [List.getElem?_map] at hx
        cases q : ns[i]? with
        | none => rw [q] at hx; cases hx
        | some b => rw [q] at hx; exact ⟨b, rfl, (Option.some.inj hx).symm⟩
      refine ⟨_, rfl, _, _, rfl, rfl, .inl ⟨by omega, by omega⟩, ?_⟩
      refine ⟨_, rfl, _, _, rfl, rfl, .inr ⟨by omega, by omega⟩, ?_⟩
      refine ⟨_, _, rfl, rfl, _, _, rfl, rfl, _, _, rfl, rfl, (by show (0 : Int) < 2147483647; decide), ?_⟩
      exact ⟨_, _, rfl, Int.emod_nonneg _ (by decide), Int.emod_lt_of_pos _ (by decide), rfl⟩
    · rintro σ H' ⟨st, v2, rfl, h0, h1, rfl⟩
      refine ⟨_, rfl, a, _, rfl, .inl hS, fun L hL => ?_⟩
      have s1 : Same H' (upd H' L (.lst (ns.map V.int))) := fun b o e => by
        rw [upd_ne (ne_of_none e hL)]
        exact e
      refine ⟨_, rfl, _, rfl, .ref a, _, _, rfl, .lst (s1.seq hS) dpInts, rfl, _, _, rfl, rfl, .inr ⟨_, rfl, ?_⟩⟩
      refine ⟨_, _, rfl, rfl, .inl ⟨by omega, by omega⟩, ?_⟩
      refine ⟨by show 2 ≤ sizeLine; decide, fun B hB => ?_⟩
      have n1 : L ≠ B := fun z => by rw [← z, upd_same] at hB; cases hB
      exact k _ B L (fun b o e => by rw [upd_ne (ne_of_none (s1 _ _ e) hB)]; exact s1 _ _ e) (s1.free hB) hL ⟨Ne.symm n1, ⟨_, upd_same⟩, ⟨ns, (upd_ne n1).trans upd_same⟩⟩
end
end RS
set_option Elab.async false
set_option maxRecDepth 100000
set_option maxHeartbeats 4000000
namespace RS
open PySem PySem.Spec PyProof.Rows L2 GX
section
variable {P : Program} {w : World} {K : PySem.W.Frag} {mg : Str → Option Value} {base : Heap}
theorem scTake : FnScope ["_law_box", "_law_many", "_law_number"] ["_law_box", "_law_many"] (defScope sTake) := ⟨rfl, rfl, rfl, by decide +kernel, rfl, by decide +kernel, by decide +kernel⟩
def spTake : Sp := fun vs H Q _ => ∃ (B L : Addr) (m : Int), vs = [.ref B, .int m] ∧ BoxAt H B L ∧ 1 ≤ m ∧ m ≤ 1000000 ∧
  ∀ (H' : Hp) (k : Int), SameX B L H H' → BoxAt H' B L → 0 ≤ k → k < m → Q (.int k) H'
theorem eqv_nil (ds : List PyData) : PyData.eqv (.list ds) (.list []) = ds.isEmpty := by
  cases ds <;> simp [PyData.eqv, PyData.eqvAll]
theorem shaped_ints (ms : List Int) : SeqAt.shaped (.list (ms.map .int)) = true := by
  have h1 : PyData.canLayAll0 (ms.map .int) = true := by
    induction ms with
    | nil => simp [PyData.canLayAll0]
    | cons m ms ih => simp [PyData.canLayAll0, PyData.canLay0, ih]
  have h2 : PyData.depthAll (ms.map .int) = 0 := depth0 fun d hd => by
    obtain ⟨n, _, rfl⟩ := List.mem_map.mp hd
    simp [PyData.depth]
  simp [SeqAt.shaped, PyData.canLay0, PyData.depth, h1, h2]
theorem take_ok {c : Addr} (D : DefAt K mg "_law_take" sTake c) : Cal P w K mg base CX0 1 "_law_take" ["_law_box", "_law_many"] spTake := by
  have sc := scTake
  refine def_ok0 D sc (fun vs H Q E h => ?_) (fun _ _ _ _ _ _ us hl => match us, hl with | [_, _], _ => rfl) (fun f A outer s H vs Q E hr h => ?_)
  · obtain ⟨B, L, m, rfl, _⟩ := h
    rfl
  · obtain ⟨B, L, m, rfl, ⟨nBL, ⟨st, hB⟩, ⟨ms, hL⟩⟩, hm, hm2, k⟩ := h
    have hu := hr.units
    refine ⟨_, (pss_cons (ps_if (pt_cmpR (op_eqD hu) (pe_ix ix_list (pv 0) pe_int (fun _ _ => rfl)) (pe_lst pa_nil) (nomark _)) (pss_cons (ps_asg (pe_op op_mod (pe_op op_mul (pe_ix ix_list (pv 0) pe_int (fun _ _ => rfl)) pe_int) pe_int) (pg_sub (pv 0) pe_int set_list)) (pss_one (ps_ret (pe_op op_mod (pe_op op_fdiv (pe_ix ix_list (pv 0) pe_int (fun _ _ => rfl)) pe_int) (pv 1))))) pss_nil) (pss_cons (ps_set (i := 2) sc.nd rfl (Or.inl rfl) (pe_ix ix_list (pe_ix ix_list (pv 0) pe_int (fun _ _ => rfl)) pe_int (fun _ _ => rfl))) (pss_cons (ps_asg (pe_op op_fdiv (pv 2) (pv 1)) (pg_sub (pe_ix ix_list (pv 0) pe_int (fun _ _ => rfl)) pe_int set_list)) (pss_cons (ps_if ((pw_or (pt_cmpR op_eq (pe_ix ix_list (pe_ix ix_list (pv 0) pe_int (fun _ _ => rfl)) pe_int (fun _ _ => rfl)) pe_int (nomark _)) (pw_or1 (pt_cmpR op_eq (pe_ix ix_list (pe_ix ix_list (pv 0) pe_int (fun _ _ => rfl)) pe_int (fun _ _ => rfl)) (pe_un un_neg pe_int) (nomark _)))).pt) (pss_one (ps_expr (pe_bm PySem.F.plainAttrs_list PySem.F.slot_list_pop PySem.F.type_list_pop mt_popAt (pe_ix ix_list (pv 0) pe_int (fun _ _ => rfl)) (pa_cons pe_int pa_nil)))) pss_nil) (pss_one (ps_ret (pe_op op_mod (pv 2) (pv 1)))))))), ?_⟩
    refine ⟨_, rfl, B, _, _, _, rfl, rfl, SqL.of hB, rfl, Nat.zero_le _, fun e0 he0 => ?_⟩
    have s0 : Same H (upd H e0 (.lst [])) := fun b o e => by
      rw [upd_ne (ne_of_none e he0)]
      exact e
    refine ⟨.list (ms.map .int), .list [], .lst (s0.seq (SqL.of hL)) dpInts, .lst (SqL.of upd_same) .nil, ?_, rfl, _, rfl, ?_⟩
    · exact shaped_ints ms
    rw [eqv_nil]
    have hB0 := s0 _ _ hB
    have hL0 := s0 _ _ hL
    cases ms with
    | nil =>
      refine iteT ⟨_, rfl, B, _, _, _, rfl, rfl, SqL.of hB0, atI_nat (j := 1) rfl, _, _, rfl, rfl, .inr ⟨by decide, by decide⟩, ?_⟩
      refine ⟨_, _, rfl, rfl, (by show (0 : Int) < 2147483647; decide), ?_⟩
      refine ⟨_, rfl, B, _, _, 1, rfl, rfl, hB0, rfl, ?_⟩
      refine ⟨_, rfl, B, _, _, _, rfl, rfl, SqL.of upd_same, atI_nat (j := 1) rfl, ?_⟩
      refine ⟨_, _, rfl, rfl, ⟨by decide, by decide⟩, _, rfl, _, _, rfl, rfl, (by show (0 : Int) < m; omega), ?_⟩
      refine k _ _ (fun b o h1 h2 e => ?_) ⟨nBL, ⟨_, upd_same⟩, ⟨[], (upd_ne (Ne.symm nBL)).trans hL0⟩⟩ (Int.emod_nonneg _ (by omega)) (Int.emod_lt_of_pos _ (by omega))
      rw [upd_ne h1]
      exact s0 _ _ e
    | cons m0 ms =>
      refine iteF ⟨_, rfl, B, _, _, _, rfl, rfl, SqL.of hB0, atI_nat (j := 0) rfl, L, _, _, _, rfl, rfl, SqL.of hL0, atI_nat (j := 0) rfl, ?_⟩
      refine ⟨_, rfl, _, rfl, _, _, rfl, rfl, ⟨by omega, by omega⟩, ?_⟩
      refine ⟨_, rfl, B, _, _, _, rfl, rfl, SqL.of hB0, atI_nat (j := 0) rfl, L, _, _, 0, rfl, rfl, hL0, by simp [ixN], ?_⟩
      have hB1 : upd (upd H e0 (.lst [])) L (.lst (((m0 :: ms).map V.int).set 0 (.int (m0 / m)))) B = some (.lst [.ref L, .int st]) := (upd_ne nBL).trans hB0
      refine ⟨_, rfl, B, _, _, _, rfl, rfl, SqL.of hB1, atI_nat (j := 0) rfl, L, _, _, _, rfl, rfl, SqL.of upd_same, atI_nat (j := 0) rfl, ?_⟩
      have sx : ∀ (u : HO) (b : Addr) (o : HO), b ≠ B → b ≠ L → H b = some o → upd (upd H e0 (.lst [])) L u b = some o := fun u b o h1 h2 e => by
        rw [upd_ne h2]
        exact s0 _ _ e
      have ret : ∀ (H2 : Hp), SameX B L H H2 → BoxAt H2 B L → (∃ v, (some (V.int m0) : Option V) = some v ∧ v = .int m0) → Q (.int (m0 % m)) H2 := fun H2 s2 b2 _ => k H2 _ s2 b2 (Int.emod_nonneg _ (by omega)) (Int.emod_lt_of_pos _ (by omega))
      have box1 : BoxAt (upd (upd H e0 (.lst [])) L (.lst (V.int (m0 / m) :: ms.map V.int))) B L := ⟨nBL, ⟨_, hB1⟩, ⟨m0 / m :: ms, upd_same⟩⟩
      have box2 : BoxAt (upd (upd (upd H e0 (.lst [])) L (.lst (V.int (m0 / m) :: ms.map V.int))) L (.lst (ms.map V.int))) B L := ⟨nBL, ⟨_, (upd_ne nBL).trans hB1⟩, ⟨ms, upd_same⟩⟩
      have sx2 : SameX B L H (upd (upd (upd H e0 (.lst [])) L (.lst (V.int (m0 / m) :: ms.map V.int))) L (.lst (ms.map V.int))) := fun b o h1 h2 e => by
        rw [upd_ne h2]
        exact sx _ b o h1 h2 e
      have sk : seqIndex? 0 (V.int (m0 / m) :: ms.map V.int).length = some 0 := by
        simp [seqIndex?]
      refine ⟨rfl, _, rfl, ?_⟩
      refine ite2 (fun h1 => ?_) (fun h1 => ?_)
      · refine iteT ⟨_, rfl, B, _, _, _, rfl, rfl, SqL.of hB1, atI_nat (j := 0) rfl, .inl ⟨rfl, _, SqL.of upd_same⟩, L, _, 0, 0, _, rfl, rfl, upd_same, by decide, by decide, sk, rfl, ?_⟩
        exact ⟨_, rfl, _, rfl, _, _, rfl, rfl, (by show (0 : Int) < m; omega), ret _ sx2 box2 ⟨_, rfl, rfl⟩⟩
      · refine ⟨_, rfl, B, _, _, _, rfl, rfl, SqL.of hB1, atI_nat (j := 0) rfl, L, _, _, _, rfl, rfl, SqL.of upd_same, atI_nat (j := 0) rfl, ?_⟩
        refine ⟨_, rfl, rfl, _, rfl, ?_⟩
        refine ite2 (fun h1 => ?_) (fun h1 => ?_)
        · refine ⟨_, rfl, B, _, _, _, rfl, rfl, SqL.of hB1, atI_nat (j := 0) rfl, .inl ⟨rfl, _, SqL.of upd_same⟩, L, _, 0, 0, _, rfl, rfl, upd_same, by decide, by decide, sk, rfl, ?_⟩
          exact ⟨_, rfl, _, rfl, _, _, rfl, rfl, (by show (0 : Int) < m; omega), ret _ sx2 box2 ⟨_, rfl, rfl⟩⟩
        · exact ⟨_, rfl, _, rfl, _, _, rfl, rfl, (by show (0 : Int) < m; omega), ret _ (sx _) box1 ⟨_, rfl, rfl⟩⟩
end
end RS
set_option Elab.async false
set_option maxRecDepth 100000
set_option maxHeartbeats 8000000
namespace RS
open PySem PySem.Spec PyProof.Rows L2 GX
mutual
def few : PyData → Prop
  | .list ds => ds.length ≤ 1000000 ∧ fews ds
  | .tuple ds => ds.length ≤ 1000000 ∧ fews ds
  | .dict _ => False
  | _ => True
def fews : List PyData → Prop
  | [] => True
  | d :: ds => few d ∧ fews ds
end
theorem fews_iff : ∀ {ds : List PyData}, fews ds ↔ ∀ d ∈ ds, few d
  | [] => by simp [fews]
  | d :: ds => by
    unfold fews
    rw [fews_iff]
    simp
theorem depth_mem : ∀ {ds : List PyData} {d : PyData}, d ∈ ds → d.depth ≤ PyData.depthAll ds
  | [], _, h => by cases h
  | e :: ds, d, h => by
    simp only [PyData.depthAll]
    rcases List.mem_cons.mp h with q | q
    · subst q
      omega
    · have := depth_mem q
      omega
end RS
set_option Elab.async false
set_option maxRecDepth 100000
set_option maxHeartbeats 4000000
namespace RS
open PySem PySem.Spec PyProof.Rows L2 GX
/-! ### plans -/
mutual
def leaf : PyData → List Nat
  | .int i => [i.toNat]
  | .tuple ds => leafs ds
  | _ => []
def leafs : List PyData → List Nat
  | [] => []
  | d :: ds => leaf d ++ leafs ds
end
mutual
def okP (w : Nat) : PyData → Prop
  | .int i => 0 ≤ i ∧ i < 40
  | .tuple ds => 2 ≤ ds.length ∧ ds.length ≤ w ∧ okPs w ds
  | _ => False
def okPs (w : Nat) : List PyData → Prop
  | [] => True
  | d :: ds => okP w d ∧ okPs w ds
end
mutual
def sizeP : PyData → Nat
  | .tuple ds => 1 + sizePs ds
  | _ => 1
def sizePs : List PyData → Nat
  | [] => 0
  | d :: ds => sizeP d + sizePs ds
end
theorem okPs_iff {w : Nat} : ∀ {ds : List PyData}, okPs w ds ↔ ∀ d ∈ ds, okP w d
  | [] => by simp [okPs]
  | d :: ds => by
    unfold okPs
    rw [okPs_iff]
    simp
theorem leafs_app : ∀ xs ys : List PyData, leafs (xs ++ ys) = leafs xs ++ leafs ys
  | [], _ => rfl
  | d :: xs, ys => by
    show leaf d ++ leafs (xs ++ ys) = (leaf d ++ leafs xs) ++ leafs ys
    rw [leafs_app xs ys, List.append_assoc]
theorem sizePs_app : ∀ xs ys : List PyData, sizePs (xs ++ ys) = sizePs xs + sizePs ys
  | [], _ => by simp [sizePs]
  | d :: xs, ys => by
    show sizeP d + sizePs (xs ++ ys) = (sizeP d + sizePs xs) + sizePs ys
    rw [sizePs_app xs ys]
    omega
theorem okPs_app {w : Nat} {xs ys : List PyData} : okPs w (xs ++ ys) ↔ okPs w xs ∧ okPs w ys := by
  rw [okPs_iff, okPs_iff, okPs_iff]
  constructor
  · exact fun h => ⟨fun d hd => h d (List.mem_append_left _ hd), fun d hd => h d (List.mem_append_right _ hd)⟩
  · rintro ⟨h1, h2⟩ d hd
    rcases List.mem_append.mp hd with q | q
    · exact h1 d q
    · exact h2 d q
mutual
theorem okP_noL {w : Nat} : ∀ d : PyData, okP w d → noL d = true
  | .int _, _ => rfl
  | .tuple ds, h => by
    unfold okP at h
    show noLs ds = true
    exact okPs_noL ds h.2.2
  | .none, h => by simp [okP] at h
  | .bool _, h => by simp [okP] at h
  | .str _, h => by simp [okP] at h
  | .list _, h => by simp [okP] at h
  | .dict _, h => by simp [okP] at h
theorem okPs_noL {w : Nat} : ∀ ds : List PyData, okPs w ds → noLs ds = true
  | [], _ => rfl
  | d :: ds, h => by
    unfold okPs at h
    unfold noLs
    rw [okP_noL d h.1, okPs_noL ds h.2]
    rfl
end
mutual
/-- as many runs as deep, and one more -/
theorem leaf_depth {w : Nat} : ∀ d : PyData, okP w d → d.depth + 1 ≤ (leaf d).length
  | .int _, _ => by simp [leaf, PyData.depth]
  | .tuple ds, h => by
    unfold okP at h
    have := leafs_depth ds h.2.2
    unfold leaf
    simp only [PyData.depth]
    omega
  | .none, h => by simp [okP] at h
  | .bool _, h => by simp [okP] at h
  | .str _, h => by simp [okP] at h
  | .list _, h => by simp [okP] at h
  | .dict _, h => by simp [okP] at h
theorem leafs_depth {w : Nat} : ∀ ds : List PyData, okPs w ds → PyData.depthAll ds + ds.length ≤ (leafs ds).length
  | [], _ => by simp [leafs, PyData.depthAll]
  | d :: ds, h => by
    unfold okPs at h
    have h1 := leaf_depth d h.1
    have h2 := leafs_depth ds h.2
    unfold leafs
    simp only [PyData.depthAll, List.length_append, List.length_cons]
    omega
end
mutual
theorem okP_few {w : Nat} (hw : w ≤ 1000) : ∀ d : PyData, okP w d → few d
  | .int _, _ => by simp [few]
  | .tuple ds, h => by
    unfold okP at h
    unfold few
    exact ⟨by omega, okPs_few hw ds h.2.2⟩
  | .none, h => by simp [okP] at h
  | .bool _, h => by simp [okP] at h
  | .str _, h => by simp [okP] at h
  | .list _, h => by simp [okP] at h
  | .dict _, h => by simp [okP] at h
theorem okPs_few {w : Nat} (hw : w ≤ 1000) : ∀ ds : List PyData, okPs w ds → fews ds
  | [], _ => by simp [fews]
  | d :: ds, h => by
    unfold okPs at h
    unfold fews
    exact ⟨okP_few hw d h.1, okPs_few hw ds h.2⟩
end
theorem okP_cases {w : Nat} {d : PyData} (h : okP w d) : (∃ n : Nat, d = .int (n : Nat) ∧ n < 40) ∨ ∃ ds, d = .tuple ds ∧ 2 ≤ ds.length ∧ ds.length ≤ w ∧ okPs w ds := by
  cases d with
  | int i =>
    unfold okP at h
    exact .inl ⟨i.toNat, by rw [Int.toNat_of_nonneg h.1], by omega⟩
  | tuple ds => unfold okP at h; exact .inr ⟨ds, rfl, h⟩
  | _ => simp [okP] at h
/-- all runs once -/
structure OkPlan (n w : Nat) (d : PyData) : Prop where
  ok : okP w d
  all : (leaf d).Perm (List.range n)
theorem OkPlan.depth {n w : Nat} {d : PyData} (h : OkPlan n w d) : d.depth + 1 ≤ n := by
  have := leaf_depth d h.ok
  rw [h.all.length_eq, List.length_range] at this
  exact this
end RS
set_option Elab.async false
set_option maxRecDepth 100000
set_option maxHeartbeats 4000000
namespace GX
open PySem PySem.Spec PyProof.Rows L2
/-! ### xs.extend(t), t any tuple -/
theorem ext_tup (l b : Addr) (xs ys : Array Value) (n m : Nat) (dd : Option Addr) (sl : Array (Option Value)) (h0 : ¬(!xs.isEmpty && Builtin.List.listTooLong (xs.size + ys.size)) = true) (h1 : xs.size ≤ sizeLine) (h2 : xs.size + ys.size ≤ sizeLine + 1) :
    Meets (Builtin.«list.extend» ⟨[.ref l, .ref b], []⟩) (fun _ R s => s.heap.get? l = some ⟨.type "list", none, .seq xs n, #[]⟩ ∧ s.heap.get? b = some ⟨.type "tuple", dd, .seq ys m, sl⟩ ∧ R (.ok (.ret .none)) { s with heap := s.heap.update l (Obj.mapSeq fun x => x ++ ys), toks := s.toks }) := .of_wp fun prog w A R s h => by
    obtain ⟨hp, g, d, tk, os⟩ := s
    obtain ⟨hl, hb, h⟩ := h
    have g1 := PySem.AutoSeq1.idx_int
    have g2 := PySem.AutoSeq1.sub_tuple_tuple
    have g3 := PySem.AutoSeq1.sub_list_list
    have g4 := PySem.AutoSeq1.sub_tuple_list
    have g5 := PySem.AutoSeq1.sub_list_tuple
    have z : (xs ++ ys).size ≤ sizeLine + 1 := (Array.size_append (xs := xs) (ys := ys)).symm ▸ h2
    wp_walk using (wpAny_updateSeq hl rfl (hz := h1) (_hz' := z)), PySem.AutoSeq1.wpAny_loadPart' hl, PySem.AutoSeq1.wpAny_loadPart' hb
    exact ⟨_, rfl, h⟩
section
variable {X : Cx}
def rExtT (K : PySem.W.Frag) : V → List V → Hp → VK → Prop := fun x vs H Q => ∃ l b xs zs, x = .ref l ∧ vs = [.ref b] ∧ H l = some (.lst xs) ∧ SqT K H b zs ∧ xs.length + zs.length ≤ sizeLine ∧ Q .non (upd H l (.lst (xs ++ zs)))
theorem mt_extT : MtM X "list.extend" (rExtT X.K) := by
  intro pins s σ H x vs v us Q I rx rv h
  obtain ⟨l, b, xs, zs, rfl, rfl, hH, hB, hz, q⟩ := h
  cases rx
  obtain ⟨u, rfl, ru⟩ := rv.one
  cases ru
  obtain ⟨z, its, n, r, hl, e⟩ := I.lstM hH
  obtain ⟨its2, r2, ⟨⟨oc, dd, dt, sl⟩, e2, hc, m, hd⟩, hz2⟩ := I.tuple hB
  subst hc hd
  have hl2 := r2.length
  have hsz : its.toArray.size + its2.toArray.size ≤ sizeLine := by rw [List.size_toArray, List.size_toArray]; omega
  have hlong : ¬ (!its.toArray.isEmpty && Builtin.List.listTooLong (its.toArray.size + its2.toArray.size)) = true := fun w => by
    rw [notLongL hsz, Bool.and_false] at w
    cases w
  refine call_meets F.slot_list_extend ⟨_, e, rfl⟩ F.entry_list_extend (F.args_list_extend_2 _ _) (ext_tup l b its.toArray its2.toArray n m dd sl hlong (by rw [List.size_toArray]; omega) (by omega)) ⟨e, e2, ?_⟩
  refine ⟨.non, _, I.lset (its' := its ++ its2) hH e (by simp) (r.append r2) (by rw [List.length_append]; omega), rfl, q⟩
/-- len(d) of a dict -/
theorem len_dic : CallR X (.builtin "len") (fun vs H Q => ∃ p es, vs = [V.ref p] ∧ H p = some (.dK es) ∧ Q (.int es.length) H) := fun pins s σ H vs us Q I r ⟨p, es, e, hp, q⟩ => by
  subst e
  obtain ⟨u, rfl, ru⟩ := vals1 r
  cases ru
  exact d_len I (.inl hp) fun tk s1 I1 => ⟨.int es.length, _, I1, ⟨tk, rfl⟩, q⟩
end
end GX
set_option Elab.async false
set_option maxRecDepth 100000
set_option maxHeartbeats 4000000
namespace RS
open PySem PySem.Spec PyProof.Rows L2 GX
theorem le64 {n : Nat} (h : n + 64 < cLine) : n + 1 < cLine := by omega
def keysD (js : List Nat) : List (Key × V) := js.map fun (j : Nat) => ((Sum.inl (j : Int) : Key), V.bl true)
theorem valV_js {js : List Nat} {i : Nat} (h : i ∉ js) : valV (keysD js) (Sum.inl (i : Int)) = none := by
  unfold keysD
  induction js with
  | nil => rfl
  | cons j js ih =>
    rw [List.map_cons, valV_neg]
    · exact ih fun z => h (List.mem_cons_of_mem _ z)
    · intro z
      have : (j : Int) = (i : Int) := Sum.inl.inj z
      exact h (by rw [show i = j by omega]; exact List.mem_cons_self)
theorem dpAll_snoc {K : PySem.W.Frag} {H : Hp} : ∀ {xs : List V} {y : V} {ds : List PyData}, DpAll K H (xs ++ [y]) ds → ∃ ds0 d, ds = ds0 ++ [d] ∧ DpAll K H xs ds0 ∧ Dp K H y d
  | [], _, _, .cons h .nil => ⟨[], _, rfl, .nil, h⟩
  | _ :: xs, _, _, .cons h t => by
    obtain ⟨ds0, d, rfl, h1, h2⟩ := dpAll_snoc (xs := xs) t
    exact ⟨_ :: ds0, d, rfl, .cons h h1, h2⟩
section
variable {P : Program} {w : World} {K : PySem.W.Frag} {mg : Str → Option Value} {base : Heap}
theorem scCheckPlan : FnScope ["lengths", "ways", "plan", "named", "left", "part"] ["lengths", "ways", "plan"] (defScope s_check_plan) := ⟨rfl, rfl, rfl, by decide +kernel, rfl, by decide +kernel, by decide +kernel⟩
def spCheckPlan (K : PySem.W.Frag) : Sp := fun vs H Q _ => ∃ (vl vp : V) (ls : List Nat) (n : Nat) (d : PyData), vs = [vl, .int (n : Nat), vp] ∧ Dp K H vl (lensD ls) ∧ Dp K H vp d ∧ OkPlan ls.length n d ∧ ls.length ≤ 40 ∧ n ≤ 6 ∧ ∀ H', Same H H' → Q .non H'
theorem check_plan_ok {c : Addr} (D : DefAt K mg "check_plan" s_check_plan c) (T : Txt K mg) (cN : Cal P w K mg base CX0 1 "is_number" ["value"] (spNum K)) : Cal P w K mg base CX0 2 "check_plan" ["lengths", "ways", "plan"] (spCheckPlan K) := by
  have sc := scCheckPlan
  obtain ⟨tA, hA⟩ := T.leastw
  refine def_ok0 D sc (fun vs H Q E h => ?_) (fun _ _ _ _ _ _ us hl => match us, hl with | [_, _, _], _ => rfl) (fun f A outer s H vs Q E hr h => ?_)
  · obtain ⟨vl, vp, ls, n, d, rfl, _⟩ := h
    rfl
  · obtain ⟨vl, vp, ls, n, d, rfl, hl, hp, ok, l40, n6, k⟩ := h
    have hu := hr.units
    refine ⟨_, (pss_cons (ps_par (i := 3) (j := 4) rfl sc.nd rfl rfl (by decide) rfl rfl (pa_cons pe_dnewK (pa_cons (pe_lst (pa_cons (pv 2) pa_nil)) pa_nil)) (by rfl)) (pss_cons (ps_while PassesOwn.never (pt_truth (pv 4) (by intro _; rfl)) (pss_cons (ps_set (i := 5) sc.nd rfl (Or.inl rfl) (pe_bm0 PySem.F.plainAttrs_list PySem.F.slot_list_pop PySem.F.type_list_pop mt_pop (pv 4))) (pss_one (ps_if (pt_val (pe_callB call_isiD (by rfl) T.isinstance (by decide +kernel) (pa_cons (pv 5) (pa_cons (pe_bltn (v := V.ty "tuple") (u := Value.type "tuple") (by rfl) T.tuple_ (by decide +kernel) rfl) pa_nil)))) (pss_cons (ps_if (pt_not (pt_chain op_le op_le (pe_glob (v := V.int 2) (by rfl) hA ⟨_, rfl⟩) (pe_callB call_lenD (by rfl) T.len PySem.boot_len (pa_cons (pv 5) pa_nil)) (pv 1))) pss_never pss_nil) (pss_one (ps_expr (pe_bm PySem.F.plainAttrs_list PySem.F.slot_list_extend PySem.F.type_list_extend mt_extT (pv 4) (pa_cons (pv 5) pa_nil))))) (pss_one (ps_if ((pw_or (pt_not (pt_val (pe_c cN hr (by decide) (by rfl) pass0 (pa_cons (pv 5) pa_nil)))) (pw_or (pt_not (pt_chain op_le op_lt pe_int (pv 5) (pe_callB call_lenD (by rfl) T.len PySem.boot_len (pa_cons (pv 0) pa_nil)))) (pw_or1 (pt_cmp (pc_din (le64 hu) (pv 5) (pv 3)))))).pt) pss_never (pss_one (ps_dput (le64 hu) (pv 3) (pv 5) pe_bl (by rfl))))))))) (pss_one (ps_if (pt_cmpR op_lt (pe_callB len_dic (by rfl) T.len PySem.boot_len (pa_cons (pv 3) pa_nil)) (pe_callB call_lenD (by rfl) T.len PySem.boot_len (pa_cons (pv 0) pa_nil)) (nomark _)) pss_never pss_nil)))), ?_⟩
    intro p hp0
    refine ⟨_, rfl, by show 1 ≤ sizeLine; decide, fun q hq => ⟨_, _, rfl, ?_⟩⟩
    refine ⟨fun m σ H' => ∃ (xs : List V) (ds : List PyData) (js : List Nat) (v5 : Option V), σ = [some vl, some (.int (n : Nat)), some vp, some (.ref p), some (.ref q), v5] ∧ Same H H' ∧
      H' p = some (.dK (keysD js)) ∧ H' q = some (.lst xs) ∧ DpAll K H xs ds ∧ okPs n ds ∧ (js ++ leafs ds).Perm (List.range ls.length) ∧ m = sizePs ds, ⟨_, [vp], [d], [], none, rfl, fun b o e => ?_, ?_, upd_same, ?_, ?_, ?_, rfl⟩, ?_⟩
    · rw [upd_ne (ne_of_none e (upd_no hq)), upd_ne (ne_of_none e hp0)]
      exact e
    · rw [upd_ne (fun z => by rw [z, upd_same] at hq; cases hq), upd_same]
      rfl
    · exact .cons hp .nil
    · exact ⟨ok.ok, trivial⟩
    · simpa [leafs] using ok.all
    rintro m σ H' ⟨xs, ds, js, v5, rfl, sm, hP, hQ, hd, okd, pm, em⟩
    have npq : p ≠ q := fun z => by rw [z, upd_same] at hq; cases hq
    refine ⟨_, rfl, !xs.isEmpty, .inl ⟨xs, SqL.of hQ, rfl⟩, ?_⟩
    rcases xs.eq_nil_or_concat with rfl | ⟨xs0, y, rfl⟩
    · cases hd
      refine iteF ?_
      have pm' : js.Perm (List.range ls.length) := by simpa [leafs] using pm
      have lj : js.length = ls.length := by rw [pm'.length_eq, List.length_range]
      refine ⟨_, rfl, p, _, rfl, hP, _, rfl, _, _, (ls.map fun n => PyData.int (n : Nat)).length, rfl, dp_same sm _ hl, rfl, _, _, rfl, rfl, _, rfl, ?_⟩
      refine iteF' (decide_eq_false ?_) (k _ sm)
      show ¬ ((keysD js).length : Int) < ((ls.map fun n => PyData.int (n : Nat)).length : Nat)
      unfold keysD
      rw [List.length_map, List.length_map, lj]
      omega
    · rw [List.concat_eq_append] at hQ hd ⊢
      obtain ⟨ds0, e, rfl, hd0, he⟩ := dpAll_snoc hd
      obtain ⟨okd0, oke⟩ := okPs_app.mp okd
      have oke : okP n e := oke.1
      have pm1 : (js ++ (leafs ds0 ++ leaf e)).Perm (List.range ls.length) := by simpa [leafs_app, leafs] using pm
      refine iteT' (by simp) ⟨_, fun _ _ h => h, ?_⟩
      have hQ1 : upd H' q (.lst xs0) q = some (.lst xs0) := upd_same
      have hP1 : upd H' q (.lst xs0) p = some (.dK (keysD js)) := (upd_ne npq).trans hP
      have sm1 : ∀ u, Same H (upd H' q u) := fun u b o e => by
        rw [upd_ne (ne_of_none e (upd_no hq))]
        exact sm b o e
      have he1 := dp_same (sm1 (.lst xs0)) _ he
      refine ⟨_, rfl, .inl ⟨rfl, _, SqL.of hQ⟩, q, _, y, rfl, rfl, hQ, by simp, ?_⟩
      rw [List.dropLast_concat]
      refine ⟨_, rfl, _, _, _, rfl, by simp, he1, _, rfl, ?_⟩
      rcases okP_cases oke with ⟨i, rfl, hi⟩ | ⟨es, rfl, e1, e2, oks⟩
      · cases he1
        have hn : isNum (.int (i : Int)) = true := by simp [isNum, isI, isT, tyN]
        refine iteF ⟨_, rfl, _, _, rfl, .int _, _, rfl, ?_⟩
        rw [hn]
        have pm2 : (js ++ (leafs ds0 ++ [i])).Perm (List.range ls.length) := by simpa [leaf] using pm1
        have hi2 : i < ls.length := List.mem_range.mp (pm2.mem_iff.mp (by simp))
        have ni : i ∉ js := fun z => by
          have nd := pm2.nodup_iff.mpr List.nodup_range
          exact (List.nodup_append.mp nd).2.2 i z i (by simp) rfl
        refine iteF ⟨_, rfl, _, _, rfl, rfl, _, rfl, ?_⟩
        rw [show decide ((0 : Int) ≤ (i : Nat)) = true from decide_eq_true (by omega)]
        refine iteT ⟨_, rfl, _, _, (ls.map fun n => PyData.int (n : Nat)).length, rfl, dp_same (sm1 _) _ hl, rfl, _, _, rfl, rfl, _, rfl, ?_⟩
        rw [List.length_map, show decide (((i : Nat) : Int) < (ls.length : Nat)) = true from decide_eq_true (by omega)]
        refine iteF ⟨_, rfl, _, rfl, p, _, rfl, DGet.k (k := Sum.inl (i : Int)) hP1, _, rfl, ?_⟩
        rw [valV_js ni]
        refine iteF ⟨_, rfl, _, rfl, p, _, rfl, DPut.k (k := Sum.inl (i : Int)) hP1 ?_, ?_⟩
        · show (keysD js).length < sizeLine
          refine small1000 ?_
          have := pm2.length_eq
          rw [List.length_append, List.length_range] at this
          unfold keysD
          rw [List.length_map]
          omega
        · refine ⟨_, ?_, xs0, ds0, js ++ [i], _, rfl, fun b o e => ?_, ?_, (upd_ne (Ne.symm npq)).trans hQ1, hd0, okd0, ?_, rfl⟩
          · rw [em, sizePs_app]
            show sizePs ds0 < sizePs ds0 + (1 + 0)
            omega
          · rw [upd_ne (ne_of_none e hp0)]
            exact sm1 _ _ _ e
          · rw [upd_same, putK_new _ (valV_js ni)]
            unfold keysD
            rw [List.map_append]
            rfl
          · refine List.Perm.trans ?_ pm2
            rw [List.append_assoc]
            exact List.perm_append_comm.append_left _
      · refine iteT ⟨_, rfl, _, _, _, rfl, he1, rfl, _, _, rfl, rfl, _, rfl, ?_⟩
        rw [show decide ((2 : Int) ≤ (es.length : Nat)) = true from decide_eq_true (by omega)]
        refine iteT ⟨_, rfl, _, _, rfl, rfl, _, rfl, ?_⟩
        rw [show decide (((es.length : Nat) : Int) ≤ (n : Nat)) = true from decide_eq_true (by omega)]
        refine iteF ?_
        cases he with
        | @tup a zs _ hS hI =>
          have lz : zs.length = es.length := dpLen hI
          have lx := dpLen hd0
          have lf := leafs_depth ds0 okd0
          have lp := pm1.length_eq
          rw [List.length_append, List.length_append, List.length_range] at lp
          refine ⟨_, rfl, .inl ⟨rfl, _, SqL.of hQ1⟩, _, rfl, q, a, xs0, zs, rfl, rfl, hQ1, sqT_same (sm1 _) hS, ?_, ?_⟩
          · exact Nat.le_of_lt (small1000 (by omega))
          · refine ⟨_, ?_, xs0 ++ zs, ds0 ++ es, js, _, rfl, fun b o e => ?_, (upd_ne npq).trans hP1, upd_same, dpApp hd0 hI, okPs_app.mpr ⟨okd0, oks⟩, ?_, rfl⟩
            · rw [em, sizePs_app, sizePs_app]
              show sizePs ds0 + sizePs es < sizePs ds0 + ((1 + sizePs es) + 0)
              omega
            · rw [upd_ne (ne_of_none e (upd_no hq))]
              exact sm1 _ _ _ e
            · rw [leafs_app]
              exact pm1
end
end RS
set_option Elab.async false
set_option maxRecDepth 100000
set_option maxHeartbeats 4000000
namespace RS
open PySem PySem.Spec PyProof.Rows L2 GX
theorem BoxAt.nb {H : Hp} {B L a : Addr} (h : BoxAt H B L) (ha : H a = none) : a ≠ B ∧ a ≠ L := by
  obtain ⟨_, ⟨s, hb⟩, ⟨ms, hl⟩⟩ := h
  exact ⟨fun z => (by rw [z, hb] at ha; cases ha), fun z => (by rw [z, hl] at ha; cases ha)⟩
theorem BoxAt.upd_ {H : Hp} {B L a : Addr} {o : HO} (h : BoxAt H B L) (nB : a ≠ B) (nL : a ≠ L) : BoxAt (upd H a o) B L := by
  obtain ⟨n, ⟨s, hb⟩, ⟨ms, hl⟩⟩ := h
  exact ⟨n, ⟨s, (upd_ne (Ne.symm nB)).trans hb⟩, ⟨ms, (upd_ne (Ne.symm nL)).trans hl⟩⟩
theorem SameX.new {B L a : Addr} {H H' : Hp} {o : HO} (s : SameX B L H H') (ha : H a = none) : SameX B L H (upd H' a o) := fun b u h1 h2 e => by
  rw [upd_ne (ne_of_none e ha)]
  exact s b u h1 h2 e
theorem SameX.free {B L a : Addr} {H H' : Hp} (s : SameX B L H H') (_b : BoxAt H B L) (ha : H' a = none) (b' : BoxAt H' B L) : H a = none := by
  cases e : H a with
  | none => rfl
  | some o =>
    obtain ⟨n1, n2⟩ := b'.nb ha
    rw [s a o n1 n2 e] at ha
    cases ha
theorem ix_listC {X : Cx} {K : PySem.W.Frag} (e : X.K = K) : IxR X (rIxL K) := by
  subst e
  exact ix_list
theorem ix_tupC {X : Cx} {K : PySem.W.Frag} (e : X.K = K) : IxR X (rIxT K) := by
  subst e
  exact ix_tup
theorem ixDC {X : Cx} {K : PySem.W.Frag} (e : X.K = K) : IxR X (fun x y H Q => ∃ d ds i d', Dp K H x d ∧ itemsD d = some ds ∧ y = .int i ∧ atI ds i = some d' ∧ ∀ v, Dp K H v d' → Q v H) := by
  subst e
  exact ixD
/-- what has no list of its own stays -/
theorem sqT_x {K : PySem.W.Frag} {H H' : Hp} {B L a : Addr} {xs : List V} (b : BoxAt H B L) (s : SameX B L H H') (h : SqT K H a xs) : SqT K H' a xs := by
  obtain ⟨_, ⟨st, hb⟩, ⟨ms, hl⟩⟩ := b
  rcases h with (h | ⟨o, h⟩) | h
  · exact .inl (.inl (s a _ (fun z => by rw [z, hb] at h; cases h) (fun z => by rw [z, hl] at h; cases h) h))
  · exact .inl (.inr ⟨o, s a _ (fun z => by rw [z, hb] at h; cases h) (fun z => by rw [z, hl] at h; cases h) h⟩)
  · exact .inr h
mutual
theorem dp_x {K : PySem.W.Frag} {H H' : Hp} {B L : Addr} (b : BoxAt H B L) (s : SameX B L H H') : ∀ (d : PyData) {v : V}, noL d = true → Dp K H v d → Dp K H' v d
  | .none, _, _, .non => .non
  | .bool x, _, _, .bl _ => .bl x
  | .int i, _, _, .int _ => .int i
  | .str x, _, _, .str _ => .str x
  | .list ds, _, h, _ => by cases h
  | .tuple ds, _, h, .tup q hs => .tup (sqT_x b s q) (dpAll_x b s ds h hs)
  | .dict _, _, h, _ => by cases h
theorem dpAll_x {K : PySem.W.Frag} {H H' : Hp} {B L : Addr} (b : BoxAt H B L) (s : SameX B L H H') : ∀ (ds : List PyData) {vs : List V}, noLs ds = true → DpAll K H vs ds → DpAll K H' vs ds
  | [], _, _, .nil => .nil
  | d :: ds, _, h, .cons q hs => by
    unfold noLs at h
    rw [Bool.and_eq_true] at h
    exact .cons (dp_x b s d h.1 q) (dpAll_x b s ds h.2 hs)
end
end RS
set_option Elab.async false
set_option maxRecDepth 100000
set_option maxHeartbeats 4000000
namespace RS
open PySem PySem.Spec PyProof.Rows L2 GX
theorem perm_erase {α : Type} : ∀ {l : List α} {k : Nat} {x : α}, l[k]? = some x → l.Perm (x :: l.eraseIdx k)
  | [], k, x, h => by simp at h
  | y :: l, 0, x, h => by
    simp at h
    subst h
    exact List.Perm.refl _
  | y :: l, k + 1, x, h => by
    have ih := perm_erase (l := l) (k := k) (x := x) (by simpa using h)
    exact (ih.cons y).trans (List.Perm.swap x y _)
theorem map_erase {α β : Type} (f : α → β) : ∀ (l : List α) (k : Nat), (l.map f).eraseIdx k = (l.eraseIdx k).map f
  | [], _ => rfl
  | _ :: _, 0 => rfl
  | x :: l, k + 1 => by
    show f x :: (l.map f).eraseIdx k = f x :: (l.eraseIdx k).map f
    rw [map_erase f l k]
theorem seqIx {k n : Nat} (h : k < n) : seqIndex? (k : Int) n = some k := by
  simp [seqIndex?]
  omega
section
variable {P : Program} {w : World} {K : PySem.W.Frag} {mg : Str → Option Value} {base : Heap}
theorem dpNats {H : Hp} : ∀ ns : List Nat, DpAll K H (ns.map fun c => V.int (c : Nat)) (ns.map fun c => .int (c : Nat))
  | [] => .nil
  | _ :: ns => .cons (.int _) (dpNats ns)
end
end RS
set_option Elab.async false
set_option maxRecDepth 100000
set_option maxHeartbeats 4000000
namespace RS
open PySem PySem.Spec PyProof.Rows L2 GX
/-- a new object in a heap that differs by the drawer -/
theorem alX {B L e : Addr} {H H1 : Hp} {o : HO} (s : SameX B L H H1) (hb : BoxAt H B L) (b : BoxAt H1 B L) (he : H1 e = none) : SameX B L H (upd H1 e o) ∧ BoxAt (upd H1 e o) B L ∧ e ≠ B ∧ e ≠ L := by
  obtain ⟨n1, n2⟩ := b.nb he
  exact ⟨s.new (s.free hb he b), b.upd_ n1 n2, n1, n2⟩
section
variable {P : Program} {w : World} {K : PySem.W.Frag} {mg : Str → Option Value} {base : Heap}
theorem scLens : FnScope ["_law_box", "_law_most", "_law_found", "_law_k", "_law_some"] ["_law_box", "_law_most"] (defScope s__law_lengths) := ⟨rfl, rfl, rfl, by decide +kernel, rfl, by decide +kernel, by decide +kernel⟩
def spLens : Sp := fun vs H Q _ => ∃ (B L : Addr) (m : Nat), vs = [.ref B, .int (m : Nat)] ∧ BoxAt H B L ∧ 1 ≤ m ∧ m ≤ 40 ∧
  ∀ (H' : Hp) (a : Addr) (ls : List Nat), SameX B L H H' → BoxAt H' B L → OkLens ls → ls.length ≤ m → H a = none → H' a = some (.lst (ls.map fun n => V.int (n : Nat))) → Q (.ref a) H'
theorem lens_ok {c : Addr} (D : DefAt K mg "_law_lengths" s__law_lengths c) (T : Txt K mg) (cT : Cal P w K mg base CX0 1 "_law_take" ["_law_box", "_law_many"] spTake) : Cal P w K mg base CX0 2 "_law_lengths" ["_law_box", "_law_most"] spLens := by
  have sc := scLens
  refine def_ok0 D sc (fun vs H Q E h => ?_) (fun _ _ _ _ _ _ us hl => match us, hl with | [_, _], _ => rfl) (fun f A outer s H vs Q E hr h => ?_)
  · obtain ⟨B, L, m, rfl, _⟩ := h
    rfl
  · obtain ⟨B, L, m, rfl, hb, m1, m40, k⟩ := h
    refine ⟨_, (pss_cons (ps_set (i := 2) sc.nd rfl (Or.inl rfl) (pe_lst pa_nil)) (pss_cons (ps_for PassesOwn.never rfl (pi_range1 (by rfl) T.range (pa_cons (pe_op op_add pe_int (pe_c cT hr (by decide) (by rfl) pass0 (pa_cons (pv 0) (pa_cons (pv 1) pa_nil)))) pa_nil)) (pg_name (i := 3) sc.nd rfl (Or.inl rfl)) (pss_cons (ps_set (i := 4) sc.nd rfl (Or.inl rfl) (pe_lst (pa_cons (pe_op op_add pe_int (pe_c cT hr (by decide) (by rfl) pass0 (pa_cons (pv 0) (pa_cons pe_int pa_nil)))) (pa_cons (pe_op op_add pe_int (pe_c cT hr (by decide) (by rfl) pass0 (pa_cons (pv 0) (pa_cons pe_int pa_nil)))) (pa_cons (pe_op op_add (pv 3) pe_int) (pa_cons (pe_op op_add pe_int (pe_c cT hr (by decide) (by rfl) pass0 (pa_cons (pv 0) (pa_cons (pe_op op_pow pe_int pe_int) pa_nil)))) (pa_cons (pe_op op_pow pe_int pe_int) pa_nil))))))) (pss_one (ps_expr (pe_bm PySem.F.plainAttrs_list PySem.F.slot_list_append PySem.F.type_list_append mt_append (pv 2) (pa_cons (pe_ix ix_list (pv 4) (pe_ix ix_list (pe_lst (pa_cons pe_int (pa_cons pe_int (pa_cons pe_int (pa_cons pe_int (pa_cons pe_int (pa_cons pe_int pa_nil))))))) (pe_c cT hr (by decide) (by rfl) pass0 (pa_cons (pv 0) (pa_cons pe_int pa_nil))) (fun _ _ => rfl)) (fun _ _ => rfl)) pa_nil)))))) (pss_one (ps_ret (pv 2))))), ?_⟩
    refine ⟨Nat.zero_le _, fun F hF => ?_⟩
    obtain ⟨s0, b0, nFB, nFL⟩ := alX (o := .lst []) SameX.refl hb hb hF
    refine ⟨_, rfl, _, rfl, B, L, _, rfl, b0, by omega, by omega, fun H1 n s1 b1 n0 n1 => ?_⟩
    refine ⟨_, _, rfl, rfl, _, rfl, by omega, by omega, ?_⟩
    rw [show (1 + n).toNat = n.toNat + 1 by omega]
    have hF1 : H1 F = some (.lst []) := s1 _ _ nFB nFL upd_same
    have sA := s0.trans s1
    refine for_range (fun i σ H' => ∃ (v3 v4 : Option V) (ls : List Nat), σ = [some (.ref B), some (.int (m : Nat)), some (.ref F), v3, v4] ∧ SameX B L H H' ∧ BoxAt H' B L ∧ H' F = some (.lst (ls.map fun n => V.int (n : Nat))) ∧ ls.length = i ∧ ∀ x ∈ ls, 1 ≤ x ∧ x ≤ 1000000)
      ⟨none, none, [], rfl, sA, b1, hF1, rfl, (fun _ h => nomatch h)⟩ ?_ ?_
    · rintro i σ H2 hi ⟨v3, v4, ls, rfl, sm, b2, hF2, li, ok⟩
      have pw : ((10 : Int) ^ (6 : Int).toNat) = 1000000 := by decide +kernel
      refine ⟨_, rfl, B, L, 9, rfl, b2, by decide, by decide, fun H3 x1 s3 b3 p0 p1 => ?_⟩
      refine ⟨_, _, rfl, rfl, _, rfl, B, L, 2, rfl, b3, by decide, by decide, fun H4 x2 s4 b4 q0 q1 => ?_⟩
      refine ⟨_, _, rfl, rfl, _, rfl, _, _, rfl, rfl, _, rfl, _, _, rfl, rfl, ⟨by decide, by decide, by decide⟩, B, L, _, rfl, b4, by rw [pw]; decide, by rw [pw]; decide, fun H5 x3 s5 b5 r0 r1 => ?_⟩
      refine ⟨_, _, rfl, rfl, _, _, rfl, rfl, ⟨by decide, by decide, by decide⟩, by show 5 ≤ sizeLine; decide, fun e he => ?_⟩
      have sB := ((sm.trans s3).trans s4).trans s5
      obtain ⟨s6, b6, e1, e2⟩ := alX (o := .lst [.int (1 + x1), .int (1 + x2), .int (0 + (i : Nat) + 1), .int (1 + x3), .int ((10 : Int) ^ (6 : Int).toNat)]) sB hb b5 he
      have hF5 := s5 _ _ nFB nFL (s4 _ _ nFB nFL (s3 _ _ nFB nFL hF2))
      have neF : F ≠ e := fun z => by rw [← z, hF5] at he; cases he
      have hF6 : upd H5 e (.lst [.int (1 + x1), .int (1 + x2), .int (0 + (i : Nat) + 1), .int (1 + x3), .int ((10 : Int) ^ (6 : Int).toNat)]) F = some (.lst (ls.map fun n => V.int (n : Nat))) := (upd_ne neF).trans hF5
      have he6 : upd H5 e (.lst [.int (1 + x1), .int (1 + x2), .int (0 + (i : Nat) + 1), .int (1 + x3), .int ((10 : Int) ^ (6 : Int).toNat)]) e = some (.lst [.int (1 + x1), .int (1 + x2), .int (0 + (i : Nat) + 1), .int (1 + x3), .int ((10 : Int) ^ (6 : Int).toNat)]) := upd_same
      generalize upd H5 e (.lst [.int (1 + x1), .int (1 + x2), .int (0 + (i : Nat) + 1), .int (1 + x3), .int ((10 : Int) ^ (6 : Int).toNat)]) = H6 at s6 b6 hF6 he6 ⊢
      refine ⟨_, rfl, .inl ⟨rfl, _, SqL.of hF6⟩, _, rfl, by show 6 ≤ sizeLine; decide, fun g hg => ?_⟩
      obtain ⟨s7, b7, g1, g2⟩ := alX (o := .lst [.int 0, .int 0, .int 1, .int 2, .int 3, .int 4]) s6 hb b6 hg
      refine ⟨_, rfl, B, L, 6, rfl, b7, by decide, by decide, fun H8 x4 s8 b8 t0 t1 => ?_⟩
      have ng : F ≠ g := fun z => by rw [← z, hF6] at hg; cases hg
      have nge : e ≠ g := fun z => by rw [← z, he6] at hg; cases hg
      have hF8 := s8 _ _ nFB nFL ((upd_ne ng).trans hF6)
      have he8 := s8 _ _ e1 e2 ((upd_ne nge).trans he6)
      have hg8 := s8 _ _ g1 g2 upd_same
      obtain ⟨j, hj, j4⟩ : ∃ j : Nat, atI [V.int 0, V.int 0, V.int 1, V.int 2, V.int 3, V.int 4] x4 = some (.int (j : Nat)) ∧ j < 5 := by
        rcases (by omega : x4 = 0 ∨ x4 = 1 ∨ x4 = 2 ∨ x4 = 3 ∨ x4 = 4 ∨ x4 = 5) with e | e | e | e | e | e <;> subst e
        · exact ⟨0, atI_nat (j := 0) rfl, by decide⟩
        · exact ⟨0, atI_nat (j := 1) rfl, by decide⟩
        · exact ⟨1, atI_nat (j := 2) rfl, by decide⟩
        · exact ⟨2, atI_nat (j := 3) rfl, by decide⟩
        · exact ⟨3, atI_nat (j := 4) rfl, by decide⟩
        · exact ⟨4, atI_nat (j := 5) rfl, by decide⟩
      obtain ⟨y, hy, y1, y2⟩ : ∃ y : Nat, [V.int (1 + x1), .int (1 + x2), .int (0 + (i : Nat) + 1), .int (1 + x3), .int ((10 : Int) ^ (6 : Int).toNat)][j]? = some (.int (y : Nat)) ∧ 1 ≤ y ∧ y ≤ 1000000 := by
        rcases (by omega : j = 0 ∨ j = 1 ∨ j = 2 ∨ j = 3 ∨ j = 4) with e | e | e | e | e <;> subst e
        · exact ⟨(1 + x1).toNat, congrArg (fun z => some (V.int z)) (Int.toNat_of_nonneg (by omega)).symm, by omega, by omega⟩
        · exact ⟨(1 + x2).toNat, congrArg (fun z => some (V.int z)) (Int.toNat_of_nonneg (by omega)).symm, by omega, by omega⟩
        · exact ⟨i + 1, congrArg (fun z => some (V.int z)) (by omega), by omega, by omega⟩
        · exact ⟨(1 + x3).toNat, congrArg (fun z => some (V.int z)) (Int.toNat_of_nonneg (by omega)).symm, by omega, by omega⟩
        · exact ⟨1000000, congrArg (fun z => some (V.int z)) pw, by decide, by decide⟩
      refine ⟨g, _, x4, _, rfl, rfl, SqL.of hg8, hj, e, _, _, _, rfl, rfl, SqL.of he8, atI_nat hy, ?_⟩
      refine ⟨F, _, _, rfl, rfl, hF8, small1000 (by rw [List.length_map]; omega), ?_⟩
      refine ⟨_, _, ls ++ [y], rfl, (s7.trans s8).new hF, b8.upd_ nFB nFL, ?_, by rw [List.length_append, li]; rfl, fun x hx => ?_⟩
      · rw [upd_same, List.map_append]
        rfl
      · rcases List.mem_append.mp hx with hx | hx
        · exact ok x hx
        · rw [List.mem_singleton.mp hx]
          exact ⟨y1, y2⟩
    · rintro σ H2 ⟨v3, v4, ls, rfl, sm, b2, hF2, li, ok⟩
      exact ⟨_, rfl, k H2 F ls sm b2 ⟨by omega, by omega, ok⟩ (by omega) hF hF2⟩
end
end RS
set_option Elab.async false
set_option maxRecDepth 100000
set_option maxHeartbeats 8000000
namespace RS
open PySem PySem.Spec PyProof.Rows L2 GX
section
variable {X : Cx} {o e : Expr} {es : List Expr} {to : TE} {t : TA} {name : Str} {apos cpos : Pos} {T id : String} {r : V → List V → Hp → VK → Prop} {K : PySem.W.Frag}
/-- a method called where the frame's own facts are named -/
theorem pe_bmC (eK : X.K = K) (pa : PlainAttrs T) (slot : Slot T name id) (hty : typeOf (.builtin id) = pure (.type "method_descriptor")) (hm : MtR X id r) (ho : PE X o to) (ha : PA X (e :: es) t) (h1 : attributeBase o name X.env (eval o X.env) = eval o X.env := by rfl) (h2 : ((backTo cpos (starEach (e :: es) X.env)).all (fun x => !x.1) && (backToKw cpos (keywordEach [] X.env)).all (fun x => x.1.isSome) && decide ((e :: es).length + ([] : List Keyword).length + (if ([] : List Keyword).isEmpty then 0 else 1) < 30)) = true := by rfl) (h3 : (apos.endLine == cpos.line) = true := by rfl) (h4 : starEach (e :: es) X.env = (false, eval e X.env) :: starEach es X.env := by rfl) (h5 : (backTo cpos (starEach es X.env)).any (·.1) = false := by rfl) : PE X (.Call (.Attribute o name apos) (e :: es) [] cpos) (tBM K T r to t) := by
  subst eK
  exact pe_bm pa slot hty hm ho ha h1 h2 h3 h4 h5
theorem len_seqC (eK : X.K = K) : CallR X (.builtin "len") (fun xs H Q => ∃ p ys, xs = [.ref p] ∧ (SqL K H p ys ∨ SqT K H p ys) ∧ Q (.int ys.length) H) := by
  subst eK
  exact call_len_seq
end
theorem dpAll_tk {K : PySem.W.Frag} {H : Hp} : ∀ {xs : List V} {ds : List PyData}, DpAll K H xs ds → ∀ k : Nat, DpAll K H (xs.take k) (ds.take k) ∧ DpAll K H (xs.drop k) (ds.drop k)
  | _, _, .nil, k => by
    rw [List.take_nil, List.take_nil, List.drop_nil, List.drop_nil]
    exact ⟨.nil, .nil⟩
  | _, _, .cons h t, 0 => ⟨.nil, .cons h t⟩
  | _, _, .cons h t, k + 1 => ⟨.cons h (dpAll_tk t k).1, (dpAll_tk t k).2⟩
theorem dpAll_er {K : PySem.W.Frag} {H : Hp} : ∀ {xs : List V} {ds : List PyData}, DpAll K H xs ds → ∀ k : Nat, DpAll K H (xs.eraseIdx k) (ds.eraseIdx k)
  | _, _, .nil, _ => .nil
  | _, _, .cons _ t, 0 => t
  | _, _, .cons h t, k + 1 => .cons h (dpAll_er t k)
theorem leafs_nats : ∀ l : List Nat, leafs (l.map fun c => PyData.int (c : Nat)) = l
  | [] => rfl
  | c :: l => by
    show [((c : Nat) : Int).toNat] ++ leafs (l.map fun c => PyData.int (c : Nat)) = c :: l
    rw [leafs_nats l, Int.toNat_natCast]
    rfl
theorem leafs_perm {xs ys : List PyData} (p : xs.Perm ys) : (leafs xs).Perm (leafs ys) := by
  induction p with
  | nil => exact List.Perm.refl _
  | cons x _ ih => exact ih.append_left (leaf x)
  | swap x y l =>
    show (leaf y ++ (leaf x ++ leafs l)).Perm (leaf x ++ (leaf y ++ leafs l))
    rw [← List.append_assoc, ← List.append_assoc]
    exact List.perm_append_comm.append_right _
  | trans _ _ h1 h2 => exact h1.trans h2
theorem okPs_perm {w : Nat} {xs ys : List PyData} (p : xs.Perm ys) (h : okPs w xs) : okPs w ys := okPs_iff.mpr fun d hd => okPs_iff.mp h d (p.mem_iff.mpr hd)
section
variable {P : Program} {w : World} {K : PySem.W.Frag} {mg : Str → Option Value} {base : Heap}
theorem scLPlan : FnScope ["_law_box", "_law_runs", "_law_ways", "_law_left", "_law_many", "_law_some", "_law_k"] ["_law_box", "_law_runs", "_law_ways"] (defScope s__law_plan) := ⟨rfl, rfl, rfl, by decide +kernel, rfl, by decide +kernel, by decide +kernel⟩
def spLPlan (K : PySem.W.Frag) : Sp := fun vs H Q _ => ∃ (B L R : Addr) (n m : Nat), vs = [.ref B, .ref R, .int (m : Nat)] ∧ BoxAt H B L ∧ 2 ≤ m ∧ m ≤ 6 ∧ 1 ≤ n ∧ n ≤ 40 ∧ H R = some (.lst ((List.range n).map fun c => V.int (c : Nat))) ∧
  ∀ (H' : Hp) (v : V) (d : PyData), SameX B L H H' → BoxAt H' B L → Dp K H' v d → OkPlan n m d → Q v H'
theorem lplan_ok {c : Addr} (D : DefAt K mg "_law_plan" s__law_plan c) (T : Txt K mg) (cT : Cal P w K mg base CX0 1 "_law_take" ["_law_box", "_law_many"] spTake) : Cal P w K mg base CX0 2 "_law_plan" ["_law_box", "_law_runs", "_law_ways"] (spLPlan K) := by
  have sc := scLPlan
  refine def_ok0 D sc (fun vs H Q E h => ?_) (fun _ _ _ _ _ _ us hl => match us, hl with | [_, _, _], _ => rfl) (fun f A outer s H vs Q E hr h => ?_)
  · obtain ⟨B, L, R, n, m, rfl, _⟩ := h
    rfl
  · obtain ⟨B, L, R, n, m, rfl, hb, m2, m6, n1, n40, hR, k⟩ := h
    refine ⟨_, (pss_cons (ps_set (i := 3) sc.nd rfl (Or.inr rfl) (pe_callTy call_list_of (by rfl) T.list_ (by decide +kernel) (pa_cons (pv 1) pa_nil))) (pss_cons (ps_while PassesOwn.never (pt_cmpR op_gt (pe_callB call_len_seq (by rfl) T.len PySem.boot_len (pa_cons (pv 3) pa_nil)) pe_int (nomark _)) (pss_cons (ps_set (i := 4) sc.nd rfl (Or.inl rfl) (pe_callB (call_min2 rfl) (by rfl) T.min boot_min (pa_cons (pe_callB call_len_seq (by rfl) T.len PySem.boot_len (pa_cons (pv 3) pa_nil)) (pa_cons (pe_op op_add pe_int (pe_c cT hr (by decide) (by rfl) pass0 (pa_cons (pv 0) (pa_cons (pe_op op_sub (pv 2) pe_int) pa_nil)))) pa_nil)))) (pss_cons (ps_setLc (own := [("_law_k", 6)]) (tt := tYes) rfl sc.nd (i := 5) rfl rfl (by rfl) (pi_range1 (by rfl) T.range (pa_cons (pv 4) pa_nil)) (blkOk_by (N := ["_law_box", "_law_runs", "_law_ways", "_law_left", "_law_many", "_law_some", "_law_k"]) (sc := defScope s__law_plan) (own := [("_law_k", 6)]) (by decide +kernel)) (fun _ _ _ _ _ => (pg_name (i := 6) sc.nd rfl (Or.inl rfl))) (fun _ _ _ _ _ => pts_nil) (fun _ _ _ _ _ => (pe_bmC (K := K) rfl PySem.F.plainAttrs_list PySem.F.slot_list_pop PySem.F.type_list_pop mt_popAt (pv 3) (pa_cons (pe_c cT hr (by decide) (by rfl) pass0 (pa_cons (pv 0) (pa_cons (pe_callB (len_seqC (K := K) rfl) (by rfl) T.len PySem.boot_len (pa_cons (pv 3) pa_nil)) pa_nil))) pa_nil)))) (pss_one (ps_expr (pe_bm PySem.F.plainAttrs_list PySem.F.slot_list_insert PySem.F.type_list_insert mt_insert (pv 3) (pa_cons (pe_c cT hr (by decide) (by rfl) pass0 (pa_cons (pv 0) (pa_cons (pe_op op_add (pe_callB call_len_seq (by rfl) T.len PySem.boot_len (pa_cons (pv 3) pa_nil)) pe_int) pa_nil))) (pa_cons (pe_callTy call_tuple_of (by rfl) T.tuple_ (by decide +kernel) (pa_cons (pv 5) pa_nil)) pa_nil)))))))) (pss_one (ps_ret (pe_ix ix_list (pv 3) pe_int (fun _ _ => rfl)))))), ?_⟩
    refine ⟨_, rfl, R, _, rfl, .inl (SqL.of hR), fun Lf hLf => ?_⟩
    obtain ⟨s0, b0, nfB, nfL⟩ := alX (o := .lst ((List.range n).map fun c => V.int (c : Nat))) SameX.refl hb hb hLf
    refine ⟨fun mm σ H' => ∃ (v4 v5 : Option V) (xs : List V) (ds : List PyData), σ = [some (.ref B), some (.ref R), some (.int (m : Nat)), some (.ref Lf), v4, v5, none] ∧ SameX B L H H' ∧ BoxAt H' B L ∧ H' Lf = some (.lst xs) ∧ DpAll K H' xs ds ∧ okPs m ds ∧ (leafs ds).Perm (List.range n) ∧ 1 ≤ xs.length ∧ mm = xs.length,
      ⟨_, none, none, _, (List.range n).map fun c => .int (c : Nat), rfl, s0, b0, upd_same, dpNats _, ?_, ?_, ?_, rfl⟩, ?_⟩
    · refine okPs_iff.mpr fun d hd => ?_
      obtain ⟨c, hc, rfl⟩ := List.mem_map.mp hd
      have := List.mem_range.mp hc
      exact ⟨by omega, by omega⟩
    · rw [leafs_nats]
    · rw [List.length_map, List.length_range]
      exact n1
    rintro mm σ H1 ⟨v4, v5, xs, ds, rfl, s1, b1, hL, hd, okd, pm, x1, rfl⟩
    have lx : xs.length = ds.length := dpLen hd
    have ll := leafs_depth ds okd
    rw [pm.length_eq, List.length_range] at ll
    have lx40 : xs.length ≤ 40 := by omega
    refine ⟨_, rfl, Lf, _, rfl, .inl (SqL.of hL), _, _, rfl, rfl, _, rfl, ?_⟩
    by_cases hgt : xs.length > 1
    · refine iteT' (decide_eq_true (by omega)) ⟨_, fun _ _ h => h, ?_⟩
      refine ⟨_, rfl, Lf, _, rfl, .inl (SqL.of hL), _, rfl, _, rfl, _, _, rfl, rfl, B, L, _, rfl, b1, by omega, by omega, fun H2 x s2 b2 h0 h1 => ?_⟩
      refine ⟨_, _, rfl, rfl, _, _, rfl, ?_⟩
      obtain ⟨mn, emn, q2, qx, qm⟩ : ∃ mn : Nat, (if 2 + x < ((xs.length : Nat) : Int) then 2 + x else ((xs.length : Nat) : Int)) = (mn : Int) ∧ 2 ≤ mn ∧ mn ≤ xs.length ∧ mn ≤ m := by
        by_cases hx : 2 + x < ((xs.length : Nat) : Int)
        · exact ⟨(2 + x).toNat, by rw [if_pos hx]; omega, by omega, by omega, by omega⟩
        · exact ⟨xs.length, if_neg hx, by omega, Nat.le_refl _, by omega⟩
      rw [emn]
      have hL2 := s2 _ _ nfB nfL hL
      have nlds := okPs_noL ds okd
      have hd2 := dpAll_x b1 s2 _ nlds hd
      refine ⟨_, rfl, _, rfl, by omega, by omega, fun DD hD => ?_⟩
      rw [Int.toNat_natCast]
      have sH2 := s1.trans s2
      obtain ⟨s3, b3, nDB, nDL⟩ := alX (o := .lst []) sH2 hb b2 hD
      have hD0 := sH2.free hb hD b2
      have nLD : Lf ≠ DD := fun z => by rw [← z, hL2] at hD; cases hD
      refine lc_range (fun j H' => SameX B L H H' ∧ BoxAt H' B L ∧ ∃ (xl yl : List V) (dl el : List PyData), H' Lf = some (.lst xl) ∧ DpAll K H' xl dl ∧ okPs m dl ∧ H' DD = some (.lst yl) ∧ DpAll K H' yl el ∧ okPs m el ∧ el.length = j ∧ dl.length + j = ds.length ∧ (leafs dl ++ leafs el).Perm (List.range n))
        ⟨s3, b3, xs, [], ds, [], (upd_ne nLD).trans hL2, dpAll_same (fun b o e => by rw [upd_ne (ne_of_none e hD)]; exact e) _ hd2, okd, upd_same, .nil, trivial, rfl, rfl, by simpa [leafs] using pm⟩ ?_ ?_
      · rintro j H3 hj ⟨s4, b4, xl, yl, dl, el, hl, hdl, okl, hDD, hel, oke, lel, ldl, pme⟩
        have lxl := dpLen hdl
        refine ⟨rfl, _, rfl, .inl ⟨rfl, _, SqL.of hl⟩, _, rfl, _, rfl, Lf, _, rfl, .inl (SqL.of hl), B, L, _, rfl, b4, by omega, by omega, fun H4 kx s5 b5 g0 g1 => ?_⟩
        obtain ⟨kn, rfl⟩ : ∃ kn : Nat, kx = (kn : Int) := ⟨kx.toNat, by omega⟩
        have hkn : kn < xl.length := by omega
        have hkd : kn < dl.length := by omega
        have hl4 := s5 _ _ nfB nfL hl
        have hDD4 := s5 _ _ nDB nDL hDD
        have nll := okPs_noL dl okl
        have nle := okPs_noL el oke
        have hdl4 := dpAll_x b4 s5 _ nll hdl
        have hel4 := dpAll_x b4 s5 _ nle hel
        obtain ⟨v, ev, hv⟩ := dpGet' hdl4 (List.getElem?_eq_getElem hkd)
        have pe := perm_erase (List.getElem?_eq_getElem hkd)
        have okt := okPs_perm pe okl
        have nlt := okPs_noL _ okt
        refine ⟨Lf, _, (kn : Int), kn, v, rfl, rfl, hl4, by omega, by omega, seqIx hkn, ev, ?_⟩
        have lyl := dpLen hel
        have hDD5 : upd H4 Lf (.lst (xl.eraseIdx kn)) DD = some (.lst yl) := (upd_ne (Ne.symm nLD)).trans hDD4
        have oke2 : okPs m (el ++ [dl[kn]]) := okPs_app.mpr ⟨oke, okt.1, trivial⟩
        have okl2 : okPs m (dl.eraseIdx kn) := okt.2
        have lE := pe.length_eq
        rw [List.length_cons] at lE
        refine ⟨yl, hDD5, small1000 (by omega), ((s4.trans s5).new hLf).new hD0, (b5.upd_ nfB nfL).upd_ nDB nDL, xl.eraseIdx kn, yl ++ [v], dl.eraseIdx kn, el ++ [dl[kn]], (upd_ne nLD).trans upd_same, ?_, okl2, upd_same, ?_, oke2, by rw [List.length_append, lel]; rfl, by omega, ?_⟩
        · exact dpAll_upd hDD5 _ (okPs_noL _ okl2) (dpAll_upd hl4 _ (okPs_noL _ okl2) (dpAll_er hdl4 kn))
        · exact dpAll_upd hDD5 _ (okPs_noL _ oke2) (dpAll_upd hl4 _ (okPs_noL _ oke2) (dpApp hel4 (.cons hv .nil)))
        · refine List.Perm.trans ?_ pme
          rw [leafs_app]
          have p1 := leafs_perm pe
          have e1 : leafs (dl[kn] :: dl.eraseIdx kn) = leaf dl[kn] ++ leafs (dl.eraseIdx kn) := rfl
          have e2 : leafs [dl[kn]] = leaf dl[kn] := by
            show leaf dl[kn] ++ [] = _
            rw [List.append_nil]
          rw [e1] at p1
          rw [e2]
          refine List.Perm.trans ?_ (p1.symm.append_right _)
          rw [List.append_assoc]
          refine List.Perm.trans ?_ List.perm_append_comm
          rw [List.append_assoc]
      · rintro H3 ⟨s4, b4, xl, yl, dl, el, hl, hdl, okl, hDD, hel, oke, lel, ldl, pme⟩
        dsimp only [gName]
        have lxl := dpLen hdl
        refine ⟨_, rfl, .inl ⟨rfl, _, SqL.of hl⟩, _, rfl, _, rfl, Lf, _, rfl, .inl (SqL.of hl), _, _, rfl, rfl, B, L, _, rfl, b4, by omega, by omega, fun H5 kx s5 b5 g0 g1 => ?_⟩
        have hl5 := s5 _ _ nfB nfL hl
        have hDD5 := s5 _ _ nDB nDL hDD
        refine ⟨_, rfl, DD, yl, rfl, .inl ⟨SqL.of hDD5, fun tp htp => ?_⟩⟩
        have sP := s4.trans s5
        have sTP : Same H5 (upd H5 tp (.tup yl)) := fun b o e => by
          rw [upd_ne (ne_of_none e htp)]
          exact e
        obtain ⟨s6, b6, _, _⟩ := alX (o := .tup yl) sP hb b5 htp
        have hl6 := sTP _ _ hl5
        refine ⟨Lf, xl, kx, .ref tp, rfl, rfl, hl6, small1000 (by omega), g0, by omega, ?_⟩
        have dl5 := dpAll_same sTP _ (dpAll_x b4 s5 _ (okPs_noL _ okl) hdl)
        have el5 := dpAll_same sTP _ (dpAll_x b4 s5 _ (okPs_noL _ oke) hel)
        obtain ⟨t1, t2⟩ := dpAll_tk dl5 kx.toNat
        have okt : okP m (.tuple el) := ⟨by omega, by omega, oke⟩
        have pq : (dl.take kx.toNat ++ [PyData.tuple el] ++ dl.drop kx.toNat).Perm (dl ++ [PyData.tuple el]) := by
          rw [List.append_assoc]
          have q2 : (dl.take kx.toNat ++ ([PyData.tuple el] ++ dl.drop kx.toNat)).Perm (dl.take kx.toNat ++ (dl.drop kx.toNat ++ [PyData.tuple el])) := List.perm_append_comm.append_left _
          rw [← List.append_assoc (dl.take kx.toNat) (dl.drop kx.toNat), List.take_append_drop] at q2
          exact q2
        have okn : okPs m (dl.take kx.toNat ++ [PyData.tuple el] ++ dl.drop kx.toNat) := okPs_perm pq.symm (okPs_app.mpr ⟨okl, okt, trivial⟩)
        have ln : (dl.take kx.toNat ++ [PyData.tuple el] ++ dl.drop kx.toNat).length = dl.length + 1 := by rw [pq.length_eq, List.length_append, List.length_singleton]
        have hnew : DpAll K (upd (upd H5 tp (.tup yl)) Lf (.lst (xl.take kx.toNat ++ [.ref tp] ++ xl.drop kx.toNat))) (xl.take kx.toNat ++ [.ref tp] ++ xl.drop kx.toNat) (dl.take kx.toNat ++ [PyData.tuple el] ++ dl.drop kx.toNat) :=
          dpAll_upd hl6 _ (okPs_noL _ okn) (dpApp (dpApp t1 (.cons (.tup (SqT.of upd_same) el5) .nil)) t2)
        have lnew := dpLen hnew
        refine ⟨_, ?_, _, _, _, _, rfl, s6.new hLf, b6.upd_ nfB nfL, upd_same, hnew, okn, ?_, ?_, rfl⟩
        · rw [lnew, ln]
          omega
        · have p1 := leafs_perm pq
          rw [leafs_app dl] at p1
          have e2 : leafs [PyData.tuple el] = leafs el := by
            show leafs el ++ [] = _
            rw [List.append_nil]
          rw [e2] at p1
          exact p1.trans pme
        · rw [lnew, ln]
          omega
    · refine iteF' (decide_eq_false (by omega)) ?_
      have lx1 : xs.length = 1 := by omega
      cases hd with
      | nil => simp at lx1
      | cons hv ht =>
        cases ht with
        | cons _ _ => simp at lx1
        | nil =>
          rename_i v d
          have pm' : (leaf d).Perm (List.range n) := by simpa [leafs] using pm
          exact ⟨_, rfl, Lf, _, _, v, rfl, rfl, SqL.of hL, atI_nat (j := 0) rfl, k H1 v d s1 b1 hv ⟨okd.1, pm'⟩⟩
end
end RS
set_option Elab.async false
set_option maxRecDepth 100000
set_option maxHeartbeats 4000000
namespace RS
open PySem PySem.Spec PyProof.Rows L2 GX
/-! ### how many rows a plan moves -/
def wts (L js : List Nat) : Nat := (js.map fun j => L.getD j 0).sum
mutual
def costP (L : List Nat) : PyData → Nat
  | .tuple ds => costPs L ds + wts L (leafs ds)
  | _ => 0
def costPs (L : List Nat) : List PyData → Nat
  | [] => 0
  | d :: ds => costP L d + costPs L ds
end
theorem nsum_app (l m : List Nat) : (l ++ m).sum = l.sum + m.sum := by
  induction l with
  | nil => simp
  | cons x l ih => rw [List.cons_append, List.sum_cons, List.sum_cons, ih]; omega
theorem wts_app (L a b : List Nat) : wts L (a ++ b) = wts L a + wts L b := by
  unfold wts
  rw [List.map_append, nsum_app]
abbrev St2 := List (PyData × Nat)
def entD (q : PyData × Nat) : PyData := .tuple [q.1, .int (q.2 : Nat)]
def tot (L : List Nat) : St2 → Nat
  | [] => 0
  | q :: st => (costP L q.1 + q.2 * wts L (leaf q.1)) + tot L st
theorem tot_app (L : List Nat) : ∀ a b : St2, tot L (a ++ b) = tot L a + tot L b
  | [], b => by simp [tot]
  | q :: a, b => by
    show (costP L q.1 + q.2 * wts L (leaf q.1)) + tot L (a ++ b) = _
    rw [tot_app L a b]
    show _ = ((costP L q.1 + q.2 * wts L (leaf q.1)) + tot L a) + tot L b
    omega
theorem tot_in (L : List Nat) (e : Nat) : ∀ ds : List PyData, tot L (ds.map fun d => (d, e)) = costPs L ds + e * wts L (leafs ds)
  | [] => by simp [tot, costPs, leafs, wts]
  | d :: ds => by
    show (costP L d + e * wts L (leaf d)) + tot L (ds.map fun d => (d, e)) = (costP L d + costPs L ds) + e * wts L (leaf d ++ leafs ds)
    rw [tot_in L e ds, wts_app, Nat.mul_add]
    omega
section
variable {P : Program} {w : World} {K : PySem.W.Frag} {mg : Str → Option Value} {base : Heap}
theorem scHow : FnScope ["runs", "ways"] ["runs", "ways"] (defScope s_how_many) := ⟨rfl, rfl, rfl, by decide +kernel, rfl, by decide +kernel, by decide +kernel⟩
def spHow : Sp := fun vs H Q _ => ∃ (n w : Nat), vs = [.int (n : Nat), .int (w : Nat)] ∧ 2 ≤ n ∧ 2 ≤ w ∧ w ≤ 6 ∧ Q (.int ((2 + (n - 2) % (w - 1) : Nat))) H
theorem how_many_ok {c : Addr} (D : DefAt K mg "how_many" s_how_many c) (T : Txt K mg) : Cal P w K mg base CX0 1 "how_many" ["runs", "ways"] spHow := by
  have sc := scHow
  obtain ⟨tA, hA⟩ := T.leastw
  refine def_ok0 D sc (fun vs H Q E h => ?_) (fun _ _ _ _ _ _ us hl => match us, hl with | [_, _], _ => rfl) (fun f A outer s H vs Q E hr h => ?_)
  · obtain ⟨n, w, rfl, _⟩ := h
    rfl
  · obtain ⟨n, w, rfl, n2, w2, w6, k⟩ := h
    refine ⟨_, (pss_one (ps_ret (pe_op op_add (pe_glob (v := V.int 2) (by rfl) hA ⟨_, rfl⟩) (pe_op op_mod (pe_op op_sub (pv 0) (pe_glob (v := V.int 2) (by rfl) hA ⟨_, rfl⟩)) (pe_op op_sub (pv 1) pe_int))))), ?_⟩
    refine ⟨_, rfl, _, _, rfl, rfl, _, rfl, _, _, rfl, rfl, _, _, rfl, rfl, by show (0 : Int) < (w : Int) - 1; omega, _, _, rfl, rfl, ?_⟩
    have e : (2 : Int) + ((n : Int) - 2) % ((w : Int) - 1) = ((2 + (n - 2) % (w - 1) : Nat) : Int) := by
      rw [show (n : Int) - 2 = ((n - 2 : Nat) : Int) by omega, show (w : Int) - 1 = ((w - 1 : Nat) : Int) by omega, ← Int.natCast_emod]
      omega
    rw [← e] at k
    exact k
theorem scCost : FnScope ["lengths", "ways", "plan", "moved", "left", "part", "merges", "inner"] ["lengths", "ways", "plan"] (defScope s_cost) := ⟨rfl, rfl, rfl, by decide +kernel, rfl, by decide +kernel, by decide +kernel⟩
def spCost (K : PySem.W.Frag) (p : Addr) : Sp := fun vs H Q _ => ∃ (vl vp : V) (ls : List Nat) (n : Nat) (d : PyData), vs = [vl, .int (n : Nat), vp] ∧ Dp K H vl (lensD ls) ∧ OkLens ls ∧ 2 ≤ n ∧ n ≤ 6 ∧ Dp K H vp d ∧ OkPlan ls.length n d ∧ Tab H p ∧ ∀ H', Same H H' → Q (.int (costP ls d : Nat)) H'
theorem cost_ok {c p : Addr} (D : DefAt K mg "cost" s_cost c) (T : Txt K mg) (cM : Cal P w K mg base CX0 4 "check_merging" ["lengths", "ways"] (spCheckMerging K p)) (cP : Cal P w K mg base CX0 2 "check_plan" ["lengths", "ways", "plan"] (spCheckPlan K)) :
    Cal P w K mg base CX0 5 "cost" ["lengths", "ways", "plan"] (spCost K p) := by
  have sc := scCost
  refine def_ok0 D sc (fun vs H Q E h => ?_) (fun _ _ _ _ _ _ us hl => match us, hl with | [_, _, _], _ => rfl) (fun f A outer s H vs Q E hr h => ?_)
  · obtain ⟨vl, vp, ls, n, d, rfl, _⟩ := h
    rfl
  · obtain ⟨vl, vp, ls, n, d, rfl, hl, okl, n2, n6, hp, ok, ht, k⟩ := h
    refine ⟨_, (pss_cons (ps_expr (pe_c cM hr (by decide) (by rfl) pass0 (pa_cons (pv 0) (pa_cons (pv 1) pa_nil)))) (pss_cons (ps_expr (pe_c cP hr (by decide) (by rfl) pass0 (pa_cons (pv 0) (pa_cons (pv 1) (pa_cons (pv 2) pa_nil))))) (pss_cons (ps_par (i := 3) (j := 4) rfl sc.nd rfl rfl (by decide) rfl rfl (pa_cons pe_int (pa_cons (pe_lst (pa_cons (pe_tup (pa_cons (pv 2) (pa_cons pe_int pa_nil))) pa_nil)) pa_nil)) (by rfl)) (pss_cons (ps_while PassesOwn.never (pt_truth (pv 4) (by intro _; rfl)) (pss_cons (ps_asg (pe_bm0 PySem.F.plainAttrs_list PySem.F.slot_list_pop PySem.F.type_list_pop mt_pop (pv 4)) (pg_tup (by rfl) (pgs_cons (pg_name (i := 5) sc.nd rfl (Or.inl rfl)) (pgs_cons (pg_name (i := 6) sc.nd rfl (Or.inr rfl)) pgs_nil)))) (pss_one (ps_if (pt_val (pe_callB call_isiD (by rfl) T.isinstance (by decide +kernel) (pa_cons (pv 5) (pa_cons (pe_bltn (v := V.ty "tuple") (u := Value.type "tuple") (by rfl) T.tuple_ (by decide +kernel) rfl) pa_nil)))) (pss_one (ps_expr (pe_bm PySem.F.plainAttrs_list PySem.F.slot_list_extend PySem.F.type_list_extend mt_extend (pv 4) (pa_cons (pe_lc (own := [("inner", 7)]) (tt := tYes)  rfl sc.nd (pi_tup (pv 5)) (blkOk_by (N := ["lengths", "ways", "plan", "moved", "left", "part", "merges", "inner"]) (sc := defScope s_cost) (own := [("inner", 7)]) (by decide +kernel)) (fun _ _ _ _ _ => (pg_name (i := 7) sc.nd rfl (Or.inl rfl))) (fun _ _ _ _ _ => pts_nil) (fun _ _ _ _ _ => (pe_tup (pa_cons (pv 7) (pa_cons (pe_op op_add (pv 6) pe_int) pa_nil))))) pa_nil)))) (pss_one (ps_aug (i := 3) sc.nd rfl (Or.inl rfl) (pe_op op_mul (pv 6) (pe_ix ixD (pv 0) (pv 5) (fun _ _ => rfl))) ip_add)))))) (pss_one (ps_ret (pv 3))))))), ?_⟩
    have l40 := okl.most
    have ll : (leaf d).length ≤ 40 := by rw [ok.all.length_eq, List.length_range]; exact l40
    refine ⟨_, rfl, _, rfl, vl, ls, _, rfl, hl, okl, by omega, by omega, ht, fun H1 s1 => ?_⟩
    refine ⟨_, rfl, _, rfl, _, rfl, vl, vp, ls, n, d, rfl, dp_same s1 _ hl, dp_same s1 _ hp, ok, l40, n6, fun H2 s2 => ?_⟩
    have s12 := s1.trans s2
    refine ⟨_, rfl, by show 2 ≤ sizeLine; decide, fun t0 ht0 => ⟨by show 1 ≤ sizeLine; decide, fun S hS0 => ⟨_, _, rfl, ?_⟩⟩⟩
    have sT : Same H2 (upd H2 t0 (.tup [vp, .int 0])) := fun b o e => by
      rw [upd_ne (ne_of_none e ht0)]
      exact e
    have sS : Same H2 (upd (upd H2 t0 (.tup [vp, .int 0])) S (.lst [.ref t0])) := fun b o e => by
      rw [upd_ne (ne_of_none (sT _ _ e) hS0)]
      exact sT _ _ e
    have hS2 : H2 S = none := upd_no hS0
    have nSt : S ≠ t0 := fun z => by rw [z, upd_same] at hS0; cases hS0
    refine ⟨fun m σ H' => ∃ (xs : List V) (st : St2) (mv : Nat) (v5 v6 : Option V), σ = [some vl, some (.int (n : Nat)), some vp, some (.int (mv : Nat)), some (.ref S), v5, v6, none] ∧ Same H2 H' ∧ H' S = some (.lst xs) ∧ DpAll K H' xs (st.map entD) ∧
      okPs n (st.map (·.1)) ∧ (leafs (st.map (·.1))).length ≤ 40 ∧ (∀ j ∈ leafs (st.map (·.1)), j < ls.length) ∧ mv + tot ls st = costP ls d ∧ m = sizePs (st.map (·.1)),
      ⟨_, _, [(d, 0)], 0, none, none, rfl, sS, upd_same, ?_, ⟨ok.ok, trivial⟩, ?_, ?_, ?_, rfl⟩, ?_⟩
    · exact .cons (.tup (SqT.of ((upd_ne (Ne.symm nSt)).trans upd_same)) (.cons (dp_same (s12.trans sS) _ hp) (.cons (.int _) .nil))) .nil
    · show (leaf d ++ []).length ≤ 40
      rw [List.append_nil]
      exact ll
    · intro j hj
      have hj' : j ∈ leaf d ++ [] := hj
      rw [List.append_nil] at hj'
      exact List.mem_range.mp (ok.all.mem_iff.mp hj')
    · show 0 + ((costP ls d + 0 * wts ls (leaf d)) + 0) = _
      omega
    rintro m σ H' ⟨xs, st, mv, v5, v6, rfl, sm, hS, hd, okd, l40', hj, em, rfl⟩
    refine ⟨_, rfl, !xs.isEmpty, .inl ⟨xs, SqL.of hS, rfl⟩, ?_⟩
    rcases xs.eq_nil_or_concat with rfl | ⟨xs0, y, rfl⟩
    · have e : st = [] := by
        cases st with
        | nil => rfl
        | cons _ _ => cases hd
      subst e
      refine iteF ⟨_, rfl, ?_⟩
      have e : mv = costP ls d := by simpa [tot] using em
      rw [e]
      exact k H' (s12.trans sm)
    · rw [List.concat_eq_append] at hS hd ⊢
      obtain ⟨ds0, e0, eds, hd0, he⟩ := dpAll_snoc hd
      obtain ⟨st0, q, rfl⟩ : ∃ st0 q, st = st0 ++ [q] := by
        rcases st.eq_nil_or_concat with rfl | ⟨st0, q, rfl⟩
        · simp at eds
        · exact ⟨st0, q, List.concat_eq_append⟩
      obtain ⟨e, g⟩ := q
      rw [List.map_append] at eds
      have eds2 : st0.map entD = ds0 ∧ entD (e, g) = e0 := by
        have := List.append_inj' eds rfl
        exact ⟨this.1, (List.cons.inj this.2).1⟩
      obtain ⟨rfl, rfl⟩ := eds2
      rw [List.map_append] at okd l40' hj
      obtain ⟨ok0, oke⟩ := okPs_app.mp okd
      have oke : okP n e := oke.1
      have nl0 : noLs (st0.map entD) = true := noLs_iff.mpr fun x hx => by
        obtain ⟨q, hq, rfl⟩ := List.mem_map.mp hx
        have : noL q.1 = true := okP_noL q.1 (okPs_iff.mp ok0 _ (List.mem_map.mpr ⟨q, hq, rfl⟩))
        simp [entD, noL, noLs, this]
      have nle : noL (entD (e, g)) = true := by
        have : noL e = true := okP_noL e oke
        simp [entD, noL, noLs, this]
      refine iteT' (by simp) ⟨_, fun _ _ h => h, ?_⟩
      refine ⟨_, rfl, .inl ⟨rfl, _, SqL.of hS⟩, S, _, y, rfl, rfl, hS, by simp, ?_⟩
      rw [List.dropLast_concat]
      have sm1 : ∀ u, Same H2 (upd H' S u) := fun u b o e => by
        rw [upd_ne (ne_of_none e hS2)]
        exact sm b o e
      have hd1 := dpAll_upd (u := xs0) hS _ nl0 hd0
      have he1 := dp_upd (u := xs0) hS _ nle he
      have hS1 : upd H' S (.lst xs0) S = some (.lst xs0) := upd_same
      generalize hH3 : upd H' S (.lst xs0) = H3 at hd1 he1 hS1 ⊢
      have sm3 : Same H2 H3 := by rw [← hH3]; exact sm1 _
      clear hH3 hS hd hd0 he sm1
      have lx0 : xs0.length = st0.length := by rw [dpLen hd1, List.length_map]
      have lf0 := leafs_depth _ ok0
      rw [List.length_map] at lf0
      rw [leafs_app, List.length_append] at l40'
      have e40 : (leaf e).length ≤ (leafs ([(e, g)].map (·.1))).length := by
        show _ ≤ (leaf e ++ []).length
        rw [List.append_nil]
        exact Nat.le_refl _
      have jd : ∀ j ∈ leafs (st0.map (·.1)), j < ls.length := fun j h => hj j (by rw [leafs_app]; exact List.mem_append_left _ h)
      have je : ∀ j ∈ leaf e, j < ls.length := fun j h => hj j (by
        rw [leafs_app]
        refine List.mem_append_right _ ?_
        show j ∈ leaf e ++ []
        rw [List.append_nil]
        exact h)
      have em2 : mv + (tot ls st0 + (costP ls e + g * wts ls (leaf e))) = costP ls d := by
        rw [tot_app] at em
        have : tot ls [(e, g)] = (costP ls e + g * wts ls (leaf e)) + 0 := rfl
        omega
      have sz : sizePs ((st0 ++ [(e, g)]).map (·.1)) = sizePs (st0.map (·.1)) + sizeP e := by
        rw [List.map_append, sizePs_app]
        rfl
      cases he1 with
      | @tup t zs _ hT hI =>
        cases hI with
        | cons hv hI =>
          cases hI with
          | cons hg hI =>
            cases hI
            cases hg
            refine ⟨t, _, rfl, hT, rfl, _, _, rfl, _, _, rfl, rfl, ?_⟩
            refine ⟨_, rfl, _, _, _, rfl, by simp, hv, _, rfl, ?_⟩
            rcases okP_cases oke with ⟨i, rfl, hi⟩ | ⟨es, rfl, e1, e2, oks⟩
            · cases hv
              have hil : i < ls.length := je i (by show i ∈ [((i : Nat) : Int).toNat]; simp)
              have hl3 := dp_same sm3 _ (dp_same s12 _ hl)
              have okn := okl.each ls[i] (List.getElem_mem hil)
              refine iteF ⟨_, rfl, _, rfl, _, rfl, _, rfl, lensD ls, _, (i : Nat), .int (ls[i] : Nat), hl3, rfl, rfl, atI_nat (by rw [List.getElem?_map, List.getElem?_eq_getElem hil]; rfl), fun w hw => ?_⟩
              cases hw
              refine ⟨_, _, rfl, rfl, .inr ⟨by omega, by omega⟩, _, _, rfl, rfl, ?_⟩
              refine ⟨_, ?_, xs0, st0, mv + g * ls[i], some (.int (i : Nat)), some (.int (g : Nat)), ?_, sm3, hS1, hd1, ok0, by omega, jd, ?_, rfl⟩
              · rw [sz]
                show sizePs (st0.map (·.1)) < sizePs (st0.map (·.1)) + 1
                omega
              · rfl
              · have e3 : wts ls (leaf (.int (i : Nat))) = ls[i] := by
                  show (List.map (fun j => ls.getD j 0) [((i : Nat) : Int).toNat]).sum = _
                  simp [List.getD, hil]
                have e4 : costP ls (.int (i : Nat)) = 0 := rfl
                rw [e3, e4] at em2
                omega
            · refine iteT ?_
              cases hv with
              | @tup a xa _ hA hIA =>
                have lxa : xa.length = es.length := dpLen hIA
                refine ⟨_, rfl, .inl ⟨rfl, _, SqL.of hS1⟩, _, rfl, a, rfl, ⟨_, hA⟩, fun DD hD => ?_⟩
                have nSD : S ≠ DD := fun z => by rw [← z, hS1] at hD; cases hD
                refine lc_tup (K := K) (a := a) (xs := xa) (fun j H5 => Same H3 H5 ∧ ∃ zs, H5 DD = some (.lst zs) ∧ DpAll K H5 zs (((es.take j).map fun d => (d, g + 1)).map entD)) ⟨fun b o e => by rw [upd_ne (ne_of_none e hD)]; exact e, [], upd_same, .nil⟩ (fun j H5 _ h => sqT_same h.1 hA) ?_ ?_
                · rintro j x H5 hx ⟨sm5, zs, hDD, hz⟩
                  obtain ⟨u, eu, hu⟩ := dpGet hIA hx
                  have hu5 := dp_same sm5 _ hu
                  have lz : zs.length = j := by
                    rw [dpLen hz, List.length_map, List.length_map, List.length_take]
                    have := (List.getElem?_eq_some_iff.mp eu).1
                    omega
                  refine ⟨rfl, _, rfl, _, rfl, _, _, rfl, rfl, by show 2 ≤ sizeLine; decide, fun pt hpt => ?_⟩
                  have s6 : Same H5 (upd H5 pt (.tup [x, .int ((g : Int) + 1)])) := fun b o e => by
                    rw [upd_ne (ne_of_none e hpt)]
                    exact e
                  have jlt := (List.getElem?_eq_some_iff.mp eu).1
                  have et : (((es.take (j + 1)).map fun d => (d, g + 1)).map entD) = (((es.take j).map fun d => (d, g + 1)).map entD) ++ [entD (u, g + 1)] := by
                    rw [List.take_add_one, eu, List.map_append, List.map_append]
                    rfl
                  refine ⟨zs, s6 _ _ hDD, small1000 (by omega), fun b o q => ?_, zs ++ [.ref pt], upd_same, ?_⟩
                  · rw [upd_ne (ne_of_none q hD)]
                    exact s6 _ _ (sm5 _ _ q)
                  · rw [et]
                    have nl5 : noLs ((((es.take j).map fun d => (d, g + 1)).map entD) ++ [entD (u, g + 1)]) = true := noLs_iff.mpr fun y hy => by
                      rw [← et] at hy
                      obtain ⟨q, hq, rfl⟩ := List.mem_map.mp hy
                      obtain ⟨z, hz2, rfl⟩ := List.mem_map.mp hq
                      have : noL z = true := okP_noL z (okPs_iff.mp oks z (List.mem_of_mem_take hz2))
                      simp [entD, noL, noLs, this]
                    exact dpAll_upd (s6 _ _ hDD) _ nl5 (dpApp (dpAll_same s6 _ hz) (.cons (.tup (SqT.of upd_same) (.cons (dp_same s6 _ hu5) (.cons (.int _) .nil))) .nil))
                · rintro H5 ⟨sm5, zs, hDD, hz⟩
                  rw [lxa, List.take_length] at hz
                  have lz : zs.length = es.length := by rw [dpLen hz, List.length_map, List.length_map]
                  have hS5 := sm5 _ _ hS1
                  refine ⟨S, DD, xs0, zs, rfl, rfl, hS5, hDD, Nat.le_of_lt (small1000 (by omega)), ?_⟩
                  have em3 : (es.map fun d => (d, g + 1)).map (·.1) = es := by
                    rw [List.map_map]
                    have : es.map ((·.1) ∘ fun d => ((d, g + 1) : PyData × Nat)) = es.map id := rfl
                    rw [this, List.map_id]
                  have nl6 : noLs ((st0 ++ es.map fun d => (d, g + 1)).map entD) = true := noLs_iff.mpr fun y hy => by
                    obtain ⟨q, hq, rfl⟩ := List.mem_map.mp hy
                    have : noL q.1 = true := by
                      rcases List.mem_append.mp hq with hq | hq
                      · exact okP_noL q.1 (okPs_iff.mp ok0 _ (List.mem_map.mpr ⟨q, hq, rfl⟩))
                      · obtain ⟨z, hz2, rfl⟩ := List.mem_map.mp hq
                        exact okP_noL z (okPs_iff.mp oks z hz2)
                    simp [entD, noL, noLs, this]
                  refine ⟨_, ?_, xs0 ++ zs, st0 ++ es.map (fun d => (d, g + 1)), mv, _, _, rfl, fun b o q => ?_, upd_same, ?_, ?_, ?_, ?_, ?_, rfl⟩
                  · rw [sz, List.map_append, em3, sizePs_app]
                    show sizePs (st0.map (·.1)) + sizePs es < sizePs (st0.map (·.1)) + (1 + sizePs es)
                    omega
                  · rw [upd_ne (ne_of_none q hS2)]
                    exact sm5 _ _ (sm3 _ _ q)
                  · rw [List.map_append] at nl6 ⊢
                    exact dpAll_upd hS5 _ nl6 (dpApp (dpAll_same sm5 _ hd1) hz)
                  · rw [List.map_append, em3]
                    exact okPs_app.mpr ⟨ok0, oks⟩
                  · rw [List.map_append, em3, leafs_app, List.length_append]
                    have : (leaf (.tuple es)).length = (leafs es).length := rfl
                    omega
                  · rw [List.map_append, em3, leafs_app]
                    intro j hj2
                    rcases List.mem_append.mp hj2 with h | h
                    · exact jd j h
                    · exact je j h
                  · rw [tot_app, tot_in]
                    have e3 : costP ls (.tuple es) = costPs ls es + wts ls (leafs es) := rfl
                    have e4 : leaf (.tuple es) = leafs es := rfl
                    rw [e3, e4] at em2
                    rw [Nat.add_mul, Nat.one_mul]
                    omega
end
end RS
set_option Elab.async false
set_option maxRecDepth 100000
set_option maxHeartbeats 4000000
set_option pp.maxSteps 400
namespace RS
open PySem PySem.Spec PyProof.Rows L2 GX
section
variable {P : Program} {w : World} {K : PySem.W.Frag} {mg : Str → Option Value} {base : Heap}
theorem leafs_take {ds : List PyData} {i : Nat} {d : PyData} (h : ds[i]? = some d) : leafs (ds.take (i + 1)) = leafs (ds.take i) ++ leaf d := by
  rw [List.take_add_one, h, leafs_app]
  show _ ++ (leaf d ++ []) = _
  rw [List.append_nil]
theorem leafs_le (ds : List PyData) (i : Nat) : (leafs (ds.take i)).length ≤ (leafs ds).length := by
  have e : leafs ds = leafs (ds.take i) ++ leafs (ds.drop i) := by rw [← leafs_app, List.take_append_drop]
  rw [e, List.length_append]
  omega
theorem leaf_part : ∀ {ds : List PyData} {d : PyData}, d ∈ ds → (leaf d).length ≤ (leafs ds).length
  | e :: ds, d, h => by
    show _ ≤ (leaf e ++ leafs ds).length
    rw [List.length_append]
    rcases List.mem_cons.mp h with q | q
    · rw [q]
      omega
    · have := leaf_part q
      omega
theorem scIn : FnScope ["_law_plan_here", "_law_found", "_law_part"] ["_law_plan_here"] (defScope s__law_in) := ⟨rfl, rfl, rfl, by decide +kernel, rfl, by decide +kernel, by decide +kernel⟩
def spIn (K : PySem.W.Frag) (n : Nat) : Sp := fun vs H Q _ => ∃ (v : V) (d : PyData) (m : Nat), vs = [v] ∧ Dp K H v d ∧ okP m d ∧ m ≤ 6 ∧ (leaf d).length ≤ 40 ∧ d.depth ≤ n ∧ ∀ H' a, Same H H' → H a = none → H' a = some (.lst ((leaf d).map fun j => V.int (j : Nat))) → Q (.ref a) H'
theorem in_none {c : Addr} (D : DefAt K mg "_law_in" s__law_in c) : Cal P w K mg base CX0 1 "_law_in" ["_law_plan_here"] (fun _ _ _ _ => False) :=
  def_ok0 D scIn (fun vs H Q E h => h.elim) (fun _ _ _ _ _ _ us hl => match us, hl with | [_], _ => rfl) (fun f A outer s H vs Q E hr h => h.elim)
theorem in_step {c : Addr} (D : DefAt K mg "_law_in" s__law_in c) (T : Txt K mg) {j : Nat} (n : Nat) {sp : Sp} (hj : 1 ≤ j) (cR : Cal P w K mg base CX0 j "_law_in" ["_law_plan_here"] sp)
    (hsp : ∀ (v : V) (d : PyData) (m : Nat) (H : Hp) (Q : VK) (E : XK), Dp K H v d → okP m d → m ≤ 6 → (leaf d).length ≤ 40 → d.depth + 1 ≤ n → (∀ H' a, Same H H' → H a = none → H' a = some (.lst ((leaf d).map fun j => V.int (j : Nat))) → Q (.ref a) H') → sp [v] H Q E) : Cal P w K mg base CX0 (j + 1) "_law_in" ["_law_plan_here"] (spIn K n) := by
  have sc := scIn
  refine def_ok0 D sc (fun vs H Q E h => ?_) (fun _ _ _ _ _ _ us hl => match us, hl with | [_], _ => rfl) (fun f A outer s H vs Q E hr h => ?_)
  · obtain ⟨v, d, m, rfl, _⟩ := h
    rfl
  · obtain ⟨v, d, m, rfl, hd, ok, m6, l40, hn, k⟩ := h
    refine ⟨_, (pss_cons (ps_if (pt_not (pt_val (pe_callB call_isiD (by rfl) T.isinstance (by decide +kernel) (pa_cons (pv 0) (pa_cons (pe_bltn (v := V.ty "tuple") (u := Value.type "tuple") (by rfl) T.tuple_ (by decide +kernel) rfl) pa_nil))))) (pss_one (ps_ret (pe_lst (pa_cons (pv 0) pa_nil)))) pss_nil) (pss_cons (ps_set (i := 1) sc.nd rfl (Or.inl rfl) (pe_lst pa_nil)) (pss_cons (ps_for PassesOwn.never rfl (pi_tup (pv 0)) (pg_name (i := 2) sc.nd rfl (Or.inl rfl)) (pss_one (ps_expr (pe_bm PySem.F.plainAttrs_list PySem.F.slot_list_extend PySem.F.type_list_extend mt_extend (pv 1) (pa_cons (pe_c cR hr (by omega) (by rfl) pass0 (pa_cons (pv 2) pa_nil)) pa_nil))))) (pss_one (ps_ret (pv 1)))))), ?_⟩
    refine ⟨_, rfl, _, _, _, rfl, by simp, hd, _, rfl, ?_⟩
    rcases okP_cases ok with ⟨i, rfl, hi⟩ | ⟨ds, rfl, e1, e2, oks⟩
    · cases hd
      refine iteT ⟨_, rfl, by show 1 ≤ sizeLine; decide, fun a ha => k _ a (fun b o e => ?_) ha ?_⟩
      · rw [upd_ne (ne_of_none e ha)]
        exact e
      · rw [upd_same]
        show some (HO.lst [V.int (i : Nat)]) = some (HO.lst [V.int (((i : Nat) : Int).toNat : Nat)])
        rw [Int.toNat_natCast]
    · refine iteF ?_
      cases hd with
      | @tup a xs _ hS hI =>
        have l40' : (leafs ds).length ≤ 40 := l40
        have each : ∀ d ∈ ds, okP m d ∧ (leaf d).length ≤ 40 := fun d hd => ⟨okPs_iff.mp oks d hd, Nat.le_trans (leaf_part hd) l40'⟩
        have hdep : ∀ d ∈ ds, d.depth + 1 ≤ n := fun d hd => by
          have a : PyData.depthAll ds + 1 ≤ n := by simpa only [PyData.depth] using hn
          have := depth_mem hd
          omega
        have lx : xs.length = ds.length := dpLen hI
        refine ⟨Nat.zero_le _, fun F hF0 => ?_⟩
        have s0 : Same H (upd H F (.lst [])) := fun b o e => by
          rw [upd_ne (ne_of_none e hF0)]
          exact e
        refine ⟨_, rfl, a, rfl, ⟨_, sqT_same s0 hS⟩, for_tup (K := K) (a := a) (xs := xs) (fun i σ H' => ∃ (v2 : Option V), σ = [some (.ref a), some (.ref F), v2] ∧ Same H H' ∧ H' F = some (.lst ((leafs (ds.take i)).map fun j => V.int (j : Nat))))
          ⟨none, rfl, s0, upd_same⟩ (fun i σ H' _ ⟨_, _, sm, _⟩ => sqT_same sm hS) ?_ ?_⟩
        · rintro i x σ H1 hx ⟨v2, rfl, sm, hF⟩
          obtain ⟨e, ee, he⟩ := dpGet hI hx
          have em := List.mem_of_getElem? ee
          refine ⟨_, rfl, .inl ⟨rfl, _, SqL.of hF⟩, _, rfl, hsp x e m H1 _ _ (dp_same sm _ he) (each e em).1 m6 (each e em).2 (hdep e em) fun H2 G s2 hG hG2 => ?_⟩
          have wl := leafs_le ds (i + 1)
          have et := leafs_take ee
          have hF2 := s2 _ _ hF
          refine ⟨F, G, _, _, rfl, rfl, hF2, hG2, ?_, _, rfl, fun b o q => ?_, ?_⟩
          · rw [et, List.length_append] at wl
            rw [List.length_map, List.length_map]
            exact Nat.le_of_lt (small1000 (by omega))
          · rw [upd_ne (ne_of_none q hF0)]
            exact s2 _ _ (sm _ _ q)
          · rw [upd_same, et, List.map_append]
        · rintro σ H1 ⟨v2, rfl, sm, hF⟩
          rw [lx, List.take_length] at hF
          exact ⟨_, rfl, k _ F sm hF0 hF⟩
theorem in_ok {c : Addr} (D : DefAt K mg "_law_in" s__law_in c) (T : Txt K mg) : ∀ n : Nat, Cal P w K mg base CX0 (n + 2) "_law_in" ["_law_plan_here"] (spIn K n)
  | 0 => in_step D T 0 (Nat.le_refl _) (in_none D) (fun _ _ _ _ _ _ _ _ _ _ h _ => by omega)
  | n + 1 => in_step D T (n + 1) (by omega) (in_ok D T n) (fun v d m H Q E h1 h2 h3 h4 h5 q => ⟨v, d, m, rfl, h1, h2, h3, h4, by omega, q⟩)
end
end RS
set_option Elab.async false
set_option maxRecDepth 100000
set_option maxHeartbeats 4000000
set_option pp.maxSteps 400
namespace RS
open PySem PySem.Spec PyProof.Rows L2 GX
theorem leafs_sub {j : Nat} : ∀ {ds : List PyData} {d : PyData}, d ∈ ds → j ∈ leaf d → j ∈ leafs ds
  | e :: ds, d, h, hj => by
    rcases List.mem_cons.mp h with q | q
    · rw [q] at hj
      exact List.mem_append_left _ hj
    · exact List.mem_append_right _ (leafs_sub q hj)
theorem isum_nat {α : Type} (l : List α) (f : α → Nat) : (l.map fun x => ((f x : Nat) : Int)).sum = (((l.map f).sum : Nat) : Int) := by
  induction l with
  | nil => rfl
  | cons x l ih => rw [List.map_cons, List.sum_cons, ih, List.map_cons, List.sum_cons]; omega
theorem costPs_sum' (L : List Nat) : ∀ ds : List PyData, costPs L ds = (ds.map (costP L)).sum
  | [] => rfl
  | d :: ds => by
    show costP L d + costPs L ds = costP L d + (ds.map (costP L)).sum
    rw [costPs_sum' L ds]
section
variable {P : Program} {w : World} {K : PySem.W.Frag} {mg : Str → Option Value} {base : Heap}
theorem scLCost : FnScope ["_law_lengths_here", "_law_plan_here", "_law_inner", "_law_part", "_law_run"] ["_law_lengths_here", "_law_plan_here"] (defScope s__law_cost) := ⟨rfl, rfl, rfl, by decide +kernel, rfl, by decide +kernel, by decide +kernel⟩
def spLCost (K : PySem.W.Frag) (n : Nat) : Sp := fun vs H Q _ => ∃ (vl v : V) (ls : List Nat) (d : PyData) (m : Nat), vs = [vl, v] ∧ Dp K H vl (lensD ls) ∧ Dp K H v d ∧ okP m d ∧ m ≤ 6 ∧ (leaf d).length ≤ 40 ∧ (∀ j ∈ leaf d, j < ls.length) ∧ d.depth ≤ n ∧ ∀ H', Same H H' → Q (.int (costP ls d : Nat)) H'
theorem lcost_none {c : Addr} (D : DefAt K mg "_law_cost" s__law_cost c) : Cal P w K mg base CX0 1 "_law_cost" ["_law_lengths_here", "_law_plan_here"] (fun _ _ _ _ => False) :=
  def_ok0 D scLCost (fun vs H Q E h => h.elim) (fun _ _ _ _ _ _ us hl => match us, hl with | [_, _], _ => rfl) (fun f A outer s H vs Q E hr h => h.elim)
theorem lcost_step {c : Addr} (D : DefAt K mg "_law_cost" s__law_cost c) (T : Txt K mg) (hsum : mg "sum" = none) (cI : Cal P w K mg base CX0 42 "_law_in" ["_law_plan_here"] (spIn K 40)) {j : Nat} (n : Nat) {sp : Sp} (hj : 42 ≤ j) (h40 : n ≤ 40) (cR : Cal P w K mg base CX0 j "_law_cost" ["_law_lengths_here", "_law_plan_here"] sp)
    (hsp : ∀ (vl v : V) (ls : List Nat) (d : PyData) (m : Nat) (H : Hp) (Q : VK) (E : XK), Dp K H vl (lensD ls) → Dp K H v d → okP m d → m ≤ 6 → (leaf d).length ≤ 40 → (∀ j ∈ leaf d, j < ls.length) → d.depth + 1 ≤ n → (∀ H', Same H H' → Q (.int (costP ls d : Nat)) H') → sp [vl, v] H Q E) : Cal P w K mg base CX0 (j + 1) "_law_cost" ["_law_lengths_here", "_law_plan_here"] (spLCost K n) := by
  have sc := scLCost
  refine def_ok0 D sc (fun vs H Q E h => ?_) (fun _ _ _ _ _ _ us hl => match us, hl with | [_, _], _ => rfl) (fun f A outer s H vs Q E hr h => ?_)
  · obtain ⟨vl, v, ls, d, m, rfl, _⟩ := h
    rfl
  · obtain ⟨vl, v, ls, d, m, rfl, hl, hd, ok, m6, l40, jl, hn, k⟩ := h
    refine ⟨_, (pss_cons (ps_if (pt_not (pt_val (pe_callB call_isiD (by rfl) T.isinstance (by decide +kernel) (pa_cons (pv 1) (pa_cons (pe_bltn (v := V.ty "tuple") (u := Value.type "tuple") (by rfl) T.tuple_ (by decide +kernel) rfl) pa_nil))))) (pss_one (ps_ret pe_int)) pss_nil) (pss_cons (ps_set (i := 2) sc.nd rfl (Or.inl rfl) (pe_callB (cr_sum rfl) (by rfl) hsum (by decide +kernel) (pa_cons (pe_lc (own := [("_law_part", 3)]) (tt := tYes)  rfl sc.nd (pi_tup (pv 1)) (blkOk_by (N := ["_law_lengths_here", "_law_plan_here", "_law_inner", "_law_part", "_law_run"]) (sc := defScope s__law_cost) (own := [("_law_part", 3)]) (by decide +kernel)) (fun _ _ _ _ _ => (pg_name (i := 3) sc.nd rfl (Or.inl rfl))) (fun _ _ _ _ _ => pts_nil) (fun _ _ _ _ _ => (pe_c cR hr (by omega) (by rfl) pass0 (pa_cons (pv 0) (pa_cons (pv 3) pa_nil))))) pa_nil))) (pss_one (ps_ret (pe_op op_add (pv 2) (pe_callB (cr_sum rfl) (by rfl) hsum (by decide +kernel) (pa_cons (pe_lc (own := [("_law_run", 4)]) (tt := tYes)  rfl sc.nd (pi_list (pe_c cI hr (by omega) (by rfl) pass0 (pa_cons (pv 1) pa_nil))) (blkOk_by (N := ["_law_lengths_here", "_law_plan_here", "_law_inner", "_law_part", "_law_run"]) (sc := defScope s__law_cost) (own := [("_law_run", 4)]) (by decide +kernel)) (fun _ _ _ _ _ => (pg_name (i := 4) sc.nd rfl (Or.inl rfl))) (fun _ _ _ _ _ => pts_nil) (fun _ _ _ _ _ => (pe_ix (ixDC (K := K) rfl) (pv 0) (pv 4) (fun _ _ => rfl)))) pa_nil))))))), ?_⟩
    refine ⟨_, rfl, _, _, _, rfl, by simp, hd, _, rfl, ?_⟩
    rcases okP_cases ok with ⟨i, rfl, hi⟩ | ⟨ds, rfl, e1, e2, oks⟩
    · cases hd
      exact iteT (k H (Same.refl H))
    · refine iteF ?_
      have hdt := hd
      cases hd with
      | @tup a xs _ hS hI =>
        have l40' : (leafs ds).length ≤ 40 := l40
        have each : ∀ d ∈ ds, okP m d ∧ (leaf d).length ≤ 40 := fun d hd => ⟨okPs_iff.mp oks d hd, Nat.le_trans (leaf_part hd) l40'⟩
        have hdep : ∀ d ∈ ds, d.depth + 1 ≤ n := fun d hd => by
          have a : PyData.depthAll ds + 1 ≤ n := by simpa only [PyData.depth] using hn
          have := depth_mem hd
          omega
        have lx : xs.length = ds.length := dpLen hI
        refine ⟨_, rfl, a, rfl, ⟨_, hS⟩, fun DD hD => ?_⟩
        refine lc_tup (K := K) (a := a) (xs := xs) (fun j H' => Same H H' ∧ H' DD = some (.lst (((ds.take j).map fun d => ((costP ls d : Nat) : Int)).map V.int))) ⟨fun b o e => by rw [upd_ne (ne_of_none e hD)]; exact e, upd_same⟩ (fun j H4 _ h => sqT_same h.1 hS) ?_ ?_
        · rintro j x H4 hx ⟨sm, hl4⟩
          obtain ⟨e, ee, he⟩ := dpGet hI hx
          have em := List.mem_of_getElem? ee
          refine ⟨rfl, _, rfl, _, rfl, hsp vl x ls e m H4 _ _ (dp_same sm _ hl) (dp_same sm _ he) (each e em).1 m6 (each e em).2 (fun q hq => jl q (leafs_sub em hq)) (hdep e em) fun H5 s5 => ?_⟩
          refine ⟨_, s5 _ _ hl4, small1000 (by rw [List.length_map, List.length_map, List.length_take]; omega), fun b o q => ?_, ?_⟩
          · rw [upd_ne (ne_of_none q hD)]
            exact s5 _ _ (sm _ _ q)
          · rw [upd_same, List.take_add_one, ee, List.map_append, List.map_append]
            rfl
        · rintro H4 ⟨sm, hl4⟩
          rw [lx, List.take_length] at hl4
          refine ⟨DD, _, rfl, SqL.of hl4, ?_⟩
          rw [isum_nat ds (costP ls), ← costPs_sum']
          refine ⟨_, rfl, _, rfl, .ref a, .tuple ds, m, rfl, dp_same sm _ hdt, ok, m6, l40, by omega, fun H5 G s5 hG0 hG => ?_⟩
          refine ⟨G, rfl, ⟨_, SqL.of hG⟩, fun D2 hD2 => ?_⟩
          refine lc_list (K := K) (a := G) (xs := (leaf (.tuple ds)).map fun j => V.int (j : Nat)) (fun j H' => Same H5 H' ∧ H' D2 = some (.lst ((((leaf (.tuple ds)).take j).map fun q => ((ls.getD q 0 : Nat) : Int)).map V.int))) ⟨fun b o e => by rw [upd_ne (ne_of_none e hD2)]; exact e, upd_same⟩ (fun j H6 _ h => h.1.seq (SqL.of hG)) ?_ ?_
          · rintro j x H6 hx ⟨sm6, hl6⟩
            obtain ⟨q, eq, rfl⟩ : ∃ q, (leaf (.tuple ds))[j]? = some q ∧ x = V.int (q : Nat) := by
              rw [List.getElem?_map] at hx
              cases z : (leaf (.tuple ds))[j]? with
              | none => rw [z] at hx; cases hx
              | some b => rw [z] at hx; exact ⟨b, rfl, (Option.some.inj hx).symm⟩
            have hq := jl q (List.mem_of_getElem? eq)
            have hjl := (List.getElem?_eq_some_iff.mp eq).1
            refine ⟨rfl, _, rfl, _, rfl, lensD ls, _, (q : Nat), .int (ls[q] : Nat), dp_same sm6 _ (dp_same s5 _ (dp_same sm _ hl)), rfl, rfl, atI_nat (by rw [List.getElem?_map, List.getElem?_eq_getElem hq]; rfl), fun w hw => ?_⟩
            cases hw
            refine ⟨_, hl6, small1000 (by rw [List.length_map, List.length_map, List.length_take]; omega), fun b o z => ?_, ?_⟩
            · rw [upd_ne (ne_of_none z hD2)]
              exact sm6 _ _ z
            · have : ls.getD q 0 = ls[q] := by simp [List.getD, hq]
              rw [upd_same, List.take_add_one, eq, List.map_append, List.map_append, Option.toList_some, List.map_singleton, List.map_singleton, this]
          · rintro H6 ⟨sm6, hl6⟩
            rw [List.length_map, List.take_length] at hl6
            refine ⟨D2, _, rfl, SqL.of hl6, _, _, rfl, rfl, ?_⟩
            rw [isum_nat (leaf (.tuple ds)) fun q => ls.getD q 0]
            exact k H6 ((sm.trans s5).trans sm6)
theorem lcost_ok {c : Addr} (D : DefAt K mg "_law_cost" s__law_cost c) (T : Txt K mg) (hsum : mg "sum" = none) (cI : Cal P w K mg base CX0 42 "_law_in" ["_law_plan_here"] (spIn K 40)) : ∀ n : Nat, n ≤ 40 → Cal P w K mg base CX0 (n + 43) "_law_cost" ["_law_lengths_here", "_law_plan_here"] (spLCost K n)
  | 0, h => lcost_step (j := 42) D T hsum cI 0 (by omega) h (sp := fun _ _ _ _ => False) (def_ok0 (k := 41) D scLCost (fun vs H Q E h => h.elim) (fun _ _ _ _ _ _ us hl => match us, hl with | [_, _], _ => rfl) (fun f A outer s H vs Q E hr h => h.elim)) (fun _ _ _ _ _ _ _ _ _ _ _ _ _ _ h _ => by omega)
  | n + 1, h => lcost_step D T hsum cI (n + 1) (by omega) h (lcost_ok D T hsum cI n (by omega)) (fun vl v ls d m H Q E h1 h2 h3 h4 h5 h6 h7 q => ⟨vl, v, ls, d, m, rfl, h1, h2, h3, h4, h5, h6, by omega, q⟩)
end
end RS
set_option Elab.async false
set_option maxRecDepth 100000
set_option maxHeartbeats 4000000
set_option pp.maxSteps 400
namespace RS
open PySem PySem.Spec PyProof.Rows L2 GX
section
variable {P : Program} {w : World} {K : PySem.W.Frag} {mg : Str → Option Value} {base : Heap}
theorem scFits : FnScope ["_law_plan_here", "_law_ways", "_law_bad", "_law_part"] ["_law_plan_here", "_law_ways"] (defScope s__law_fits) := ⟨rfl, rfl, rfl, by decide +kernel, rfl, by decide +kernel, by decide +kernel⟩
def spFits (K : PySem.W.Frag) (n : Nat) : Sp := fun vs H Q _ => ∃ (v : V) (d : PyData) (m : Nat), vs = [v, .int (m : Nat)] ∧ Dp K H v d ∧ okP m d ∧ m ≤ 6 ∧ d.depth ≤ n ∧ ∀ H', Same H H' → Q (.bl true) H'
theorem fits_none {c : Addr} (D : DefAt K mg "_law_fits" s__law_fits c) : Cal P w K mg base CX0 1 "_law_fits" ["_law_plan_here", "_law_ways"] (fun _ _ _ _ => False) :=
  def_ok0 D scFits (fun vs H Q E h => h.elim) (fun _ _ _ _ _ _ us hl => match us, hl with | [_, _], _ => rfl) (fun f A outer s H vs Q E hr h => h.elim)
theorem fits_step {c : Addr} (D : DefAt K mg "_law_fits" s__law_fits c) (T : Txt K mg) {j : Nat} (n : Nat) {sp : Sp} (hj : 1 ≤ j) (cR : Cal P w K mg base CX0 j "_law_fits" ["_law_plan_here", "_law_ways"] sp)
    (hsp : ∀ (v : V) (d : PyData) (m : Nat) (H : Hp) (Q : VK) (E : XK), Dp K H v d → okP m d → m ≤ 6 → d.depth + 1 ≤ n → (∀ H', Same H H' → Q (.bl true) H') → sp [v, .int (m : Nat)] H Q E) : Cal P w K mg base CX0 (j + 1) "_law_fits" ["_law_plan_here", "_law_ways"] (spFits K n) := by
  have sc := scFits
  refine def_ok0 D sc (fun vs H Q E h => ?_) (fun _ _ _ _ _ _ us hl => match us, hl with | [_, _], _ => rfl) (fun f A outer s H vs Q E hr h => ?_)
  · obtain ⟨v, d, m, rfl, _⟩ := h
    rfl
  · obtain ⟨v, d, m, rfl, hd, ok, m6, hn, k⟩ := h
    have hu := hr.units
    refine ⟨_, (pss_cons (ps_if (pt_not (pt_val (pe_callB call_isiD (by rfl) T.isinstance (by decide +kernel) (pa_cons (pv 0) (pa_cons (pe_bltn (v := V.ty "tuple") (u := Value.type "tuple") (by rfl) T.tuple_ (by decide +kernel) rfl) pa_nil))))) (pss_one (ps_ret pe_bl)) pss_nil) (pss_cons (ps_setLc (own := [("_law_part", 3)]) (tt := _) rfl sc.nd (i := 2) rfl rfl (by rfl) (pi_tup (pv 0)) (blkOk_by (N := ["_law_plan_here", "_law_ways", "_law_bad", "_law_part"]) (sc := defScope s__law_fits) (own := [("_law_part", 3)]) (by decide +kernel)) (fun _ _ _ _ _ => (pg_name (i := 3) sc.nd rfl (Or.inl rfl))) (fun _ _ _ _ _ => pts_one (pt_not (pt_val (pe_c cR hr (by omega) (by rfl) pass0 (pa_cons (pv 3) (pa_cons (pv 1) pa_nil)))))) (fun _ _ _ _ _ => pv 3)) (pss_one (ps_ret (pe_and (pe_chain op_le op_le pe_int (pe_callB call_lenD (by rfl) T.len PySem.boot_len (pa_cons (pv 0) pa_nil)) (pv 1)) (pe_one (pe_cmpR (op_eqD hu) (pv 2) (pe_lst pa_nil) (nomark _)))))))), ?_⟩
    refine ⟨_, rfl, _, _, _, rfl, by simp, hd, _, rfl, ?_⟩
    rcases okP_cases ok with ⟨i, rfl, hi⟩ | ⟨ds, rfl, e1, e2, oks⟩
    · cases hd
      exact iteT (k H (Same.refl H))
    · refine iteF ?_
      have hdt := hd
      cases hd with
      | @tup a xs _ hS hI =>
        have hdep : ∀ d ∈ ds, d.depth + 1 ≤ n := fun d hd => by
          have a : PyData.depthAll ds + 1 ≤ n := by simpa only [PyData.depth] using hn
          have := depth_mem hd
          omega
        have lx : xs.length = ds.length := dpLen hI
        refine ⟨_, rfl, a, rfl, ⟨_, hS⟩, fun DD hD => ?_⟩
        refine lc_tup (K := K) (a := a) (xs := xs) (fun j H' => Same H H' ∧ H' DD = some (.lst [])) ⟨fun b o e => by rw [upd_ne (ne_of_none e hD)]; exact e, upd_same⟩ (fun j H4 _ h => sqT_same h.1 hS) ?_ ?_
        · rintro j x H4 hx ⟨sm, hl4⟩
          obtain ⟨e, ee, he⟩ := dpGet hI hx
          have em := List.mem_of_getElem? ee
          refine ⟨rfl, _, rfl, _, rfl, hsp x e m H4 _ _ (dp_same sm _ he) (okPs_iff.mp oks e em) m6 (hdep e em) fun H5 s5 => ?_⟩
          refine ⟨_, rfl, ?_⟩
          exact iteF ⟨sm.trans s5, s5 _ _ hl4⟩
        · rintro H4 ⟨sm, hl4⟩
          dsimp only [gName]
          refine ⟨_, rfl, _, _, ds.length, rfl, dp_same sm _ hdt, rfl, _, _, rfl, rfl, _, rfl, ?_⟩
          rw [show decide ((2 : Int) ≤ (ds.length : Nat)) = true from decide_eq_true (by omega)]
          refine iteT ⟨_, rfl, _, _, rfl, rfl, _, rfl, ?_⟩
          rw [show decide (((ds.length : Nat) : Int) ≤ (m : Nat)) = true from decide_eq_true (by omega)]
          refine iteT ⟨_, rfl, Nat.zero_le _, fun E2 hE2 => ?_⟩
          have s6 : Same H4 (upd H4 E2 (.lst [])) := fun b o e => by
            rw [upd_ne (ne_of_none e hE2)]
            exact e
          refine ⟨.list [], .list [], .lst (s6.seq (SqL.of hl4)) .nil, .lst (SqL.of upd_same) .nil, by decide +kernel, ?_⟩
          refine ⟨by decide +kernel, ?_⟩
          have e : PyData.eqv (.list []) (.list []) = true := by simp [PyData.eqv, PyData.eqvAll]
          rw [e]
          exact k _ (sm.trans s6)
theorem fits_ok {c : Addr} (D : DefAt K mg "_law_fits" s__law_fits c) (T : Txt K mg) : ∀ n : Nat, Cal P w K mg base CX0 (n + 2) "_law_fits" ["_law_plan_here", "_law_ways"] (spFits K n)
  | 0 => fits_step D T 0 (Nat.le_refl _) (fits_none D) (fun _ _ _ _ _ _ _ _ _ h _ => by omega)
  | n + 1 => fits_step D T (n + 1) (by omega) (fits_ok D T n) (fun v d m H Q E h1 h2 h3 h5 q => ⟨v, d, m, rfl, h1, h2, h3, by omega, q⟩)
end
end RS
set_option Elab.async false
set_option maxHeartbeats 2000000
namespace K8
/-! ### merging the least ones: no other way moves fewer -/
theorem sum_perm {l m : List Nat} (p : l.Perm m) : l.sum = m.sum := by
  induction p with
  | nil => rfl
  | cons x _ ih => rw [List.sum_cons, List.sum_cons, ih]
  | swap x y l => rw [List.sum_cons, List.sum_cons, List.sum_cons, List.sum_cons]; omega
  | trans _ _ h1 h2 => exact h1.trans h2
theorem sum_app (l m : List Nat) : (l ++ m).sum = l.sum + m.sum := by
  induction l with
  | nil => simp
  | cons x l ih => rw [List.cons_append, List.sum_cons, List.sum_cons, ih]; omega
theorem sum_zeros (n : Nat) : (List.replicate n 0).sum = 0 := by
  induction n with
  | zero => rfl
  | succ n ih => rw [List.replicate_succ, List.sum_cons, ih]
/-- a weight and its depth -/
abbrev Lf := Nat × Nat
def costF (ps : List Lf) : Nat := (ps.map fun p => p.1 * p.2).sum
def kraft (w D : Nat) (ps : List Lf) : Nat := (ps.map fun p => w ^ (D - p.2)).sum
theorem costF_perm {ps qs : List Lf} (p : ps.Perm qs) : costF ps = costF qs := sum_perm (p.map _)
theorem kraft_perm {w D : Nat} {ps qs : List Lf} (p : ps.Perm qs) : kraft w D ps = kraft w D qs := sum_perm (p.map _)
theorem costF_app (ps qs : List Lf) : costF (ps ++ qs) = costF ps + costF qs := by
  unfold costF
  rw [List.map_append, sum_app]
theorem kraft_app (w D : Nat) (ps qs : List Lf) : kraft w D (ps ++ qs) = kraft w D ps + kraft w D qs := by
  unfold kraft
  rw [List.map_append, sum_app]
theorem costF_cons (p : Lf) (ps : List Lf) : costF (p :: ps) = p.1 * p.2 + costF ps := rfl
theorem kraft_cons (w D : Nat) (p : Lf) (ps : List Lf) : kraft w D (p :: ps) = w ^ (D - p.2) + kraft w D ps := rfl
theorem costF_same (D : Nat) : ∀ l : List Nat, costF (l.map fun x => (x, D)) = l.sum * D
  | [] => by simp [costF]
  | x :: l => by
    rw [List.map_cons, costF_cons, costF_same D l, List.sum_cons, Nat.add_mul]
theorem kraft_same (w D : Nat) : ∀ l : List Nat, kraft w D (l.map fun x => (x, D)) = l.length
  | [] => rfl
  | x :: l => by
    rw [List.map_cons, kraft_cons, kraft_same w D l]
    show w ^ (D - D) + l.length = l.length + 1
    rw [Nat.sub_self, Nat.pow_zero]
    omega
/-- the least ones come to the deepest place -/
theorem rearr (D : Nat) : ∀ (A b R : List Nat) (S : List Lf), A.length = b.length → A.Pairwise (· ≤ ·) → (∀ a ∈ A, ∀ r ∈ R, a ≤ r) → (∀ p ∈ S, p.2 ≤ D) → (b ++ S.map (·.1)).Perm (A ++ R) →
    ∃ S' : List Lf, (S'.map (·.1)).Perm R ∧ (S'.map (·.2)).Perm (S.map (·.2)) ∧ costF S' + A.sum * D ≤ costF S + b.sum * D
  | [], b, R, S, hl, _, _, _, hp => by
    have : b = [] := List.eq_nil_of_length_eq_zero hl.symm
    subst this
    exact ⟨S, hp, List.Perm.refl _, Nat.le_refl _⟩
  | a :: A, b, R, S, hl, hs, hle, hD, hp => by
    have hmin : ∀ y ∈ b ++ S.map (·.1), a ≤ y := fun y hy => by
      rcases List.mem_append.mp (hp.mem_iff.mp hy) with h | h
      · rcases List.mem_cons.mp h with e | h
        · rw [e]; exact Nat.le_refl _
        · exact (List.pairwise_cons.mp hs).1 y h
      · exact hle a List.mem_cons_self y h
    have hs' := (List.pairwise_cons.mp hs).2
    have hle' : ∀ x ∈ A, ∀ r ∈ R, x ≤ r := fun x hx r hr => hle x (List.mem_cons_of_mem _ hx) r hr
    have ha : a ∈ b ++ S.map (·.1) := hp.mem_iff.mpr List.mem_cons_self
    rcases List.mem_append.mp ha with hb | hS
    · have pb := List.perm_cons_erase hb
      have hl' : A.length = (b.erase a).length := by
        have := pb.length_eq
        rw [List.length_cons] at this hl
        omega
      have hp' : (b.erase a ++ S.map (·.1)).Perm (A ++ R) := by
        have q : (a :: (b.erase a ++ S.map (·.1))).Perm (a :: (A ++ R)) := ((pb.append_right _).symm).trans hp
        exact q.cons_inv
      obtain ⟨S', h1, h2, h3⟩ := rearr D A (b.erase a) R S hl' hs' hle' hD hp'
      refine ⟨S', h1, h2, ?_⟩
      have e := sum_perm pb
      rw [List.sum_cons] at e
      rw [e, List.sum_cons, Nat.add_mul, Nat.add_mul]
      omega
    · obtain ⟨p, hpS, epa⟩ := List.mem_map.mp hS
      have pS := List.perm_cons_erase hpS
      cases b with
      | nil => simp at hl
      | cons y b =>
        have hya : a ≤ y := hmin y (List.mem_append_left _ List.mem_cons_self)
        have hpD := hD p hpS
        have hD' : ∀ q ∈ (y, p.2) :: S.erase p, q.2 ≤ D := fun q hq => by
          rcases List.mem_cons.mp hq with e | hq
          · rw [e]; exact hpD
          · exact hD q (List.mem_of_mem_erase hq)
        have hp' : (b ++ ((y, p.2) :: S.erase p).map (·.1)).Perm (A ++ R) := by
          have q1 : ((y :: b) ++ S.map (·.1)).Perm ((y :: b) ++ (a :: (S.erase p).map (·.1))) := by
            have := (pS.map (·.1)).append_left (y :: b)
            rw [List.map_cons, epa] at this
            exact this
          have q2 : ((y :: b) ++ (a :: (S.erase p).map (·.1))).Perm (a :: (b ++ (y :: (S.erase p).map (·.1)))) := by
            have z1 : ((y :: b) ++ (a :: (S.erase p).map (·.1))).Perm (a :: ((y :: b) ++ (S.erase p).map (·.1))) := List.perm_middle
            have z2 : ((y :: b) ++ (S.erase p).map (·.1)).Perm (b ++ (y :: (S.erase p).map (·.1))) := List.perm_middle.symm
            exact z1.trans (z2.cons a)
          exact ((q2.symm.trans q1.symm).trans hp).cons_inv
        obtain ⟨S', h1, h2, h3⟩ := rearr D A b R ((y, p.2) :: S.erase p) (by simpa using hl) hs' hle' hD' hp'
        refine ⟨S', h1, h2.trans ?_, ?_⟩
        · have := (pS.map (·.2)).symm
          rw [List.map_cons] at this
          rw [List.map_cons]
          exact this
        · have e := costF_perm pS
          rw [costF_cons, epa] at e
          rw [costF_cons] at h3
          rw [e, List.sum_cons, List.sum_cons, Nat.add_mul, Nat.add_mul]
          have key : a * D + y * p.2 ≤ a * p.2 + y * D := by
            obtain ⟨t, rfl⟩ := Nat.exists_eq_add_of_le hya
            obtain ⟨u, rfl⟩ := Nat.exists_eq_add_of_le hpD
            simp only [Nat.add_mul, Nat.mul_add]
            have : 0 ≤ t * u := Nat.zero_le _
            omega
          simp only at h3
          omega
theorem kraft_snd {w D : Nat} : ∀ ps : List Lf, kraft w D ps = ((ps.map (·.2)).map fun d => w ^ (D - d)).sum := fun ps => by
  unfold kraft
  rw [List.map_map]
  rfl
theorem kraft_up (w D : Nat) : ∀ ps : List Lf, (∀ p ∈ ps, p.2 ≤ D) → kraft w (D + 1) ps = w * kraft w D ps
  | [], _ => by simp [kraft]
  | p :: ps, h => by
    have h1 := h p List.mem_cons_self
    rw [kraft_cons, kraft_cons, kraft_up w D ps fun q hq => h q (List.mem_cons_of_mem _ hq), Nat.mul_add]
    have e : D + 1 - p.2 = (D - p.2) + 1 := by omega
    rw [e, Nat.pow_succ, Nat.mul_comm]
/-- w of them lie deepest -/
theorem deepest {w : Nat} (hw : 2 ≤ w) : ∀ (D : Nat) (ps : List Lf), 2 ≤ ps.length → (∀ p ∈ ps, p.2 ≤ D) → kraft w D ps = w ^ D →
    ∃ (D' : Nat) (B : List Nat) (S : List Lf), 1 ≤ D' ∧ B.length = w ∧ ps.Perm ((B.map fun x => (x, D')) ++ S) ∧ (∀ p ∈ S, p.2 ≤ D') ∧ kraft w D' ps = w ^ D'
  | 0, ps, h2, _, hk => by
    have : kraft w 0 ps = ps.length := by
      unfold kraft
      have e : (ps.map fun p => w ^ (0 - p.2)) = ps.map fun _ => 1 := List.map_congr_left fun p _ => by rw [Nat.zero_sub, Nat.pow_zero]
      rw [e, List.map_const']
      simp
    rw [this, Nat.pow_zero] at hk
    omega
  | D + 1, ps, h2, hD, hk => by
    have pf := (List.filter_append_perm (fun p : Lf => decide (p.2 = D + 1)) ps).symm
    generalize hdp : ps.filter (fun p : Lf => decide (p.2 = D + 1)) = dp at pf
    generalize hrs : ps.filter (fun p : Lf => !decide (p.2 = D + 1)) = rs at pf
    have edp : dp = (dp.map (·.1)).map fun x => (x, D + 1) := by
      rw [List.map_map]
      have : dp.map id = dp.map ((fun x => (x, D + 1)) ∘ (·.1)) := List.map_congr_left fun p hp => by
        rw [← hdp] at hp
        have := (List.mem_filter.mp hp).2
        simp only [decide_eq_true_eq] at this
        obtain ⟨x, d⟩ := p
        simp only at this
        subst this
        rfl
      rw [List.map_id] at this
      exact this
    have hrD : ∀ p ∈ rs, p.2 ≤ D := fun p hp => by
      rw [← hrs] at hp
      obtain ⟨h1, h2⟩ := List.mem_filter.mp hp
      have := hD p h1
      simp at h2
      omega
    have k1 := kraft_perm (w := w) (D := D + 1) pf
    rw [kraft_app, kraft_up w D rs hrD, hk] at k1
    have k2 : kraft w (D + 1) dp = dp.length := by
      rw [edp, kraft_same, List.length_map, List.length_map, List.length_map]
    rw [k2, Nat.pow_succ, Nat.mul_comm] at k1
    by_cases z : dp = []
    · rw [z, List.length_nil, Nat.zero_add] at k1
      have k3 : kraft w D rs = w ^ D := (Nat.eq_of_mul_eq_mul_left (by omega) k1).symm
      have pr : ps.Perm rs := by
        rw [z, List.nil_append] at pf
        exact pf
      obtain ⟨D', B, S, h1, h3, h4, h5, h6⟩ := deepest hw D rs (by rw [← pr.length_eq]; exact h2) hrD k3
      exact ⟨D', B, S, h1, h3, pr.trans h4, h5, (kraft_perm pr).trans h6⟩
    · have pos : 1 ≤ dp.length := List.length_pos_iff.mpr z
      have hwl : w ≤ dp.length := by
        have d1 : w ∣ dp.length := by
          have a1 : w ∣ w * w ^ D := ⟨_, rfl⟩
          have a2 : w ∣ w * kraft w D rs := ⟨_, rfl⟩
          rw [k1] at a1
          exact (Nat.dvd_add_iff_left a2).mpr a1
        exact Nat.le_of_dvd pos d1
      refine ⟨D + 1, (dp.map (·.1)).take w, ((dp.map (·.1)).drop w).map (fun x => (x, D + 1)) ++ rs, by omega, ?_, ?_, ?_, hk⟩
      · rw [List.length_take, List.length_map]
        omega
      · rw [← List.append_assoc, ← List.map_append, List.take_append_drop, ← edp]
        exact pf
      · intro p hp
        rcases List.mem_append.mp hp with h | h
        · obtain ⟨x, _, rfl⟩ := List.mem_map.mp h
          exact Nat.le_refl _
        · have := hrD p h
          omega
/-- w of the least at a time -/
inductive Gp (w : Nat) : List Nat → Nat → Prop
  | one (x : Nat) : Gp w [x] 0
  | step {N A R : List Nat} {c : Nat} (p : N.Perm (A ++ R)) (l : A.length = w) (s : A.Pairwise (· ≤ ·)) (m : ∀ a ∈ A, ∀ r ∈ R, a ≤ r) (t : Gp w (A.sum :: R) c) : Gp w N (A.sum + c)
theorem lbp {w : Nat} (hw : 2 ≤ w) {N : List Nat} {c : Nat} (g : Gp w N c) : ∀ (ps : List Lf) (D : Nat), (ps.map (·.1)).Perm N → (∀ p ∈ ps, p.2 ≤ D) → kraft w D ps = w ^ D → c ≤ costF ps := by
  induction g with
  | one x => exact fun _ _ _ _ _ => Nat.zero_le _
  | @step N A R c p l s m t ih =>
    intro ps D hp hD hk
    have h2 : 2 ≤ ps.length := by
      have := (hp.trans p).length_eq
      rw [List.length_map, List.length_append] at this
      omega
    obtain ⟨D', B, S, d1, lB, pS, hS, k'⟩ := deepest hw D ps h2 hD hk
    have pm : (B ++ S.map (·.1)).Perm (A ++ R) := by
      have := (pS.map (·.1)).symm
      rw [List.map_append, List.map_map] at this
      have e : B.map ((·.1) ∘ fun x => ((x, D') : Lf)) = B := by
        have : B.map ((·.1) ∘ fun x => ((x, D') : Lf)) = B.map id := rfl
        rw [this, List.map_id]
      rw [e] at this
      exact (this.trans hp).trans p
    obtain ⟨S', h1, h3, h4⟩ := rearr D' A B R S (by rw [l, lB]) s m hS pm
    have e1 := costF_perm pS
    rw [costF_app, costF_same] at e1
    have e2 := kraft_perm (w := w) (D := D') pS
    rw [kraft_app, kraft_same, lB, k'] at e2
    have e3 : kraft w D' S' = kraft w D' S := by
      rw [kraft_snd, kraft_snd]
      exact sum_perm (h3.map _)
    have hS' : ∀ q ∈ S', q.2 ≤ D' := fun q hq => by
      have : q.2 ∈ S.map (·.2) := h3.mem_iff.mp (List.mem_map.mpr ⟨q, hq, rfl⟩)
      obtain ⟨q', hq', e⟩ := List.mem_map.mp this
      rw [← e]
      exact hS q' hq'
    have := ih ((A.sum, D' - 1) :: S') D' (by rw [List.map_cons]; exact h1.cons _) (fun q hq => by
      rcases List.mem_cons.mp hq with e | hq
      · rw [e]
        show D' - 1 ≤ D'
        omega
      · exact hS' q hq) (by
      rw [kraft_cons, e3, e2]
      show w ^ (D' - (D' - 1)) + kraft w D' S = _
      rw [show D' - (D' - 1) = 1 by omega, Nat.pow_one])
    rw [costF_cons] at this
    obtain ⟨t, rfl⟩ : ∃ t, D' = t + 1 := ⟨D' - 1, by omega⟩
    simp only [Nat.add_sub_cancel, Nat.mul_add, Nat.mul_one] at this h4 e1
    omega
theorem Gp.perm {w : Nat} {N N' : List Nat} {c : Nat} (g : Gp w N c) (p : N'.Perm N) : Gp w N' c := by
  cases g with
  | one x => rw [List.perm_singleton.mp p]; exact .one x
  | step q l s m t => exact .step (p.trans q) l s m t
theorem least : ∀ {N : List Nat}, N ≠ [] → ∃ x ∈ N, ∀ y ∈ N, x ≤ y
  | [], h => absurd rfl h
  | [x], _ => ⟨x, List.mem_cons_self, fun y hy => by rw [List.mem_singleton.mp hy]; exact Nat.le_refl _⟩
  | x :: z :: l, _ => by
    obtain ⟨y, hy, hm⟩ := least (N := z :: l) (by simp)
    by_cases h : x ≤ y
    · refine ⟨x, List.mem_cons_self, fun u hu => ?_⟩
      rcases List.mem_cons.mp hu with e | hu
      · rw [e]; exact Nat.le_refl _
      · exact Nat.le_trans h (hm u hu)
    · refine ⟨y, List.mem_cons_of_mem _ hy, fun u hu => ?_⟩
      rcases List.mem_cons.mp hu with e | hu
      · rw [e]; omega
      · exact hm u hu
theorem zeros_sorted (n : Nat) {A : List Nat} (h : A.Pairwise (· ≤ ·)) : (List.replicate n 0 ++ A).Pairwise (· ≤ ·) := by
  induction n with
  | zero => exact h
  | succ n ih =>
    rw [List.replicate_succ, List.cons_append]
    exact List.pairwise_cons.mpr ⟨fun _ _ => Nat.zero_le _, ih⟩
theorem zeros_sum (n : Nat) (A : List Nat) : (List.replicate n 0 ++ A).sum = A.sum := by rw [sum_app, sum_zeros, Nat.zero_add]
theorem Gp.ne {w : Nat} (hw : 2 ≤ w) {N : List Nat} {c : Nat} (g : Gp w N c) : N ≠ [] := fun e => by
  subst e
  generalize hN : ([] : List Nat) = N at g
  cases g with
  | one x => cases hN
  | step p l s m t =>
    subst hN
    have := p.length_eq
    rw [List.length_append, l] at this
    simp at this
    omega
/-- more nothings make it no cheaper -/
theorem Gp.more {w : Nat} (hw : 2 ≤ w) {N : List Nat} {c : Nat} (g : Gp w N c) : ∃ c', c ≤ c' ∧ Gp w (N ++ List.replicate (w - 1) 0) c' := by
  obtain ⟨x, hx, hm⟩ := least (g.ne hw)
  have pe := List.perm_cons_erase hx
  have st : Gp w (N ++ List.replicate (w - 1) 0) ((List.replicate (w - 1) 0 ++ [x]).sum + c) := by
    refine .step (A := List.replicate (w - 1) 0 ++ [x]) (R := N.erase x) ?_ ?_ (zeros_sorted _ (List.pairwise_singleton _ _)) ?_ (g.perm ?_)
    · rw [List.append_assoc]
      exact List.perm_append_comm.trans ((pe.append_left _))
    · rw [List.length_append, List.length_replicate, List.length_singleton]
      omega
    · intro a ha r hr
      rcases List.mem_append.mp ha with h | h
      · rw [List.eq_of_mem_replicate h]
        exact Nat.zero_le _
      · rw [List.mem_singleton.mp h]
        exact hm r (List.mem_of_mem_erase hr)
    · rw [zeros_sum, List.sum_singleton]
      exact pe.symm
  exact ⟨_, Nat.le_add_left _ _, st⟩
theorem Gp.mores {w : Nat} (hw : 2 ≤ w) {N : List Nat} {c : Nat} (g : Gp w N c) : ∀ j : Nat, ∃ c', c ≤ c' ∧ Gp w (N ++ List.replicate ((w - 1) * j) 0) c'
  | 0 => ⟨c, Nat.le_refl _, by rw [Nat.mul_zero]; simpa using g⟩
  | j + 1 => by
    obtain ⟨c1, h1, g1⟩ := Gp.mores hw g j
    obtain ⟨c2, h2, g2⟩ := g1.more hw
    refine ⟨c2, Nat.le_trans h1 h2, ?_⟩
    rw [List.append_assoc, List.replicate_append_replicate] at g2
    rw [Nat.mul_succ]
    exact g2
/-- as many as go now, that all later ones are full -/
def kk (w n : Nat) : Nat := 2 + (n - 2) % (w - 1)
inductive Gr (w : Nat) : List Nat → Nat → Prop
  | one (x : Nat) : Gr w [x] 0
  | step {N A R : List Nat} {c : Nat} (p : N.Perm (A ++ R)) (h2 : 2 ≤ N.length) (l : A.length = kk w N.length) (s : A.Pairwise (· ≤ ·)) (m : ∀ a ∈ A, ∀ r ∈ R, a ≤ r) (t : Gr w (A.sum :: R) c) : Gr w N (A.sum + c)
def zs (w n : Nat) : Nat := if n ≤ 1 then 0 else w - 2 - (n - 2) % (w - 1)
theorem Gr.pad {w : Nat} (hw : 2 ≤ w) {N : List Nat} {c : Nat} (g : Gr w N c) : Gp w (N ++ List.replicate (zs w N.length) 0) c := by
  induction g with
  | one x => exact .one x
  | @step N A R c p h2 l s m t ih =>
    have hr : (N.length - 2) % (w - 1) < w - 1 := Nat.mod_lt _ (by omega)
    have hz : zs w N.length = w - 2 - (N.length - 2) % (w - 1) := if_neg (by omega)
    have lN := p.length_eq
    rw [List.length_append, l] at lN
    unfold kk at lN l
    have z0 : zs w (A.sum :: R).length = 0 := by
      rw [List.length_cons]
      unfold zs
      by_cases h1 : R.length + 1 ≤ 1
      · exact if_pos h1
      · rw [if_neg h1]
        have dm := Nat.div_add_mod (N.length - 2) (w - 1)
        generalize hq : (N.length - 2) / (w - 1) = q at dm
        generalize hrr : (N.length - 2) % (w - 1) = r at dm hr lN
        have e : R.length + 1 - 2 = (w - 1) * q - 1 := by omega
        have q1 : 1 ≤ q := by
          cases q with
          | zero => rw [Nat.mul_zero] at dm; omega
          | succ q => omega
        obtain ⟨u, rfl⟩ : ∃ u, q = u + 1 := ⟨q - 1, by omega⟩
        have e2 : (w - 1) * (u + 1) - 1 = (w - 2) + (w - 1) * u := by
          rw [Nat.mul_succ]
          omega
        rw [e, e2, Nat.add_mul_mod_self_left, Nat.mod_eq_of_lt (by omega)]
        omega
    rw [z0] at ih
    have ih' : Gp w (A.sum :: R) c := by simpa using ih
    rw [hz]
    generalize hzz : w - 2 - (N.length - 2) % (w - 1) = z at *
    have st : Gp w (N ++ List.replicate z 0) ((List.replicate z 0 ++ A).sum + c) := by
      refine .step (R := R) ?_ ?_ (zeros_sorted _ s) ?_ (by rw [zeros_sum]; exact ih')
      · rw [List.append_assoc]
        exact List.perm_append_comm.trans (p.append_left _)
      · rw [List.length_append, List.length_replicate, l]
        omega
      · intro a ha r hr'
        rcases List.mem_append.mp ha with h | h
        · rw [List.eq_of_mem_replicate h]
          exact Nat.zero_le _
        · exact m a h r hr'
    rw [zeros_sum] at st
    exact st
theorem Gr.perm {w : Nat} {N N' : List Nat} {c : Nat} (g : Gr w N c) (p : N'.Perm N) : Gr w N' c := by
  cases g with
  | one x => rw [List.perm_singleton.mp p]; exact .one x
  | step q h2 l s m t => exact .step (p.trans q) (by rw [p.length_eq]; exact h2) (by rw [p.length_eq]; exact l) s m t
/-- any merges of two to w -/
inductive Mg (w : Nat) : List Nat → Nat → Prop
  | one (x : Nat) : Mg w [x] 0
  | step {N S R : List Nat} {c : Nat} (p : N.Perm (S ++ R)) (h2 : 2 ≤ S.length) (hw : S.length ≤ w) (t : Mg w (S.sum :: R) c) : Mg w N (S.sum + c)
theorem Mg.perm {w : Nat} {N N' : List Nat} {c : Nat} (g : Mg w N c) (p : N'.Perm N) : Mg w N' c := by
  cases g with
  | one x => rw [List.perm_singleton.mp p]; exact .one x
  | step q h2 hw t => exact .step (p.trans q) h2 hw t
theorem Mg.mono {w w' : Nat} (h : w ≤ w') {N : List Nat} {c : Nat} (g : Mg w N c) : Mg w' N c := by
  induction g with
  | one x => exact .one x
  | step p h2 hw _ ih => exact .step p h2 (Nat.le_trans hw h) ih
theorem kk_le {w n : Nat} (hw : 2 ≤ w) : 2 ≤ kk w n ∧ kk w n ≤ w := by
  have := Nat.mod_lt (n - 2) (show w - 1 > 0 by omega)
  unfold kk
  omega
theorem Gr.mg {w : Nat} (hw : 2 ≤ w) {N : List Nat} {c : Nat} (g : Gr w N c) : Mg w N c := by
  induction g with
  | one x => exact .one x
  | step p h2 l s m _ ih => exact .step p (by rw [l]; exact (kk_le hw).1) (by rw [l]; exact (kk_le hw).2) ih
theorem kraft_const (w D d : Nat) : ∀ l : List Nat, kraft w D (l.map fun x => (x, d)) = l.length * w ^ (D - d)
  | [] => by simp [kraft]
  | x :: l => by
    rw [List.map_cons, kraft_cons, kraft_const w D d l, List.length_cons, Nat.add_mul, Nat.one_mul, Nat.add_comm]
/-- a family: each weight at a depth, all together no more than fit -/
structure Fam (w : Nat) (N : List Nat) (c : Nat) (ps : List Lf) (D : Nat) : Prop where
  p : (ps.map (·.1)).Perm N
  d : ∀ q ∈ ps, q.2 ≤ D
  k : kraft w D ps ≤ w ^ D
  c : costF ps = c
theorem Mg.fam {w : Nat} {N : List Nat} {c : Nat} (g : Mg w N c) : ∃ ps D, Fam w N c ps D := by
  induction g with
  | one x => exact ⟨[(x, 0)], 0, by simp, by simp, by simp [kraft], by simp [costF]⟩
  | @step N S R c p h2 hw t ih =>
    obtain ⟨ps, D, h1, hd, hk, hc⟩ := ih
    obtain ⟨q, hq, eq⟩ := List.mem_map.mp (h1.mem_iff.mpr (List.mem_cons_self (a := S.sum) (l := R)))
    have pe := List.perm_cons_erase hq
    have hqD := hd q hq
    have pr : ((ps.erase q).map (·.1)).Perm R := by
      have := (pe.map (·.1)).symm.trans h1
      rw [List.map_cons, eq] at this
      exact this.cons_inv
    have hd1 : ∀ u ∈ ps.erase q, u.2 ≤ D := fun u hu => hd u (List.mem_of_mem_erase hu)
    have k1 := kraft_perm (w := w) (D := D) pe
    have c1 := costF_perm pe
    rw [kraft_cons] at k1
    rw [costF_cons, eq] at c1
    refine ⟨(S.map fun x => (x, q.2 + 1)) ++ ps.erase q, D + 1, ?_, ?_, ?_, ?_⟩
    · rw [List.map_append, List.map_map]
      have e : S.map ((·.1) ∘ fun x => ((x, q.2 + 1) : Lf)) = S := by
        have : S.map ((·.1) ∘ fun x => ((x, q.2 + 1) : Lf)) = S.map id := rfl
        rw [this, List.map_id]
      rw [e]
      exact (pr.append_left _).trans p.symm
    · intro u hu
      rcases List.mem_append.mp hu with h | h
      · obtain ⟨x, _, rfl⟩ := List.mem_map.mp h
        show q.2 + 1 ≤ D + 1
        omega
      · have := hd1 u h
        omega
    · rw [kraft_app, kraft_const, kraft_up w D _ hd1]
      have e : D + 1 - (q.2 + 1) = D - q.2 := by omega
      rw [e, Nat.pow_succ, Nat.mul_comm (w ^ D)]
      have a1 : S.length * w ^ (D - q.2) ≤ w * w ^ (D - q.2) := Nat.mul_le_mul_right _ hw
      have a2 : w * (w ^ (D - q.2) + kraft w D (ps.erase q)) ≤ w * w ^ D := Nat.mul_le_mul_left _ (by rw [← k1]; exact hk)
      rw [Nat.mul_add] at a2
      omega
    · rw [costF_app, costF_same, Nat.mul_add, Nat.mul_one]
      omega
theorem kraft_mod (v D : Nat) : ∀ ps : List Lf, kraft (v + 1) D ps % v = ps.length % v
  | [] => rfl
  | p :: ps => by
    rw [kraft_cons, List.length_cons, Nat.add_mod, kraft_mod v D ps, Nat.pow_mod]
    have e : (v + 1) % v = 1 % v := by rw [Nat.add_mod_left]
    rw [e, ← Nat.pow_mod, Nat.one_pow, ← Nat.add_mod, Nat.add_comm]
theorem zs_mod {v n : Nat} (hv : 1 ≤ v) (hn : 1 ≤ n) : (n + zs (v + 1) n) % v = 1 % v ∧ zs (v + 1) n < v := by
  unfold zs
  by_cases h : n ≤ 1
  · rw [if_pos h]
    exact ⟨by rw [show n = 1 by omega], by omega⟩
  · rw [if_neg h]
    have dm := Nat.div_add_mod (n - 2) v
    have hr := Nat.mod_lt (n - 2) (show v > 0 by omega)
    have e0 : v + 1 - 1 = v := by omega
    rw [e0]
    generalize (n - 2) / v = q at dm
    generalize (n - 2) % v = r at dm hr
    refine ⟨?_, by omega⟩
    have e : n + (v + 1 - 2 - r) = 1 + v * (q + 1) := by
      rw [Nat.mul_succ]
      omega
    rw [e, Nat.add_mul_mod_self_left]
theorem fam_lb {w : Nat} (hw : 2 ≤ w) {M N : List Nat} {c c' : Nat} {ps : List Lf} {D : Nat} (g : Gr w M c) (p : M.Perm N) (F : Fam w N c' ps D) : c ≤ c' := by
  obtain ⟨v, rfl⟩ : ∃ v, w = v + 1 := ⟨w - 1, by omega⟩
  have hv : 1 ≤ v := by omega
  have hM : 1 ≤ M.length := by
    cases g with
    | one x => simp
    | step _ h2 _ _ _ _ => omega
  have gp := g.pad hw
  obtain ⟨z1, z2⟩ := zs_mod hv hM
  have lM : ps.length = M.length := by rw [← List.length_map (f := (·.1)), F.p.length_eq, p.length_eq]
  obtain ⟨s, hs⟩ : ∃ s, kraft (v + 1) D ps + s = (v + 1) ^ D := ⟨(v + 1) ^ D - kraft (v + 1) D ps, by have := F.k; omega⟩
  have kp : kraft (v + 1) D (ps ++ (List.replicate s 0).map fun x => (x, D)) = (v + 1) ^ D := by
    rw [kraft_app, kraft_same, List.length_replicate, hs]
  have km := kraft_mod v D (ps ++ (List.replicate s 0).map fun x => (x, D))
  rw [kp, List.length_append, List.length_map, List.length_replicate, lM, Nat.pow_mod, Nat.add_mod_left, ← Nat.pow_mod, Nat.one_pow] at km
  have hmod : s % v = zs (v + 1) M.length := by
    generalize zs (v + 1) M.length = z at z1 z2
    have a1 := Nat.div_add_mod (M.length + s) v
    have a2 := Nat.div_add_mod (M.length + z) v
    rw [← km] at a1
    rw [z1] at a2
    generalize (M.length + s) / v = a at a1
    generalize (M.length + z) / v = b at a2
    have e : s + v * b = z + v * a := by omega
    have e2 : (s + v * b) % v = (z + v * a) % v := by rw [e]
    rw [Nat.add_mul_mod_self_left, Nat.add_mul_mod_self_left, Nat.mod_eq_of_lt z2] at e2
    exact e2
  have dm := Nat.div_add_mod s v
  rw [hmod] at dm
  obtain ⟨c2, h2, g2⟩ := gp.mores hw (s / v)
  rw [List.append_assoc, List.replicate_append_replicate] at g2
  have e0 : v + 1 - 1 = v := by omega
  rw [e0, Nat.add_comm (zs (v + 1) M.length), dm] at g2
  have := lbp hw g2 (ps ++ (List.replicate s 0).map fun x => (x, D)) D (by
    rw [List.map_append, List.map_map]
    have e : (List.replicate s 0).map ((·.1) ∘ fun x => ((x, D) : Lf)) = List.replicate s 0 := by
      have : (List.replicate s 0).map ((·.1) ∘ fun x => ((x, D) : Lf)) = (List.replicate s 0).map id := rfl
      rw [this, List.map_id]
    rw [e]
    exact (F.p.trans p.symm).append_right _) (fun q hq => by
    rcases List.mem_append.mp hq with h | h
    · exact F.d q h
    · obtain ⟨x, _, rfl⟩ := List.mem_map.mp h
      exact Nat.le_refl _) kp
  rw [costF_app, costF_same, sum_zeros, Nat.zero_mul, F.c] at this
  omega
/-- the least ones first: no merges move fewer -/
theorem gr_le {w : Nat} (hw : 2 ≤ w) {M N : List Nat} {c c' : Nat} (g : Gr w M c) (p : M.Perm N) (m : Mg w N c') : c ≤ c' := by
  obtain ⟨ps, D, F⟩ := m.fam
  exact fam_lb hw g p F
theorem gr_uniq {w : Nat} (hw : 2 ≤ w) {M N : List Nat} {c c' : Nat} (g : Gr w M c) (p : M.Perm N) (g' : Gr w N c') : c = c' :=
  Nat.le_antisymm (gr_le hw g p (g'.mg hw)) (gr_le hw g' p.symm (g.mg hw))
/-- more at a time: no more moved -/
theorem gr_wider {w : Nat} (hw : 2 ≤ w) {M N : List Nat} {c c' : Nat} (g : Gr w M c) (p : N.Perm M) (g' : Gr (w + 1) N c') : c' ≤ c :=
  gr_le (by omega) g' p ((g.mg hw).mono (by omega))
theorem Gp.fam {w : Nat} {N : List Nat} {c : Nat} (g : Gp w N c) : ∃ (ps : List Lf) (D : Nat), (ps.map (·.1)).Perm N ∧ (∀ q ∈ ps, q.2 ≤ D) ∧ kraft w D ps = w ^ D ∧ costF ps = c := by
  induction g with
  | one x => exact ⟨[(x, 0)], 0, by simp, by simp, by simp [kraft], by simp [costF]⟩
  | @step N S R c p lw s m t ih =>
    obtain ⟨ps, D, h1, hd, hk, hc⟩ := ih
    obtain ⟨q, hq, eq⟩ := List.mem_map.mp (h1.mem_iff.mpr (List.mem_cons_self (a := S.sum) (l := R)))
    have pe := List.perm_cons_erase hq
    have hqD := hd q hq
    have pr : ((ps.erase q).map (·.1)).Perm R := by
      have := (pe.map (·.1)).symm.trans h1
      rw [List.map_cons, eq] at this
      exact this.cons_inv
    have hd1 : ∀ u ∈ ps.erase q, u.2 ≤ D := fun u hu => hd u (List.mem_of_mem_erase hu)
    have k1 := kraft_perm (w := w) (D := D) pe
    have c1 := costF_perm pe
    rw [kraft_cons, hk] at k1
    rw [costF_cons, eq] at c1
    refine ⟨(S.map fun x => (x, q.2 + 1)) ++ ps.erase q, D + 1, ?_, ?_, ?_, ?_⟩
    · rw [List.map_append, List.map_map]
      have e : S.map ((·.1) ∘ fun x => ((x, q.2 + 1) : Lf)) = S := by
        have : S.map ((·.1) ∘ fun x => ((x, q.2 + 1) : Lf)) = S.map id := rfl
        rw [this, List.map_id]
      rw [e]
      exact (pr.append_left _).trans p.symm
    · intro u hu
      rcases List.mem_append.mp hu with h | h
      · obtain ⟨x, _, rfl⟩ := List.mem_map.mp h
        show q.2 + 1 ≤ D + 1
        omega
      · have := hd1 u h
        omega
    · rw [kraft_app, kraft_const, kraft_up w D _ hd1, lw]
      have e : D + 1 - (q.2 + 1) = D - q.2 := by omega
      rw [e, ← Nat.mul_add, ← k1, Nat.pow_succ, Nat.mul_comm]
    · rw [costF_app, costF_same, Nat.mul_add, Nat.mul_one]
      omega
theorem gp_uniq {w : Nat} (hw : 2 ≤ w) {M N : List Nat} {c c' : Nat} (g : Gp w M c) (p : M.Perm N) (g' : Gp w N c') : c = c' := by
  obtain ⟨ps, D, f1, f2, f3, f4⟩ := g.fam
  obtain ⟨qs, E, h1, h2, h3, h4⟩ := g'.fam
  have a := lbp hw g qs E (h1.trans p.symm) h2 h3
  have b := lbp hw g' ps D (f1.trans p) f2 f3
  omega
/-- the padded way tells the same -/
theorem gr_padded {w : Nat} (hw : 2 ≤ w) {M N : List Nat} {c c' : Nat} (g : Gr w M c) (p : (M ++ List.replicate (zs w M.length) 0).Perm N) (g' : Gp w N c') : c = c' := gp_uniq hw (g.pad hw) p g'
/-- there is such a way -/
theorem least_first {α : Type} (le : α → α → Bool) (tr : ∀ a b c, le a b = true → le b c = true → le a c = true) (to : ∀ a b, le a b = true ∨ le b a = true) : ∀ (l : List α) (k : Nat), k ≤ l.length →
    ∃ A R : List α, l.Perm (A ++ R) ∧ A.length = k ∧ A.Pairwise (fun a b => le a b = true) ∧ ∀ a ∈ A, ∀ r ∈ R, le a r = true := fun l k hk => by
  have st := List.pairwise_mergeSort (le := le) tr (fun a b => by rcases to a b with h | h <;> simp [h]) l
  have pm := List.mergeSort_perm l le
  refine ⟨(l.mergeSort le).take k, (l.mergeSort le).drop k, ?_, ?_, ?_, ?_⟩
  · rw [List.take_append_drop]
    exact pm.symm
  · rw [List.length_take, pm.length_eq]
    omega
  · exact (st.sublist (List.take_sublist _ _))
  · rw [← List.take_append_drop k (l.mergeSort le)] at st
    exact (List.pairwise_append.mp st).2.2
end K8
set_option Elab.async false
set_option maxRecDepth 100000
set_option maxHeartbeats 4000000
set_option pp.maxSteps 400
namespace RS
open PySem PySem.Spec PyProof.Rows L2 GX
theorem zs_int {n l : Nat} (hn : 2 ≤ n) (hl : 1 ≤ l) : ((1 : Int) - (l : Nat)) % ((n : Int) - 1) = (K8.zs n l : Nat) := by
  obtain ⟨v, rfl⟩ : ∃ v, n = v + 1 := ⟨n - 1, by omega⟩
  have hv : 1 ≤ v := by omega
  rw [show ((v + 1 : Nat) : Int) - 1 = (v : Int) by omega]
  unfold K8.zs
  by_cases h : l ≤ 1
  · have : l = 1 := by omega
    subst this
    rw [if_pos h]
    simp
  · rw [if_neg h, show v + 1 - 1 = v by omega]
    have dm := Nat.div_add_mod (l - 2) v
    have hr := Nat.mod_lt (l - 2) (show v > 0 by omega)
    generalize (l - 2) / v = q at dm
    generalize (l - 2) % v = r at dm hr
    have e : (1 : Int) - (l : Nat) = ((v + 1 - 2 - r : Nat) : Int) + (v : Int) * (-((q : Int) + 1)) := by
      have : (l : Int) = (v : Int) * (q : Int) + (r : Int) + 2 := by
        have : l = v * q + r + 2 := by omega
        rw [this]
        push_cast
        rfl
      rw [this, Int.mul_neg, Int.mul_add, Int.mul_one]
      omega
    rw [e, Int.add_mul_emod_self_left]
    exact Int.emod_eq_of_lt (by omega) (by omega)
theorem nats_of {l : List Int} {m : List Nat} (p : l.Perm (m.map fun n => ((n : Nat) : Int))) (s : l.Pairwise (· ≤ ·)) : ∃ m' : List Nat, l = m'.map (fun n => ((n : Nat) : Int)) ∧ m'.Perm m ∧ m'.Pairwise (· ≤ ·) := by
  have e : l = (l.map Int.toNat).map fun n => ((n : Nat) : Int) := by
    rw [List.map_map]
    have : l.map ((fun n => ((n : Nat) : Int)) ∘ Int.toNat) = l.map id := List.map_congr_left fun x hx => by
      obtain ⟨n, _, rfl⟩ := List.mem_map.mp (p.mem_iff.mp hx)
      simp
    rw [this, List.map_id]
  refine ⟨l.map Int.toNat, e, ?_, ?_⟩
  · have := p.map Int.toNat
    rw [List.map_map] at this
    have e2 : m.map (Int.toNat ∘ fun n => ((n : Nat) : Int)) = m.map id := List.map_congr_left fun x _ => by simp
    rw [e2, List.map_id] at this
    exact this
  · exact (List.pairwise_map.mpr (s.imp fun h => Int.toNat_le_toNat h))
theorem sameNew {H H1 : Hp} {a : Addr} {o : HO} (s : Same H H1) (h : H1 a = none) : Same H (upd H1 a o) := fun b u e => by
  rw [upd_ne (ne_of_none (s _ _ e) h)]
  exact s _ _ e
theorem dpAll_nats {K : PySem.W.Frag} {H : Hp} : ∀ {xs : List V} {ls : List Nat}, DpAll K H xs (ls.map fun n => .int (n : Nat)) → xs = ls.map fun n => V.int (n : Nat)
  | _, [], h => by cases h; rfl
  | _, l :: ls, h => by
    cases h with
    | cons h1 t =>
      cases h1
      rw [dpAll_nats t, List.map_cons]
section
variable {P : Program} {w : World} {K : PySem.W.Frag} {mg : Str → Option Value} {base : Heap}
theorem scPad : FnScope ["_law_lengths_here", "_law_ways", "_law_left", "_law_found", "_law_size"] ["_law_lengths_here", "_law_ways"] (defScope s__law_padded) := ⟨rfl, rfl, rfl, by decide +kernel, rfl, by decide +kernel, by decide +kernel⟩
def spPad (K : PySem.W.Frag) : Sp := fun vs H Q _ => ∃ (vl : V) (ls : List Nat) (n : Nat), vs = [vl, .int (n : Nat)] ∧ Dp K H vl (lensD ls) ∧ OkLens ls ∧ 2 ≤ n ∧ n ≤ 6 ∧ ∀ (H' : Hp) (c : Nat) (N : List Nat), Same H H' → (ls ++ List.replicate (K8.zs n ls.length) 0).Perm N → K8.Gp n N c → Q (.int (c : Nat)) H'
theorem pad_ok {c : Addr} (D : DefAt K mg "_law_padded" s__law_padded c) (T : Txt K mg) (hsum : mg "sum" = none) : Cal P w K mg base CX0 1 "_law_padded" ["_law_lengths_here", "_law_ways"] (spPad K) := by
  have sc := scPad
  refine def_ok0 D sc (fun vs H Q E h => ?_) (fun _ _ _ _ _ _ us hl => match us, hl with | [_, _], _ => rfl) (fun f A outer s H vs Q E hr h => ?_)
  · obtain ⟨vl, ls, n, rfl, _⟩ := h
    rfl
  · obtain ⟨vl, ls, n, rfl, hl, okl, n2, n6, k⟩ := h
    have hu := hr.units
    refine ⟨_, (pss_cons (ps_set (i := 2) sc.nd rfl (Or.inl rfl) (pe_callB cr_sortedI (by rfl) T.sorted (by decide +kernel) (pa_cons (pe_op op_cat (pe_callTy call_list_of (by rfl) T.list_ (by decide +kernel) (pa_cons (pv 0) pa_nil)) (pe_op op_rep (pe_lst (pa_cons pe_int pa_nil)) (pe_op op_mod (pe_op op_sub pe_int (pe_callB call_lenD (by rfl) T.len PySem.boot_len (pa_cons (pv 0) pa_nil))) (pe_op op_sub (pv 1) pe_int)))) pa_nil))) (pss_cons (ps_set (i := 3) sc.nd rfl (Or.inl rfl) pe_int) (pss_cons (ps_while PassesOwn.never (pt_cmpR op_gt (pe_callB call_len_seq (by rfl) T.len PySem.boot_len (pa_cons (pv 2) pa_nil)) pe_int (nomark _)) (pss_cons (ps_set (i := 4) sc.nd rfl (Or.inl rfl) (pe_callB (cr_sum rfl) (by rfl) hsum (by decide +kernel) (pa_cons (pe_slice sl_list (pv 2) po_none (po_some (pv 1))) pa_nil))) (pss_cons (ps_set (i := 3) sc.nd rfl (Or.inl rfl) (pe_op op_add (pv 3) (pv 4))) (pss_one (ps_set (i := 2) sc.nd rfl (Or.inl rfl) (pe_callB cr_sortedI (by rfl) T.sorted (by decide +kernel) (pa_cons (pe_op op_cat (pe_slice sl_list (pv 2) (po_some (pv 1)) po_none) (pe_lst (pa_cons (pv 4) pa_nil))) pa_nil))))))) (pss_one (ps_ret (pv 3)))))), ?_⟩
    have o1 := okl.one
    have o2 := okl.most
    have hlt := hl
    cases hl with
    | @lst aL xl _ hS hI =>
      have exl := dpAll_nats hI
      subst exl
      refine ⟨_, rfl, aL, _, rfl, .inl hS, fun C hC => ?_⟩
      have s1 := sameNew (o := .lst (ls.map fun n => V.int (n : Nat))) (Same.refl H) hC
      have hC1 : upd H C (.lst (ls.map fun n => V.int (n : Nat))) C = some (.lst (ls.map fun n => V.int (n : Nat))) := upd_same
      generalize upd H C (.lst (ls.map fun n => V.int (n : Nat))) = H1 at s1 hC1 ⊢
      refine ⟨by show 1 ≤ sizeLine; decide, fun Z hZ => ?_⟩
      have s2 := sameNew (o := .lst [V.int 0]) (Same.refl H1) hZ
      have hZ1 : upd H1 Z (.lst [V.int 0]) Z = some (.lst [V.int 0]) := upd_same
      have hC2 := s2 _ _ hC1
      have s12 := s1.trans s2
      generalize upd H1 Z (.lst [V.int 0]) = H2 at s12 hZ1 hC2 ⊢
      refine ⟨_, rfl, _, _, _, rfl, dp_same s12 _ hlt, rfl, _, _, rfl, rfl, _, rfl, _, _, rfl, rfl, _, _, rfl, rfl, by show (0 : Int) < (n : Int) - 1; omega, ?_⟩
      rw [List.length_map]
      have ez := zs_int n2 o1
      obtain ⟨_, zlt⟩ := K8.zs_mod (v := n - 1) (n := ls.length) (by omega) o1
      rw [show n - 1 + 1 = n by omega] at zlt
      refine ⟨Z, (K8.zs n ls.length : Nat), _, rfl, congrArg V.int ez, hZ1, by omega, by omega, ?_, fun R hR => ?_⟩
      · show 1 * _ ≤ sizeLine
        rw [Int.toNat_natCast]
        exact Nat.le_of_lt (small1000 (by omega))
      rw [Int.toNat_natCast]
      have er : (List.replicate (K8.zs n ls.length) [V.int 0]).flatten = (List.replicate (K8.zs n ls.length) 0).map fun n => V.int ((n : Nat) : Int) := by
        induction K8.zs n ls.length with
        | zero => rfl
        | succ k ih => rw [List.replicate_succ, List.flatten_cons, ih, List.replicate_succ, List.map_cons]; rfl
      rw [er]
      have s3 := sameNew (o := .lst ((List.replicate (K8.zs n ls.length) 0).map fun n => V.int ((n : Nat) : Int))) s12 hR
      have hR3 : upd H2 R (.lst ((List.replicate (K8.zs n ls.length) 0).map fun n => V.int ((n : Nat) : Int))) R = some (.lst ((List.replicate (K8.zs n ls.length) 0).map fun n => V.int ((n : Nat) : Int))) := upd_same
      have hC3 : upd H2 R (.lst ((List.replicate (K8.zs n ls.length) 0).map fun n => V.int ((n : Nat) : Int))) C = some (.lst (ls.map fun n => V.int (n : Nat))) := (upd_ne fun z => by rw [← z, hC2] at hR; cases hR).trans hC2
      generalize upd H2 R (.lst ((List.replicate (K8.zs n ls.length) 0).map fun n => V.int ((n : Nat) : Int))) = H3 at s3 hR3 hC3 ⊢
      refine ⟨C, R, _, _, rfl, rfl, hC3, hR3, ?_, fun A0 hA0 => ?_⟩
      · rw [List.length_map, List.length_map, List.length_replicate]
        exact Nat.le_of_lt (small1000 (by omega))
      have s4 := sameNew (o := .lst ((ls.map fun n => V.int (n : Nat)) ++ (List.replicate (K8.zs n ls.length) 0).map fun n => V.int ((n : Nat) : Int))) s3 hA0
      refine ⟨A0, (ls ++ List.replicate (K8.zs n ls.length) 0).map fun n => ((n : Nat) : Int), rfl, SqL.of (by rw [upd_same, List.map_map, List.map_append]; rfl), fun ns' p pm pw hp => ?_⟩
      obtain ⟨M0, rfl, pm0, pw0⟩ := nats_of pm pw
      have s5 := sameNew (o := .lst ((M0.map fun n => ((n : Nat) : Int)).map V.int)) s4 hp
      have hp5 : upd (upd H3 A0 (.lst ((ls.map fun n => V.int (n : Nat)) ++ (List.replicate (K8.zs n ls.length) 0).map fun n => V.int ((n : Nat) : Int)))) p (.lst ((M0.map fun n => ((n : Nat) : Int)).map V.int)) p = some (.lst ((M0.map fun n => ((n : Nat) : Int)).map V.int)) := upd_same
      generalize upd (upd H3 A0 (.lst ((ls.map fun n => V.int (n : Nat)) ++ (List.replicate (K8.zs n ls.length) 0).map fun n => V.int ((n : Nat) : Int)))) p (.lst ((M0.map fun n => ((n : Nat) : Int)).map V.int)) = H5 at s5 hp5 ⊢
      have lM0 := pm0.length_eq
      rw [List.length_append, List.length_replicate] at lM0
      refine ⟨fun mm σ H' => ∃ (M : List Nat) (f : Nat) (q : Addr) (v4 : Option V), σ = [some (.ref aL), some (.int (n : Nat)), some (.ref q), some (.int (f : Nat)), v4] ∧ Same H H' ∧ H' q = some (.lst ((M.map fun n => ((n : Nat) : Int)).map V.int)) ∧ M.Pairwise (· ≤ ·) ∧ 1 ≤ M.length ∧ M.length ≤ 50 ∧ M.length % (n - 1) = 1 % (n - 1) ∧ (∀ c, K8.Gp n M c → K8.Gp n M0 (f + c)) ∧ mm = M.length,
        ⟨_, M0, 0, p, none, rfl, s5, hp5, pw0, by omega, by omega, ?_, fun c g => by rw [Nat.zero_add]; exact g, rfl⟩, ?_⟩
      · rw [lM0]
        have := (K8.zs_mod (v := n - 1) (n := ls.length) (by omega) o1).1
        rw [show n - 1 + 1 = n by omega] at this
        exact this
      rintro mm σ H6 ⟨M, f, q, v4, rfl, sm, hq, pw6, m1, m50, md, gp, rfl⟩
      refine ⟨_, rfl, q, _, rfl, .inl (SqL.of hq), _, _, rfl, rfl, _, rfl, ?_⟩
      rw [List.length_map, List.length_map]
      by_cases hgt : M.length > 1
      · refine iteT' (decide_eq_true (by omega)) ⟨_, fun _ _ h => h, ?_⟩
        have hn1 : n ≤ M.length := by
          have dm := Nat.div_add_mod M.length (n - 1)
          rw [md] at dm
          generalize M.length / (n - 1) = u at dm
          by_cases h2 : n = 2
          · omega
          · rw [Nat.mod_eq_of_lt (show 1 < n - 1 by omega)] at dm
            cases u with
            | zero => rw [Nat.mul_zero] at dm; omega
            | succ u => rw [Nat.mul_succ] at dm; omega
        have hcl : cutV ((M.map fun n => ((n : Nat) : Int)).map V.int) none (some (n : Nat)) = ((M.take n).map fun n => ((n : Nat) : Int)).map V.int := by
          unfold cutV
          rw [HT.sIx_nat, HT.sIx_none, List.length_map, List.length_map, Nat.min_eq_left hn1, List.drop_zero, Nat.sub_zero, List.map_take, List.map_take]
        have hcr : cutV ((M.map fun n => ((n : Nat) : Int)).map V.int) (some (n : Nat)) none = ((M.drop n).map fun n => ((n : Nat) : Int)).map V.int := by
          unfold cutV
          rw [HT.sIx_nat, HT.sIx_none, List.length_map, List.length_map, Nat.min_eq_left hn1, List.take_of_length_le (by rw [List.length_drop, List.length_map, List.length_map]; exact Nat.le_refl _), List.map_drop, List.map_drop]
        refine ⟨_, rfl, _, rfl, _, rfl, q, _, rfl, SqL.of hq, fun p1 hp1 => ?_⟩
        rw [hcl]
        have s7 := sameNew (o := .lst (((M.take n).map fun n => ((n : Nat) : Int)).map V.int)) (Same.refl H6) hp1
        refine ⟨p1, _, rfl, SqL.of upd_same, ?_⟩
        rw [isum_nat (M.take n) fun n => n]
        generalize upd H6 p1 (.lst (((M.take n).map fun n => ((n : Nat) : Int)).map V.int)) = H7 at s7 ⊢
        have hq7 := s7 _ _ hq
        refine ⟨_, rfl, _, rfl, _, _, rfl, rfl, ?_⟩
        refine ⟨_, rfl, _, rfl, _, rfl, q, _, rfl, SqL.of hq7, fun p2 hp2 => ?_⟩
        rw [hcr]
        have s8 := sameNew (o := .lst (((M.drop n).map fun n => ((n : Nat) : Int)).map V.int)) (Same.refl H7) hp2
        have hp28 : upd H7 p2 (.lst (((M.drop n).map fun n => ((n : Nat) : Int)).map V.int)) p2 = some (.lst (((M.drop n).map fun n => ((n : Nat) : Int)).map V.int)) := upd_same
        generalize upd H7 p2 (.lst (((M.drop n).map fun n => ((n : Nat) : Int)).map V.int)) = H8 at s8 hp28 ⊢
        refine ⟨_, rfl, by show 1 ≤ sizeLine; decide, fun p3 hp3 => ?_⟩
        have s9 := sameNew (o := .lst [V.int ((((M.take n).map fun n => n).sum : Nat) : Int)]) (Same.refl H8) hp3
        have n23 : p2 ≠ p3 := fun z => by rw [← z, hp28] at hp3; cases hp3
        have hp29 := s9 _ _ hp28
        have hp39 : upd H8 p3 (.lst [V.int ((((M.take n).map fun n => n).sum : Nat) : Int)]) p3 = some (.lst [V.int ((((M.take n).map fun n => n).sum : Nat) : Int)]) := upd_same
        generalize upd H8 p3 (.lst [V.int ((((M.take n).map fun n => n).sum : Nat) : Int)]) = H9 at s9 hp29 hp39 ⊢
        refine ⟨p2, p3, _, _, rfl, rfl, hp29, hp39, ?_, fun p4 hp4 => ?_⟩
        · rw [List.length_map, List.length_map, List.length_drop]
          exact Nat.le_of_lt (small1000 (by simp only [List.length_singleton]; omega))
        have hid : (M.take n).map (fun n => n) = M.take n := by
          have : (M.take n).map (fun n => n) = (M.take n).map id := rfl
          rw [this, List.map_id]
        rw [hid]
        have s10 := sameNew (o := .lst ((((M.drop n).map fun n => ((n : Nat) : Int)).map V.int) ++ [V.int (((M.take n).sum : Nat) : Int)])) (Same.refl H9) hp4
        refine ⟨p4, (M.drop n ++ [(M.take n).sum]).map fun n => ((n : Nat) : Int), rfl, SqL.of (by rw [upd_same, List.map_append, List.map_append]; rfl), fun ns' p5 pm5 pw5 hp5 => ?_⟩
        obtain ⟨M1, rfl, pm1, pw1⟩ := nats_of pm5 pw5
        have s11 := sameNew (o := .lst ((M1.map fun n => ((n : Nat) : Int)).map V.int)) s10 hp5
        have lM1 := pm1.length_eq
        rw [List.length_append, List.length_drop, List.length_singleton] at lM1
        refine ⟨_, ?_, M1, f + (M.take n).sum, p5, _, rfl, (((sm.trans s7).trans s8).trans s9).trans s11, upd_same, pw1, by omega, by omega, ?_, fun c g => ?_, rfl⟩
        · omega
        · rw [lM1, show M.length - n + 1 = M.length - (n - 1) by omega]
          have : M.length = (M.length - (n - 1)) + (n - 1) := by omega
          rw [this, Nat.add_mod_right] at md
          exact md
        · rw [Nat.add_assoc]
          refine gp _ (.step (A := M.take n) (R := M.drop n) (by rw [List.take_append_drop]) (by rw [List.length_take]; omega) (pw6.sublist (List.take_sublist _ _)) (fun a ha r hr => ?_) (g.perm ?_))
          · rw [← List.take_append_drop n M] at pw6
            exact (List.pairwise_append.mp pw6).2.2 a ha r hr
          · exact (List.perm_append_comm (l₁ := [(M.take n).sum])).trans pm1.symm
      · refine iteF' (decide_eq_false (by omega)) ⟨_, rfl, ?_⟩
        obtain ⟨x, rfl⟩ : ∃ x, M = [x] := List.length_eq_one_iff.mp (by omega)
        have := gp 0 (.one x)
        rw [Nat.add_zero] at this
        exact k H6 f M0 sm pm0.symm this
end
end RS
set_option Elab.async false
set_option maxRecDepth 100000
set_option maxHeartbeats 4000000
/-! heaps over places 0 .. n - 1, f what stands there -/
namespace HQ
section
variable {α : Type} {lt : α → α → Bool}
def par (i : Nat) : Nat := (i - 1) / 2
/-- each thing whose parent stands at k or behind it is no less than that parent -/
def From (lt : α → α → Bool) (n : Nat) (f : Nat → α) (k : Nat) : Prop := ∀ i, 1 ≤ i → i < n → k ≤ par i → lt (f i) (f (par i)) = false
def swp (f : Nat → α) (i j : Nat) : Nat → α := fun k => if k = i then f j else if k = j then f i else f k
inductive Desc (top : Nat) : Nat → Prop
  | refl : Desc top top
  | step {c : Nat} (h : 1 ≤ c) (d : Desc top (par c)) : Desc top c
/-- what lies under pos is no less than what lies over it -/
def Over (lt : α → α → Bool) (n : Nat) (f : Nat → α) (top pos : Nat) : Prop :=
  pos = top ∨ (1 ≤ pos ∧ Desc top (par pos) ∧ ∀ c, 1 ≤ c → c < n → par c = pos → lt (f c) (f (par pos)) = false)
structure Down (lt : α → α → Bool) (n : Nat) (f : Nat → α) (top pos : Nat) : Prop where
  ds : Desc top pos
  ok : ∀ i, 1 ≤ i → i < n → top ≤ par i → par i ≠ pos → i ≠ pos → lt (f i) (f (par i)) = false
  over : Over lt n f top pos
structure Up (lt : α → α → Bool) (n : Nat) (f : Nat → α) (top pos : Nat) : Prop where
  ds : Desc top pos
  ok : ∀ i, 1 ≤ i → i < n → top ≤ par i → i ≠ pos → lt (f i) (f (par i)) = false
  over : Over lt n f top pos
theorem par_lt {i : Nat} (h : 1 ≤ i) : par i < i := by unfold par; omega
theorem Desc.le {top p : Nat} (h : Desc top p) : top ≤ p := by
  induction h with
  | refl => exact Nat.le_refl _
  | step h _ ih => exact Nat.le_trans ih (Nat.le_of_lt (par_lt h))
theorem Desc.zero : ∀ p : Nat, Desc 0 p := fun p => by
  induction p using Nat.strongRecOn with
  | ind p ih =>
    by_cases h : 1 ≤ p
    · exact .step h (ih _ (par_lt h))
    · have e : p = 0 := by omega
      subst e
      exact .refl
theorem Desc.up {top p : Nat} (h : Desc top p) (ne : p ≠ top) : 1 ≤ p ∧ Desc top (par p) := by
  cases h with
  | refl => exact absurd rfl ne
  | step h d => exact ⟨h, d⟩
theorem par_left (i : Nat) : par (2 * i + 1) = i := by unfold par; omega
theorem par_right (i : Nat) : par (2 * i + 2) = i := by unfold par; omega
theorem par_iff {i p : Nat} (h : 1 ≤ i) : par i = p ↔ i = 2 * p + 1 ∨ i = 2 * p + 2 := by unfold par; omega
theorem From.down {n : Nat} {f : Nat → α} {k : Nat} (h : From lt n f (k + 1)) : Down lt n f k k :=
  ⟨.refl, fun i h1 h2 h3 h4 _ => h i h1 h2 (by omega), .inl rfl⟩
theorem Down.leaf {n : Nat} {f : Nat → α} {top pos : Nat} (h : Down lt n f top pos) (hl : ¬ pos < n / 2) : Up lt n f top pos :=
  ⟨h.ds, fun i h1 h2 h3 h4 => h.ok i h1 h2 h3 (fun e => by
    rcases (par_iff h1).mp e with z | z <;> omega) h4, h.over⟩
/-- the lesser child goes up -/
theorem Down.step (O : SrtO.Swo lt) {n : Nat} {f : Nat → α} {top pos c : Nat} (h : Down lt n f top pos) (hc : c < n) (hp : c = 2 * pos + 1 ∨ c = 2 * pos + 2)
    (hm : ∀ d, (d = 2 * pos + 1 ∨ d = 2 * pos + 2) → d < n → lt (f d) (f c) = false) : Down lt n (swp f c pos) top c := by
  have pc : par c = pos := (par_iff (by omega)).mpr hp
  have hle := h.ds.le
  refine ⟨.step (by omega) (by rw [pc]; exact h.ds), fun i h1 h2 h3 h4 h5 => ?_, .inr ⟨by omega, by rw [pc]; exact h.ds, fun d h1 h2 h3 => ?_⟩⟩
  · -- i is not c, its parent is not c
    have si : swp f c pos i = if i = pos then f c else f i := by
      unfold swp
      rw [if_neg h5]
    have sp : swp f c pos (par i) = if par i = pos then f c else f (par i) := by
      unfold swp
      rw [if_neg h4]
    rw [si, sp]
    have nn : ¬ (i = pos ∧ par i = pos) := fun z => by
      have := par_lt h1
      omega
    by_cases e1 : i = pos
    · have e2 : ¬ par i = pos := fun z => nn ⟨e1, z⟩
      rw [if_pos e1, if_neg e2]
      rcases h.over with z | ⟨z1, z2, z3⟩
      · rw [e1] at h3
        have := par_lt (i := pos) (by omega)
        omega
      · rw [e1]
        exact z3 c (by omega) hc pc
    · rw [if_neg e1]
      by_cases e2 : par i = pos
      · rw [if_pos e2]
        exact hm i ((par_iff h1).mp e2) h2
      · rw [if_neg e2]
        exact h.ok i h1 h2 h3 e2 e1
  · -- d under c
    have e1 : d ≠ c := fun z => by
      have := par_lt h1
      omega
    have e2 : d ≠ pos := fun z => by
      have := par_lt h1
      have := par_lt (i := c) (by omega)
      omega
    have s1 : swp f c pos d = f d := by
      unfold swp
      rw [if_neg e1, if_neg e2]
    have s2 : swp f c pos (par c) = f c := by
      unfold swp
      rw [pc, if_neg (by have := par_lt (i := c) (by omega); omega), if_pos rfl]
    rw [s1, s2]
    have := h.ok d h1 h2 (by rw [h3]; omega) (by rw [h3]; have := par_lt (i := c) (by omega); omega) e2
    rw [h3] at this
    exact this
/-- it goes up past its parent -/
theorem Up.step (O : SrtO.Swo lt) {n : Nat} {f : Nat → α} {top pos : Nat} (h : Up lt n f top pos) (hn : pos < n) (ht : top < pos) (hl : lt (f pos) (f (par pos)) = true) : Up lt n (swp f (par pos) pos) top (par pos) := by
  have hpp := par_lt (i := pos) (by omega)
  rcases h.over with z | ⟨z1, z2, z3⟩
  · omega
  refine ⟨z2, fun i h1 h2 h3 h4 => ?_, ?_⟩
  · have si : swp f (par pos) pos i = if i = pos then f (par pos) else f i := by
      unfold swp
      rw [if_neg h4]
    rw [si]
    by_cases e1 : i = pos
    · rw [if_pos e1]
      have sp : swp f (par pos) pos (par i) = f pos := by
        unfold swp
        rw [e1, if_pos rfl]
      rw [sp]
      exact O.asym _ _ hl
    · rw [if_neg e1]
      by_cases e2 : par i = par pos
      · have sp : swp f (par pos) pos (par i) = f pos := by
          unfold swp
          rw [if_pos e2]
        rw [sp]
        have a := h.ok i h1 h2 h3 e1
        rw [e2] at a
        exact O.tr _ _ _ (O.asym _ _ hl) a
      · by_cases e3 : par i = pos
        · have sp : swp f (par pos) pos (par i) = f (par pos) := by
            unfold swp
            rw [if_neg e2, if_pos e3]
          rw [sp]
          exact z3 i h1 h2 e3
        · have sp : swp f (par pos) pos (par i) = f (par i) := by
            unfold swp
            rw [if_neg e2, if_neg e3]
          rw [sp]
          exact h.ok i h1 h2 h3 e1
  · by_cases e : par pos = top
    · exact .inl e
    · obtain ⟨g1, g2⟩ := z2.up e
      refine .inr ⟨g1, g2, fun c c1 c2 c3 => ?_⟩
      have hq := par_lt g1
      have sq : swp f (par pos) pos (par (par pos)) = f (par (par pos)) := by
        unfold swp
        rw [if_neg (by omega), if_neg (by omega)]
      have a : lt (f (par pos)) (f (par (par pos))) = false := h.ok _ g1 (by omega) g2.le (by omega)
      rw [sq]
      have hc := par_lt c1
      by_cases e1 : c = pos
      · have sc : swp f (par pos) pos c = f (par pos) := by
          unfold swp
          rw [if_neg (by omega), if_pos e1]
        rw [sc]
        exact a
      · have sc : swp f (par pos) pos c = f c := by
          unfold swp
          rw [if_neg (by omega), if_neg e1]
        rw [sc]
        have b := h.ok c c1 c2 (by rw [c3]; exact z2.le) e1
        rw [c3] at b
        exact O.tr _ _ _ a b
theorem Up.top {n : Nat} {f : Nat → α} {top pos : Nat} (h : Up lt n f top pos) (hp : ¬ top < pos) : From lt n f top := fun i h1 h2 h3 => h.ok i h1 h2 h3 fun e => by
  have := par_lt h1
  omega
theorem Up.stop {n : Nat} {f : Nat → α} {top pos : Nat} (h : Up lt n f top pos) (hl : lt (f pos) (f (par pos)) = false) : From lt n f top := fun i h1 h2 h3 => by
  by_cases e : i = pos
  · rw [e]; exact hl
  · exact h.ok i h1 h2 h3 e
theorem From.push {n : Nat} {f g : Nat → α} (h : From lt n f 0) (e : ∀ i, i < n → g i = f i) : Up lt (n + 1) g 0 n := by
  refine ⟨.zero _, fun i h1 h2 h3 h4 => ?_, ?_⟩
  · have := par_lt h1
    rw [e i (by omega), e (par i) (by omega)]
    exact h i h1 (by omega) (Nat.zero_le _)
  · by_cases z : n = 0
    · exact .inl z
    · refine .inr ⟨by omega, .zero _, fun c c1 c2 c3 => ?_⟩
      have := par_lt c1
      omega
theorem From.root {n : Nat} {f g : Nat → α} (h : From lt n f 0) (e : ∀ i, 1 ≤ i → i < n → g i = f i) : Down lt n g 0 0 :=
  ⟨.refl, fun i h1 h2 _ h4 _ => by
    have := par_lt h1
    rw [e i h1 h2, e (par i) (by omega) (by omega)]
    exact h i h1 h2 (Nat.zero_le _), .inl rfl⟩
theorem From.less {n m : Nat} {f : Nat → α} {k : Nat} (h : From lt n f k) (hm : m ≤ n) : From lt m f k := fun i h1 h2 h3 => h i h1 (by omega) h3
theorem From.half {n : Nat} {f : Nat → α} : From lt n f (n / 2) := fun i h1 h2 h3 => by
  have : par i = (i - 1) / 2 := rfl
  omega
theorem From.few {n : Nat} {f : Nat → α} (h : n < 2) : From lt n f 0 := fun i h1 h2 _ => by omega
theorem From.least (O : SrtO.Swo lt) {n : Nat} {f : Nat → α} (h : From lt n f 0) : ∀ i, i < n → lt (f i) (f 0) = false := fun i => by
  induction i using Nat.strongRecOn with
  | ind i ih =>
    intro hi
    by_cases h1 : 1 ≤ i
    · have hp := par_lt h1
      exact O.tr _ _ _ (ih _ hp (by omega)) (h i h1 hi (Nat.zero_le _))
    · have e : i = 0 := by omega
      subst e
      exact O.refl _
end
end HQ
set_option Elab.async false
set_option maxRecDepth 100000
set_option maxHeartbeats 2000000
namespace HQ
open PySem PySem.Spec PyProof.Rows L2 PySem.SeqAt
/-! ### tuples whose first numbers differ -/
theorem tupLt2 (a b : Addr) (xs ys : Array Value) (n m : Nat) (da db : Option Addr) (sa sb : Array (Option Value)) (e r : Nat → Bool) :
    Meets (Builtin.«tuple.__lt__» ⟨[.ref a, .ref b], []⟩) (fun A R s => s.heap.get? a = some ⟨.type "tuple", da, .seq xs n, sa⟩ ∧ s.heap.get? b = some ⟨.type "tuple", db, .seq ys m, sb⟩ ∧
        (∀ j (p : j < xs.size) (q : j < ys.size), (∀ i < j, e i = true) → EqAt A.in1 s xs[j] ys[j] (e j)) ∧ (∀ j (p : j < xs.size) (q : j < ys.size), (∀ i < j, e i = true) → e j = false → RcLt A.in1 s xs[j] ys[j] (r j)) ∧
        R (.ok (.ret (.bool (firstLt e r (decide (xs.size < ys.size)) (List.range (min xs.size ys.size)))))) s) := .of_wp fun prog w A R s H => by
    obtain ⟨hp, g, d, tk, os⟩ := s
    obtain ⟨ha, hb, he, hr, H⟩ := H
    have sub := AutoSeq1.sub_tuple_tuple
    have lZ : (xs.toList.zip ys.toList).length = min xs.size ys.size := by simp
    wp_walk using AutoSeq1.wpAny_loadPart' ha, AutoSeq1.wpAny_loadPart' hb, wpAny_forIn_list _ (fun rest c s' => c.1 = none ∧ s' = ⟨hp, g, d, tk, os⟩ ∧ ∃ i, rest = (xs.toList.zip ys.toList).drop i ∧ (∀ k < i, e k = true) ∧ R (.ok (.ret (.bool (firstLt e r (decide (xs.size < ys.size)) ((List.range (min xs.size ys.size)).drop i))))) ⟨hp, g, d, tk, os⟩) _
    case turn =>
      rintro ⟨y, x⟩ rest c s' ⟨hc, rfl, i, hz, hk, hR⟩
      have hlt : i < (xs.toList.zip ys.toList).length := by
        by_cases z : i < (xs.toList.zip ys.toList).length
        · exact z
        · rw [List.drop_of_length_le (Nat.le_of_not_lt z)] at hz
          cases hz
      have hm : i < min xs.size ys.size := by rw [← lZ]; exact hlt
      have i1 : i < xs.size := by omega
      have i2 : i < ys.size := by omega
      rw [List.drop_eq_getElem_cons hlt] at hz
      obtain ⟨hyx, hrest⟩ := List.cons.inj hz
      have ey : y = xs[i] := by simpa using congrArg Prod.fst hyx
      have ex : x = ys[i] := by simpa using congrArg Prod.snd hyx
      subst ey ex
      have ed : (List.range (min xs.size ys.size)).drop i = i :: (List.range (min xs.size ys.size)).drop (i + 1) := by
        simp [List.drop_eq_getElem_cons, hm]
      rw [ed] at hR
      refine wpAny_bind (he i i1 i2 hk prog w _ _ ?_)
      by_cases ei : e i = true
      · rw [firstLt_yes ei] at hR
        rw [ei]
        wp_walk
        refine ⟨rfl, rfl, i + 1, hrest, fun k kk => ?_, hR⟩
        by_cases z : k = i
        · rw [z]; exact ei
        · exact hk k (by omega)
      · have ei : e i = false := by simpa using ei
        rw [firstLt_no ei] at hR
        rw [ei]
        generalize hrc : PySem.richCompare = rc
        wp_walk
        subst hrc
        refine hr i i1 i2 hk ei prog w _ _ ?_
        wp_walk
        exact ⟨_, rfl, hR⟩
    case fin =>
      rintro ⟨c1, c2⟩ s' ⟨hc, rfl, i, hz, _, hR⟩
      simp only at hc
      subst hc
      have hge : min xs.size ys.size ≤ i := by
        by_cases z : i < (xs.toList.zip ys.toList).length
        · rw [List.drop_eq_getElem_cons z] at hz
          cases hz
        · rw [← lZ]
          omega
      rw [List.drop_of_length_le (by simpa using hge)] at hR
      wp_walk
      exact ⟨_, rfl, by simpa [Builtin.Tuple.tupleCompareSizes, firstLt] using hR⟩
    case h =>
      exact ⟨rfl, rfl, 0, rfl, fun k kk => absurd kk (Nat.not_lt_zero _), by simpa using H⟩
def eTri (x1 x2 y1 y2 : Int) (j : Nat) : Bool := if j = 0 then decide (x1 = y1) else if j = 1 then decide (x2 = y2) else false
def rTri (x1 x2 y1 y2 : Int) (j : Nat) : Bool := if j = 0 then decide (x1 < y1) else decide (x2 < y2)
theorem triLt {x1 x2 y1 y2 : Int} {d d' : PyData} (h : x1 ≠ y1 ∨ x2 ≠ y2) : PySem.W.dataLt (.tuple [.int x1, .int x2, d]) (.tuple [.int y1, .int y2, d']) = (if x1 = y1 then decide (x2 < y2) else decide (x1 < y1)) := by
  have al : ∀ a b : Int, PySem.W.alike (.int a) (.int b) = true := fun a b => by simp [PySem.W.alike]
  have ev : ∀ a b : Int, PyData.eqv (.int a) (.int b) = decide (a = b) := fun a b => by by_cases q : a = b <;> simp [q, PyData.eqv]
  rw [PySem.W.dataLt_tuple]
  by_cases e1 : x1 = y1
  · have e2 : ¬ x2 = y2 := fun z => h.elim (fun q => q e1) fun q => q z
    rw [if_pos e1, PySem.W.dataLt_all_yes (al x1 y1) (by rw [ev]; exact decide_eq_true e1), PySem.W.dataLt_all_no (al x2 y2) (by rw [ev]; exact decide_eq_false e2), PySem.W.dataLt_int]
  · rw [if_neg e1, PySem.W.dataLt_all_no (al x1 y1) (by rw [ev]; exact decide_eq_false e1), PySem.W.dataLt_int]
theorem three {h : Heap} {l : List Value} {a b c : PyData} {as : List Addr} (r : ReadsAll h l [a, b, c] as) : ∃ v1 v2 v3 : Value, l = [v1, v2, v3] ∧ (∃ z, Reads h v1 a z) ∧ ∃ z, Reads h v2 b z := by
  cases r with
  | cons r1 t1 =>
    cases t1 with
    | cons r2 t2 =>
      cases t2 with
      | cons r3 t3 =>
        cases t3
        exact ⟨_, _, _, rfl, ⟨_, r1⟩, ⟨_, r2⟩⟩
theorem rc_tri {x1 x2 y1 y2 : Int} {d d' : PyData} {A : Around} {s : Shared} {u v : Value} {as bs : List Addr} (ra : Reads s.heap u (.tuple [.int x1, .int x2, d]) as) (rb : Reads s.heap v (.tuple [.int y1, .int y2, d']) bs) (h : x1 ≠ y1 ∨ x2 ≠ y2) (hu : A.units + 1 < cLine) :
    RcLt A s u v (PySem.W.dataLt (.tuple [.int x1, .int x2, d]) (.tuple [.int y1, .int y2, d'])) := by
  rw [triLt h]
  cases ra with
  | @tuple l o vs n _ as₁ h1 h2 h3 h4 =>
    cases rb with
    | @tuple l' o' vs' n' _ bs₁ k1 k2 k3 k4 =>
      obtain ⟨p1, p2, p3, ep, ⟨z1, r1⟩, ⟨z2, r2⟩⟩ := three h4
      obtain ⟨q1, q2, q3, eq, ⟨w1, t1⟩, ⟨w2, t2⟩⟩ := three k4
      have ep : vs = #[p1, p2, p3] := Array.toList_inj.mp ep
      have eq : vs' = #[q1, q2, q3] := Array.toList_inj.mp eq
      subst ep eq
      have al : ∀ a b : Int, PySem.W.alike (.int a) (.int b) = true := fun a b => by simp [PySem.W.alike]
      have ev : ∀ a b : Int, PyData.eqv (.int a) (.int b) = decide (a = b) := fun a b => by by_cases q : a = b <;> simp [q, PyData.eqv]
      have room : ∀ a b : Int, A.in1.units + min (PyData.int a).depth (PyData.int b).depth < cLine := fun a b => by
        show A.units + 1 + min (PyData.int a).depth (PyData.int b).depth < cLine
        simp only [PyData.depth, Nat.min_self]
        omega
      have E1 := PySem.W.eqAt_alike (.int x1) (.int y1) A.in1 s p1 q1 _ _ r1 t1 (al _ _) (room _ _)
      have E2 := PySem.W.eqAt_alike (.int x2) (.int y2) A.in1 s p2 q2 _ _ r2 t2 (al _ _) (room _ _)
      have L1 := PySem.W.rcLt_alike (.int x1) (.int y1) A.in1 s p1 q1 _ _ r1 t1 (al _ _) (by simp) (room _ _)
      have L2 := PySem.W.rcLt_alike (.int x2) (.int y2) A.in1 s p2 q2 _ _ r2 t2 (al _ _) (by simp) (room _ _)
      rw [ev] at E1 E2
      rw [PySem.W.dataLt_int] at L1 L2
      obtain ⟨oc, od, ot, osl⟩ := o
      obtain ⟨oc', od', ot', osl'⟩ := o'
      simp only at h2 h3 k2 k3
      subst h2 h3 k2 k3
      intro prog w E Q hq
      refine richCompare_meets_room (op := .Lt) ⟨_, h1, rfl⟩ ⟨_, k1, rfl⟩ F.slot_tuple_lt F.entry_tuple_lt (F.args_tuple_lt_2 _ _) (tupLt2 l l' #[p1, p2, p3] #[q1, q2, q3] n n' od od' osl osl' (eTri x1 x2 y1 y2) (rTri x1 x2 y1 y2)) ⟨h1, k1, fun j a b hj => ?_, fun j a b hj _ => ?_, (fun x => nomatch x), ?_⟩ (by omega)
      · match j, a, hj with
        | 0, _, _ => exact E1
        | 1, _, _ => exact E2
        | 2, _, hj =>
          have a1 := hj 0 (by decide)
          have a2 := hj 1 (by decide)
          simp [eTri] at a1 a2
          exact absurd a2 (h.resolve_left fun z => z a1)
      · match j, a, hj with
        | 0, _, _ => exact L1
        | 1, _, _ => exact L2
        | 2, _, hj =>
          have a1 := hj 0 (by decide)
          have a2 := hj 1 (by decide)
          simp [eTri] at a1 a2
          exact absurd a2 (h.resolve_left fun z => z a1)
      · have e : firstLt (eTri x1 x2 y1 y2) (rTri x1 x2 y1 y2) (decide ((#[p1, p2, p3] : Array Value).size < (#[q1, q2, q3] : Array Value).size)) (List.range (min (#[p1, p2, p3] : Array Value).size (#[q1, q2, q3] : Array Value).size)) = if x1 = y1 then decide (x2 < y2) else decide (x1 < y1) := by
          show firstLt _ _ _ [0, 1, 2] = _
          by_cases e1 : x1 = y1
          · have e2 : ¬ x2 = y2 := fun z => h.elim (fun q => q e1) fun q => q z
            simp [firstLt, eTri, rTri, e1, e2]
          · simp [firstLt, eTri, rTri, e1]
        rw [e]
        exact hq
end HQ
set_option Elab.async false
set_option maxRecDepth 100000
set_option maxHeartbeats 4000000
namespace HQ
open PySem PySem.Spec PyProof.Rows L2 RS

/-! ### entries -/
theorem en_sift : entryFor table "_heapq.heapify.sift" = some Builtin.«_heapq.heapify.sift» := entryFor_of_fast (by kernel_rfl)
theorem en_heapify : entryFor table "_heapq.heapify" = some Builtin.«_heapq.heapify» := entryFor_of_fast (by kernel_rfl)
theorem en_push : entryFor table "_heapq.heappush" = some Builtin.«_heapq.heappush» := entryFor_of_fast (by kernel_rfl)
theorem en_pop : entryFor table "_heapq.heappop" = some Builtin.«_heapq.heappop» := entryFor_of_fast (by kernel_rfl)
theorem pl_sift : plainId "_heapq.heapify.sift" = true := by decide +kernel
theorem pl_heapify : plainId "_heapq.heapify" = true := by decide +kernel
theorem pl_push : plainId "_heapq.heappush" = true := by decide +kernel
theorem pl_pop : plainId "_heapq.heappop" = true := by decide +kernel
theorem ki_heapify : builtinKind "_heapq.heapify" = none := by decide +kernel
theorem ki_push : builtinKind "_heapq.heappush" = none := by decide +kernel
theorem ki_pop : builtinKind "_heapq.heappop" = none := by decide +kernel
theorem ar_heapify (a : Value) : argsOk "_heapq.heapify" ⟨[a], []⟩ := by unfold argsOk; kernel_rfl
theorem ar_push (a b : Value) : argsOk "_heapq.heappush" ⟨[a, b], []⟩ := by unfold argsOk; kernel_rfl
theorem ar_pop (a : Value) : argsOk "_heapq.heappop" ⟨[a], []⟩ := by unfold argsOk; kernel_rfl

/-! ### the order of data -/
abbrev Z := V × PyData
def ltz (x y : Z) : Bool := PySem.W.dataLt x.2 y.2
theorem swo_z : SrtO.Swo ltz := by
  refine ⟨fun x y h => ?_, fun x y z h1 h2 => ?_⟩
  · cases q : ltz y x with
    | false => rfl
    | true =>
      have t := (PyProof.Rows.listOrd PyProof.Rows.itemOrd).trans _ _ _ h q
      rw [(PyProof.Rows.listOrd PyProof.Rows.itemOrd).irrefl] at t
      cases t
  · cases q : ltz z x with
    | false => rfl
    | true =>
      rcases (PyProof.Rows.listOrd PyProof.Rows.itemOrd).negTrans _ (PySem.W.keyToks y.2) _ q with t | t
      · exact t.symm.trans h2
      · exact t.symm.trans h1

/-! ### lists as heaps -/
def dz : Z := (.non, .none)
def nth (zs : List Z) (i : Nat) : Z := zs.getD i dz
def sw (zs : List Z) (i j : Nat) : List Z := (zs.set i (nth zs j)).set j (nth zs i)
theorem nth_eq {zs : List Z} {i : Nat} (h : i < zs.length) : nth zs i = zs[i] := by
  unfold nth
  rw [List.getD_eq_getElem?_getD, List.getElem?_eq_getElem h]
  rfl
theorem nth_at {zs : List Z} {i : Nat} (h : i < zs.length) : zs[i]? = some (nth zs i) := by rw [nth_eq h, List.getElem?_eq_getElem h]
theorem nth_mem {zs : List Z} {i : Nat} (h : i < zs.length) : nth zs i ∈ zs := by rw [nth_eq h]; exact List.getElem_mem h
theorem sw_len (zs : List Z) (i j : Nat) : (sw zs i j).length = zs.length := by unfold sw; rw [List.length_set, List.length_set]
theorem sw_perm {zs : List Z} {i j : Nat} (hi : i < zs.length) (hj : j < zs.length) : (sw zs i j).Perm zs := by
  unfold sw
  rw [nth_eq hi, nth_eq hj]
  exact List.set_set_perm hi hj
theorem sw_nth {zs : List Z} {i j : Nat} (hi : i < zs.length) (hj : j < zs.length) (ne : i ≠ j) : nth (sw zs i j) = swp (nth zs) i j := by
  funext k
  unfold swp
  unfold nth sw
  simp only [List.getD_eq_getElem?_getD, List.getElem?_set, List.length_set]
  by_cases e1 : j = k
  · subst e1
    rw [if_pos rfl, if_pos hj, if_neg (Ne.symm ne), if_pos rfl]
    rfl
  · rw [if_neg e1]
    by_cases e2 : i = k
    · subst e2
      rw [if_pos rfl, if_pos hi, if_pos rfl]
      rfl
    · rw [if_neg e2, if_neg (Ne.symm e2), if_neg (Ne.symm e1)]

/-- two that can be compared: alike, or of three parts with the first numbers unlike -/
def Cmp (d d' : PyData) : Prop := PySem.W.alike d d' = true ∨ ∃ (x1 x2 y1 y2 : Int) (e e' : PyData), d = .tuple [.int x1, .int x2, e] ∧ d' = .tuple [.int y1, .int y2, e'] ∧ (x1 ≠ y1 ∨ x2 ≠ y2)
/-- items that may stand in the heap at a -/
structure Good (K : PySem.W.Frag) (H : Hp) (a : Addr) (zs : List Z) : Prop where
  dp : ∀ z ∈ zs, ∀ u, Dp K (upd H a (.lst u)) z.1 z.2
  nn : ∀ z ∈ zs, z.2 ≠ .none
  dep : ∀ z ∈ zs, z.2.depth ≤ 60
  al : ∀ z ∈ zs, ∀ y ∈ zs, Cmp z.2 y.2
theorem Good.perm {K : PySem.W.Frag} {H : Hp} {a : Addr} {zs ys : List Z} (G : Good K H a zs) (p : ys.Perm zs) : Good K H a ys :=
  ⟨fun z h => G.dp z (p.mem_iff.mp h), fun z h => G.nn z (p.mem_iff.mp h), fun z h => G.dep z (p.mem_iff.mp h), fun z h y g => G.al z (p.mem_iff.mp h) y (p.mem_iff.mp g)⟩
theorem Good.sub {K : PySem.W.Frag} {H : Hp} {a : Addr} {zs ys : List Z} (G : Good K H a zs) (p : ∀ y ∈ ys, y ∈ zs) : Good K H a ys :=
  ⟨fun z h => G.dp z (p _ h), fun z h => G.nn z (p _ h), fun z h => G.dep z (p _ h), fun z h y g => G.al z (p _ h) y (p _ g)⟩
abbrev hp (H : Hp) (a : Addr) (zs : List Z) : Hp := upd H a (.lst (zs.map (·.1)))
section
variable {X : Cx} {pins : List (Addr × Obj)} {σ : L2.St} {H : Hp} {a : Addr} {zs : List Z} {s : Shared}
theorem less_ {x y : Z} {u v : Value} {E : Value → Shared → Prop} {Q : Value → Shared → Prop} {A : Around} (hu : A.units + 61 < cLine) (G : Good X.K H a zs) (I : Inv X pins σ (hp H a zs) s) (hx : x ∈ zs) (hy : y ∈ zs) (rx : RelV x.1 u) (ry : RelV y.1 v)
    (h : Q (.bool (ltz x y)) s) : wpAny (model X.prog X.w) A (richCompare .Lt u v) Q E s := by
  obtain ⟨as, r1⟩ := Dp.reads I _ _ _ (G.dp x hx _) rx
  obtain ⟨bs, r2⟩ := Dp.reads I _ _ _ (G.dp y hy _) ry
  rcases G.al x hx y hy with al | ⟨x1, x2, y1, y2, e, e', e1, e2, ne⟩
  · exact PySem.W.rcLt_alike x.2 y.2 A s u v as bs r1 r2 al (G.nn x hx) (by have := G.dep x hx; omega) X.prog X.w E Q h
  · unfold ltz at h
    rw [e1] at r1 h
    rw [e2] at r2 h
    exact rc_tri r1 r2 ne (by omega) X.prog X.w E Q h
/-- what the sifting does next -/
def Nx (X : Cx) (a : Addr) (after : Int) (res : Value) (R : Result → Shared → Prop) (s : Shared) : Prop :=
  if after < 0 then R (.ok (.ret res)) s else codeAny (model X.prog X.w) X.A (.builtin "_heapq.heapify.sift" ⟨[.ref a, .bool false, .bool true, rawInt (after.toNat : Nat), rawInt (after.toNat : Nat), res, rawInt (after - 1)], []⟩) R s

theorem at_ {M : Model} {A : Around} {xs : Array Value} {i : Nat} {u : Value} {f : Sem Value} {Q : Value → Shared → Prop} {E : Value → Shared → Prop} {s : Shared} (h : xs[i]? = some u) (q : Q u s) :
    wpAny M A (match xs[i]? with | some v => pure v | none => f) Q E s := by
  rw [h]
  exact wpAny_pure q
theorem vals_at {zs : List Z} {its : List Value} (r : Vals (zs.map (·.1)) its) {i : Nat} (h : i < zs.length) : ∃ u, its[i]? = some u ∧ its.toArray[i]? = some u ∧ RelV (nth zs i).1 u := by
  obtain ⟨u, h1, h2⟩ := r.get (i := i) (x := (nth zs i).1) (by rw [List.getElem?_map, nth_at h]; rfl)
  exact ⟨u, h1, by rw [← Array.getElem?_toList]; exact h1, h2⟩
theorem sw_map {zs : List Z} {i j : Nat} {its : List Value} (r : Vals (zs.map (·.1)) its) {u v : Value} (hu : RelV (nth zs i).1 u) (hv : RelV (nth zs j).1 v) :
    Vals ((sw zs i j).map (·.1)) ((its.set i v).set j u) := by
  unfold sw
  rw [List.map_set, List.map_set]
  exact (r.set hv i).set hu j
theorem swap_inv {i j : Nat} {its : List Value} {n : Nat} (I : Inv X pins σ (hp H a zs) s) (r : Vals (zs.map (·.1)) its) (e : s.heap.get? a = some { cls := .type "list", data := .seq its.toArray n }) (z : zs.length ≤ sizeLine) {u v : Value}
    (hu : RelV (nth zs i).1 u) (hv : RelV (nth zs j).1 v) :
    Inv X pins σ (hp H a (sw zs i j)) { s with heap := s.heap.update a (Obj.mapSeq fun xs => (xs.setIfInBounds i v).setIfInBounds j u) } := by
  have q := I.lset (l := a) (its' := (its.set i v).set j u) (f := fun xs => (xs.setIfInBounds i v).setIfInBounds j u) (t' := s.toks) upd_same e (by simp) (sw_map (i := i) (j := j) r hu hv) (by rw [List.length_map, sw_len]; exact z)
  rw [upd_upd] at q
  exact q
theorem up_run (hu : X.A.units + 64 < cLine) {top : Nat} {after : Int} {res : Value} {R : Result → Shared → Prop} (hz : zs.length ≤ sizeLine) (G : Good X.K H a zs)
    (hend : ∀ s' ys, ys.Perm zs → From ltz zs.length (nth ys) top → Inv X pins σ (hp H a ys) s' → Nx X a after res R s') :
    ∀ (m pos : Nat) (ys : List Z) (s : Shared), pos ≤ m → pos < zs.length → ys.Perm zs → Up ltz zs.length (nth ys) top pos → Inv X pins σ (hp H a ys) s →
      codeAny (model X.prog X.w) X.A (.builtin "_heapq.heapify.sift" ⟨[.ref a, .bool false, .bool false, rawInt pos, rawInt top, res, rawInt after], []⟩) R s := by
  intro m
  induction m using Nat.strongRecOn with
  | ind m ih =>
    intro pos ys s hm hp p U I
    obtain ⟨z, its, n, r, hl, e⟩ := I.lstM (l := a) (xs := ys.map (·.1)) upd_same
    rw [List.length_map] at hl z
    have lz := p.length_eq
    refine codeAny_builtin en_sift ?_
    rw [Around.under_plainId pl_sift _]
    show wpAny _ X.A.in1 (_ >>= _) _ _ _
    refine wpAny_bind (wpAny_bind (wpAny_seqItems e rfl (wpAny_pure ?_)))
    show wpAny _ X.A.in1 (if pos > top then _ else _) _ _ _
    have stop : ∀ s' : Shared, Nx X a after res R s' → wpAny (model X.prog X.w) X.A.in1 (if after < 0 then ret res else again (.builtin "_heapq.heapify.sift" ⟨[.ref a, .bool false, .bool true, rawInt (after.toNat : Nat), rawInt (after.toNat : Nat), res, rawInt (after - 1)], []⟩))
        (fun fin s' => match fin with | .done f => R (.ok f) s' | .again c' => c'.quiet = true ∧ codeAny (model X.prog X.w) X.A c' R s') (fun e s' => R (.error e) s') s' := by
      intro s' q
      unfold Nx at q
      by_cases g : after < 0
      · rw [if_pos g] at q ⊢
        exact wpAny_pure q
      · rw [if_neg g] at q ⊢
        exact wpAny_pure ⟨plainId_quiet pl_sift _, q⟩
    by_cases h1 : pos > top
    · rw [if_pos h1]
      have hpp := par_lt (i := pos) (by omega)
      obtain ⟨u, u1, u2, u3⟩ := vals_at r (i := pos) (by omega)
      obtain ⟨v, v1, v2, v3⟩ := vals_at r (i := par pos) (by omega)
      refine wpAny_bind (at_ u2 ?_)
      refine wpAny_bind (at_ v2 ?_)
      show wpAny _ X.A.in1 (_ >>= _) _ _ _
      refine wpAny_bind (wpAny_bind (wpAny_holding (wpAny_bind (less_ (x := nth ys pos) (y := nth ys (par pos)) (by show X.A.units + 1 + 61 < cLine; omega) (G.perm p) I (nth_mem (by omega)) (nth_mem (by omega)) u3 v3 (wpAny_truthy_bool ?_)))))
      refine wpAny_bind (wpAny_bind (wpAny_seqItems e rfl (wpAny_pure ?_)))
      show wpAny _ X.A.in1 (if (its.toArray.size != its.toArray.size) = true then _ else _) _ _ _
      rw [if_neg (by simp)]
      refine wpAny_pure ?_
      show wpAny _ X.A.in1 (if ltz (nth ys pos) (nth ys (par pos)) = true then _ else _) _ _ _
      by_cases h2 : ltz (nth ys pos) (nth ys (par pos)) = true
      · rw [if_pos h2]
        refine wpAny_bind (wpAny_bind (wpAny_bind (wpAny_seqItems e rfl (wpAny_pure ?_))))
        refine wpAny_bind (at_ v2 ?_)
        refine wpAny_bind (at_ u2 ?_)
        refine wpAny_updateSeq e rfl ?_ (by rw [List.size_toArray]; omega) (by simp only [Array.size_setIfInBounds, List.size_toArray]; omega)
        refine wpAny_pure ⟨plainId_quiet pl_sift _, ?_⟩
        have I2 := swap_inv (i := par pos) (j := pos) I r e z v3 u3
        have U2 := U.step swo_z hp h1 h2
        rw [← sw_nth (by omega) (by omega) (by omega)] at U2
        exact ih (par pos) (by omega) (par pos) _ _ (Nat.le_refl _) (by omega) ((sw_perm (by omega) (by omega)).trans p) U2 I2
      · rw [if_neg h2]
        exact stop _ (hend s ys p (U.stop (by
          cases q : ltz (nth ys pos) (nth ys (par pos)) with
          | false => rfl
          | true => exact absurd q h2)) I)
    · rw [if_neg h1]
      exact stop _ (hend s ys p (U.top h1) I)

theorem down_run (hu : X.A.units + 64 < cLine) {top : Nat} {after : Int} {res : Value} {R : Result → Shared → Prop} (hz : zs.length ≤ sizeLine) (G : Good X.K H a zs)
    (hend : ∀ s' ys, ys.Perm zs → From ltz zs.length (nth ys) top → Inv X pins σ (hp H a ys) s' → Nx X a after res R s') :
    ∀ (m pos : Nat) (ys : List Z) (s : Shared), zs.length - pos ≤ m → pos < zs.length → ys.Perm zs → Down ltz zs.length (nth ys) top pos → Inv X pins σ (hp H a ys) s →
      codeAny (model X.prog X.w) X.A (.builtin "_heapq.heapify.sift" ⟨[.ref a, .bool false, .bool true, rawInt pos, rawInt top, res, rawInt after], []⟩) R s := by
  intro m
  induction m using Nat.strongRecOn with
  | ind m ih =>
    intro pos ys s hm hp p D I
    obtain ⟨z, its, n, r, hl, e⟩ := I.lstM (l := a) (xs := ys.map (·.1)) upd_same
    rw [List.length_map] at hl z
    have lz := p.length_eq
    have sz : its.toArray.size = zs.length := by rw [List.size_toArray, ← hl, lz]
    refine codeAny_builtin en_sift ?_
    rw [Around.under_plainId pl_sift _]
    show wpAny _ X.A.in1 (_ >>= _) _ _ _
    refine wpAny_bind (wpAny_bind (wpAny_seqItems e rfl (wpAny_pure ?_)))
    show wpAny _ X.A.in1 (if pos < its.toArray.size / 2 then _ else _) _ _ _
    rw [sz]
    by_cases h1 : pos < zs.length / 2
    · rw [if_pos h1]
      obtain ⟨u, u1, u2, u3⟩ := vals_at r (i := pos) (by omega)
      obtain ⟨l, l1, l2, l3⟩ := vals_at r (i := 2 * pos + 1) (by omega)
      have nxt : ∀ c, (c = 2 * pos + 1 ∨ c = 2 * pos + 2) → c < zs.length → (∀ d, (d = 2 * pos + 1 ∨ d = 2 * pos + 2) → d < zs.length → ltz (nth ys d) (nth ys c) = false) → ∀ w, RelV (nth ys c).1 w →
          codeAny (model X.prog X.w) X.A (.builtin "_heapq.heapify.sift" ⟨[.ref a, .bool false, .bool true, rawInt c, rawInt top, res, rawInt after], []⟩) R { s with heap := s.heap.update a (Obj.mapSeq fun xs => (xs.setIfInBounds c u).setIfInBounds pos w) } := by
        intro c hc hl2 hmin w rw'
        have I2 := swap_inv (i := c) (j := pos) I r e z rw' u3
        have D2 := D.step swo_z hl2 hc hmin
        rw [← sw_nth (by omega) (by omega) (by omega)] at D2
        exact ih (zs.length - c) (by omega) c _ _ (Nat.le_refl _) hl2 ((sw_perm (by omega) (by omega)).trans p) D2 I2
      by_cases h2 : 2 * pos + 1 + 1 < zs.length
      · rw [if_pos (show 2 * (pos : Int).toNat + 1 + 1 < zs.length from h2)]
        obtain ⟨q, q1, q2, q3⟩ := vals_at r (i := 2 * pos + 1 + 1) (by omega)
        refine wpAny_bind (at_ l2 ?_)
        refine wpAny_bind (at_ q2 ?_)
        show wpAny _ X.A.in1 (_ >>= _) _ _ _
        refine wpAny_bind (wpAny_bind (wpAny_holding (wpAny_bind (less_ (x := nth ys (2 * pos + 1)) (y := nth ys (2 * pos + 1 + 1)) (by show X.A.units + 1 + 61 < cLine; omega) (G.perm p) I (nth_mem (by omega)) (nth_mem (by omega)) l3 q3 (wpAny_truthy_bool ?_)))))
        refine wpAny_bind (wpAny_bind (wpAny_seqItems e rfl (wpAny_pure ?_)))
        show wpAny _ X.A.in1 (if (its.toArray.size != zs.length) = true then _ else _) _ _ _
        rw [if_neg (by rw [sz]; simp)]
        refine wpAny_pure ?_
        show wpAny _ X.A.in1 (if (!ltz (nth ys (2 * pos + 1)) (nth ys (2 * pos + 1 + 1))) = true then _ else _) _ _ _
        by_cases h3 : ltz (nth ys (2 * pos + 1)) (nth ys (2 * pos + 1 + 1)) = true
        · rw [if_neg (by rw [h3]; decide)]
          refine wpAny_bind (wpAny_bind (wpAny_bind (wpAny_seqItems e rfl (wpAny_pure ?_))))
          refine wpAny_bind (at_ l2 ?_)
          refine wpAny_bind (at_ u2 ?_)
          refine wpAny_updateSeq e rfl ?_ (by rw [List.size_toArray]; omega) (by simp only [Array.size_setIfInBounds, List.size_toArray]; omega)
          refine wpAny_pure ⟨plainId_quiet pl_sift _, ?_⟩
          exact nxt _ (.inl rfl) (by omega) (fun d hd _ => by
                      rcases hd with e1 | e1
                      · subst e1; exact swo_z.refl _
                      · subst e1; exact swo_z.asym _ _ h3) l l3
        · have h3' : ltz (nth ys (2 * pos + 1)) (nth ys (2 * pos + 1 + 1)) = false := by
            cases q : ltz (nth ys (2 * pos + 1)) (nth ys (2 * pos + 1 + 1)) with
            | false => rfl
            | true => exact absurd q h3
          rw [if_pos (by rw [h3']; decide)]
          refine wpAny_bind (wpAny_bind (wpAny_bind (wpAny_seqItems e rfl (wpAny_pure ?_))))
          refine wpAny_bind (at_ q2 ?_)
          refine wpAny_bind (at_ u2 ?_)
          refine wpAny_updateSeq e rfl ?_ (by rw [List.size_toArray]; omega) (by simp only [Array.size_setIfInBounds, List.size_toArray]; omega)
          refine wpAny_pure ⟨plainId_quiet pl_sift _, ?_⟩
          exact nxt _ (.inr rfl) (by omega) (fun d hd _ => by
                      rcases hd with e1 | e1
                      · subst e1; exact h3'
                      · subst e1; exact swo_z.refl _) q q3
      · rw [if_neg (show ¬ 2 * (pos : Int).toNat + 1 + 1 < zs.length from h2)]
        refine wpAny_bind (wpAny_bind (wpAny_bind (wpAny_seqItems e rfl (wpAny_pure ?_))))
        refine wpAny_bind (at_ l2 ?_)
        refine wpAny_bind (at_ u2 ?_)
        refine wpAny_updateSeq e rfl ?_ (by rw [List.size_toArray]; omega) (by simp only [Array.size_setIfInBounds, List.size_toArray]; omega)
        refine wpAny_pure ⟨plainId_quiet pl_sift _, ?_⟩
        exact nxt _ (.inl rfl) (by omega) (fun d hd hd2 => by
                  rcases hd with e1 | e1
                  · subst e1; exact swo_z.refl _
                  · omega) l l3
    · rw [if_neg h1]
      refine wpAny_pure ⟨plainId_quiet pl_sift _, ?_⟩
      exact up_run hu hz G hend pos pos ys s (Nat.le_refl _) hp p (D.leaf h1) I
end
end HQ
set_option Elab.async false
set_option maxRecDepth 100000
set_option maxHeartbeats 4000000
namespace HQ
open PySem PySem.Spec PyProof.Rows L2 RS
section
variable {X : Cx} {pins : List (Addr × Obj)} {σ : L2.St} {H : Hp} {a : Addr} {zs : List Z} {s : Shared}

theorem heapify_run (hu : X.A.units + 64 < cLine) {res : Value} {R : Result → Shared → Prop} (hz : zs.length ≤ sizeLine) (G : Good X.K H a zs)
    (hend : ∀ s' ys, ys.Perm zs → From ltz zs.length (nth ys) 0 → Inv X pins σ (hp H a ys) s' → R (.ok (.ret res)) s') :
    ∀ (k : Nat) (ys : List Z) (s : Shared), k < zs.length → ys.Perm zs → Down ltz zs.length (nth ys) k k → Inv X pins σ (hp H a ys) s →
      codeAny (model X.prog X.w) X.A (.builtin "_heapq.heapify.sift" ⟨[.ref a, .bool false, .bool true, rawInt k, rawInt k, res, rawInt ((k : Int) - 1)], []⟩) R s := by
  intro k
  induction k with
  | zero =>
    intro ys s hk p D I
    refine down_run hu hz G (fun s' ys' p' F I' => ?_) _ 0 ys s (Nat.le_refl _) hk p D I
    unfold Nx
    rw [if_pos (by decide)]
    exact hend s' ys' p' F I'
  | succ k ih =>
    intro ys s hk p D I
    refine down_run hu hz G (fun s' ys' p' F I' => ?_) _ (k + 1) ys s (Nat.le_refl _) hk p D I
    unfold Nx
    rw [if_neg (by omega)]
    have e : (((k + 1 : Nat) : Int) - 1).toNat = k := by omega
    have e2 : (((k + 1 : Nat) : Int) - 1) - 1 = (k : Int) - 1 := by omega
    rw [e, e2]
    exact ih ys' s' (by omega) p' F.down I'
end
section
variable {X : Cx}
def rHeapify (K : PySem.W.Frag) : List V → Hp → VK → Prop := fun vs H Q => ∃ (a : Addr) (zs : List Z), vs = [.ref a] ∧ H a = some (.lst (zs.map (·.1))) ∧ Good K H a zs ∧ zs.length ≤ 2500 ∧
  ∀ ys : List Z, ys.Perm zs → From ltz ys.length (nth ys) 0 → Q .non (hp H a ys)
theorem hp_self {H : Hp} {a : Addr} {zs : List Z} (h : H a = some (.lst (zs.map (·.1)))) : hp H a zs = H := by
  funext b
  by_cases e : b = a
  · subst e
    exact upd_same.trans h.symm
  · exact upd_ne e
theorem call_heapify (hu : X.A.units + 64 < cLine) : CallR X (.builtin "_heapq.heapify") (rHeapify X.K) := by
  intro pins s σ H xs us Q I r ⟨a, zs, e, hH, G, hl, q⟩
  subst e
  obtain ⟨u, rfl, ru⟩ := r.one
  cases ru
  obtain ⟨z, its, n, r, hl2, e⟩ := I.lstM hH
  rw [List.length_map] at hl2 z
  refine kmk_tree ki_heapify pl_heapify en_heapify (ar_heapify _) ?_
  show wpAny _ X.A.in1 (_ >>= _) _ _ _
  refine wpAny_bind (wpAny_bind (wpAny_pure ?_))
  refine wpAny_bind (wpAny_bind (wpAny_isInstance (T := "list") ⟨_, e, rfl⟩ AutoSeq1.sub_list_list ?_))
  refine wpAny_pure (wpAny_pure ?_)
  show wpAny _ X.A.in1 (_ >>= _) _ _ _
  refine wpAny_bind (wpAny_bind (wpAny_seqItems e rfl (wpAny_pure ?_)))
  have sz : its.toArray.size = zs.length := by rw [List.size_toArray, ← hl2]
  show wpAny _ X.A.in1 (if its.toArray.size > 2500 then _ else _) _ _ _
  rw [sz, if_neg (by omega)]
  show wpAny _ X.A.in1 (if zs.length < 2 then _ else _) _ _ _
  have I0 : Inv X pins σ (hp H a zs) s := by rw [hp_self hH]; exact I
  by_cases h2 : zs.length < 2
  · rw [if_pos h2]
    refine wpAny_pure ?_
    exact ⟨.non, _, I0, rfl, q zs (List.Perm.refl _) (.few h2)⟩
  · rw [if_neg h2]
    refine wpAny_pure ⟨plainId_quiet pl_sift _, ?_⟩
    have e2 : ((zs.length / 2 : Nat) : Int) - 2 = ((zs.length / 2 - 1 : Nat) : Int) - 1 := by omega
    rw [e2]
    have F : From ltz zs.length (nth zs) (zs.length / 2 - 1 + 1) := by
      rw [show zs.length / 2 - 1 + 1 = zs.length / 2 by omega]
      exact .half
    exact heapify_run hu (by omega) G (fun s' ys p F' I' => ⟨.non, _, I', rfl, q ys p (by rw [p.length_eq]; exact F')⟩) (zs.length / 2 - 1) zs s (by omega) (List.Perm.refl _) F.down I0

def rPush (K : PySem.W.Frag) : List V → Hp → VK → Prop := fun vs H Q => ∃ (a : Addr) (zs : List Z) (z : Z), vs = [.ref a, z.1] ∧ H a = some (.lst (zs.map (·.1))) ∧ Good K H a (zs ++ [z]) ∧ zs.length < sizeLine ∧ From ltz zs.length (nth zs) 0 ∧
  ∀ ys : List Z, ys.Perm (zs ++ [z]) → From ltz ys.length (nth ys) 0 → Q .non (hp H a ys)
theorem nth_app {zs ws : List Z} {i : Nat} (h : i < zs.length) : nth (zs ++ ws) i = nth zs i := by
  unfold nth
  rw [List.getD_eq_getElem?_getD, List.getD_eq_getElem?_getD, List.getElem?_append_left h]
theorem call_push (hu : X.A.units + 64 < cLine) : CallR X (.builtin "_heapq.heappush") (rPush X.K) := by
  intro pins s σ H xs us Q I r ⟨a, zs, y, e, hH, G, hl, F, q⟩
  subst e
  obtain ⟨u, v, rfl, ru, rv⟩ := r.two
  cases ru
  obtain ⟨z, its, n, r, hl2, e⟩ := I.lstM hH
  rw [List.length_map] at hl2 z
  refine kmk_tree ki_push pl_push en_push (ar_push _ _) ?_
  show wpAny _ X.A.in1 (_ >>= _) _ _ _
  refine wpAny_bind (wpAny_bind (wpAny_pure ?_))
  refine wpAny_bind (wpAny_of_eq (show checkCount "heappush" 2 2 2 = pure () from rfl) ?_)
  refine wpAny_bind (wpAny_bind (wpAny_isInstance (T := "list") ⟨_, e, rfl⟩ AutoSeq1.sub_list_list ?_))
  refine wpAny_pure (wpAny_pure ?_)
  show wpAny _ X.A.in1 (_ >>= _) _ _ _
  refine wpAny_bind (wpAny_updateSeq e rfl ?_ (by rw [List.size_toArray]; omega) (by rw [Array.size_push, List.size_toArray]; omega))
  have I1 : Inv X pins σ (hp H a (zs ++ [y])) { s with heap := s.heap.update a (Obj.mapSeq fun x => x.push v) } := by
    have q := I.lset (l := a) (ys := (zs ++ [y]).map (·.1)) (its' := its ++ [v]) (f := fun x => x.push v) (t' := s.toks) hH e (by simp) (by rw [List.map_append]; exact r.append (.cons rv .nil)) (by rw [List.length_map, List.length_append, List.length_singleton]; omega)
    exact q
  obtain ⟨_, its2, n2, r2, hl3, e2⟩ := I1.lstM (l := a) (xs := (zs ++ [y]).map (·.1)) upd_same
  rw [List.length_map, List.length_append, List.length_singleton] at hl3
  refine wpAny_bind (wpAny_bind (wpAny_seqItems e2 rfl (wpAny_pure ?_)))
  refine wpAny_pure ⟨plainId_quiet pl_sift _, ?_⟩
  have e3 : its2.toArray.size - 1 = zs.length := by rw [List.size_toArray]; omega
  rw [e3]
  have ln : (zs ++ [y]).length = zs.length + 1 := by rw [List.length_append, List.length_singleton]
  have U : Up ltz (zs ++ [y]).length (nth (zs ++ [y])) 0 zs.length := by
    rw [ln]
    exact F.push fun i hi => nth_app hi
  refine up_run hu (by omega) G (fun s' ys p F' I' => ?_) zs.length zs.length (zs ++ [y]) _ (Nat.le_refl _) (by omega) (List.Perm.refl _) U I1
  unfold Nx
  rw [if_pos (by decide)]
  exact ⟨.non, _, I', rfl, q ys p (by rw [p.length_eq]; exact F')⟩

def rPopH (K : PySem.W.Frag) : List V → Hp → VK → Prop := fun vs H Q => ∃ (a : Addr) (zs : List Z), vs = [.ref a] ∧ H a = some (.lst (zs.map (·.1))) ∧ 0 < zs.length ∧ Good K H a zs ∧ From ltz zs.length (nth zs) 0 ∧
  ∀ (z : Z) (ys : List Z), zs.Perm (z :: ys) → From ltz ys.length (nth ys) 0 → (∀ y ∈ ys, ltz y z = false) → Q z.1 (hp H a ys)
theorem least_all {zs : List Z} {x : Z} {M : List Z} (e : zs = x :: M) (F : From ltz zs.length (nth zs) 0) : ∀ y ∈ zs, ltz y x = false := fun y hy => by
  obtain ⟨i, hi, ei⟩ := List.getElem_of_mem hy
  have q := F.least swo_z i hi
  rw [nth_eq hi, ei] at q
  rw [e] at q
  exact q
theorem snoc_z : ∀ {l : List Z}, 0 < l.length → ∃ M z, l = M ++ [z] := fun h => SrtO.snoc_of h
theorem call_popH (hu : X.A.units + 64 < cLine) : CallR X (.builtin "_heapq.heappop") (rPopH X.K) := by
  intro pins s σ H xs us Q I r ⟨a, zs, e, hH, h0, G, F, q⟩
  subst e
  obtain ⟨u, rfl, ru⟩ := r.one
  cases ru
  obtain ⟨z, its, n, r, hl2, e⟩ := I.lstM hH
  rw [List.length_map] at hl2 z
  obtain ⟨M, y, rfl⟩ := snoc_z h0
  refine kmk_tree ki_pop pl_pop en_pop (ar_pop _) ?_
  show wpAny _ X.A.in1 (_ >>= _) _ _ _
  refine wpAny_bind (wpAny_bind (wpAny_pure ?_))
  refine wpAny_bind (wpAny_bind (wpAny_isInstance (T := "list") ⟨_, e, rfl⟩ AutoSeq1.sub_list_list ?_))
  refine wpAny_pure (wpAny_pure ?_)
  show wpAny _ X.A.in1 (_ >>= _) _ _ _
  refine wpAny_bind (wpAny_bind (wpAny_seqItems e rfl (wpAny_pure ?_)))
  obtain ⟨iM, v, rfl⟩ := SrtO.snoc_of (l := its) (by omega)
  have rM : Vals (M.map (·.1)) iM := by
    have t := r.dropLast
    rw [List.map_append] at t
    simpa using t
  have lM : M.length = iM.length := by simpa using hl2
  have rv : RelV y.1 v := by
    obtain ⟨v', h1, h2⟩ := r.get (i := M.length) (x := y.1) (by simp)
    rw [lM] at h1
    simp at h1
    rw [h1]
    exact h2
  have hb : (iM ++ [v]).toArray.back? = some v := by simp
  rw [hb]
  have zM : (M ++ [y]).length = M.length + 1 := by rw [List.length_append, List.length_singleton]
  have I1 : Inv X pins σ (hp H a M) { s with heap := s.heap.update a (Obj.mapSeq fun x => x.pop) } :=
    I.lset (l := a) (ys := M.map (·.1)) (its' := iM) (f := fun x => x.pop) (t' := s.toks) hH e (by simp) rM (by rw [List.length_map]; omega)
  refine wpAny_bind (wpAny_updateSeq e rfl ?_ (by rw [List.size_toArray]; omega) (by rw [Array.size_pop, List.size_toArray]; omega))
  show wpAny _ X.A.in1 (if ((iM ++ [v]).toArray.size == 1) = true then _ else _) _ _ _
  have sz : (iM ++ [v]).toArray.size = M.length + 1 := by rw [List.size_toArray, ← hl2, zM]
  rw [sz]
  cases M with
  | nil =>
    rw [if_pos (by decide)]
    refine wpAny_pure ?_
    exact ⟨y.1, _, I1, rv, q y [] (List.Perm.refl _) (.few (by decide)) (fun _ h => nomatch h)⟩
  | cons x M =>
    rw [if_neg (by simp)]
    cases rM with
    | cons rx rM' =>
      rename_i u iM'
      have x0 : (u :: iM' ++ [v]).toArray[0]? = some u := rfl
      refine wpAny_bind (at_ (f := pure u) x0 ?_)
      obtain ⟨_, its2, n2, r2, hl3, e2⟩ := I1.lstM (l := a) (xs := (x :: M).map (·.1)) upd_same
      have I2 : Inv X pins σ (hp H a (y :: M)) { s with heap := (s.heap.update a (Obj.mapSeq fun x => x.pop)).update a (Obj.mapSeq fun xs => xs.setIfInBounds 0 v) } := by
        have t := I1.lset (l := a) (ys := (y :: M).map (fun p : Z => p.1)) (its' := its2.set 0 v) (f := fun xs => xs.setIfInBounds 0 v) (t' := s.toks) upd_same e2 (by simp) (show Vals ((y :: M).map (fun p : Z => p.1)) (its2.set 0 v) from r2.set rv 0) (by simp at *; omega)
        rw [upd_upd] at t
        exact t
      have ln : (y :: M).length = (x :: M).length := rfl
      refine wpAny_bind (wpAny_updateSeq e2 rfl ?_ (by rw [List.size_toArray]; simp at *; omega) (by rw [Array.size_setIfInBounds, List.size_toArray]; simp at *; omega))
      refine wpAny_pure ⟨plainId_quiet pl_sift _, ?_⟩
      have pe : (x :: M ++ [y]).Perm (x :: (y :: M)) := (List.perm_append_comm (l₁ := M) (l₂ := [y])).cons x
      have D : Down ltz (y :: M).length (nth (y :: M)) 0 0 := (F.less (m := (y :: M).length) (by simp)).root fun i h1 h2 => by
        cases i with
        | zero => omega
        | succ i => exact (nth_app (zs := x :: M) (ws := [y]) h2).symm
      have Gy : Good X.K H a (y :: M) := G.sub fun t ht => pe.mem_iff.mpr (List.mem_cons_of_mem _ ht)
      refine down_run hu (by simp at *; omega) Gy (fun s' ys p F' I' => ?_) _ 0 (y :: M) _ (Nat.le_refl _) (by simp) (List.Perm.refl _) D I2
      unfold Nx
      rw [if_pos (by decide)]
      exact ⟨x.1, _, I', rx, q x ys (pe.trans ((p.symm).cons x)) (by rw [p.length_eq]; exact F') fun t ht => least_all (zs := x :: M ++ [y]) rfl F t (pe.mem_iff.mpr (List.mem_cons_of_mem _ (p.mem_iff.mp ht)))⟩
end
end HQ
set_option Elab.async false
set_option maxRecDepth 100000
set_option maxHeartbeats 8000000
set_option pp.maxSteps 400
namespace RS
open PySem PySem.Spec PyProof.Rows L2 GX HQ
structure TxtH (mg : Str → Option Value) : Prop where
  heapify : mg "heapify" = some (.builtin "_heapq.heapify")
  push : mg "heappush" = some (.builtin "_heapq.heappush")
  pop : mg "heappop" = some (.builtin "_heapq.heappop")
  min : mg "min" = none
/-! ### entries of the queue -/
def decZ : PyData → Nat × Nat × PyData
  | .tuple [.int a, .int b, d] => (a.toNat, b.toNat, d)
  | _ => (0, 0, .none)
def lenZ (z : Z) : Nat := (decZ z.2).1
def numZ (z : Z) : Nat := (decZ z.2).2.1
def plnZ (z : Z) : PyData := (decZ z.2).2.2
structure OkZ (L : List Nat) (n made : Nat) (z : Z) : Prop where
  e : z.2 = .tuple [.int (lenZ z : Nat), .int (numZ z : Nat), plnZ z]
  ok : okP n (plnZ z)
  num : numZ z < made
  len : lenZ z = wts L (leaf (plnZ z))
mutual
theorem alike_self {n : Nat} : ∀ d : PyData, okP n d → PySem.W.alike d d = true
  | .int _, _ => by simp [PySem.W.alike]
  | .tuple ds, h => by
    unfold okP at h
    simp only [PySem.W.alike]
    exact alikes_self ds h.2.2
  | .none, h => by simp [okP] at h
  | .bool _, h => by simp [okP] at h
  | .str _, h => by simp [okP] at h
  | .list _, h => by simp [okP] at h
  | .dict _, h => by simp [okP] at h
theorem alikes_self {n : Nat} : ∀ ds : List PyData, okPs n ds → PySem.W.alikeAll ds ds = true
  | [], _ => by simp [PySem.W.alikeAll]
  | d :: ds, h => by
    unfold okPs at h
    simp only [PySem.W.alikeAll, Bool.and_eq_true]
    exact ⟨alike_self d h.1, alikes_self ds h.2⟩
end
theorem inj_num {zs : List Z} (nd : (zs.map numZ).Nodup) : ∀ {z y : Z}, z ∈ zs → y ∈ zs → numZ z = numZ y → z = y := by
  induction zs with
  | nil => intro z y h; cases h
  | cons x zs ih =>
    rw [List.map_cons, List.nodup_cons] at nd
    intro z y hz hy e
    rcases List.mem_cons.mp hz with e1 | hz1
    · rcases List.mem_cons.mp hy with e2 | hy2
      · rw [e1, e2]
      · exact absurd (List.mem_map.mpr ⟨y, hy2, by rw [← e, e1]⟩) nd.1
    · rcases List.mem_cons.mp hy with e2 | hy2
      · exact absurd (List.mem_map.mpr ⟨z, hz1, by rw [e, e2]⟩) nd.1
      · exact ih nd.2 hz1 hy2 e
theorem good_of {K : PySem.W.Frag} {H : Hp} {a : Addr} {zs : List Z} {L : List Nat} {n made : Nat} {xs : List V} (hH : H a = some (.lst xs)) (ok : ∀ z ∈ zs, OkZ L n made z) (dp : ∀ z ∈ zs, Dp K H z.1 z.2) (nd : (zs.map numZ).Nodup) (l40 : ∀ z ∈ zs, (leaf (plnZ z)).length ≤ 40) : Good K H a zs := by
  refine ⟨fun z hz u => ?_, fun z hz => ?_, fun z hz => ?_, fun z hz y hy => ?_⟩
  · refine dp_upd hH _ ?_ (dp z hz)
    have := okP_noL _ (ok z hz).ok
    rw [(ok z hz).e]
    simp [noL, noLs, this]
  · rw [(ok z hz).e]
    simp
  · have h1 := leaf_depth _ (ok z hz).ok
    have h2 := l40 z hz
    rw [(ok z hz).e]
    simp only [PyData.depth, PyData.depthAll]
    omega
  · by_cases e : numZ z = numZ y
    · have e := inj_num nd hz hy e
      subst e
      left
      have := alike_self _ (ok z hz).ok
      rw [(ok z hz).e]
      simp [PySem.W.alike, PySem.W.alikeAll, this]
    · right
      refine ⟨_, _, _, _, _, _, (ok z hz).e, (ok y hy).e, .inr ?_⟩
      omega
theorem least_len {L : List Nat} {n made : Nat} {z y : Z} (oz : OkZ L n made z) (oy : OkZ L n made y) (ne : numZ z ≠ numZ y) (h : ltz y z = false) : lenZ z ≤ lenZ y := by
  unfold ltz at h
  rw [oz.e, oy.e, triLt (.inr (by omega))] at h
  by_cases e : lenZ y = lenZ z
  · omega
  · rw [if_neg (by omega)] at h
    have := of_decide_eq_false h
    omega
structure QInv (K : PySem.W.Frag) (L : List Nat) (n : Nat) (H : Hp) (a : Addr) (zs : List Z) (made : Nat) : Prop where
  h : H a = some (.lst (zs.map (·.1)))
  f : From ltz zs.length (nth zs) 0
  ok : ∀ z ∈ zs, OkZ L n made z
  dp : ∀ z ∈ zs, Dp K H z.1 z.2
  nd : (zs.map numZ).Nodup
theorem OkZ.noL {L : List Nat} {n made : Nat} {z : Z} (o : OkZ L n made z) : noL z.2 = true := by
  have := okP_noL _ o.ok
  rw [o.e]
  simp [RS.noL, noLs, this]
theorem leaf_in : ∀ {ds : List PyData} {d : PyData}, d ∈ ds → (leaf d).length ≤ (leafs ds).length
  | e :: ds, d, h => by
    show _ ≤ (leaf e ++ leafs ds).length
    rw [List.length_append]
    rcases List.mem_cons.mp h with q | q
    · rw [q]
      omega
    · have := leaf_in q
      omega
theorem wts_leafs {L : List Nat} {n made : Nat} : ∀ {As : List Z}, (∀ z ∈ As, OkZ L n made z) → wts L (leafs (As.map plnZ)) = (As.map lenZ).sum
  | [], _ => rfl
  | z :: As, h => by
    show wts L (leaf (plnZ z) ++ leafs (As.map plnZ)) = lenZ z + (As.map lenZ).sum
    rw [wts_app, wts_leafs fun y hy => h y (List.mem_cons_of_mem _ hy), (h z List.mem_cons_self).len]
theorem costPs_sum (L : List Nat) : ∀ ds : List PyData, costPs L ds = (ds.map (costP L)).sum
  | [] => rfl
  | d :: ds => by
    show costP L d + costPs L ds = costP L d + (ds.map (costP L)).sum
    rw [costPs_sum L ds]
section
variable {P : Program} {w : World} {K : PySem.W.Frag} {mg : Str → Option Value} {base : Heap}
theorem scCheap : FnScope ["lengths", "ways", "queue", "moved", "made", "rows", "parts", "_", "length", "part", "at"] ["lengths", "ways"] (defScope s_cheapest) := ⟨rfl, rfl, rfl, by decide +kernel, rfl, by decide +kernel, by decide +kernel⟩
def spCheap (K : PySem.W.Frag) (p : Addr) : Sp := fun vs H Q _ => ∃ (vl : V) (ls : List Nat) (n : Nat), vs = [vl, .int (n : Nat)] ∧ Dp K H vl (lensD ls) ∧ OkLens ls ∧ 2 ≤ n ∧ n ≤ 6 ∧ Tab H p ∧
  ∀ (H' : Hp) (t : Addr) (v : V) (d : PyData) (c : Nat), Same H H' → H' t = some (.tup [.int (c : Nat), v]) → Dp K H' v d → OkPlan ls.length n d → K8.Gr n ls c → costP ls d = c → Q (.ref t) H'
theorem cheapest_ok {c p : Addr} (D : DefAt K mg "cheapest" s_cheapest c) (T : Txt K mg) (TH : TxtH mg) (cM : Cal P w K mg base CX0 4 "check_merging" ["lengths", "ways"] (spCheckMerging K p)) (cH : Cal P w K mg base CX0 1 "how_many" ["runs", "ways"] spHow) :
    Cal P w K mg base CX0 5 "cheapest" ["lengths", "ways"] (spCheap K p) := by
  have sc := scCheap
  refine def_ok0 D sc (fun vs H Q E h => ?_) (fun _ _ _ _ _ _ us hl => match us, hl with | [_, _], _ => rfl) (fun f A outer s H vs Q E hr h => ?_)
  · obtain ⟨vl, ls, n, rfl, _⟩ := h
    rfl
  · obtain ⟨vl, ls, n, rfl, hl, okl, n2, n6, ht, k⟩ := h
    have hu := hr.units
    refine ⟨_, (pss_cons (ps_expr (pe_c cM hr (by decide) (by rfl) pass0 (pa_cons (pv 0) (pa_cons (pv 1) pa_nil)))) (pss_cons (ps_setLc (own := [("at", 10), ("length", 8)]) (g := gTup K 2 (gCons (gName 10) (gCons (gName 8) gNil))) (tt := tYes) rfl sc.nd (i := 2) rfl rfl (by rfl) (pi_enum (by rfl) T.enumerate (pa_cons (pv 0) pa_nil)) (blkOk_by (N := ["lengths", "ways", "queue", "moved", "made", "rows", "parts", "_", "length", "part", "at"]) (sc := defScope s_cheapest) (own := [("at", 10), ("length", 8)]) (by decide +kernel)) (fun _ _ _ _ _ => (pg_tup (by rfl) (pgs_cons (pg_name (i := 10) sc.nd rfl (Or.inl rfl)) (pgs_cons (pg_name (i := 8) sc.nd rfl (Or.inl rfl)) pgs_nil)))) (fun _ _ _ _ _ => pts_nil) (fun _ _ _ _ _ => (pe_tup (pa_cons (pv 8) (pa_cons (pv 10) (pa_cons (pv 10) pa_nil)))))) (pss_cons (ps_expr (pe_callBfun (call_heapify hu) (by rfl) TH.heapify (pa_cons (pv 2) pa_nil))) (pss_cons (ps_par (i := 3) (j := 4) rfl sc.nd rfl rfl (by decide) rfl rfl (pa_cons pe_int (pa_cons (pe_callB call_lenD (by rfl) T.len PySem.boot_len (pa_cons (pv 0) pa_nil)) pa_nil)) (by rfl)) (pss_cons (ps_while PassesOwn.never (pt_cmpR op_gt (pe_callB call_len_seq (by rfl) T.len PySem.boot_len (pa_cons (pv 2) pa_nil)) pe_int (nomark _)) (pss_cons (ps_par (i := 5) (j := 6) rfl sc.nd rfl rfl (by decide) rfl rfl (pa_cons pe_int (pa_cons (pe_lst pa_nil) pa_nil)) (by rfl)) (pss_cons (ps_for PassesOwn.never rfl (pi_range1 (by rfl) T.range (pa_cons (pe_c cH hr (by decide) (by rfl) pass0 (pa_cons (pe_callB call_len_seq (by rfl) T.len PySem.boot_len (pa_cons (pv 2) pa_nil)) (pa_cons (pv 1) pa_nil))) pa_nil)) (pg_name (i := 7) sc.nd rfl (Or.inl rfl)) (pss_cons (ps_asg (pe_callBfun (call_popH hu) (by rfl) TH.pop (pa_cons (pv 2) pa_nil)) (pg_tup (by rfl) (pgs_cons (pg_name (i := 8) sc.nd rfl (Or.inl rfl)) (pgs_cons (pg_name (i := 7) sc.nd rfl (Or.inl rfl)) (pgs_cons (pg_name (i := 9) sc.nd rfl (Or.inl rfl)) pgs_nil))))) (pss_cons (ps_aug (i := 5) sc.nd rfl (Or.inl rfl) (pv 8) ip_add) (pss_one (ps_expr (pe_bm PySem.F.plainAttrs_list PySem.F.slot_list_append PySem.F.type_list_append mt_append (pv 6) (pa_cons (pv 9) pa_nil))))))) (pss_cons (ps_expr (pe_callBfun (call_push hu) (by rfl) TH.push (pa_cons (pv 2) (pa_cons (pe_tup (pa_cons (pv 5) (pa_cons (pv 4) (pa_cons (pe_callTy call_tuple_of (by rfl) T.tuple_ (by decide +kernel) (pa_cons (pv 6) pa_nil)) pa_nil)))) pa_nil)))) (pss_cons (ps_aug (i := 3) sc.nd rfl (Or.inl rfl) (pv 5) ip_add) (pss_one (ps_aug (i := 4) sc.nd rfl (Or.inl rfl) pe_int ip_add))))))) (pss_one (ps_ret (pe_tup (pa_cons (pv 3) (pa_cons (pe_ix ix_tup (pe_ix ix_list (pv 2) pe_int (fun _ _ => rfl)) pe_int (fun _ _ => rfl)) pa_nil)))))))))), ?_⟩
    refine ⟨_, rfl, _, rfl, vl, ls, _, rfl, hl, okl, by omega, by omega, ht, fun H1 s1 => ?_⟩
    have hl1 := dp_same s1 _ hl
    have o1 := okl.one
    have o2 := okl.most
    cases hl1 with
    | @lst aL xl _ hS hI =>
      have lx : xl.length = ls.length := by rw [dpLen hI, List.length_map]
      refine ⟨_, rfl, aL, xl, rfl, hS, fun DD hD => ?_⟩
      refine lc_by ls.length (fun i H' => Same H1 H' ∧ ∃ zs : List Z, H' DD = some (.lst (zs.map (·.1))) ∧ (∀ z ∈ zs, Dp K H' z.1 z.2) ∧ zs.map (·.2) = (List.range i).map fun j => .tuple [.int (ls.getD j 0 : Nat), .int (j : Nat), .int (j : Nat)])
        ⟨fun b o e => by rw [upd_ne (ne_of_none e hD)]; exact e, [], upd_same, (fun _ h => nomatch h), rfl⟩ ?_ ?_
      · rintro i H2 hi ⟨sm, zs, hDD, dz, ez⟩
        have hSa := sm.seq hS
        have hix : i < xl.length := by omega
        refine ⟨⟨xl, xl[i], hSa, List.getElem?_eq_getElem hix⟩, fun y H3 ⟨TT, x, ey, hT, eH, hx⟩ => ?_⟩
        subst ey eH
        have ex := hx xl hSa
        obtain ⟨d, ed, hd⟩ := dpGet hI ex
        obtain ⟨en, rfl⟩ : ls[i]? = some ls[i] ∧ d = PyData.int (ls[i] : Nat) := by
          rw [List.getElem?_map, List.getElem?_eq_getElem hi] at ed
          exact ⟨List.getElem?_eq_getElem hi, (Option.some.inj ed).symm⟩
        cases hd
        have sT : Same H2 (upd H2 TT (.tup [.int (i : Nat), .int (ls[i] : Nat)])) := fun b o e => by
          rw [upd_ne (ne_of_none e hT)]
          exact e
        refine ⟨TT, _, rfl, SqT.of upd_same, rfl, _, _, rfl, _, _, rfl, rfl, ?_⟩
        refine ⟨rfl, _, rfl, _, rfl, _, rfl, by show 3 ≤ sizeLine; decide, fun pt hpt => ?_⟩
        generalize upd H2 TT (.tup [.int (i : Nat), .int (ls[i] : Nat)]) = H3 at sT hpt ⊢
        have s6 : Same H3 (upd H3 pt (.tup [.int (ls[i] : Nat), .int (i : Nat), .int (i : Nat)])) := fun b o e => by
          rw [upd_ne (ne_of_none e hpt)]
          exact e
        have lz : zs.length = i := by
          have := congrArg List.length ez
          rw [List.length_map, List.length_map, List.length_range] at this
          exact this
        have hD6 := s6 _ _ (sT _ _ hDD)
        refine ⟨_, hD6, small1000 (by rw [List.length_map]; omega), fun b o q => ?_, zs ++ [((.ref pt : V), PyData.tuple [.int (ls[i] : Nat), .int (i : Nat), .int (i : Nat)])], ?_, fun z hz => ?_, ?_⟩
        · rw [upd_ne (ne_of_none q hD)]
          exact s6 _ _ (sT _ _ (sm _ _ q))
        · rw [upd_same, List.map_append]
          rfl
        · have nlz : ∀ z ∈ zs, RS.noL z.2 = true := fun z hz => by
            have : z.2 ∈ zs.map (·.2) := List.mem_map.mpr ⟨z, hz, rfl⟩
            rw [ez] at this
            obtain ⟨j, _, e⟩ := List.mem_map.mp this
            rw [← e]
            rfl
          rcases List.mem_append.mp hz with h | h
          · exact dp_upd hD6 _ (nlz z h) (dp_same s6 _ (dp_same sT _ (dz z h)))
          · rw [List.mem_singleton.mp h]
            exact dp_upd hD6 _ rfl (.tup (SqT.of upd_same) (.cons (.int _) (.cons (.int _) (.cons (.int _) .nil))))
        · rw [List.map_append, ez, List.range_succ, List.map_append]
          have : ls.getD i 0 = ls[i] := by simp [List.getD, hi]
          rw [List.map_singleton, List.map_singleton, this]
      · rintro H2 ⟨sm, zs, hDD, dz, ez⟩
        refine ⟨⟨xl, sm.seq hS, by omega⟩, ?_⟩
        dsimp only [gName]
        have lz : zs.length = ls.length := by
          have := congrArg List.length ez
          rw [List.length_map, List.length_map, List.length_range] at this
          exact this
        have okz : ∀ z ∈ zs, OkZ ls n ls.length z ∧ costP ls (plnZ z) = 0 := fun z hz => by
          have : z.2 ∈ zs.map (·.2) := List.mem_map.mpr ⟨z, hz, rfl⟩
          rw [ez] at this
          obtain ⟨j, hj, e⟩ := List.mem_map.mp this
          have hj := List.mem_range.mp hj
          have d1 : lenZ z = ls.getD j 0 := by unfold lenZ; rw [← e]; simp [decZ]
          have d2 : numZ z = j := by unfold numZ; rw [← e]; simp [decZ]
          have d3 : plnZ z = .int (j : Nat) := by unfold plnZ; rw [← e]; rfl
          refine ⟨⟨by rw [d1, d2, d3, e], by rw [d3]; exact ⟨by omega, by omega⟩, by rw [d2]; exact hj, ?_⟩, by rw [d3]; rfl⟩
          rw [d1, d3]
          show ls.getD j 0 = (List.map (fun j => ls.getD j 0) [((j : Nat) : Int).toNat]).sum
          rw [Int.toNat_natCast]
          simp
        have enum : zs.map numZ = List.range ls.length := by
          have e1 : zs.map numZ = (zs.map (·.2)).map fun d => (decZ d).2.1 := by rw [List.map_map]; rfl
          rw [e1, ez, List.map_map]
          have : (List.range ls.length).map ((fun d => (decZ d).2.1) ∘ fun j => PyData.tuple [.int (ls.getD j 0 : Nat), .int (j : Nat), .int (j : Nat)]) = (List.range ls.length).map id := List.map_congr_left fun j _ => by simp [decZ]
          rw [this, List.map_id]
        have epln : leafs (zs.map plnZ) = List.range ls.length := by
          have e1 : zs.map plnZ = (zs.map (·.2)).map fun d => (decZ d).2.2 := by rw [List.map_map]; rfl
          rw [e1, ez, List.map_map]
          have : (List.range ls.length).map ((fun d => (decZ d).2.2) ∘ fun j => PyData.tuple [.int (ls.getD j 0 : Nat), .int (j : Nat), .int (j : Nat)]) = (List.range ls.length).map fun j => PyData.int (j : Nat) := rfl
          rw [this, leafs_nats]
        have elen : zs.map lenZ = ls := by
          have e1 : zs.map lenZ = (zs.map (·.2)).map fun d => (decZ d).1 := by rw [List.map_map]; rfl
          rw [e1, ez, List.map_map]
          refine List.ext_getElem (by simp) fun j h1 h2 => ?_
          simp [decZ, List.getD, h2]
        have ndz : (zs.map numZ).Nodup := by rw [enum]; exact List.nodup_range
        have l40 : ∀ zs' : List Z, (leafs (zs'.map plnZ)).length ≤ 40 → ∀ z ∈ zs', (leaf (plnZ z)).length ≤ 40 := fun zs' h z hz => Nat.le_trans (leaf_in (List.mem_map.mpr ⟨z, hz, rfl⟩)) h
        have gd := good_of hDD (fun z hz => (okz z hz).1) dz ndz (l40 zs (by rw [epln, List.length_range]; exact o2))
        refine ⟨_, rfl, DD, zs, rfl, hDD, gd, by omega, fun zs1 pm1 F1 => ?_⟩
        have sm1 : Same H1 (hp H2 DD zs1) := fun b o e => by
          show upd H2 DD _ b = _
          rw [upd_ne (ne_of_none e hD)]
          exact sm _ _ e
        have nlz : ∀ z ∈ zs, RS.noL z.2 = true := fun z hz => (okz z hz).1.noL
        have q1 : QInv K ls n (hp H2 DD zs1) DD zs1 ls.length := ⟨upd_same, F1, fun z hz => (okz z (pm1.mem_iff.mp hz)).1, fun z hz => gd.dp z (pm1.mem_iff.mp hz) _, (pm1.map numZ).nodup_iff.mpr ndz⟩
        refine ⟨_, rfl, _, _, _, rfl, dp_same sm1 _ (.lst hS hI), rfl, _, _, rfl, ?_⟩
        rw [List.length_map]
        generalize hp H2 DD zs1 = H3 at sm1 q1 ⊢
        refine ⟨fun mm σ H' => ∃ (zs : List Z) (mv made : Nat) (v5 v6 v7 v8 v9 : Option V), σ = [some (.ref aL), some (.int (n : Nat)), some (.ref DD), some (.int (mv : Nat)), some (.int (made : Nat)), v5, v6, v7, v8, v9, none] ∧ Same H1 H' ∧ QInv K ls n H' DD zs made ∧
          (leafs (zs.map plnZ)).Perm (List.range ls.length) ∧ 1 ≤ zs.length ∧ mv = (zs.map fun z => costP ls (plnZ z)).sum ∧ (∀ c, K8.Gr n (zs.map lenZ) c → K8.Gr n ls (mv + c)) ∧ mm = zs.length,
          ⟨_, zs1, 0, ls.length, none, none, none, none, none, rfl, sm1, q1, ?_, ?_, ?_, ?_, rfl⟩, ?_⟩
        · rw [← epln]
          exact leafs_perm (pm1.map plnZ)
        · rw [pm1.length_eq]
          omega
        · have : ∀ l : List Z, (∀ z ∈ l, z ∈ zs) → (l.map fun z => costP ls (plnZ z)).sum = 0 := by
            intro l
            induction l with
            | nil => intro _; rfl
            | cons z l ih =>
              intro h
              rw [List.map_cons, List.sum_cons, (okz z (h z List.mem_cons_self)).2, ih fun y hy => h y (List.mem_cons_of_mem _ hy)]
          exact (this zs1 fun z hz => pm1.mem_iff.mp hz).symm
        · intro c g
          rw [Nat.zero_add]
          refine g.perm ?_
          rw [← elen]
          exact (pm1.map lenZ).symm
        clear q1 sm1 F1 pm1 gd okz enum epln elen ndz dz hDD sm nlz ez
        rintro mm σ H4 ⟨zs, mv, made, v5, v6, v7, v8, v9, rfl, sm, q, lp, z1, emv, gr, rfl⟩
        have lf40 : (leafs (zs.map plnZ)).length ≤ 40 := by rw [lp.length_eq, List.length_range]; exact o2
        have okps : okPs n (zs.map plnZ) := okPs_iff.mpr fun d hd => by
          obtain ⟨z, hz, rfl⟩ := List.mem_map.mp hd
          exact (q.ok z hz).ok
        have zl := leafs_depth _ okps
        rw [List.length_map] at zl
        refine ⟨_, rfl, DD, _, rfl, .inl (SqL.of q.h), _, _, rfl, rfl, _, rfl, ?_⟩
        rw [List.length_map]
        by_cases hgt : zs.length > 1
        · refine iteT' (decide_eq_true (by omega)) ⟨_, fun _ _ h => h, ?_⟩
          refine ⟨Nat.zero_le _, fun PT hPT => ⟨_, _, rfl, ?_⟩⟩
          have hq1 : upd H4 PT (.lst []) DD = some (.lst (zs.map (·.1))) := (upd_ne fun z => by rw [← z, q.h] at hPT; cases hPT).trans q.h
          have nDP : DD ≠ PT := fun z => by rw [← z, q.h] at hPT; cases hPT
          have hP1 : H1 PT = none := sm.free hPT
          refine ⟨_, rfl, DD, _, rfl, .inl (SqL.of hq1), _, rfl, zs.length, n, by simp, by omega, n2, n6, ?_⟩
          obtain ⟨kk2, kkw⟩ := K8.kk_le (n := zs.length) n2
          have ekk : (2 + (zs.length - 2) % (n - 1)) = K8.kk n zs.length := rfl
          rw [ekk]
          have kkz : K8.kk n zs.length ≤ zs.length := by
            unfold K8.kk
            have := Nat.mod_le (zs.length - 2) (n - 1)
            omega
          refine ⟨_, rfl, by omega, by omega, ?_⟩
          rw [Int.toNat_natCast]
          refine for_range (fun j σ H' => ∃ (zr As : List Z) (xP : List V) (v7 v8 v9 : Option V), σ = [some (.ref aL), some (.int (n : Nat)), some (.ref DD), some (.int (mv : Nat)), some (.int (made : Nat)), some (.int ((As.map lenZ).sum : Nat)), some (.ref PT), v7, v8, v9, none] ∧ Same H1 H' ∧ QInv K ls n H' DD zr made ∧
            H' PT = some (.lst xP) ∧ DpAll K H' xP (As.map plnZ) ∧ (As ++ zr).Perm zs ∧ As.length = j ∧ (As.map lenZ).Pairwise (· ≤ ·) ∧ (∀ a ∈ As, ∀ z ∈ zr, lenZ a ≤ lenZ z))
            ⟨zs, [], [], v7, v8, v9, rfl, fun b o e => ?_, ⟨hq1, q.f, q.ok, fun z hz => ?_, q.nd⟩, upd_same, .nil, List.Perm.refl _, rfl, .nil, (fun _ h => nomatch h)⟩ ?_ ?_
          · rw [upd_ne (ne_of_none (sm _ _ e) hPT)]
            exact sm _ _ e
          · exact dp_same (fun b o e => by rw [upd_ne (ne_of_none e hPT)]; exact e) _ (q.dp z hz)
          · rintro j σ H5 hj ⟨zr, As, xP, v7, v8, v9, rfl, sm5, q5, hP5, dP, pz, lA, sA, mA⟩
            have lzr : zr.length + j = zs.length := by
              have := pz.length_eq
              rw [List.length_append, lA] at this
              omega
            have inz : ∀ z ∈ zr, z ∈ zs := fun z hz => pz.mem_iff.mp (List.mem_append_right _ hz)
            have gd5 := good_of q5.h q5.ok q5.dp q5.nd fun z hz => l40 zs lf40 z (inz z hz)
            refine ⟨_, rfl, DD, zr, rfl, q5.h, by omega, gd5, q5.f, fun z ys pm F2 m => ?_⟩
            have zin : z ∈ zr := pm.mem_iff.mpr List.mem_cons_self
            have yin : ∀ y ∈ ys, y ∈ zr := fun y hy => pm.mem_iff.mpr (List.mem_cons_of_mem _ hy)
            have oz := q5.ok z zin
            have nd2 : ((z :: ys).map numZ).Nodup := (pm.map numZ).nodup_iff.mp q5.nd
            have hP6 : hp H5 DD ys PT = some (.lst xP) := (upd_ne (Ne.symm nDP)).trans hP5
            have hz1 : Dp K (hp H5 DD ys) z.1 (.tuple [.int (lenZ z : Nat), .int (numZ z : Nat), plnZ z]) := by
              have := gd5.dp z zin (ys.map (·.1))
              rw [oz.e] at this
              exact this
            have dP6 : DpAll K (hp H5 DD ys) xP (As.map plnZ) := dpAll_upd q5.h _ (noLs_iff.mpr fun d hd => by
              obtain ⟨y, hy, rfl⟩ := List.mem_map.mp hd
              exact okP_noL _ (q.ok y (pz.mem_iff.mp (List.mem_append_left _ hy))).ok) dP
            have sm6 : Same H1 (hp H5 DD ys) := fun b o e => by
              show upd H5 DD _ b = _
              rw [upd_ne (ne_of_none e hD)]
              exact sm5 _ _ e
            have q6 : QInv K ls n (hp H5 DD ys) DD ys made := ⟨upd_same, F2, fun y hy => q5.ok y (yin y hy), fun y hy => gd5.dp y (yin y hy) _, (List.nodup_cons.mp nd2).2⟩
            generalize hp H5 DD ys = H6 at hz1 hP6 dP6 sm6 q6 ⊢
            have lxP : xP.length = As.length := by rw [dpLen dP6, List.length_map]
            generalize hzv : z.1 = zv at hz1
            cases hz1 with
            | @tup t tz _ hT hI =>
              cases hI with
              | cons g1 hI =>
                cases hI with
                | cons g2 hI =>
                  cases hI with
                  | cons g3 hI =>
                    cases hI
                    cases g1
                    cases g2
                    refine ⟨t, _, rfl, hT, rfl, _, _, rfl, _, _, rfl, _, _, rfl, rfl, ?_⟩
                    refine ⟨_, rfl, _, rfl, _, _, rfl, rfl, ?_⟩
                    refine ⟨_, rfl, .inl ⟨rfl, _, SqL.of hP6⟩, _, rfl, PT, xP, _, rfl, rfl, hP6, small1000 (by omega), ?_⟩
                    have nlA : noLs ((As ++ [z]).map plnZ) = true := noLs_iff.mpr fun d hd => by
                      obtain ⟨y, hy, rfl⟩ := List.mem_map.mp hd
                      rcases List.mem_append.mp hy with h | h
                      · exact okP_noL _ (q.ok y (pz.mem_iff.mp (List.mem_append_left _ h))).ok
                      · rw [List.mem_singleton.mp h]
                        exact okP_noL _ oz.ok
                    refine ⟨ys, As ++ [z], _, _, _, _, (by rw [List.map_append, nsum_app]; rfl), fun b o e => ?_, ⟨(upd_ne nDP).trans q6.h, q6.f, q6.ok, fun y hy => dp_upd hP6 _ (q6.ok y hy).noL (q6.dp y hy), q6.nd⟩, upd_same, ?_, ?_, by rw [List.length_append, lA]; rfl, ?_, ?_⟩
                    · rw [upd_ne (ne_of_none e hP1)]
                      exact sm6 _ _ e
                    · rw [List.map_append] at nlA ⊢
                      exact dpAll_upd hP6 _ nlA (dpApp dP6 (.cons g3 .nil))
                    · rw [List.append_assoc]
                      exact ((pm.symm).append_left As).trans pz
                    · rw [List.map_append]
                      refine List.pairwise_append.mpr ⟨sA, List.pairwise_singleton _ _, fun a ha b hb => ?_⟩
                      obtain ⟨x, hx, rfl⟩ := List.mem_map.mp ha
                      rw [List.mem_singleton.mp hb]
                      exact mA x hx z zin
                    · intro a ha y hy
                      rcases List.mem_append.mp ha with h | h
                      · exact mA a h y (yin y hy)
                      · rw [List.mem_singleton.mp h]
                        refine least_len oz (q5.ok y (yin y hy)) (fun e => ?_) (m y hy)
                        rw [List.map_cons, List.nodup_cons] at nd2
                        exact nd2.1 (by rw [e]; exact List.mem_map.mpr ⟨y, hy, rfl⟩)
          · rintro σ H5 ⟨zr, As, xP, v7, v8, v9, rfl, sm5, q5, hP5, dP, pz, lA, sA, mA⟩
            have lzr : zr.length + As.length = zs.length := by
              have := pz.length_eq
              rw [List.length_append] at this
              omega
            have okA : ∀ a ∈ As, OkZ ls n made a := fun a ha => q.ok a (pz.mem_iff.mp (List.mem_append_left _ ha))
            have okPA : okPs n (As.map plnZ) := okPs_iff.mpr fun d hd => by
              obtain ⟨y, hy, rfl⟩ := List.mem_map.mp hd
              exact (okA y hy).ok
            have plf := leafs_perm (pz.map plnZ)
            rw [List.map_append, leafs_app] at plf
            refine ⟨_, rfl, _, rfl, _, rfl, _, rfl, PT, xP, rfl, .inl ⟨SqL.of hP5, fun tp htp => ?_⟩⟩
            have sT : Same H5 (upd H5 tp (.tup xP)) := fun b o e => by
              rw [upd_ne (ne_of_none e htp)]
              exact e
            refine ⟨by show 3 ≤ sizeLine; decide, fun pt hpt => ?_⟩
            have hrw : ((As.map lenZ).sum : Nat) = wts ls (leafs (As.map plnZ)) := (wts_leafs okA).symm
            let zN : Z := (.ref pt, .tuple [.int ((As.map lenZ).sum : Nat), .int (made : Nat), .tuple (As.map plnZ)])
            have e1 : lenZ zN = (As.map lenZ).sum := by
              show (((As.map lenZ).sum : Nat) : Int).toNat = _
              rw [Int.toNat_natCast]
            have e2 : numZ zN = made := by
              show ((made : Nat) : Int).toNat = _
              rw [Int.toNat_natCast]
            have e3 : plnZ zN = .tuple (As.map plnZ) := rfl
            have oN : OkZ ls n (made + 1) zN := ⟨by rw [e1, e2, e3], by rw [e3]; exact ⟨by rw [List.length_map]; omega, by rw [List.length_map]; omega, okPA⟩, by rw [e2]; omega, by rw [e1, e3]; exact hrw⟩
            have sP : Same H5 (upd (upd H5 tp (.tup xP)) pt (.tup [.int ((As.map lenZ).sum : Nat), .int (made : Nat), .ref tp])) := fun b o e => by
              rw [upd_ne (ne_of_none (sT _ _ e) hpt)]
              exact sT _ _ e
            have npt : pt ≠ tp := fun z => by rw [z, upd_same] at hpt; cases hpt
            have dN : Dp K (upd (upd H5 tp (.tup xP)) pt (.tup [.int ((As.map lenZ).sum : Nat), .int (made : Nat), .ref tp])) zN.1 zN.2 :=
              .tup (SqT.of upd_same) (.cons (.int _) (.cons (.int _) (.cons (.tup (SqT.of ((upd_ne (Ne.symm npt)).trans upd_same)) (dpAll_same sP _ dP)) .nil)))
            generalize upd (upd H5 tp (.tup xP)) pt (.tup [.int ((As.map lenZ).sum : Nat), .int (made : Nat), .ref tp]) = H6 at sP dN ⊢
            have hq6 := sP _ _ q5.h
            have ok6 : ∀ z ∈ zr ++ [zN], OkZ ls n (made + 1) z := fun z hz => by
              rcases List.mem_append.mp hz with h | h
              · have o := q5.ok z h
                exact ⟨o.e, o.ok, Nat.lt_succ_of_lt o.num, o.len⟩
              · rw [List.mem_singleton.mp h]
                exact oN
            have dp6 : ∀ z ∈ zr ++ [zN], Dp K H6 z.1 z.2 := fun z hz => by
              rcases List.mem_append.mp hz with h | h
              · exact dp_same sP _ (q5.dp z h)
              · rw [List.mem_singleton.mp h]
                exact dN
            have nd6 : ((zr ++ [zN]).map numZ).Nodup := by
              rw [List.map_append, List.map_singleton, e2]
              refine List.nodup_append.mpr ⟨q5.nd, (by simp), fun a ha b hb => ?_⟩
              obtain ⟨y, hy, rfl⟩ := List.mem_map.mp ha
              have := (q5.ok y hy).num
              rw [List.mem_singleton.mp hb]
              omega
            have lf6 : (leafs ((zr ++ [zN]).map plnZ)).Perm (List.range ls.length) := by
              rw [List.map_append, leafs_app]
              have : leafs ([zN].map plnZ) = leafs (As.map plnZ) := by
                show leafs (As.map plnZ) ++ [] = _
                rw [List.append_nil]
              rw [this]
              exact List.perm_append_comm.trans (plf.trans lp)
            have gd6 := good_of hq6 ok6 dp6 nd6 (l40 _ (by rw [lf6.length_eq, List.length_range]; exact o2))
            refine ⟨DD, zr, zN, rfl, hq6, gd6, small1000 (by omega), q5.f, fun ys pm F => ?_⟩
            have sm7 : Same H1 (hp H6 DD ys) := fun b o e => by
              show upd H6 DD _ b = _
              rw [upd_ne (ne_of_none e hD)]
              exact sP _ _ (sm5 _ _ e)
            have q7 : QInv K ls n (hp H6 DD ys) DD ys (made + 1) := ⟨upd_same, F, fun z hz => ok6 z (pm.mem_iff.mp hz), fun z hz => gd6.dp z (pm.mem_iff.mp hz) _, (pm.map numZ).nodup_iff.mpr nd6⟩
            have ly : ys.length = zr.length + 1 := by rw [pm.length_eq, List.length_append, List.length_singleton]
            refine ⟨_, rfl, _, rfl, _, _, rfl, rfl, _, rfl, _, _, rfl, rfl, ?_⟩
            refine ⟨ys.length, by omega, ys, mv + (As.map lenZ).sum, made + 1, _, _, _, _, _, rfl, sm7, q7, (leafs_perm (pm.map plnZ)).trans lf6, by omega, ?_, fun c g => ?_, rfl⟩
            · have a1 := K8.sum_perm (pm.map fun z => costP ls (plnZ z))
              have a2 := K8.sum_perm (pz.map fun z => costP ls (plnZ z))
              rw [List.map_append, nsum_app] at a1 a2
              have a3 : ([zN].map fun z => costP ls (plnZ z)).sum = (As.map fun z => costP ls (plnZ z)).sum + (As.map lenZ).sum := by
                rw [List.map_singleton, e3, hrw]
                show costPs ls (As.map plnZ) + wts ls (leafs (As.map plnZ)) + 0 = _
                rw [costPs_sum, List.map_map]
                rfl
              rw [a1, a3, emv, ← a2]
              omega
            · have g2 : K8.Gr n ((As.map lenZ).sum :: zr.map lenZ) c := g.perm (by
                have := (pm.map lenZ).symm
                rw [List.map_append, List.map_singleton, e1] at this
                exact List.perm_append_comm.trans this)
              have g3 : K8.Gr n (zs.map lenZ) ((As.map lenZ).sum + c) := by
                refine .step (A := As.map lenZ) (R := zr.map lenZ) ?_ (by rw [List.length_map]; omega) (by rw [List.length_map, List.length_map, lA]) sA (fun a ha r hr => ?_) g2
                · rw [← List.map_append]
                  exact (pz.map lenZ).symm
                · obtain ⟨x, hx, rfl⟩ := List.mem_map.mp ha
                  obtain ⟨y, hy, rfl⟩ := List.mem_map.mp hr
                  exact mA x hx y hy
              have := gr _ g3
              rw [Nat.add_assoc]
              exact this
        · refine iteF' (decide_eq_false (by omega)) ?_
          have l1 : zs.length = 1 := by omega
          cases zs with
          | nil => simp at l1
          | cons z zt =>
            cases zt with
            | cons _ _ => simp at l1
            | nil =>
              have oz := q.ok z List.mem_cons_self
              have hz := q.dp z List.mem_cons_self
              rw [oz.e] at hz
              have hqh := q.h
              rw [List.map_singleton] at hqh
              have em3 : mv = costP ls (plnZ z) := by
                rw [emv]
                simp
              have lp' : (leaf (plnZ z)).Perm (List.range ls.length) := by simpa [leafs] using lp
              have g0 := gr 0 (.one _)
              generalize z.1 = zv at hz hqh
              cases hz with
              | @tup t tz _ hT hI =>
                cases hI with
                | cons g1 hI =>
                  cases hI with
                  | cons g2 hI =>
                    cases hI with
                    | cons g3 hI =>
                      cases hI
                      refine ⟨_, rfl, _, rfl, DD, _, _, _, rfl, rfl, SqL.of hqh, atI_nat (j := 0) rfl, t, _, _, _, rfl, rfl, hT, atI_nat (j := 2) rfl, by show 2 ≤ sizeLine; decide, fun pt hpt => ?_⟩
                      have sT : ∀ u, Same H4 (upd H4 pt u) := fun u b o e => by
                        rw [upd_ne (ne_of_none e hpt)]
                        exact e
                      exact k _ pt _ (plnZ z) mv ((s1.trans sm).trans (sT _)) upd_same (dp_same (sT _) _ g3) ⟨oz.ok, lp'⟩ (by simpa using g0) em3.symm
end
end RS
set_option Elab.async false
set_option maxRecDepth 100000
set_option maxHeartbeats 8000000
namespace RS
open PySem PySem.Spec PyProof.Rows L2 GX
section
variable {P : Program} {w : World} {K : PySem.W.Frag} {mg : Str → Option Value} {base : Heap}
theorem scAlike : FnScope ["_law_found", "_law_due", "_law_k"] ["_law_found", "_law_due"] (defScope sAlike) := ⟨rfl, rfl, rfl, by decide +kernel, rfl, by decide +kernel, by decide +kernel⟩
def spAlike (K : PySem.W.Frag) (n : Nat) : Sp := fun vs H Q _ => ∃ (v1 v2 : V) (d : PyData), vs = [v1, v2] ∧ Dp K H v1 d ∧ Dp K H v2 d ∧ few d ∧ d.depth ≤ n ∧ Q (.bl true) H
set_option linter.unusedVariables false in
theorem alike_none {c : Addr} (D : DefAt K mg "_law_alike" sAlike c) : Cal P w K mg base CX0 1 "_law_alike" ["_law_found", "_law_due"] (fun _ _ _ _ => False) :=
  def_ok0 D scAlike (fun vs H Q E h => h.elim) (fun _ _ _ _ _ _ us hl => match us, hl with | [_, _], _ => rfl) (fun f A outer s H vs Q E hr h => h.elim)
theorem alike_step {c : Addr} (D : DefAt K mg "_law_alike" sAlike c) (T : Txt K mg) {j : Nat} (n : Nat) {sp : Sp} (hj : 1 ≤ j) (cR : Cal P w K mg base CX0 j "_law_alike" ["_law_found", "_law_due"] sp)
    (hsp : ∀ (v1 v2 : V) (d : PyData) (H : Hp) (Q : VK) (E : XK), Dp K H v1 d → Dp K H v2 d → few d → d.depth + 1 ≤ n → Q (.bl true) H → sp [v1, v2] H Q E) : Cal P w K mg base CX0 (j + 1) "_law_alike" ["_law_found", "_law_due"] (spAlike K n) := by
  have sc := scAlike
  refine def_ok0 D sc (fun vs H Q E h => ?_) (fun _ _ _ _ _ _ us hl => match us, hl with | [_, _], _ => rfl) (fun f A outer s H vs Q E hr h => ?_)
  · obtain ⟨v1, v2, d, rfl, _⟩ := h
    rfl
  · obtain ⟨v1, v2, d, rfl, h1, h2, hf, hn, k⟩ := h
    refine ⟨_, (pss_cons (ps_if (pt_cmpR op_isN (pv 1) pe_non (nomark _)) (pss_one (ps_ret (pe_cmpR op_isN (pv 0) pe_non (nomark _)))) pss_nil) (pss_cons (ps_if (pt_val (pe_callB call_isiD (by rfl) T.isinstance (by decide +kernel) (pa_cons (pv 1) (pa_cons (pe_bltn (v := V.ty "bool") (u := Value.type "bool") (by rfl) T.bool_ (by decide +kernel) rfl) pa_nil)))) (pss_one (ps_ret (pe_and (pe_callB call_isiD (by rfl) T.isinstance (by decide +kernel) (pa_cons (pv 0) (pa_cons (pe_bltn (v := V.ty "bool") (u := Value.type "bool") (by rfl) T.bool_ (by decide +kernel) rfl) pa_nil))) (pe_one (pe_cmpR op_eq (pv 0) (pv 1) (nomark _)))))) pss_nil) (pss_cons (ps_if (pt_val (pe_callB call_isiD (by rfl) T.isinstance (by decide +kernel) (pa_cons (pv 1) (pa_cons (pe_bltn (v := V.ty "int") (u := Value.type "int") (by rfl) T.int_ (by decide +kernel) rfl) pa_nil)))) (pss_one (ps_ret (pe_and (pe_callB call_isiD (by rfl) T.isinstance (by decide +kernel) (pa_cons (pv 0) (pa_cons (pe_bltn (v := V.ty "int") (u := Value.type "int") (by rfl) T.int_ (by decide +kernel) rfl) pa_nil))) (pe_and (pe_not (pe_callB call_isiD (by rfl) T.isinstance (by decide +kernel) (pa_cons (pv 0) (pa_cons (pe_bltn (v := V.ty "bool") (u := Value.type "bool") (by rfl) T.bool_ (by decide +kernel) rfl) pa_nil)))) (pe_one (pe_cmpR op_eq (pv 0) (pv 1) (nomark _))))))) pss_nil) (pss_cons (ps_if (pt_val (pe_callB call_isiD (by rfl) T.isinstance (by decide +kernel) (pa_cons (pv 1) (pa_cons (pe_bltn (v := V.ty "str") (u := Value.type "str") (by rfl) T.str_ (by decide +kernel) rfl) pa_nil)))) (pss_one (ps_ret (pe_and (pe_callB call_isiD (by rfl) T.isinstance (by decide +kernel) (pa_cons (pv 0) (pa_cons (pe_bltn (v := V.ty "str") (u := Value.type "str") (by rfl) T.str_ (by decide +kernel) rfl) pa_nil))) (pe_one (pe_cmpR op_eq (pv 0) (pv 1) (nomark _)))))) pss_nil) (pss_cons (ps_if ((pw_or (pt_cmpR op_ne (pe_callB call_isiD (by rfl) T.isinstance (by decide +kernel) (pa_cons (pv 1) (pa_cons (pe_bltn (v := V.ty "tuple") (u := Value.type "tuple") (by rfl) T.tuple_ (by decide +kernel) rfl) pa_nil))) (pe_callB call_isiD (by rfl) T.isinstance (by decide +kernel) (pa_cons (pv 0) (pa_cons (pe_bltn (v := V.ty "tuple") (u := Value.type "tuple") (by rfl) T.tuple_ (by decide +kernel) rfl) pa_nil))) (nomark _)) (pw_or1 (pt_cmpR op_ne (pe_callB call_isiD (by rfl) T.isinstance (by decide +kernel) (pa_cons (pv 1) (pa_cons (pe_bltn (v := V.ty "list") (u := Value.type "list") (by rfl) T.list_ (by decide +kernel) rfl) pa_nil))) (pe_callB call_isiD (by rfl) T.isinstance (by decide +kernel) (pa_cons (pv 0) (pa_cons (pe_bltn (v := V.ty "list") (u := Value.type "list") (by rfl) T.list_ (by decide +kernel) rfl) pa_nil))) (nomark _)))).pt) (pss_one (ps_ret pe_bl)) pss_nil) (pss_cons (ps_if (pt_cmpR op_ne (pe_callB call_lenD (by rfl) T.len PySem.boot_len (pa_cons (pv 0) pa_nil)) (pe_callB call_lenD (by rfl) T.len PySem.boot_len (pa_cons (pv 1) pa_nil)) (nomark _)) (pss_one (ps_ret pe_bl)) pss_nil) (pss_cons (ps_for PassesOwn.never rfl (pi_range1 (by rfl) T.range (pa_cons (pe_callB call_lenD (by rfl) T.len PySem.boot_len (pa_cons (pv 1) pa_nil)) pa_nil)) (pg_name (i := 2) sc.nd rfl (Or.inl rfl)) (pss_one (ps_if (pt_not (pt_val (pe_c cR hr (by omega) (by rfl) pass0 (pa_cons (pe_ix ixD (pv 0) (pv 2) (fun _ _ => rfl)) (pa_cons (pe_ix ixD (pv 1) (pv 2) (fun _ _ => rfl)) pa_nil))))) (pss_one (ps_ret pe_bl)) pss_nil))) (pss_one (ps_ret pe_bl))))))))), ?_⟩
    refine ⟨_, rfl, rfl, _, rfl, ?_⟩
    cases h2 with
    | non =>
      cases h1
      exact iteT ⟨_, rfl, rfl, k⟩
    | bl b =>
      cases h1
      refine iteF ⟨_, rfl, _, _, _, rfl, by simp, .bl b, _, rfl, ?_⟩
      refine iteT ⟨_, rfl, _, _, _, rfl, by simp, .bl b, _, rfl, ?_⟩
      refine iteT ⟨_, rfl, _, rfl, rfl, ?_⟩
      have e : decide (V.bl b = V.bl b) = true := decide_eq_true rfl
      rw [e]
      exact k
    | int i =>
      cases h1
      refine iteF ⟨_, rfl, _, _, _, rfl, by simp, .int i, _, rfl, ?_⟩
      refine iteF ⟨_, rfl, _, _, _, rfl, by simp, .int i, _, rfl, ?_⟩
      refine iteT ⟨_, rfl, _, _, _, rfl, by simp, .int i, _, rfl, ?_⟩
      refine iteT ⟨_, rfl, _, _, _, rfl, by simp, .int i, _, rfl, _, rfl, ?_⟩
      refine iteT ⟨_, rfl, _, rfl, rfl, ?_⟩
      have e : decide (V.int i = V.int i) = true := decide_eq_true rfl
      rw [e]
      exact k
    | str x =>
      cases h1
      refine iteF ⟨_, rfl, _, _, _, rfl, by simp, .str x, _, rfl, ?_⟩
      refine iteF ⟨_, rfl, _, _, _, rfl, by simp, .str x, _, rfl, ?_⟩
      refine iteF ⟨_, rfl, _, _, _, rfl, by simp, .str x, _, rfl, ?_⟩
      refine iteT ⟨_, rfl, _, _, _, rfl, by simp, .str x, _, rfl, ?_⟩
      refine iteT ⟨_, rfl, _, rfl, rfl, ?_⟩
      have e : decide (V.str x = V.str x) = true := decide_eq_true rfl
      rw [e]
      exact k
    | @lst a2 x2 ds q2 i2 =>
      have h2 : Dp K H (.ref a2) (.list ds) := .lst q2 i2
      have hds : ds.length ≤ 1000000 ∧ ∀ d ∈ ds, few d := by
        have : ds.length ≤ 1000000 ∧ fews ds := by simpa only [few] using hf
        exact ⟨this.1, fews_iff.mp this.2⟩
      have hdep : ∀ d ∈ ds, d.depth + 1 ≤ n := fun d hd => by
        have a : PyData.depthAll ds + 1 ≤ n := by simpa only [PyData.depth] using hn
        have := depth_mem hd
        omega
      obtain ⟨a1, rfl⟩ : ∃ a1, v1 = .ref a1 := by cases h1; exact ⟨_, rfl⟩
      refine iteF ⟨_, rfl, _, _, _, rfl, by simp, h2, _, rfl, ?_⟩
      refine iteF ⟨_, rfl, _, _, _, rfl, by simp, h2, _, rfl, ?_⟩
      refine iteF ⟨_, rfl, _, _, _, rfl, by simp, h2, _, rfl, ?_⟩
      refine iteF ⟨_, rfl, _, _, _, rfl, by simp, h2, _, rfl, _, _, _, rfl, by simp, h1, rfl, _, rfl, ?_⟩
      refine iteF' (by simp) ⟨_, rfl, _, _, _, rfl, by simp, h2, _, rfl, _, _, _, rfl, by simp, h1, rfl, _, rfl, ?_⟩
      refine iteF' (by simp) ⟨_, rfl, _, _, _, rfl, h1, rfl, _, rfl, _, _, _, rfl, h2, rfl, rfl, _, rfl, ?_⟩
      refine iteF' (by simp) ⟨_, rfl, _, _, _, rfl, h2, rfl, _, rfl, by omega, by omega, ?_⟩
      rw [Int.toNat_natCast]
      refine for_range (fun i σ H' => ∃ v3 : Option V, σ = [some (.ref a1), some (.ref a2), v3] ∧ H' = H) ⟨none, rfl, rfl⟩ ?_ ?_
      · rintro i σ H' hi ⟨v3, rfl, rfl⟩
        simp only [Int.zero_add]
        refine ⟨_, rfl, _, rfl, .list ds, ds, (i : Nat), ds[i], h1, rfl, rfl, atI_nat (List.getElem?_eq_getElem hi), fun w1 hw1 => ?_⟩
        refine ⟨_, rfl, _, rfl, .list ds, ds, (i : Nat), ds[i], h2, rfl, rfl, atI_nat (List.getElem?_eq_getElem hi), fun w2 hw2 => ?_⟩
        refine hsp w1 w2 ds[i] H' _ _ hw1 hw2 (hds.2 _ (List.getElem_mem hi)) (hdep _ (List.getElem_mem hi)) ⟨_, rfl, ?_⟩
        exact iteF ⟨_, rfl, rfl⟩
      · rintro σ H' ⟨v3, rfl, rfl⟩
        exact k
    | @tup a2 x2 ds q2 i2 =>
      have h2 : Dp K H (.ref a2) (.tuple ds) := .tup q2 i2
      have hds : ds.length ≤ 1000000 ∧ ∀ d ∈ ds, few d := by
        have : ds.length ≤ 1000000 ∧ fews ds := by simpa only [few] using hf
        exact ⟨this.1, fews_iff.mp this.2⟩
      have hdep : ∀ d ∈ ds, d.depth + 1 ≤ n := fun d hd => by
        have a : PyData.depthAll ds + 1 ≤ n := by simpa only [PyData.depth] using hn
        have := depth_mem hd
        omega
      obtain ⟨a1, rfl⟩ : ∃ a1, v1 = .ref a1 := by cases h1; exact ⟨_, rfl⟩
      refine iteF ⟨_, rfl, _, _, _, rfl, by simp, h2, _, rfl, ?_⟩
      refine iteF ⟨_, rfl, _, _, _, rfl, by simp, h2, _, rfl, ?_⟩
      refine iteF ⟨_, rfl, _, _, _, rfl, by simp, h2, _, rfl, ?_⟩
      refine iteF ⟨_, rfl, _, _, _, rfl, by simp, h2, _, rfl, _, _, _, rfl, by simp, h1, rfl, _, rfl, ?_⟩
      refine iteF' (by simp) ⟨_, rfl, _, _, _, rfl, by simp, h2, _, rfl, _, _, _, rfl, by simp, h1, rfl, _, rfl, ?_⟩
      refine iteF' (by simp) ⟨_, rfl, _, _, _, rfl, h1, rfl, _, rfl, _, _, _, rfl, h2, rfl, rfl, _, rfl, ?_⟩
      refine iteF' (by simp) ⟨_, rfl, _, _, _, rfl, h2, rfl, _, rfl, by omega, by omega, ?_⟩
      rw [Int.toNat_natCast]
      refine for_range (fun i σ H' => ∃ v3 : Option V, σ = [some (.ref a1), some (.ref a2), v3] ∧ H' = H) ⟨none, rfl, rfl⟩ ?_ ?_
      · rintro i σ H' hi ⟨v3, rfl, rfl⟩
        simp only [Int.zero_add]
        refine ⟨_, rfl, _, rfl, .tuple ds, ds, (i : Nat), ds[i], h1, rfl, rfl, atI_nat (List.getElem?_eq_getElem hi), fun w1 hw1 => ?_⟩
        refine ⟨_, rfl, _, rfl, .tuple ds, ds, (i : Nat), ds[i], h2, rfl, rfl, atI_nat (List.getElem?_eq_getElem hi), fun w2 hw2 => ?_⟩
        refine hsp w1 w2 ds[i] H' _ _ hw1 hw2 (hds.2 _ (List.getElem_mem hi)) (hdep _ (List.getElem_mem hi)) ⟨_, rfl, ?_⟩
        exact iteF ⟨_, rfl, rfl⟩
      · rintro σ H' ⟨v3, rfl, rfl⟩
        exact k
theorem alike_ok {c : Addr} (D : DefAt K mg "_law_alike" sAlike c) (T : Txt K mg) : ∀ n : Nat, Cal P w K mg base CX0 (n + 2) "_law_alike" ["_law_found", "_law_due"] (spAlike K n)
  | 0 => alike_step D T 0 (Nat.le_refl _) (alike_none D) (fun _ _ _ _ _ _ _ _ _ h _ => by omega)
  | n + 1 => alike_step D T (n + 1) (by omega) (alike_ok D T n) (fun v1 v2 d H Q E h1 h2 h3 h4 q => ⟨v1, v2, d, rfl, h1, h2, h3, by omega, q⟩)
end
end RS
set_option Elab.async false
set_option maxRecDepth 100000
set_option maxHeartbeats 4000000
set_option pp.maxSteps 400
namespace RS
open PySem PySem.Spec PyProof.Rows L2 GX
theorem eqv_ints : ∀ l : List Int, PyData.eqvAll (l.map .int) (l.map .int) = true
  | [] => by simp [PyData.eqvAll]
  | x :: l => by simp [PyData.eqvAll, PyData.eqv, eqv_ints l]
theorem eqv_intsL (l : List Int) : PyData.eqv (.list (l.map .int)) (.list (l.map .int)) = true := by simp [PyData.eqv, eqv_ints l]
theorem range_sorted {l : List Nat} {n : Nat} (p : l.Perm (List.range n)) (s : l.Pairwise (· ≤ ·)) : l = List.range n :=
  p.eq_of_pairwise (le := (· ≤ ·)) (fun a b _ _ h1 h2 => Nat.le_antisymm h1 h2) s (List.pairwise_lt_range.imp Nat.le_of_lt)
section
variable {P : Program} {w : World} {K : PySem.W.Frag} {mg : Str → Option Value} {base : Heap}
theorem scRight8 : FnScope ["_law_lengths_here", "_law_ways", "_law_handed", "_law_found", "_law_plan_here", "_law_good"] ["_law_lengths_here", "_law_ways"] (defScope sRight) := ⟨rfl, rfl, rfl, by decide +kernel, rfl, by decide +kernel, by decide +kernel⟩
def spRight8 (K : PySem.W.Frag) (p : Addr) : Sp := fun vs H Q _ => ∃ (vl : V) (ls : List Nat) (n : Nat), vs = [vl, .int (n : Nat)] ∧ Dp K H vl (lensD ls) ∧ OkLens ls ∧ 2 ≤ n ∧ n ≤ 6 ∧ Tab H p ∧ ∀ (H' : Hp) (c : Nat), Same H H' → K8.Gr n ls c → Q (.int (c : Nat)) H'
theorem right8_ok {c p : Addr} (D : DefAt K mg "_law_right" sRight c) (T : Txt K mg) (cC : Cal P w K mg base CX0 5 "cheapest" ["lengths", "ways"] (spCheap K p)) (cI : Cal P w K mg base CX0 42 "_law_in" ["_law_plan_here"] (spIn K 40)) (cF : Cal P w K mg base CX0 42 "_law_fits" ["_law_plan_here", "_law_ways"] (spFits K 40))
    (cA : Cal P w K mg base CX0 42 "_law_alike" ["_law_found", "_law_due"] (spAlike K 40)) (cL : Cal P w K mg base CX0 83 "_law_cost" ["_law_lengths_here", "_law_plan_here"] (spLCost K 40)) (cO : Cal P w K mg base CX0 5 "cost" ["lengths", "ways", "plan"] (spCost K p)) :
    Cal P w K mg base CX0 84 "_law_right" ["_law_lengths_here", "_law_ways"] (spRight8 K p) := by
  have sc := scRight8
  refine def_ok0 D sc (fun vs H Q E h => ?_) (fun _ _ _ _ _ _ us hl => match us, hl with | [_, _], _ => rfl) (fun f A outer s H vs Q E hr h => ?_)
  · obtain ⟨vl, ls, n, rfl, _⟩ := h
    rfl
  · obtain ⟨vl, ls, n, rfl, hl, okl, n2, n6, ht, k⟩ := h
    have hu := hr.units
    refine ⟨_, (pss_cons (ps_set (i := 2) sc.nd rfl (Or.inl rfl) (pe_callTy call_list_of (by rfl) T.list_ (by decide +kernel) (pa_cons (pv 0) pa_nil))) (pss_cons (ps_asg (pe_c cC hr (by decide) (by rfl) pass0 (pa_cons (pv 2) (pa_cons (pv 1) pa_nil))) (pg_tup (by rfl) (pgs_cons (pg_name (i := 3) sc.nd rfl (Or.inl rfl)) (pgs_cons (pg_name (i := 4) sc.nd rfl (Or.inl rfl)) pgs_nil)))) (pss_cons (ps_set (i := 5) sc.nd rfl (Or.inl rfl) (pe_and (pe_cmpR (op_eqD hu) (pe_callB cr_sortedI (by rfl) T.sorted (by decide +kernel) (pa_cons (pe_c cI hr (by decide) (by rfl) pass0 (pa_cons (pv 4) pa_nil)) pa_nil)) (pe_listRg rfl (by rfl) T.list_ (prg_1 (by rfl) T.range (pe_callB call_lenD (by rfl) T.len PySem.boot_len (pa_cons (pv 0) pa_nil)))) (nomark _)) (pe_and (pe_c cF hr (by decide) (by rfl) pass0 (pa_cons (pv 4) (pa_cons (pv 1) pa_nil))) (pe_one (pe_cmpR (op_eqD hu) (pv 2) (pv 0) (nomark _)))))) (pss_cons (ps_if ((pw_or (pt_not (pt_truth (pv 5) (by intro _; rfl))) (pw_or1 (pt_not (pt_val (pe_c cA hr (by decide) (by rfl) pass0 (pa_cons (pv 3) (pa_cons (pe_c cL hr (by decide) (by rfl) pass0 (pa_cons (pv 0) (pa_cons (pv 4) pa_nil))) pa_nil))))))).pt) (pss_one (ps_ret pe_non)) pss_nil) (pss_one (ps_ret (pe_ifExp (pt_cmpR op_eq (pe_c cO hr (by decide) (by rfl) pass0 (pa_cons (pv 0) (pa_cons (pv 1) (pa_cons (pv 4) pa_nil)))) (pv 3) (nomark _)) (pv 3) pe_non))))))), ?_⟩
    have o2 := okl.most
    have hlt := hl
    cases hl with
    | @lst aL xl _ hS hI =>
      have exl := dpAll_nats hI
      subst exl
      refine ⟨_, rfl, aL, _, rfl, .inl hS, fun C hC => ?_⟩
      have s1 := sameNew (o := .lst (ls.map fun n => V.int (n : Nat))) (Same.refl H) hC
      have hC1 : upd H C (.lst (ls.map fun n => V.int (n : Nat))) C = some (.lst (ls.map fun n => V.int (n : Nat))) := upd_same
      generalize upd H C (.lst (ls.map fun n => V.int (n : Nat))) = H1 at s1 hC1 ⊢
      have hCd : Dp K H1 (.ref C) (lensD ls) := .lst (SqL.of hC1) (dpNats ls)
      refine ⟨_, rfl, _, rfl, .ref C, ls, n, rfl, hCd, okl, n2, n6, s1 _ _ ht, fun H2 t v d cc s2 ht2 hv okp gr ec => ?_⟩
      refine ⟨t, _, rfl, SqT.of ht2, rfl, _, _, rfl, _, _, rfl, rfl, ?_⟩
      have ll : (leaf d).length ≤ 40 := by rw [okp.all.length_eq, List.length_range]; exact o2
      have dd := okp.depth
      have s12 := s1.trans s2
      refine ⟨_, rfl, v, d, n, rfl, hv, okp.ok, n6, ll, by omega, fun H3 G s3 hG0 hG => ?_⟩
      refine ⟨G, (leaf d).map fun n => ((n : Nat) : Int), rfl, SqL.of (by rw [hG, List.map_map]; rfl), fun ns' p1 pm pw hp1 => ?_⟩
      obtain ⟨M, rfl, pmM, pwM⟩ := nats_of pm pw
      have eM := range_sorted (pmM.trans okp.all) pwM
      subst eM
      have s4 := sameNew (o := .lst (((List.range ls.length).map fun n => ((n : Nat) : Int)).map V.int)) s3 hp1
      have hp4 : upd H3 p1 (.lst (((List.range ls.length).map fun n => ((n : Nat) : Int)).map V.int)) p1 = some (.lst (((List.range ls.length).map fun n => ((n : Nat) : Int)).map V.int)) := upd_same
      generalize upd H3 p1 (.lst (((List.range ls.length).map fun n => ((n : Nat) : Int)).map V.int)) = H4 at s4 hp4 ⊢
      have s14 := s12.trans s4
      refine ⟨_, rfl, _, _, _, rfl, dp_same s14 _ hlt, rfl, _, rfl, .of_le (by decide) (by rw [List.length_map]; omega) (by decide) (by rw [List.length_map]; omega), fun R hR => ?_⟩
      have erg : rgV 0 ((ls.map fun n => PyData.int (n : Nat)).length : Nat) = (List.range ls.length).map fun n => V.int ((n : Nat) : Int) := by simp [rgV]
      rw [erg]
      have s5 := sameNew (o := .lst ((List.range ls.length).map fun n => V.int ((n : Nat) : Int))) (Same.refl H4) hR
      have hR5 : upd H4 R (.lst ((List.range ls.length).map fun n => V.int ((n : Nat) : Int))) R = some (.lst ((List.range ls.length).map fun n => V.int ((n : Nat) : Int))) := upd_same
      generalize upd H4 R (.lst ((List.range ls.length).map fun n => V.int ((n : Nat) : Int))) = H5 at s5 hR5 ⊢
      have s15 := s14.trans s5
      have s25 : Same H2 H5 := s4.trans s5
      have hp5 : H5 p1 = some (.lst ((List.range ls.length).map fun n => V.int ((n : Nat) : Int))) := by
        rw [s5 _ _ hp4, List.map_map]
        rfl
      have dint : ((List.range ls.length).map fun n => ((n : Nat) : Int)).map PyData.int = (List.range ls.length).map fun n => PyData.int (n : Nat) := by rw [List.map_map]; rfl
      have dint2 : (ls.map fun n => ((n : Nat) : Int)).map PyData.int = ls.map fun n => PyData.int (n : Nat) := by rw [List.map_map]; rfl
      have sh1 := shaped_ints ((List.range ls.length).map fun n => ((n : Nat) : Int))
      have sh2 := shaped_ints (ls.map fun n => ((n : Nat) : Int))
      have eq1 := eqv_intsL ((List.range ls.length).map fun n => ((n : Nat) : Int))
      have eq2 := eqv_intsL (ls.map fun n => ((n : Nat) : Int))
      rw [dint] at sh1 eq1
      rw [dint2] at sh2 eq2
      refine ⟨.list ((List.range ls.length).map fun n => .int (n : Nat)), .list ((List.range ls.length).map fun n => .int (n : Nat)), .lst (SqL.of hp5) (dpNats _), .lst (SqL.of hR5) (dpNats _), sh1, sh1, _, rfl, ?_⟩
      refine iteT' eq1 ⟨_, rfl, _, rfl, v, d, n, rfl, dp_same s25 _ hv, okp.ok, n6, by omega, fun H6 s6 => ?_⟩
      refine ⟨_, rfl, iteT ?_⟩
      have s26 := s25.trans s6
      have s16 := s12.trans s26
      refine ⟨_, rfl, _, rfl, .list (ls.map fun n => .int (n : Nat)), .list (ls.map fun n => .int (n : Nat)), dp_same (s2.trans s26) _ hCd, dp_same s16 _ hlt, sh2, sh2, ?_⟩
      rw [eq2]
      refine ⟨_, rfl, true, rfl, iteF ?_⟩
      subst ec
      refine ⟨_, rfl, _, rfl, _, rfl, .ref aL, v, ls, d, n, rfl, dp_same s16 _ hlt, dp_same s26 _ hv, okp.ok, n6, ll, fun j hj => List.mem_range.mp (okp.all.mem_iff.mp hj), by omega, fun H7 s7 => ?_⟩
      refine ⟨_, _, .int (costP ls d : Nat), rfl, .int _, .int _, by simp [few], by simp [PyData.depth], _, rfl, ?_⟩
      have s17 := s16.trans s7
      refine iteF ?_
      refine ⟨_, rfl, _, rfl, _, rfl, .ref aL, v, ls, n, d, rfl, dp_same s17 _ hlt, okl, n2, n6, dp_same (s26.trans s7) _ hv, okp, s17 _ _ ht, fun H8 s8 => ?_⟩
      refine ⟨_, rfl, rfl, _, rfl, ?_⟩
      refine iteT' (decide_eq_true rfl) ?_
      exact ⟨_, rfl, k H8 _ (s17.trans s8) gr⟩
end
end RS
set_option Elab.async false
set_option maxRecDepth 100000
set_option maxHeartbeats 4000000
set_option pp.maxSteps 400
namespace RS
open PySem PySem.Spec PyProof.Rows L2 GX
/-! ### all choices of so many numbers below a number -/
def ch : Nat → Nat → List (List Nat)
  | 0, _ => [[]]
  | s + 1, m => ((List.range (m - s)).map (s + ·)).flatMap fun l => (ch s l).map (· ++ [l])
theorem ch_len : ∀ s ≤ 6, ∀ m ≤ 6, (ch s m).length ≤ 20 := by decide +kernel
theorem ch_sound : ∀ (s m : Nat) (c : List Nat), c ∈ ch s m → c.length = s ∧ c.Pairwise (· < ·) ∧ ∀ x ∈ c, x < m
  | 0, m, c, h => by
    rw [show ch 0 m = [[]] from rfl, List.mem_singleton] at h
    subst h
    exact ⟨rfl, .nil, (fun _ h => nomatch h)⟩
  | s + 1, m, c, h => by
    obtain ⟨l, hl, hc⟩ := List.mem_flatMap.mp h
    obtain ⟨i, hi, rfl⟩ := List.mem_map.mp hl
    obtain ⟨d, hd, rfl⟩ := List.mem_map.mp hc
    have hi := List.mem_range.mp hi
    obtain ⟨h1, h2, h3⟩ := ch_sound s (s + i) d hd
    refine ⟨by rw [List.length_append, h1]; rfl, List.pairwise_append.mpr ⟨h2, List.pairwise_singleton _ _, fun a ha b hb => ?_⟩, fun x hx => ?_⟩
    · rw [List.mem_singleton.mp hb]
      exact h3 a ha
    · rcases List.mem_append.mp hx with h | h
      · have := h3 x h
        omega
      · rw [List.mem_singleton.mp h]
        omega
theorem rising_len' : ∀ (k : Nat) {c : List Nat} {m : Nat}, c.length = k → c.Pairwise (· < ·) → (∀ x ∈ c, x < m) → k ≤ m
  | 0, _, _, _, _, _ => Nat.zero_le _
  | k + 1, c, m, h, h1, h2 => by
    rcases c.eq_nil_or_concat with rfl | ⟨d, l, rfl⟩
    · simp at h
    · rw [List.concat_eq_append] at h h1 h2
      obtain ⟨p1, _, p2⟩ := List.pairwise_append.mp h1
      rw [List.length_append, List.length_singleton] at h
      have := rising_len' k (c := d) (m := l) (by omega) p1 fun x hx => p2 x hx l (by simp)
      have := h2 l (by simp)
      omega
theorem rising_len {c : List Nat} {m : Nat} (h1 : c.Pairwise (· < ·)) (h2 : ∀ x ∈ c, x < m) : c.length ≤ m := rising_len' _ rfl h1 h2
theorem ch_all : ∀ (s m : Nat) (c : List Nat), c.length = s → c.Pairwise (· < ·) → (∀ x ∈ c, x < m) → c ∈ ch s m
  | 0, m, c, h, _, _ => by
    rw [List.eq_nil_of_length_eq_zero h]
    exact List.mem_singleton.mpr rfl
  | s + 1, m, c, h, h1, h2 => by
    rcases c.eq_nil_or_concat with rfl | ⟨d, l, rfl⟩
    · simp at h
    · rw [List.concat_eq_append] at h h1 h2 ⊢
      obtain ⟨p1, _, p2⟩ := List.pairwise_append.mp h1
      have hd : ∀ x ∈ d, x < l := fun x hx => p2 x hx l (by simp)
      have ld : d.length = s := by
        rw [List.length_append, List.length_singleton] at h
        omega
      have hl := h2 l (by simp)
      have := rising_len p1 hd
      refine List.mem_flatMap.mpr ⟨l, List.mem_map.mpr ⟨l - s, List.mem_range.mpr (by omega), by omega⟩, List.mem_map.mpr ⟨d, ch_all s l d ld p1 hd, rfl⟩⟩
theorem fm_succ {α : Type} (f : Nat → List α) (i : Nat) (g : Nat → Nat) : ((List.range (i + 1)).map g).flatMap f = ((List.range i).map g).flatMap f ++ f (g i) := by
  rw [List.range_succ, List.map_append, List.flatMap_append]
  simp
theorem fm_le {α : Type} (f : Nat → List α) (g : Nat → Nat) (i : Nat) : ∀ N : Nat, i ≤ N → (((List.range i).map g).flatMap f).length ≤ (((List.range N).map g).flatMap f).length
  | 0, h => by
    have : i = 0 := by omega
    subst this
    exact Nat.le_refl _
  | N + 1, h => by
    by_cases e : i = N + 1
    · rw [e]
      exact Nat.le_refl _
    · have := fm_le f g i N (by omega)
      rw [fm_succ, List.length_append]
      omega
/-- lists of numbers, told by a list -/
structure LsI (H H' : Hp) (a : Addr) (as : List Addr) (cs : List (List Nat)) : Prop where
  h : H' a = some (.lst (as.map V.ref))
  len : as.length = cs.length
  new : ∀ x ∈ as, H x = none ∧ x ≠ a
  at_ : ∀ (i : Nat) (x : Addr) (c : List Nat), as[i]? = some x → cs[i]? = some c → H' x = some (.lst (c.map fun n => V.int (n : Nat)))
section
variable {P : Program} {w : World} {K : PySem.W.Frag} {mg : Str → Option Value} {base : Heap}
theorem scCh : FnScope ["_law_many", "_law_size", "_law_found", "_law_last", "_law_some"] ["_law_many", "_law_size"] (defScope s__law_choices) := ⟨rfl, rfl, rfl, by decide +kernel, rfl, by decide +kernel, by decide +kernel⟩
def spCh (n : Nat) : Sp := fun vs H Q _ => ∃ (x y : Int) (m s : Nat), vs = [.int x, .int y] ∧ x = (m : Nat) ∧ y = (s : Nat) ∧ m ≤ 6 ∧ s ≤ 6 ∧ s ≤ n ∧ ∀ (H' : Hp) (a : Addr) (as : List Addr), Same H H' → H a = none → LsI H H' a as (ch s m) → Q (.ref a) H'
theorem ch_none {c : Addr} (D : DefAt K mg "_law_choices" s__law_choices c) : Cal P w K mg base CX0 1 "_law_choices" ["_law_many", "_law_size"] (fun _ _ _ _ => False) :=
  def_ok0 D scCh (fun vs H Q E h => h.elim) (fun _ _ _ _ _ _ us hl => match us, hl with | [_, _], _ => rfl) (fun f A outer s H vs Q E hr h => h.elim)
theorem ch_step {c : Addr} (D : DefAt K mg "_law_choices" s__law_choices c) (T : Txt K mg) {j : Nat} (n : Nat) {sp : Sp} (hj : 1 ≤ j) (cR : Cal P w K mg base CX0 j "_law_choices" ["_law_many", "_law_size"] sp)
    (hsp : ∀ (x y : Int) (m s : Nat) (H : Hp) (Q : VK) (E : XK), x = (m : Nat) → y = (s : Nat) → m ≤ 6 → s ≤ 6 → s + 1 ≤ n → (∀ (H' : Hp) (a : Addr) (as : List Addr), Same H H' → H a = none → LsI H H' a as (ch s m) → Q (.ref a) H') → sp [.int x, .int y] H Q E) : Cal P w K mg base CX0 (j + 1) "_law_choices" ["_law_many", "_law_size"] (spCh n) := by
  have sc := scCh
  refine def_ok0 D sc (fun vs H Q E h => ?_) (fun _ _ _ _ _ _ us hl => match us, hl with | [_, _], _ => rfl) (fun f A outer s H vs Q E hr h => ?_)
  · obtain ⟨x, y, m, s, rfl, _⟩ := h
    rfl
  · obtain ⟨_, _, m, sz, rfl, rfl, rfl, m6, s6, hn, k⟩ := h
    refine ⟨_, (pss_cons (ps_if (pt_cmpR op_eq (pv 1) pe_int (nomark _)) (pss_one (ps_ret (pe_lst (pa_cons (pe_lst pa_nil) pa_nil)))) pss_nil) (pss_cons (ps_set (i := 2) sc.nd rfl (Or.inl rfl) (pe_lst pa_nil)) (pss_cons (ps_for PassesOwn.never rfl (pi_range2 (by rfl) T.range (pa_cons (pe_op op_sub (pv 1) pe_int) (pa_cons (pv 0) pa_nil))) (pg_name (i := 3) sc.nd rfl (Or.inr rfl)) (pss_one (ps_expr (pe_bm PySem.F.plainAttrs_list PySem.F.slot_list_extend PySem.F.type_list_extend mt_extend (pv 2) (pa_cons (pe_lc (own := [("_law_some", 4)]) (tt := tYes)  rfl sc.nd (pi_list (pe_c cR hr (by omega) (by rfl) pass0 (pa_cons (pv 3) (pa_cons (pe_op op_sub (pv 1) pe_int) pa_nil)))) (blkOk_by (N := ["_law_many", "_law_size", "_law_found", "_law_last", "_law_some"]) (sc := defScope s__law_choices) (own := [("_law_some", 4)]) (by decide +kernel)) (fun _ _ _ _ _ => (pg_name (i := 4) sc.nd rfl (Or.inl rfl))) (fun _ _ _ _ _ => pts_nil) (fun _ _ _ _ _ => (pe_op op_cat (pv 4) (pe_lst (pa_cons (pv 3) pa_nil))))) pa_nil))))) (pss_one (ps_ret (pv 2)))))), ?_⟩
    refine ⟨_, rfl, rfl, _, rfl, ?_⟩
    cases sz with
    | zero =>
      refine iteT' (decide_eq_true rfl) ⟨Nat.zero_le _, fun e he => ⟨by show 1 ≤ sizeLine; decide, fun a ha => ?_⟩⟩
      have s1 := sameNew (o := .lst []) (Same.refl H) he
      refine k _ a [e] (sameNew s1 ha) (upd_no ha) ⟨upd_same, rfl, fun x hx => ?_, fun i x c hx hc => ?_⟩
      · rw [List.mem_singleton.mp hx]
        exact ⟨he, fun z => by rw [z, upd_same] at ha; cases ha⟩
      · cases i with
        | zero =>
          cases hx
          cases hc
          exact (upd_ne fun z => by rw [← z, upd_same] at ha; cases ha).trans upd_same
        | succ i => simp at hx
    | succ sz =>
      refine iteF' (decide_eq_false fun z => ?_) ⟨Nat.zero_le _, fun F hF => ?_⟩
      · have := V.int.inj z
        omega
      refine ⟨_, rfl, _, _, rfl, rfl, _, rfl, _, _, rfl, ⟨by omega, by omega, by omega, by omega⟩, ?_⟩
      have s0 := sameNew (o := .lst []) (Same.refl H) hF
      have e0 : ((m : Int) - (((sz + 1 : Nat) : Int) - 1)).toNat = m - sz := by omega
      rw [e0]
      refine for_range (fun i σ H' => ∃ (v3 : Option V) (as : List Addr), σ = [some (.int (m : Nat)), some (.int ((sz + 1 : Nat) : Int)), some (.ref F), v3, none] ∧ Same H H' ∧ LsI H H' F as (((List.range i).map (sz + ·)).flatMap fun l => (ch sz l).map (· ++ [l])))
        ⟨none, [], rfl, s0, ⟨upd_same, rfl, (fun _ h => nomatch h), fun i x c h => by simp at h⟩⟩ ?_ ?_
      · rintro i σ H1 hi ⟨v3, as, rfl, sm, L⟩
        have lp := ch_len (sz + 1) s6 m m6
        refine ⟨_, rfl, .inl ⟨rfl, _, SqL.of L.h⟩, _, rfl, _, rfl, _, _, rfl, rfl, hsp _ _ (sz + i) sz _ _ _ (by omega) (by omega) (by omega) (by omega) (by omega) fun H2 G bs s2 hG0 LG => ?_⟩
        refine ⟨G, rfl, ⟨_, SqL.of LG.h⟩, fun DD hD => ?_⟩
        have lp2 := ch_len sz (by omega) (sz + i) (by omega)
        have sm2 := sm.trans s2
        have hDG : G ≠ DD := fun z => by rw [← z, LG.h] at hD; cases hD
        refine lc_list (K := K) (a := G) (xs := bs.map V.ref) (fun j H' => Same H2 H' ∧ ∃ ds : List Addr, H' DD = some (.lst (ds.map V.ref)) ∧ ds.length = j ∧ (∀ x ∈ ds, H2 x = none ∧ x ≠ DD) ∧ ∀ (q : Nat) (x : Addr) (c : List Nat), ds[q]? = some x → (ch sz (sz + i))[q]? = some c → H' x = some (.lst ((c ++ [sz + i]).map fun n => V.int (n : Nat))))
          ⟨fun b o e => by rw [upd_ne (ne_of_none e hD)]; exact e, [], upd_same, rfl, (fun _ h => nomatch h), fun q x c h => by simp at h⟩ (fun j H4 _ h => h.1.seq (SqL.of LG.h)) ?_ ?_
        · rintro j x H4 hx ⟨sm4, ds, hDD, lds, nds, ads⟩
          obtain ⟨b, eb, rfl⟩ : ∃ b, bs[j]? = some b ∧ x = V.ref b := by
            rw [List.getElem?_map] at hx
            cases z : bs[j]? with
            | none => rw [z] at hx; cases hx
            | some b => rw [z] at hx; exact ⟨b, rfl, (Option.some.inj hx).symm⟩
          have hjb := (List.getElem?_eq_some_iff.mp eb).1
          have hjc : j < (ch sz (sz + i)).length := by rw [← LG.len]; exact hjb
          have ec := List.getElem?_eq_getElem hjc
          generalize (ch sz (sz + i))[j] = c at ec
          obtain ⟨lc, _, _⟩ := ch_sound sz (sz + i) c (List.mem_of_getElem? ec)
          have hb4 := sm4 _ _ (LG.at_ j b c eb ec)
          refine ⟨rfl, _, rfl, _, rfl, by show 1 ≤ sizeLine; decide, fun q hq => ?_⟩
          have s5 := sameNew (o := .lst [V.int (((sz + 1 : Nat) : Int) - 1 + (i : Nat))]) (Same.refl H4) hq
          have hq5 : upd H4 q (.lst [V.int (((sz + 1 : Nat) : Int) - 1 + (i : Nat))]) q = some (.lst [V.int (((sz + 1 : Nat) : Int) - 1 + (i : Nat))]) := upd_same
          have hb5 := s5 _ _ hb4
          have hDD5 := s5 _ _ hDD
          generalize upd H4 q (.lst [V.int (((sz + 1 : Nat) : Int) - 1 + (i : Nat))]) = H5 at s5 hq5 hb5 hDD5 ⊢
          refine ⟨b, q, _, _, rfl, rfl, hb5, hq5, ?_, fun r hr' => ?_⟩
          · rw [List.length_map, List.length_singleton]
            exact Nat.le_of_lt (small1000 (by omega))
          have ev : (c.map fun n => V.int (n : Nat)) ++ [V.int (((sz + 1 : Nat) : Int) - 1 + (i : Nat))] = (c ++ [sz + i]).map fun n => V.int (n : Nat) := by
            rw [List.map_append, List.map_singleton]
            have : (((sz + 1 : Nat) : Int) - 1 + (i : Nat)) = ((sz + i : Nat) : Int) := by omega
            rw [this]
          rw [ev]
          have s6 := sameNew (o := .lst ((c ++ [sz + i]).map fun n => V.int (n : Nat))) (Same.refl H5) hr'
          have hDD6 := s6 _ _ hDD5
          have nrD : r ≠ DD := fun z => by rw [z, hDD5] at hr'; cases hr'
          have s46 := s5.trans s6
          refine ⟨_, hDD6, small1000 (by rw [List.length_map, lds]; have := LG.len; omega), fun b' o z => ?_, ds ++ [r], ?_, by rw [List.length_append, lds]; rfl, fun x hx => ?_, fun q' x c' hx hc => ?_⟩
          · rw [upd_ne (ne_of_none z hD)]
            exact s46 _ _ (sm4 _ _ z)
          · rw [upd_same, List.map_append]
            rfl
          · rcases List.mem_append.mp hx with h | h
            · exact nds x h
            · rw [List.mem_singleton.mp h]
              exact ⟨(sm4.trans s5).free hr', nrD⟩
          · by_cases hq' : q' < ds.length
            · rw [List.getElem?_append_left hq'] at hx
              have := nds x (List.mem_of_getElem? hx)
              rw [upd_ne this.2]
              exact s46 _ _ (ads q' x c' hx hc)
            · have hlt := (List.getElem?_eq_some_iff.mp hx).1
              rw [List.length_append, List.length_singleton] at hlt
              have : q' = ds.length := by omega
              subst this
              rw [List.getElem?_append_right (Nat.le_refl _), Nat.sub_self] at hx
              cases hx
              rw [lds, ec] at hc
              cases hc
              rw [upd_ne nrD, upd_same]
        · rintro H4 ⟨sm4, ds, hDD, lds, nds, ads⟩
          rw [List.length_map] at lds
          have hF4 := sm4 _ _ (s2 _ _ L.h)
          have lG := LG.len
          have fs := fm_succ (fun l => (ch sz l).map (· ++ [l])) i (sz + ·)
          have fl := fm_le (fun l => (ch sz l).map (· ++ [l])) (sz + ·) (i + 1) (m - sz) (by omega)
          have fl' : (((List.range (m - sz)).map (sz + ·)).flatMap fun l => (ch sz l).map (· ++ [l])).length ≤ 20 := lp
          rw [fs, List.length_append, List.length_map] at fl
          have lL := L.len
          refine ⟨F, DD, _, _, rfl, rfl, hF4, hDD, ?_, _, as ++ ds, rfl, fun b o z => ?_, ⟨by rw [upd_same, List.map_append], ?_, fun x hx => ?_, fun q x c hx hc => ?_⟩⟩
          · rw [List.length_map, List.length_map]
            exact Nat.le_of_lt (small1000 (by omega))
          · rw [upd_ne (ne_of_none z hF)]
            exact sm4 _ _ (sm2 _ _ z)
          · rw [fs, List.length_append, List.length_append, List.length_map]
            omega
          · rcases List.mem_append.mp hx with h | h
            · exact L.new x h
            · have h2 := (nds x h).1
              exact ⟨sm2.free h2, fun z => by rw [z, s2 _ _ L.h] at h2; cases h2⟩
          · rw [fs] at hc
            by_cases hq : q < as.length
            · rw [List.getElem?_append_left hq] at hx
              rw [List.getElem?_append_left (by omega)] at hc
              rw [upd_ne (L.new x (List.mem_of_getElem? hx)).2]
              exact sm4 _ _ (s2 _ _ (L.at_ q x c hx hc))
            · rw [List.getElem?_append_right (by omega)] at hx
              rw [List.getElem?_append_right (by omega), List.getElem?_map, ← lL] at hc
              have h2 := (nds x (List.mem_of_getElem? hx)).1
              have nxF : x ≠ F := fun z => by rw [z, s2 _ _ L.h] at h2; cases h2
              cases z : (ch sz (sz + i))[q - as.length]? with
              | none => rw [z] at hc; cases hc
              | some c0 =>
                rw [z] at hc
                cases hc
                rw [upd_ne nxF]
                exact ads _ x c0 hx z
      · rintro σ H1 ⟨v3, as, rfl, sm, L⟩
        exact ⟨_, rfl, k H1 F as sm hF L⟩
theorem ch_ok {c : Addr} (D : DefAt K mg "_law_choices" s__law_choices c) (T : Txt K mg) : ∀ n : Nat, Cal P w K mg base CX0 (n + 2) "_law_choices" ["_law_many", "_law_size"] (spCh n)
  | 0 => ch_step D T 0 (Nat.le_refl _) (ch_none D) (fun _ _ _ _ _ _ _ _ _ _ _ h _ => by omega)
  | n + 1 => ch_step D T (n + 1) (by omega) (ch_ok D T n) (fun x y m s H Q E h1 h2 h3 h4 h5 q => ⟨x, y, m, s, rfl, h1, h2, h3, h4, by omega, q⟩)
end
end RS
set_option Elab.async false
set_option maxHeartbeats 2000000
namespace K8
/-! ### a step of merging is a choice of places -/
def gets (l c : List Nat) : List Nat := c.map fun i => l.getD i 0
def others (l c : List Nat) : List Nat := gets l ((List.range l.length).filter fun i => !decide (i ∈ c))
theorem gets_succ (x : Nat) (l c : List Nat) : gets (x :: l) (c.map (· + 1)) = gets l c := by
  unfold gets
  rw [List.map_map]
  exact List.map_congr_left fun i _ => rfl
theorem others_zero (x : Nat) (l c : List Nat) : others (x :: l) (0 :: c.map (· + 1)) = others l c := by
  unfold others
  rw [List.length_cons, List.range_succ_eq_map, List.filter_cons]
  have h0 : (!decide (0 ∈ 0 :: c.map (· + 1))) = false := by simp
  rw [if_neg (by rw [h0]; decide), List.filter_map]
  have e : ((fun i => !decide (i ∈ 0 :: c.map (· + 1))) ∘ Nat.succ) = fun i => !decide (i ∈ c) := by
    funext i
    simp
  rw [e]
  exact gets_succ x l _
theorem others_some (x : Nat) (l c : List Nat) : others (x :: l) (c.map (· + 1)) = x :: others l c := by
  unfold others
  rw [List.length_cons, List.range_succ_eq_map, List.filter_cons]
  have h0 : (!decide (0 ∈ c.map (· + 1))) = true := by simp
  rw [if_pos h0, List.filter_map]
  have e : ((fun i => !decide (i ∈ c.map (· + 1))) ∘ Nat.succ) = fun i => !decide (i ∈ c) := by
    funext i
    simp
  rw [e]
  show x :: gets (x :: l) (((List.range l.length).filter fun i => !decide (i ∈ c)).map (· + 1)) = _
  rw [gets_succ]
/-- each part of a list is a choice of places -/
theorem pick : ∀ {l S R : List Nat}, l.Perm (S ++ R) → ∃ c : List Nat, c.Pairwise (· < ·) ∧ (∀ i ∈ c, i < l.length) ∧ (gets l c).Perm S ∧ (others l c).Perm R
  | [], S, R, p => by
    have e := p.symm.eq_nil
    obtain ⟨rfl, rfl⟩ := List.append_eq_nil_iff.mp e
    exact ⟨[], .nil, (fun _ h => nomatch h), .nil, .nil⟩
  | x :: l, S, R, p => by
    have up : ∀ c : List Nat, c.Pairwise (· < ·) → (c.map (· + 1)).Pairwise (· < ·) := fun c h => List.pairwise_map.mpr (h.imp fun h => by omega)
    rcases List.mem_append.mp (p.mem_iff.mp List.mem_cons_self) with h | h
    · have pe := List.perm_cons_erase h
      have q : l.Perm (S.erase x ++ R) := (p.trans (pe.append_right R)).cons_inv
      obtain ⟨c, h1, h2, h3, h4⟩ := pick q
      refine ⟨0 :: c.map (· + 1), List.pairwise_cons.mpr ⟨fun i hi => ?_, up c h1⟩, fun i hi => ?_, ?_, ?_⟩
      · obtain ⟨j, _, rfl⟩ := List.mem_map.mp hi
        omega
      · rcases List.mem_cons.mp hi with e | hi
        · rw [e]
          simp
        · obtain ⟨j, hj, rfl⟩ := List.mem_map.mp hi
          have := h2 j hj
          rw [List.length_cons]
          omega
      · show (x :: gets (x :: l) (c.map (· + 1))).Perm S
        rw [gets_succ]
        exact (h3.cons x).trans pe.symm
      · rw [others_zero]
        exact h4
    · have pe := List.perm_cons_erase h
      have q : l.Perm (S ++ R.erase x) := (p.trans ((pe.append_left S).trans List.perm_middle)).cons_inv
      obtain ⟨c, h1, h2, h3, h4⟩ := pick q
      refine ⟨c.map (· + 1), up c h1, fun i hi => ?_, ?_, ?_⟩
      · obtain ⟨j, hj, rfl⟩ := List.mem_map.mp hi
        have := h2 j hj
        rw [List.length_cons]
        omega
      · rw [gets_succ]
        exact h3
      · rw [others_some]
        exact (h4.cons x).trans pe.symm
theorem gets_all (l : List Nat) : gets l (List.range l.length) = l := by
  unfold gets
  refine List.ext_getElem (by simp) fun i h1 h2 => ?_
  simp [List.getD, h2]
/-- and a choice of places parts it -/
theorem part {l c : List Nat} (h1 : c.Pairwise (· < ·)) (h2 : ∀ i ∈ c, i < l.length) : l.Perm (gets l c ++ others l c) := by
  have nd : c.Nodup := h1.imp fun h => Nat.ne_of_lt h
  have p : (List.range l.length).Perm (c ++ (List.range l.length).filter fun i => !decide (i ∈ c)) := by
    refine (List.perm_ext_iff_of_nodup List.nodup_range ?_).mpr fun i => ?_
    · refine List.nodup_append.mpr ⟨nd, List.nodup_range.filter _, fun a ha b hb e => ?_⟩
      have := (List.mem_filter.mp hb).2
      rw [← e] at this
      simp [ha] at this
    · rw [List.mem_append, List.mem_filter, List.mem_range]
      constructor
      · intro h
        by_cases hc : i ∈ c
        · exact .inl hc
        · exact .inr ⟨h, by simp [hc]⟩
      · rintro (h | h)
        · exact h2 i h
        · exact h.1
  have q := p.map fun i => l.getD i 0
  rw [List.map_append] at q
  have e : (List.range l.length).map (fun i => l.getD i 0) = l := gets_all l
  rw [e] at q
  exact q
/-- the least that any merges move -/
def Least (w : Nat) (M : List Nat) (c : Nat) : Prop := Mg w M c ∧ ∀ c', Mg w M c' → c ≤ c'
theorem Least.perm {w : Nat} {M N : List Nat} {c : Nat} (h : Least w M c) (p : N.Perm M) : Least w N c := ⟨h.1.perm p, fun c' g => h.2 c' (g.perm p.symm)⟩
theorem Least.uniq {w : Nat} {M : List Nat} {c c' : Nat} (h : Least w M c) (h' : Least w M c') : c = c' := Nat.le_antisymm (h.2 _ h'.1) (h'.2 _ h.1)
theorem least_one (w x : Nat) : Least w [x] 0 := ⟨.one x, fun _ _ => Nat.zero_le _⟩
/-- the least over all first steps -/
theorem least_step {w : Nat} {l : List Nat} {b : Nat} (f : List Nat → Nat) (h2 : 2 ≤ l.length)
    (hf : ∀ c : List Nat, c.Pairwise (· < ·) → (∀ i ∈ c, i < l.length) → 2 ≤ c.length → c.length ≤ w → Least w (others l c ++ [(gets l c).sum]) (f c))
    (at_ : ∃ c : List Nat, c.Pairwise (· < ·) ∧ (∀ i ∈ c, i < l.length) ∧ 2 ≤ c.length ∧ c.length ≤ w ∧ b = (gets l c).sum + f c)
    (le : ∀ c : List Nat, c.Pairwise (· < ·) → (∀ i ∈ c, i < l.length) → 2 ≤ c.length → c.length ≤ w → b ≤ (gets l c).sum + f c) : Least w l b := by
  constructor
  · obtain ⟨c, c1, c2, c3, c4, e⟩ := at_
    rw [e]
    have ln : (gets l c).length = c.length := List.length_map _
    refine .step (part c1 c2) (by rw [ln]; exact c3) (by rw [ln]; exact c4) ((hf c c1 c2 c3 c4).1.perm ?_)
    exact List.perm_append_comm (l₁ := [(gets l c).sum])
  · intro c' g
    cases g with
    | one x => simp at h2
    | @step _ S R c0 p s2 sw t =>
      obtain ⟨c, c1, c2, c3, c4⟩ := pick p
      have ln : (gets l c).length = c.length := List.length_map _
      have lS := c3.length_eq
      have q := le c c1 c2 (by omega) (by omega)
      have es := sum_perm c3
      have hl := (hf c c1 c2 (by omega) (by omega)).2 c0 (t.perm (by
        rw [es]
        exact (List.perm_append_comm).trans ((c4.cons S.sum))))
      omega
end K8
set_option Elab.async false
set_option maxRecDepth 100000
set_option maxHeartbeats 4000000
namespace RS
open PySem PySem.Spec PyProof.Rows L2 GX
/-! ### a plan's runs and their depths -/
mutual
theorem plan_fam {n : Nat} (hn : 2 ≤ n) (L : List Nat) (D : Nat) : ∀ (d : PyData) (e : Nat), okP n d → e + d.depth ≤ D →
    ∃ ps : List K8.Lf, ps.map (·.1) = K8.gets L (leaf d) ∧ (∀ q ∈ ps, q.2 ≤ D) ∧ K8.kraft n D ps ≤ n ^ (D - e) ∧ K8.costF ps = costP L d + e * wts L (leaf d)
  | .int i, e, _, h => by
    simp only [PyData.depth, Nat.add_zero] at h
    refine ⟨[(L.getD i.toNat 0, e)], rfl, fun q hq => ?_, ?_, ?_⟩
    · rw [List.mem_singleton.mp hq]
      exact h
    · show n ^ (D - e) + 0 ≤ _
      exact Nat.le_refl _
    · show L.getD i.toNat 0 * e + 0 = 0 + e * (L.getD i.toNat 0 + 0)
      rw [Nat.mul_comm, Nat.add_zero, Nat.add_zero, Nat.zero_add]
  | .tuple ds, e, ok, h => by
    unfold okP at ok
    simp only [PyData.depth] at h
    obtain ⟨ps, h1, h2, h3, h4⟩ := plans_fam hn L D ds (e + 1) ok.2.2 (by omega)
    refine ⟨ps, h1, h2, ?_, ?_⟩
    · have a1 : ds.length * n ^ (D - (e + 1)) ≤ n * n ^ (D - (e + 1)) := Nat.mul_le_mul_right _ ok.2.1
      have a2 : n * n ^ (D - (e + 1)) = n ^ (D - e) := by
        have : D - e = (D - (e + 1)) + 1 := by omega
        rw [this, Nat.pow_succ, Nat.mul_comm]
      omega
    · rw [h4, Nat.add_mul, Nat.one_mul]
      show costPs L ds + (e * wts L (leafs ds) + wts L (leafs ds)) = (costPs L ds + wts L (leafs ds)) + e * wts L (leafs ds)
      omega
  | .none, _, h, _ => by simp [okP] at h
  | .bool _, _, h, _ => by simp [okP] at h
  | .str _, _, h, _ => by simp [okP] at h
  | .list _, _, h, _ => by simp [okP] at h
  | .dict _, _, h, _ => by simp [okP] at h
theorem plans_fam {n : Nat} (hn : 2 ≤ n) (L : List Nat) (D : Nat) : ∀ (ds : List PyData) (e : Nat), okPs n ds → e + PyData.depthAll ds ≤ D →
    ∃ ps : List K8.Lf, ps.map (·.1) = K8.gets L (leafs ds) ∧ (∀ q ∈ ps, q.2 ≤ D) ∧ K8.kraft n D ps ≤ ds.length * n ^ (D - e) ∧ K8.costF ps = costPs L ds + e * wts L (leafs ds)
  | [], e, _, _ => ⟨[], rfl, (fun _ h => nomatch h), Nat.zero_le _, by simp [K8.costF, costPs, leafs, wts]⟩
  | d :: ds, e, ok, h => by
    unfold okPs at ok
    simp only [PyData.depthAll] at h
    obtain ⟨ps, a1, a2, a3, a4⟩ := plan_fam hn L D d e ok.1 (by omega)
    obtain ⟨qs, b1, b2, b3, b4⟩ := plans_fam hn L D ds e ok.2 (by omega)
    refine ⟨ps ++ qs, ?_, fun q hq => ?_, ?_, ?_⟩
    · rw [List.map_append, a1, b1]
      show _ = K8.gets L (leaf d ++ leafs ds)
      unfold K8.gets
      rw [List.map_append]
    · rcases List.mem_append.mp hq with h | h
      · exact a2 q h
      · exact b2 q h
    · rw [K8.kraft_app, List.length_cons, Nat.add_mul, Nat.one_mul]
      omega
    · rw [K8.costF_app, a4, b4]
      show _ = (costP L d + costPs L ds) + e * wts L (leaf d ++ leafs ds)
      rw [wts_app, Nat.mul_add]
      omega
end
/-- no plan moves fewer than the least ones first -/
theorem plan_lb {n : Nat} (hn : 2 ≤ n) {L : List Nat} {d : PyData} {c : Nat} (ok : OkPlan L.length n d) (g : K8.Gr n L c) : c ≤ costP L d := by
  obtain ⟨ps, h1, h2, h3, h4⟩ := plan_fam hn L d.depth d 0 ok.ok (by omega)
  rw [Nat.zero_mul, Nat.add_zero] at h4
  rw [Nat.sub_zero] at h3
  have p : L.Perm (K8.gets L (leaf d)) := by
    have := ok.all.map fun i => L.getD i 0
    have e : (List.range L.length).map (fun i => L.getD i 0) = L := K8.gets_all L
    rw [e] at this
    exact this.symm
  exact K8.fam_lb hn g p ⟨by rw [h1], h2, h3, h4⟩
end RS
set_option Elab.async false
set_option maxRecDepth 100000
set_option maxHeartbeats 4000000
set_option pp.maxSteps 400
namespace RS
open PySem PySem.Spec PyProof.Rows L2 GX
theorem notIn_seqC {X : Cx} {K : PySem.W.Frag} (e : X.K = K) : OpR X (compareOp .NotIn) (rIn K true) := by
  subst e
  exact op_notIn_seq
/-- the dict of what is known: each key a sorted list of sizes, its entry the least -/
def keyL (M : List Nat) : List Key := M.map fun n => (Sum.inl ((n : Nat) : Int) : Key)
def Known (w : Nat) (kvs : List (List Key × V)) : Prop := ∀ M v, valV kvs (keyL M) = some v → ∃ c : Nat, v = .int (c : Nat) ∧ K8.Least w M c
/-- all but one object stays -/
def SameD (D : Addr) (H H' : Hp) : Prop := ∀ b o, b ≠ D → H b = some o → H' b = some o
theorem SameD.refl {D : Addr} {H : Hp} : SameD D H H := fun _ _ _ e => e
theorem SameD.trans {D : Addr} {H H' H'' : Hp} (a : SameD D H H') (b : SameD D H' H'') : SameD D H H'' := fun c o n e => b c o n (a c o n e)
/-- all but two objects stay -/
def Same2 (D S : Addr) (H H' : Hp) : Prop := ∀ b o, b ≠ D → b ≠ S → H b = some o → H' b = some o
/-- first steps of up to so many -/
def chs (L i : Nat) : List (List Nat) := ((List.range i).map (2 + ·)).flatMap fun s => ch s L
theorem chs_all : ∀ L ≤ 6, (chs L (L - 1)).length ≤ 57 := by decide +kernel
theorem chs_len {L i : Nat} (h : L ≤ 6) (hi : i ≤ L - 1) : (chs L i).length ≤ 57 := Nat.le_trans (fm_le (fun s => ch s L) (2 + ·) i (L - 1) hi) (chs_all L h)
theorem chs_succ (L i : Nat) : chs L (i + 1) = chs L i ++ ch (2 + i) L := fm_succ (fun s => ch s L) i (2 + ·)
/-- what is told of first steps -/
def Rs (w : Nat) (l : List Nat) (cs : List (List Nat)) (rs : List Nat) : Prop := rs.length = cs.length ∧ ∀ (q r : Nat) (c : List Nat), rs[q]? = some r → cs[q]? = some c → ∃ x, K8.Least w (K8.others l c ++ [(K8.gets l c).sum]) x ∧ r = (K8.gets l c).sum + x
theorem Rs.snoc {w : Nat} {l : List Nat} {cs : List (List Nat)} {rs : List Nat} {c : List Nat} {x : Nat} (h : Rs w l cs rs) (hx : K8.Least w (K8.others l c ++ [(K8.gets l c).sum]) x) : Rs w l (cs ++ [c]) (rs ++ [(K8.gets l c).sum + x]) := by
  obtain ⟨h1, h2⟩ := h
  refine ⟨by rw [List.length_append, List.length_append, h1]; rfl, fun q r d hr hd => ?_⟩
  by_cases hq : q < rs.length
  · rw [List.getElem?_append_left hq] at hr
    rw [List.getElem?_append_left (by omega)] at hd
    exact h2 q r d hr hd
  · have hlt := (List.getElem?_eq_some_iff.mp hr).1
    rw [List.length_append, List.length_singleton] at hlt
    have : q = rs.length := by omega
    subst this
    rw [List.getElem?_append_right (Nat.le_refl _), Nat.sub_self] at hr
    rw [h1, List.getElem?_append_right (Nat.le_refl _), Nat.sub_self] at hd
    cases hr
    cases hd
    exact ⟨x, hx, rfl⟩
theorem few_least {w : Nat} {l rs : List Nat} {b : Nat} (h2 : 2 ≤ l.length) (h : Rs w l (chs l.length (min w l.length - 1)) rs) (hb : b ∈ rs) (le : ∀ y ∈ rs, b ≤ y) : K8.Least w l b := by
  have all : ∀ c : List Nat, c.Pairwise (· < ·) → (∀ i ∈ c, i < l.length) → 2 ≤ c.length → c.length ≤ w → c ∈ chs l.length (min w l.length - 1) := fun c c1 c2 c3 c4 => by
    have := rising_len c1 c2
    exact List.mem_flatMap.mpr ⟨c.length, List.mem_map.mpr ⟨c.length - 2, List.mem_range.mpr (by omega), by omega⟩, ch_all _ _ c rfl c1 c2⟩
  have ex : ∀ c : List Nat, c.Pairwise (· < ·) → (∀ i ∈ c, i < l.length) → 2 ≤ c.length → c.length ≤ w → ∃ x, K8.Least w (K8.others l c ++ [(K8.gets l c).sum]) x ∧ (K8.gets l c).sum + x ∈ rs := fun c c1 c2 c3 c4 => by
    obtain ⟨q, hq⟩ := List.getElem?_of_mem (all c c1 c2 c3 c4)
    have hlt := (List.getElem?_eq_some_iff.mp hq).1
    have er := List.getElem?_eq_getElem (l := rs) (i := q) (by rw [h.1]; exact hlt)
    obtain ⟨x, hx, e⟩ := h.2 q _ c er hq
    exact ⟨x, hx, by rw [← e]; exact List.mem_of_getElem? er⟩
  refine K8.least_step (fun c => Classical.epsilon fun x => K8.Least w (K8.others l c ++ [(K8.gets l c).sum]) x) h2 (fun c c1 c2 c3 c4 => ?_) ?_ (fun c c1 c2 c3 c4 => ?_)
  · obtain ⟨x, hx, _⟩ := ex c c1 c2 c3 c4
    have hh : ∃ x, K8.Least w (K8.others l c ++ [(K8.gets l c).sum]) x := ⟨x, hx⟩
    exact Classical.epsilon_spec hh
  · obtain ⟨q, hq⟩ := List.getElem?_of_mem hb
    have hlt := (List.getElem?_eq_some_iff.mp hq).1
    have ec := List.getElem?_eq_getElem (l := chs l.length (min w l.length - 1)) (i := q) (by rw [← h.1]; exact hlt)
    obtain ⟨x, hx, e⟩ := h.2 q b _ hq ec
    obtain ⟨s, hs, hm⟩ := List.mem_flatMap.mp (List.mem_of_getElem? ec)
    obtain ⟨i, hi, rfl⟩ := List.mem_map.mp hs
    have hi := List.mem_range.mp hi
    obtain ⟨s1, s2, s3⟩ := ch_sound _ _ _ hm
    generalize (chs l.length (min w l.length - 1))[q]'(by rw [← h.1]; exact hlt) = c at hx e s1 s2 s3
    have hh : ∃ x, K8.Least w (K8.others l c ++ [(K8.gets l c).sum]) x := ⟨x, hx⟩
    refine ⟨c, s2, s3, by omega, by omega, ?_⟩
    have u := (Classical.epsilon_spec hh).uniq hx
    show b = _ + Classical.epsilon _
    rw [u]
    exact e
  · obtain ⟨x, hx, hr⟩ := ex c c1 c2 c3 c4
    have hh : ∃ x, K8.Least w (K8.others l c ++ [(K8.gets l c).sum]) x := ⟨x, hx⟩
    have u := (Classical.epsilon_spec hh).uniq hx
    show b ≤ _ + Classical.epsilon _
    rw [u]
    exact le _ hr
theorem intsAt {c : List Nat} {q : Nat} {x : V} (hx : (c.map fun n => V.int (n : Nat))[q]? = some x) : ∃ y : Nat, c[q]? = some y ∧ x = V.int (y : Nat) := by
  rw [List.getElem?_map] at hx
  cases z : c[q]? with
  | none => rw [z] at hx; cases hx
  | some b => rw [z] at hx; exact ⟨b, rfl, (Option.some.inj hx).symm⟩
theorem nat_getD {l : List Nat} {y : Nat} (h : y < l.length) : (l.map fun n => V.int (n : Nat))[y]? = some (.int ((l.getD y 0 : Nat) : Int)) := by
  rw [List.getElem?_map, List.getElem?_eq_getElem h, List.getD_eq_getElem?_getD, List.getElem?_eq_getElem h]
  rfl
theorem flat_nats : ∀ c : List Nat, (c.map fun n => V.int (n : Nat)).all flatV = true
  | [] => rfl
  | x :: c => flat_nats c
theorem inV_nats (x : Nat) : ∀ c : List Nat, inV (.int (x : Nat)) (c.map fun n => V.int (n : Nat)) = decide (x ∈ c)
  | [] => by simp [inV]
  | y :: c => by
    have ih := inV_nats x c
    unfold inV at ih ⊢
    rw [List.map_cons, List.any_cons, ih]
    by_cases e : y = x
    · subst e
      simp [eqV]
    · have : ¬ x = y := fun z => e z.symm
      have h2 : eqV (V.int (y : Nat)) (V.int (x : Nat)) = false := by
        exact beq_eq_false_iff_ne.mpr fun z => e (by omega)
      rw [h2]
      simp [this]
/-- how many keys come to be known at the most -/
def gF : Nat → Nat
  | 0 => 0
  | 1 => 0
  | n + 2 => 57 * gF (n + 1) + 1
theorem Known.put {w : Nat} {kvs : List (List Key × V)} (h : Known w kvs) {M : List Nat} {c : Nat} (hc : K8.Least w M c) : Known w (putK kvs (keyL M) (.int (c : Nat))) := fun N v hv => by
  rw [valV_put] at hv
  by_cases e : keyL N = keyL M
  · rw [if_pos e] at hv
    have : N = M := (List.map_inj_right fun a b z => by
      have := Sum.inl.inj z
      omega).mp e
    subst this
    exact ⟨c, (Option.some.inj hv).symm, hc⟩
  · rw [if_neg e] at hv
    exact h N v hv
section
variable {P : Program} {w : World} {K : PySem.W.Frag} {mg : Str → Option Value} {base : Heap}
theorem scFew : FnScope ["_law_sizes", "_law_ways", "_law_known", "_law_key", "_law_some", "_law_many", "_law_choice", "_law_size", "_law_rest", "_law_k"] ["_law_sizes", "_law_ways", "_law_known"] (defScope s__law_fewest) := ⟨rfl, rfl, rfl, by decide +kernel, rfl, by decide +kernel, by decide +kernel⟩
def spFew (n : Nat) : Sp := fun vs H Q _ => ∃ (a D : Addr) (M : List Nat) (w : Nat) (kvs : List (List Key × V)), vs = [.ref a, .int (w : Nat), .ref D] ∧ H a = some (.lst (M.map fun n => V.int (n : Nat))) ∧ 1 ≤ M.length ∧ M.length ≤ n ∧ M.length ≤ 6 ∧ 2 ≤ w ∧ w ≤ 6 ∧ H D = some (.dT kvs) ∧ Known w kvs ∧ kvs.length + gF n ≤ 16000000 ∧
  ∀ (H' : Hp) (c : Nat) (kvs' : List (List Key × V)), SameD D H H' → H' D = some (.dT kvs') → Known w kvs' → kvs'.length ≤ kvs.length + gF n → K8.Least w M c → Q (.int (c : Nat)) H'
theorem few_none {c : Addr} (D : DefAt K mg "_law_fewest" s__law_fewest c) : Cal P w K mg base CX0 8 "_law_fewest" ["_law_sizes", "_law_ways", "_law_known"] (fun _ _ _ _ => False) :=
  def_ok0 D scFew (fun vs H Q E h => h.elim) (fun _ _ _ _ _ _ us hl => match us, hl with | [_, _, _], _ => rfl) (fun f A outer s H vs Q E hr h => h.elim)
theorem few_step {c : Addr} (D : DefAt K mg "_law_fewest" s__law_fewest c) (T : Txt K mg) (hsum : mg "sum" = none) (cC : Cal P w K mg base CX0 8 "_law_choices" ["_law_many", "_law_size"] (spCh 6)) {j : Nat} (n : Nat) {sp : Sp} (hj : 8 ≤ j) (cR : Cal P w K mg base CX0 j "_law_fewest" ["_law_sizes", "_law_ways", "_law_known"] sp)
    (hsp : ∀ (a D : Addr) (M : List Nat) (w : Nat) (kvs : List (List Key × V)) (H : Hp) (Q : VK) (E : XK), H a = some (.lst (M.map fun n => V.int (n : Nat))) → 1 ≤ M.length → M.length + 1 ≤ n → M.length ≤ 6 → 2 ≤ w → w ≤ 6 → H D = some (.dT kvs) → Known w kvs → kvs.length + gF (n - 1) ≤ 16000000 →
      (∀ (H' : Hp) (c : Nat) (kvs' : List (List Key × V)), SameD D H H' → H' D = some (.dT kvs') → Known w kvs' → kvs'.length ≤ kvs.length + gF (n - 1) → K8.Least w M c → Q (.int (c : Nat)) H') → sp [.ref a, .int (w : Nat), .ref D] H Q E) :
    Cal P w K mg base CX0 (j + 1) "_law_fewest" ["_law_sizes", "_law_ways", "_law_known"] (spFew n) := by
  have sc := scFew
  refine def_ok0 D sc (fun vs H Q E h => ?_) (fun _ _ _ _ _ _ us hl => match us, hl with | [_, _, _], _ => rfl) (fun f A outer s H vs Q E hr h => ?_)
  · obtain ⟨a, D, M, w, kvs, rfl, _⟩ := h
    rfl
  · obtain ⟨a, Dk, M, w, kvs, rfl, hA, m1, mn, m6, w2, w6, hD, kn, lk, k⟩ := h
    have hu := hr.units
    refine ⟨_, (pss_cons (ps_if (pt_cmpR op_eq (pe_callB call_len_seq (by rfl) T.len PySem.boot_len (pa_cons (pv 0) pa_nil)) pe_int (nomark _)) (pss_one (ps_ret pe_int)) pss_nil) (pss_cons (ps_set (i := 3) sc.nd rfl (Or.inr rfl) (pe_callTy call_tuple_of (by rfl) T.tuple_ (by decide +kernel) (pa_cons (pe_callB cr_sortedI (by rfl) T.sorted (by decide +kernel) (pa_cons (pv 0) pa_nil)) pa_nil))) (pss_cons (ps_if (pt_cmp (pc_dnotin (le64 hu) (pv 3) (pv 2))) (pss_cons (ps_set (i := 4) sc.nd rfl (Or.inl rfl) (pe_lst pa_nil)) (pss_cons (ps_for PassesOwn.never rfl (pi_range2 (by rfl) T.range (pa_cons pe_int (pa_cons (pe_op op_add (pe_callB (call_min2 rfl) (by rfl) T.min boot_min (pa_cons (pv 1) (pa_cons (pe_callB call_len_seq (by rfl) T.len PySem.boot_len (pa_cons (pv 3) pa_nil)) pa_nil))) pe_int) pa_nil))) (pg_name (i := 5) sc.nd rfl (Or.inl rfl)) (pss_one (ps_for PassesOwn.never rfl (pi_list (pe_c cC hr (by omega) (by rfl) pass0 (pa_cons (pe_callB call_len_seq (by rfl) T.len PySem.boot_len (pa_cons (pv 3) pa_nil)) (pa_cons (pv 5) pa_nil)))) (pg_name (i := 6) sc.nd rfl (Or.inr rfl)) (pss_cons (ps_set (i := 7) sc.nd rfl (Or.inl rfl) (pe_callB (cr_sum rfl) (by rfl) hsum (by decide +kernel) (pa_cons (pe_lc (own := [("_law_k", 9)]) (tt := tYes)  rfl sc.nd (pi_list (pv 6)) (blkOk_by (N := ["_law_sizes", "_law_ways", "_law_known", "_law_key", "_law_some", "_law_many", "_law_choice", "_law_size", "_law_rest", "_law_k"]) (sc := defScope s__law_fewest) (own := [("_law_k", 9)]) (by decide +kernel)) (fun _ _ _ _ _ => (pg_name (i := 9) sc.nd rfl (Or.inl rfl))) (fun _ _ _ _ _ => pts_nil) (fun _ _ _ _ _ => (pe_ix (ix_tupC (K := K) rfl) (pv 3) (pv 9) (fun _ _ => rfl)))) pa_nil))) (pss_cons (ps_setLc (own := [("_law_k", 9)]) (tt := _) rfl sc.nd (i := 8) rfl rfl (by rfl) (pi_range1 (by rfl) T.range (pa_cons (pe_callB call_len_seq (by rfl) T.len PySem.boot_len (pa_cons (pv 3) pa_nil)) pa_nil)) (blkOk_by (N := ["_law_sizes", "_law_ways", "_law_known", "_law_key", "_law_some", "_law_many", "_law_choice", "_law_size", "_law_rest", "_law_k"]) (sc := defScope s__law_fewest) (own := [("_law_k", 9)]) (by decide +kernel)) (fun _ _ _ _ _ => (pg_name (i := 9) sc.nd rfl (Or.inl rfl))) (fun _ _ _ _ _ => pts_one (pt_cmpR (notIn_seqC (K := K) rfl) (pv 9) (pv 6) (by rfl))) (fun _ _ _ _ _ => (pe_ix (ix_tupC (K := K) rfl) (pv 3) (pv 9) (fun _ _ => rfl)))) (pss_one (ps_expr (pe_bm PySem.F.plainAttrs_list PySem.F.slot_list_append PySem.F.type_list_append mt_append (pv 4) (pa_cons (pe_op op_add (pv 7) (pe_c cR hr (by omega) (by rfl) pass0 (pa_cons (pe_op op_cat (pv 8) (pe_lst (pa_cons (pv 7) pa_nil))) (pa_cons (pv 1) (pa_cons (pv 2) pa_nil))))) pa_nil))))))))) (pss_one (ps_dput (le64 hu) (pv 2) (pv 3) (pe_callB (cr_min rfl) (by rfl) T.min (by decide +kernel) (pa_cons (pv 4) pa_nil)) (by rfl))))) pss_nil) (pss_one (ps_ret (pe_dget (le64 hu) (pv 2) (pv 3) (by intro _ _; rfl))))))), ?_⟩
    refine ⟨_, rfl, a, _, rfl, .inl (SqL.of hA), rfl, _, rfl, ?_⟩
    by_cases h1 : M.length = 1
    · refine iteT' (decide_eq_true (by rw [List.length_map, h1]; rfl)) ?_
      obtain ⟨x, rfl⟩ := List.length_eq_one_iff.mp h1
      exact k H 0 kvs (fun _ _ _ e => e) hD kn (by omega) (K8.least_one w x)
    refine iteF' (decide_eq_false fun z => h1 ?_) ?_
    · have := V.int.inj z
      rw [List.length_map] at this
      omega
    refine ⟨_, rfl, a, M.map fun n => ((n : Nat) : Int), rfl, SqL.of (by rw [hA, List.map_map]; rfl), fun ns' p pm pw hp => ?_⟩
    obtain ⟨kl, rfl, pmK, pwK⟩ := nats_of pm pw
    refine ⟨p, _, rfl, .inl ⟨SqL.of upd_same, fun t ht0 => ?_⟩⟩
    have s1 := sameNew (o := .lst ((kl.map fun n => ((n : Nat) : Int)).map V.int)) (Same.refl H) hp
    have s2 := sameNew (o := .tup ((kl.map fun n => ((n : Nat) : Int)).map V.int)) s1 ht0
    have ek : (kl.map fun n => ((n : Nat) : Int)).map V.int = (keyL kl).map kV := by
      unfold keyL
      rw [List.map_map, List.map_map]
      rfl
    have hT : upd (upd H p (.lst ((kl.map fun n => ((n : Nat) : Int)).map V.int))) t (.tup ((kl.map fun n => ((n : Nat) : Int)).map V.int)) t = some (.tup ((keyL kl).map kV)) := by rw [upd_same, ek]
    generalize upd (upd H p (.lst ((kl.map fun n => ((n : Nat) : Int)).map V.int))) t (.tup ((kl.map fun n => ((n : Nat) : Int)).map V.int)) = H2 at s2 hT ⊢
    have hD2 := s2 _ _ hD
    refine ⟨_, rfl, _, rfl, Dk, _, rfl, DGet.t hD2 hT, _, rfl, ?_⟩
    cases hv : valV kvs (keyL kl) with
    | some v =>
      obtain ⟨cc, rfl, hc⟩ := kn kl v hv
      refine iteF ⟨_, rfl, _, rfl, Dk, .int (cc : Nat), rfl, by rw [← hv]; exact DGet.t hD2 hT, ?_⟩
      exact k H2 cc kvs (fun b o _ e => s2 b o e) hD2 kn (by omega) (hc.perm pmK.symm)
    | none =>
      have hT' : H2 t = some (.tup (kl.map fun n => V.int (n : Nat))) := by
        rw [hT, ← ek, List.map_map]
        rfl
      have lk := pmK.length_eq
      have hL2 : 2 ≤ kl.length := by omega
      have hL6 : kl.length ≤ 6 := by omega
      have hg : gF n = 57 * gF (n - 1) + 1 := by
        obtain ⟨m, rfl⟩ : ∃ m, n = m + 2 := ⟨n - 2, by omega⟩
        rfl
      generalize gF (n - 1) = g at hg hsp
      refine iteT ⟨Nat.zero_le _, fun S hS => ?_⟩
      have nSD : S ≠ Dk := fun z => by rw [z, hD2] at hS; cases hS
      have s3 := sameNew (o := .lst []) (Same.refl H2) hS
      have hS3 : upd H2 S (.lst []) S = some (.lst []) := upd_same
      have hT3 := s3 _ _ hT'
      have hD3 := s3 _ _ hD2
      generalize upd H2 S (.lst []) = H3 at s3 hS3 hT3 hD3 ⊢
      refine ⟨_, rfl, _, rfl, t, _, rfl, .inr (SqT.of hT3), _, _, rfl, _, _, rfl, rfl, _, _, rfl, ?_⟩
      rw [List.length_map]
      have hmn : (if ((kl.length : Nat) : Int) < (w : Int) then ((kl.length : Nat) : Int) else (w : Int)) = ((min w kl.length : Nat) : Int) := by
        split <;> omega
      rw [hmn]
      refine ⟨⟨by omega, by omega, by omega, by omega⟩, ?_⟩
      rw [show (((min w kl.length : Nat) : Int) + 1 - 2).toNat = min w kl.length - 1 by omega]
      refine for_range (fun i σ H' => ∃ (v5 v6 v7 v8 : Option V) (kv1 : List (List Key × V)) (rs : List Nat), σ = [some (.ref a), some (.int (w : Nat)), some (.ref Dk), some (.ref t), some (.ref S), v5, v6, v7, v8, none] ∧ SameD Dk H2 H' ∧ H' S = some (.lst (rs.map fun n => V.int (n : Nat))) ∧ H' Dk = some (.dT kv1) ∧ Known w kv1 ∧ kv1.length ≤ kvs.length + rs.length * g ∧ Rs w kl (chs kl.length i) rs)
        ⟨none, none, none, none, kvs, [], rfl, fun b o _ e => s3 b o e, hS3, hD3, kn, by omega, rfl, fun q r c h => by simp at h⟩ ?_ ?_
      · rintro i σ H4 hi ⟨v5, v6, v7, v8, kv1, rs, rfl, sm, hS4, hD4, kn4, lk4, R4⟩
        have hT4 := sm _ _ (fun z => by rw [z, hD2] at hT'; cases hT') hT'
        have lc4 := chs_len (i := i + 1) hL6 (by omega)
        rw [chs_succ, List.length_append] at lc4
        refine ⟨_, rfl, t, _, rfl, .inr (SqT.of hT4), _, rfl, _, _, kl.length, 2 + i, rfl, by rw [List.length_map], by omega, by omega, by omega, by omega, fun H5 G as s5 hG LG => ?_⟩
        have hS5 := s5 _ _ hS4
        have hD5 := s5 _ _ hD4
        have hT5 := s5 _ _ hT4
        have lG := LG.len
        have nGS : G ≠ S := fun z => by rw [z, hS4] at hG; cases hG
        have nGD : G ≠ Dk := fun z => by rw [z, hD4] at hG; cases hG
        refine ⟨G, rfl, ⟨_, SqL.of LG.h⟩, ?_⟩
        refine for_list (K := K) (a := G) (xs := as.map V.ref) (fun j σ H' => ∃ (v6 v7 v8 : Option V) (kv1 : List (List Key × V)) (rs : List Nat), σ = [some (.ref a), some (.int (w : Nat)), some (.ref Dk), some (.ref t), some (.ref S), some (.int (2 + (i : Nat))), v6, v7, v8, none] ∧ Same2 Dk S H5 H' ∧ H' S = some (.lst (rs.map fun n => V.int (n : Nat))) ∧ H' Dk = some (.dT kv1) ∧ Known w kv1 ∧ kv1.length ≤ kvs.length + rs.length * g ∧ Rs w kl (chs kl.length i ++ (ch (2 + i) kl.length).take j) rs)
          ⟨v6, v7, v8, kv1, rs, rfl, fun _ _ _ _ e => e, hS5, hD5, kn4, lk4, by rw [List.take_zero, List.append_nil]; exact R4⟩ ?_ ?_ ?_
        · rintro j σ H6 _ ⟨v6, v7, v8, kv1, rs, rfl, sm6, _⟩
          exact SqL.of (sm6 _ _ nGD nGS LG.h)
        · rintro j x σ H6 hx ⟨v6, v7, v8, kv6, rs, rfl, sm6, hS6, hD6, kn6, lk6, R6⟩
          obtain ⟨b, eb, rfl⟩ : ∃ b, as[j]? = some b ∧ x = V.ref b := by
            rw [List.getElem?_map] at hx
            cases z : as[j]? with
            | none => rw [z] at hx; cases hx
            | some b => rw [z] at hx; exact ⟨b, rfl, (Option.some.inj hx).symm⟩
          have hjb := (List.getElem?_eq_some_iff.mp eb).1
          have ec := List.getElem?_eq_getElem (l := ch (2 + i) kl.length) (i := j) (by omega)
          generalize (ch (2 + i) kl.length)[j]'(by omega) = c at ec
          obtain ⟨c1, c2, c3⟩ := ch_sound (2 + i) kl.length c (List.mem_of_getElem? ec)
          have hb0 := LG.at_ j b c eb ec
          have nb := LG.new b (List.mem_of_getElem? eb)
          have hb6 := sm6 _ _ (fun z => by rw [z, hD5] at hb0; cases hb0) (fun z => by rw [← z] at hS4; rw [hS4] at nb; cases nb.1) hb0
          have hT6 := sm6 _ _ (fun z => by rw [z, hD5] at hT5; cases hT5) (fun z => by rw [z, hS5] at hT5; cases hT5) hT5
          refine ⟨_, rfl, b, rfl, ⟨_, SqL.of hb6⟩, fun DD hDD => ?_⟩
          refine lc_list (K := K) (a := b) (xs := c.map fun n => V.int (n : Nat)) (fun q H' => Same H6 H' ∧ H' DD = some (.lst (((c.take q).map fun k => ((kl.getD k 0 : Nat) : Int)).map V.int))) ⟨fun b o e => by rw [upd_ne (ne_of_none e hDD)]; exact e, upd_same⟩ (fun q H' _ h => h.1.seq (SqL.of hb6)) ?_ ?_
          · rintro q x H7 hx ⟨sm7, hl7⟩
            obtain ⟨y, ey, rfl⟩ := intsAt hx
            have hy := c3 y (List.mem_of_getElem? ey)
            have hq := (List.getElem?_eq_some_iff.mp ey).1
            refine ⟨rfl, _, rfl, _, rfl, t, _, ((y : Nat) : Int), .int ((kl.getD y 0 : Nat) : Int), rfl, rfl, SqT.of (sm7 _ _ hT6), atI_nat (nat_getD hy), ?_⟩
            refine ⟨_, hl7, small1000 (by rw [List.length_map, List.length_map, List.length_take]; omega), fun b' o z => ?_, ?_⟩
            · rw [upd_ne (ne_of_none z hDD)]
              exact sm7 _ _ z
            · rw [upd_same, List.take_add_one, ey, List.map_append, List.map_append]
              rfl
          · rintro H7 ⟨sm7, hl7⟩
            rw [List.length_map, List.take_length] at hl7
            refine ⟨DD, _, rfl, SqL.of hl7, ?_⟩
            rw [isum_nat c fun k => kl.getD k 0, show (c.map fun k => kl.getD k 0) = K8.gets kl c from rfl]
            generalize hsz : (K8.gets kl c).sum = sz
            have hT7 := sm7 _ _ hT6
            have hb7 := sm7 _ _ hb6
            refine ⟨_, rfl, t, _, rfl, .inr (SqT.of hT7), _, rfl, by omega, by rw [List.length_map]; omega, fun E hE => ?_⟩
            rw [List.length_map, Int.toNat_natCast]
            refine lc_range (fun q H' => Same H7 H' ∧ H' E = some (.lst ((K8.gets kl ((List.range q).filter fun i => !decide (i ∈ c))).map fun n => V.int (n : Nat)))) ⟨fun b o e => by rw [upd_ne (ne_of_none e hE)]; exact e, upd_same⟩ ?_ ?_
            · rintro q H8 hq ⟨sm8, hl8⟩
              rw [Int.zero_add]
              refine ⟨rfl, _, rfl, _, rfl, b, _, rfl, .inl (SqL.of (sm8 _ _ hb7)), rfl, flat_nats c, ?_⟩
              rw [inV_nats]
              have hl8n : H8 E ≠ none := by rw [hl8]; exact fun h => nomatch h
              have fil : (List.range (q + 1)).filter (fun i => !decide (i ∈ c)) = (List.range q).filter (fun i => !decide (i ∈ c)) ++ if q ∈ c then [] else [q] := by
                rw [List.range_succ, List.filter_append]
                by_cases hc : q ∈ c
                · simp [hc]
                · simp [hc]
              have lfil : ((List.range q).filter fun i => !decide (i ∈ c)).length ≤ q := by
                have := List.length_filter_le (fun i => !decide (i ∈ c)) (List.range q)
                rw [List.length_range] at this
                exact this
              refine ⟨_, rfl, ?_⟩
              by_cases hc : q ∈ c
              · refine iteF' (by simp [hc]) ⟨sm8, ?_⟩
                rw [fil, if_pos hc, List.append_nil]
                exact hl8
              · refine iteT' (by simp [hc]) ?_
                refine ⟨_, rfl, _, rfl, t, _, ((q : Nat) : Int), .int ((kl.getD q 0 : Nat) : Int), rfl, rfl, SqT.of (sm8 _ _ hT7), atI_nat (nat_getD hq), ?_⟩
                refine ⟨_, hl8, small1000 (by rw [List.length_map]; unfold K8.gets; rw [List.length_map]; omega), fun b' o z => ?_, ?_⟩
                · rw [upd_ne (ne_of_none z hE)]
                  exact sm8 _ _ z
                · rw [upd_same, fil, if_neg hc]
                  unfold K8.gets
                  rw [List.map_append, List.map_append]
                  rfl
            · rintro H8 ⟨sm8, hl8⟩
              rw [show K8.gets kl ((List.range kl.length).filter fun i => !decide (i ∈ c)) = K8.others kl c from rfl] at hl8
              have sm68 := sm7.trans sm8
              have hS8 := sm68 _ _ hS6
              have hD8 := sm68 _ _ hD6
              have lo : (K8.others kl c).length + c.length = kl.length := by
                have := (K8.part c2 c3).length_eq
                rw [List.length_append] at this
                have lg : (K8.gets kl c).length = c.length := List.length_map _
                omega
              refine ⟨_, rfl, .inl ⟨rfl, _, SqL.of hS8⟩, _, rfl, _, rfl, _, rfl, by show 1 ≤ sizeLine; decide, fun Z hZ => ?_⟩
              have s9 := sameNew (o := .lst [V.int (sz : Nat)]) (Same.refl H8) hZ
              have hZ9 : upd H8 Z (.lst [V.int (sz : Nat)]) Z = some (.lst [V.int (sz : Nat)]) := upd_same
              have hE9 := s9 _ _ hl8
              generalize upd H8 Z (.lst [V.int (sz : Nat)]) = H9 at s9 hZ9 hE9 ⊢
              refine ⟨E, Z, _, _, rfl, rfl, hE9, hZ9, Nat.le_of_lt (small1000 (by rw [List.length_map, List.length_singleton]; omega)), fun Y hY => ?_⟩
              have s10 := sameNew (o := .lst (((K8.others kl c).map fun n => V.int (n : Nat)) ++ [V.int (sz : Nat)])) (Same.refl H9) hY
              have hY10 : upd H9 Y (.lst (((K8.others kl c).map fun n => V.int (n : Nat)) ++ [V.int (sz : Nat)])) Y = some (.lst ((K8.others kl c ++ [sz]).map fun n => V.int (n : Nat))) := by
                rw [upd_same, List.map_append]
                rfl
              generalize upd H9 Y (.lst (((K8.others kl c).map fun n => V.int (n : Nat)) ++ [V.int (sz : Nat)])) = H10 at s10 hY10 ⊢
              have s810 := s9.trans s10
              have hS10 := s810 _ _ hS8
              have hD10 := s810 _ _ hD8
              have lr := R6.1
              rw [List.length_append, List.length_take] at lr
              have lrg : rs.length * g + g ≤ 57 * g := by
                rw [← Nat.succ_mul]
                exact Nat.mul_le_mul_right _ (by omega)
              refine ⟨_, rfl, _, rfl, hsp Y Dk _ w kv6 H10 _ _ hY10 (by rw [List.length_append]; exact Nat.le_add_left _ _) (by rw [List.length_append, List.length_singleton]; omega) (by rw [List.length_append, List.length_singleton]; omega) w2 w6 hD10 kn6 (by omega) fun H11 c' kv7 s11 hD11 kn7 lk7 hc' => ?_⟩
              have hS11 := s11 _ _ nSD hS10
              refine ⟨_, _, rfl, rfl, S, _, _, rfl, rfl, hS11, small1000 (by rw [List.length_map]; omega), ?_⟩
              refine ⟨_, _, _, kv7, rs ++ [sz + c'], rfl, fun b o nb nS e => ?_, ?_, (upd_ne (Ne.symm nSD)).trans hD11, kn7, ?_, ?_⟩
              · rw [upd_ne nS]
                exact s11 _ _ nb (s810 _ _ (sm68 _ _ (sm6 _ _ nb nS e)))
              · rw [upd_same, List.map_append]
                rfl
              · rw [List.length_append, List.length_singleton, Nat.add_mul, Nat.one_mul]
                omega
              · rw [List.take_add_one, ec, ← List.append_assoc, ← hsz]
                exact R6.snoc (by rw [hsz]; exact hc')
        · rintro σ H6 ⟨v6, v7, v8, kv6, rs, rfl, sm6, hS6, hD6, kn6, lk6, R6⟩
          refine ⟨_, v6, v7, v8, kv6, rs, rfl, fun b o nb e => ?_, hS6, hD6, kn6, lk6, ?_⟩
          · exact sm6 _ _ nb (fun z => by rw [z, hS] at e; cases e) (s5 _ _ (sm _ _ nb e))
          · rw [chs_succ]
            rw [List.length_map, lG, List.take_length] at R6
            exact R6
      · rintro σ H4 ⟨v5, v6, v7, v8, kv1, rs, rfl, sm, hS4, hD4, kn4, lk4, R4⟩
        have hT4 := sm _ _ (fun z => by rw [z, hD2] at hT'; cases hT') hT
        have lr := R4.1
        have lc4 := chs_len (i := min w kl.length - 1) hL6 (by omega)
        have l1 : 1 ≤ (chs kl.length (min w kl.length - 1)).length := by
          obtain ⟨q, hq⟩ : ∃ q, min w kl.length - 1 = q + 1 := ⟨min w kl.length - 2, by omega⟩
          rw [hq]
          have := fm_le (fun s => ch s kl.length) (2 + ·) 1 (q + 1) (by omega)
          refine Nat.le_trans ?_ this
          have : ∀ L ≤ 6, 2 ≤ L → 1 ≤ (((List.range 1).map (2 + ·)).flatMap fun s => ch s L).length := by decide +kernel
          exact this _ hL6 hL2
        have lg : rs.length * g ≤ 57 * g := Nat.mul_le_mul_right _ (by omega)
        refine ⟨_, rfl, S, rs.map fun n => ((n : Nat) : Int), rfl, SqL.of (by rw [hS4, List.map_map]; rfl), by rw [List.length_map]; omega, fun m hm hle => ?_⟩
        obtain ⟨c, hc, rfl⟩ := List.mem_map.mp hm
        have lst : K8.Least w kl c := few_least hL2 R4 hc fun y hy => by
          have := hle _ (List.mem_map.mpr ⟨y, hy, rfl⟩)
          omega
        have hlt : kv1.length < sizeLine := Nat.lt_of_le_of_lt (show kv1.length ≤ 16000000 by omega) (by decide)
        refine ⟨_, rfl, _, rfl, Dk, _, rfl, DPut.t hD4 hT4 hlt, ?_⟩
        have ntD : t ≠ Dk := fun z => by rw [z, hD2] at hT'; cases hT'
        have lp := length_putK kv1 (keyL kl) (.int (c : Nat))
        have hp : H4 Dk ≠ none := by rw [hD4]; exact fun h => nomatch h
        refine ⟨_, rfl, _, rfl, Dk, .int (c : Nat), rfl, ?_, ?_⟩
        · have : valV (putK kv1 (keyL kl) (.int (c : Nat))) (keyL kl) = some (.int (c : Nat)) := by rw [valV_put, if_pos rfl]
          rw [← this]
          exact DGet.t upd_same ((upd_ne ntD).trans hT4)
        · exact k _ c _ (fun b o nb e => by rw [upd_ne nb]; exact sm _ _ nb (s2 _ _ e)) upd_same (kn4.put lst) (by omega) (lst.perm pmK.symm)
theorem few_ok {c : Addr} (D : DefAt K mg "_law_fewest" s__law_fewest c) (T : Txt K mg) (hsum : mg "sum" = none) (cC : Cal P w K mg base CX0 8 "_law_choices" ["_law_many", "_law_size"] (spCh 6)) : ∀ n : Nat, Cal P w K mg base CX0 (n + 9) "_law_fewest" ["_law_sizes", "_law_ways", "_law_known"] (spFew n)
  | 0 => few_step D T hsum cC 0 (Nat.le_refl _) (few_none D) (fun _ _ _ _ _ _ _ _ _ _ h _ _ _ _ _ _ _ => by omega)
  | n + 1 => few_step D T hsum cC (n + 1) (by omega) (few_ok D T hsum cC n) (fun a Dk M w kvs H Q E h1 h2 h3 h4 h5 h6 h7 h8 h9 q => ⟨a, Dk, M, w, kvs, rfl, h1, h2, by omega, h4, h5, h6, h7, h8, h9, q⟩)
end
end RS
set_option Elab.async false
set_option maxRecDepth 100000
set_option maxHeartbeats 4000000
namespace RS
open PySem PySem.Spec PyProof.Rows L2 GX
/-! ### tables that are empty at the entry, as tables of any size -/
def extOf (T : List Addr) (H : Hp) : Hp := fun b => if b ∈ T then some (.ext (TabE b)) else H b
def tabAt (h : Heap) (b : Addr) : Array Value := match h.get? b with
  | some o => (match o.data with
    | .fields rs => rs
    | _ => #[])
  | none => #[]
def tblOf (T : List Addr) (h : Heap) (H : Hp) : Hp := fun b => if b ∈ T then some (.tbl (tabAt h b)) else H b
/-- a promise that speaks of tables of any size, asked where they are empty -/
def spT (T : List Addr) (sp : Sp) : Sp := fun vs H Q E => (∀ b ∈ T, H b = some (.tbl #[])) ∧ sp vs (extOf T H) (fun v H' => (∀ b ∈ T, Tab H' b) ∧ ∀ H2, Q v H2) E
theorem ext_in {T : List Addr} {H : Hp} {b : Addr} (h : b ∈ T) : extOf T H b = some (.ext (TabE b)) := if_pos h
theorem ext_out {T : List Addr} {H : Hp} {b : Addr} (h : b ∉ T) : extOf T H b = H b := if_neg h
theorem tbl_in {T : List Addr} {g : Heap} {H : Hp} {b : Addr} (h : b ∈ T) : tblOf T g H b = some (.tbl (tabAt g b)) := if_pos h
theorem tbl_out {T : List Addr} {g : Heap} {H : Hp} {b : Addr} (h : b ∉ T) : tblOf T g H b = H b := if_neg h
theorem FnOk.tables {P : Program} {w : World} {K : PySem.W.Frag} {mg : Str → Option Value} {base : Heap} {k : Nat} {f : Addr} {fd : FuncData} {ps : List Str} {sp : Sp} {T : List Addr} (F : FnOk P w K mg base CX0 k f fd ps sp) : FnOk P w K mg base CX0 k f fd ps (spT T sp) := by
  refine ⟨fun vs H Q E h => F.len _ _ _ _ h.2, fun A outer s H args us vs Q E hr e0 hb hv ⟨hT, hs⟩ => ?_⟩
  have nT : ∀ b, H b = none → b ∉ T := fun b e hb => by
    rw [hT b hb] at e
    cases e
  have nT2 : ∀ b o, H b = some o → (∀ ps, o ≠ .tbl ps) → b ∉ T := fun b o e n hb => by
    rw [hT b hb] at e
    exact n #[] (Option.some.inj e).symm
  have e2 : Env0 P w K mg base A outer s (extOf T H) := by
    refine ⟨e0.frames, e0.mod, fun b o e => ⟨(e0.bs b o e).1, by rw [ext_out (nT b (e0.bs b o e).2)]; exact (e0.bs b o e).2⟩, e0.bsz, e0.funs, fun b hb => by rw [ext_out (nT b (e0.frf b hb))]; exact e0.frf b hb, fun b o e => ?_, e0.bare⟩
    by_cases hb : b ∈ T
    · rw [ext_in hb] at e
      cases e
      have q := e0.hok b _ (hT b hb)
      exact ⟨⟨#[], q, trivial⟩, ⟨_, q⟩, tabE_stable⟩
    · rw [ext_out hb] at e
      refine (e0.hok b o e).stay (fun c u _ q => q) (fun c q => ?_) (fun c xs q => ?_)
      · rw [ext_out (nT2 c _ q (fun ps z => by cases z))]
        exact q
      · rw [ext_out (nT2 c _ q (fun ps z => by cases z))]
        exact q
  refine codeAny_mono (F.run A outer s (extOf T H) args us vs _ E hr e2 hb hv hs) fun r s' hq => ?_
  cases r with
  | error e => exact hq
  | ok fl =>
    cases fl with
    | next => exact hq
    | brk => exact hq
    | cont => exact hq
    | ret u =>
      obtain ⟨v, H', os, bare, un, hok', r', hT', q⟩ := hq
      refine ⟨v, tblOf T s'.heap H', os, bare, ⟨fun b o e n => un.keep b o e (by rw [ext_out (nT b n)]; exact n), fun b o e n => un.slot b o e (by rw [ext_out (nT b n)]; exact n), fun b o e n hx => ?_, un.there, fun b xs e => ?_, fun b o u e => ?_, fun b ps e => ?_⟩, fun b o e => ?_, r', q _⟩
      · rw [tbl_out (nT b n)]
        exact un.free b o e (by rw [ext_out (nT b n)]; exact n) hx
      · have hb := nT2 b _ e (fun ps z => by cases z)
        rw [tbl_out hb]
        exact un.tups b xs (by rw [ext_out hb]; exact e)
      · have hb := nT2 b _ e (fun ps z => by cases z)
        rw [tbl_out hb]
        exact un.frzs b o u (by rw [ext_out hb]; exact e)
      · by_cases hb : b ∈ T
        · rw [hT b hb] at e
          cases e
          exact ⟨tabAt s'.heap b, by rw [tbl_in hb, Array.empty_append]⟩
        · rw [tbl_out hb]
          exact un.tbls b ps (by rw [ext_out hb]; exact e)
      · have inT : ∀ c, c ∈ T → ∃ rs : Array Value, s'.heap.get? c = some { cls := .none, data := .fields rs } := fun c hc => by
          obtain ⟨⟨rs, h1, _⟩, _⟩ := hok' c _ (hT' c hc)
          exact ⟨rs, h1⟩
        by_cases hb : b ∈ T
        · rw [tbl_in hb] at e
          cases e
          obtain ⟨rs, h1⟩ := inT b hb
          have e2 : tabAt s'.heap b = rs := by
            unfold tabAt
            rw [h1]
          show s'.heap.get? b = some { cls := .none, data := .fields (tabAt s'.heap b) }
          rw [e2]
          exact h1
        · rw [tbl_out hb] at e
          have nT3 : ∀ c o, H' c = some o → (∀ φ, o ≠ .ext φ) → c ∉ T := fun c o e n hc => by
            have z : H' c = some (.ext (TabE c)) := hT' c hc
            rw [e] at z
            exact n _ (Option.some.inj z)
          refine (hok' b o e).stay (fun c u _ q => q) (fun c q => ?_) (fun c xs q => ?_)
          · rw [tbl_out (nT3 c _ q (fun φ z => by cases z))]
            exact q
          · rw [tbl_out (nT3 c _ q (fun φ z => by cases z))]
            exact q
section
variable {P : Program} {w : World} {K : PySem.W.Frag} {mg : Str → Option Value} {base : Heap}
theorem fn_of0 {f c : Addr} {oc kV doc pm ct : Value} {od an : Option Addr} {osl : Array (Option Value)} {x : Str} {st : Stmt} {N ps : List Str} {k : Nat} {sp : Sp}
    (lk : K.lookup f = some ⟨oc, od, .func (PySem.W.fnOf x x (defArgs st) (defBody st) (defScope st) .none kV doc pm an (.ref c) ct), osl⟩) (hcd : PySem.W.codeIn K (.ref c) x = true) (S : FnScope N ps (defScope st)) (len : ∀ vs H Q E, sp vs H Q E → vs.length = ps.length)
    (hbody : ∀ (f : Addr) (A : Around) (outer : List Env) (s : Shared) (H : Hp) (vs : List V) (Q : VK) (E : XK), Room k (A.deeper (envOfC x (defScope st) s.heap.objs.size f (.ref c))) → sp vs H Q E →
      ∃ t, PSs (cxOf CX0 P w K mg base N x (defScope st) f (.ref c) A outer s H E).nox (defBody st) t ∧ t { nx := fun _ H' => Q .non H', rt := Q } (start N vs) H) :
    FnOk P w K mg base CX0 (k + 1) f (PySem.W.fnOf x x (defArgs st) (defBody st) (defScope st) .none kV doc pm an (.ref c) ct) ps sp :=
  fn_of lk hcd S len fun A outer s H vs Q E hr hsp => by
    obtain ⟨t, ht, q⟩ := hbody f A outer s H vs Q E hr hsp
    exact ⟨t, ht.nox, q⟩
end
end RS
set_option Elab.async false
set_option maxRecDepth 100000
set_option maxHeartbeats 8000000
set_option pp.maxSteps 400
namespace RS
open PySem PySem.Spec PyProof.Rows L2 GX
theorem tab_x8 {H H' : Hp} {B L p : Addr} (b : BoxAt H B L) (s : SameX B L H H') (h : Tab H p) : Tab H' p := by
  obtain ⟨_, ⟨st, hb⟩, ⟨ms, hl⟩⟩ := b
  have h' : H p = some (.ext (TabE p)) := h
  exact s _ _ (fun z => by rw [z, hb] at h'; cases h') (fun z => by rw [z, hl] at h'; cases h') h'
theorem known_nil (w : Nat) : Known w [] := fun _ _ h => nomatch h
theorem er_map {α β : Type} (f : α → β) : ∀ (l : List α) (k : Nat), (l.map f).eraseIdx k = (l.eraseIdx k).map f
  | [], _ => rfl
  | _ :: _, 0 => rfl
  | x :: l, k + 1 => by
    show f x :: (l.map f).eraseIdx k = f x :: (l.eraseIdx k).map f
    rw [er_map f l k]
theorem OkLens.perm {ls ms : List Nat} (h : OkLens ls) (p : ms.Perm ls) : OkLens ms := ⟨by rw [p.length_eq]; exact h.one, by rw [p.length_eq]; exact h.most, fun n hn => h.each n (p.mem_iff.mp hn)⟩
section
variable {P : Program} {w : World} {K : PySem.W.Frag} {mg : Str → Option Value} {base : Heap}
theorem scLaw8 : FnScope ["_law_script", "_law_box", "_law_turn", "_law_lengths_here", "_law_ways", "_law_found", "_law_left", "_law_turned", "_law_again", "_law_k"] ["_law_script"] (defScope sLaw) := ⟨rfl, rfl, rfl, by decide +kernel, rfl, by decide +kernel, by decide +kernel⟩
structure Parts8 (P : Program) (w : World) (K : PySem.W.Frag) (mg : Str → Option Value) (base : Heap) (pL : Addr) : Prop where
  begun : Cal P w K mg base CX0 1 "_law_begun" ["_law_script"] (spBegun K)
  take : Cal P w K mg base CX0 1 "_law_take" ["_law_box", "_law_many"] spTake
  lens : Cal P w K mg base CX0 2 "_law_lengths" ["_law_box", "_law_most"] spLens
  plan : Cal P w K mg base CX0 2 "_law_plan" ["_law_box", "_law_runs", "_law_ways"] (spLPlan K)
  cost : Cal P w K mg base CX0 83 "_law_cost" ["_law_lengths_here", "_law_plan_here"] (spLCost K 40)
  few : Cal P w K mg base CX0 15 "_law_fewest" ["_law_sizes", "_law_ways", "_law_known"] (spFew 6)
  pad : Cal P w K mg base CX0 1 "_law_padded" ["_law_lengths_here", "_law_ways"] (spPad K)
  right : Cal P w K mg base CX0 84 "_law_right" ["_law_lengths_here", "_law_ways"] (spRight8 K pL)
def spLaw8 (K : PySem.W.Frag) (pL : Addr) : Sp := fun vs H Q _ => ∃ (a : Addr) (ns : List Int), vs = [.ref a] ∧ SqL K H a (ns.map V.int) ∧ Tab H pL ∧ ∀ H', Tab H' pL → Q (.bl true) H'
theorem law8_fn {f c pL : Addr} {oc kV doc pm ct : Value} {od an : Option Addr} {osl : Array (Option Value)} (lk : K.lookup f = some ⟨oc, od, .func (PySem.W.fnOf "law" "law" (defArgs sLaw) (defBody sLaw) (defScope sLaw) .none kV doc pm an (.ref c) ct), osl⟩) (hcd : PySem.W.codeIn K (.ref c) "law" = true)
    (T : Txt K mg) (C : Parts8 P w K mg base pL) : FnOk P w K mg base CX0 85 f (PySem.W.fnOf "law" "law" (defArgs sLaw) (defBody sLaw) (defScope sLaw) .none kV doc pm an (.ref c) ct) ["_law_script"] (spLaw8 K pL) := by
  have sc := scLaw8
  refine fn_of0 lk hcd sc (fun vs H Q E h => ?_) (fun f A outer s H vs Q E hr h => ?_)
  · obtain ⟨a, ns, rfl, _⟩ := h
    rfl
  · obtain ⟨a, ns, rfl, hS, ht, k⟩ := h
    refine ⟨_, (pss_cons (ps_set (i := 1) sc.nd rfl (Or.inr rfl) (pe_c C.begun hr (by decide) (by rfl) pass0 (pa_cons (pv 0) pa_nil))) (pss_cons (ps_for PassesOwn.never rfl (pi_range1 (by rfl) T.range (pa_cons pe_int pa_nil)) (pg_name (i := 2) sc.nd rfl (Or.inl rfl)) (pss_cons (ps_set (i := 3) sc.nd rfl (Or.inl rfl) (pe_c C.lens hr (by decide) (by rfl) pass0 (pa_cons (pv 1) (pa_cons pe_int pa_nil)))) (pss_cons (ps_set (i := 4) sc.nd rfl (Or.inl rfl) (pe_op op_add pe_int (pe_c C.take hr (by decide) (by rfl) pass0 (pa_cons (pv 1) (pa_cons pe_int pa_nil))))) (pss_one (ps_if (pt_cmpR op_ne (pe_c C.right hr (by decide) (by rfl) pass0 (pa_cons (pv 3) (pa_cons (pv 4) pa_nil))) (pe_c C.few hr (by decide) (by rfl) pass0 (pa_cons (pv 3) (pa_cons (pv 4) (pa_cons pe_dnewT pa_nil)))) (nomark _)) (pss_one (ps_ret pe_bl)) pss_nil))))) (pss_cons (ps_for PassesOwn.never rfl (pi_range1 (by rfl) T.range (pa_cons pe_int pa_nil)) (pg_name (i := 2) sc.nd rfl (Or.inl rfl)) (pss_cons (ps_set (i := 3) sc.nd rfl (Or.inl rfl) (pe_c C.lens hr (by decide) (by rfl) pass0 (pa_cons (pv 1) (pa_cons pe_int pa_nil)))) (pss_cons (ps_set (i := 4) sc.nd rfl (Or.inl rfl) (pe_op op_add pe_int (pe_c C.take hr (by decide) (by rfl) pass0 (pa_cons (pv 1) (pa_cons pe_int pa_nil))))) (pss_cons (ps_set (i := 5) sc.nd rfl (Or.inl rfl) (pe_c C.right hr (by decide) (by rfl) pass0 (pa_cons (pv 3) (pa_cons (pv 4) pa_nil)))) (pss_cons (ps_if ((pw_or (pt_cmpR op_ne (pv 5) (pe_c C.pad hr (by decide) (by rfl) pass0 (pa_cons (pv 3) (pa_cons (pv 4) pa_nil))) (nomark _)) (pw_or1 (pw_and (pt_cmpR op_lt (pv 4) pe_int (nomark _)) (pw_and1 (pt_cmpR op_gt (pe_c C.right hr (by decide) (by rfl) pass0 (pa_cons (pv 3) (pa_cons (pe_op op_add (pv 4) pe_int) pa_nil))) (pv 5) (nomark _)))).pt)).pt) (pss_one (ps_ret pe_bl)) pss_nil) (pss_cons (ps_set (i := 6) sc.nd rfl (Or.inr rfl) (pe_callTy call_list_of (by rfl) T.list_ (by decide +kernel) (pa_cons (pv 3) pa_nil))) (pss_cons (ps_setLc (own := [("_law_k", 9)]) (tt := tYes) rfl sc.nd (i := 7) rfl rfl (by rfl) (pi_range1 (by rfl) T.range (pa_cons (pe_callB call_lenD (by rfl) T.len PySem.boot_len (pa_cons (pv 3) pa_nil)) pa_nil)) (blkOk_by (N := ["_law_script", "_law_box", "_law_turn", "_law_lengths_here", "_law_ways", "_law_found", "_law_left", "_law_turned", "_law_again", "_law_k"]) (sc := defScope sLaw) (own := [("_law_k", 9)]) (by decide +kernel)) (fun _ _ _ _ _ => (pg_name (i := 9) sc.nd rfl (Or.inl rfl))) (fun _ _ _ _ _ => pts_nil) (fun _ _ _ _ _ => (pe_bmC (K := K) rfl PySem.F.plainAttrs_list PySem.F.slot_list_pop PySem.F.type_list_pop mt_popAt (pv 6) (pa_cons (pe_c C.take hr (by decide) (by rfl) pass0 (pa_cons (pv 1) (pa_cons (pe_callB (len_seqC (K := K) rfl) (by rfl) T.len PySem.boot_len (pa_cons (pv 6) pa_nil)) pa_nil))) pa_nil)))) (pss_cons (ps_if (pt_cmpR op_ne (pe_c C.right hr (by decide) (by rfl) pass0 (pa_cons (pv 7) (pa_cons (pv 4) pa_nil))) (pv 5) (nomark _)) (pss_one (ps_ret pe_bl)) pss_nil) (pss_one (ps_for PassesOwn.never rfl (pi_range1 (by rfl) T.range (pa_cons pe_int pa_nil)) (pg_name (i := 8) sc.nd rfl (Or.inl rfl)) (pss_one (ps_if (pt_cmpR op_lt (pe_c C.cost hr (by decide) (by rfl) pass0 (pa_cons (pv 3) (pa_cons (pe_c C.plan hr (by decide) (by rfl) pass0 (pa_cons (pv 1) (pa_cons (pe_listRg rfl (by rfl) T.list_ (prg_1 (by rfl) T.range (pe_callB call_lenD (by rfl) T.len PySem.boot_len (pa_cons (pv 3) pa_nil)))) (pa_cons (pv 4) pa_nil)))) pa_nil))) (pv 5) (nomark _)) (pss_one (ps_ret pe_bl)) pss_nil)))))))))))) (pss_one (ps_ret pe_bl))))), ?_⟩
    refine ⟨_, rfl, a, ns, rfl, hS, fun H0 B L s0 _ _ bx0 => ?_⟩
    have ht0 : Tab H0 pL := s0 _ _ ht
    refine ⟨_, rfl, by decide, by decide, ?_⟩
    rw [show (2 : Int).toNat = 2 from rfl]
    refine for_range (fun i σ H' => ∃ v2 v3 v4 : Option V, σ = [some (.ref a), some (.ref B), v2, v3, v4, none, none, none, none, none] ∧ BoxAt H' B L ∧ Tab H' pL) ⟨none, none, none, rfl, bx0, ht0⟩ ?_ ?_
    · rintro i σ H1 hi ⟨v2, v3, v4, rfl, b1, t1⟩
      refine ⟨_, rfl, B, L, 6, rfl, b1, by decide, by decide, fun H2 la ls s2 b2 okl l6 fl hl => ?_⟩
      obtain ⟨nlB, nlL⟩ := b1.nb fl
      refine ⟨_, rfl, B, L, 5, rfl, b2, by decide, by decide, fun H3 x3 s3 b3 y0 y1 => ⟨_, _, rfl, rfl, ?_⟩⟩
      obtain ⟨xn, rfl⟩ : ∃ xn : Nat, x3 = (xn : Int) := ⟨x3.toNat, by omega⟩
      have hl3 := s3 _ _ nlB nlL hl
      have t3 := tab_x8 b2 s3 (tab_x8 b1 s2 t1)
      have e2 : (2 : Int) + (xn : Nat) = ((2 + xn : Nat) : Int) := by omega
      dsimp only
      rw [e2]
      have hd3 : Dp K H3 (.ref la) (lensD ls) := .lst (SqL.of hl3) (dpNats ls)
      refine ⟨_, rfl, _, rfl, .ref la, ls, 2 + xn, rfl, hd3, okl, by omega, by omega, t3, fun H4 c4 s4 g4 => ?_⟩
      have hl4 := s4 _ _ hl3
      refine ⟨_, rfl, _, rfl, fun D hD => ?_⟩
      have s5 := sameNew (o := .dT []) (Same.refl H4) hD
      have b5 := (b3.same s4).same s5
      refine ⟨la, D, ls, 2 + xn, [], rfl, s5 _ _ hl4, okl.one, l6, l6, by omega, by omega, upd_same, known_nil _, by decide +kernel, fun H6 c6 kv6 s6 hD6 _ _ lst => ?_⟩
      have ec : c4 = c6 := Nat.le_antisymm (K8.gr_le (by omega) g4 (.refl _) lst.1) (lst.2 _ (g4.mg (by omega)))
      subst ec
      refine ⟨rfl, _, rfl, iteF' (by simp) ?_⟩
      obtain ⟨nBL, ⟨st, hB5⟩, ⟨ms, hL5⟩⟩ := b5
      refine ⟨_, _, _, rfl, ⟨nBL, ⟨st, s6 _ _ (fun z => by rw [z, upd_same] at hB5; cases hB5) hB5⟩, ⟨ms, s6 _ _ (fun z => by rw [z, upd_same] at hL5; cases hL5) hL5⟩⟩, ?_⟩
      have t5 : Tab (upd H4 D (.dT [])) pL := s5 _ _ (s4 _ _ t3)
      have t5' : upd H4 D (.dT []) pL = some (.ext (TabE pL)) := t5
      exact s6 _ _ (fun z => by rw [z, upd_same] at t5'; cases t5') t5'
    · rintro σ H1 ⟨v2, v3, v4, rfl, b1, t1⟩
      refine ⟨_, rfl, by decide, by decide, ?_⟩
      rw [show (2 : Int).toNat = 2 from rfl]
      refine for_range (fun i σ H' => ∃ v2 v3 v4 v5 v6 v7 v8 : Option V, σ = [some (.ref a), some (.ref B), v2, v3, v4, v5, v6, v7, v8, none] ∧ BoxAt H' B L ∧ Tab H' pL) ⟨v2, v3, v4, none, none, none, none, rfl, b1, t1⟩ ?_ ?_
      · rintro i σ H1 hi ⟨v2, v3, v4, v5, v6, v7, v8, rfl, b1, t1⟩
        refine ⟨_, rfl, B, L, 40, rfl, b1, by decide, by decide, fun H2 la ls s2 b2 okl _ fl hl => ?_⟩
        obtain ⟨nlB, nlL⟩ := b1.nb fl
        refine ⟨_, rfl, B, L, 5, rfl, b2, by decide, by decide, fun H3 x3 s3 b3 y0 y1 => ⟨_, _, rfl, rfl, ?_⟩⟩
        obtain ⟨xn, rfl⟩ : ∃ xn : Nat, x3 = (xn : Int) := ⟨x3.toNat, by omega⟩
        have hl3 := s3 _ _ nlB nlL hl
        have t3 := tab_x8 b2 s3 (tab_x8 b1 s2 t1)
        have e2 : (2 : Int) + (xn : Nat) = ((2 + xn : Nat) : Int) := by omega
        dsimp only
        rw [e2]
        generalize hn : 2 + xn = n
        have n2 : 2 ≤ n := by omega
        have n6 : n ≤ 6 := by omega
        have o1 := okl.one
        have o2 := okl.most
        have hd3 : Dp K H3 (.ref la) (lensD ls) := .lst (SqL.of hl3) (dpNats ls)
        refine ⟨_, rfl, _, rfl, .ref la, ls, n, rfl, hd3, okl, n2, n6, t3, fun H4 c s4 g4 => ?_⟩
        have hd4 := dp_same s4 _ hd3
        have t4 : Tab H4 pL := s4 _ _ t3
        dsimp only [gName, tSeq, tIfS]
        refine cond_by false (fun H6 => Same H4 H6) (fun Q' next => ?_) (fun H6 s6 => ?_)
        · refine ⟨_, rfl, _, rfl, _, rfl, .ref la, ls, n, rfl, hd4, okl, n2, n6, fun H5 c5 N s5 pN gN => ?_⟩
          have ec : c = c5 := K8.gr_padded n2 g4 pN gN
          subst ec
          refine ⟨rfl, _, rfl, iteF' (by simp) ?_⟩
          refine ⟨_, rfl, _, _, rfl, rfl, _, rfl, ?_⟩
          by_cases h6 : n < 6
          · refine iteT' (decide_eq_true (by omega)) ?_
            refine ⟨_, rfl, _, rfl, _, _, rfl, rfl, .ref la, ls, n + 1, rfl, dp_same s5 _ hd4, okl, by omega, by omega, s5 _ _ t4, fun H6 c6 s6 g6 => ?_⟩
            have le : c6 ≤ c := K8.gr_wider n2 g4 (.refl _) g6
            refine ⟨_, rfl, _, _, rfl, rfl, _, rfl, ?_⟩
            have := next H6 (s5.trans s6)
            rw [show decide ((c : Int) < (c6 : Int)) = false from decide_eq_false (by omega)]
            exact this
          · exact iteF' (decide_eq_false (by omega)) (next H5 s5)
        have hl6 := s6 _ _ (s4 _ _ hl3)
        have b6 := (b3.same s4).same s6
        have t6 : Tab H6 pL := s6 _ _ t4
        refine iteF ⟨_, rfl, la, _, rfl, .inl (SqL.of hl6), fun Lf hLf => ?_⟩
        obtain ⟨s7, b7, nfB, nfL⟩ := alX (o := .lst (ls.map fun n => V.int (n : Nat))) SameX.refl b6 b6 hLf
        have hLf7 : upd H6 Lf (.lst (ls.map fun n => V.int (n : Nat))) Lf = some (.lst (ls.map fun n => V.int (n : Nat))) := upd_same
        have hl7 : upd H6 Lf (.lst (ls.map fun n => V.int (n : Nat))) la = some (.lst (ls.map fun n => V.int (n : Nat))) := sameNew (Same.refl H6) hLf _ _ hl6
        generalize upd H6 Lf (.lst (ls.map fun n => V.int (n : Nat))) = H7 at s7 b7 hLf7 hl7 ⊢
        have hd7 : Dp K H7 (.ref la) (lensD ls) := .lst (SqL.of hl7) (dpNats ls)
        refine ⟨_, rfl, _, _, _, rfl, hd7, rfl, _, rfl, by omega, by rw [List.length_map]; omega, fun DD hDD => ?_⟩
        rw [List.length_map, Int.toNat_natCast]
        obtain ⟨s8, b8, nDB, nDL⟩ := alX (o := .lst []) s7 b6 b7 hDD
        have hD0 := s7.free b6 hDD b7
        have nLD : Lf ≠ DD := fun z => by rw [← z, hLf7] at hDD; cases hDD
        refine lc_range (fun j H' => SameX B L H6 H' ∧ BoxAt H' B L ∧ ∃ dl el : List Nat, H' Lf = some (.lst (dl.map fun n => V.int (n : Nat))) ∧ H' DD = some (.lst (el.map fun n => V.int (n : Nat))) ∧ el.length = j ∧ dl.length + j = ls.length ∧ (dl ++ el).Perm ls)
          ⟨s8, b8, ls, [], (upd_ne nLD).trans hLf7, upd_same, rfl, rfl, by rw [List.append_nil]⟩ ?_ ?_
        · rintro j H3 hj ⟨s4, b4, dl, el, hl, hDe, lel, ldl, pme⟩
          have lm : (dl.map fun n => V.int (n : Nat)).length = dl.length := List.length_map _
          refine ⟨rfl, _, rfl, .inl ⟨rfl, _, SqL.of hl⟩, _, rfl, _, rfl, Lf, _, rfl, .inl (SqL.of hl), B, L, _, rfl, b4, by omega, by omega, fun H9 kx s9 b9 g0 g1 => ?_⟩
          obtain ⟨kn, rfl⟩ : ∃ kn : Nat, kx = (kn : Int) := ⟨kx.toNat, by omega⟩
          have hkd : kn < dl.length := by omega
          have hl9 := s9 _ _ nfB nfL hl
          have hDe9 := s9 _ _ nDB nDL hDe
          have pe := perm_erase (List.getElem?_eq_getElem hkd)
          have lE := pe.length_eq
          rw [List.length_cons] at lE
          refine ⟨Lf, _, (kn : Int), kn, .int (dl[kn] : Nat), rfl, rfl, hl9, by omega, by omega, seqIx (by omega), by rw [List.getElem?_map, List.getElem?_eq_getElem hkd]; rfl, ?_⟩
          refine ⟨_, (upd_ne (Ne.symm nLD)).trans hDe9, small1000 (by rw [List.length_map]; omega), ((s4.trans s9).new hLf).new hD0, (b9.upd_ nfB nfL).upd_ nDB nDL, dl.eraseIdx kn, el ++ [dl[kn]], (upd_ne nLD).trans (upd_same.trans (by rw [er_map])), ?_, by rw [List.length_append, lel]; rfl, by omega, ?_⟩
          · rw [upd_same, List.map_append]
            rfl
          · refine List.Perm.trans ?_ pme
            have : (dl.eraseIdx kn ++ (el ++ [dl[kn]])).Perm (dl[kn] :: dl.eraseIdx kn ++ el) := by
              rw [← List.append_assoc]
              exact List.perm_append_comm (l₂ := [dl[kn]])
            exact this.trans (pe.symm.append_right el)
        · rintro H8 ⟨s8, b8, dl, el, hl, hDe, lel, ldl, pme⟩
          have : dl = [] := List.eq_nil_of_length_eq_zero (by omega)
          subst this
          rw [List.nil_append] at pme
          have okE := okl.perm pme
          have hdE : Dp K H8 (.ref DD) (lensD el) := .lst (SqL.of hDe) (dpNats el)
          have t8 := tab_x8 b6 s8 t6
          have nlaB : la ≠ B := nlB
          have hl8 := s8 _ _ nlB nlL hl6
          refine ⟨_, rfl, _, rfl, .ref DD, el, n, rfl, hdE, okE, n2, n6, t8, fun H9 c9 s9 g9 => ?_⟩
          have ec : c = c9 := K8.gr_uniq n2 g4 pme.symm g9
          subst ec
          refine ⟨_, rfl, rfl, _, rfl, iteF' (by simp) ?_⟩
          have b9 := b8.same s9
          have t9 : Tab H9 pL := s9 _ _ t8
          have hl9 := s9 _ _ hl8
          refine ⟨_, rfl, by decide, by decide, ?_⟩
          rw [show (4 : Int).toNat = 4 from rfl]
          refine for_range (fun j σ H' => ∃ v8 : Option V, σ = [some (.ref a), some (.ref B), some (.int (0 + (i : Nat))), some (.ref la), some (.int (n : Nat)), some (.int (c : Nat)), some (.ref Lf), some (.ref DD), v8, none] ∧ SameX B L H9 H' ∧ BoxAt H' B L) ⟨_, rfl, SameX.refl, b9⟩ ?_ ?_
          · rintro j σ H10 hj ⟨v8, rfl, s10, b10⟩
            have hl10 := s10 _ _ nlB nlL hl9
            have hd10 : Dp K H10 (.ref la) (lensD ls) := .lst (SqL.of hl10) (dpNats ls)
            refine ⟨_, rfl, _, rfl, _, rfl, .ref la, _, _, rfl, hd10, rfl, _, rfl, .of_le (by decide) (by rw [List.length_map]; omega) (by decide) (by rw [List.length_map]; omega), fun R hR => ?_⟩
            obtain ⟨s11, b11, _, _⟩ := alX (o := .lst (rgV 0 ((ls.map fun n => PyData.int (n : Nat)).length : Nat))) SameX.refl b10 b10 hR
            have nlR : la ≠ R := fun z => by rw [← z, hl10] at hR; cases hR
            refine ⟨_, rfl, B, L, R, ls.length, n, rfl, b11, n2, n6, o1, o2, by rw [upd_same]; simp [rgV], fun H12 v12 d s12 b12 hv okp => ?_⟩
            have hl12 := s12 _ _ nlB nlL ((upd_ne nlR).trans hl10)
            have ll : (leaf d).length ≤ 40 := by rw [okp.all.length_eq, List.length_range]; exact o2
            have dd := okp.depth
            have hd12 : Dp K H12 (.ref la) (lensD ls) := .lst (SqL.of hl12) (dpNats ls)
            refine ⟨.ref la, v12, ls, d, n, rfl, hd12, hv, okp.ok, n6, ll, fun j hj => List.mem_range.mp (okp.all.mem_iff.mp hj), by omega, fun H13 s13 => ?_⟩
            have lb := plan_lb n2 okp g4
            refine ⟨_, rfl, _, _, rfl, rfl, _, rfl, iteF' (decide_eq_false (by omega)) ?_⟩
            exact ⟨_, rfl, ((s10.trans s11).trans s12).trans (SameX.of s13), b12.same s13⟩
          · rintro σ H10 ⟨v8, rfl, s10, b10⟩
            exact ⟨_, _, _, _, _, _, _, rfl, b10, tab_x8 b9 s10 t9⟩
      · rintro σ H2 ⟨v2, v3, v4, v5, v6, v7, v8, rfl, b2, t2⟩
        exact k H2 t2
end
end RS
set_option Elab.async false
set_option maxRecDepth 100000
set_option maxHeartbeats 4000000
namespace RS
open PySem PySem.Spec PyProof.Rows L2 GX
/-- the end: the tables of the defs are empty at the law's entry -/
theorem walk_tabs {l : PySem.W.OpenLaw} {n k : Nat} {q : Program} {loose : List Str} {XP : (Str → Option Value) → Heap → Prop} {YP : World → Heap → Prop} {d : DefRec} {K : Params → PySem.W.Frag} {x : Str}
    (hn : l.most = some n) (hn2 : n ≤ sizeLine) (hdf : d.params.defaults = []) (hr : Room k callerA) (hY : ∀ (w : World) (h : Heap), YP w h → (K w.params).In h)
    (F : ∀ (w : World) (mg : Str → Option Value) (fa : Addr) (h : Heap), (K w.params).In h → h.Ns mainGlobals mg → mg d.name = some (.ref fa) →
      (∀ (y : Str) (d' : DefRec) (c P : Addr), (recsOf q).find? (fun e => e.name == y) = some d' → PySem.W.tabIn (K w.params) y = some (c, P) → PySem.W.CodeHd h c P ∧ h.get? P = some { cls := .none, data := .fields #[] }) →
      LamX.LawAtS l w (K w.params) CX0 k n x mg fa h) :
    PySem.W.WalkO q loose XP YP l.row.toRowW d [] (fun f vs => PySem.call f vs) := by
  refine Att.attach_callB hn hdf fun w s₀ s₁ mg mb fa o pm cd doc a vs ns G Y ho hd hcd hmg hobj hints hlen hbits hg => ?_
  have KX := hY w _ Y
  obtain ⟨fd, cs, sp, hT, nT, C, hb, hsp, hF⟩ := F w mg fa _ KX G.T.g hmg fun y d' c P e1 e2 => PySem.W.tab_of G.T KX e1 e2
  exact LamX.law_callTs KX G.T.g G.T.b G.T.builtins G.T.nolimit hg hT nT C G.T.bmain hobj hints (Nat.le_trans hlen hn2) hr hF hb (fun H hH hS => hsp H a ns hlen hbits hH hS) fun H e s' z => z
end RS
set_option Elab.async false
set_option maxRecDepth 100000
set_option maxHeartbeats 8000000
namespace RS
open PySem PySem.Spec PyProof.Rows L2 GX
theorem def_at {K : PySem.W.Frag} {h : Heap} {mg : Str → Option Value} {x : Str} {st : Stmt} {f c : Addr} {oc kV doc pm ct : Value} {od an : Option Addr} {osl : Array (Option Value)} (X : K.In h) (G : h.Ns mainGlobals mg) (a : PySem.W.nsIn K mainGlobals x = some (some (.ref f)))
    (l : K.lookup f = some ⟨oc, od, .func (PySem.W.fnOf x x (defArgs st) (defBody st) (defScope st) .none kV doc pm an (.ref c) ct), osl⟩) (e : PySem.W.codeIn K (.ref c) x = true) (k : PySem.W.keepIn K (.ref f) = true) : DefAt K mg x st c :=
  ⟨f, oc, od, kV, doc, pm, an, ct, osl, PySem.W.mg_of X G a, l, e, k⟩
theorem two_in {K : PySem.W.Frag} {a : Addr} {x y : Str} {t u : Tok} {od : Option Addr} {n : Nat} {sl : Array (Option Value)} (h : K.lookup a = some ⟨.type "tuple", od, .seq #[.str x t, .str y u] n, sl⟩) : ∀ H, SqT K H a [.str x, .str y] :=
  fun _ => .inr ⟨_, #[.str x t, .str y u], n, h, rfl, rfl, by show 2 ≤ sizeLine; decide, .cons ⟨t, rfl⟩ (.cons ⟨u, rfl⟩ .nil)⟩
theorem tabB_of {base : Heap} {mg : Str → Option Value} {c P : Addr} (h : LamX.TabB base mg c P) : GxR.TabB base mg c P := ⟨h.code, h.bm, h.gP⟩
theorem tab_in {K : PySem.W.Frag} {x : Str} {st : Stmt} {f c P : Addr} {oc kV doc pm ct e : Value} {od an dd : Option Addr} {osl sl : Array (Option Value)} {vs : Array Value} (a : PySem.W.nsIn K mainGlobals x = some (some (.ref f)))
    (l : K.lookup f = some ⟨oc, od, .func (PySem.W.fnOf x x (defArgs st) (defBody st) (defScope st) .none kV doc pm an (.ref c) ct), osl⟩) (h1 : K.lookup c = some ⟨e, dd, .fields vs, sl⟩) (h2 : vs[11]? = some (.ref P)) : PySem.W.tabIn K x = some (c, P) := by
  unfold PySem.W.tabIn
  rw [a]
  dsimp only
  rw [l]
  show (match K.lookup c with
    | some ⟨_, _, .fields vs, _⟩ => (match (vs[11]? : Option Value) with
      | some (.ref P) => some (c, P)
      | _ => none)
    | _ => none) = some (c, P)
  rw [h1]
  dsimp only
  rw [h2]
theorem all_mk {l : PySem.W.OpenLaw} {w : World} {K : PySem.W.Frag} {h : Heap} {mg : Str → Option Value} {fa pL : Addr} {q : Program} {dL : DefRec} {eL : Value} {ddL : Option Addr} {vsL : Array Value} {stL : Array (Option Value)} (tabs : ∀ (y : Str) (d' : DefRec) (c P : Addr), (recsOf q).find? (fun e => e.name == y) = some d' → PySem.W.tabIn K y = some (c, P) → PySem.W.CodeHd h c P ∧ h.get? P = some { cls := .none, data := .fields #[] }) (X : K.In h) (G : h.Ns mainGlobals mg) (hfa : mg "law" = some (.ref fa))
    {f0 c0 : Addr} {oc0 kV0 dc0 pm0 ct0 : Value} {od0 an0 : Option Addr} {sl0 : Array (Option Value)}
    {f1 c1 : Addr} {oc1 kV1 dc1 pm1 ct1 : Value} {od1 an1 : Option Addr} {sl1 : Array (Option Value)}
    {f2 c2 : Addr} {oc2 kV2 dc2 pm2 ct2 : Value} {od2 an2 : Option Addr} {sl2 : Array (Option Value)}
    {f3 c3 : Addr} {oc3 kV3 dc3 pm3 ct3 : Value} {od3 an3 : Option Addr} {sl3 : Array (Option Value)}
    {f4 c4 : Addr} {oc4 kV4 dc4 pm4 ct4 : Value} {od4 an4 : Option Addr} {sl4 : Array (Option Value)}
    {f5 c5 : Addr} {oc5 kV5 dc5 pm5 ct5 : Value} {od5 an5 : Option Addr} {sl5 : Array (Option Value)}
    {f6 c6 : Addr} {oc6 kV6 dc6 pm6 ct6 : Value} {od6 an6 : Option Addr} {sl6 : Array (Option Value)}
    {f7 c7 : Addr} {oc7 kV7 dc7 pm7 ct7 : Value} {od7 an7 : Option Addr} {sl7 : Array (Option Value)}
    {f8 c8 : Addr} {oc8 kV8 dc8 pm8 ct8 : Value} {od8 an8 : Option Addr} {sl8 : Array (Option Value)}
    {f9 c9 : Addr} {oc9 kV9 dc9 pm9 ct9 : Value} {od9 an9 : Option Addr} {sl9 : Array (Option Value)}
    {f10 c10 : Addr} {oc10 kV10 dc10 pm10 ct10 : Value} {od10 an10 : Option Addr} {sl10 : Array (Option Value)}
    {f11 c11 : Addr} {oc11 kV11 dc11 pm11 ct11 : Value} {od11 an11 : Option Addr} {sl11 : Array (Option Value)}
    {f12 c12 : Addr} {oc12 kV12 dc12 pm12 ct12 : Value} {od12 an12 : Option Addr} {sl12 : Array (Option Value)}
    {f13 c13 : Addr} {oc13 kV13 dc13 pm13 ct13 : Value} {od13 an13 : Option Addr} {sl13 : Array (Option Value)}
    {f14 c14 : Addr} {oc14 kV14 dc14 pm14 ct14 : Value} {od14 an14 : Option Addr} {sl14 : Array (Option Value)}
    {f15 c15 : Addr} {oc15 kV15 dc15 pm15 ct15 : Value} {od15 an15 : Option Addr} {sl15 : Array (Option Value)}
    {f16 c16 : Addr} {oc16 kV16 dc16 pm16 ct16 : Value} {od16 an16 : Option Addr} {sl16 : Array (Option Value)}
    {f17 c17 : Addr} {oc17 kV17 dc17 pm17 ct17 : Value} {od17 an17 : Option Addr} {sl17 : Array (Option Value)}
    {f18 c18 : Addr} {oc18 kV18 dc18 pm18 ct18 : Value} {od18 an18 : Option Addr} {sl18 : Array (Option Value)}
    {f19 c19 : Addr} {oc19 kV19 dc19 pm19 ct19 : Value} {od19 an19 : Option Addr} {sl19 : Array (Option Value)}
    {f20 c20 : Addr} {oc20 kV20 dc20 pm20 ct20 : Value} {od20 an20 : Option Addr} {sl20 : Array (Option Value)}
    {t1 t2 t3 t4 : Tok}
    (a0 : PySem.W.nsIn K mainGlobals "is_number" = some (some (.ref f0))) (l0 : K.lookup f0 = some ⟨oc0, od0, .func (PySem.W.fnOf "is_number" "is_number" (defArgs sIsNumber) (defBody sIsNumber) (defScope sIsNumber) .none kV0 dc0 pm0 an0 (.ref c0) ct0), sl0⟩) (e0 : PySem.W.codeIn K (.ref c0) "is_number" = true) (k0 : PySem.W.keepIn K (.ref f0) = true)
    (a1 : PySem.W.nsIn K mainGlobals "check_lengths" = some (some (.ref f1))) (l1 : K.lookup f1 = some ⟨oc1, od1, .func (PySem.W.fnOf "check_lengths" "check_lengths" (defArgs s_check_lengths) (defBody s_check_lengths) (defScope s_check_lengths) .none kV1 dc1 pm1 an1 (.ref c1) ct1), sl1⟩) (e1 : PySem.W.codeIn K (.ref c1) "check_lengths" = true) (k1 : PySem.W.keepIn K (.ref f1) = true)
    (a2 : PySem.W.nsIn K mainGlobals "check_ways" = some (some (.ref f2))) (l2 : K.lookup f2 = some ⟨oc2, od2, .func (PySem.W.fnOf "check_ways" "check_ways" (defArgs s_check_ways) (defBody s_check_ways) (defScope s_check_ways) .none kV2 dc2 pm2 an2 (.ref c2) ct2), sl2⟩) (e2 : PySem.W.codeIn K (.ref c2) "check_ways" = true) (k2 : PySem.W.keepIn K (.ref f2) = true)
    (a3 : PySem.W.nsIn K mainGlobals "check_plan" = some (some (.ref f3))) (l3 : K.lookup f3 = some ⟨oc3, od3, .func (PySem.W.fnOf "check_plan" "check_plan" (defArgs s_check_plan) (defBody s_check_plan) (defScope s_check_plan) .none kV3 dc3 pm3 an3 (.ref c3) ct3), sl3⟩) (e3 : PySem.W.codeIn K (.ref c3) "check_plan" = true) (k3 : PySem.W.keepIn K (.ref f3) = true)
    (a4 : PySem.W.nsIn K mainGlobals "check_merging" = some (some (.ref f4))) (l4 : K.lookup f4 = some ⟨oc4, od4, .func (PySem.W.fnOf "check_merging" "check_merging" (defArgs s_check_merging) (defBody s_check_merging) (defScope s_check_merging) .none kV4 dc4 pm4 an4 (.ref c4) ct4), sl4⟩) (e4 : PySem.W.codeIn K (.ref c4) "check_merging" = true) (k4 : PySem.W.keepIn K (.ref f4) = true)
    (a5 : PySem.W.nsIn K mainGlobals "how_many" = some (some (.ref f5))) (l5 : K.lookup f5 = some ⟨oc5, od5, .func (PySem.W.fnOf "how_many" "how_many" (defArgs s_how_many) (defBody s_how_many) (defScope s_how_many) .none kV5 dc5 pm5 an5 (.ref c5) ct5), sl5⟩) (e5 : PySem.W.codeIn K (.ref c5) "how_many" = true) (k5 : PySem.W.keepIn K (.ref f5) = true)
    (a6 : PySem.W.nsIn K mainGlobals "cost" = some (some (.ref f6))) (l6 : K.lookup f6 = some ⟨oc6, od6, .func (PySem.W.fnOf "cost" "cost" (defArgs s_cost) (defBody s_cost) (defScope s_cost) .none kV6 dc6 pm6 an6 (.ref c6) ct6), sl6⟩) (e6 : PySem.W.codeIn K (.ref c6) "cost" = true) (k6 : PySem.W.keepIn K (.ref f6) = true)
    (a7 : PySem.W.nsIn K mainGlobals "cheapest" = some (some (.ref f7))) (l7 : K.lookup f7 = some ⟨oc7, od7, .func (PySem.W.fnOf "cheapest" "cheapest" (defArgs s_cheapest) (defBody s_cheapest) (defScope s_cheapest) .none kV7 dc7 pm7 an7 (.ref c7) ct7), sl7⟩) (e7 : PySem.W.codeIn K (.ref c7) "cheapest" = true) (k7 : PySem.W.keepIn K (.ref f7) = true)
    (a8 : PySem.W.nsIn K mainGlobals "_law_begun" = some (some (.ref f8))) (l8 : K.lookup f8 = some ⟨oc8, od8, .func (PySem.W.fnOf "_law_begun" "_law_begun" (defArgs sBegun) (defBody sBegun) (defScope sBegun) .none kV8 dc8 pm8 an8 (.ref c8) ct8), sl8⟩) (e8 : PySem.W.codeIn K (.ref c8) "_law_begun" = true) (k8 : PySem.W.keepIn K (.ref f8) = true)
    (a9 : PySem.W.nsIn K mainGlobals "_law_take" = some (some (.ref f9))) (l9 : K.lookup f9 = some ⟨oc9, od9, .func (PySem.W.fnOf "_law_take" "_law_take" (defArgs sTake) (defBody sTake) (defScope sTake) .none kV9 dc9 pm9 an9 (.ref c9) ct9), sl9⟩) (e9 : PySem.W.codeIn K (.ref c9) "_law_take" = true) (k9 : PySem.W.keepIn K (.ref f9) = true)
    (a10 : PySem.W.nsIn K mainGlobals "_law_alike" = some (some (.ref f10))) (l10 : K.lookup f10 = some ⟨oc10, od10, .func (PySem.W.fnOf "_law_alike" "_law_alike" (defArgs sAlike) (defBody sAlike) (defScope sAlike) .none kV10 dc10 pm10 an10 (.ref c10) ct10), sl10⟩) (e10 : PySem.W.codeIn K (.ref c10) "_law_alike" = true) (k10 : PySem.W.keepIn K (.ref f10) = true)
    (a11 : PySem.W.nsIn K mainGlobals "_law_lengths" = some (some (.ref f11))) (l11 : K.lookup f11 = some ⟨oc11, od11, .func (PySem.W.fnOf "_law_lengths" "_law_lengths" (defArgs s__law_lengths) (defBody s__law_lengths) (defScope s__law_lengths) .none kV11 dc11 pm11 an11 (.ref c11) ct11), sl11⟩) (e11 : PySem.W.codeIn K (.ref c11) "_law_lengths" = true) (k11 : PySem.W.keepIn K (.ref f11) = true)
    (a12 : PySem.W.nsIn K mainGlobals "_law_plan" = some (some (.ref f12))) (l12 : K.lookup f12 = some ⟨oc12, od12, .func (PySem.W.fnOf "_law_plan" "_law_plan" (defArgs s__law_plan) (defBody s__law_plan) (defScope s__law_plan) .none kV12 dc12 pm12 an12 (.ref c12) ct12), sl12⟩) (e12 : PySem.W.codeIn K (.ref c12) "_law_plan" = true) (k12 : PySem.W.keepIn K (.ref f12) = true)
    (a13 : PySem.W.nsIn K mainGlobals "_law_in" = some (some (.ref f13))) (l13 : K.lookup f13 = some ⟨oc13, od13, .func (PySem.W.fnOf "_law_in" "_law_in" (defArgs s__law_in) (defBody s__law_in) (defScope s__law_in) .none kV13 dc13 pm13 an13 (.ref c13) ct13), sl13⟩) (e13 : PySem.W.codeIn K (.ref c13) "_law_in" = true) (k13 : PySem.W.keepIn K (.ref f13) = true)
    (a14 : PySem.W.nsIn K mainGlobals "_law_cost" = some (some (.ref f14))) (l14 : K.lookup f14 = some ⟨oc14, od14, .func (PySem.W.fnOf "_law_cost" "_law_cost" (defArgs s__law_cost) (defBody s__law_cost) (defScope s__law_cost) .none kV14 dc14 pm14 an14 (.ref c14) ct14), sl14⟩) (e14 : PySem.W.codeIn K (.ref c14) "_law_cost" = true) (k14 : PySem.W.keepIn K (.ref f14) = true)
    (a15 : PySem.W.nsIn K mainGlobals "_law_fits" = some (some (.ref f15))) (l15 : K.lookup f15 = some ⟨oc15, od15, .func (PySem.W.fnOf "_law_fits" "_law_fits" (defArgs s__law_fits) (defBody s__law_fits) (defScope s__law_fits) .none kV15 dc15 pm15 an15 (.ref c15) ct15), sl15⟩) (e15 : PySem.W.codeIn K (.ref c15) "_law_fits" = true) (k15 : PySem.W.keepIn K (.ref f15) = true)
    (a16 : PySem.W.nsIn K mainGlobals "_law_choices" = some (some (.ref f16))) (l16 : K.lookup f16 = some ⟨oc16, od16, .func (PySem.W.fnOf "_law_choices" "_law_choices" (defArgs s__law_choices) (defBody s__law_choices) (defScope s__law_choices) .none kV16 dc16 pm16 an16 (.ref c16) ct16), sl16⟩) (e16 : PySem.W.codeIn K (.ref c16) "_law_choices" = true) (k16 : PySem.W.keepIn K (.ref f16) = true)
    (a17 : PySem.W.nsIn K mainGlobals "_law_fewest" = some (some (.ref f17))) (l17 : K.lookup f17 = some ⟨oc17, od17, .func (PySem.W.fnOf "_law_fewest" "_law_fewest" (defArgs s__law_fewest) (defBody s__law_fewest) (defScope s__law_fewest) .none kV17 dc17 pm17 an17 (.ref c17) ct17), sl17⟩) (e17 : PySem.W.codeIn K (.ref c17) "_law_fewest" = true) (k17 : PySem.W.keepIn K (.ref f17) = true)
    (a18 : PySem.W.nsIn K mainGlobals "_law_padded" = some (some (.ref f18))) (l18 : K.lookup f18 = some ⟨oc18, od18, .func (PySem.W.fnOf "_law_padded" "_law_padded" (defArgs s__law_padded) (defBody s__law_padded) (defScope s__law_padded) .none kV18 dc18 pm18 an18 (.ref c18) ct18), sl18⟩) (e18 : PySem.W.codeIn K (.ref c18) "_law_padded" = true) (k18 : PySem.W.keepIn K (.ref f18) = true)
    (a19 : PySem.W.nsIn K mainGlobals "_law_right" = some (some (.ref f19))) (l19 : K.lookup f19 = some ⟨oc19, od19, .func (PySem.W.fnOf "_law_right" "_law_right" (defArgs sRight) (defBody sRight) (defScope sRight) .none kV19 dc19 pm19 an19 (.ref c19) ct19), sl19⟩) (e19 : PySem.W.codeIn K (.ref c19) "_law_right" = true) (k19 : PySem.W.keepIn K (.ref f19) = true)
    (a20 : PySem.W.nsIn K mainGlobals "law" = some (some (.ref f20))) (l20 : K.lookup f20 = some ⟨oc20, od20, .func (PySem.W.fnOf "law" "law" (defArgs sLaw) (defBody sLaw) (defScope sLaw) .none kV20 dc20 pm20 an20 (.ref c20) ct20), sl20⟩) (e20 : PySem.W.codeIn K (.ref c20) "law" = true) (k20 : PySem.W.keepIn K (.ref f20) = true)
    (z0 : PySem.W.nsIn K mainGlobals "isinstance" = some none)
    (z1 : PySem.W.nsIn K mainGlobals "int" = some none)
    (z2 : PySem.W.nsIn K mainGlobals "bool" = some none)
    (z3 : PySem.W.nsIn K mainGlobals "str" = some none)
    (z4 : PySem.W.nsIn K mainGlobals "list" = some none)
    (z5 : PySem.W.nsIn K mainGlobals "tuple" = some none)
    (z6 : PySem.W.nsIn K mainGlobals "len" = some none)
    (z7 : PySem.W.nsIn K mainGlobals "all" = some none)
    (z8 : PySem.W.nsIn K mainGlobals "zip" = some none)
    (z9 : PySem.W.nsIn K mainGlobals "enumerate" = some none)
    (z10 : PySem.W.nsIn K mainGlobals "ord" = some none)
    (z11 : PySem.W.nsIn K mainGlobals "range" = some none)
    (z12 : PySem.W.nsIn K mainGlobals "sorted" = some none)
    (z13 : PySem.W.nsIn K mainGlobals "max" = some none)
    (z14 : PySem.W.nsIn K mainGlobals "min" = some none)
    (y0 : PySem.W.nsIn K mainGlobals "MOST_LENGTHS" = some (some (.int 40 t1)))
    (y1 : PySem.W.nsIn K mainGlobals "MOST_LENGTH" = some (some (.int 1000000 t2)))
    (y2 : PySem.W.nsIn K mainGlobals "LEAST_WAYS" = some (some (.int 2 t3)))
    (y3 : PySem.W.nsIn K mainGlobals "MOST_WAYS" = some (some (.int 6 t4)))
    (q0 : PySem.W.nsIn K mainGlobals "heapify" = some (some (.builtin "_heapq.heapify")))
    (q1 : PySem.W.nsIn K mainGlobals "heappush" = some (some (.builtin "_heapq.heappush")))
    (q2 : PySem.W.nsIn K mainGlobals "heappop" = some (some (.builtin "_heapq.heappop")))
    (zzsum : PySem.W.nsIn K mainGlobals "sum" = some none)
    (rL : (recsOf q).find? (fun e => e.name == ("check_lengths" : Str)) = some dL) (hL : K.lookup c1 = some ⟨eL, ddL, .fields vsL, stL⟩) (iL : vsL[11]? = some (.ref pL)) (nL' : K.lookup pL = none)
    : LamX.LawAtS l w K CX0 85 63 "_law_script" mg fa h := by
  have efa := hfa.symm.trans (PySem.W.mg_of X G a20)
  cases efa
  have gL := tabs "check_lengths" dL c1 pL rL (tab_in (st := s_check_lengths) a1 l1 hL iL)
  have T : Txt K mg := ⟨PySem.W.mg_none_of X G z0, PySem.W.mg_none_of X G z1, PySem.W.mg_none_of X G z2, PySem.W.mg_none_of X G z3, PySem.W.mg_none_of X G z4, PySem.W.mg_none_of X G z5, PySem.W.mg_none_of X G z6, PySem.W.mg_none_of X G z7, PySem.W.mg_none_of X G z8, PySem.W.mg_none_of X G z9, PySem.W.mg_none_of X G z10, PySem.W.mg_none_of X G z11, PySem.W.mg_none_of X G z12, PySem.W.mg_none_of X G z13, PySem.W.mg_none_of X G z14, ⟨t1, PySem.W.mg_of X G y0⟩, ⟨t2, PySem.W.mg_of X G y1⟩, ⟨t3, PySem.W.mg_of X G y2⟩, ⟨t4, PySem.W.mg_of X G y3⟩⟩
  have TH : TxtH mg := ⟨PySem.W.mg_of X G q0, PySem.W.mg_of X G q1, PySem.W.mg_of X G q2, T.min⟩
  have Zsum : mg "sum" = none := PySem.W.mg_none_of X G zzsum
  have D0 := def_at (st := sIsNumber) X G a0 l0 e0 k0
  have D1 := def_at (st := s_check_lengths) X G a1 l1 e1 k1
  have D2 := def_at (st := s_check_ways) X G a2 l2 e2 k2
  have D3 := def_at (st := s_check_plan) X G a3 l3 e3 k3
  have D4 := def_at (st := s_check_merging) X G a4 l4 e4 k4
  have D5 := def_at (st := s_how_many) X G a5 l5 e5 k5
  have D6 := def_at (st := s_cost) X G a6 l6 e6 k6
  have D7 := def_at (st := s_cheapest) X G a7 l7 e7 k7
  have D8 := def_at (st := sBegun) X G a8 l8 e8 k8
  have D9 := def_at (st := sTake) X G a9 l9 e9 k9
  have D10 := def_at (st := sAlike) X G a10 l10 e10 k10
  have D11 := def_at (st := s__law_lengths) X G a11 l11 e11 k11
  have D12 := def_at (st := s__law_plan) X G a12 l12 e12 k12
  have D13 := def_at (st := s__law_in) X G a13 l13 e13 k13
  have D14 := def_at (st := s__law_cost) X G a14 l14 e14 k14
  have D15 := def_at (st := s__law_fits) X G a15 l15 e15 k15
  have D16 := def_at (st := s__law_choices) X G a16 l16 e16 k16
  have D17 := def_at (st := s__law_fewest) X G a17 l17 e17 k17
  have D18 := def_at (st := s__law_padded) X G a18 l18 e18 k18
  have D19 := def_at (st := sRight) X G a19 l19 e19 k19
  have D20 := def_at (st := sLaw) X G a20 l20 e20 k20
  refine ⟨PySem.W.fnOf "law" "law" (defArgs sLaw) (defBody sLaw) (defScope sLaw) .none kV20 dc20 pm20 an20 (.ref c20) ct20, [(c1, pL)], spT [pL] (spLaw8 K pL), ?_, ?_, ?_, fun s v => .of_eq rfl, ?_, fun base KB GB TB => ?_⟩
  · intro p hp
    simp only [List.mem_cons, List.not_mem_nil, or_false] at hp
    rcases hp with rfl
    · exact gL.2
  · intro p hp
    simp only [List.mem_cons, List.not_mem_nil, or_false] at hp
    rcases hp with rfl
    · exact nL'
  · intro p hp
    simp only [List.mem_cons, List.not_mem_nil, or_false] at hp
    rcases hp with rfl
    · exact gL.1
  · intro H a ns hl hb hT hS
    have hT2 : ∀ b ∈ [pL], H b = some (.tbl #[]) := fun b hb => by
      simp only [List.mem_cons, List.not_mem_nil, or_false] at hb
      rcases hb with rfl
      · exact hT (c1, b) (by simp)
    refine ⟨hT2, a, ns, rfl, ?_, ext_in (by simp), fun H' t3 => ⟨fun b hb => ?_, fun _ => rfl⟩⟩
    · rcases hS with (hS | ⟨o, hS⟩) | hS
      · refine .inl (.inl ?_)
        rw [ext_out fun hb => by rw [hT2 a hb] at hS; cases hS]
        exact hS
      · refine .inl (.inr ⟨o, ?_⟩)
        rw [ext_out fun hb => by rw [hT2 a hb] at hS; cases hS]
        exact hS
      · exact .inr hS
    · simp only [List.mem_cons, List.not_mem_nil, or_false] at hb
      rcases hb with rfl
      · exact t3
  · have bL := TB (c1, pL) (by simp)
    have P0 : Cal l.prog w K mg base CX0 1 "is_number" ["value"] (spNum K) := is_number_ok D0 T
    have P1 : Cal l.prog w K mg base CX0 3 "check_lengths" ["lengths"] (spCheckLengths K pL) := check_lengths_ok D1 T (tabB_of bL) P0
    have P2 : Cal l.prog w K mg base CX0 2 "check_ways" ["ways"] (spCheckWays) := check_ways_ok D2 T P0
    have P3 : Cal l.prog w K mg base CX0 2 "check_plan" ["lengths", "ways", "plan"] (spCheckPlan K) := check_plan_ok D3 T P0
    have P4 : Cal l.prog w K mg base CX0 4 "check_merging" ["lengths", "ways"] (spCheckMerging K pL) := check_merging_ok D4 P1 P2
    have P5 : Cal l.prog w K mg base CX0 1 "how_many" ["runs", "ways"] (spHow) := how_many_ok D5 T
    have P6 : Cal l.prog w K mg base CX0 5 "cost" ["lengths", "ways", "plan"] (spCost K pL) := cost_ok D6 T P4 P3
    have P7 : Cal l.prog w K mg base CX0 5 "cheapest" ["lengths", "ways"] (spCheap K pL) := cheapest_ok D7 T TH P4 P5
    have P8 : Cal l.prog w K mg base CX0 1 "_law_begun" ["_law_script"] (spBegun K) := begun_ok D8 T
    have P9 : Cal l.prog w K mg base CX0 1 "_law_take" ["_law_box", "_law_many"] (spTake) := take_ok D9
    have P10 : Cal l.prog w K mg base CX0 42 "_law_alike" ["_law_found", "_law_due"] (spAlike K 40) := alike_ok D10 T 40
    have P11 : Cal l.prog w K mg base CX0 2 "_law_lengths" ["_law_box", "_law_most"] (spLens) := lens_ok D11 T P9
    have P12 : Cal l.prog w K mg base CX0 2 "_law_plan" ["_law_box", "_law_runs", "_law_ways"] (spLPlan K) := lplan_ok D12 T P9
    have P13 : Cal l.prog w K mg base CX0 42 "_law_in" ["_law_plan_here"] (spIn K 40) := in_ok D13 T 40
    have P14 : Cal l.prog w K mg base CX0 83 "_law_cost" ["_law_lengths_here", "_law_plan_here"] (spLCost K 40) := lcost_ok D14 T Zsum P13 40 (Nat.le_refl _)
    have P15 : Cal l.prog w K mg base CX0 42 "_law_fits" ["_law_plan_here", "_law_ways"] (spFits K 40) := fits_ok D15 T 40
    have P16 : Cal l.prog w K mg base CX0 8 "_law_choices" ["_law_many", "_law_size"] (spCh 6) := ch_ok D16 T 6
    have P17 : Cal l.prog w K mg base CX0 15 "_law_fewest" ["_law_sizes", "_law_ways", "_law_known"] (spFew 6) := few_ok D17 T Zsum P16 6
    have P18 : Cal l.prog w K mg base CX0 1 "_law_padded" ["_law_lengths_here", "_law_ways"] (spPad K) := pad_ok D18 T Zsum
    have P19 : Cal l.prog w K mg base CX0 84 "_law_right" ["_law_lengths_here", "_law_ways"] (spRight8 K pL) := right8_ok D19 T P7 P13 P15 P10 P14 P6
    exact FnOk.tables (law8_fn l20 e20 T ⟨P8, P9, P11, P12, P14, P17, P18, P19⟩)
end RS
set_option Elab.async false
open PySem PySem.W PyProof.Rows in
set_option maxRecDepth 100000 in
set_option maxHeartbeats 0 in
theorem PySem.Challenge.cw_runsorts_k08_whole_no_plan_moves_fewer_holds : PySem.Challenge.rw_runsorts_k08_whole_no_plan_moves_fewer.Holds := by
  w_on; o_law; k_head; (case hw => w_witness2)
  k_fill
  refine RS.walk_tabs (l := PySem.Challenge.rw_runsorts_k08_whole_no_plan_moves_fewer) (n := 63) (k := 85) (x := "_law_script") rfl (by decide) rfl ⟨rfl, by decide, by decide⟩ (fun w h Y => PySem.W.kIn_of Y) ?F
  case F =>
    intro w mg fa h KX G hmg tabs
    refine' RS.all_mk tabs KX G hmg ?a0 ?l0 ?e0 ?k0 ?a1 ?l1 ?e1 ?k1 ?a2 ?l2 ?e2 ?k2 ?a3 ?l3 ?e3 ?k3 ?a4 ?l4 ?e4 ?k4 ?a5 ?l5 ?e5 ?k5 ?a6 ?l6 ?e6 ?k6 ?a7 ?l7 ?e7 ?k7 ?a8 ?l8 ?e8 ?k8 ?a9 ?l9 ?e9 ?k9 ?a10 ?l10 ?e10 ?k10 ?a11 ?l11 ?e11 ?k11 ?a12 ?l12 ?e12 ?k12 ?a13 ?l13 ?e13 ?k13 ?a14 ?l14 ?e14 ?k14 ?a15 ?l15 ?e15 ?k15 ?a16 ?l16 ?e16 ?k16 ?a17 ?l17 ?e17 ?k17 ?a18 ?l18 ?e18 ?k18 ?a19 ?l19 ?e19 ?k19 ?a20 ?l20 ?e20 ?k20 ?z0 ?z1 ?z2 ?z3 ?z4 ?z5 ?z6 ?z7 ?z8 ?z9 ?z10 ?z11 ?z12 ?z13 ?z14 ?y0 ?y1 ?y2 ?y3 ?q0 ?q1 ?q2 ?zzsum ?rL ?hL ?iL ?nL2
    (case a0 => k_is)
    (case l0 => k_is)
    (case e0 => k_is)
    (case k0 => k_is)
    (case a1 => k_is)
    (case l1 => k_is)
    (case e1 => k_is)
    (case k1 => k_is)
    (case a2 => k_is)
    (case l2 => k_is)
    (case e2 => k_is)
    (case k2 => k_is)
    (case a3 => k_is)
    (case l3 => k_is)
    (case e3 => k_is)
    (case k3 => k_is)
    (case a4 => k_is)
    (case l4 => k_is)
    (case e4 => k_is)
    (case k4 => k_is)
    (case a5 => k_is)
    (case l5 => k_is)
    (case e5 => k_is)
    (case k5 => k_is)
    (case a6 => k_is)
    (case l6 => k_is)
    (case e6 => k_is)
    (case k6 => k_is)
    (case a7 => k_is)
    (case l7 => k_is)
    (case e7 => k_is)
    (case k7 => k_is)
    (case a8 => k_is)
    (case l8 => k_is)
    (case e8 => k_is)
    (case k8 => k_is)
    (case a9 => k_is)
    (case l9 => k_is)
    (case e9 => k_is)
    (case k9 => k_is)
    (case a10 => k_is)
    (case l10 => k_is)
    (case e10 => k_is)
    (case k10 => k_is)
    (case a11 => k_is)
    (case l11 => k_is)
    (case e11 => k_is)
    (case k11 => k_is)
    (case a12 => k_is)
    (case l12 => k_is)
    (case e12 => k_is)
    (case k12 => k_is)
    (case a13 => k_is)
    (case l13 => k_is)
    (case e13 => k_is)
    (case k13 => k_is)
    (case a14 => k_is)
    (case l14 => k_is)
    (case e14 => k_is)
    (case k14 => k_is)
    (case a15 => k_is)
    (case l15 => k_is)
    (case e15 => k_is)
    (case k15 => k_is)
    (case a16 => k_is)
    (case l16 => k_is)
    (case e16 => k_is)
    (case k16 => k_is)
    (case a17 => k_is)
    (case l17 => k_is)
    (case e17 => k_is)
    (case k17 => k_is)
    (case a18 => k_is)
    (case l18 => k_is)
    (case e18 => k_is)
    (case k18 => k_is)
    (case a19 => k_is)
    (case l19 => k_is)
    (case e19 => k_is)
    (case k19 => k_is)
    (case a20 => k_is)
    (case l20 => k_is)
    (case e20 => k_is)
    (case k20 => k_is)
    (case z0 => k_is)
    (case z1 => k_is)
    (case z2 => k_is)
    (case z3 => k_is)
    (case z4 => k_is)
    (case z5 => k_is)
    (case z6 => k_is)
    (case z7 => k_is)
    (case z8 => k_is)
    (case z9 => k_is)
    (case z10 => k_is)
    (case z11 => k_is)
    (case z12 => k_is)
    (case z13 => k_is)
    (case z14 => k_is)
    (case y0 => k_is)
    (case y1 => k_is)
    (case y2 => k_is)
    (case y3 => k_is)
    (case q0 => k_is)
    (case q1 => k_is)
    (case q2 => k_is)
    (case zzsum => k_is)
    (case rL => rfl)
    (case hL => k_is)
    (case iL => rfl)
    (case nL2 => first | kernel_rfl | rfl)
