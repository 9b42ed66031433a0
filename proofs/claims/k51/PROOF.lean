import PyProof.Rows.All
import Wide.All
import OpenK.AllK
import Wide.FinOn
import PySem.Challenge.RW_signlines_k51_sums_told
import HandS.Base
import HandS.Call
import HandS.List
import HandS.Comp
import HandS.Dict
import HandS.Ends
import HandS.Exc
import HandS.TryOnly
import HandS.ExcOwn
import HandS.Words
import HandS.WordsList
import HandS.WordsExc
import HandS.Wide
import HandS.WideBits
import HandS.Gcd
import HandS.IsInst
import HandS.ExcIs
import HandS.Style
import HandS.Flow
import HandS.More
import HandS.Iter
import HandS.Zip
import HandS.Defaults
import KE.KStateDown
import HandS.Head0
import HandS.Head1
import HandS.Head2
import HandS.Head3
import HandS.HeadHook1
import HandS.HeadHook2
import HandS.HeadHook3
import HandS.HeadHook4
import HandS.HeadWalk
import HandS.EndTab
import HandS.TupAny
import HandS.Deep
import HandS.AnyAll
import HandS.GenList
set_option Elab.async false
set_option linter.all false
set_option maxRecDepth 100000
set_option maxHeartbeats 2000000
namespace Gx
open PySem PySem.Spec PyProof.Rows L2 GenW GxR

/-- nothing is lost, no generator is wild -/
structure Nap (s s' : Shared) : Prop where
  keep : ∀ b o, s.heap.get? b = some o → s'.heap.get? b = some o
  os : s'.os = s.os
  bare : AllBare s'.gens
theorem inv_nap {X : Cx} {pins : List (Addr × Obj)} {σ : L2.St} {H : Hp} {s s' : Shared} (I : Inv X pins σ H s) (n : Nap s s') : Inv X pins σ H s' :=
  I.call' (ch := []) n.os (Un.kept n.keep) (I.hok.kept n.keep) n.bare fun b z => by simp at z

def GxR' (G : Cx) (pins : List (Addr × Obj)) (σ0 : L2.St) (go : Bool) (Q : Bool → Hp → Prop) : GenEnd := fun n s₀ r s₁ =>
  ((r = .ok (.ret .none) ∨ r = .ok .next) ∧ ∃ H, Inv G pins σ0 H s₁ ∧ Q go H) ∨ ∃ e, r = .error e ∧ False
def GxY (G : Cx) (pins : List (Addr × Obj)) (σ0 : L2.St) (go : Bool) (Q : Bool → Hp → Prop) : Protocol := fun n s₀ v s₁ kap =>
  ∃ (b : Bool) (H : Hp), v = .bool b ∧ Inv G pins σ0 H s₁ ∧ (b = go → ∀ s'', Nap s₁ s'' → kap (.send .none) s'') ∧ (b ≠ go → Q b H)

/-- what the turns are to reach -/
def TurnsTo (J : It) (g : TG) (te : TE) (vs : List Nat) (σ : L2.St) (go : Bool) (Q : Bool → Hp → Prop) (W : Nat → Nat → Hp → Prop) : Prop :=
  ∀ i m H, W i m H → (J.stop i H ∧ Q go H) ∨ (J.go i H ∧ ∀ x H', J.yld i H x H' → g x (wipe σ vs) H' fun σ2 H2 => wipe σ2 vs = wipe σ vs ∧ te σ2 H2 fun y H3 => ∃ b, y = .bl b ∧ (b = go → ∃ m', m' < m ∧ W (i + 1) m' H3) ∧ (b ≠ go → Q b H3))

section
variable {G : Cx} {A : Around} {tg elt iter : Expr} {scope : Scope} {pos : Pos} {it : Addr} {fp : List Addr} {tn : Nat → Heap → Prop} {J : It} {g : TG} {te : TE} {vs : List Nat} {pins : List (Addr × Obj)} {σ : L2.St} {go : Bool} {Q : Bool → Hp → Prop} {W : Nat → Nat → Hp → Prop}
theorem seg_loop (hc : G.calm = true) (hxe : ∀ e s, G.xe e s → False) (T : Turn G.prog G.w G.K tg J fp it tn) (pg : PG G tg g) (pe : PE G elt te)
    (hA : A.over (.compLoop (.GeneratorExp elt [⟨tg, iter, [], 0⟩] scope pos) 0 (.ref it) .none G.env) [] = G.A) (hco : G.env.scope.isCoroutine = false)
    (hst : ∀ H, (∀ b ∈ fp, H b = none) → ∀ b ∈ fp, FpOk G pins H b) (turn : TurnsTo J g te vs σ go Q W) :
    ∀ (k i m : Nat) (s₀ s : Shared) (H : Hp), m < k → W i m H → Inv G pins (wipe σ vs) H s → tn i s.heap → (∀ b ∈ fp, H b = none) →
      Seg (model G.prog G.w) A (GxR' G pins (wipe σ vs) go Q) (GxY G pins (wipe σ vs) go Q) k s₀ (.compLoop (.GeneratorExp elt [⟨tg, iter, [], 0⟩] scope pos) 0 (.ref it) .none G.env)
        ((model G.prog G.w).den (.compLoop (.GeneratorExp elt [⟨tg, iter, [], 0⟩] scope pos) 0 (.ref it) .none G.env)) [] s := by
  intro k
  induction k with
  | zero => intro i m s₀ s H hm; exact absurd hm (Nat.not_lt_zero _)
  | succ k ih =>
    intro i m s₀ s H hm w I st nf
    show Seg _ A _ _ _ s₀ _ ((compTurn (.GeneratorExp elt [⟨tg, iter, [], 0⟩] scope pos) 0 (.ref it) .none G.env).onRaise (leaving G.env)) [] s
    rw [compTurn_gen, Sem.onRaise_eq_wrap]
    refine seg_bind_wrap (wpAny_standAt ?_)
    rcases turn i m H w with ⟨stop, q⟩ | ⟨goes, step⟩
    · refine seg_bind_wrap ?_
      rw [hA]
      refine thnF (T.done G rfl rfl rfl hc i pins s _ H (fun _ _ => False) I (hst H nf) st stop) fun r s6 ⟨hr, I6⟩ => ?_
      subst hr
      exact seg_end (.ok .next) (.inl ⟨.inr rfl, H, I6, q⟩)
    · refine seg_bind_wrap ?_
      rw [hA]
      refine thnF (T.item G rfl rfl rfl hc i pins s _ H (fun _ _ => False) I (hst H nf) st goes) fun r s6 ⟨u, hr, h6⟩ => ?_
      subst hr
      refine seg_bind_wrap ?_
      rw [hA]
      refine thnF h6 fun _ s7 ⟨x, H7, I7, r7, y7, st7, n7⟩ => ?_
      have I7' := I7.pinned (hst H7 n7) (T.obj _ _ st7)
      refine seg_bind_wrap ?_
      rw [hA]
      refine wpAny_mono (pg.run _ s7 _ H7 x u _ I7' r7 (step x H7 y7)) (fun _ s8 ⟨σ8, H8, I8, hw8, q8⟩ => ?_) (fun _ _ z => (hxe _ _ z).elim)
      simp only [List.forIn_nil]
      refine seg_bind_wrap (wpAny_pure ?_)
      simp only [if_true]
      have hy : ∀ v, yieldOut G.env v = yieldValue v := fun v => by simp only [yieldOut, hco, Bool.false_eq_true, if_false]
      simp only [hy]
      rw [Sem.bind_eq_wrap', Sem.bind_eq_wrap', Sem.wrap_wrap, Sem.wrap_wrap]
      refine seg_wrap ?_
      rw [hA]
      refine wpAny_mono (pe.run _ s8 σ8 H8 _ I8 q8) (fun yv s9 ⟨y, H9, I9, r9, b, ey, q1, q2⟩ => ?_) (fun _ _ z => (hxe _ _ z).elim)
      subst ey
      obtain rfl : yv = Value.bool b := r9
      have pin' : ∀ b ∈ fp, ∀ o, s7.heap.get? b = some o → s9.heap.get? b = some o ∧ H9 b = none := fun b hb o e =>
        let z := I9.pin (b, o) (List.mem_append_right _ (List.mem_append_right _ (mem_pinsAt hb e)))
        ⟨z.1, z.2.1⟩
      have hl : (wipe σ vs).length = σ8.length := by rw [← hw8, wipe_length]
      have I10 : Inv G pins (wipe σ vs) H9 s9 := (I9.unpinned (pins := pins)).weak hl (fun j v e => by
        rw [← hw8] at e
        exact (wipe_some e).1)
      have st10 : tn (i + 1) s9.heap := T.keep _ _ _ st7 fun b hb o e => (pin' b hb o e).1
      have n10 : ∀ b ∈ fp, H9 b = none := fun b hb => by
        obtain ⟨o, e, _⟩ := T.obj _ _ st7 b hb
        exact (pin' b hb o e).2
      refine seg_at (seg_yield rfl rfl rfl ⟨b, H9, rfl, I10, fun eb s'' hn => ?_, q2⟩)
      obtain ⟨m', hm', w'⟩ := q1 eb
      exact seg_again rfl (ih (i + 1) m' s'' s'' H9 (by omega) w' (inv_nap I10 hn) (T.keep _ _ _ st10 fun b hb o e => hn.keep b o e) n10)

theorem seg_start (hc : G.calm = true) (hxe : ∀ e s, G.xe e s → False) (T : Turn G.prog G.w G.K tg J fp it tn) (pg : PG G tg g) (pe : PE G elt te)
    (hA : A.over (.compLoop (.GeneratorExp elt [⟨tg, iter, [], 0⟩] scope pos) 0 (.ref it) .none G.env) [] = G.A) (hco : G.env.scope.isCoroutine = false)
    (hst : ∀ H, (∀ b ∈ fp, H b = none) → ∀ b ∈ fp, FpOk G pins H b) (turn : TurnsTo J g te vs σ go Q W)
    {k m : Nat} {s₀ s : Shared} {H : Hp} (hm : m < k) (w : W 0 m H) (I : Inv G pins (wipe σ vs) H s) (st : tn 0 s.heap) (nf : ∀ b ∈ fp, H b = none) :
      Seg (model G.prog G.w) A (GxR' G pins (wipe σ vs) go Q) (GxY G pins (wipe σ vs) go Q) k s₀ (.compStart (.GeneratorExp elt [⟨tg, iter, [], 0⟩] scope pos) 0 (.ref it) .none G.env)
        ((model G.prog G.w).den (.compStart (.GeneratorExp elt [⟨tg, iter, [], 0⟩] scope pos) 0 (.ref it) .none G.env)) [] s := by
  have loop := seg_loop (iter := iter) (scope := scope) (pos := pos) hc hxe T pg pe hA hco hst turn k 0 m s₀ s H hm w I st nf
  show Seg _ A _ _ _ s₀ _ ((compStart (.GeneratorExp elt [⟨tg, iter, [], 0⟩] scope pos) 0 (.ref it) .none G.env).onRaise (leaving G.env)) [] s
  unfold compStart
  rw [Sem.onRaise_eq_wrap]
  show Seg _ A _ _ _ s₀ _ ((ask >>= _).wrap _ _ _ _) [] s
  refine seg_bind_wrap (wpAny_askSetting ?_)
  split
  · exact seg_again rfl loop
  · first
      | exact seg_bind_wrap (wpAny_rule (seg_bind_wrap (wpAny_standAt (seg_bind_wrap (T.self _ 0 s _ _ st (seg_again rfl loop))))))
      | (refine seg_bind_wrap (wpAny_rule ?_); show Seg _ A _ _ _ s₀ _ ((standAt iter.pos >>= _).wrap _ _ _ _) [] s; exact seg_bind_wrap (wpAny_standAt (seg_bind_wrap (T.self _ 0 s _ _ st (seg_again rfl loop)))))
end

/-- a generator that is ready to hand out -/
def Rdy (G : Cx) (B : Around) (pins : List (Addr × Obj)) (σ0 : L2.St) (go : Bool) (Q : Bool → Hp → Prop) (a : Addr) (g k : Nat) (s : Shared) : Prop :=
  ∃ gs, s.gens[g]? = some gs ∧ gs.Goes (model G.prog G.w) B (GxR' G pins σ0 go Q) (GxY G pins σ0 go Q) k (.send .none) (s.setGen g .running)
def LoopEnd (G : Cx) (pins : List (Addr × Obj)) (σ0 : L2.St) (Q : Bool → Hp → Prop) : Result → Shared → Prop := fun r s' => ∃ b H', r = .ok (.ret (.bool b)) ∧ Inv G pins σ0 H' s' ∧ Q b H'
section
variable {G : Cx} {A : Around} {pins : List (Addr × Obj)} {σ0 : L2.St} {Q : Bool → Hp → Prop} {a : Addr} {g : Nat}
theorem next_gx {go : Bool} {gob : Obj} {k : Nat} {s : Shared} {E : Value → Shared → Prop} {Q' : Option Value → Shared → Prop} (hh : A.handled = none) (hd : A.depth < recursionLimit) (hp : (a, gob) ∈ pins) (hgo : ∀ h : Heap, h.get? a = some gob → h.IsGen a g) (hba : AllBare s.gens)
    (hg : s.heap.IsGen a g) (hl : s.heap.NoLimit) (hr : Rdy G A.in1 pins σ0 go Q a g k s)
    (hY : ∀ b H s', Inv G pins σ0 H s' → s'.heap.IsGen a g → AllBare s'.gens → s'.heap.NoLimit → (b = go → ∃ k', k = k' + 1 ∧ Rdy G A.in1 pins σ0 go Q a g k' s') → (b ≠ go → Q b H) → Q' (some (.bool b)) s')
    (hE : ∀ H s', Inv G pins σ0 H s' → Q go H → Q' none s') :
    wpAny (model G.prog G.w) A (pyNext (.ref a)) Q' E s := by
  obtain ⟨gs, hgs, hgo2⟩ := hr
  have hgl : g < s.gens.size := (Array.getElem?_eq_some_iff.mp hgs).1
  refine wpAny_gsz (n := g + 1) hgl (next_genG (F := fun n s₀ s₁ => ∃ H, Inv G pins σ0 H s₁ ∧ Q go H) (Er := fun _ _ => False) hh hl hd hg hgs hgo2 (fun v s₁ gs' hbare hv => ?_) (fun s₁ hp' h' hk => ?_) fun e s₁ he => he.elim)
  · intro hsz
    obtain ⟨b, H, rfl, I, q1, q2⟩ := hv
    have ea : s₁.heap.get? a = some gob := (I.pin (a, gob) (List.mem_append_right _ hp)).1
    have hsz1 : g < s₁.gens.size := by
      have q : (s₁.setGen g gs').gens.size = s₁.gens.size := setGen_size _ _ _
      have hsz' : g + 1 ≤ (s₁.setGen g gs').gens.size := hsz
      omega
    have nap : Nap s₁ (s₁.setGen g gs') := ⟨fun _ _ e => e, rfl, allBare_setGen I.bare hbare⟩
    refine hY b H _ (inv_nap I nap) (hgo _ ea) nap.bare I.nolimit (fun eb => ?_) q2
    have q3 := q1 eb ((s₁.setGen g gs').setGen g .running) ⟨fun _ _ e => e, rfl, allBare_setGen (s := s₁.setGen g gs') (allBare_setGen I.bare hbare) rfl⟩
    cases k with
    | zero => exact False.elim q3
    | succ k' => exact ⟨k', rfl, gs', setGen_at hsz1, q3⟩
  · intro hsz
    obtain ⟨H, I, q⟩ := hp'
    exact hE H _ (inv_nap I ⟨hk, rfl, allBare_setGen I.bare rfl⟩) q

theorem loop_all {gob : Obj} (hh : A.handled = none) (hd : A.depth < recursionLimit) (hp : (a, gob) ∈ pins) (hgo : ∀ h : Heap, h.get? a = some gob → h.IsGen a g) :
    ∀ (k : Nat) (s : Shared), s.heap.IsGen a g → AllBare s.gens → s.heap.NoLimit → Rdy G A.in1.in1 pins σ0 true Q a g k s → codeAny (model G.prog G.w) A (.builtin "all.loop" ⟨[.ref a], []⟩) (LoopEnd G pins σ0 Q) s := by
  intro k
  induction k with
  | zero =>
    intro s hg hb hl hr
    refine codeAny_builtin F.entry_all_loop ?_
    rw [Around.under_plainId F.plain_all_loop _]
    show wpAny _ A.in1 (pyNext (.ref a) >>= _) _ _ s
    refine wpAny_bind (next_gx (A := A.in1) hh hd hp hgo hb hg hl hr (fun b H s' I hg' hb' hl' q1 q2 => ?_) fun H s' I q => ?_)
    · refine wpAny_bind (wpAny_holding (wpAny_truthy_bool ?_))
      refine wpAny_bind (wpAny_letGo ?_)
      cases b with
      | true => obtain ⟨k', e, _⟩ := q1 rfl; exact absurd e (by omega)
      | false =>
        simp only [Bool.false_eq_true, if_false]
        exact wpAny_bind (wpAny_rule (wpAny_pure ⟨false, H, rfl, I, q2 (by decide)⟩))
    · exact wpAny_bind (wpAny_rule (wpAny_pure ⟨true, H, rfl, I, q⟩))
  | succ k ih =>
    intro s hg hb hl hr
    refine codeAny_builtin F.entry_all_loop ?_
    rw [Around.under_plainId F.plain_all_loop _]
    show wpAny _ A.in1 (pyNext (.ref a) >>= _) _ _ s
    refine wpAny_bind (next_gx (A := A.in1) hh hd hp hgo hb hg hl hr (fun b H s' I hg' hb' hl' q1 q2 => ?_) fun H s' I q => ?_)
    · refine wpAny_bind (wpAny_holding (wpAny_truthy_bool ?_))
      refine wpAny_bind (wpAny_letGo ?_)
      cases b with
      | true =>
        simp only [if_true]
        obtain ⟨k', e, r'⟩ := q1 rfl
        obtain rfl : k = k' := by omega
        exact wpAny_pure ⟨plainId_quiet F.plain_all_loop _, ih s' hg' hb' hl' r'⟩
      | false =>
        simp only [Bool.false_eq_true, if_false]
        exact wpAny_bind (wpAny_rule (wpAny_pure ⟨false, H, rfl, I, q2 (by decide)⟩))
    · exact wpAny_bind (wpAny_rule (wpAny_pure ⟨true, H, rfl, I, q⟩))
theorem loop_any {gob : Obj} (hh : A.handled = none) (hd : A.depth < recursionLimit) (hp : (a, gob) ∈ pins) (hgo : ∀ h : Heap, h.get? a = some gob → h.IsGen a g) :
    ∀ (k : Nat) (s : Shared), s.heap.IsGen a g → AllBare s.gens → s.heap.NoLimit → Rdy G A.in1.in1 pins σ0 false Q a g k s → codeAny (model G.prog G.w) A (.builtin "any.loop" ⟨[.ref a], []⟩) (LoopEnd G pins σ0 Q) s := by
  intro k
  induction k with
  | zero =>
    intro s hg hb hl hr
    refine codeAny_builtin F.entry_any_loop ?_
    rw [Around.under_plainId F.plain_any_loop _]
    show wpAny _ A.in1 (pyNext (.ref a) >>= _) _ _ s
    refine wpAny_bind (next_gx (A := A.in1) hh hd hp hgo hb hg hl hr (fun b H s' I hg' hb' hl' q1 q2 => ?_) fun H s' I q => ?_)
    · refine wpAny_bind (wpAny_holding (wpAny_truthy_bool ?_))
      refine wpAny_bind (wpAny_letGo ?_)
      cases b with
      | false => obtain ⟨k', e, _⟩ := q1 rfl; exact absurd e (by omega)
      | true =>
        simp only [if_true]
        exact wpAny_bind (wpAny_rule (wpAny_pure ⟨true, H, rfl, I, q2 (by decide)⟩))
    · exact wpAny_bind (wpAny_rule (wpAny_pure ⟨false, H, rfl, I, q⟩))
  | succ k ih =>
    intro s hg hb hl hr
    refine codeAny_builtin F.entry_any_loop ?_
    rw [Around.under_plainId F.plain_any_loop _]
    show wpAny _ A.in1 (pyNext (.ref a) >>= _) _ _ s
    refine wpAny_bind (next_gx (A := A.in1) hh hd hp hgo hb hg hl hr (fun b H s' I hg' hb' hl' q1 q2 => ?_) fun H s' I q => ?_)
    · refine wpAny_bind (wpAny_holding (wpAny_truthy_bool ?_))
      refine wpAny_bind (wpAny_letGo ?_)
      cases b with
      | false =>
        simp only [Bool.false_eq_true, if_false]
        obtain ⟨k', e, r'⟩ := q1 rfl
        obtain rfl : k = k' := by omega
        exact wpAny_pure ⟨plainId_quiet F.plain_any_loop _, ih s' hg' hb' hl' r'⟩
      | true =>
        simp only [if_true]
        exact wpAny_bind (wpAny_rule (wpAny_pure ⟨true, H, rfl, I, q2 (by decide)⟩))
    · exact wpAny_bind (wpAny_rule (wpAny_pure ⟨false, H, rfl, I, q⟩))
end
end Gx

set_option Elab.async false
set_option linter.all false
set_option maxRecDepth 100000
set_option maxHeartbeats 2000000
namespace Gx
open PySem PySem.Spec PyProof.Rows L2 GenW GxR

/-- the context of a generator expression's frame -/
abbrev gxOf (X : Cx) (A : Around) (s : Shared) (H : Hp) (cenv : Env) (fp : List Addr) : Cx :=
  { X with A := A, s_0 := s, H_0 := H, env := cenv, outer := X.stack, stack := cenv :: X.stack, ex := fp, fn := fun _ => false, pn := [], xe := fun _ _ => False }
abbrev gEnv (X : Cx) (scope : Scope) (C : Addr) (code : Value) : Env := genEnv scope (cloFrom X.env.cells scope.names []) C code builtinsNs X.env

section
variable {X : Cx} {pins : List (Addr × Obj)} {σ : L2.St} {H : Hp} {s : Shared}
theorem gx_inv {scope : Scope} {own : List (Str × Nat)} {fp : List Addr} (I : Inv X pins σ H s) (ok : BlkOk X.N X.env.scope scope own) (hcell : ∀ y ∈ scope.names, y.2 ≠ .cell) (hN : X.N.Nodup) (hfp : ∀ b ∈ fp, FpOk X pins H b ∧ b < s.heap.objs.size)
    {A : Around} {code : Value} (hfr : A.frames = some (gEnv X scope s.heap.objs.size code :: X.stack)) (hhd : X.calm = true → A.handled = none) {s5 : Shared} {a : Addr} {gob : Obj} {m : Str → Option Value}
    (kp : ∀ b o, s.heap.get? b = some o → s5.heap.get? b = some o) (hos : s5.os = s.os) (hb5 : AllBare s5.gens) (hns : s5.heap.Ns s.heap.objs.size m) (ha : s.heap.objs.size < a) (hga : s5.heap.get? a = some gob) (hgc : ∀ v, gob.data ≠ .cell v) :
    Inv (gxOf X A s H (gEnv X scope s.heap.objs.size code) fp) [(a, gob)] (wipe σ (own.map (·.2))) H s5 := by
  have hfree : ∀ y ∈ scope.names, y.2 = .free → ∃ c, X.env.cells.lookup y.1 = some c := fun y hy e => by
    rcases ok.free y hy e with k | k
    · exact I.ok.has _ (.inl k)
    · exact I.ok.has _ (.inr k)
  have cm : ∀ {y c}, (y, c) ∈ cloFrom X.env.cells scope.names [] → X.env.cells.lookup y = some c ∧ c < s.heap.objs.size := fun {y c} hm => by
    rcases cloFrom_mem hm with hm | ⟨h1, rfl⟩
    · cases hm
    · obtain ⟨c, hc⟩ := hfree _ h1 rfl
      rw [hc]
      obtain ⟨w, z⟩ := I.cell _ _ hc
      exact ⟨rfl, z.lt⟩
  have mem : ∀ {y c}, (cloFrom X.env.cells scope.names []).lookup y = some c → X.env.cells.lookup y = some c ∧ c < s.heap.objs.size := fun {y c} e => cm (PySem.mem_of_lookup e)
  have look : ∀ {y}, scope.names.lookup y = some .free → ∃ c, (cloFrom X.env.cells scope.names []).lookup y = some c ∧ X.env.cells.lookup y = some c := fun {y} hl => by
    obtain ⟨c', e'⟩ := mem_lookup (cloFrom_has (cells := X.env.cells) (acc := []) (PySem.mem_of_lookup hl))
    exact ⟨c', e', (mem e').1⟩
  have noc : ∀ {y}, scope.names.lookup y ≠ some .cell := fun {y} e => hcell _ (PySem.mem_of_lookup e) rfl
  have okG : (gxOf X A s H (gEnv X scope s.heap.objs.size code) fp).Ok := by
    refine ⟨I.ok.mod, ok.kind, I.ok.glob, rfl, Nat.le_refl _, fun y z c e1 e2 => I.ok.inj y z c (mem e1).1 (mem e2).1, fun y hy => ?_, fun y c z e => ?_, hhd, hfr, .inr ⟨rfl, rfl⟩, fun b hb => ⟨?_, fun y c e z => ?_⟩, I.bs, Nat.le_trans I.ok.bsz I.sz, fun b o e hb => ?_, fun b hb z => ?_, I.stack, I.stkFree⟩
    · have hy : scope.names.lookup y = some .cell ∨ scope.names.lookup y = some .free := hy
      rcases hy with hy | hy
      · exact absurd hy noc
      · obtain ⟨c, h1, _⟩ := look hy
        exact ⟨c, h1⟩
    · exact absurd (show false = true from z) (by decide)
    · exact Nat.ne_of_lt (hfp b hb).2
    · exact (hfp b hb).1.2.2.2.2.1 y c (mem e).1 z
    · rcases (hfp b hb).1.2.2.2.1 with z | z
      · exact I.ok.noex b o e z
      · exact absurd (Nat.lt_of_lt_of_le (Heap.lt_size e) (Nat.le_trans I.ok.bsz z)) (Nat.lt_irrefl _)
    · rcases List.mem_cons.mp (I.stkSub b z) with z | z
      · exact (hfp b hb).1.2.1 z
      · exact (hfp b hb).1.2.2.1 z
  have young : ∀ b, s.heap.objs.size ≤ b → b ∉ frs X.stack := fun b hb hm => by
    rcases List.mem_cons.mp (I.stkSub b hm) with z | z
    · exact absurd (Nat.lt_of_lt_of_le I.lt hb) (by rw [z]; exact Nat.lt_irrefl _)
    · exact I.nofs hb z
  refine ⟨okG, hos, hb5, Un.kept kp, ⟨m, hns, fun i y av e1 e2 e3 => ?_⟩, fun y c e => ?_, ?_, fun y c e => I.freeC y c (mem e).1, fun p hp => ?_, I.hok.kept kp, by rw [wipe_length]; exact I.len⟩
  · obtain ⟨e2, hne⟩ := wipe_some e2
    have e3 : scope.names.lookup y = some .local ∨ scope.names.lookup y = some .cell ∨ scope.names.lookup y = some .free := e3
    have hfr : scope.names.lookup y = some .free := by
      rcases e3 with e3 | e3 | e3
      · rcases ok.own _ (PySem.mem_of_lookup e3) (.inl rfl) with e' | e'
        · obtain ⟨p, hp, hpy⟩ := List.mem_map.mp e'
          have e3 := ok.ix p hp
          have : p.1 = y := hpy
          rw [this] at e3
          exact absurd (List.mem_map.mpr ⟨p, hp, nodup_ix hN e3 e1⟩) hne
        · exact absurd (List.mem_of_getElem? e1) e'
      · exact absurd e3 noc
      · exact e3
    obtain ⟨m', hn, hl⟩ := I.loc
    have hvis : Vis X.env.scope y := (ok.free _ (PySem.mem_of_lookup hfr) rfl).elim (fun k => .inr (.inl k)) (fun k => .inr (.inr k))
    obtain ⟨w, r, q⟩ := hl i y av e1 e2 hvis
    obtain ⟨c, h1, h2⟩ := look hfr
    refine ⟨w, r, .inr ⟨.inr hfr, ?_⟩⟩
    rcases q with ⟨k, _⟩ | ⟨_, c', e', z⟩
    · have k : X.env.scope.names.lookup y = some .local := k
      rcases ok.free _ (PySem.mem_of_lookup hfr) rfl with k' | k' <;> rw [show X.env.scope.names.lookup y = _ from k'] at k <;> cases k
    · rw [h2] at e'; cases e'
      exact ⟨c, h1, z.keeps kp⟩
  · obtain ⟨w, z⟩ := I.cell y c (mem e).1
    exact ⟨w, z.keeps kp⟩
  · exact I.hok.fresh (Nat.le_refl _)
  · have hp : p = (a, gob) := by simpa using hp
    subst hp
    exact ⟨hga, I.hok.fresh (Nat.le_of_lt ha), Nat.ne_of_gt ha, young a (Nat.le_of_lt ha), hgc⟩
end

/-- all/any of a generator expression: go: on which answer it goes on -/
def tGx (go : Bool) (P : Addr) (wi : TI) (g : TG) (te : TE) (vs : List Nat) : TE := fun σ H Q => wi σ H fun J H1 => TabG H1 P ∧ ∀ H2, Tabbed P H1 H2 → ∃ W : Nat → Nat → Hp → Prop, (∃ m, W 0 m H2) ∧ TurnsTo J g te vs σ go (fun b => Q (.bl b)) W

/-- the generator at u, ready, in the state s5 -/
def Made (X : Cx) (pins : List (Addr × Obj)) (σ : L2.St) (go : Bool) (Q : VK) (u : Value) (s5 : Shared) : Prop :=
  ∃ (A' : Around) (s0 : Shared) (H0 : Hp) (ce : Env) (fp : List Addr) (pins' : List (Addr × Obj)) (σ0 : L2.St) (a : Addr) (g k : Nat) (gob : Obj) (Q2 : Bool → Hp → Prop), u = .ref a ∧ (a, gob) ∈ pins' ∧ (∀ h : Heap, h.get? a = some gob → h.IsGen a g) ∧ s5.heap.IsGen a g ∧ AllBare s5.gens ∧ s5.heap.NoLimit ∧
    Rdy (gxOf X A' s0 H0 ce fp) X.A.in1.in1 pins' σ0 go Q2 a g k s5 ∧ ∀ b H' s', Inv (gxOf X A' s0 H0 ce fp) pins' σ0 H' s' → Q2 b H' → ∃ H'', Inv X pins σ H'' s' ∧ Q (.bl b) H''

theorem room_gx {k : Nat} {A : Around} {gx : Expr} {it : Value} {ce : Env} (r : Room (k + 1) A) (hg : ∃ a b c d, gx = .GeneratorExp a b c d) : Room k (A.in1.in1.over (.compLoop gx 0 it .none ce) []) := by
  obtain ⟨a, b, c, d, rfl⟩ := hg
  exact ⟨r.hd, by have := r.dp; show A.depth + 0 + 1 + 3 * k + 5 < _; omega, by have := r.un; show A.units + 1 + 1 + 0 + 3 + 16 * k + 200 < _; omega⟩
theorem frames_gx {A : Around} {a : Expr} {b : List Comprehension} {c : Scope} {d : Pos} {it : Value} {ce : Env} {st : List Env} (h : A.frames = some st) : (A.in1.in1.over (.compLoop (.GeneratorExp a b c d) 0 it .none ce) []).frames = some (ce :: st) := by
  have h' : A.in1.in1.frames = some st := h
  show pushEnvs (Code.envs (.compLoop (.GeneratorExp a b c d) 0 it .none ce)) (pushEnvs (envsOf []) A.in1.in1.frames) = _
  rw [h']
  rfl
end Gx

set_option Elab.async false
set_option linter.all false
set_option maxRecDepth 100000
set_option maxHeartbeats 2000000
namespace Gx
open PySem PySem.Spec PyProof.Rows L2 GenW GxR
section
variable {X : Cx} {pins : List (Addr × Obj)} {σ : L2.St} {H : Hp} {s : Shared}
theorem gx_gen {c P : Addr} {tg elt iter : Expr} {gpos : Pos} {scope : Scope} {own : List (Str × Nat)} {wi : TI} {g : TG} {te : TE} {k : Nat} {go : Bool} {Q : VK}
    (hr : Room (k + 1) X.A) (hc : X.calm = true) (hN : X.N.Nodup) (TB : TabB X.base X.mg c P) (hcode : X.env.code = .ref c) (ok : BlkOk X.N X.env.scope scope own) (hco : scope.isCoroutine = false) (hcell : ∀ y ∈ scope.names, y.2 ≠ .cell)
    (h0 : scope.names.lookup (".0" : Str) = some NameKind.local) (hi : PI X tg iter wi)
    (hg : ∀ (A : Around) (s : Shared) (H : Hp) (C : Addr) (code : Value) (fp : List Addr), PG (gxOf X A s H (gEnv X scope C code) fp) tg g)
    (he : ∀ (A : Around) (s : Shared) (H : Hp) (C : Addr) (code : Value) (fp : List Addr), Room k A → PE (gxOf X A s H (gEnv X scope C code) fp) elt te)
    (hs : ∀ v, genFold iter X.env v = pure v) (I : Inv X pins σ H s) (h : tGx go P wi g te (own.map (·.2)) σ H Q) :
    wpAny (model X.prog X.w) X.A (eval (.GeneratorExp elt [⟨tg, iter, [], 0⟩] scope gpos) X.env) (Made X pins σ go Q) X.xe s := by
  have hfree : ∀ y ∈ scope.names, y.2 = .free → ∃ c, X.env.cells.lookup y.1 = some c := fun y hy e => by
    rcases ok.free y hy e with k | k
    · exact I.ok.has _ (.inl k)
    · exact I.ok.has _ (.inr k)
  refine wpAny_GeneratorExp_make hco (closure_ok hfree) hcell h0 ok.kind hr.depth ?_ hs
  refine thn (hi.run pins s σ H _ I h) fun xv s1 hx => thn hx fun itv s2 h2 => ?_
  obtain ⟨it, fp, tn, J, H2, e, I2, T, st2, f2, ⟨ps, hP, ht⟩, q⟩ := h2
  subst e
  have hPs : s2.heap.get? P = some { cls := .none, data := .fields ps } := I2.hok P _ hP
  have cd : PySem.W.CodeHd s2.heap c P := TB.code.keeps fun b u e => I2.bk b u e
  have lim2 : s2.heap.NoLimit := I2.nolimit
  refine ⟨lim2, ?_⟩
  have cont : ∀ (code : Value) (h3 : Heap) (tk : Nat) (ps' : Array Value), Heap.ExtBut P s2.heap h3 → h3.get? P = some { cls := .none, data := .fields ps' } → (∃ more, ps' = ps ++ more) → TriplesOk ps'.toList →
      wpAny (model X.prog X.w) X.A (builtinsFor X.env.globals X.env.builtins) (fun bi s₄ =>
        ∀ h', h'.Ns s₄.heap.objs.size (fun y => if y = ".0" then some (Value.ref it) else none) → Heap.SameBut s₄.heap.objs.size (s₄.heap.push { cls := .type "frame", data := .dict #[] }) h' →
          Made X pins σ go Q (.ref h'.objs.size) { s₄ with
            gens := s₄.gens.push (.fresh (.compStart (.GeneratorExp elt [⟨tg, iter, [], 0⟩] scope gpos) 0 (.ref it) .none (genEnv scope (cloFrom X.env.cells scope.names []) s₄.heap.objs.size code bi X.env))),
            toks := s₄.toks + 1 + 1 + 1,
            heap := h'.push { cls := .type "generator", data := .fields #[.int s₄.gens.size 0, .str "<genexpr>" (s₄.toks + 1), .str (X.env.qual ++ "<genexpr>") (s₄.toks + 1 + 1)] } }) X.xe { s2 with heap := h3, toks := tk } := by
    intro code h3 tk ps' hx hP3 hmore ht3
    obtain ⟨bm, ob, e1, e2, e3, e4, e5, e6, e7, e8⟩ := TB.bm
    have keep3 : ∀ b u, b ≠ P → s2.heap.get? b = some u → h3.get? b = some u := fun b u hb e => hx b u hb e
    refine wpAny_builtinsFor (m := X.mg) (by rw [I2.ok.glob]; exact (I2.mod.glob.keeps I2.bk).extBut hx TB.gP) e1 e2 (keep3 _ _ e4 (I2.bk _ _ e5)) e6 e7 e8 ?_
    obtain ⟨more, em⟩ := hmore
    have I3 : Inv X pins σ (upd H2 P (.tbl (ps ++ more))) { s2 with heap := h3, toks := tk } := inv_tab (d' := s2.drawn) (t' := tk) I2 hP keep3 (by rw [← em]; exact hP3) I2.bare
    have hTab : Tabbed P H2 (upd H2 P (.tbl (ps ++ more))) := ⟨⟨ps ++ more, upd_same, by rw [← em]; exact ht3⟩, fun b hb => upd_ne hb⟩
    obtain ⟨W, ⟨m0, w0⟩, turn⟩ := q _ hTab
    generalize hH3 : upd H2 P (.tbl (ps ++ more)) = H3 at I3 w0
    have fpP : ∀ b ∈ fp, b ≠ P := fun b hb z => by
      have q := (f2 b hb).1
      rw [z, hP] at q; cases q
    generalize hs4 : ({ s2 with heap := h3, toks := tk } : Shared) = s4 at I3
    have eh4 : s4.heap = h3 := by rw [← hs4]
    have f3 : ∀ b ∈ fp, FpOk X pins H3 b ∧ b < s4.heap.objs.size := fun b hb => by
      obtain ⟨o, e, _⟩ := T.obj _ _ st2 b hb
      refine ⟨⟨?_, (f2 b hb).2⟩, ?_⟩
      · rw [← hH3, upd_ne (fpP b hb)]
        exact (f2 b hb).1
      · rw [eh4]
        exact Heap.lt_size (keep3 b o (fpP b hb) e)
    have st4 : tn 0 s4.heap := T.keep _ _ _ st2 fun b hb o e => by rw [eh4]; exact keep3 b o (fpP b hb) e
    have main : ∀ (h' : Heap) (gob : Obj) (tk' : Nat), h'.Ns s4.heap.objs.size (fun y => if y = ".0" then some (Value.ref it) else none) → Heap.SameBut s4.heap.objs.size (s4.heap.push { cls := .type "frame", data := .dict #[] }) h' →
        gob.isFreed = false → (∀ v, gob.data ≠ .cell v) → (∀ h : Heap, h.get? h'.objs.size = some gob → h.IsGen h'.objs.size s4.gens.size) →
        Made X pins σ go Q (.ref h'.objs.size) { s4 with gens := s4.gens.push (.fresh (.compStart (.GeneratorExp elt [⟨tg, iter, [], 0⟩] scope gpos) 0 (.ref it) .none (gEnv X scope s4.heap.objs.size code))), toks := tk', heap := h'.push gob } := by
      intro h' gob tk' hn' hs' hfd hnc hig
      have hsz : h'.objs.size = s4.heap.objs.size + 1 := by rw [hs'.1, Heap.size_push]
      have keep' : ∀ b o, s4.heap.get? b = some o → (h'.push gob).get? b = some o := fun b o e => Heap.get?_push_of_some _ (hs'.extBut b o (Nat.ne_of_lt (Heap.lt_size e)) (Heap.get?_push_of_some _ e))
      have hga : (h'.push gob).get? h'.objs.size = some gob := Heap.get?_push_size _ hfd
      have hAb : X.A.in1.in1.handled = none := hr.hd
      have hb5 : AllBare (s4.gens.push (.fresh (.compStart (.GeneratorExp elt [⟨tg, iter, [], 0⟩] scope gpos) 0 (.ref it) .none (gEnv X scope s4.heap.objs.size code)))) := AllBare.push I3.bare rfl
      have J5 := gx_inv (A := X.A.in1.in1.over (.compLoop (.GeneratorExp elt [⟨tg, iter, [], 0⟩] scope gpos) 0 (.ref it) .none (gEnv X scope s4.heap.objs.size code)) []) (code := code) (a := h'.objs.size) (gob := gob)
        (s5 := { s4 with gens := s4.gens.push (.fresh (.compStart (.GeneratorExp elt [⟨tg, iter, [], 0⟩] scope gpos) 0 (.ref it) .none (gEnv X scope s4.heap.objs.size code))), toks := tk', heap := h'.push gob })
        I3 ok hcell hN f3 (frames_gx I3.ok.frames) (fun _ => hAb) keep' rfl hb5 (hn'.push _) (by rw [hsz]; exact Nat.lt_succ_self _) hga hnc
      have rA := room_gx (it := .ref it) (ce := gEnv X scope s4.heap.objs.size code) hr ⟨elt, [⟨tg, iter, [], 0⟩], scope, gpos, rfl⟩
      have stat : ∀ H', (∀ b ∈ fp, H' b = none) → ∀ b ∈ fp, FpOk (gxOf X (X.A.in1.in1.over (.compLoop (.GeneratorExp elt [⟨tg, iter, [], 0⟩] scope gpos) 0 (.ref it) .none (gEnv X scope s4.heap.objs.size code)) []) s4 H3 (gEnv X scope s4.heap.objs.size code) fp) [(h'.objs.size, gob)] H' b := fun H' hn b hb =>
        ⟨hn b hb, (J5.ok.exf b hb).1, J5.ok.exfs b hb, .inl hb, fun x c e => (J5.ok.exf b hb).2 x c e, fun p hp => by
          have hp : p = (h'.objs.size, gob) := by simpa using hp
          subst hp
          exact Nat.ne_of_gt (Nat.lt_trans (f3 b hb).2 (by show s4.heap.objs.size < h'.objs.size; rw [hsz]; exact Nat.lt_succ_self _))⟩
      have nfp : ∀ b ∈ fp, H3 b = none := fun b hb => (f3 b hb).1.1
      refine ⟨X.A.in1.in1.over (.compLoop (.GeneratorExp elt [⟨tg, iter, [], 0⟩] scope gpos) 0 (.ref it) .none (gEnv X scope s4.heap.objs.size code)) [], s4, H3, gEnv X scope s4.heap.objs.size code, fp, [(h'.objs.size, gob)], wipe σ (own.map (·.2)), h'.objs.size, s4.gens.size, m0 + 1, gob, fun b => Q (.bl b), rfl, List.mem_singleton.mpr rfl, hig, hig _ hga, hb5, J5.nolimit,
        ⟨_, Array.getElem?_push_size .., rfl, ?_⟩, fun b H' s' I' q' => ⟨H', ?_, q'⟩⟩
      · refine seg_start (G := gxOf X (X.A.in1.in1.over (.compLoop (.GeneratorExp elt [⟨tg, iter, [], 0⟩] scope gpos) 0 (.ref it) .none (gEnv X scope s4.heap.objs.size code)) []) s4 H3 (gEnv X scope s4.heap.objs.size code) fp)
          hc (fun _ _ z => z) T (hg _ _ _ _ _ _) (he _ _ _ _ _ _ rA) rfl hco stat turn (Nat.lt_succ_self _) w0 (inv_nap J5 ⟨fun _ _ e => e, rfl, allBare_setGen hb5 rfl⟩) (T.keep _ _ _ st4 fun b _ o e => keep' b o e) nfp
      · exact I3.call' (ch := fp) I'.os I'.base I'.hok I'.bare fun b hb => ⟨(f3 b hb).1.2.2.2.1, (f3 b hb).1.2.1, (f3 b hb).1.2.2.2.2.1, (f3 b hb).1.2.2.2.2.2⟩
    intro h' hn' hs'
    subst hs4
    exact main h' _ _ hn' hs' rfl (fun v z => by cases z) fun h e => ⟨_, _, _, e, rfl, rfl, rfl⟩
  cases hf : codeAmong gpos ps.toList with
  | none =>
    refine wpAny_genexprCodeX hcode (cd.code hPs ht) (cd.tab hPs) hf fun c' h' tk hx hge hlt hco' _ htab' _ => ?_
    obtain ⟨o1, vs, f1, tf, fl, tg, inF, tx, tt, op, _, _, _, _, _, _, _, _, _, htr, _⟩ := hco'
    exact cont _ h' tk _ hx htab'.2 ⟨_, rfl⟩ htr
  | some cv =>
    refine wpAny_genexprCode_hit hcode (cd.code hPs ht) hf ?_
    exact cont cv s2.heap s2.toks ps (Heap.ExtBut.refl _ _) hPs ⟨#[], by simp⟩ ht

theorem pe_all {c P : Addr} {tg elt iter : Expr} {p pos gpos : Pos} {scope : Scope} {own : List (Str × Nat)} {wi : TI} {g : TG} {te : TE} {k : Nat}
    (hr : Room (k + 1) X.A) (hgl : Gl X "all") (hm : X.mg "all" = none) (hb : bootBuiltins "all" = some (.builtin "all")) (hc : X.calm = true) (hN : X.N.Nodup) (TB : TabB X.base X.mg c P) (hcode : X.env.code = .ref c) (ok : BlkOk X.N X.env.scope scope own) (hco : scope.isCoroutine = false)
    (hcell : ∀ y ∈ scope.names, y.2 ≠ .cell) (h0 : scope.names.lookup (".0" : Str) = some NameKind.local) (hi : PI X tg iter wi)
    (hg : ∀ (A : Around) (s : Shared) (H : Hp) (C : Addr) (code : Value) (fp : List Addr), PG (gxOf X A s H (gEnv X scope C code) fp) tg g)
    (he : ∀ (A : Around) (s : Shared) (H : Hp) (C : Addr) (code : Value) (fp : List Addr), Room k A → PE (gxOf X A s H (gEnv X scope C code) fp) elt te)
    (hs : ∀ v, genFold iter X.env v = pure v)
    (hst : starEach [.GeneratorExp elt [⟨tg, iter, [], 0⟩] scope gpos] X.env = (false, eval (.GeneratorExp elt [⟨tg, iter, [], 0⟩] scope gpos) X.env) :: starEach [] X.env := by rfl) :
    PE X (.Call (.Name "all" p) [.GeneratorExp elt [⟨tg, iter, [], 0⟩] scope gpos] [] pos) (tGx true P wi g te (own.map (·.2))) := by
  refine ⟨fun pins s σ H Q I h => ?_⟩
  refine wpAny_Call_Name_kw (ld_blt I hgl hm hb ?_)
  refine PyProof.Rows.callWith_builtin1 ?_ hst (by rfl)
  rw [hst]
  show wpAny _ _ (spliced ((false, eval (.GeneratorExp elt [⟨tg, iter, [], 0⟩] scope gpos) X.env) :: backTo pos (starEach [] X.env))) _ _ s
  refine Calls.spliced_cons (thn (gx_gen hr hc hN TB hcode ok hco hcell h0 hi hg he hs I h) fun u s5 hG => ?_)
  obtain ⟨A', s0, H0, ce, fp, pins', σ0, a, g', k', gob, Q2, rfl, hmem, hgo, hgen, hba, hl, hrd, hback⟩ := hG
  refine Calls.spliced_nil ?_
  refine call_function_tree F.kind_all F.plain_all F.entry_all (F.args_all1 _) ?_
  unfold Builtin.«all»
  refine wpAny_bind (m := oneArg "all" _) (wpAny_pure ?_)
  refine wpAny_bind (wpAny_pyIter_gen hgen ?_)
  refine wpAny_pure ⟨plainId_quiet F.plain_all_loop _, codeAny_mono (loop_all (G := gxOf X A' s0 H0 ce fp) (A := X.A) hr.hd hr.depth hmem hgo k' s5 hgen hba hl hrd) fun r s' hq => ?_⟩
  obtain ⟨b, H', rfl, I', q'⟩ := hq
  obtain ⟨H'', I'', q''⟩ := hback b H' s' I' q'
  exact ⟨.bl b, H'', I'', rfl, q''⟩
theorem pe_any {c P : Addr} {tg elt iter : Expr} {p pos gpos : Pos} {scope : Scope} {own : List (Str × Nat)} {wi : TI} {g : TG} {te : TE} {k : Nat}
    (hr : Room (k + 1) X.A) (hgl : Gl X "any") (hm : X.mg "any" = none) (hc : X.calm = true) (hN : X.N.Nodup) (TB : TabB X.base X.mg c P) (hcode : X.env.code = .ref c) (ok : BlkOk X.N X.env.scope scope own) (hco : scope.isCoroutine = false)
    (hcell : ∀ y ∈ scope.names, y.2 ≠ .cell) (h0 : scope.names.lookup (".0" : Str) = some NameKind.local) (hi : PI X tg iter wi)
    (hg : ∀ (A : Around) (s : Shared) (H : Hp) (C : Addr) (code : Value) (fp : List Addr), PG (gxOf X A s H (gEnv X scope C code) fp) tg g)
    (he : ∀ (A : Around) (s : Shared) (H : Hp) (C : Addr) (code : Value) (fp : List Addr), Room k A → PE (gxOf X A s H (gEnv X scope C code) fp) elt te)
    (hs : ∀ v, genFold iter X.env v = pure v)
    (hst : starEach [.GeneratorExp elt [⟨tg, iter, [], 0⟩] scope gpos] X.env = (false, eval (.GeneratorExp elt [⟨tg, iter, [], 0⟩] scope gpos) X.env) :: starEach [] X.env := by rfl) :
    PE X (.Call (.Name "any" p) [.GeneratorExp elt [⟨tg, iter, [], 0⟩] scope gpos] [] pos) (tGx false P wi g te (own.map (·.2))) := by
  refine ⟨fun pins s σ H Q I h => ?_⟩
  refine wpAny_Call_Name_kw (ld_blt I hgl hm boot_any ?_)
  refine PyProof.Rows.callWith_builtin1 ?_ hst (by rfl)
  rw [hst]
  show wpAny _ _ (spliced ((false, eval (.GeneratorExp elt [⟨tg, iter, [], 0⟩] scope gpos) X.env) :: backTo pos (starEach [] X.env))) _ _ s
  refine Calls.spliced_cons (thn (gx_gen hr hc hN TB hcode ok hco hcell h0 hi hg he hs I h) fun u s5 hG => ?_)
  obtain ⟨A', s0, H0, ce, fp, pins', σ0, a, g', k', gob, Q2, rfl, hmem, hgo, hgen, hba, hl, hrd, hback⟩ := hG
  refine Calls.spliced_nil ?_
  refine call_function_tree F.kind_any F.plain_any F.entry_any (F.args_any1 _) ?_
  unfold Builtin.«any»
  refine wpAny_bind (m := oneArg "any" _) (wpAny_pure ?_)
  refine wpAny_bind (wpAny_pyIter_gen hgen ?_)
  refine wpAny_pure ⟨plainId_quiet F.plain_any_loop _, codeAny_mono (loop_any (G := gxOf X A' s0 H0 ce fp) (A := X.A) hr.hd hr.depth hmem hgo k' s5 hgen hba hl hrd) fun r s' hq => ?_⟩
  obtain ⟨b, H', rfl, I', q'⟩ := hq
  obtain ⟨H'', I'', q''⟩ := hback b H' s' I' q'
  exact ⟨.bl b, H'', I'', rfl, q''⟩
end
end Gx

set_option Elab.async false
set_option linter.all false
set_option maxRecDepth 100000
set_option maxHeartbeats 4000000
namespace My
open PySem PySem.Spec PyProof.Rows L2

/-! ### what stays -/
/-- what stood stands; a code object's table may have grown -/
def Hld (o : HO) (H' : Hp) (b : Addr) : Prop := H' b = some o ∨ ∃ ps ps', o = .tbl ps ∧ H' b = some (.tbl ps') ∧ (TriplesOk ps.toList → TriplesOk ps'.toList)
theorem Hld.get {o : HO} {H' : Hp} {b : Addr} (h : Hld o H' b) (n : ∀ q, o ≠ .tbl q) : H' b = some o := by
  rcases h with h | ⟨ps, _, z, _⟩
  · exact h
  · exact absurd z (n ps)
theorem Hld.tr {o : HO} {H1 H2 : Hp} {b : Addr} (h : Hld o H1 b) (f : ∀ o, H1 b = some o → Hld o H2 b) : Hld o H2 b := by
  rcases h with h | ⟨ps, ps', z, h, t⟩
  · exact f o h
  · rcases f _ h with h2 | ⟨qs, qs', z2, h2, t2⟩
    · exact .inr ⟨ps, ps', z, h2, t⟩
    · cases z2
      exact .inr ⟨ps, qs', z, h2, fun y => t2 (t y)⟩
theorem Hld.some {o : HO} {H' : Hp} {b : Addr} (h : Hld o H' b) : ∃ u, H' b = some u := by
  rcases h with h | ⟨_, _, _, h, _⟩
  · exact ⟨_, h⟩
  · exact ⟨_, h⟩
def Sm (H H' : Hp) : Prop := ∀ b o, H b = some o → Hld o H' b
theorem Sm.refl (H : Hp) : Sm H H := fun _ _ h => .inl h
theorem Sm.trans {H H1 H2 : Hp} (a : Sm H H1) (b : Sm H1 H2) : Sm H H2 := fun c o h => (a c o h).tr fun o' h' => b c o' h'
theorem Sm.free {H H' : Hp} (e : Sm H H') {l : Addr} (h : H' l = none) : H l = none := by
  cases q : H l with
  | none => rfl
  | some o =>
    obtain ⟨u, z⟩ := (e l o q).some
    rw [h] at z; cases z
theorem Sm.g {H H' : Hp} {b : Addr} {o : HO} (e : Sm H H') (h : H b = some o) (n : ∀ q, o ≠ .tbl q := by intro q z; cases z) : H' b = some o := (e b o h).get n
theorem Sm.of {H H' : Hp} (e : L2.Same H H') : Sm H H' := fun b o h => .inl (e b o h)
theorem Sm.tabbed {P : Addr} {H H' : Hp} (h0 : GxR.TabG H P) (t : GxR.Tabbed P H H') : Sm H H' := fun b o h => by
  by_cases hb : b = P
  · subst hb
    obtain ⟨ps, e, _⟩ := h0
    obtain ⟨⟨ps', e', t'⟩, _⟩ := t
    rw [e] at h; cases h
    exact .inr ⟨ps, ps', rfl, e', fun _ => t'⟩
  · exact .inl ((t.2 b hb).trans h)
theorem Sm.tab {P : Addr} {H H' : Hp} (e : Sm H H') (h : GxR.TabG H P) : GxR.TabG H' P := by
  obtain ⟨ps, z, t⟩ := h
  rcases e _ _ z with y | ⟨qs, qs', w, y, t2⟩
  · exact ⟨ps, y, t⟩
  · cases w
    exact ⟨qs', y, t2 t⟩
theorem Sm.sql {K : PySem.W.Frag} {H H' : Hp} {a : Addr} {xs : List V} (e : Sm H H') (h : SqL K H a xs) : SqL K H' a xs := by
  rcases h with (h | ⟨o, h⟩) | h
  · exact .inl (.inl (e.g h))
  · exact .inl (.inr ⟨o, e.g h⟩)
  · exact .inr h
theorem sqt_up {K : PySem.W.Frag} {H H' : Hp} {a : Addr} {xs : List V} (e : Sm H H') (h : SqT K H a xs) : SqT K H' a xs := by
  rcases h with (h | ⟨o, h⟩) | h
  · exact .inl (.inl (e.g h))
  · exact .inl (.inr ⟨o, e.g h⟩)
  · exact .inr h
theorem sql_up {K : PySem.W.Frag} {H H' : Hp} {a : Addr} {xs : List V} (e : Sm H H') (h : SqL K H a xs) : SqL K H' a xs := e.sql h
mutual
theorem dp_up {K : PySem.W.Frag} {H H' : Hp} (e : Sm H H') : ∀ (d : PyData) (v : V), Dp K H v d → Dp K H' v d
  | .none, _, h => by cases h; exact .non
  | .bool b, _, h => by cases h; exact .bl b
  | .int i, _, h => by cases h; exact .int i
  | .str x, _, h => by cases h; exact .str x
  | .list ds, _, h => by
    cases h with
    | lst hs ha => exact .lst (sql_up e hs) (dpa_up e ds _ ha)
  | .tuple ds, _, h => by
    cases h with
    | tup hs ha => exact .tup (sqt_up e hs) (dpa_up e ds _ ha)
  | .dict _, _, h => by cases h
theorem dpa_up {K : PySem.W.Frag} {H H' : Hp} (e : Sm H H') : ∀ (ds : List PyData) (vs : List V), DpAll K H vs ds → DpAll K H' vs ds
  | [], _, h => by cases h; exact .nil
  | d :: ds, _, h => by
    cases h with
    | cons h1 h2 => exact .cons (dp_up e d _ h1) (dpa_up e ds _ h2)
end
theorem same_new {H : Hp} {p : Addr} {o : HO} (h : H p = none) : Sm H (upd H p o) := fun b u e => by
  refine .inl ?_
  rw [upd_ne (ne_of_none e h)]
  exact e

/-! ### operators, every kind at once -/
def rAddA (K : PySem.W.Frag) : R2 := fun x y H Q => match x, y with
  | .int i, .int j => Q (.int (i + j)) H
  | .str a, .str b => a.length + b.length ≤ sizeLine ∧ Q (.str (a ++ b)) H
  | x, y => rCat x y H Q ∨ rCatA K x y H Q
def rEqA (K : PySem.W.Frag) : R2 := fun x y H Q => (scal x y = true ∧ Q (.bl (decide (x = y))) H) ∨ rEqD K x y H Q
def rNeA (K : PySem.W.Frag) : R2 := fun x y H Q => (scal x y = true ∧ Q (.bl (!decide (x = y))) H) ∨ rNeD K x y H Q
/-- // by anything but 0, not too great -/
def CDivX (i j : Int) : Prop := j ≠ 0 ∧ Builtin.divisionGoesByPylong i j = false
def rLenA (K : PySem.W.Frag) : List V → Hp → VK → Prop := fun xs H Q => (∃ p ys, xs = [.ref p] ∧ (SqL K H p ys ∨ SqT K H p ys) ∧ Q (.int ys.length) H) ∨ (∃ z, xs = [.str z] ∧ z.length ≤ sizeLine ∧ Q (.int z.length) H)
def rIxA (K : PySem.W.Frag) : R2 := fun x y H Q => match x, y with
  | .ref a, .int i => ∃ xs v, (SqL K H a xs ∨ SqT K H a xs) ∧ atI xs i = some v ∧ Q v H
  | x, y => rIxS x y H Q
section
variable {X : Cx}
theorem op_fdivX : OpR X (binaryOp .FloorDiv) (rI CDivX fun i j => .int (i.fdiv j)) := opI fun i j _ _ _ _ _ hc q => floordiv_int hc.1 q (.inl hc.2)
theorem op_addA' : OpR X (binaryOp .Add) (rAddA X.K) := by
  intro pins s σ H x y v u Q I rx ry h
  cases x with
  | int i =>
    cases y with
    | int j => exact op_add pins s σ H _ _ v u Q I rx ry ⟨i, j, rfl, rfl, h⟩
    | _ => exact (h.elim (op_cat pins s σ H _ _ v u Q I rx ry) (op_catA pins s σ H _ _ v u Q I rx ry))
  | str a =>
    cases y with
    | str b => exact op_add_str pins s σ H _ _ v u Q I rx ry ⟨a, b, rfl, rfl, h.1, h.2⟩
    | _ => exact (h.elim (op_cat pins s σ H _ _ v u Q I rx ry) (op_catA pins s σ H _ _ v u Q I rx ry))
  | _ => exact (h.elim (op_cat pins s σ H _ _ v u Q I rx ry) (op_catA pins s σ H _ _ v u Q I rx ry))
theorem op_eqA' (hu : X.A.units + 64 < cLine) : OpR X (compareOp .Eq) (rEqA X.K) := by
  intro pins s σ H x y v u Q I rx ry h
  exact h.elim (op_eq pins s σ H x y v u Q I rx ry) (op_eqD hu pins s σ H x y v u Q I rx ry)
theorem op_neA' (hu : X.A.units + 64 < cLine) : OpR X (compareOp .NotEq) (rNeA X.K) := by
  intro pins s σ H x y v u Q I rx ry h
  exact h.elim (op_ne pins s σ H x y v u Q I rx ry) (op_neD hu pins s σ H x y v u Q I rx ry)
theorem ix_any' : IxR X (rIxA X.K) := by
  intro ve se pins s σ H x y v u Q I rx ry h hsub
  cases x with
  | ref a =>
    cases y with
    | int i =>
      obtain ⟨xs, w, hs, ha, q⟩ := h
      rcases hs with hs | hs
      · exact ix_list ve se pins s σ H _ _ v u Q I rx ry ⟨a, xs, i, w, rfl, rfl, hs, ha, q⟩ hsub
      · exact ix_tup ve se pins s σ H _ _ v u Q I rx ry ⟨a, xs, i, w, rfl, rfl, hs, ha, q⟩ hsub
    | _ => exact ix_str ve se pins s σ H _ _ v u Q I rx ry h hsub
  | _ => exact ix_str ve se pins s σ H _ _ v u Q I rx ry h hsub
theorem call_lenA' : CallR X (.builtin "len") (rLenA X.K) := by
  intro pins s σ H xs us Q I r h
  exact h.elim (call_len_seq pins s σ H xs us Q I r) (call_len_str pins s σ H xs us Q I r)
end
/-! ### isinstance of the exception that a suite holds -/
def rIsEA (K : PySem.W.Frag) (a : Addr) (cls : Value) (d : Option Addr) : List V → Hp → VK → Prop := fun xs H Q => ∃ D, cls = .ref D ∧ d = none ∧ ExcC K D ∧
  ((∃ (c : V) (cv : Value) (b : Bool), xs = [.ref a, c] ∧ ClsV c cv ∧ PySem.W.kitOne K (.ref D) cv = some b ∧ Q (.bl b) H) ∨
   (∃ (tp : Addr) (cs : List V) (us : List Value) (b : Bool), xs = [.ref a, .ref tp] ∧ H tp = some (.tup cs) ∧ Paired ClsV cs us ∧ PySem.W.kitAny K (.ref D) us = some b ∧ Q (.bl b) H))
theorem call_isEA {X : Cx} {a : Addr} {cls : Value} {d : Option Addr} {oe : Obj} {pn : List (Addr × Obj)} (hz : Zc cls d oe) (hf : ∃ vs, oe.data = .fields vs) : CallR (X.suite a ((a, oe) :: pn)) (.builtin "isinstance") (rIsEA X.K a cls d) := by
  intro pins s σ H xs us Q I r h
  obtain ⟨D, rfl, rfl, C, ⟨c, cv, b, rfl, hc, e, q⟩ | ⟨tp, cs, ws, b, rfl, hT, k, e, q⟩⟩ := h
  · exact call_isE C hz hf pins s σ H _ us Q I r ⟨c, cv, b, rfl, fun u ru => hc.eq ru, e, q⟩
  · obtain ⟨u1, u2, rfl, rx, r2⟩ := vals2 r
    cases (show u2 = Value.ref tp from r2)
    cases (show u1 = Value.ref a from rx)
    obtain ⟨_, its, rv, o, h1, h2, n, h3⟩ := (show ObjOk X.prog X.w H s.heap tp (.tup cs) from I.hok tp _ hT)
    have e3 := ClsV.all k rv
    subst e3
    obtain ⟨oc, od, dt, sl⟩ := o
    simp only at h2 h3
    subst h2 h3
    obtain ⟨hget, _⟩ := I.pin (a, oe) (List.mem_append.mpr (.inl List.mem_cons_self))
    obtain ⟨vs, hv⟩ := hf
    have J : PySem.W.InstAt s.heap a oe D none := by
      obtain ⟨oc, od, oda, osl⟩ := oe
      obtain ⟨h1, h2⟩ := hz
      dsimp only at h1 h2 hv
      subst h1 h2 hv
      exact ⟨hget, rfl, rfl, trivial⟩
    exact PySem.W.kia_tup (PySem.W.handS_kitx_exc C.hg C.hk C.hs C.hd C.ha C.hn C.ht C.hm) I.kIn J h1 e (fun z => nomatch z) fun tk => ⟨.bl b, H, I.kept (t' := tk) fun _ _ z => z, rfl, q⟩
def tTruA (K : PySem.W.Frag) (te : TE) : TT := fun σ H Q => te σ H fun x H1 => ∃ k, TruV K x H1 k ∧ Q k H1
theorem my_tru {X : Cx} {e : Expr} {t : TE} (h : PE X e t) (he : ∀ whole, isTrue e X.env whole = (do let v ← whole; standAt e.pos; holding [v] (truthy v)) := by intro _; rfl) : PT X e (tTruA X.K t) := pt_truth h he
def rDivmod : List V → Hp → VK → Prop := fun xs H Q => ∃ i j, xs = [.int i, .int j] ∧ CDivP i j ∧ ∀ p, H p = none → Q (.ref p) (upd H p (.tup [.int (i / j), .int (i % j)]))
theorem call_divmodN {X : Cx} : CallR X (.builtin "divmod") rDivmod := call_divmodW
theorem rd_divmod {i j : Int} {H : Hp} {Q : VK} (c : CDivP i j) (k : ∀ p H2, H p = none → Sm H H2 → H2 p = some (.tup [.int (i / j), .int (i % j)]) → Q (.ref p) H2) : rDivmod [.int i, .int j] H Q := ⟨i, j, rfl, c, fun p hp => k p _ hp (same_new hp) upd_same⟩
section
variable {X : Cx} (K : PySem.W.Frag)
theorem op_addA (hK : X.K = K := by rfl) : OpR X (binaryOp .Add) (rAddA K) := by subst hK; exact op_addA'
theorem op_eqA (hu : X.A.units + 64 < cLine) (hK : X.K = K := by rfl) : OpR X (compareOp .Eq) (rEqA K) := by subst hK; exact op_eqA' hu
theorem op_neA (hu : X.A.units + 64 < cLine) (hK : X.K = K := by rfl) : OpR X (compareOp .NotEq) (rNeA K) := by subst hK; exact op_neA' hu
theorem ix_any (hK : X.K = K := by rfl) : IxR X (rIxA K) := by subst hK; exact ix_any'
theorem call_lenA (hK : X.K = K := by rfl) : CallR X (.builtin "len") (rLenA K) := by subst hK; exact call_lenA'
theorem my_isi (hK : X.K = K := by rfl) : CallR X (.builtin "isinstance") (rIsi K) := by subst hK; exact call_isi
theorem my_isiT (hK : X.K = K := by rfl) : CallR X (.builtin "isinstance") (rIsiT K) := by subst hK; exact call_isiT
theorem my_any (hc : X.calm = true) (hK : X.K = K := by rfl) : CallR X (.builtin "any") (rAny K) := by subst hK; exact cr_any hc
theorem my_all (hc : X.calm = true) (hK : X.K = K := by rfl) : CallR X (.builtin "all") (rAll K) := by subst hK; exact cr_all hc
theorem my_in (hK : X.K = K := by rfl) : OpR X (compareOp .In) (rIn K false) := by subst hK; exact op_in_seq
theorem my_notin (hK : X.K = K := by rfl) : OpR X (compareOp .NotIn) (rIn K true) := by subst hK; exact op_notIn_seq
theorem my_isE {a : Addr} {cls : Value} {d : Option Addr} {oe : Obj} {pn : List (Addr × Obj)} (hz : Zc cls d oe) (hf : ∃ vs, oe.data = .fields vs) (hK : X.K = K := by rfl) : CallR (X.suite a ((a, oe) :: pn)) (.builtin "isinstance") (rIsEA K a cls d) := by subst hK; exact call_isEA hz hf
theorem my_truth {e : Expr} {t : TE} (h : PE X e t) (hK : X.K = K := by rfl) (he : ∀ whole, isTrue e X.env whole = (do let v ← whole; standAt e.pos; holding [v] (truthy v)) := by intro _; rfl) : PT X e (tTruA K t) := by subst hK; exact my_tru h he
theorem my_gtup {es : List Expr} {k : Nat} {pos : Pos} {t : TGs} (n : Nat) (hc : X.calm = true) (h : PGs X es t) (hK : X.K = K := by rfl) (hn : (assignEach es X.env).length = n := by rfl) (hst : List.findIdx? (fun x => x.1) (assignEach es X.env) = none := by rfl) : PG X (.Tuple es k pos) (gTup K n t) := by subst hK; subst hn; exact pg_tup hc h (hst := hst)
theorem my_ilist {tg l : Expr} {tl : TE} (h : PE X l tl) (hK : X.K = K := by rfl) : PI X tg l (iList K tl) := by subst hK; exact pi_list h
theorem my_itup {tg l : Expr} {tl : TE} (h : PE X l tl) (hK : X.K = K := by rfl) : PI X tg l (iTup K tl) := by subst hK; exact pi_tup h
end
/-- two statements, what holds between them said -/
def tCutE (t u : TS) : TS := fun D σ H => ∃ J : L2.St → Hp → Prop, t { D with nx := J } σ H ∧ ∀ σ' H', J σ' H' → u D σ' H'
theorem pss_cutE {X : Cx} {st : Stmt} {rest : List Stmt} {t u : TS} (h1 : PS X st t) (h2 : PSs X rest u) : PSs X (st :: rest) (tCutE t u) := by
  refine ⟨fun pins s σ H D I h => ?_⟩
  obtain ⟨J, a, b⟩ := h
  refine wpAny_execs_cons (thn (h1.run pins s σ H { D with nx := J } I a) fun f s1 q => ?_)
  cases f with
  | next =>
    obtain ⟨σ', H', I', q⟩ := q
    exact h2.run pins s1 σ' H' D I' (b σ' H' q)
  | ret v => exact q
  | brk => exact q
  | cont => exact q
theorem rd_cut {t u : TS} {D : Ends} {σ : L2.St} {H : Hp} (J : L2.St → Hp → Prop) (h1 : t { D with nx := J } σ H) (h2 : ∀ σ' H', J σ' H' → u D σ' H') : tCutE t u D σ H := ⟨J, h1, h2⟩
theorem rd_cutS {t u : TS} {D : Ends} {σ : L2.St} {H : Hp} (R : Hp → Prop) (h1 : t { D with nx := fun σ' H' => σ' = σ ∧ R H' } σ H) (h2 : ∀ H', R H' → u D σ H') : tCutE t u D σ H :=
  ⟨_, h1, fun σ' H' z => by obtain ⟨rfl, z⟩ := z; exact h2 H' z⟩
/-- {k: v}, k a tuple -/
def tDispT (tk tv : TE) : TE := fun σ H Q => ∀ p, H p = none → tk σ (upd H p (.dT [])) fun x H1 => tv σ H1 fun y H2 => ∃ b ks, x = .ref b ∧ H2 p = some (.dT []) ∧ H2 b = some (.tup (ks.map kV)) ∧ Q (.ref p) (upd H2 p (.dT (putK [] ks y)))
theorem pe_dispT {X : Cx} {k v : Expr} {tk tv : TE} {pos : Pos} (hu : X.A.units + 64 < cLine) (hk : PE X k tk) (hv : PE X v tv) : PE X (.Dict [some k] [v] pos) (tDispT tk tv) := by
  refine ⟨fun pins s σ H Q I q => ?_⟩
  have hn := I.hok.fresh (Nat.le_refl s.heap.objs.size)
  have I1 := I.laid (a := s.heap.objs.size) (o := .dT []) (h' := s.heap.push { cls := .type "dict", data := .dict #[] }) (t' := s.toks) (fun _ _ q => Heap.get?_push_of_some _ q) (Nat.le_refl _) (dt_empty s.heap I.big)
  have z := zip_pairTrees [some k] [v] X.env pos rfl rfl
  rw [arm_eval_Dict, z, dictDisplay_pairs _ (by simp [pairTrees]) (by simp [pairTrees])]
  refine wpAny_bind (wpAny_standAt (wpAny_bind ?_))
  unfold subDict
  refine wpAny_bind (wpAny_alloc ?_)
  refine wpAny_bind (wpAny_holding ?_)
  rw [if_pos (by simp [pairTrees])]
  refine wpAny_bind ?_
  refine pairTrees_cons_walk (thn (hk.run pins _ σ _ _ I1 (q _ hn)) fun u s1 ⟨x, H1, J1, rx, q1⟩ => thn (hv.run pins s1 σ H1 _ J1 q1) fun w2 s2 ⟨y, H2, J2, ry, q2⟩ => pairTrees_nil_walk ?_)
  obtain ⟨b, ks, rfl, ep, eb, q3⟩ := q2
  cases (show u = Value.ref b from rx)
  obtain ⟨z, hd, xs, rel, dd⟩ := dt_of J2.hok ep
  refine wpAny_holding ?_
  rw [List.forIn_cons]
  have hz : xs.length ≤ sizeLine := by rw [← Paired.length rel]; exact z
  refine wpAny_bind (wpAny_bind (wpAny_bind (wpAny_dictSet_heap (hsz := hz) (show X.A.units < cLine by omega) (key_of J2.hok eb) dd fun h' dd' hs => wpAny_pure ?_)))
  dsimp only
  rw [List.forIn_nil]
  obtain ⟨o, es, en, hq, h2, h3, h4, _, h5⟩ := dd'
  have hl : (putK ([] : List (List Key × V)) ks y).length ≤ sizeLine := by
    have := length_putK ([] : List (List Key × V)) ks y
    rw [List.length_nil] at this
    exact Nat.le_trans this (by decide)
  refine wpAny_pure (wpAny_pure (wpAny_pure (wpAny_pure ⟨.ref s.heap.objs.size, _, ?_, rfl, q3⟩)))
  refine d_write J2 (by rw [ep]; exact True.intro) hs ⟨o, hq⟩ ⟨hl, hd, _, (rel.put ks eb ry).keeps fun c ys ec => ?_, o, es, en, hq, h2, h3, h4, h5⟩
  rw [upd_ne (ne_of ec ep (fun z => nomatch z))]
  exact ec
def rInt1 : List V → Hp → VK → Prop := fun xs H Q => (∃ i, xs = [.int i] ∧ Q (.int i) H) ∨ ∃ k, xs = [.bl k] ∧ Q (.int (if k then 1 else 0)) H
theorem my_int1 {X : Cx} : CallR X (.type "int") rInt1 := call_int1
theorem rd_int1 {i : Int} {H : Hp} {Q : VK} (k : Q (.int i) H) : rInt1 [.int i] H Q := .inl ⟨i, rfl, k⟩
theorem rd_int1b {b : Bool} {H : Hp} {Q : VK} (k : Q (.int (if b then 1 else 0)) H) : rInt1 [.bl b] H Q := .inr ⟨b, rfl, k⟩
theorem bt_isinstance : bootBuiltins "isinstance" = some (.builtin "isinstance") := by decide +kernel
theorem bt_len : bootBuiltins "len" = some (.builtin "len") := by decide +kernel
theorem bt_abs : bootBuiltins "abs" = some (.builtin "abs") := by decide +kernel
theorem bt_max : bootBuiltins "max" = some (.builtin "max") := by decide +kernel
theorem bt_min : bootBuiltins "min" = some (.builtin "min") := by decide +kernel
theorem bt_divmod : bootBuiltins "divmod" = some (.builtin "divmod") := by decide +kernel
theorem bt_any : bootBuiltins "any" = some (.builtin "any") := by decide +kernel
theorem bt_all : bootBuiltins "all" = some (.builtin "all") := by decide +kernel
theorem bt_sum : bootBuiltins "sum" = some (.builtin "sum") := by decide +kernel
theorem bt_sorted : bootBuiltins "sorted" = some (.builtin "sorted") := by decide +kernel
theorem bt_int : bootBuiltins "int" = some (.type "int") := by decide +kernel
theorem bt_bool : bootBuiltins "bool" = some (.type "bool") := by decide +kernel
theorem bt_list : bootBuiltins "list" = some (.type "list") := by decide +kernel
theorem bt_tuple : bootBuiltins "tuple" = some (.type "tuple") := by decide +kernel
theorem bt_str : bootBuiltins "str" = some (.type "str") := by decide +kernel
theorem bt_ord : bootBuiltins "ord" = some (.builtin "ord") := by decide +kernel
theorem hu64 {A : Around} {k : Nat} (hr : Room k A) : A.units + 64 < cLine := by have := hr.un; omega
end My

/-! ### fractions as rational numbers -/
namespace My
/-- the divisor: the greatest common one, with the bottom's sign -/
def dv (t b : Int) : Int := if b < 0 then -((t.natAbs.gcd b.natAbs : Nat) : Int) else ((t.natAbs.gcd b.natAbs : Nat) : Int)
theorem gcd_pos {t b : Int} (h : b ≠ 0) : 0 < t.natAbs.gcd b.natAbs := Nat.gcd_pos_of_pos_right _ (Int.natAbs_pos.mpr h)
theorem dv_ne {t b : Int} (h : b ≠ 0) : dv t b ≠ 0 := by
  have := gcd_pos (t := t) h
  unfold dv; split <;> omega
theorem num_dv {t b : Int} (h : b ≠ 0) : t.fdiv (dv t b) = (Rat.divInt t b).num := by
  have g0 := gcd_pos (t := t) h
  have e : b.gcd t = t.natAbs.gcd b.natAbs := Nat.gcd_comm _ _
  rw [Rat.num_divInt, e]
  unfold dv
  split
  · rename_i hb
    rw [Int.sign_eq_neg_one_of_neg hb, ← Int.neg_fdiv_neg, Int.neg_neg, Int.fdiv_eq_ediv_of_nonneg _ (by omega), Int.neg_one_mul]
  · rw [Int.sign_eq_one_of_pos (by omega), Int.fdiv_eq_ediv_of_nonneg _ (by omega), Int.one_mul]
theorem den_dv {t b : Int} (h : b ≠ 0) : b.fdiv (dv t b) = ((Rat.divInt t b).den : Int) := by
  have g0 := gcd_pos (t := t) h
  have e : b.gcd t = t.natAbs.gcd b.natAbs := Nat.gcd_comm _ _
  rw [Rat.den_divInt, if_neg h, e]
  unfold dv
  split
  · rename_i hb
    rw [← Int.neg_fdiv_neg, Int.neg_neg, Int.fdiv_eq_ediv_of_nonneg _ (by omega)]
    have : -b = (b.natAbs : Int) := by omega
    rw [this]; rfl
  · rw [Int.fdiv_eq_ediv_of_nonneg _ (by omega)]
    have : b = (b.natAbs : Int) := by omega
    conv => lhs; rw [this]
    rfl
theorem den_ne (q : Rat) : (q.den : Int) ≠ 0 := by have := q.den_nz; omega
theorem add_as (q r : Rat) : Rat.divInt (q.num * r.den + r.num * q.den) (q.den * r.den) = q + r := by
  rw [← Rat.divInt_add_divInt _ _ (den_ne q) (den_ne r), Rat.num_divInt_den, Rat.num_divInt_den]
theorem sub_as (q r : Rat) : Rat.divInt (q.num * r.den - r.num * q.den) (q.den * r.den) = q - r := by
  rw [← Rat.divInt_sub_divInt _ _ (den_ne q) (den_ne r), Rat.num_divInt_den, Rat.num_divInt_den]
theorem mul_as (q r : Rat) : Rat.divInt (q.num * r.num) (q.den * r.den) = q * r := by
  rw [← Rat.divInt_mul_divInt, Rat.num_divInt_den, Rat.num_divInt_den]
theorem div_as (q r : Rat) : Rat.divInt (q.num * r.den) (q.den * r.num) = q / r := by
  rw [← Rat.divInt_mul_divInt, ← Rat.inv_divInt r.num, Rat.num_divInt_den, Rat.num_divInt_den, ← Rat.div_def]
theorem lt_as (q r : Rat) : decide (q.num * r.den < r.num * q.den) = decide (q < r) := by
  rw [decide_eq_decide]; exact (Rat.lt_iff q r).symm
theorem num_ne {q : Rat} (h : q ≠ 0) : q.num ≠ 0 := fun e => h (Rat.num_eq_zero.mp e)
/-- both parts below 2 ^ n -/
structure Sz (n : Nat) (q : Rat) : Prop where
  nu : q.num.natAbs < 2 ^ n
  de : q.den < 2 ^ n
theorem Sz.mono {n m : Nat} {q : Rat} (h : Sz n q) (l : n ≤ m) : Sz m q :=
  ⟨Nat.lt_of_lt_of_le h.nu (Nat.pow_le_pow_right (by decide) l), Nat.lt_of_lt_of_le h.de (Nat.pow_le_pow_right (by decide) l)⟩
theorem Sz.div {n : Nat} {t b : Int} (hb : b ≠ 0) (h1 : t.natAbs < 2 ^ n) (h2 : b.natAbs < 2 ^ n) : Sz n (Rat.divInt t b) := by
  have g0 := gcd_pos (t := t) hb
  constructor
  · rw [Rat.num_divInt]
    have l : (b.sign * t / ((b.gcd t : Nat) : Int)).natAbs ≤ t.natAbs := by
      refine Nat.le_trans (Int.natAbs_ediv_le_natAbs _ _) ?_
      rw [Int.natAbs_mul]
      have : b.sign.natAbs ≤ 1 := by rw [Int.natAbs_sign]; split <;> omega
      calc b.sign.natAbs * t.natAbs ≤ 1 * t.natAbs := Nat.mul_le_mul_right _ this
        _ = t.natAbs := Nat.one_mul _
    omega
  · rw [Rat.den_divInt, if_neg hb]
    exact Nat.lt_of_le_of_lt (Nat.div_le_self _ _) h2
theorem mul_lt_pow {a b n m : Nat} (h1 : a < 2 ^ n) (h2 : b < 2 ^ m) : a * b < 2 ^ (n + m) := by
  rw [Nat.pow_add]; exact Nat.mul_lt_mul'' h1 h2
theorem pow_up {a n m : Nat} (h : a < 2 ^ n) (l : n ≤ m) : a < 2 ^ m := Nat.lt_of_lt_of_le h (Nat.pow_le_pow_right (by decide) l)
theorem add_pow {a b n : Nat} (h1 : a < 2 ^ n) (h2 : b < 2 ^ n) : a + b < 2 ^ (n + 1) := by rw [Nat.pow_succ]; omega
theorem Sz.add {n m : Nat} {q r : Rat} (h1 : Sz n q) (h2 : Sz m r) : Sz (n + m + 1) (q + r) := by
  rw [← add_as]
  refine Sz.div (Int.mul_ne_zero (den_ne q) (den_ne r)) ?_ ?_
  · refine Nat.lt_of_le_of_lt (Int.natAbs_add_le _ _) (add_pow ?_ ?_)
    · rw [Int.natAbs_mul]; exact mul_lt_pow h1.nu h2.de
    · rw [Int.natAbs_mul, Nat.add_comm]; exact mul_lt_pow h2.nu h1.de
  · rw [Int.natAbs_mul]; exact pow_up (mul_lt_pow h1.de h2.de) (by omega)
theorem Sz.sub {n m : Nat} {q r : Rat} (h1 : Sz n q) (h2 : Sz m r) : Sz (n + m + 1) (q - r) := by
  rw [← sub_as]
  refine Sz.div (Int.mul_ne_zero (den_ne q) (den_ne r)) ?_ ?_
  · refine Nat.lt_of_le_of_lt (Int.natAbs_sub_le _ _) (add_pow ?_ ?_)
    · rw [Int.natAbs_mul]; exact mul_lt_pow h1.nu h2.de
    · rw [Int.natAbs_mul, Nat.add_comm]; exact mul_lt_pow h2.nu h1.de
  · rw [Int.natAbs_mul]; exact pow_up (mul_lt_pow h1.de h2.de) (by omega)
theorem Sz.mul {n m : Nat} {q r : Rat} (h1 : Sz n q) (h2 : Sz m r) : Sz (n + m) (q * r) := by
  rw [← mul_as]
  refine Sz.div (Int.mul_ne_zero (den_ne q) (den_ne r)) ?_ ?_
  · rw [Int.natAbs_mul]; exact mul_lt_pow h1.nu h2.nu
  · rw [Int.natAbs_mul]; exact mul_lt_pow h1.de h2.de
theorem Sz.dvd {n m : Nat} {q r : Rat} (h1 : Sz n q) (h2 : Sz m r) (h : r ≠ 0) : Sz (n + m) (q / r) := by
  rw [← div_as]
  refine Sz.div (Int.mul_ne_zero (den_ne q) (num_ne h)) ?_ ?_
  · rw [Int.natAbs_mul]; exact mul_lt_pow h1.nu h2.de
  · rw [Int.natAbs_mul]; exact mul_lt_pow h1.de h2.nu
theorem Sz.neg {n : Nat} {q : Rat} (h : Sz n q) : Sz n (-q) := ⟨by rw [Rat.neg_num, Int.natAbs_neg]; exact h.nu, h.de⟩
theorem rat_ext {q r : Rat} (h1 : q.num = r.num) (h2 : q.den = r.den) : q = r := Rat.ext h1 h2
end My

namespace My
open PySem PySem.Spec PyProof.Rows L2
section
variable {X : Cx}
theorem my_ty (n : String) {x : Str} {pos : Pos} (hm : X.mg x = none) (hg : Gl X x := by rfl) (hv : bootBuiltins x = some (.type n) := by decide +kernel) (hn : x ≠ "__name__" := by decide) (hd : (x == ("__debug__" : Str)) = false := by decide) : PE X (.Name x pos) (tC (.ty n)) :=
  pe_bltn hg hm hv rfl hn hd
theorem my_cls {x : Str} {C : Addr} {pos : Pos} (hm : X.mg x = some (.ref C)) (hg : Gl X x := by rfl) (hd : (x == ("__debug__" : Str)) = false := by decide) : PE X (.Name x pos) (tC (.ref C)) := pe_glob hg hm rfl hd
theorem my_const {x : Str} {v : V} {pos : Pos} (h : ∃ u, X.mg x = some u ∧ RelV v u) (hg : Gl X x := by rfl) (hd : (x == ("__debug__" : Str)) = false := by decide) : PE X (.Name x pos) (tC v) := by
  obtain ⟨u, h1, h2⟩ := h
  exact pe_glob hg h1 h2 hd
end

/-! ### the pot: a list of two numbers from 0 on -/
def PotAt (H : Hp) (p : Addr) : Prop := ∃ a b : Int, H p = some (.lst [.int a, .int b]) ∧ 0 ≤ a ∧ 0 ≤ b ∧ b < 2147483648
structure Kp (p : Addr) (H H' : Hp) : Prop where
  old : PotAt H p
  new : PotAt H' p
  keep : ∀ c o, c ≠ p → H c = some o → Hld o H' c
theorem Kp.refl {p : Addr} {H : Hp} (h : PotAt H p) : Kp p H H := ⟨h, h, fun _ _ _ e => .inl e⟩
theorem Kp.trans {p : Addr} {H H1 H2 : Hp} (a : Kp p H H1) (b : Kp p H1 H2) : Kp p H H2 := ⟨a.old, b.new, fun c o n e => (a.keep c o n e).tr fun o' e' => b.keep c o' n e'⟩
theorem PotAt.up {p : Addr} {H H' : Hp} (s : Sm H H') (h : PotAt H p) : PotAt H' p := by
  obtain ⟨a, b, e, r⟩ := h
  exact ⟨a, b, s.g e, r⟩
theorem Kp.of {p : Addr} {H H' : Hp} (s : Sm H H') (h : PotAt H p) : Kp p H H' := ⟨h, h.up s, fun c o _ e => s c o e⟩
theorem Kp.sqt {K : PySem.W.Frag} {p a : Addr} {H H' : Hp} {xs : List V} (k : Kp p H H') (h : SqT K H a xs) : SqT K H' a xs := by
  obtain ⟨i, j, e, _⟩ := k.old
  have ne : ∀ o, H a = some o → (∀ l, o ≠ .lst l) → a ≠ p := fun o ho hl z => by
    subst z
    rw [ho] at e
    exact hl _ (Option.some.inj e)
  rcases h with (h | ⟨o, h⟩) | h
  · exact .inl (.inl ((k.keep _ _ (ne _ h (fun _ z => nomatch z)) h).get fun _ z => nomatch z))
  · exact .inl (.inr ⟨o, (k.keep _ _ (ne _ h (fun _ z => nomatch z)) h).get fun _ z => nomatch z⟩)
  · exact .inr h
/-- free behind, free ahead -/
theorem Kp.free {p l : Addr} {H H' : Hp} (k : Kp p H H') (h : H' l = none) : H l = none := by
  cases q : H l with
  | none => rfl
  | some o =>
    by_cases e : l = p
    · subst e
      obtain ⟨_, _, z, _⟩ := k.new
      rw [h] at z; cases z
    · obtain ⟨u, z⟩ := (k.keep l o e q).some
      rw [h] at z; cases z

/-! ### a fraction: the tuple of its two parts -/
def Fr (K : PySem.W.Frag) (H : Hp) (v : V) (q : Rat) : Prop := ∃ a, v = .ref a ∧ SqT K H a [.int q.num, .int (q.den : Int)]
theorem Fr.up {K : PySem.W.Frag} {H H' : Hp} {v : V} {q : Rat} (s : Sm H H') (h : Fr K H v q) : Fr K H' v q := by
  obtain ⟨a, e, h⟩ := h
  exact ⟨a, e, sqt_up s h⟩
theorem Fr.kp {K : PySem.W.Frag} {p : Addr} {H H' : Hp} {v : V} {q : Rat} (s : Kp p H H') (h : Fr K H v q) : Fr K H' v q := by
  obtain ⟨a, e, h⟩ := h
  exact ⟨a, e, s.sqt h⟩
theorem Fr.dp {K : PySem.W.Frag} {H : Hp} {v : V} {q : Rat} (h : Fr K H v q) : Dp K H v (.tuple [.int q.num, .int (q.den : Int)]) := by
  obtain ⟨a, rfl, h⟩ := h
  exact .tup h (.cons (.int _) (.cons (.int _) .nil))

/-! ### the readings, one construct a rule -/
section
variable {K : PySem.W.Frag} {σ : L2.St} {H : Hp} {Q : VK} {ta tb tc : TE} {te : TA} {D : Ends} {t1 t2 : TS}
theorem rd_var {i : Nat} {v : V} (h : σ[i]? = some (some v)) (k : Q v H) : tVar i σ H Q := ⟨v, h, k⟩
theorem rd_c {v : V} (k : Q v H) : tC v σ H Q := k
theorem rd_op {r : R2} (k : ta σ H fun x H1 => tb σ H1 fun y H2 => r x y H2 Q) : tOp r ta tb σ H Q := k
theorem rd_un {r : V → Hp → VK → Prop} (k : ta σ H fun x H1 => r x H1 Q) : tUn r ta σ H Q := k
theorem rd_nil {R : List V → Hp → Prop} (k : R [] H) : tNil σ H R := k
theorem rd_cons {R : List V → Hp → Prop} (k : ta σ H fun x H1 => te σ H1 fun xs H2 => R (x :: xs) H2) : tCons ta te σ H R := k
theorem rd_callS {sp : Sp} {E : L2.St → XK} (k : te σ H fun vs H1 => sp vs H1 Q (E σ)) : tCallS sp E te σ H Q := k
theorem rd_call {sp : Sp} {E : XK} (k : te σ H fun vs H1 => sp vs H1 Q E) : tCall sp [] E te σ H Q := by
  show te σ H fun vs H1 => sp (vs ++ []) H1 Q E
  simpa using k
theorem rd_cb {r : List V → Hp → VK → Prop} (k : te σ H fun vs H1 => r vs H1 Q) : tCB r te σ H Q := k
/-- a new object -/
def MkO (n : Nat) (o : HO) (H : Hp) (Q : VK) : Prop := n ≤ sizeLine ∧ ∀ p, H p = none → Q (.ref p) (upd H p o)
theorem rd_tup (k : te σ H fun xs H1 => MkO xs.length (.tup xs) H1 Q) : tTup te σ H Q := k
theorem rd_lst (k : te σ H fun xs H1 => MkO xs.length (.lst xs) H1 Q) : tLst te σ H Q := k
theorem rd_I0 {g : Int → Int → V} {i j : Int} (k : Q (g i j) H) : rI0 g (.int i) (.int j) H Q := ⟨i, j, rfl, rfl, k⟩
theorem rd_I {C : Int → Int → Prop} {g : Int → Int → V} {i j : Int} (h : C i j) (k : Q (g i j) H) : rI C g (.int i) (.int j) H Q := ⟨i, j, rfl, rfl, h, k⟩
theorem rd_U {g : Int → V} {i : Int} (k : Q (g i) H) : rU g (.int i) H Q := ⟨i, rfl, k⟩
theorem rd_addI {i j : Int} (k : Q (.int (i + j)) H) : rAddA K (.int i) (.int j) H Q := k
theorem rd_eqI {i j : Int} (k : Q (.bl (decide (i = j))) H) : rEqA K (.int i) (.int j) H Q := .inl ⟨rfl, by simpa using k⟩
theorem rd_neI {i j : Int} (k : Q (.bl (!decide (i = j))) H) : rNeA K (.int i) (.int j) H Q := .inl ⟨rfl, by simpa using k⟩
theorem rd_eqD {x y : V} {d e : PyData} (h1 : Dp K H x d) (h2 : Dp K H y e) (s1 : SeqAt.shaped d = true) (s2 : SeqAt.shaped e = true) (k : Q (.bl (PyData.eqv d e)) H) : rEqA K x y H Q := .inr ⟨d, e, h1, h2, s1, s2, k⟩
theorem rd_neD {x y : V} {d e : PyData} (h1 : Dp K H x d) (h2 : Dp K H y e) (s1 : SeqAt.shaped d = true) (s2 : SeqAt.shaped e = true) (k : Q (.bl (!PyData.eqv d e)) H) : rNeA K x y H Q := .inr ⟨d, e, h1, h2, s1, s2, k⟩
theorem rd_ixF0 {v : V} {q : Rat} (h : Fr K H v q) (k : Q (.int q.num) H) : rIxA K v (.int 0) H Q := by
  obtain ⟨a, rfl, h⟩ := h
  exact ⟨_, _, .inr h, rfl, k⟩
theorem rd_ixF1 {v : V} {q : Rat} (h : Fr K H v q) (k : Q (.int (q.den : Int)) H) : rIxA K v (.int 1) H Q := by
  obtain ⟨a, rfl, h⟩ := h
  exact ⟨_, _, .inr h, rfl, k⟩
theorem rd_ixL {a : Addr} {xs : List V} {i : Int} {v : V} (h : H a = some (.lst xs)) (e : atI xs i = some v) (k : Q v H) : rIxA K (.ref a) (.int i) H Q := ⟨xs, v, .inl (SqL.of h), e, k⟩
theorem rd_ixSL {a : Addr} {xs : List V} {i : Int} {v : V} (h : SqL K H a xs) (e : atI xs i = some v) (k : Q v H) : rIxA K (.ref a) (.int i) H Q := ⟨xs, v, .inl h, e, k⟩
theorem rd_test {R : Bool → Hp → Prop} (k : ta σ H fun x H1 => ∃ b, x = .bl b ∧ R b H1) : tTest ta σ H R := k
theorem rd_any {p : Addr} {bs : List Bool} (h : SqL K H p (bs.map V.bl)) (k : Q (.bl (bs.any id)) H) : rAny K [.ref p] H Q := ⟨p, bs, rfl, h, k⟩
theorem rd_yes {R : Bool → Hp → Prop} (k : R true H) : tYes σ H R := k
theorem rd_lcTv {i j : Nat} {a : Addr} {xs : List V} {te : TE} {vs : List Nat} (hv : σ[j]? = some (some (.ref a))) (h : SqT K H a xs) (hz : xs.length ≤ 1000) (hw : ∀ v, wipe ((wipe σ vs).set i (some v)) vs = wipe σ vs) (f : Nat → V)
    (he : ∀ n x H2, xs[n]? = some x → Sm H H2 → ∀ Q' : VK, (∀ H3, Sm H2 H3 → Q' (f n) H3) → te ((wipe σ vs).set i (some x)) H2 Q') (k : ∀ D H2, Sm H H2 → H2 D = some (.lst ((List.range xs.length).map f)) → Q (.ref D) H2) :
    tLc (iTup K (tVar j)) (gName i) tYes te vs σ H Q := by
  refine ⟨_, hv, a, rfl, ⟨xs, h⟩, fun D hD => ?_⟩
  refine lc_tup (K := K) (a := a) (xs := xs) (fun n H2 => Sm H H2 ∧ H2 D = some (.lst ((List.range n).map f))) ⟨same_new hD, upd_same⟩ (fun n H2 _ p => sqt_up p.1 h) (fun n x H2 hx p => ?_) (fun H2 p => k D H2 p.1 p.2)
  refine ⟨hw _, ?_⟩
  refine rd_yes ?_
  rw [if_pos rfl]
  refine he n x H2 hx p.1 _ fun H3 s3 => ⟨_, s3.g p.2, ?_, ?_, ?_⟩
  · have := (List.getElem?_eq_some_iff.mp hx).1
    rw [List.length_map, List.length_range]
    exact Nat.lt_of_lt_of_le (by omega : n < 1000) (by decide)
  · exact fun c o e => by
      unfold Hld
      rw [upd_ne (ne_of_none e hD)]
      exact (p.1.trans s3) _ _ e
  · show upd H3 D _ D = _
    rw [upd_same, List.range_succ, List.map_append]
    rfl
theorem rd_isE1 {C ea : Addr} {v : V} {cv : Value} {b : Bool} (hC : ExcC K C) (hc : ClsV v cv) (e : PySem.W.kitOne K (.ref C) cv = some b) (k : Q (.bl b) H) : rIsEA K ea (.ref C) none [.ref ea, v] H Q := ⟨C, rfl, rfl, hC, .inl ⟨v, cv, b, rfl, hc, e, k⟩⟩
theorem pairedRefs : ∀ (Cs : List Addr), Paired ClsV (Cs.map V.ref) (Cs.map Value.ref)
  | [] => .nil
  | C :: Cs => .cons (.own C) (pairedRefs Cs)
theorem rd_isET {C ea p : Addr} (Cs : List Addr) {b : Bool} (hC : ExcC K C) (hT : H p = some (.tup (Cs.map V.ref))) (e : PySem.W.kitAny K (.ref C) (Cs.map Value.ref) = some b) (k : Q (.bl b) H) : rIsEA K ea (.ref C) none [.ref ea, .ref p] H Q :=
  ⟨C, rfl, rfl, hC, .inr ⟨p, _, _, b, rfl, hT, pairedRefs Cs, e, k⟩⟩
theorem kit_one {C D : Addr} {b : Bool} (t : PySem.W.typeIn K (.ref C) = some (.type "type")) (i : PySem.W.isClsIn K C = true) (s : PySem.W.subIn K (.ref D) (.ref D) = some true) (h : PySem.W.subIn K (.ref D) (.ref C) = some b) : PySem.W.kitOne K (.ref D) (.ref C) = some b := by
  by_cases e : D = C
  · subst e
    rw [s] at h
    cases h
    unfold PySem.W.kitOne
    rw [if_pos (by simp)]
  · have h0 : (Value.ref D == Value.ref C) = false := by simpa using e
    have i' : (PySem.W.clsIn K C).isSome = true := i
    unfold PySem.W.kitOne
    rw [h0, if_neg Bool.false_ne_true]
    show (if ((PySem.W.clsIn K C).isSome && PySem.W.typeIn K (.ref C) == some (.type "type")) = true then PySem.W.subIn K (.ref D) (.ref C) else none) = some b
    rw [i', t]
    simpa using h
theorem kit_val {D : Addr} {n : String} {b : Bool} (hm : PySem.W.kitMeta n = true) (h : PySem.W.subIn K (.ref D) (.type n) = some b) : PySem.W.kitOne K (.ref D) (.type n) = some b := by
  have h0 : (Value.ref D == Value.type n) = false := rfl
  unfold PySem.W.kitOne
  rw [h0, if_neg Bool.false_ne_true]
  show (if PySem.W.kitMeta n = true then PySem.W.subIn K (.ref D) (.type n) else none) = some b
  rw [if_pos hm]; exact h
theorem rd_truA {R : Bool → Hp → Prop} (k : ta σ H fun x H1 => ∃ b, TruV K x H1 b ∧ R b H1) : tTruA K ta σ H R := k
theorem rd_not {t : TT} {R : Bool → Hp → Prop} (k : t σ H fun c H1 => R (!c) H1) : tNot t σ H R := k
theorem rd_and {t u : TT} {R : Bool → Hp → Prop} (k : t σ H fun c H1 => if c = true then u σ H1 R else R false H1) : tAnd t u σ H R := k
theorem rd_or {t u : TT} {R : Bool → Hp → Prop} (k : t σ H fun c H1 => if c = true then R true H1 else u σ H1 R) : tOr t u σ H R := k
theorem rd_andV (k : ta σ H fun x H1 => ∃ c, x = .bl c ∧ if c = true then tb σ H1 Q else Q (.bl false) H1) : tAndV ta tb σ H Q := k
theorem rd_orV (k : ta σ H fun x H1 => ∃ c, x = .bl c ∧ if c = true then Q (.bl true) H1 else tb σ H1 Q) : tOrV ta tb σ H Q := k
theorem rd_notV (k : ta σ H fun x H1 => ∃ c, x = .bl c ∧ Q (.bl (!c)) H1) : tNotV ta σ H Q := k
theorem rd_if {c : TT} (k : c σ H fun b H1 => if b = true then t1 D σ H1 else t2 D σ H1) : tIfS c t1 t2 D σ H := k
theorem rd_seq (k : t1 { D with nx := t2 D } σ H) : tSeq t1 t2 D σ H := k
theorem rd_asg {g : TG} (k : ta σ H fun x H1 => g x σ H1 D.nx) : tAsg ta g D σ H := k
theorem rd_name {i : Nat} {v : V} {R : L2.St → Hp → Prop} (k : R (σ.set i (some v)) H) : gName i v σ H R := k
theorem rd_par {i j : Nat} (k : te σ H fun vs H1 => ∃ v w, vs = [v, w] ∧ D.nx ((σ.set i (some v)).set j (some w)) H1) : tPar i j te D σ H := k
theorem rd_ret (k : ta σ H D.rt) : tRet ta D σ H := k
theorem rd_drop (k : ta σ H fun _ H1 => D.nx σ H1) : tDrop ta D σ H := k
theorem rd_next (k : D.nx σ H) : tNext D σ H := k
theorem rd_bl {P : Bool → Prop} {b : Bool} (k : P b) : ∃ c, V.bl b = V.bl c ∧ P c := ⟨b, rfl, k⟩
theorem rd_tru {P : Bool → Prop} {b : Bool} (k : P b) : ∃ c, TruV K (.bl b) H c ∧ P c := ⟨b, rfl, k⟩
theorem rd_p2 {v w : V} {P : V → V → Prop} (k : P v w) : ∃ v' w', [v, w] = [v', w'] ∧ P v' w' := ⟨v, w, rfl, k⟩
theorem rd_gcd {i j : Int} (k : Q (.int ((i.natAbs.gcd j.natAbs : Nat) : Int)) H) : rGcd [.int i, .int j] H Q := ⟨i, j, rfl, k⟩
theorem rd_gtup {n : Nat} {g : TGs} {a : Addr} {xs : List V} {R : L2.St → Hp → Prop} (h : SqT K H a xs) (hn : xs.length = n) (k : g xs σ H R) : gTup K n g (.ref a) σ H R := ⟨a, xs, rfl, h, hn, k⟩
theorem rd_gcons {t : TG} {u : TGs} {v : V} {r : List V} {R : L2.St → Hp → Prop} (k : t v σ H fun σ' H' => u r σ' H' R) : gCons t u (v :: r) σ H R := ⟨v, r, rfl, k⟩
theorem rd_gnil {R : L2.St → Hp → Prop} (k : R σ H) : gNil [] σ H R := ⟨rfl, k⟩
/-- isinstance of what has a built-in type -/
theorem rd_isi {x : V} {t n : String} {b : Bool} (ty : TyX K H x (.type t)) (e : kitB t n = some b) (k : Q (.bl b) H) : rIsi K [x, .ty n] H Q := ⟨x, .ty n, .type t, .type n, b, rfl, .ty n, ty, kit_ty e, k⟩
end
theorem Fr.ty {K : PySem.W.Frag} {H : Hp} {v : V} {q : Rat} (h : Fr K H v q) : TyX K H v (.type "tuple") := by
  obtain ⟨a, rfl, h⟩ := h
  rcases h with (h | ⟨o, h⟩) | ⟨o, its, n, h1, h2, _⟩
  · exact .base (.tup h)
  · exact .fTuple h
  · exact .kTuple h1 h2
theorem Kp.tos {p : Addr} {H H1 H2 : Hp} (a : Kp p H H1) (b : Sm H1 H2) : Kp p H H2 := a.trans (Kp.of b a.new)
theorem Kp.sat {p : Addr} {H H1 H2 : Hp} (s : Sm H H1) (b : Kp p H1 H2) (h : PotAt H p) : Kp p H H2 := (Kp.of s h).trans b
theorem sqt_ty {K : PySem.W.Frag} {H : Hp} {a : Addr} {xs : List V} (h : SqT K H a xs) : TyX K H (.ref a) (.type "tuple") := by
  rcases h with (h | ⟨o, h⟩) | ⟨o, its, n, h1, h2, _⟩
  · exact .base (.tup h)
  · exact .fTuple h
  · exact .kTuple h1 h2
theorem ty_int {K : PySem.W.Frag} {H : Hp} (i : Int) : TyX K H (.int i) (.type "int") := .base (.int i)
end My

set_option exponentiation.threshold 10000
namespace My
open PySem PySem.Spec PyProof.Rows L2
theorem iteP {c : Bool} {A B : Prop} (h : c = true) (k : A) : if c = true then A else B := by rw [if_pos h]; exact k
theorem iteN {c : Bool} {A B : Prop} (h : c = false) (k : B) : if c = true then A else B := by rw [h, if_neg Bool.false_ne_true]; exact k
theorem dv_of_neg {t b : Int} (h : b < 0) : -(((t.natAbs.gcd b.natAbs : Nat)) : Int) = dv t b := by unfold dv; rw [if_pos h]
theorem dv_of_pos {t b : Int} (h : ¬ b < 0) : (((t.natAbs.gcd b.natAbs : Nat)) : Int) = dv t b := by unfold dv; rw [if_neg h]
theorem dv_lt {t b : Int} {n : Nat} (hb : b ≠ 0) (h : b.natAbs < 2 ^ n) : (dv t b).natAbs < 2 ^ n := by
  have l : t.natAbs.gcd b.natAbs ≤ b.natAbs := Nat.gcd_le_right _ (Int.natAbs_pos.mpr hb)
  unfold dv; split <;> omega
theorem npl {x y : Int} {n : Nat} (h : y.natAbs < 2 ^ n) (h0 : 0 < n) (hn : n ≤ 9000) : Builtin.divisionGoesByPylong x y = false :=
  PyProof.noPylong_of_log2 (Nat.lt_of_lt_of_le (PySem.Flt.log2_lt_of h0 h) hn)
theorem le2 {x y : V} : [x, y].length ≤ 1000 := Nat.le_of_ble_eq_true rfl
section
variable {K : PySem.W.Frag} {σ : L2.St} {H : Hp} {Q : VK}
theorem rd_fd {i j : Int} {n : Nat} (h0 : j ≠ 0) (h : j.natAbs < 2 ^ n) (k : Q (.int (i.fdiv j)) H) (hz : 0 < n := by decide) (hn : n ≤ 9000 := by decide) : rI CDivX (fun i j => .int (i.fdiv j)) (.int i) (.int j) H Q := ⟨i, j, rfl, rfl, ⟨h0, npl h hz hn⟩, k⟩
theorem rd_mul {i j : Int} (h : CMulW i j) (k : Q (.int (i * j)) H) : rI CMulW (fun i j => .int (i * j)) (.int i) (.int j) H Q := ⟨i, j, rfl, rfl, h, k⟩
theorem rd_mk {n : Nat} {o : HO} (hl : n ≤ 1000) (k : ∀ p H2, H p = none → Sm H H2 → H2 p = some o → Q (.ref p) H2) : MkO n o H Q :=
  ⟨Nat.le_trans hl (by decide), fun p hp => k p _ hp (same_new hp) upd_same⟩
end
theorem cm {i j : Int} {n m : Nat} (ha : i.natAbs < 2 ^ n) (hb : j.natAbs < 2 ^ m) (h0 : 0 < n := by decide) (h1 : 0 < m := by decide) (h : n + m ≤ 1000000 := by decide) : CMulW i j := wide_mul ha hb h0 h1 h
theorem Sz.cn {n : Nat} {q : Rat} (h : Sz n q) : q.num.natAbs < 2 ^ n := h.nu
theorem Sz.cd {n : Nat} {q : Rat} (h : Sz n q) : (q.den : Int).natAbs < 2 ^ n := by rw [Int.natAbs_natCast]; exact h.de
theorem dd_lt {q r : Rat} (h1 : Sz 4000 q) (h2 : Sz 4000 r) : ((q.den : Int) * (r.den : Int)).natAbs < 2 ^ 8990 := by
  rw [Int.natAbs_mul]; exact pow_up (mul_lt_pow h1.cd h2.cd) (by decide)
theorem dn_lt {q r : Rat} (h1 : Sz 4000 q) (h2 : Sz 4000 r) : ((q.den : Int) * r.num).natAbs < 2 ^ 8990 := by
  rw [Int.natAbs_mul]; exact pow_up (mul_lt_pow h1.cd h2.cn) (by decide)
/-- what is a whole number, by its type -/
def WholeT (t : String) (b : Bool) : Prop := ∃ b1 b2, kitB t "int" = some b1 ∧ kitB t "bool" = some b2 ∧ b = (b1 && !b2)
theorem whole_int : WholeT "int" true := ⟨true, false, by decide +kernel, by decide +kernel, rfl⟩
theorem whole_bool : WholeT "bool" false := ⟨true, true, by decide +kernel, by decide +kernel, rfl⟩
theorem whole_none : WholeT "NoneType" false := ⟨false, false, by decide +kernel, by decide +kernel, rfl⟩
theorem whole_str : WholeT "str" false := ⟨false, false, by decide +kernel, by decide +kernel, rfl⟩
theorem whole_tuple : WholeT "tuple" false := ⟨false, false, by decide +kernel, by decide +kernel, rfl⟩
theorem whole_list : WholeT "list" false := ⟨false, false, by decide +kernel, by decide +kernel, rfl⟩
theorem whole_dict : WholeT "dict" false := ⟨false, false, by decide +kernel, by decide +kernel, rfl⟩
/-- whether it is a fraction -/
inductive IsFrB (K : PySem.W.Frag) (H : Hp) : V → Bool → Prop
  | no {x : V} {t : String} (h : TyX K H x (.type t)) (e : kitB t "tuple" = some false) : IsFrB K H x false
  | len {a : Addr} {xs : List V} (h : SqT K H a xs) (e : xs.length ≠ 2) : IsFrB K H (.ref a) false
  | fst {a : Addr} {x y : V} {t : String} (h : SqT K H a [x, y]) (e : TyX K H x (.type t)) (e2 : WholeT t false) : IsFrB K H (.ref a) false
  | snd {a : Addr} {i : Int} {y : V} {t : String} (h : SqT K H a [.int i, y]) (e : TyX K H y (.type t)) (e2 : WholeT t false) : IsFrB K H (.ref a) false
  | two {a : Addr} {i j : Int} (h : SqT K H a [.int i, .int j]) : IsFrB K H (.ref a) (decide (1 ≤ j) && decide (((i.natAbs.gcd j.natAbs : Nat) : Int) = 1))
theorem Fr.is {K : PySem.W.Frag} {H : Hp} {v : V} {q : Rat} (h : Fr K H v q) : IsFrB K H v true := by
  obtain ⟨a, rfl, h⟩ := h
  have e : (decide ((1 : Int) ≤ (q.den : Int)) && decide (((q.num.natAbs.gcd (q.den : Int).natAbs : Nat) : Int) = 1)) = true := by
    have h1 := q.den_pos
    have h2 : q.num.natAbs.gcd (q.den : Int).natAbs = 1 := by rw [Int.natAbs_natCast]; exact q.reduced
    rw [h2]
    simp; omega
  rw [← e]
  exact .two h
theorem IsFrB.up {K : PySem.W.Frag} {H H' : Hp} {v : V} {b : Bool} (h : IsFrB K H v b) (hv : b = true) : ∃ q, Fr K H v q := by
  cases h with
  | no _ _ => cases hv
  | len _ _ => cases hv
  | fst _ _ _ => cases hv
  | snd _ _ _ => cases hv
  | @two a i j h =>
    simp only [Bool.and_eq_true, decide_eq_true_eq] at hv
    obtain ⟨h1, h2⟩ := hv
    have e : (j.natAbs : Int) = j := by omega
    refine ⟨⟨i, j.natAbs, by omega, by have : i.natAbs.gcd j.natAbs = 1 := by omega
                                       exact this⟩, a, rfl, ?_⟩
    show SqT K H a [.int i, .int (j.natAbs : Int)]
    rw [e]; exact h
theorem q0_iff (q : Rat) : PyData.eqv (.tuple [.int q.num, .int (q.den : Int)]) (.tuple [.int 0, .int 1]) = decide (q = 0) := by
  show (q.num == 0 && ((q.den : Int) == 1 && true)) = decide (q = 0)
  by_cases h : q = 0
  · subst h; rfl
  · have := num_ne h
    rw [decide_eq_false h]
    simp [this]
theorem eqv_self (i j : Int) : PyData.eqv (.tuple [.int i, .int j]) (.tuple [.int i, .int j]) = true := by
  show (i == i && (j == j && true)) = true
  simp
theorem shaped2 (i j : Int) : SeqAt.shaped (.tuple [.int i, .int j]) = true := rfl
theorem mod_rng {i j : Int} (h : 0 < j) : 0 ≤ i % j ∧ i % j < j := ⟨Int.emod_nonneg _ (by omega), Int.emod_lt_of_pos _ h⟩
section
variable {K : PySem.W.Frag} {σ : L2.St} {H : Hp} {Q : VK}
theorem rd_mod {i j : Int} (h : 0 < j) (k : Q (.int (i % j)) H) : rI (fun _ j => 0 < j) (fun i j => .int (i % j)) (.int i) (.int j) H Q := ⟨i, j, rfl, rfl, h, k⟩
theorem rd_pow {i j : Int} (h : CPow i j) (k : Q (.int (i ^ j.toNat)) H) : rI CPow (fun i j => .int (i ^ j.toNat)) (.int i) (.int j) H Q := ⟨i, j, rfl, rfl, h, k⟩
theorem rd_setL {p : Addr} {xs : List V} {i : Int} {j : Nat} {v : V} {R : Hp → Prop} (h : H p = some (.lst xs)) (e : ixN xs.length i = some j) (k : R (upd H p (.lst (xs.set j v)))) : rSetL (.ref p) (.int i) v H R := ⟨p, xs, i, j, rfl, rfl, h, e, k⟩
theorem rd_gsub {to ti : TE} {t : TSet} {v : V} {R : L2.St → Hp → Prop} (k : to σ H fun o H1 => ti σ H1 fun i H2 => t o i v H2 fun H3 => R σ H3) : gSub to ti t v σ H R := k
theorem rd_lenL {p : Addr} {xs : List V} (h : SqL K H p xs) (k : Q (.int xs.length) H) : rLenA K [.ref p] H Q := .inl ⟨p, xs, rfl, .inl h, k⟩
theorem rd_lenT {p : Addr} {xs : List V} (h : SqT K H p xs) (k : Q (.int xs.length) H) : rLenA K [.ref p] H Q := .inl ⟨p, xs, rfl, .inr h, k⟩
end
theorem rd_2i {x y : Int} {P : Int → Int → Prop} (k : P x y) : ∃ i j, [V.int x, V.int y] = [V.int i, V.int j] ∧ P i j := ⟨x, y, rfl, k⟩
theorem rd_1i {x : Int} {P : Int → Prop} (k : P x) : ∃ i, [V.int x] = [V.int i] ∧ P i := ⟨x, rfl, k⟩
theorem rd_for {wi : TI} {g : TG} {tb : TS} {D : Ends} {σ : L2.St} {H : Hp} (k : wi σ H fun J H1 => ∃ W : Nat → Nat → L2.St → Hp → Prop, (∃ m, W 0 m σ H1) ∧ ∀ i m σ H, W i m σ H → (J.stop i H ∧ D.nx σ H) ∨ (J.go i H ∧ ∃ N : L2.St → Hp → Prop, (∀ σ' H', N σ' H' → ∃ m', m' < m ∧ W (i + 1) m' σ' H') ∧ ∀ x H', J.yld i H x H' → g x σ H' fun σ2 H2 => tb { D with nx := N, ct := N, bk := D.nx } σ2 H2)) : tFor wi g tb D σ H := k
theorem rd_rng1 {ta : TA} {σ : L2.St} {H : Hp} {R : It → Hp → Prop} (k : ta σ H fun vs H1 => ∃ j : Int, vs = [.int j] ∧ -(2 ^ 62) ≤ j ∧ j < 2 ^ 62 ∧ R (Itr 0 j.toNat) H1) : iRng1 ta σ H R := k
theorem rd_while {c : TT} {tb : TS} {D : Ends} {σ : L2.St} {H : Hp} (k : ∃ W : Nat → L2.St → Hp → Prop, (∃ m, W m σ H) ∧ ∀ m σ H, W m σ H → c σ H fun b H1 => if b = true then ∃ N : L2.St → Hp → Prop, (∀ σ' H', N σ' H' → ∃ m', m' < m ∧ W m' σ' H') ∧ tb { D with nx := N, ct := N, bk := D.nx } σ H1 else D.nx σ H1) : tWhile c tb D σ H := k
theorem great_step {f d : Int} {i : Nat} (hf : f.natAbs < 2 ^ (32 * i + 1)) (d0 : 0 ≤ d) (d1 : d < 400000000) : (f * 1000000007 + d).natAbs < 2 ^ (32 * (i + 1) + 1) := by
  have e : 2 ^ (32 * (i + 1) + 1) = 2 ^ (32 * i + 1) * 4294967296 := by
    rw [show 32 * (i + 1) + 1 = (32 * i + 1) + 32 by omega, Nat.pow_add]
  have h1 : 1 ≤ 2 ^ (32 * i + 1) := Nat.one_le_two_pow
  rw [e]
  generalize 2 ^ (32 * i + 1) = z at hf h1 ⊢
  omega
theorem abs_nn (t : Int) : 0 ≤ (if t < 0 then -t else t) := by split <;> omega
theorem abs_na (t : Int) : (if t < 0 then -t else t).natAbs = t.natAbs := by split <;> omega
theorem mod_less {x y : Int} (h : 0 < y) : (x % y).natAbs < y.natAbs := by have := mod_rng (i := x) h; omega
theorem euclid {x y : Int} (h : 0 < y) (hx : 0 ≤ x) : y.natAbs.gcd (x % y).natAbs = x.natAbs.gcd y.natAbs := by
  have e : (x % y).natAbs = x.natAbs % y.natAbs := by rw [Int.natAbs_emod_of_nonneg hx]
  rw [e, Nat.gcd_comm, ← Nat.gcd_rec, Nat.gcd_comm]
theorem p59 : (10 : Int) ^ (59 : Int).toNat = 100000000000000000000000000000000000000000000000000000000000 := by decide +kernel
theorem p60 : (10 : Int) ^ (60 : Int).toNat = 1000000000000000000000000000000000000000000000000000000000000 := by decide +kernel
theorem two_ints {i j : Int} {n : Nat} {x : V} (h : [V.int i, V.int j][n]? = some x) : ∃ z, x = V.int z := by
  match n, h with
  | 0, h => exact ⟨i, (Option.some.inj h).symm⟩
  | 1, h => exact ⟨j, (Option.some.inj h).symm⟩
  | n + 2, h => simp at h
section
variable {K : PySem.W.Frag} {H : Hp} {Q : VK}
theorem rd_ix2 {p : Addr} {x y : V} {c : Bool} (h : H p = some (.lst [x, y])) (k : ∀ v, (v = x ∨ v = y) → Q v H) : rIxA K (.ref p) (.int (if c then 1 else 0)) H Q := by
  cases c with
  | false => exact rd_ixL h rfl (k x (.inl rfl))
  | true => exact rd_ixL h rfl (k y (.inr rfl))
theorem rd_ixAny {p : Addr} {xs : List V} {i : Int} (h : H p = some (.lst xs)) (h0 : 0 ≤ i) (h1 : i < xs.length) (k : ∀ v, v ∈ xs → Q v H) : rIxA K (.ref p) (.int i) H Q := by
  refine rd_ixL h (v := xs[i.toNat]'(by omega)) (at_of (j := i.toNat) (by omega) (List.getElem?_eq_getElem (by omega))) (k _ (List.getElem_mem _))
theorem rd_neB {x y : Bool} (k : Q (.bl (!decide (x = y))) H) : rNeA K (.bl x) (.bl y) H Q := .inl ⟨rfl, by simpa using k⟩
theorem rd_cat {l p : Addr} {xs ys : List V} (h1 : H l = some (.lst xs)) (h2 : H p = some (.lst ys)) (hl : xs.length + ys.length ≤ 1000) (k : ∀ q H2, H q = none → Sm H H2 → H2 q = some (.lst (xs ++ ys)) → Q (.ref q) H2) : rAddA K (.ref l) (.ref p) H Q :=
  .inl ⟨l, p, xs, ys, rfl, rfl, h1, h2, Nat.le_trans hl (by decide), fun q hq => k q _ hq (same_new hq) upd_same⟩
theorem rd_catT {l p : Addr} {xs ys : List V} (h1 : SqT K H l xs) (h2 : SqT K H p ys) (n1 : xs ≠ []) (n2 : ys ≠ []) (hl : xs.length + ys.length ≤ 1000) (k : ∀ q H2, H q = none → Sm H H2 → H2 q = some (.tup (xs ++ ys)) → Q (.ref q) H2) : rAddA K (.ref l) (.ref p) H Q :=
  .inr ⟨l, p, xs, ys, rfl, rfl, h1, h2, Nat.le_trans hl (by decide), fun z => (n1 z).elim, fun _ z => (n2 z).elim, fun _ _ q hq => k q _ hq (same_new hq) upd_same⟩
theorem rd_isB {x y : Bool} (k : Q (.bl (decide (x = y))) H) : rIsB (.bl x) (.bl y) H Q := ⟨x, y, rfl, rfl, k⟩
theorem rd_notB {x y : Bool} (k : Q (.bl (!decide (x = y))) H) : rNotB (.bl x) (.bl y) H Q := ⟨x, y, rfl, rfl, k⟩
theorem rd_newK (k : ∀ q H2, H q = none → Sm H H2 → H2 q = some (.dK []) → Q (.ref q) H2) {σ : L2.St} : tDNewK σ H Q := fun q hq => k q _ hq (same_new hq) upd_same
end
theorem rd_dispV {H : Hp} {Q : VK} {σ : L2.St} {i : Nat} {b : Addr} {x y : Int} (h : σ[i]? = some (some (.ref b))) (hb : H b = some (.tup [.int x, .int y])) (k : ∀ d H2, H d = none → Sm H H2 → H2 d = some (.dT [([.inl x, .inl y], .ref b)]) → Q (.ref d) H2) : tDispT (tVar i) (tVar i) σ H Q := fun d hd => by
  refine ⟨_, h, _, h, b, [.inl x, .inl y], rfl, upd_same, ?_, k d _ hd (fun c o e => .inl ?_) upd_same⟩
  · rw [upd_ne (ne_of_none hb hd)]; exact hb
  · rw [upd_ne (ne_of_none e hd), upd_ne (ne_of_none e hd)]; exact e
theorem two_no {K : PySem.W.Frag} {H : Hp} {a : Addr} {i j : Int} (h : SqT K H a [.int i, .int j]) (e : ¬ (1 ≤ j ∧ i.natAbs.gcd j.natAbs = 1)) : IsFrB K H (.ref a) false := by
  have z : (decide (1 ≤ j) && decide (((i.natAbs.gcd j.natAbs : Nat) : Int) = 1)) = false := by
    rw [Bool.eq_false_iff]
    intro w
    simp only [Bool.and_eq_true, decide_eq_true_eq] at w
    exact e ⟨w.1, by omega⟩
  rw [← z]
  exact .two h
theorem gcd2 (i j : Int) : (2 * i).natAbs.gcd (2 * j).natAbs ≠ 1 := by
  rw [Int.natAbs_mul, Int.natAbs_mul]
  show (2 * i.natAbs).gcd (2 * j.natAbs) ≠ 1
  rw [Nat.gcd_mul_left]; omega
/-- a fraction whose tuple is tracked -/
def FrT (H : Hp) (v : V) (q : Rat) : Prop := ∃ a, v = .ref a ∧ H a = some (.tup [.int q.num, .int (q.den : Int)])
theorem FrT.fr {K : PySem.W.Frag} {H : Hp} {v : V} {q : Rat} (h : FrT H v q) : Fr K H v q := by
  obtain ⟨a, e, h⟩ := h
  exact ⟨a, e, SqT.of h⟩
theorem FrT.up {H H' : Hp} {v : V} {q : Rat} (s : Sm H H') (h : FrT H v q) : FrT H' v q := by
  obtain ⟨a, e, h⟩ := h
  exact ⟨a, e, s.g h⟩
theorem FrT.kp {p : Addr} {H H' : Hp} {v : V} {q : Rat} (s : Kp p H H') (h : FrT H v q) : FrT H' v q := by
  obtain ⟨a, e, h⟩ := h
  obtain ⟨i, j, z, _⟩ := s.old
  refine ⟨a, e, (s.keep _ _ (fun w => ?_) h).get fun _ z => nomatch z⟩
  subst w
  rw [h] at z
  cases z
theorem Kp.tup {p a : Addr} {H H' : Hp} {xs : List V} (s : Kp p H H') (h : H a = some (.tup xs)) : H' a = some (.tup xs) := by
  obtain ⟨i, j, z, _⟩ := s.old
  refine (s.keep _ _ (fun w => ?_) h).get fun _ z => nomatch z
  subst w
  rw [h] at z
  cases z
theorem Kp.get {p a : Addr} {H0 H H' : Hp} {o : HO} (s : Kp p H H') (h0 : PotAt H0 p) (hn : H0 a = none) (h : H a = some o) (n : ∀ q, o ≠ .tbl q := by intro q z; cases z) : H' a = some o := by
  obtain ⟨i, j, z, _⟩ := h0
  exact (s.keep _ _ (ne_of_none z hn).symm h).get n
theorem Kp.same0 {p : Addr} {H0 H1 H2 : Hp} (s : Sm H0 H1) (hn : H0 p = none) (k : Kp p H1 H2) : Sm H0 H2 := fun c o e => (s c o e).tr fun o' e' => k.keep c o' (ne_of_none e hn) e'
theorem pot_write {H : Hp} {p : Addr} {a b : Int} (h : PotAt H p) (ha : 0 ≤ a) (hb : 0 ≤ b) (hb2 : b < 2147483648) : Kp p H (upd H p (.lst [.int a, .int b])) :=
  ⟨h, ⟨a, b, upd_same, ha, hb, hb2⟩, fun c o n e => .inl (by rw [upd_ne n]; exact e)⟩
end My

namespace My
open PySem PySem.Spec PyProof.Rows L2
/-- two fractions whose sum, difference, product and order are reckoned within bounds -/
structure SzP (q r : Rat) : Prop where
  n1 : q.num.natAbs.log2 < 300000
  n2 : r.num.natAbs.log2 < 300000
  d1 : q.den.log2 < 300000
  d2 : r.den.log2 < 300000
  dd : q.den * r.den < 2 ^ 8990
/-- .. whose quotient is -/
structure SzD (q r : Rat) : Prop where
  n1 : q.num.natAbs.log2 < 300000
  n2 : r.num.natAbs.log2 < 300000
  d1 : q.den.log2 < 300000
  d2 : r.den.log2 < 300000
  dd : q.den * r.num.natAbs < 2 ^ 8990
theorem Sz.l1 {n : Nat} {q : Rat} (h : Sz n q) (h0 : 0 < n) (l : n ≤ 300000) : q.num.natAbs.log2 < 300000 := Nat.lt_of_lt_of_le (PySem.Flt.log2_lt_of h0 h.nu) l
theorem Sz.l2 {n : Nat} {q : Rat} (h : Sz n q) (h0 : 0 < n) (l : n ≤ 300000) : q.den.log2 < 300000 := Nat.lt_of_lt_of_le (PySem.Flt.log2_lt_of h0 h.de) l
theorem SzP.mk' {n m : Nat} {q r : Rat} (h1 : Sz n q) (h2 : Sz m r) (h : n + m ≤ 8990 := by decide) (p1 : 0 < n := by decide) (p2 : 0 < m := by decide) : SzP q r :=
  ⟨h1.l1 p1 (by omega), h2.l1 p2 (by omega), h1.l2 p1 (by omega), h2.l2 p2 (by omega), pow_up (mul_lt_pow h1.de h2.de) h⟩
theorem SzD.mk' {n m : Nat} {q r : Rat} (h1 : Sz n q) (h2 : Sz m r) (h : n + m ≤ 8990 := by decide) (p1 : 0 < n := by decide) (p2 : 0 < m := by decide) : SzD q r :=
  ⟨h1.l1 p1 (by omega), h2.l1 p2 (by omega), h1.l2 p1 (by omega), h2.l2 p2 (by omega), pow_up (mul_lt_pow h1.de h2.nu) h⟩
theorem SzP.nd {q r : Rat} (z : SzP q r) : CMulW q.num (r.den : Int) := by
  have a := z.n1; have b := z.d2
  unfold CMulW
  rw [Int.natAbs_natCast]; omega
theorem SzP.nd2 {q r : Rat} (z : SzP q r) : CMulW r.num (q.den : Int) := by
  have a := z.n2; have b := z.d1
  unfold CMulW
  rw [Int.natAbs_natCast]; omega
theorem SzP.de {q r : Rat} (z : SzP q r) : CMulW (q.den : Int) (r.den : Int) := by
  have a := z.d1; have b := z.d2
  unfold CMulW
  rw [Int.natAbs_natCast, Int.natAbs_natCast]; omega
theorem SzP.nn {q r : Rat} (z : SzP q r) : CMulW q.num r.num := by
  have a := z.n1; have b := z.n2
  unfold CMulW
  omega
theorem SzP.lt {q r : Rat} (z : SzP q r) : ((q.den : Int) * (r.den : Int)).natAbs < 2 ^ 8990 := by
  rw [Int.natAbs_mul]; exact z.dd
theorem SzD.nd {q r : Rat} (z : SzD q r) : CMulW q.num (r.den : Int) := by
  have a := z.n1; have b := z.d2
  unfold CMulW
  rw [Int.natAbs_natCast]; omega
theorem SzD.dn {q r : Rat} (z : SzD q r) : CMulW (q.den : Int) r.num := by
  have a := z.d1; have b := z.n2
  unfold CMulW
  rw [Int.natAbs_natCast]; omega
theorem SzD.lt {q r : Rat} (z : SzD q r) : ((q.den : Int) * r.num).natAbs < 2 ^ 8990 := by
  rw [Int.natAbs_mul]; exact z.dd
end My

namespace My
open PySem PySem.Spec PyProof.Rows L2 GxR
theorem Kp.tab {p P : Addr} {H H' : Hp} (s : Kp p H H') (h : TabG H P) : TabG H' P := by
  obtain ⟨ps, z, t⟩ := h
  obtain ⟨i, j, y, _⟩ := s.old
  have ne : P ≠ p := fun e => by
    rw [e, y] at z; cases z
  rcases s.keep _ _ ne z with y | ⟨qs, qs', w, y, t2⟩
  · exact ⟨ps, y, t⟩
  · cases w
    exact ⟨qs', y, t2 t⟩
/-- a def whose code object is known -/
structure FunC (K : PySem.W.Frag) (x qual : Str) (st : Stmt) (f : Addr) (fd : FuncData) (c : Addr) : Prop where
  ex : ∃ (oc : Value) (od : Option Addr) (kV doc pm : Value) (an : Option Addr) (ct : Value) (osl : Array (Option Value)),
    fd = PySem.W.fnOf x qual (defArgs st) (defBody st) (defScope st) .none kV doc pm an (.ref c) ct ∧ K.lookup f = some ⟨oc, od, .func fd, osl⟩ ∧ PySem.W.codeIn K (.ref c) qual = true
section
variable {P : Program} {w : World} {K : PySem.W.Frag} {mg : Str → Option Value} {base : Heap}
theorem FunC.okC {x qual : Str} {st : Stmt} {f c : Addr} {fd : FuncData} {N ps : List Str} {k : Nat} {sp : Sp} (F : FunC K x qual st f fd c) (S : FnScope N ps (defScope st)) (len : ∀ vs H Q E, sp vs H Q E → vs.length = ps.length)
    (hbody : ∀ (A : Around) (outer : List Env) (s : Shared) (H : Hp) (vs : List V) (Q : VK) (E : XK), Room k (A.deeper (envOfC qual (defScope st) s.heap.objs.size f (.ref c))) → sp vs H Q E →
      ∃ t, PSs (cxOf (L2.CX P w) P w K mg base N qual (defScope st) f (.ref c) A outer s H E) (defBody st) t ∧ t { nx := fun _ H' => Q .non H', rt := Q } (start N vs) H) : FnOk P w K mg base (L2.CX P w) (k + 1) f fd ps sp := by
  obtain ⟨oc, od, kV, doc, pm, an, ct, osl, rfl, lk, hcd⟩ := F.ex
  exact fn_of lk hcd S len fun A outer s H vs Q E hr hsp => hbody A outer s H vs Q E hr hsp
theorem func_mk {x qual : Str} {st : Stmt} {f c : Addr} {oc : Value} {od an : Option Addr} {osl : Array (Option Value)} {kV doc pm ct : Value} (l : K.lookup f = some ⟨oc, od, .func (PySem.W.fnOf x qual (defArgs st) (defBody st) (defScope st) .none kV doc pm an (.ref c) ct), osl⟩)
    (cd : PySem.W.codeIn K (.ref c) qual = true) : FunC K x qual st f (PySem.W.fnOf x qual (defArgs st) (defBody st) (defScope st) .none kV doc pm an (.ref c) ct) c := ⟨oc, od, kV, doc, pm, an, ct, osl, rfl, l, cd⟩
end


/-! ### all, any of a generator expression over a tuple or a list: a truth a place -/
section
variable {K : PySem.W.Frag} {σ : L2.St} {H : Hp} {Q : VK}
/-- the answer over the first n places: all (go), any -/
def tell (go : Bool) (f : Nat → Bool) : Nat → Bool
  | 0 => go
  | n + 1 => if f n = go then tell go f n else !go
theorem not_go {b go : Bool} (h : b ≠ go) : b = !go := by cases b <;> cases go <;> simp_all
/-- W by the place; what is known at each place: the table stands, the rest is kept -/
theorem rd_gx {go : Bool} {P a : Addr} {i : Nat} {J : It} {wi : TI} {te : TE} {vs : List Nat} {n : Nat} (xs : List V) (hn : xs.length = n) (f : Nat → Bool)
    (hJ : wi σ H fun J' H1 => J' = J ∧ H1 = H) (hwi : ∀ R : It → Hp → Prop, R J H → wi σ H R)
    (jgo : ∀ k H2, Sm H H2 → k < n → J.go k H2) (jstop : ∀ H2, Sm H H2 → J.stop n H2) (jy : ∀ k x H2 H3, Sm H H2 → J.yld k H2 x H3 → H3 = H2 ∧ xs[k]? = some x)
    (ht : TabG H P) (hw : ∀ v, wipe ((wipe σ vs).set i (some v)) vs = wipe σ vs)
    (he : ∀ k x H2, xs[k]? = some x → Sm H H2 → ∀ Q' : VK, (∀ H3, Sm H2 H3 → Q' (.bl (f k)) H3) → te ((wipe σ vs).set i (some x)) H2 Q')
    (k1 : ∀ H2, Sm H H2 → (∀ k, k < n → f k = go) → Q (.bl go) H2) (k2 : ∀ H2 k, Sm H H2 → k < n → f k = !go → Q (.bl (!go)) H2) : Gx.tGx go P wi (gName i) te vs σ H Q := by
  refine hwi _ ⟨ht, fun H1 hT => ?_⟩
  have s1 : Sm H H1 := Sm.tabbed ht hT
  refine ⟨fun k m H2 => m = n - k ∧ k ≤ n ∧ Sm H H2 ∧ ∀ j, j < k → f j = go, ⟨n, by omega, Nat.zero_le _, s1, fun j hj => absurd hj (Nat.not_lt_zero _)⟩, ?_⟩
  rintro k m H2 ⟨rfl, hk, s2, all⟩
  by_cases hlt : k < n
  · refine .inr ⟨jgo k H2 s2 hlt, fun x H3 hy => ?_⟩
    obtain ⟨rfl, hx⟩ := jy k x H2 H3 s2 hy
    refine ⟨hw x, ?_⟩
    refine he k x _ hx s2 _ fun H4 s4 => ⟨f k, rfl, fun e => ⟨n - (k + 1), by omega, rfl, hlt, s2.trans s4, fun j hj => ?_⟩, fun e => ?_⟩
    · rcases Nat.lt_succ_iff_lt_or_eq.mp hj with z | z
      · exact all j z
      · rw [z]; exact e
    · show Q (.bl (f k)) H4
      rw [not_go e]
      exact k2 H4 k (s2.trans s4) hlt (not_go e)
  · have e : k = n := by omega
    subst e
    exact .inl ⟨jstop H2 s2, k1 H2 s2 all⟩
theorem rd_gxT {go : Bool} {P a : Addr} {i j : Nat} {te : TE} {vs : List Nat} {xs : List V} (hv : σ[j]? = some (some (.ref a))) (h : SqT K H a xs) (f : Nat → Bool) (ht : TabG H P) (hw : ∀ v, wipe ((wipe σ vs).set i (some v)) vs = wipe σ vs)
    (he : ∀ k x H2, xs[k]? = some x → Sm H H2 → ∀ Q' : VK, (∀ H3, Sm H2 H3 → Q' (.bl (f k)) H3) → te ((wipe σ vs).set i (some x)) H2 Q')
    (k1 : ∀ H2, Sm H H2 → (∀ k, k < xs.length → f k = go) → Q (.bl go) H2) (k2 : ∀ H2 k, Sm H H2 → k < xs.length → f k = !go → Q (.bl (!go)) H2) : Gx.tGx go P (iTup K (tVar j)) (gName i) te vs σ H Q :=
  rd_gx (J := Itt K a) (a := a) xs rfl f ⟨_, hv, a, rfl, ⟨xs, h⟩, rfl, rfl⟩ (fun R r => ⟨_, hv, a, rfl, ⟨xs, h⟩, r⟩) (fun k H2 s hk => ⟨xs, xs[k], sqt_up s h, by simp [hk]⟩) (fun H2 s => ⟨xs, sqt_up s h, Nat.le_refl _⟩)
    (fun k x H2 H3 s hy => ⟨hy.1, hy.2 xs (sqt_up s h)⟩) ht hw he k1 k2
theorem rd_gxL {go : Bool} {P a : Addr} {i j : Nat} {te : TE} {vs : List Nat} {xs : List V} (hv : σ[j]? = some (some (.ref a))) (h : SqL K H a xs) (f : Nat → Bool) (ht : TabG H P) (hw : ∀ v, wipe ((wipe σ vs).set i (some v)) vs = wipe σ vs)
    (he : ∀ k x H2, xs[k]? = some x → Sm H H2 → ∀ Q' : VK, (∀ H3, Sm H2 H3 → Q' (.bl (f k)) H3) → te ((wipe σ vs).set i (some x)) H2 Q')
    (k1 : ∀ H2, Sm H H2 → (∀ k, k < xs.length → f k = go) → Q (.bl go) H2) (k2 : ∀ H2 k, Sm H H2 → k < xs.length → f k = !go → Q (.bl (!go)) H2) : Gx.tGx go P (iList K (tVar j)) (gName i) te vs σ H Q :=
  rd_gx (J := Itl K a) (a := a) xs rfl f ⟨_, hv, a, rfl, ⟨xs, h⟩, rfl, rfl⟩ (fun R r => ⟨_, hv, a, rfl, ⟨xs, h⟩, r⟩) (fun k H2 s hk => ⟨xs, xs[k], s.sql h, by simp [hk]⟩) (fun H2 s => ⟨xs, s.sql h, Nat.le_refl _⟩)
    (fun k x H2 H3 s hy => ⟨hy.1, hy.2 xs (s.sql h)⟩) ht hw he k1 k2
end
end My

namespace My
open PySem PySem.Spec PyProof.Rows L2 GxR
theorem TyOf.sm {K : PySem.W.Frag} {H H' : Hp} {x : V} {t : Value} (s : Sm H H') (h : TyOf K H x t) : TyOf K H' x t := by
  cases h with
  | non => exact .non
  | bl x => exact .bl x
  | int i => exact .int i
  | str x => exact .str x
  | flt x => exact .flt x
  | lst e => exact .lst (s.g e)
  | frz e => exact .frz (s.g e)
  | tup e => exact .tup (s.g e)
  | dK e => exact .dK (s.g e)
  | dT e => exact .dT (s.g e)
  | ins e cl ha hn htk hm => exact .ins (s.g e) cl ha hn htk hm
theorem TyX.sm {K : PySem.W.Frag} {H H' : Hp} {x : V} {t : Value} (s : Sm H H') (h : TyX K H x t) : TyX K H' x t := by
  cases h with
  | base b => exact .base (TyOf.sm s b)
  | byt b => exact .byt b
  | set e => exact .set (s.g e)
  | kList e c => exact .kList e c
  | kTuple e c => exact .kTuple e c
  | kDict e c => exact .kDict e c
  | fTuple e => exact .fTuple (s.g e)
  | fDict e => exact .fDict (s.g e)
theorem IsFrB.sm {K : PySem.W.Frag} {H H' : Hp} {v : V} {b : Bool} (s : Sm H H') (h : IsFrB K H v b) : IsFrB K H' v b := by
  cases h with
  | no h e => exact .no (TyX.sm s h) e
  | len h e => exact .len (sqt_up s h) e
  | fst h e e2 => exact .fst (sqt_up s h) (TyX.sm s e) e2
  | snd h e e2 => exact .snd (sqt_up s h) (TyX.sm s e) e2
  | two h => exact .two (sqt_up s h)
/-- each a fraction, or not, as told -/
inductive FrBs (K : PySem.W.Frag) (H : Hp) : List V → List Bool → Prop
  | nil : FrBs K H [] []
  | cons {v : V} {b : Bool} {vs : List V} {bs : List Bool} (h : IsFrB K H v b) (r : FrBs K H vs bs) : FrBs K H (v :: vs) (b :: bs)
theorem FrBs.get {K : PySem.W.Frag} {H : Hp} : ∀ {vs : List V} {bs : List Bool}, FrBs K H vs bs → ∀ {k : Nat} {x : V}, vs[k]? = some x → ∃ b, bs[k]? = some b ∧ IsFrB K H x b
  | _, _, .cons h r, 0, x, e => by cases e; exact ⟨_, rfl, h⟩
  | _, _, .cons h r, k + 1, x, e => r.get (k := k) e
theorem FrBs.len {K : PySem.W.Frag} {H : Hp} : ∀ {vs : List V} {bs : List Bool}, FrBs K H vs bs → bs.length = vs.length
  | _, _, .nil => rfl
  | _, _, .cons _ r => congrArg (· + 1) r.len
theorem FrBs.sm {K : PySem.W.Frag} {H H' : Hp} (s : Sm H H') : ∀ {vs : List V} {bs : List Bool}, FrBs K H vs bs → FrBs K H' vs bs
  | _, _, .nil => .nil
  | _, _, .cons h r => .cons (IsFrB.sm s h) (r.sm s)
/-- a list of booleans as a place's answer -/
def nth (bs : List Bool) (k : Nat) : Bool := (bs[k]?).getD false
theorem nth_of {bs : List Bool} {k : Nat} {b : Bool} (h : bs[k]? = some b) : nth bs k = b := by unfold nth; rw [h]; rfl
theorem all_nth {bs : List Bool} (h : ∀ k, k < bs.length → nth bs k = true) : bs.all id = true := by
  rw [List.all_eq_true]
  intro b hb
  obtain ⟨k, hk, e⟩ := List.getElem_of_mem hb
  have q := h k hk
  rw [nth_of (List.getElem?_eq_getElem hk), e] at q
  exact q
theorem not_all_nth {bs : List Bool} {k : Nat} (hk : k < bs.length) (h : nth bs k = false) : bs.all id = false := by
  rw [Bool.eq_false_iff]
  intro z
  rw [List.all_eq_true] at z
  have q := z _ (List.getElem_mem hk)
  rw [nth_of (List.getElem?_eq_getElem hk)] at h
  rw [show id bs[k] = bs[k] from rfl, h] at q
  cases q
theorem any_nth {bs : List Bool} {k : Nat} (hk : k < bs.length) (h : nth bs k = true) : bs.any id = true := by
  rw [List.any_eq_true]
  exact ⟨_, List.getElem_mem hk, by rw [nth_of (List.getElem?_eq_getElem hk)] at h; exact h⟩
theorem not_any_nth {bs : List Bool} (h : ∀ k, k < bs.length → nth bs k = false) : bs.any id = false := by
  rw [Bool.eq_false_iff]
  intro z
  rw [List.any_eq_true] at z
  obtain ⟨b, hb, e⟩ := z
  obtain ⟨k, hk, e2⟩ := List.getElem_of_mem hb
  have q := h k hk
  rw [nth_of (List.getElem?_eq_getElem hk), e2] at q
  subst q
  cases e
/-- whether it is a row of so many fractions -/
inductive IsRowB (K : PySem.W.Frag) (H : Hp) (many : Nat) : V → Bool → Prop
  | no {x : V} {t : String} (h : TyX K H x (.type t)) (e : kitB t "tuple" = some false) : IsRowB K H many x false
  | len {a : Addr} {xs : List V} (h : SqT K H a xs) (e : xs.length ≠ many) : IsRowB K H many (.ref a) false
  | all {a : Addr} {xs : List V} {bs : List Bool} (h : SqT K H a xs) (e : xs.length = many) (f : FrBs K H xs bs) : IsRowB K H many (.ref a) (bs.all id)
theorem IsRowB.sm {K : PySem.W.Frag} {H H' : Hp} {n : Nat} {v : V} {b : Bool} (s : Sm H H') (h : IsRowB K H n v b) : IsRowB K H' n v b := by
  cases h with
  | no h e => exact .no (TyX.sm s h) e
  | len h e => exact .len (sqt_up s h) e
  | all h e f => exact .all (sqt_up s h) e (f.sm s)

/-- the fractions of a row -/
inductive FrL (K : PySem.W.Frag) (H : Hp) : List V → List Rat → Prop
  | nil : FrL K H [] []
  | cons {v : V} {q : Rat} {vs : List V} {qs : List Rat} (h : Fr K H v q) (r : FrL K H vs qs) : FrL K H (v :: vs) (q :: qs)
theorem FrL.sm {K : PySem.W.Frag} {H H' : Hp} (s : Sm H H') : ∀ {vs : List V} {qs : List Rat}, FrL K H vs qs → FrL K H' vs qs
  | _, _, .nil => .nil
  | _, _, .cons h r => .cons (h.up s) (r.sm s)
theorem FrL.kp {K : PySem.W.Frag} {p : Addr} {H H' : Hp} (s : Kp p H H') : ∀ {vs : List V} {qs : List Rat}, FrL K H vs qs → FrL K H' vs qs
  | _, _, .nil => .nil
  | _, _, .cons h r => .cons (h.kp s) (r.kp s)
theorem FrL.len {K : PySem.W.Frag} {H : Hp} : ∀ {vs : List V} {qs : List Rat}, FrL K H vs qs → qs.length = vs.length
  | _, _, .nil => rfl
  | _, _, .cons _ r => congrArg (· + 1) r.len
theorem FrL.bs {K : PySem.W.Frag} {H : Hp} : ∀ {vs : List V} {qs : List Rat}, FrL K H vs qs → FrBs K H vs (qs.map fun _ => true)
  | _, _, .nil => .nil
  | _, _, .cons h r => .cons h.is r.bs
/-- a row: a tuple of fractions -/
def Row (K : PySem.W.Frag) (H : Hp) (v : V) (qs : List Rat) : Prop := ∃ a vs, v = .ref a ∧ SqT K H a vs ∧ FrL K H vs qs
theorem Row.sm {K : PySem.W.Frag} {H H' : Hp} {v : V} {qs : List Rat} (s : Sm H H') (h : Row K H v qs) : Row K H' v qs := by
  obtain ⟨a, vs, e, h, f⟩ := h
  exact ⟨a, vs, e, sqt_up s h, f.sm s⟩
theorem Row.kp {K : PySem.W.Frag} {p : Addr} {H H' : Hp} {v : V} {qs : List Rat} (s : Kp p H H') (h : Row K H v qs) : Row K H' v qs := by
  obtain ⟨a, vs, e, h, f⟩ := h
  exact ⟨a, vs, e, s.sqt h, f.kp s⟩
theorem all_true : ∀ (qs : List Rat), (qs.map fun _ => true).all id = true
  | [] => rfl
  | _ :: r => by rw [List.map_cons, List.all_cons, all_true r]; rfl
theorem Row.is {K : PySem.W.Frag} {H : Hp} {v : V} {qs : List Rat} {n : Nat} (h : Row K H v qs) (e : qs.length = n) : IsRowB K H n v true := by
  obtain ⟨a, vs, rfl, h, f⟩ := h
  have q := IsRowB.all (many := n) h (by rw [← f.len]; exact e) f.bs
  rw [all_true] at q
  exact q
end My
namespace My
open PySem PySem.Spec PyProof.Rows L2 GxR
/-! ### lists whose things are each as told -/
inductive Each {β : Type} (R : V → β → Prop) : List V → List β → Prop
  | nil : Each R [] []
  | cons {v : V} {b : β} {vs : List V} {bs : List β} (h : R v b) (r : Each R vs bs) : Each R (v :: vs) (b :: bs)
theorem Each.get {β : Type} {R : V → β → Prop} : ∀ {vs : List V} {bs : List β}, Each R vs bs → ∀ {k : Nat} {x : V}, vs[k]? = some x → ∃ b, bs[k]? = some b ∧ R x b
  | _, _, .cons h r, 0, x, e => by cases e; exact ⟨_, rfl, h⟩
  | _, _, .cons h r, k + 1, x, e => r.get (k := k) e
theorem Each.len {β : Type} {R : V → β → Prop} : ∀ {vs : List V} {bs : List β}, Each R vs bs → bs.length = vs.length
  | _, _, .nil => rfl
  | _, _, .cons _ r => congrArg (· + 1) r.len
theorem Each.imp {β : Type} {R R' : V → β → Prop} (f : ∀ v b, R v b → R' v b) : ∀ {vs : List V} {bs : List β}, Each R vs bs → Each R' vs bs
  | _, _, .nil => .nil
  | _, _, .cons h r => .cons (f _ _ h) (r.imp f)
theorem Each.map {β γ : Type} {R : V → β → Prop} {R' : V → γ → Prop} (g : β → γ) (f : ∀ v b, R v b → R' v (g b)) : ∀ {vs : List V} {bs : List β}, Each R vs bs → Each R' vs (bs.map g)
  | _, _, .nil => .nil
  | _, _, .cons h r => .cons (f _ _ h) (r.map g f)
theorem Each.app {β : Type} {R : V → β → Prop} : ∀ {vs : List V} {bs : List β} {ws : List V} {cs : List β}, Each R vs bs → Each R ws cs → Each R (vs ++ ws) (bs ++ cs)
  | _, _, _, _, .nil, h => h
  | _, _, _, _, .cons h r, h2 => .cons h (r.app h2)
/-- a point (x, y, weight) -/
abbrev P3 := Rat × Rat × Rat
def Pt (K : PySem.W.Frag) (H : Hp) (v : V) (p : P3) : Prop := ∃ a vx vy vw, v = .ref a ∧ SqT K H a [vx, vy, vw] ∧ Fr K H vx p.1 ∧ Fr K H vy p.2.1 ∧ Fr K H vw p.2.2
/-- two fractions: a line (height, slope), prices (up, down) -/
def Two (K : PySem.W.Frag) (H : Hp) (v : V) (q r : Rat) : Prop := ∃ a v1 v2, v = .ref a ∧ SqT K H a [v1, v2] ∧ Fr K H v1 q ∧ Fr K H v2 r
theorem Pt.sm {K : PySem.W.Frag} {H H' : Hp} {v : V} {p : P3} (s : Sm H H') (h : Pt K H v p) : Pt K H' v p := by
  obtain ⟨a, vx, vy, vw, e, h, h1, h2, h3⟩ := h
  exact ⟨a, vx, vy, vw, e, sqt_up s h, h1.up s, h2.up s, h3.up s⟩
theorem Pt.kp {K : PySem.W.Frag} {c : Addr} {H H' : Hp} {v : V} {p : P3} (s : Kp c H H') (h : Pt K H v p) : Pt K H' v p := by
  obtain ⟨a, vx, vy, vw, e, h, h1, h2, h3⟩ := h
  exact ⟨a, vx, vy, vw, e, s.sqt h, h1.kp s, h2.kp s, h3.kp s⟩
theorem Two.sm {K : PySem.W.Frag} {H H' : Hp} {v : V} {q r : Rat} (s : Sm H H') (h : Two K H v q r) : Two K H' v q r := by
  obtain ⟨a, v1, v2, e, h, h1, h2⟩ := h
  exact ⟨a, v1, v2, e, sqt_up s h, h1.up s, h2.up s⟩
theorem Two.kp {K : PySem.W.Frag} {c : Addr} {H H' : Hp} {v : V} {q r : Rat} (s : Kp c H H') (h : Two K H v q r) : Two K H' v q r := by
  obtain ⟨a, v1, v2, e, h, h1, h2⟩ := h
  exact ⟨a, v1, v2, e, s.sqt h, h1.kp s, h2.kp s⟩
theorem Pt.is {K : PySem.W.Frag} {H : Hp} {v : V} {p : P3} (h : Pt K H v p) : IsRowB K H 3 v true := by
  obtain ⟨a, vx, vy, vw, rfl, h, h1, h2, h3⟩ := h
  exact .all (bs := [true, true, true]) h rfl (.cons h1.is (.cons h2.is (.cons h3.is .nil)))
theorem Two.is {K : PySem.W.Frag} {H : Hp} {v : V} {q r : Rat} (h : Two K H v q r) : IsRowB K H 2 v true := by
  obtain ⟨a, v1, v2, rfl, h, h1, h2⟩ := h
  exact .all (bs := [true, true]) h rfl (.cons h1.is (.cons h2.is .nil))
/-- whether it is a point -/
inductive IsPtB (K : PySem.W.Frag) (H : Hp) : V → Bool → Prop
  | bad {v : V} (h : IsRowB K H 3 v false) : IsPtB K H v false
  | full {v : V} {p : P3} (h : Pt K H v p) : IsPtB K H v (decide (0 < p.2.2))
theorem IsPtB.sm {K : PySem.W.Frag} {H H' : Hp} {v : V} {b : Bool} (s : Sm H H') (h : IsPtB K H v b) : IsPtB K H' v b := by
  cases h with
  | bad h => exact .bad (h.sm s)
  | full h => exact .full (h.sm s)
/-- whether it is a list of one to twelve points -/
inductive IsPtsB (K : PySem.W.Frag) (H : Hp) : V → Bool → Prop
  | no {x : V} {t : String} (h : TyX K H x (.type t)) (e : kitB t "list" = some false) : IsPtsB K H x false
  | len {a : Addr} {xs : List V} (h : SqL K H a xs) (e : ¬ (1 ≤ xs.length ∧ xs.length ≤ 12)) : IsPtsB K H (.ref a) false
  | all {a : Addr} {xs : List V} {bs : List Bool} (h : SqL K H a xs) (e : 1 ≤ xs.length ∧ xs.length ≤ 12) (f : Each (IsPtB K H) xs bs) : IsPtsB K H (.ref a) (bs.all id)
theorem IsPtsB.sm {K : PySem.W.Frag} {H H' : Hp} {v : V} {b : Bool} (s : Sm H H') (h : IsPtsB K H v b) : IsPtsB K H' v b := by
  cases h with
  | no h e => exact .no (TyX.sm s h) e
  | len h e => exact .len (s.sql h) e
  | all h e f => exact .all (s.sql h) e (f.imp fun _ _ => IsPtB.sm s)
/-- a list of good points -/
def Pts (K : PySem.W.Frag) (H : Hp) (v : V) (ps : List P3) : Prop := ∃ a vs, v = .ref a ∧ SqL K H a vs ∧ Each (Pt K H) vs ps
def GoodPts (ps : List P3) : Prop := 1 ≤ ps.length ∧ ps.length ≤ 12 ∧ ∀ p ∈ ps, 0 < p.2.2
theorem Pts.sm {K : PySem.W.Frag} {H H' : Hp} {v : V} {ps : List P3} (s : Sm H H') (h : Pts K H v ps) : Pts K H' v ps := by
  obtain ⟨a, vs, e, h, f⟩ := h
  exact ⟨a, vs, e, s.sql h, f.imp fun _ _ => Pt.sm s⟩
theorem pts_all : ∀ {ps : List P3}, (∀ p ∈ ps, 0 < p.2.2) → (ps.map fun p => decide (0 < p.2.2)).all id = true
  | [], _ => rfl
  | p :: r, h => by
    rw [List.map_cons, List.all_cons, pts_all fun q hq => h q (List.mem_cons_of_mem _ hq), show id (decide (0 < p.2.2)) = true from decide_eq_true (h p List.mem_cons_self)]
    rfl
theorem Pts.is {K : PySem.W.Frag} {H : Hp} {v : V} {ps : List P3} (h : Pts K H v ps) (g : GoodPts ps) : IsPtsB K H v true := by
  obtain ⟨a, vs, rfl, h, f⟩ := h
  obtain ⟨g1, g2, g3⟩ := g
  have q := IsPtsB.all h (by rw [← f.len]; exact ⟨g1, g2⟩) (f.map (R' := IsPtB K H) (fun p => decide (0 < p.2.2)) fun _ _ => .full)
  rw [pts_all g3] at q
  exact q
/-- prices, or not -/
inductive IsPrB (K : PySem.W.Frag) (H : Hp) : V → Bool → Prop
  | bad {v : V} (h : IsRowB K H 2 v false) : IsPrB K H v false
  | full {v : V} {q r : Rat} (h : Two K H v q r) : IsPrB K H v (decide (0 < q) && decide (0 < r))
theorem num_pos (q : Rat) : (0 < q.num) = (0 < q) := propext (by rw [← Rat.not_le, ← Int.not_le]; exact not_congr (by rw [← Int.neg_nonneg, ← Rat.neg_num, Rat.num_nonneg]; exact ⟨fun h => by have := Rat.neg_le_neg h; simpa using this, fun h => by have := Rat.neg_le_neg h; simpa using this⟩))
section
variable {K : PySem.W.Frag} {σ : L2.St} {H : Hp} {Q : VK} {ta tb tc : TE}
theorem rd_ixT {a : Addr} {xs : List V} {i : Int} {v : V} (h : SqT K H a xs) (e : atI xs i = some v) (k : Q v H) : rIxA K (.ref a) (.int i) H Q := ⟨xs, v, .inr h, e, k⟩
theorem rd_chain {r r' : R2} (k : ta σ H fun x H1 => tb σ H1 fun y H2 => r x y H2 fun z H3 => ∃ k, z = .bl k ∧ (if k = true then tc σ H3 fun w' H4 => r' y w' H4 Q else Q (.bl false) H3)) : tChain r r' ta tb tc σ H Q := k
end
end My
namespace My
open PySem PySem.Spec PyProof.Rows L2 GxR
theorem sql_ty {K : PySem.W.Frag} {H : Hp} {a : Addr} {xs : List V} (h : SqL K H a xs) : TyX K H (.ref a) (.type "list") := by
  rcases h with (h | ⟨o, h⟩) | ⟨o, its, n, h1, h2, _⟩
  · exact .base (.lst h)
  · exact .base (.frz h)
  · exact .kList h1 h2
end My
namespace My
open PySem PySem.Spec PyProof.Rows L2 GxR
theorem FrL.get {K : PySem.W.Frag} {H : Hp} : ∀ {vs : List V} {qs : List Rat}, FrL K H vs qs → ∀ {k : Nat} {x : V}, vs[k]? = some x → ∃ q, qs[k]? = some q ∧ Fr K H x q
  | _, _, .cons h r, 0, x, e => by cases e; exact ⟨_, rfl, h⟩
  | _, _, .cons h r, k + 1, x, e => r.get (k := k) e
/-- a sum from the left -/
def sumL (qs : List Rat) : Rat := qs.foldl (· + ·) 0
theorem sumL_nil : sumL [] = 0 := rfl
theorem take_snoc {α : Type} {l : List α} {i : Nat} {x : α} (h : l[i]? = some x) : l.take (i + 1) = l.take i ++ [x] := by
  rw [List.take_add_one, h]; rfl
theorem sumL_snoc (qs : List Rat) (q : Rat) : sumL (qs ++ [q]) = sumL qs + q := by
  unfold sumL
  rw [List.foldl_append]; rfl
theorem sumL_take {qs : List Rat} {i : Nat} {q : Rat} (h : qs[i]? = some q) : sumL (qs.take (i + 1)) = sumL (qs.take i) + q := by
  rw [take_snoc h, sumL_snoc]
theorem fr_of {K : PySem.W.Frag} {H : Hp} {a : Addr} {n d : Int} {q : Rat} (h : SqT K H a [.int n, .int d]) (h1 : n = q.num) (h2 : d = (q.den : Int)) : Fr K H (.ref a) q := by
  subst h1 h2
  exact ⟨a, rfl, h⟩
end My
namespace My
open PySem PySem.Spec PyProof.Rows L2 GxR
/-! ### what no change of a list or a table touches -/
def Tk (H H' : Hp) : Prop := ∀ c o, H c = some o → (∀ l, o ≠ .lst l) → (∀ q, o ≠ .tbl q) → H' c = some o
theorem Tk.refl (H : Hp) : Tk H H := fun _ _ e _ _ => e
theorem Tk.trans {H H1 H2 : Hp} (a : Tk H H1) (b : Tk H1 H2) : Tk H H2 := fun c o e n1 n2 => b c o (a c o e n1 n2) n1 n2
theorem Sm.tk {H H' : Hp} (s : Sm H H') : Tk H H' := fun c o e _ n => (s c o e).get n
theorem Kp.tk {p : Addr} {H H' : Hp} (s : Kp p H H') : Tk H H' := fun c o e n1 n2 => by
  obtain ⟨i, j, z, _⟩ := s.old
  refine (s.keep c o (fun w => ?_) e).get n2
  subst w
  rw [e] at z
  exact n1 _ (Option.some.inj z)
theorem Tk.sqt {K : PySem.W.Frag} {H H' : Hp} {a : Addr} {xs : List V} (s : Tk H H') (h : SqT K H a xs) : SqT K H' a xs := by
  rcases h with (h | ⟨o, h⟩) | h
  · exact .inl (.inl (s _ _ h (fun _ z => nomatch z) (fun _ z => nomatch z)))
  · exact .inl (.inr ⟨o, s _ _ h (fun _ z => nomatch z) (fun _ z => nomatch z)⟩)
  · exact .inr h
theorem Fr.tk {K : PySem.W.Frag} {H H' : Hp} {v : V} {q : Rat} (s : Tk H H') (h : Fr K H v q) : Fr K H' v q := by
  obtain ⟨a, e, h⟩ := h
  exact ⟨a, e, s.sqt h⟩
theorem Pt.tk {K : PySem.W.Frag} {H H' : Hp} {v : V} {p : P3} (s : Tk H H') (h : Pt K H v p) : Pt K H' v p := by
  obtain ⟨a, vx, vy, vw, e, h, h1, h2, h3⟩ := h
  exact ⟨a, vx, vy, vw, e, s.sqt h, h1.tk s, h2.tk s, h3.tk s⟩
theorem Two.tk {K : PySem.W.Frag} {H H' : Hp} {v : V} {q r : Rat} (s : Tk H H') (h : Two K H v q r) : Two K H' v q r := by
  obtain ⟨a, v1, v2, e, h, h1, h2⟩ := h
  exact ⟨a, v1, v2, e, s.sqt h, h1.tk s, h2.tk s⟩
section
variable {K : PySem.W.Frag} {σ : L2.St} {H : Hp} {Q : VK}
/-- a comprehension without a test over n turns: at each place a thing of which P is told -/
theorem rd_lcG {wi : TI} {g : TG} {te : TE} {vs : List Nat} {n : Nat} {J : It} (P : Nat → Hp → V → Prop) (hP : ∀ i H1 H2 y, Tk H1 H2 → P i H1 y → P i H2 y) (hn : n ≤ 1000)
    (hwi : ∀ R : It → Hp → Prop, R J H → wi σ H R) (jgo : ∀ k H2, Sm H H2 → k < n → J.go k H2) (jstop : ∀ H2, Sm H H2 → J.stop n H2)
    (he : ∀ i x H2 H3, i < n → Sm H H2 → J.yld i H2 x H3 → Sm H2 H3 ∧ ∀ Q' : VK, (∀ y H4, Sm H3 H4 → P i H4 y → Q' y H4) → g x (wipe σ vs) H3 fun σ2 H4 => wipe σ2 vs = wipe σ vs ∧ te σ2 H4 Q')
    (k : ∀ D ys H2, H D = none → Sm H H2 → H2 D = some (.lst ys) → ys.length = n → (∀ i y, ys[i]? = some y → P i H2 y) → Q (.ref D) H2) : tLc wi g tYes te vs σ H Q := by
  refine hwi _ fun D hD => ?_
  refine ⟨fun i m H2 => m = n - i ∧ i ≤ n ∧ Sm H H2 ∧ ∃ ys, H2 D = some (.lst ys) ∧ ys.length = i ∧ ∀ j y, ys[j]? = some y → P j H2 y, ⟨n, by omega, Nat.zero_le _, same_new hD, [], upd_same, rfl, fun j y e => by simp at e⟩, ?_⟩
  rintro i m H2 ⟨rfl, hi, s2, ys, hx, hl, hy⟩
  by_cases hlt : i < n
  · refine .inr ⟨jgo i H2 s2 hlt, fun H4 => i + 1 ≤ n ∧ Sm H H4 ∧ ∃ ys, H4 D = some (.lst ys) ∧ ys.length = i + 1 ∧ ∀ j y, ys[j]? = some y → P j H4 y, fun H4 ⟨q1, q2, q3⟩ => ⟨n - (i + 1), by omega, rfl, q1, q2, q3⟩, fun x H3 hyd => ?_⟩
    obtain ⟨s3, step⟩ := he i x H2 H3 hlt s2 hyd
    have key := step (fun y H4 => ∃ acc, H4 D = some (.lst acc) ∧ acc.length < sizeLine ∧ (fun H4 => i + 1 ≤ n ∧ Sm H H4 ∧ ∃ ys, H4 D = some (.lst ys) ∧ ys.length = i + 1 ∧ ∀ j y, ys[j]? = some y → P j H4 y) (upd H4 D (.lst (acc ++ [y])))) fun y H4 s4 py => by
      have hx4 : H4 D = some (.lst ys) := (s3.trans s4).g hx
      have s5 : Sm H (upd H4 D (.lst (ys ++ [y]))) := fun c o e => by
        unfold Hld
        rw [upd_ne (ne_of_none e hD)]
        exact ((s2.trans s3).trans s4) _ _ e
      have t4 : Tk H4 (upd H4 D (.lst (ys ++ [y]))) := fun c o e n1 n2 => by
        have ne : c ≠ D := fun w => by
          subst w
          rw [hx4] at e
          exact n1 _ (Option.some.inj e).symm
        rw [upd_ne ne]
        exact e
      refine ⟨ys, hx4, ?_, hlt, s5, ys ++ [y], upd_same, by rw [List.length_append, hl]; rfl, fun j z e => ?_⟩
      · rw [hl]; exact Nat.lt_of_lt_of_le (by omega : i < 1000) (by decide)
      · by_cases hj : j < ys.length
        · rw [List.getElem?_append_left hj] at e
          exact hP j _ _ z ((s3.trans s4).tk.trans t4) (hy j z e)
        · rw [List.getElem?_append_right (by omega)] at e
          have hj0 : j - ys.length = 0 := by
            rcases Nat.eq_zero_or_pos (j - ys.length) with h | h
            · exact h
            · rw [List.getElem?_eq_none (by show 1 ≤ _; omega)] at e; cases e
          rw [hj0] at e
          cases e
          have ej : j = i := by omega
          subst ej
          exact hP j _ _ y t4 py
    exact key
  · have e : i = n := by omega
    subst e
    exact .inl ⟨jstop H2 s2, k D ys H2 hD s2 hx hl hy⟩
end
end My
namespace My
open PySem PySem.Spec PyProof.Rows L2 GxR
section
variable {K : PySem.W.Frag} {σ : L2.St} {H : Hp} {Q : VK}
/-- [f(x) for x in xs], the list at a slot -/
theorem rd_lcL {te : TE} {vs : List Nat} {i j : Nat} {a : Addr} {xs : List V} (P : Nat → Hp → V → Prop) (hP : ∀ i H1 H2 y, Tk H1 H2 → P i H1 y → P i H2 y) (hv : σ[j]? = some (some (.ref a))) (h : SqL K H a xs) (hn : xs.length ≤ 1000)
    (hw : ∀ v, wipe ((wipe σ vs).set i (some v)) vs = wipe σ vs)
    (he : ∀ n x H2, xs[n]? = some x → Sm H H2 → ∀ Q' : VK, (∀ y H4, Sm H2 H4 → P n H4 y → Q' y H4) → te ((wipe σ vs).set i (some x)) H2 Q')
    (k : ∀ D ys H2, H D = none → Sm H H2 → H2 D = some (.lst ys) → ys.length = xs.length → (∀ i y, ys[i]? = some y → P i H2 y) → Q (.ref D) H2) : tLc (iList K (tVar j)) (gName i) tYes te vs σ H Q :=
  rd_lcG (J := Itl K a) P hP hn (fun R r => ⟨_, hv, a, rfl, ⟨xs, h⟩, r⟩) (fun k H2 s hk => ⟨xs, xs[k], s.sql h, by simp [hk]⟩) (fun H2 s => ⟨xs, s.sql h, Nat.le_refl _⟩)
    (fun n x H2 H3 hn s hy => by
      obtain ⟨e, hx⟩ := hy
      subst e
      exact ⟨.refl _, fun Q' hq => ⟨hw x, he n x _ (hx xs (s.sql h)) s Q' hq⟩⟩) k
/-- [f(x, y) for x, y in zip(t, u)], t and u tuples at slots -/
theorem rd_lcZ {te : TE} {vs : List Nat} {i1 i2 j1 j2 : Nat} {a b : Addr} {xs ys : List V} (P : Nat → Hp → V → Prop) (hP : ∀ i H1 H2 y, Tk H1 H2 → P i H1 y → P i H2 y) (hv : σ[j1]? = some (some (.ref a))) (hv2 : σ[j2]? = some (some (.ref b)))
    (h : SqT K H a xs) (h2 : SqT K H b ys) (hl : ys.length = xs.length) (hn : xs.length ≤ 1000) (hw : ∀ v w, wipe (((wipe σ vs).set i1 (some v)).set i2 (some w)) vs = wipe σ vs)
    (he : ∀ n x y H2, xs[n]? = some x → ys[n]? = some y → Sm H H2 → ∀ Q' : VK, (∀ y H4, Sm H2 H4 → P n H4 y → Q' y H4) → te (((wipe σ vs).set i1 (some x)).set i2 (some y)) H2 Q')
    (k : ∀ D zs H2, H D = none → Sm H H2 → H2 D = some (.lst zs) → zs.length = xs.length → (∀ i y, zs[i]? = some y → P i H2 y) → Q (.ref D) H2) :
    tLc (RZ.iZipA K (tCons (tVar j1) (tCons (tVar j2) tNil))) (gTup K 2 (gCons (gName i1) (gCons (gName i2) gNil))) tYes te vs σ H Q :=
  rd_lcG (J := RZ.ItzT K a b) P hP hn (fun R r => ⟨_, hv, _, hv2, a, b, xs, ys, rfl, .inr ⟨h, h2, r⟩⟩)
    (fun k H2 s hk => ⟨xs, ys, xs[k], ys[k]'(by omega), sqt_up s h, sqt_up s h2, by simp [hk], by simp [hl ▸ hk]⟩) (fun H2 s => ⟨xs, ys, sqt_up s h, sqt_up s h2, .inl (Nat.le_refl _)⟩)
    (fun n v H2 H3 hn s hy => by
      obtain ⟨T, x, y, rfl, hT, rfl, hx, hy⟩ := hy
      have sT : Sm H2 (upd H2 T (.tup [x, y])) := same_new hT
      exact ⟨sT, fun Q' hq => ⟨T, [x, y], rfl, SqT.of upd_same, rfl, x, [y], rfl, y, [], rfl, rfl, hw x y, he n x y _ (hx xs (sqt_up s h)) (hy ys (sqt_up s h2)) (s.trans sT) Q' hq⟩⟩) k
end
/-- a list of things of which P is told place by place, as fractions -/
theorem frl_of {K : PySem.W.Frag} {H : Hp} : ∀ {ys : List V} {qs : List Rat}, ys.length = qs.length → (∀ (i : Nat) (y : V), ys[i]? = some y → ∃ q, qs[i]? = some q ∧ Fr K H y q) → FrL K H ys qs
  | [], [], _, _ => .nil
  | y :: ys, [], h, _ => by simp at h
  | [], q :: qs, h, _ => by simp at h
  | y :: ys, q :: qs, h, f => by
    obtain ⟨q', e, hq⟩ := f 0 y rfl
    cases e
    exact .cons hq (frl_of (by simpa using h) fun i z e => f (i + 1) z e)
end My
namespace My
open PySem PySem.Spec PyProof.Rows L2 GxR
/-! ### rises, sums, sides -/
def riseR (h s : Rat) (p : P3) : Rat := p.2.1 - (h + s * p.1)
def RiseSz (h s : Rat) (p : P3) : Prop := SzP s p.1 ∧ SzP h (s * p.1) ∧ SzP p.2.1 (h + s * p.1)
def ovStep (h s : Rat) (z : Rat × Rat) (p : P3) : Rat × Rat := if 0 < riseR h s p then (z.1 + p.2.2 * riseR h s p, z.2) else (z.1, z.2 - p.2.2 * riseR h s p)
/-- the weighed distances above and beneath -/
def ovU (h s : Rat) (ps : List P3) : Rat × Rat := ps.foldl (ovStep h s) (0, 0)
theorem ovU_take {h s : Rat} {ps : List P3} {i : Nat} {p : P3} (e : ps[i]? = some p) : ovU h s (ps.take (i + 1)) = ovStep h s (ovU h s (ps.take i)) p := by
  unfold ovU
  rw [take_snoc e, List.foldl_append]; rfl
def SumSz (h s : Rat) (ps : List P3) : Prop := ∀ i p, ps[i]? = some p → RiseSz h s p ∧ SzP p.2.2 (riseR h s p) ∧ SzP (ovU h s (ps.take i)).1 (p.2.2 * riseR h s p) ∧ SzP (ovU h s (ps.take i)).2 (p.2.2 * riseR h s p)
/-- weights above, on, beneath -/
def sdStep (h s : Rat) (z : Rat × Rat × Rat) (p : P3) : Rat × Rat × Rat :=
  if 0 < riseR h s p then (z.1 + p.2.2, z.2.1, z.2.2) else if riseR h s p < 0 then (z.1, z.2.1, z.2.2 + p.2.2) else (z.1, z.2.1 + p.2.2, z.2.2)
def sdU (h s : Rat) (ps : List P3) : Rat × Rat × Rat := ps.foldl (sdStep h s) (0, 0, 0)
theorem sdU_take {h s : Rat} {ps : List P3} {i : Nat} {p : P3} (e : ps[i]? = some p) : sdU h s (ps.take (i + 1)) = sdStep h s (sdU h s (ps.take i)) p := by
  unfold sdU
  rw [take_snoc e, List.foldl_append]; rfl
def SideSz (h s : Rat) (ps : List P3) : Prop := ∀ i p, ps[i]? = some p → RiseSz h s p ∧ SzP (sdU h s (ps.take i)).1 p.2.2 ∧ SzP (sdU h s (ps.take i)).2.1 p.2.2 ∧ SzP (sdU h s (ps.take i)).2.2 p.2.2
theorem num_neg (q : Rat) : (q.num < 0) = (q < 0) := propext (by
  have := num_pos (-q)
  rw [Rat.neg_num] at this
  constructor
  · intro h
    have h2 : 0 < -q := by rw [← this]; omega
    have h3 := Rat.neg_lt_neg h2
    simpa using h3
  · intro h
    have h2 : 0 < -q := by have h3 := Rat.neg_lt_neg h; simpa using h3
    rw [← this] at h2; omega)
end My
namespace My
open PySem PySem.Spec PyProof.Rows L2 GxR
theorem IsPrB.sm {K : PySem.W.Frag} {H H' : Hp} {v : V} {b : Bool} (s : Sm H H') (h : IsPrB K H v b) : IsPrB K H' v b := by
  cases h with
  | bad h => exact .bad (h.sm s)
  | full h => exact .full (h.sm s)
end My
namespace My
open PySem PySem.Spec PyProof.Rows L2 GxR
theorem divInt_pos {t b : Int} (ht : 0 < t) (hb : 0 < b) : 0 < Rat.divInt t b := by
  have h := Rat.divInt_nonneg (Int.le_of_lt ht) (Int.le_of_lt hb)
  refine Rat.not_le.mp fun h2 => ?_
  have e : Rat.divInt t b = Rat.divInt 0 1 := (Rat.le_antisymm h2 h).trans (by decide +kernel)
  have := (Rat.divInt_eq_divInt_iff (by omega) (by decide)).mp e
  omega
theorem one_pos : (0 : Rat) < 1 := by decide +kernel
end My
namespace My
open PySem PySem.Spec PyProof.Rows L2 GxR
theorem fr_int {K : PySem.W.Frag} {H : Hp} {a : Addr} {n : Int} (h : SqT K H a [.int n, .int 1]) : Fr K H (.ref a) (n : Rat) := ⟨a, rfl, h⟩
theorem sz_int {n : Int} {k : Nat} (h : n.natAbs < 2 ^ k) (h0 : 0 < k := by decide) : Sz k (n : Rat) := ⟨h, by show 1 < 2 ^ k; exact Nat.one_lt_two_pow (by omega)⟩
end My
namespace My
open PySem PySem.Spec PyProof.Rows L2 GxR
/-! ### points as drawn -/
def SmallP (p : P3) : Prop := Sz 8 p.1 ∧ Sz 40 p.2.1 ∧ Sz 200 p.2.2 ∧ 0 < p.2.2
def FarP (p : P3) : Prop := Sz 200 p.1 ∧ Sz 200 p.2.1 ∧ Sz 3 p.2.2 ∧ 0 < p.2.2
def DrawnP (far : Bool) (p : P3) : Prop := match far with
  | true => FarP p
  | false => SmallP p
/-- a fraction, a point as data -/
def pdQ (q : Rat) : PyData := .tuple [.int q.num, .int (q.den : Int)]
def pdP (p : P3) : PyData := .tuple [pdQ p.1, pdQ p.2.1, pdQ p.2.2]
theorem Pt.dp {K : PySem.W.Frag} {H : Hp} {v : V} {p : P3} (h : Pt K H v p) : Dp K H v (pdP p) := by
  obtain ⟨a, vx, vy, vw, rfl, h, h1, h2, h3⟩ := h
  exact .tup h (.cons h1.dp (.cons h2.dp (.cons h3.dp .nil)))
theorem dps_of {K : PySem.W.Frag} {H : Hp} : ∀ {ws : List V} {ps : List P3}, Each (Pt K H) ws ps → DpAll K H ws (ps.map pdP)
  | _, _, .nil => .nil
  | _, _, .cons h r => .cons h.dp (dps_of r)
theorem Kp.lst {p l : Addr} {H H1 : Hp} {ws ys : List V} (k : Kp p H H1) (hl : H l = none) (h1 : H1 l = some (.lst ws)) (hne : l ≠ p) : Kp p H (upd H1 l (.lst ys)) := by
  refine ⟨k.old, ?_, fun c o n e => ?_⟩
  · obtain ⟨a, b, e, r⟩ := k.new
    exact ⟨a, b, by rw [upd_ne (fun z => hne z.symm)]; exact e, r⟩
  · unfold Hld
    rw [upd_ne (ne_of_none e hl)]
    exact k.keep c o n e
theorem tk_lst {l : Addr} {H : Hp} {ws ys : List V} (h : H l = some (.lst ws)) : Tk H (upd H l (.lst ys)) := fun c o e n1 _ => by
  have ne : c ≠ l := fun w => by
    subst w
    rw [h] at e
    exact n1 _ (Option.some.inj e).symm
  rw [upd_ne ne]
  exact e
theorem Kp.at {p l : Addr} {H H' : Hp} {ws : List V} (k : Kp p H H') (h : H l = some (.lst ws)) (hne : l ≠ p) : H' l = some (.lst ws) := (k.keep l _ hne h).get fun _ z => nomatch z
end My
namespace My
open PySem PySem.Spec PyProof.Rows L2 GxR
section
variable {K : PySem.W.Frag} {σ : L2.St} {H : Hp} {Q : VK}
theorem rd_ixB {p : Addr} {x y : V} {c : Bool} (h : H p = some (.lst [x, y])) (k : Q (if c = true then y else x) H) : rIxA K (.ref p) (.int (if c = true then 1 else 0)) H Q := by
  cases c with
  | false => exact rd_ixL h rfl k
  | true => exact rd_ixL h rfl k
theorem rd_app {to : TE} {t : TA} (k : to σ H fun x H1 => ∃ l xs, x = .ref l ∧ H1 l = some (.lst xs) ∧ t σ H1 fun vs H2 => ∃ ys y, vs = [y] ∧ H2 l = some (.lst ys) ∧ ys.length < sizeLine ∧ Q .non (upd H2 l (.lst (ys ++ [y])))) (hm : ∀ R R' : VK, (∀ x H1, R x H1 → R' x H1) → to σ H R → to σ H R') (ht : ∀ H1 (R R' : List V → Hp → Prop), (∀ x H1, R x H1 → R' x H1) → t σ H1 R → t σ H1 R') : tBM K "list" rAppend to t σ H Q :=
  hm _ _ (fun x H1 ⟨l, xs, e, h1, h2⟩ => ⟨by subst e; exact .inl ⟨rfl, xs, SqL.of h1⟩, ht _ _ _ (fun vs H2 ⟨ys, y, e2, h3, h4, h5⟩ => ⟨l, ys, y, e, e2, h3, h4, h5⟩) h2⟩) k
/-- l.append(..): l at a slot -/
theorem rd_appV {j : Nat} {l : Addr} {xs : List V} {t : TA} (hv : σ[j]? = some (some (.ref l))) (h : H l = some (.lst xs)) (k : t σ H fun vs H2 => rAppend (.ref l) vs H2 Q) : tBM K "list" rAppend (tVar j) t σ H Q :=
  ⟨_, hv, .inl ⟨rfl, xs, SqL.of h⟩, k⟩
theorem rd_rApp {l : Addr} {ys : List V} {y : V} (h : H l = some (.lst ys)) (hn : ys.length ≤ 2000) (k : Q .non (upd H l (.lst (ys ++ [y])))) : rAppend (.ref l) [y] H Q := ⟨l, ys, y, rfl, rfl, h, Nat.lt_of_le_of_lt hn (by decide), k⟩
end
theorem each_app {β : Type} {R : V → β → Prop} {vs : List V} {bs : List β} {v : V} {b : β} (h : Each R vs bs) (hv : R v b) : Each R (vs ++ [v]) (bs ++ [b]) := h.app (.cons hv .nil)
end My
namespace My
open PySem PySem.Spec PyProof.Rows L2 GxR
theorem lay_pts : ∀ (ps : List P3), PyData.canLayAll0 (ps.map pdP) = true
  | [] => rfl
  | p :: r => by
    rw [List.map_cons]
    show (PyData.canLay0 (pdP p) && PyData.canLayAll0 (r.map pdP)) = true
    rw [lay_pts r]; rfl
theorem dep_pts : ∀ (ps : List P3), PyData.depthAll (ps.map pdP) ≤ 2
  | [] => Nat.zero_le _
  | p :: r => by
    rw [List.map_cons]
    show max (PyData.depth (pdP p)) (PyData.depthAll (r.map pdP)) ≤ 2
    exact Nat.max_le.mpr ⟨Nat.le_of_ble_eq_true rfl, dep_pts r⟩
theorem shaped_pts (ps : List P3) : SeqAt.shaped (.list (ps.map pdP)) = true := by
  show (PyData.canLayAll0 (ps.map pdP) && decide (PyData.depthAll (ps.map pdP) + 1 ≤ 64)) = true
  rw [lay_pts, decide_eq_true (by have := dep_pts ps; omega)]; rfl
end My
namespace My
open PySem PySem.Spec PyProof.Rows L2 GxR
/-! ### a line's cost, point by point -/
def lcStep (h s u d : Rat) (z : Rat) (p : P3) : Rat := if 0 < riseR h s p then z + p.2.2 * riseR h s p * u else if riseR h s p < 0 then z - p.2.2 * riseR h s p * d else z
def lcU (h s u d : Rat) (ps : List P3) : Rat := ps.foldl (lcStep h s u d) 0
theorem lcU_take {h s u d : Rat} {ps : List P3} {i : Nat} {p : P3} (e : ps[i]? = some p) : lcU h s u d (ps.take (i + 1)) = lcStep h s u d (lcU h s u d (ps.take i)) p := by
  unfold lcU
  rw [take_snoc e, List.foldl_append]; rfl
def LcSz (h s u d : Rat) (ps : List P3) : Prop := ∀ i p, ps[i]? = some p → RiseSz h s p ∧ SzP p.2.2 (riseR h s p) ∧ SzP (p.2.2 * riseR h s p) u ∧ SzP (p.2.2 * riseR h s p) d ∧ SzP (lcU h s u d (ps.take i)) (p.2.2 * riseR h s p * u) ∧ SzP (lcU h s u d (ps.take i)) (p.2.2 * riseR h s p * d)
/-- the two ways of adding up agree -/
theorem lc_ov {h s u d : Rat} : ∀ (ps : List P3) (z : Rat) (o : Rat × Rat), z = o.1 * u + o.2 * d → ps.foldl (lcStep h s u d) z = (ps.foldl (ovStep h s) o).1 * u + (ps.foldl (ovStep h s) o).2 * d
  | [], z, o, e => e
  | p :: r, z, o, e => by
    refine lc_ov r _ _ ?_
    unfold lcStep ovStep
    by_cases h1 : 0 < riseR h s p
    · rw [if_pos h1, if_pos h1, e]
      show o.1 * u + o.2 * d + p.2.2 * riseR h s p * u = (o.1 + p.2.2 * riseR h s p) * u + o.2 * d
      rw [Rat.add_mul, Rat.add_assoc, Rat.add_assoc, Rat.add_comm (o.2 * d)]
    · rw [if_neg h1, if_neg h1]
      by_cases h2 : riseR h s p < 0
      · rw [if_pos h2, e]
        show o.1 * u + o.2 * d - p.2.2 * riseR h s p * d = o.1 * u + (o.2 - p.2.2 * riseR h s p) * d
        rw [Rat.sub_eq_add_neg, Rat.sub_eq_add_neg, Rat.add_mul, Rat.neg_mul, Rat.add_assoc]
      · rw [if_neg h2, e]
        have z0 : riseR h s p = 0 := Rat.le_antisymm (Rat.not_lt.mp h1) (Rat.not_lt.mp h2)
        show o.1 * u + o.2 * d = o.1 * u + (o.2 - p.2.2 * riseR h s p) * d
        rw [z0, Rat.mul_zero, Rat.sub_eq_add_neg, Rat.neg_zero, Rat.add_zero]
theorem lcU_eq (h s u d : Rat) (ps : List P3) : lcU h s u d ps = (ovU h s ps).1 * u + (ovU h s ps).2 * d := lc_ov ps 0 (0, 0) (by show (0 : Rat) = 0 * u + 0 * d; rw [Rat.zero_mul, Rat.zero_mul, Rat.zero_add])
end My

namespace My
open PySem PySem.Spec PyProof.Rows L2
/-- q is a whole number over D, that number below 2 ^ n -/
def Ov (D n : Nat) (q : Rat) : Prop := 0 < D ∧ ∃ a : Int, q = Rat.divInt a (D : Int) ∧ a.natAbs < 2 ^ n
theorem Ov.of {n : Nat} {q : Rat} (h : Sz n q) : Ov q.den n q := ⟨q.den_pos, q.num, (Rat.num_divInt_den q).symm, h.nu⟩
theorem Ov.sz {D n : Nat} {q : Rat} (h : Ov D n q) : q.den ≤ D ∧ q.num.natAbs < 2 ^ n := by
  obtain ⟨h0, a, rfl, ha⟩ := h
  have hb : (D : Int) ≠ 0 := by omega
  constructor
  · rw [Rat.den_divInt, if_neg hb]
    exact Nat.le_trans (Nat.div_le_self _ _) (by rw [Int.natAbs_natCast]; exact Nat.le_refl _)
  · rw [Rat.num_divInt]
    have l : ((D : Int).sign * a / (((D : Int).gcd a : Nat) : Int)).natAbs ≤ a.natAbs := by
      refine Nat.le_trans (Int.natAbs_ediv_le_natAbs _ _) ?_
      rw [Int.natAbs_mul]
      have : (D : Int).sign.natAbs ≤ 1 := by rw [Int.natAbs_sign]; split <;> omega
      calc (D : Int).sign.natAbs * a.natAbs ≤ 1 * a.natAbs := Nat.mul_le_mul_right _ this
        _ = a.natAbs := Nat.one_mul _
    omega
theorem Ov.up {D E n m : Nat} {q : Rat} (h : Ov D n q) (e0 : 0 < E) (e : E < 2 ^ m) : Ov (D * E) (n + m) q := by
  obtain ⟨h0, a, rfl, ha⟩ := h
  refine ⟨Nat.mul_pos h0 e0, a * E, ?_, ?_⟩
  · rw [Int.natCast_mul, Rat.divInt_mul_right (by omega)]
  · rw [Int.natAbs_mul, Int.natAbs_natCast]; exact mul_lt_pow ha e
theorem Ov.mono {D n m : Nat} {q : Rat} (h : Ov D n q) (l : n ≤ m) : Ov D m q := by
  obtain ⟨h0, a, e, ha⟩ := h
  exact ⟨h0, a, e, pow_up ha l⟩
theorem Ov.add {D n m : Nat} {q r : Rat} (h : Ov D n q) (h2 : Ov D m r) : Ov D (max n m + 1) (q + r) := by
  obtain ⟨h0, a, rfl, ha⟩ := h
  obtain ⟨_, b, rfl, hb⟩ := h2
  have hd : (D : Int) ≠ 0 := by omega
  refine ⟨h0, a + b, ?_, ?_⟩
  · rw [Rat.divInt_add_divInt _ _ hd hd, ← Int.add_mul, Rat.divInt_mul_right hd]
  · have e1 := pow_up ha (Nat.le_max_left n m)
    have e2 := pow_up hb (Nat.le_max_right n m)
    exact Nat.lt_of_le_of_lt (Int.natAbs_add_le _ _) (add_pow e1 e2)
theorem Ov.neg {D n : Nat} {q : Rat} (h : Ov D n q) : Ov D n (-q) := by
  obtain ⟨h0, a, rfl, ha⟩ := h
  exact ⟨h0, -a, by rw [Rat.neg_divInt], by rw [Int.natAbs_neg]; exact ha⟩
theorem Ov.mul {D E n m : Nat} {q r : Rat} (h : Ov D n q) (h2 : Ov E m r) : Ov (D * E) (n + m) (q * r) := by
  obtain ⟨h0, a, rfl, ha⟩ := h
  obtain ⟨e0, b, rfl, hb⟩ := h2
  refine ⟨Nat.mul_pos h0 e0, a * b, ?_, ?_⟩
  · rw [Rat.divInt_mul_divInt, Int.natCast_mul]
  · rw [Int.natAbs_mul]; exact mul_lt_pow ha hb
end My
namespace My
open PySem PySem.Spec PyProof.Rows L2
theorem Ov.cong {D E n : Nat} {q : Rat} (h : Ov D n q) (e : D = E) : Ov E n q := e ▸ h
/-- the rise over the line's and the point's denominators -/
theorem rise_ov {h s : Rat} {p : P3} {a kx ky : Nat} (zh : Sz a h) (zs : Sz a s) (zx : Sz kx p.1) (zy : Sz ky p.2.1) : Ov (h.den * s.den * (p.1.den * p.2.1.den)) (ky + (a + a + kx) + 3) (riseR h s p) := by
  have h1 : Ov (h.den * (s.den * p.1.den)) (a + (a + kx)) h := (Ov.of zh).up (Nat.mul_pos s.den_pos p.1.den_pos) (mul_lt_pow zs.de zx.de)
  have h2 : Ov (h.den * (s.den * p.1.den)) (a + kx + a) (s * p.1) := (((Ov.of zs).mul (Ov.of zx)).up h.den_pos zh.de).cong (Nat.mul_comm _ _)
  have h3 : Ov (h.den * (s.den * p.1.den)) (a + a + kx + 1) (h + s * p.1) := (h1.add h2).mono (by omega)
  have e : h.den * (s.den * p.1.den) < 2 ^ (a + (a + kx)) := mul_lt_pow zh.de (mul_lt_pow zs.de zx.de)
  have h4 : Ov (p.2.1.den * (h.den * (s.den * p.1.den))) (ky + (a + (a + kx))) p.2.1 := (Ov.of zy).up (Nat.mul_pos h.den_pos (Nat.mul_pos s.den_pos p.1.den_pos)) e
  have h5 : Ov (p.2.1.den * (h.den * (s.den * p.1.den))) (a + a + kx + 1 + ky) (h + s * p.1) := (h3.up p.2.1.den_pos zy.de).cong (Nat.mul_comm _ _)
  have h6 := h4.add h5.neg
  rw [← Rat.sub_eq_add_neg] at h6
  refine (h6.mono (by omega)).cong ?_
  ac_rfl
/-- the weighed rise -/
theorem wrise_ov {h s : Rat} {p : P3} {a kx ky kw : Nat} (zh : Sz a h) (zs : Sz a s) (zx : Sz kx p.1) (zy : Sz ky p.2.1) (zw : Sz kw p.2.2) :
    Ov (h.den * s.den * (p.1.den * p.2.1.den * p.2.2.den)) (kw + (ky + (a + a + kx) + 3)) (p.2.2 * riseR h s p) :=
  ((Ov.of zw).mul (rise_ov zh zs zx zy)).cong (by ac_rfl)
def prodE : List P3 → Nat
  | [] => 1
  | p :: r => p.1.den * p.2.1.den * p.2.2.den * prodE r
theorem prodE_pos : ∀ ps : List P3, 0 < prodE ps
  | [] => Nat.one_pos
  | p :: r => Nat.mul_pos (Nat.mul_pos (Nat.mul_pos p.1.den_pos p.2.1.den_pos) p.2.2.den_pos) (prodE_pos r)
theorem prodE_snoc (p : P3) : ∀ ps : List P3, prodE (ps ++ [p]) = prodE ps * (p.1.den * p.2.1.den * p.2.2.den)
  | [] => by show _ * 1 = 1 * _; rw [Nat.mul_one, Nat.one_mul]
  | q :: r => by
    show q.1.den * q.2.1.den * q.2.2.den * prodE (r ++ [p]) = q.1.den * q.2.1.den * q.2.2.den * prodE r * _
    rw [prodE_snoc p r]
    ac_rfl
/-- all of a list within the same bounds -/
structure AllSz (kx ky kw : Nat) (ps : List P3) : Prop where
  b : ∀ p ∈ ps, Sz kx p.1 ∧ Sz ky p.2.1 ∧ Sz kw p.2.2
theorem prodE_lt {kx ky kw : Nat} : ∀ {ps : List P3}, (∀ p ∈ ps, Sz kx p.1 ∧ Sz ky p.2.1 ∧ Sz kw p.2.2) → prodE ps ≤ 2 ^ ((kx + ky + kw) * ps.length)
  | [], _ => by show 1 ≤ 2 ^ ((kx + ky + kw) * 0); rw [Nat.mul_zero]; exact Nat.le_refl _
  | p :: r, h => by
    obtain ⟨h1, h2, h3⟩ := h p List.mem_cons_self
    have ih := prodE_lt fun q hq => h q (List.mem_cons_of_mem _ hq)
    have e : p.1.den * p.2.1.den * p.2.2.den ≤ 2 ^ (kx + ky + kw) := Nat.le_of_lt (mul_lt_pow (mul_lt_pow h1.de h2.de) h3.de)
    show p.1.den * p.2.1.den * p.2.2.den * prodE r ≤ 2 ^ ((kx + ky + kw) * (r.length + 1))
    rw [Nat.mul_add, Nat.mul_one, Nat.add_comm, Nat.pow_add]
    exact Nat.mul_le_mul e ih
/-- the sums along a list: over the line's and all points' denominators -/
theorem ovU_ov {h s : Rat} {a kx ky kw : Nat} (zh : Sz a h) (zs : Sz a s) : ∀ {ps : List P3}, (∀ p ∈ ps, Sz kx p.1 ∧ Sz ky p.2.1 ∧ Sz kw p.2.2) → ∀ i, i ≤ ps.length →
    Ov (h.den * s.den * prodE (ps.take i)) ((kw + (ky + (a + a + kx) + 4)) + (kx + ky + kw + 1) * i) (ovU h s (ps.take i)).1 ∧ Ov (h.den * s.den * prodE (ps.take i)) ((kw + (ky + (a + a + kx) + 4)) + (kx + ky + kw + 1) * i) (ovU h s (ps.take i)).2 := by
  intro ps hall i
  induction i with
  | zero =>
    intro _
    have z : Ov (h.den * s.den * 1) ((kw + (ky + (a + a + kx) + 4)) + (kx + ky + kw + 1) * 0) 0 := ⟨by rw [Nat.mul_one]; exact Nat.mul_pos h.den_pos s.den_pos, 0, by rw [Rat.zero_divInt], by show 0 < 2 ^ _; exact Nat.two_pow_pos _⟩
    exact ⟨z, z⟩
  | succ i ih =>
    intro hi
    obtain ⟨o1, o2⟩ := ih (by omega)
    obtain ⟨p, hp⟩ : ∃ p, ps[i]? = some p := ⟨ps[i], List.getElem?_eq_getElem (by omega)⟩
    obtain ⟨zx, zy, zw⟩ := hall p (List.mem_of_getElem? hp)
    have hE : p.1.den * p.2.1.den * p.2.2.den < 2 ^ (kx + ky + kw) := mul_lt_pow (mul_lt_pow zx.de zy.de) zw.de
    have pE : 0 < p.1.den * p.2.1.den * p.2.2.den := Nat.mul_pos (Nat.mul_pos p.1.den_pos p.2.1.den_pos) p.2.2.den_pos
    have eD : h.den * s.den * prodE (ps.take (i + 1)) = h.den * s.den * prodE (ps.take i) * (p.1.den * p.2.1.den * p.2.2.den) := by rw [take_snoc hp, prodE_snoc]; ac_rfl
    have wr : Ov (h.den * s.den * prodE (ps.take i) * (p.1.den * p.2.1.den * p.2.2.den)) (kw + (ky + (a + a + kx) + 3) + ((kx + ky + kw) * i + 1)) (p.2.2 * riseR h s p) := by
      have l := prodE_lt (ps := ps.take i) (kx := kx) (ky := ky) (kw := kw) fun q hq => hall q (List.mem_of_mem_take hq)
      have ll : (ps.take i).length = i := by rw [List.length_take]; omega
      rw [ll] at l
      have l2 : prodE (ps.take i) < 2 ^ ((kx + ky + kw) * i + 1) := by
        rw [Nat.pow_succ]
        have := Nat.two_pow_pos ((kx + ky + kw) * i)
        omega
      refine ((wrise_ov zh zs zx zy zw).up (prodE_pos _) l2).cong ?_
      ac_rfl
    have em : (kx + ky + kw + 1) * (i + 1) = (kx + ky + kw) * i + i + (kx + ky + kw) + 1 := by rw [Nat.mul_add, Nat.add_mul]; omega
    have em2 : (kx + ky + kw + 1) * i = (kx + ky + kw) * i + i := by rw [Nat.add_mul]; omega
    have u1 := o1.up pE hE
    have u2 := o2.up pE hE
    rw [em2] at u1 u2
    rw [ovU_take hp, eD, em]
    generalize (kx + ky + kw) * i = t at wr u1 u2 ⊢
    unfold ovStep
    split
    · exact ⟨(u1.add wr).mono (by omega), u2.mono (by omega)⟩
    · refine ⟨u1.mono (by omega), ?_⟩
      have := u2.add wr.neg
      rw [← Rat.sub_eq_add_neg] at this
      exact this.mono (by omega)
end My
namespace My
open PySem PySem.Spec PyProof.Rows L2
theorem SzP.ov {D E n m d e : Nat} {q r : Rat} (h1 : Ov D n q) (h2 : Ov E m r) (hD : D ≤ 2 ^ d) (hE : E < 2 ^ e) (h : d + e ≤ 8990) (hn : n ≤ 300000) (hm : m ≤ 300000) (n0 : 0 < n) (m0 : 0 < m) (e0 : 0 < e) : SzP q r := by
  obtain ⟨a1, a2⟩ := h1.sz
  obtain ⟨b1, b2⟩ := h2.sz
  have q1 : q.den < 2 ^ (d + 1) := by
    rw [Nat.pow_succ]
    have := Nat.two_pow_pos d
    omega
  have r1 : r.den < 2 ^ e := Nat.lt_of_le_of_lt b1 hE
  refine ⟨Nat.lt_of_lt_of_le (PySem.Flt.log2_lt_of n0 a2) hn, Nat.lt_of_lt_of_le (PySem.Flt.log2_lt_of m0 b2) hm, Nat.lt_of_lt_of_le (PySem.Flt.log2_lt_of (by omega) q1) (by omega), Nat.lt_of_lt_of_le (PySem.Flt.log2_lt_of e0 r1) (by omega), ?_⟩
  refine pow_up (n := d + e) ?_ h
  rw [Nat.pow_add]
  exact Nat.lt_of_le_of_lt (Nat.mul_le_mul_right _ (Nat.le_trans a1 hD)) (Nat.mul_lt_mul_of_pos_left r1 (Nat.two_pow_pos d))
theorem lineD {h s : Rat} {a : Nat} (zh : Sz a h) (zs : Sz a s) : h.den * s.den < 2 ^ (a + a) := mul_lt_pow zh.de zs.de
theorem riseSz {h s : Rat} {p : P3} {a kx ky : Nat} (zh : Sz a h) (zs : Sz a s) (zx : Sz kx p.1) (zy : Sz ky p.2.1) (a0 : 0 < a) (x0 : 0 < kx) (y0 : 0 < ky) (l : a + a + a + kx + kx + ky ≤ 8000) : RiseSz h s p :=
  ⟨.mk' zs zx (by omega) a0 x0, .mk' zh (zs.mul zx) (by omega) a0 (by omega), .mk' zy (zh.add (zs.mul zx)) (by omega) y0 (by omega)⟩
/-- sizes of the sums along a list of at most n points -/
theorem sumSz {h s : Rat} {a kx ky kw N : Nat} {ps : List P3} (zh : Sz a h) (zs : Sz a s) (hall : ∀ p ∈ ps, Sz kx p.1 ∧ Sz ky p.2.1 ∧ Sz kw p.2.2) (hl : ps.length ≤ N) (a0 : 0 < a) (x0 : 0 < kx) (y0 : 0 < ky) (w0 : 0 < kw)
    (l1 : a + a + a + kx + kx + ky ≤ 8000) (l2 : (kx + ky + kw) * N + 4 * a + 2 * kx + 2 * ky + 2 * kw + 10 ≤ 8990) : SumSz h s ps := by
  intro i p hp
  obtain ⟨zx, zy, zw⟩ := hall p (List.mem_of_getElem? hp)
  have hi : i < ps.length := (List.getElem?_eq_some_iff.mp hp).1
  obtain ⟨o1, o2⟩ := ovU_ov zh zs hall i (by omega)
  have wr := wrise_ov zh zs zx zy zw
  have hP := prodE_lt (ps := ps.take i) (kx := kx) (ky := ky) (kw := kw) fun q hq => hall q (List.mem_of_mem_take hq)
  have ll : (ps.take i).length = i := by rw [List.length_take]; omega
  rw [ll] at hP
  have iN : (kx + ky + kw) * i ≤ (kx + ky + kw) * N := Nat.mul_le_mul_left _ (by omega)
  have iN2 : (kx + ky + kw + 1) * i = (kx + ky + kw) * i + i := by rw [Nat.add_mul]; omega
  have eN : N ≤ (kx + ky + kw) * N := Nat.le_mul_of_pos_left _ (by omega)
  have hD : h.den * s.den * prodE (ps.take i) ≤ 2 ^ (a + a + (kx + ky + kw) * i) := by
    rw [Nat.pow_add]
    exact Nat.mul_le_mul (Nat.le_of_lt (lineD zh zs)) hP
  have hE : h.den * s.den * (p.1.den * p.2.1.den * p.2.2.den) < 2 ^ (a + a + (kx + ky + kw)) := mul_lt_pow (lineD zh zs) (mul_lt_pow (mul_lt_pow zx.de zy.de) zw.de)
  have rv := rise_ov zh zs zx zy
  have hR : h.den * s.den * (p.1.den * p.2.1.den) < 2 ^ (a + a + (kx + ky)) := mul_lt_pow (lineD zh zs) (mul_lt_pow zx.de zy.de)
  refine ⟨riseSz zh zs zx zy a0 x0 y0 l1, SzP.ov (Ov.of zw) rv (Nat.le_of_lt zw.de) hR (by omega) (by omega) (by omega) w0 (by omega) (by omega), ?_, ?_⟩
  · exact SzP.ov o1 wr hD hE (by omega) (by rw [iN2]; omega) (by omega) (by omega) (by omega) (by omega)
  · exact SzP.ov o2 wr hD hE (by omega) (by rw [iN2]; omega) (by omega) (by omega) (by omega) (by omega)
end My

namespace My
open PySem PySem.Spec PyProof.Rows L2 GxR
/-! ### from the head's facts -/
theorem ex_get {K : PySem.W.Frag} {l : List (PySem.W.Frag → Bool)} (h : (l.all fun f => f K) = true) (i : Nat) {f : PySem.W.Frag → Bool} (e : l[i]? = some f := by rfl) : f K = true :=
  List.all_eq_true.mp h f (List.mem_of_getElem? e)
theorem ex_dec {K : PySem.W.Frag} {l : List (PySem.W.Frag → Bool)} (h : (l.all fun f => f K) = true) (i : Nat) {p : PySem.W.Frag → Prop} [d : ∀ K, Decidable (p K)] (e : l[i]? = some (fun K => decide (p K)) := by rfl) : p K :=
  of_decide_eq_true (ex_get h i e)
theorem fun_of {K : PySem.W.Frag} {x qual : Str} {st : Stmt} {f : Addr} {fd : FuncData} (F : FunD K x qual (defArgs st) (defBody st) (defScope st) [] [] f fd) : Fun K x qual st f fd := by
  obtain ⟨oc, od, dV, kV, doc, pm, an, cdv, ct, osl, e, lk, hcd, hD, _⟩ := F.ex
  rcases hD with ⟨_, z⟩ | ⟨z, _⟩
  · subst z
    exact ⟨⟨oc, od, kV, doc, pm, an, cdv, ct, osl, e, lk, hcd⟩, F.kp⟩
  · exact absurd rfl z
theorem func_of {K : PySem.W.Frag} {x qual : Str} {st : Stmt} {p : He.Defn} {fd : FuncData} (F : FunD K x qual (defArgs st) (defBody st) (defScope st) [] [] (He.fAd K p) fd) : FunC K x qual st (He.fAd K p) fd (He.codeOf K p) := by
  obtain ⟨oc, od, dV, kV, doc, pm, an, cdv, ct, osl, e, lk, hcd, hD, _⟩ := F.ex
  obtain ⟨c, hc⟩ := He.codeIn_ref hcd
  rcases hD with ⟨_, z⟩ | ⟨z, _⟩
  · subst z hc
    have q : He.codeOf K p = c := He.codeOf_eq lk (by rw [e])
    rw [q]
    exact ⟨oc, od, kV, doc, pm, an, ct, osl, e, lk, hcd⟩
  · exact absurd rfl z
theorem tabB_of {base : Heap} {mg : Str → Option Value} {c P : Addr} (h : LamX.TabB base mg c P) : GxR.TabB base mg c P := ⟨h.code, let ⟨a, b, r⟩ := h.bm; ⟨a, b, r⟩, h.gP⟩
theorem tabG_of {H : Hp} {P : Addr} (h : H P = some (.tbl #[])) : TabG H P := ⟨#[], h, trivial⟩
end My

namespace My
open PySem PySem.Spec PyProof.Rows L2 GxR
/-! ### data of fractions -/
theorem eqv_q (q r : Rat) : PyData.eqv (pdQ q) (pdQ r) = decide (q = r) := by
  show (q.num == r.num && (((q.den : Int) == (r.den : Int)) && true)) = decide (q = r)
  by_cases h : q = r
  · subst h; simp
  · rw [decide_eq_false h, Bool.eq_false_iff]
    intro z
    simp only [Bool.and_true, Bool.and_eq_true, beq_iff_eq] at z
    exact h (Rat.ext z.1 (by omega))
theorem eqv_t (q r : Rat) : PyData.eqv (.tuple [.int q.num, .int (q.den : Int)]) (.tuple [.int r.num, .int (r.den : Int)]) = decide (q = r) := eqv_q q r
theorem lay_qs : ∀ (qs : List Rat), PyData.canLayAll0 (qs.map pdQ) = true
  | [] => rfl
  | q :: r => by
    rw [List.map_cons]
    show (PyData.canLay0 (pdQ q) && PyData.canLayAll0 (r.map pdQ)) = true
    rw [lay_qs r]; rfl
theorem dep_qs : ∀ (qs : List Rat), PyData.depthAll (qs.map pdQ) ≤ 1
  | [] => Nat.zero_le _
  | q :: r => by
    rw [List.map_cons]
    show max (PyData.depth (pdQ q)) (PyData.depthAll (r.map pdQ)) ≤ 1
    exact Nat.max_le.mpr ⟨Nat.le_of_ble_eq_true rfl, dep_qs r⟩
theorem shaped_qs (qs : List Rat) : SeqAt.shaped (.list (qs.map pdQ)) = true := by
  show (PyData.canLayAll0 (qs.map pdQ) && decide (PyData.depthAll (qs.map pdQ) + 1 ≤ 64)) = true
  rw [lay_qs, decide_eq_true (by have := dep_qs qs; omega)]; rfl
theorem eqv_qs (qs : List Rat) : PyData.eqv (.list (qs.map pdQ)) (.list (qs.map pdQ)) = true := SeqAt.eqv_refl _ (lay_qs qs)
theorem eqv_ps (ps : List P3) : PyData.eqv (.list (ps.map pdP)) (.list (ps.map pdP)) = true := SeqAt.eqv_refl _ (lay_pts ps)
theorem FrL.dp {K : PySem.W.Frag} {H : Hp} : ∀ {vs : List V} {qs : List Rat}, FrL K H vs qs → DpAll K H vs (qs.map pdQ)
  | _, _, .nil => .nil
  | _, _, .cons h r => .cons h.dp r.dp
theorem FrL.tk {K : PySem.W.Frag} {H H' : Hp} (s : Tk H H') : ∀ {vs : List V} {qs : List Rat}, FrL K H vs qs → FrL K H' vs qs
  | _, _, .nil => .nil
  | _, _, .cons h r => .cons (h.tk s) (r.tk s)
theorem each_of {β : Type} {R : V → β → Prop} : ∀ {ys : List V} {bs : List β}, ys.length = bs.length → (∀ (i : Nat) (y : V), ys[i]? = some y → ∃ b, bs[i]? = some b ∧ R y b) → Each R ys bs
  | [], [], _, _ => .nil
  | y :: ys, [], h, _ => by simp at h
  | [], q :: qs, h, _ => by simp at h
  | y :: ys, q :: qs, h, f => by
    obtain ⟨q', e, hq⟩ := f 0 y rfl
    cases e
    exact .cons hq (each_of (by simpa using h) fun i z e => f (i + 1) z e)
theorem ints_of : ∀ {ys : List V} {ns : List Int}, ys.length = ns.length → (∀ (i : Nat) (y : V), ys[i]? = some y → ∃ z, ns[i]? = some z ∧ y = .int z) → ys = ns.map V.int
  | [], [], _, _ => rfl
  | y :: ys, [], h, _ => by simp at h
  | [], q :: qs, h, _ => by simp at h
  | y :: ys, q :: qs, h, f => by
    obtain ⟨q', e, hq⟩ := f 0 y rfl
    cases e
    rw [List.map_cons, hq, ints_of (by simpa using h) fun i z e => f (i + 1) z e]
theorem bls_of : ∀ {ys : List V} {bs : List Bool}, ys.length = bs.length → (∀ (i : Nat) (y : V), ys[i]? = some y → ∃ z, bs[i]? = some z ∧ y = .bl z) → ys = bs.map V.bl
  | [], [], _, _ => rfl
  | y :: ys, [], h, _ => by simp at h
  | [], q :: qs, h, _ => by simp at h
  | y :: ys, q :: qs, h, f => by
    obtain ⟨q', e, hq⟩ := f 0 y rfl
    cases e
    rw [List.map_cons, hq, bls_of (by simpa using h) fun i z e => f (i + 1) z e]
/-- a thing at a drawn place -/
theorem pick {β : Type} {R : V → β → Prop} {ws : List V} {ps : List β} {d : Int} (h : Each R ws ps) (d0 : 0 ≤ d) (d1 : d < ws.length) : ∃ v q, atI ws d = some v ∧ q ∈ ps ∧ R v q := by
  have hlt : d.toNat < ws.length := by omega
  obtain ⟨q, hq, f⟩ := h.get (List.getElem?_eq_getElem hlt)
  exact ⟨ws[d.toNat]'hlt, q, at_of (j := d.toNat) (by omega) (List.getElem?_eq_getElem hlt), List.mem_of_getElem? hq, f⟩
theorem sm_upd {H H1 : Hp} {F : Addr} {o : HO} (s : Sm H H1) (h : H F = none) : Sm H (upd H1 F o) := fun c u e => by
  unfold Hld
  rw [upd_ne (ne_of_none e h)]
  exact s c u e
/-- [f(..) for .. in xs], any target, the list at a slot -/
theorem rd_lcLg {K : PySem.W.Frag} {σ : L2.St} {H : Hp} {Q : VK} {g : TG} {te : TE} {vs : List Nat} {j : Nat} {a : Addr} {xs : List V} (P : Nat → Hp → V → Prop) (hP : ∀ i H1 H2 y, Tk H1 H2 → P i H1 y → P i H2 y) (hv : σ[j]? = some (some (.ref a))) (h : SqL K H a xs) (hn : xs.length ≤ 1000)
    (he : ∀ n x H2, xs[n]? = some x → Sm H H2 → ∀ Q' : VK, (∀ y H4, Sm H2 H4 → P n H4 y → Q' y H4) → g x (wipe σ vs) H2 fun σ2 H4 => wipe σ2 vs = wipe σ vs ∧ te σ2 H4 Q')
    (k : ∀ D ys H2, H D = none → Sm H H2 → H2 D = some (.lst ys) → ys.length = xs.length → (∀ i y, ys[i]? = some y → P i H2 y) → Q (.ref D) H2) : tLc (iList K (tVar j)) g tYes te vs σ H Q :=
  rd_lcG (J := Itl K a) P hP hn (fun R r => ⟨_, hv, a, rfl, ⟨xs, h⟩, r⟩) (fun k H2 s hk => ⟨xs, xs[k], s.sql h, by simp [hk]⟩) (fun H2 s => ⟨xs, s.sql h, Nat.le_refl _⟩)
    (fun n x H2 H3 hn s hy => by
      obtain ⟨e, hx⟩ := hy
      subst e
      exact ⟨.refl _, fun Q' hq => he n x _ (hx xs (s.sql h)) s Q' hq⟩) k
/-- what a comprehension goes through, reckoned first -/
def iAt (J : It) : TI := fun _ H R => R J H
theorem rd_lcTE {K : PySem.W.Frag} {σ : L2.St} {H : Hp} {Q : VK} {g : TG} {tt : TT} {te t0 : TE} {vs : List Nat} (k : t0 σ H fun x H1 => ∃ a, x = .ref a ∧ (∃ xs, SqT K H1 a xs) ∧ tLc (iAt (Itt K a)) g tt te vs σ H1 Q) : tLc (iTup K t0) g tt te vs σ H Q := k
theorem rd_lcLE {K : PySem.W.Frag} {σ : L2.St} {H : Hp} {Q : VK} {g : TG} {tt : TT} {te t0 : TE} {vs : List Nat} (k : t0 σ H fun x H1 => ∃ a, x = .ref a ∧ (∃ xs, SqL K H1 a xs) ∧ tLc (iAt (Itl K a)) g tt te vs σ H1 Q) : tLc (iList K t0) g tt te vs σ H Q := k
theorem rd_lcTa {K : PySem.W.Frag} {σ : L2.St} {H : Hp} {Q : VK} {g : TG} {te : TE} {vs : List Nat} {a : Addr} {xs : List V} (P : Nat → Hp → V → Prop) (hP : ∀ i H1 H2 y, Tk H1 H2 → P i H1 y → P i H2 y) (h : SqT K H a xs) (hn : xs.length ≤ 1000)
    (he : ∀ n x H2, xs[n]? = some x → Sm H H2 → ∀ Q' : VK, (∀ y H4, Sm H2 H4 → P n H4 y → Q' y H4) → g x (wipe σ vs) H2 fun σ2 H4 => wipe σ2 vs = wipe σ vs ∧ te σ2 H4 Q')
    (k : ∀ D ys H2, H D = none → Sm H H2 → H2 D = some (.lst ys) → ys.length = xs.length → (∀ i y, ys[i]? = some y → P i H2 y) → Q (.ref D) H2) : tLc (iAt (Itt K a)) g tYes te vs σ H Q :=
  rd_lcG (J := Itt K a) P hP hn (fun R r => r) (fun k H2 s hk => ⟨xs, xs[k], sqt_up s h, by simp [hk]⟩) (fun H2 s => ⟨xs, sqt_up s h, Nat.le_refl _⟩)
    (fun n x H2 H3 hn s hy => by
      obtain ⟨e, hx⟩ := hy
      subst e
      exact ⟨.refl _, fun Q' hq => he n x _ (hx xs (sqt_up s h)) s Q' hq⟩) k
theorem rd_lcLa {K : PySem.W.Frag} {σ : L2.St} {H : Hp} {Q : VK} {g : TG} {te : TE} {vs : List Nat} {a : Addr} {xs : List V} (P : Nat → Hp → V → Prop) (hP : ∀ i H1 H2 y, Tk H1 H2 → P i H1 y → P i H2 y) (h : SqL K H a xs) (hn : xs.length ≤ 1000)
    (he : ∀ n x H2, xs[n]? = some x → Sm H H2 → ∀ Q' : VK, (∀ y H4, Sm H2 H4 → P n H4 y → Q' y H4) → g x (wipe σ vs) H2 fun σ2 H4 => wipe σ2 vs = wipe σ vs ∧ te σ2 H4 Q')
    (k : ∀ D ys H2, H D = none → Sm H H2 → H2 D = some (.lst ys) → ys.length = xs.length → (∀ i y, ys[i]? = some y → P i H2 y) → Q (.ref D) H2) : tLc (iAt (Itl K a)) g tYes te vs σ H Q :=
  rd_lcG (J := Itl K a) P hP hn (fun R r => r) (fun k H2 s hk => ⟨xs, xs[k], s.sql h, by simp [hk]⟩) (fun H2 s => ⟨xs, s.sql h, Nat.le_refl _⟩)
    (fun n x H2 H3 hn s hy => by
      obtain ⟨e, hx⟩ := hy
      subst e
      exact ⟨.refl _, fun Q' hq => he n x _ (hx xs (s.sql h)) s Q' hq⟩) k
section
variable {X : Cx} (K : PySem.W.Frag)
theorem my_max (hc : X.calm = true) (hK : X.K = K := by rfl) : CallR X (.builtin "max") (rMax K) := by subst hK; exact cr_max hc
theorem my_min (hc : X.calm = true) (hK : X.K = K := by rfl) : CallR X (.builtin "min") (rMin K) := by subst hK; exact cr_min hc
end
section
variable {K : PySem.W.Frag} {σ : L2.St} {H : Hp} {Q : VK}
theorem rd_abs {i : Int} (k : Q (.int (if i < 0 then -i else i)) H) : ∃ j, [V.int i] = [.int j] ∧ Q (.int (if j < 0 then -j else j)) H := ⟨i, rfl, k⟩
theorem rd_notN {x : V} (k : Q (.bl (!decide (x = .non))) H) : (V.non : V) = .non ∧ Q (.bl (!decide (x = .non))) H := ⟨rfl, k⟩
/-- list(..) -/
def rListOf (K : PySem.W.Frag) : List V → Hp → VK → Prop := fun xs H Q => ∃ p ys, xs = [.ref p] ∧ (SqL K H p ys ∨ SqT K H p ys) ∧ ∀ l, H l = none → Q (.ref l) (upd H l (.lst ys))
def rTupleOf (K : PySem.W.Frag) : List V → Hp → VK → Prop := fun xs H Q => ∃ p ys, xs = [.ref p] ∧ ((SqL K H p ys ∧ ∀ l, H l = none → Q (.ref l) (upd H l (.tup ys))) ∨ (SqT K H p ys ∧ Q (.ref p) H))
theorem rd_listL {p : Addr} {ys : List V} (h : SqL K H p ys) (k : ∀ l H2, H l = none → Sm H H2 → H2 l = some (.lst ys) → Q (.ref l) H2) : rListOf K [V.ref p] H Q :=
  ⟨p, ys, rfl, .inl h, fun l hl => k l _ hl (same_new hl) upd_same⟩
theorem rd_listT {p : Addr} {ys : List V} (h : SqT K H p ys) (k : ∀ l H2, H l = none → Sm H H2 → H2 l = some (.lst ys) → Q (.ref l) H2) : rListOf K [V.ref p] H Q :=
  ⟨p, ys, rfl, .inr h, fun l hl => k l _ hl (same_new hl) upd_same⟩
/-- tuple(a list) -/
theorem rd_tupleL {p : Addr} {ys : List V} (h : SqL K H p ys) (k : ∀ l H2, H l = none → Sm H H2 → H2 l = some (.tup ys) → Q (.ref l) H2) : rTupleOf K [V.ref p] H Q :=
  ⟨p, ys, rfl, .inl ⟨h, fun l hl => k l _ hl (same_new hl) upd_same⟩⟩
theorem rd_revV {j : Nat} {l : Addr} {xs : List V} (hv : σ[j]? = some (some (.ref l))) (h : H l = some (.lst xs)) (k : Q .non (upd H l (.lst xs.reverse))) : tBM0 K "list" rReverse (tVar j) σ H Q :=
  ⟨_, hv, .inl ⟨rfl, xs, SqL.of h⟩, l, xs, rfl, rfl, h, k⟩
theorem rd_all {p : Addr} {bs : List Bool} (h : SqL K H p (bs.map V.bl)) (k : Q (.bl (bs.all id)) H) : rAll K [.ref p] H Q := ⟨p, bs, rfl, h, k⟩
end
section
variable {X : Cx} (K : PySem.W.Frag)
theorem my_list_of (hK : X.K = K := by rfl) : CallR X (.type "list") (rListOf K) := by subst hK; exact call_list_of
theorem my_tuple_of (hK : X.K = K := by rfl) : CallR X (.type "tuple") (rTupleOf K) := by subst hK; exact call_tuple_of
end
/-- a slice of a list or of a tuple -/
def rSlX (K : PySem.W.Frag) : V → Option Int → Option Int → Hp → VK → Prop := fun x lo hi H Q => rSlL K x lo hi H Q ∨ rSlA K x lo hi H Q
section
variable {X : Cx} (K : PySem.W.Frag)
theorem my_sl (hK : X.K = K := by rfl) : SlR X (rSlX K) := by
  subst hK
  intro pins s σ H x v vl vu lo hi sl Q I rx hs pl pu h
  exact h.elim (sl_list pins s σ H x v vl vu lo hi sl Q I rx hs pl pu) (sl_tupA pins s σ H x v vl vu lo hi sl Q I rx hs pl pu)
end
section
variable {K : PySem.W.Frag} {σ : L2.St} {H : Hp} {Q : VK}
theorem rd_sl {r : V → Option Int → Option Int → Hp → VK → Prop} {te : TE} {tl th : TO} (k : te σ H fun x H1 => tl σ H1 fun l H2 => th σ H2 fun u H3 => r x l u H3 Q) : tSl r te tl th σ H Q := k
theorem rd_nopart {R : Option Int → Hp → Prop} (k : R none H) : tNoPart σ H R := k
theorem rd_part {te : TE} {R : Option Int → Hp → Prop} (k : te σ H fun x H1 => ∃ i, x = .int i ∧ R (some i) H1) : tPart te σ H R := k
theorem rd_1v {x : Int} {P : Int → Prop} (k : P x) : ∃ i, V.int x = V.int i ∧ P i := ⟨x, rfl, k⟩
theorem rd_slL {a : Addr} {xs : List V} {lo hi : Option Int} (h : SqL K H a xs) (k : ∀ p H2, H p = none → Sm H H2 → H2 p = some (.lst (cutV xs lo hi)) → Q (.ref p) H2) : rSlX K (.ref a) lo hi H Q := .inl ⟨a, xs, rfl, h, fun p hp => k p _ hp (same_new hp) upd_same⟩
theorem rd_slT {a : Addr} {xs : List V} {lo hi : Option Int} (h : SqT K H a xs) (k : ∀ p H2, Sm H H2 → SqT K H2 p (cutV xs lo hi) → Q (.ref p) H2) : rSlX K (.ref a) lo hi H Q :=
  .inr ⟨a, xs, rfl, h, fun w => k a H (.refl _) (by
    unfold cutV
    rw [w.1, w.2, List.drop_zero, Nat.sub_zero, List.take_length]
    exact h), fun _ p hp => k p _ (same_new hp) (SqT.of upd_same)⟩
theorem rd_catA {l p : Addr} {xs ys : List V} (h1 : SqT K H l xs) (h2 : SqT K H p ys) (hl : xs.length + ys.length ≤ 1000) (k : ∀ q H2, Sm H H2 → SqT K H2 q (xs ++ ys) → Q (.ref q) H2) : rAddA K (.ref l) (.ref p) H Q :=
  .inr ⟨l, p, xs, ys, rfl, rfl, h1, h2, Nat.le_trans hl (by decide), fun z => k p H (.refl _) (by rw [z]; exact h2), fun _ z => k l H (.refl _) (by rw [z, List.append_nil]; exact h1), fun _ _ q hq => k q _ (same_new hq) (SqT.of upd_same)⟩
theorem rd_rep {l : Addr} {xs : List V} {n : Int} (h : H l = some (.lst xs)) (h0 : 0 ≤ n) (h1 : n ≤ 1000) (h2 : xs.length * n.toNat ≤ 1000) (k : ∀ p H2, H p = none → Sm H H2 → H2 p = some (.lst (List.replicate n.toNat xs).flatten) → Q (.ref p) H2) : rRep (.ref l) (.int n) H Q :=
  ⟨l, n, xs, rfl, rfl, h, by omega, by omega, Nat.le_trans h2 (by decide), fun p hp => k p _ hp (same_new hp) upd_same⟩
theorem rd_inL {p : Addr} {xs : List V} {x : V} (h : SqL K H p xs) (f1 : flatV x = true) (f2 : xs.all flatV = true) (k : Q (.bl (inV x xs)) H) : rIn K false x (.ref p) H Q := ⟨p, xs, rfl, .inl h, f1, f2, k⟩
end
theorem cutV_mem {xs : List V} {lo hi : Option Int} {x : V} (h : x ∈ cutV xs lo hi) : x ∈ xs := List.mem_of_mem_drop (List.mem_of_mem_take h)
theorem all_rep (n : Nat) : (List.replicate n true).all id = true := by
  rw [List.all_eq_true]
  intro b hb
  rw [List.eq_of_mem_replicate hb]; rfl
theorem rep_of {ys : List V} (h : ∀ (i : Nat) (y : V), ys[i]? = some y → y = .bl true) : ys = (List.replicate ys.length true).map V.bl :=
  bls_of (by rw [List.length_replicate]) fun i y e => ⟨true, by rw [List.getElem?_replicate, if_pos (List.getElem?_eq_some_iff.mp e).1], h i y e⟩
theorem rd_rng2 {ta : TA} {σ : L2.St} {H : Hp} {R : It → Hp → Prop} (k : ta σ H fun vs H1 => ∃ i j : Int, vs = [.int i, .int j] ∧ (-(2 ^ 62) ≤ i ∧ i < 2 ^ 62 ∧ -(2 ^ 62) ≤ j ∧ j < 2 ^ 62) ∧ R (Itr i (j - i).toNat) H1) : iRng2 ta σ H R := k
theorem my_revL {X : Cx} (K : PySem.W.Frag) {e : Expr} {te : TE} {k : Nat} {p1 p2 p3 pos : Pos} (he : PE X e te) (hK : X.K = K := by rfl) : PE X (.Subscript e (.Slice none none (some (.UnaryOp .USub (.Constant (.int 1) k p1) p2)) p3) pos) (tRevL K te) := by subst hK; exact pe_revL he
theorem rd_revS {K : PySem.W.Frag} {σ : L2.St} {H : Hp} {Q : VK} {j : Nat} {a : Addr} {xs : List V} (hv : σ[j]? = some (some (.ref a))) (h : SqL K H a xs) (k : ∀ p H2, H p = none → Sm H H2 → H2 p = some (.lst xs.reverse) → Q (.ref p) H2) : tRevL K (tVar j) σ H Q :=
  ⟨_, hv, a, xs, rfl, h, fun p hp => k p _ hp (same_new hp) upd_same⟩
theorem cut_from (ws : List V) (i : Nat) (h : i ≤ ws.length) : cutV ws (some (i : Int)) none = ws.drop i := by
  unfold cutV
  rw [HT.sIx_nat, HT.sIx_none, Nat.min_eq_left h, List.take_of_length_le (by rw [List.length_drop]; exact Nat.le_refl _)]
theorem cut_to (ws : List V) (i : Nat) (h : i ≤ ws.length) : cutV ws none (some (i : Int)) = ws.take i := by
  unfold cutV
  rw [HT.sIx_nat, HT.sIx_none, Nat.min_eq_left h]; rfl
theorem Each.drop {β : Type} {R : V → β → Prop} : ∀ {vs : List V} {bs : List β} (i : Nat), Each R vs bs → Each R (vs.drop i) (bs.drop i)
  | _, _, 0, h => h
  | _, _, _ + 1, .nil => .nil
  | _, _, i + 1, .cons _ r => r.drop i
theorem Each.take {β : Type} {R : V → β → Prop} : ∀ {vs : List V} {bs : List β} (i : Nat), Each R vs bs → Each R (vs.take i) (bs.take i)
  | _, _, 0, _ => .nil
  | _, _, _ + 1, .nil => .nil
  | _, _, i + 1, .cons h r => .cons h (r.take i)
theorem Each.rev {β : Type} {R : V → β → Prop} : ∀ {vs : List V} {bs : List β}, Each R vs bs → Each R vs.reverse bs.reverse
  | _, _, .nil => .nil
  | _, _, .cons h r => by rw [List.reverse_cons, List.reverse_cons]; exact r.rev.app (.cons h .nil)
theorem Two.dp {K : PySem.W.Frag} {H : Hp} {v : V} {q r : Rat} (h : Two K H v q r) : Dp K H v (.tuple [pdQ q, pdQ r]) := by
  obtain ⟨a, v1, v2, rfl, hs, h1, h2⟩ := h
  exact .tup hs (.cons h1.dp (.cons h2.dp .nil))
theorem Two.ty {K : PySem.W.Frag} {H : Hp} {v : V} {q r : Rat} (h : Two K H v q r) : TyX K H v (.type "tuple") := by
  obtain ⟨a, v1, v2, rfl, hs, h1, h2⟩ := h
  exact sqt_ty hs
/-- what is no fraction other than 0 -/
def BadFac (K : PySem.W.Frag) (H : Hp) (x : V) : Prop := IsFrB K H x false ∨ Fr K H x 0
/-- [.. for x in xs if t], the list at a slot: what the kept places tell -/
theorem rd_lcF {K : PySem.W.Frag} {σ : L2.St} {H : Hp} {Q : VK} {g : TG} {tt : TT} {te : TE} {vs : List Nat} {j : Nat} {a : Addr} {xs : List V} (f : Nat → Bool) (P : Nat → Hp → V → Prop) (hP : ∀ i H1 H2 y, Tk H1 H2 → P i H1 y → P i H2 y) (hv : σ[j]? = some (some (.ref a))) (h : SqL K H a xs) (hn : xs.length ≤ 1000)
    (he : ∀ n x H2, xs[n]? = some x → Sm H H2 → ∀ (Q' : VK) (N : Hp → Prop), (f n = true → ∀ y H4, Sm H2 H4 → P n H4 y → Q' y H4) → (f n = false → ∀ H4, Sm H2 H4 → N H4) → g x (wipe σ vs) H2 fun σ2 H3 => wipe σ2 vs = wipe σ vs ∧ tt σ2 H3 fun b H4 => if b = true then te σ2 H4 Q' else N H4)
    (k : ∀ D ys H2, H D = none → Sm H H2 → H2 D = some (.lst ys) → ys.length = ((List.range xs.length).filter f).length → (∀ (i : Nat) y, ys[i]? = some y → ∃ m, ((List.range xs.length).filter f)[i]? = some m ∧ P m H2 y) → Q (.ref D) H2) : tLc (iList K (tVar j)) g tt te vs σ H Q := by
  refine ⟨_, hv, a, rfl, ⟨xs, h⟩, fun D hD => ?_⟩
  refine ⟨fun i m H2 => m = xs.length - i ∧ i ≤ xs.length ∧ Sm H H2 ∧ ∃ ys, H2 D = some (.lst ys) ∧ ys.length = ((List.range i).filter f).length ∧ ∀ (j : Nat) y, ys[j]? = some y → ∃ m, ((List.range i).filter f)[j]? = some m ∧ P m H2 y, ⟨xs.length, by omega, Nat.zero_le _, same_new hD, [], upd_same, rfl, fun j y e => by simp at e⟩, ?_⟩
  rintro i m H2 ⟨rfl, hi, s2, ys, hx, hl, hy⟩
  have hlen : ((List.range i).filter f).length ≤ i := by
    have := List.length_filter_le f (List.range i)
    rwa [List.length_range] at this
  by_cases hlt : i < xs.length
  · have hRs : (List.range (i + 1)).filter f = (List.range i).filter f ++ (if f i = true then [i] else []) := by
      rw [List.range_succ, List.filter_append]
      congr 1
      by_cases hf : f i = true
      · rw [if_pos hf, List.filter_cons_of_pos hf]; rfl
      · rw [if_neg hf, List.filter_cons_of_neg hf]; rfl
    refine .inr ⟨⟨xs, xs[i], s2.sql h, by simp [hlt]⟩, fun H4 => i + 1 ≤ xs.length ∧ Sm H H4 ∧ ∃ ys, H4 D = some (.lst ys) ∧ ys.length = ((List.range (i + 1)).filter f).length ∧ ∀ (j : Nat) y, ys[j]? = some y → ∃ m, ((List.range (i + 1)).filter f)[j]? = some m ∧ P m H4 y, fun H4 ⟨q1, q2, q3⟩ => ⟨xs.length - (i + 1), by omega, rfl, q1, q2, q3⟩, fun x H3 hyd => ?_⟩
    obtain ⟨e3, hxx⟩ := hyd
    subst e3
    refine he i x _ (hxx xs (s2.sql h)) s2 _ _ (fun hf y H4 s4 py => ?_) (fun hf H4 s4 => ?_)
    · have hx4 : H4 D = some (.lst ys) := s4.g hx
      have t4 : Tk H4 (upd H4 D (.lst (ys ++ [y]))) := tk_lst hx4
      refine ⟨ys, hx4, ?_, hlt, sm_upd (s2.trans s4) hD, ys ++ [y], upd_same, ?_, fun j z e => ?_⟩
      · rw [hl]; exact Nat.lt_of_lt_of_le (by omega : _ < 1000) (by decide)
      · rw [hRs, if_pos hf, List.length_append, List.length_append, hl]; rfl
      · rw [hRs, if_pos hf]
        by_cases hj : j < ys.length
        · rw [List.getElem?_append_left hj] at e
          obtain ⟨m, hm, pm⟩ := hy j z e
          exact ⟨m, by rw [List.getElem?_append_left (by omega)]; exact hm, hP m _ _ z (s4.tk.trans t4) pm⟩
        · rw [List.getElem?_append_right (by omega)] at e
          have hj0 : j - ys.length = 0 := by
            rcases Nat.eq_zero_or_pos (j - ys.length) with h | h
            · exact h
            · rw [List.getElem?_eq_none (by show 1 ≤ _; omega)] at e; cases e
          rw [hj0] at e
          cases e
          refine ⟨i, ?_, hP i _ _ y t4 py⟩
          rw [List.getElem?_append_right (by omega), show j - ((List.range i).filter f).length = 0 by omega]; rfl
    · refine ⟨hlt, s2.trans s4, ys, s4.g hx, ?_, fun j z e => ?_⟩
      · rw [hRs, if_neg (by rw [hf]; exact Bool.false_ne_true), List.append_nil, hl]
      · rw [hRs, if_neg (by rw [hf]; exact Bool.false_ne_true), List.append_nil]
        obtain ⟨m, hm, pm⟩ := hy j z e
        exact ⟨m, hm, hP m _ _ z s4.tk pm⟩
  · have e : i = xs.length := by omega
    subst e
    exact .inl ⟨⟨xs, s2.sql h, Nat.le_refl _⟩, k D ys H2 hD s2 hx hl hy⟩
/-- points upside down -/
def upP (p : P3) : P3 := (p.1, -p.2.1, p.2.2)
end My
namespace My
open PySem PySem.Spec PyProof.Rows L2 GxR
/-- whether two points have unlike x -/
def twoX : List P3 → Bool
  | [] => false
  | p :: r => (p :: r).any fun q => !decide (q.1 = p.1)
theorem Each.fst {β : Type} {R : V → β → Prop} {vs : List V} {bs : List β} (h : Each R vs bs) (n : 0 < bs.length) : ∃ v b vs' bs', vs = v :: vs' ∧ bs = b :: bs' ∧ R v b := by
  cases h with
  | nil => simp at n
  | cons h r => exact ⟨_, _, _, _, rfl, rfl, h⟩
theorem FrBs.app {K : PySem.W.Frag} {H : Hp} : ∀ {vs : List V} {bs : List Bool} {ws : List V} {cs : List Bool}, FrBs K H vs bs → FrBs K H ws cs → FrBs K H (vs ++ ws) (bs ++ cs)
  | _, _, _, _, .nil, h => h
  | _, _, _, _, .cons h r, h2 => .cons h (r.app h2)
theorem FrL.drop {K : PySem.W.Frag} {H : Hp} : ∀ {vs : List V} {qs : List Rat} (i : Nat), FrL K H vs qs → FrL K H (vs.drop i) (qs.drop i)
  | _, _, 0, h => h
  | _, _, _ + 1, .nil => .nil
  | _, _, i + 1, .cons _ r => r.drop i
theorem FrL.take {K : PySem.W.Frag} {H : Hp} : ∀ {vs : List V} {qs : List Rat} (i : Nat), FrL K H vs qs → FrL K H (vs.take i) (qs.take i)
  | _, _, 0, _ => .nil
  | _, _, _ + 1, .nil => .nil
  | _, _, i + 1, .cons h r => .cons h (r.take i)
theorem FrL.app {K : PySem.W.Frag} {H : Hp} : ∀ {vs : List V} {qs : List Rat} {ws : List V} {rs : List Rat}, FrL K H vs qs → FrL K H ws rs → FrL K H (vs ++ ws) (qs ++ rs)
  | _, _, _, _, .nil, h => h
  | _, _, _, _, .cons h r, h2 => .cons h (r.app h2)
/-- what is no fraction, or one not above 0 -/
def BadW (K : PySem.W.Frag) (H : Hp) (w : V) : Prop := IsFrB K H w false ∨ ∃ q, Fr K H w q ∧ ¬ 0 < q
theorem SqT.two_bad {K : PySem.W.Frag} {H : Hp} {a : Addr} {i j : Int} (h : SqT K H a [.int i, .int j]) (e : ¬ (1 ≤ j ∧ i.natAbs.gcd j.natAbs = 1)) : IsFrB K H (.ref a) false := two_no h e
theorem gcd3 (i j : Int) : (3 * i).natAbs.gcd (3 * j).natAbs ≠ 1 := by
  rw [Int.natAbs_mul, Int.natAbs_mul]
  show (3 * i.natAbs).gcd (3 * j.natAbs) ≠ 1
  rw [Nat.gcd_mul_left]; omega
end My

namespace My
open PySem PySem.Spec PyProof.Rows L2 GxR
/-! ### weights along a line's sides -/
def wStep (c : P3 → Bool) (z : Rat) (p : P3) : Rat := if c p = true then z + p.2.2 else z
def wS (c : P3 → Bool) (ps : List P3) : Rat := ps.foldl (wStep c) 0
theorem wS_take {c : P3 → Bool} {ps : List P3} {i : Nat} {p : P3} (e : ps[i]? = some p) : wS c (ps.take (i + 1)) = wStep c (wS c (ps.take i)) p := by
  unfold wS
  rw [take_snoc e, List.foldl_append]; rfl
def prodW : List P3 → Nat
  | [] => 1
  | p :: r => p.2.2.den * prodW r
theorem prodW_pos : ∀ ps : List P3, 0 < prodW ps
  | [] => Nat.one_pos
  | p :: r => Nat.mul_pos p.2.2.den_pos (prodW_pos r)
theorem prodW_snoc (p : P3) : ∀ ps : List P3, prodW (ps ++ [p]) = prodW ps * p.2.2.den
  | [] => by show _ * 1 = 1 * _; rw [Nat.mul_one, Nat.one_mul]
  | q :: r => by
    show q.2.2.den * prodW (r ++ [p]) = q.2.2.den * prodW r * _
    rw [prodW_snoc p r, Nat.mul_assoc]
theorem prodW_le {kw : Nat} : ∀ {ps : List P3}, (∀ p ∈ ps, Sz kw p.2.2) → prodW ps ≤ 2 ^ (kw * ps.length)
  | [], _ => by show 1 ≤ 2 ^ (kw * 0); rw [Nat.mul_zero]; exact Nat.le_refl _
  | p :: r, h => by
    have h3 := h p List.mem_cons_self
    have ih := prodW_le fun q hq => h q (List.mem_cons_of_mem _ hq)
    show p.2.2.den * prodW r ≤ 2 ^ (kw * (r.length + 1))
    rw [Nat.mul_add, Nat.mul_one, Nat.add_comm, Nat.pow_add]
    exact Nat.mul_le_mul (Nat.le_of_lt h3.de) ih
theorem wS_ov {kw : Nat} {c : P3 → Bool} {ps : List P3} (hall : ∀ p ∈ ps, Sz kw p.2.2) : ∀ i, i ≤ ps.length → Ov (prodW (ps.take i)) ((kw + 1) * i + 1) (wS c (ps.take i)) := by
  intro i
  induction i with
  | zero =>
    intro _
    exact ⟨Nat.one_pos, 0, by rw [Rat.zero_divInt]; rfl, by show 0 < 2 ^ _; exact Nat.two_pow_pos _⟩
  | succ i ih =>
    intro hi
    have o := ih (by omega)
    obtain ⟨p, hp⟩ : ∃ p, ps[i]? = some p := ⟨ps[i], List.getElem?_eq_getElem (by omega)⟩
    have zw := hall p (List.mem_of_getElem? hp)
    have eD : prodW (ps.take (i + 1)) = prodW (ps.take i) * p.2.2.den := by rw [take_snoc hp, prodW_snoc]
    have l := prodW_le (ps := ps.take i) (kw := kw) fun q hq => hall q (List.mem_of_mem_take hq)
    have ll : (ps.take i).length = i := by rw [List.length_take]; omega
    rw [ll] at l
    have l2 : prodW (ps.take i) < 2 ^ (kw * i + 1) := by
      rw [Nat.pow_succ]
      have := Nat.two_pow_pos (kw * i)
      omega
    have w : Ov (prodW (ps.take i) * p.2.2.den) (kw + (kw * i + 1)) p.2.2 := ((Ov.of zw).up (prodW_pos _) l2).cong (Nat.mul_comm _ _)
    have u := o.up p.2.2.den_pos zw.de
    have em : (kw + 1) * (i + 1) = kw * i + i + kw + 1 := by rw [Nat.mul_add, Nat.add_mul]; omega
    have em2 : (kw + 1) * i = kw * i + i := by rw [Nat.add_mul]; omega
    rw [em2] at u
    rw [wS_take hp, eD, em]
    generalize kw * i = t at w u ⊢
    unfold wStep
    split
    · exact (u.add w).mono (by omega)
    · exact u.mono (by omega)
theorem sd_wS {h s : Rat} : ∀ (ps : List P3) (z : Rat × Rat × Rat), ps.foldl (sdStep h s) z = (ps.foldl (wStep fun p => decide (0 < riseR h s p)) z.1, ps.foldl (wStep fun p => !decide (0 < riseR h s p) && !decide (riseR h s p < 0)) z.2.1, ps.foldl (wStep fun p => !decide (0 < riseR h s p) && decide (riseR h s p < 0)) z.2.2)
  | [], z => rfl
  | p :: r, z => by
    rw [List.foldl_cons, List.foldl_cons, List.foldl_cons, List.foldl_cons, sd_wS r]
    unfold sdStep wStep
    by_cases h1 : 0 < riseR h s p
    · simp [h1]
    · by_cases h2 : riseR h s p < 0
      · simp [h1, h2]
      · simp [h1, h2]
theorem sdU_wS (h s : Rat) (ps : List P3) : sdU h s ps = (wS (fun p => decide (0 < riseR h s p)) ps, wS (fun p => !decide (0 < riseR h s p) && !decide (riseR h s p < 0)) ps, wS (fun p => !decide (0 < riseR h s p) && decide (riseR h s p < 0)) ps) := sd_wS ps _
theorem sd_tot {h s : Rat} : ∀ (ps : List P3) (z : Rat × Rat × Rat), (ps.foldl (sdStep h s) z).1 + (ps.foldl (sdStep h s) z).2.1 + (ps.foldl (sdStep h s) z).2.2 = ps.foldl (fun a p => a + p.2.2) (z.1 + z.2.1 + z.2.2)
  | [], z => rfl
  | p :: r, z => by
    rw [List.foldl_cons, List.foldl_cons, sd_tot r]
    congr 1
    unfold sdStep
    split
    · show z.1 + p.2.2 + z.2.1 + z.2.2 = _
      rw [Rat.add_assoc, Rat.add_assoc, Rat.add_comm p.2.2, ← Rat.add_assoc, ← Rat.add_assoc]
    · split
      · show z.1 + z.2.1 + (z.2.2 + p.2.2) = _
        rw [← Rat.add_assoc]
      · show z.1 + (z.2.1 + p.2.2) + z.2.2 = _
        rw [Rat.add_assoc, Rat.add_assoc, Rat.add_comm p.2.2, ← Rat.add_assoc, ← Rat.add_assoc]
theorem sum_sides (h s : Rat) (ps : List P3) : sumL [(sdU h s ps).1, (sdU h s ps).2.1, (sdU h s ps).2.2] = sumL (ps.map fun p => p.2.2) := by
  show 0 + (sdU h s ps).1 + (sdU h s ps).2.1 + (sdU h s ps).2.2 = _
  rw [Rat.zero_add]
  unfold sdU sumL
  rw [sd_tot, List.foldl_map]
  congr 1
  show (0 : Rat) + 0 + 0 = 0
  rw [Rat.add_zero, Rat.add_zero]
theorem sumL_wS (ps : List P3) : sumL (ps.map fun p => p.2.2) = wS (fun _ => true) ps := by
  unfold sumL wS
  rw [List.foldl_map]
  rfl
/-! ### upside down -/
theorem rise_up (h s : Rat) (p : P3) : riseR (-h) (-s) (upP p) = -riseR h s p := by
  unfold riseR upP
  show -p.2.1 - (-h + -s * p.1) = -(p.2.1 - (h + s * p.1))
  rw [Rat.neg_mul, ← Rat.neg_add, Rat.sub_eq_add_neg, Rat.sub_eq_add_neg, Rat.neg_neg, Rat.neg_add, Rat.neg_neg]
theorem ov_up {h s : Rat} : ∀ (ps : List P3) (z : Rat × Rat), (ps.map upP).foldl (ovStep (-h) (-s)) (z.2, z.1) = ((ps.foldl (ovStep h s) z).2, (ps.foldl (ovStep h s) z).1)
  | [], z => rfl
  | p :: r, z => by
    have key : ovStep (-h) (-s) (z.2, z.1) (upP p) = ((ovStep h s z p).2, (ovStep h s z p).1) := by
      unfold ovStep
      rw [rise_up]
      show (if 0 < -riseR h s p then (z.2 + p.2.2 * -riseR h s p, z.1) else (z.2, z.1 - p.2.2 * -riseR h s p)) = _
      have e1 : z.1 - p.2.2 * -riseR h s p = z.1 + p.2.2 * riseR h s p := by rw [Rat.mul_neg, Rat.sub_eq_add_neg, Rat.neg_neg]
      have e2 : z.2 + p.2.2 * -riseR h s p = z.2 - p.2.2 * riseR h s p := by rw [Rat.mul_neg, Rat.sub_eq_add_neg]
      rw [e1, e2]
      generalize riseR h s p = q
      by_cases h1 : 0 < q
      · have h2 : ¬ 0 < -q := by
          have := Rat.neg_lt_neg h1
          exact Rat.not_lt.mpr (Rat.le_of_lt (by simpa using this))
        rw [if_neg h2, if_pos h1]
      · by_cases h3 : 0 < -q
        · rw [if_pos h3, if_neg h1]
        · have q0 : q = 0 := by
            refine Rat.le_antisymm (Rat.not_lt.mp h1) ?_
            have := Rat.neg_le_neg (Rat.not_lt.mp h3)
            rw [Rat.neg_neg] at this
            simpa using this
          rw [if_neg h3, if_neg h1, q0]
          show (z.2, z.1 + p.2.2 * 0) = (z.2 - p.2.2 * 0, z.1)
          rw [Rat.mul_zero, Rat.add_zero, Rat.sub_eq_add_neg, Rat.neg_zero, Rat.add_zero]
    rw [List.map_cons, List.foldl_cons, List.foldl_cons, key, ov_up r]
theorem ovU_up (h s : Rat) (ps : List P3) : ovU (-h) (-s) (ps.map upP) = ((ovU h s ps).2, (ovU h s ps).1) := ov_up ps (0, 0)
theorem turned_cost (h s u d : Rat) (ps : List P3) : (ovU (-h) (-s) (ps.map upP)).1 * d + (ovU (-h) (-s) (ps.map upP)).2 * u = (ovU h s ps).1 * u + (ovU h s ps).2 * d := by
  rw [ovU_up]
  exact Rat.add_comm _ _
/-! ### bounds of a list of points, kept together -/
def Bd (ps : List P3) : Prop := ∃ kx ky kw N, (∀ p ∈ ps, Sz kx p.1 ∧ Sz ky p.2.1 ∧ Sz kw p.2.2) ∧ ps.length ≤ N ∧ (kx + ky + kw) * N ≤ 3360 ∧ (0 < kx ∧ kx ≤ 200) ∧ (0 < ky ∧ ky ≤ 200) ∧ (0 < kw ∧ kw ≤ 200) ∧ N ≤ 12
theorem Bd.drawn {far : Bool} {ps : List P3} (h : ∀ q ∈ ps, DrawnP far q) (h1 : ps.length ≤ 12) (h2 : far = true → ps.length ≤ 8) : Bd ps := by
  cases far with
  | true => exact ⟨200, 200, 3, 8, fun p hp => ⟨(h p hp).1, (h p hp).2.1, (h p hp).2.2.1⟩, h2 rfl, by decide, by decide, by decide, by decide, by decide⟩
  | false => exact ⟨40, 40, 200, 12, fun p hp => ⟨(h p hp).1.mono (by decide), (h p hp).2.1, (h p hp).2.2.1⟩, h1, by decide, by decide, by decide, by decide, by decide⟩
theorem DrawnP.pos {far : Bool} {q : P3} (h : DrawnP far q) : 0 < q.2.2 := by
  cases far with
  | true => exact h.2.2.2
  | false => exact h.2.2.2
theorem Bd.xy {ps : List P3} (h : Bd ps) : ∀ q ∈ ps, Sz 200 q.1 ∧ Sz 200 q.2.1 := fun q hq => by
  obtain ⟨kx, ky, kw, N, hall, _, _, hx, hy, _, _⟩ := h
  exact ⟨(hall q hq).1.mono hx.2, (hall q hq).2.1.mono hy.2⟩
theorem Bd.up {ps : List P3} (h : Bd ps) : Bd (ps.map upP) := by
  obtain ⟨kx, ky, kw, N, hall, hl, r⟩ := h
  refine ⟨kx, ky, kw, N, fun p hp => ?_, by rw [List.length_map]; exact hl, r⟩
  obtain ⟨q, hq, rfl⟩ := List.mem_map.mp hp
  exact ⟨(hall q hq).1, (hall q hq).2.1.neg, (hall q hq).2.2⟩
section
variable {h s u d : Rat} {ps : List P3}
theorem Bd.rise (b : Bd ps) (zh : Sz 200 h) (zs : Sz 200 s) {p : P3} (hp : p ∈ ps) : RiseSz h s p := by
  obtain ⟨z1, z2⟩ := b.xy p hp
  exact riseSz zh zs z1 z2 (by decide) (by decide) (by decide) (by decide)
theorem Bd.sum (b : Bd ps) (zh : Sz 200 h) (zs : Sz 200 s) : SumSz h s ps := by
  obtain ⟨kx, ky, kw, N, hall, hl, hN, hx, hy, hw, _⟩ := b
  exact sumSz (N := N) zh zs hall hl (by decide) hx.1 hy.1 hw.1 (by omega) (by omega)
theorem Bd.len (b : Bd ps) : ps.length ≤ 12 := by
  obtain ⟨kx, ky, kw, N, hall, hl, hN, hx, hy, hw, h12⟩ := b
  omega
/-- a line's two sums at the first i points -/
theorem Bd.ov (b : Bd ps) (zh : Sz 200 h) (zs : Sz 200 s) (i : Nat) (hi : i ≤ ps.length) : ∃ D, D ≤ 2 ^ 3760 ∧ Ov D 20000 (ovU h s (ps.take i)).1 ∧ Ov D 20000 (ovU h s (ps.take i)).2 := by
  obtain ⟨kx, ky, kw, N, hall, hl, hN, hx, hy, hw, h12⟩ := b
  obtain ⟨o1, o2⟩ := ovU_ov zh zs hall i hi
  have hP := prodE_lt (ps := ps.take i) (kx := kx) (ky := ky) (kw := kw) fun q hq => hall q (List.mem_of_mem_take hq)
  have ll : (ps.take i).length = i := by rw [List.length_take]; omega
  rw [ll] at hP
  have iN : (kx + ky + kw) * i ≤ (kx + ky + kw) * N := Nat.mul_le_mul_left _ (by omega)
  have iN2 : (kx + ky + kw + 1) * i = (kx + ky + kw) * i + i := by rw [Nat.add_mul]; omega
  rw [iN2] at o1 o2
  refine ⟨_, ?_, o1.mono (by omega), o2.mono (by omega)⟩
  refine Nat.le_trans (Nat.mul_le_mul (Nat.le_of_lt (lineD zh zs)) hP) ?_
  rw [← Nat.pow_add]
  exact Nat.pow_le_pow_right (by decide) (by omega)
theorem Bd.ovA (b : Bd ps) (zh : Sz 200 h) (zs : Sz 200 s) : ∃ D, D ≤ 2 ^ 3760 ∧ Ov D 20000 (ovU h s ps).1 ∧ Ov D 20000 (ovU h s ps).2 := by
  have := b.ov zh zs ps.length (Nat.le_refl _)
  rwa [List.take_length] at this
theorem lt_succ_pow {D n : Nat} (h : D ≤ 2 ^ n) : D < 2 ^ (n + 1) := by
  rw [Nat.pow_succ]
  have := Nat.two_pow_pos n
  omega
theorem Bd.c1 (b : Bd ps) (zh : Sz 200 h) (zs : Sz 200 s) (zu : Sz 200 u) : SzP (ovU h s ps).1 u := by
  obtain ⟨D, hD, o1, o2⟩ := b.ovA zh zs
  exact SzP.ov o1 (Ov.of zu) hD zu.de (by decide) (by decide) (by decide) (by decide) (by decide) (by decide)
theorem Bd.c2 (b : Bd ps) (zh : Sz 200 h) (zs : Sz 200 s) (zd : Sz 200 d) : SzP (ovU h s ps).2 d := by
  obtain ⟨D, hD, o1, o2⟩ := b.ovA zh zs
  exact SzP.ov o2 (Ov.of zd) hD zd.de (by decide) (by decide) (by decide) (by decide) (by decide) (by decide)
theorem Ov.zero : Ov 1 1 0 := ⟨Nat.one_pos, 0, by rw [Rat.zero_divInt], by decide⟩
theorem mulD {D E n m : Nat} (h1 : D ≤ 2 ^ n) (h2 : E < 2 ^ m) : D * E ≤ 2 ^ (n + m) := by
  rw [Nat.pow_add]; exact Nat.mul_le_mul h1 (Nat.le_of_lt h2)
theorem Bd.c3 (b : Bd ps) (zh : Sz 200 h) (zs : Sz 200 s) (zu : Sz 200 u) : SzP 0 ((ovU h s ps).1 * u) := by
  obtain ⟨D, hD, o1, o2⟩ := b.ovA zh zs
  exact SzP.ov (d := 0) (e := 3961) Ov.zero (o1.mul (Ov.of zu)) (by decide) (lt_succ_pow (mulD hD zu.de)) (by decide) (by decide) (by decide) (by decide) (by decide) (by decide)
theorem Bd.c4 (b : Bd ps) (zh : Sz 200 h) (zs : Sz 200 s) (zu : Sz 200 u) (zd : Sz 200 d) : SzP ((ovU h s ps).1 * u) ((ovU h s ps).2 * d) := by
  obtain ⟨D, hD, o1, o2⟩ := b.ovA zh zs
  exact SzP.ov (d := 3960) (e := 3961) (o1.mul (Ov.of zu)) (o2.mul (Ov.of zd)) (mulD hD zu.de) (lt_succ_pow (mulD hD zd.de)) (by decide) (by decide) (by decide) (by decide) (by decide) (by decide)
/-- sums of weights -/
theorem Bd.w (b : Bd ps) (i : Nat) (hi : i ≤ ps.length) : ∃ D, D ≤ 2 ^ 3360 ∧ ∀ c, Ov D 20000 (wS c (ps.take i)) := by
  obtain ⟨kx, ky, kw, N, hall, hl, hN, hx, hy, hw, h12⟩ := b
  have hw' : ∀ p ∈ ps, Sz kw p.2.2 := fun p hp => (hall p hp).2.2
  have o := fun c => wS_ov (c := c) hw' i hi
  have hP := prodW_le (ps := ps.take i) (kw := kw) fun q hq => hw' q (List.mem_of_mem_take hq)
  have ll : (ps.take i).length = i := by rw [List.length_take]; omega
  rw [ll] at hP
  have l1 : kw * i ≤ 200 * 12 := Nat.mul_le_mul hw.2 (by omega)
  have e : (kw + 1) * i = kw * i + i := by rw [Nat.add_mul]; omega
  refine ⟨_, Nat.le_trans hP (Nat.pow_le_pow_right (by decide) (by omega)), fun c => ?_⟩
  have o' := o c
  rw [e] at o'
  exact o'.mono (by omega)
theorem Bd.wt (b : Bd ps) {p : P3} (hp : p ∈ ps) : Sz 200 p.2.2 := by
  obtain ⟨kx, ky, kw, N, hall, hl, hN, hx, hy, hw, h12⟩ := b
  exact (hall p hp).2.2.mono hw.2
theorem Bd.wP (b : Bd ps) (c : P3 → Bool) {i : Nat} {p : P3} (e : ps[i]? = some p) : SzP (wS c (ps.take i)) p.2.2 := by
  have hi : i < ps.length := (List.getElem?_eq_some_iff.mp e).1
  obtain ⟨D, hD, o'⟩ := b.w i (by omega)
  have o := o' c
  have zw := b.wt (List.mem_of_getElem? e)
  exact SzP.ov o (Ov.of zw) hD zw.de (by decide) (by decide) (by decide) (by decide) (by decide) (by decide)
theorem Bd.side (b : Bd ps) (zh : Sz 200 h) (zs : Sz 200 s) : SideSz h s ps := by
  intro i p e
  rw [sdU_wS]
  exact ⟨b.rise zh zs (List.mem_of_getElem? e), b.wP _ e, b.wP _ e, b.wP _ e⟩
theorem Bd.wsum (b : Bd ps) (i : Nat) (q : Rat) (e : (ps.map fun p => p.2.2)[i]? = some q) : SzP (sumL ((ps.map fun p => p.2.2).take i)) q := by
  rw [List.getElem?_map] at e
  cases hp : ps[i]? with
  | none => rw [hp] at e; cases e
  | some p =>
    rw [hp] at e
    cases e
    rw [← List.map_take, sumL_wS]
    exact b.wP _ hp
theorem Bd.sd3 (b : Bd ps) (h s : Rat) (i : Nat) (q : Rat) (e : [(sdU h s ps).1, (sdU h s ps).2.1, (sdU h s ps).2.2][i]? = some q) : SzP (sumL ([(sdU h s ps).1, (sdU h s ps).2.1, (sdU h s ps).2.2].take i)) q := by
  obtain ⟨D, hD, key⟩ : ∃ D, D ≤ 2 ^ 3360 ∧ ∀ c, Ov D 20000 (wS c ps) := by
    have := b.w ps.length (Nat.le_refl _)
    rwa [List.take_length] at this
  generalize hz : sdU h s ps = z at e ⊢
  obtain ⟨w1, w2, w3⟩ := z
  have hh := hz.symm.trans (sdU_wS h s ps)
  have o1 : Ov D 20000 w1 := by rw [show w1 = _ from congrArg Prod.fst hh]; exact key _
  have o2 : Ov D 20000 w2 := by rw [show w2 = _ from congrArg (fun z => z.2.1) hh]; exact key _
  have o3 : Ov D 20000 w3 := by rw [show w3 = _ from congrArg (fun z => z.2.2) hh]; exact key _
  match i, e with
  | 0, e =>
    cases e
    exact SzP.ov (d := 0) (e := 3361) Ov.zero o1 (by decide) (lt_succ_pow hD) (by decide) (by decide) (by decide) (by decide) (by decide) (by decide)
  | 1, e =>
    cases e
    have q : sumL (List.take 1 [w1, w2, w3]) = w1 := by show 0 + w1 = _; rw [Rat.zero_add]
    rw [q]
    exact SzP.ov (d := 3360) (e := 3361) o1 o2 hD (lt_succ_pow hD) (by decide) (by decide) (by decide) (by decide) (by decide) (by decide)
  | 2, e =>
    cases e
    have q : sumL (List.take 2 [w1, w2, w3]) = w1 + w2 := by show 0 + w1 + w2 = _; rw [Rat.zero_add]
    rw [q]
    exact SzP.ov (d := 3360) (e := 3361) (o1.add o2) o3 hD (lt_succ_pow hD) (by decide) (by decide) (by decide) (by decide) (by decide) (by decide)
  | i + 3, e => simp at e
theorem Bd.perm {qs : List P3} (b : Bd ps) (e : qs.Perm ps) : Bd qs := by
  obtain ⟨kx, ky, kw, N, hall, hl, r⟩ := b
  exact ⟨kx, ky, kw, N, fun p hp => hall p (e.mem_iff.mp hp), by rw [e.length_eq]; exact hl, r⟩
theorem GoodPts.perm {qs : List P3} (g : GoodPts ps) (e : qs.Perm ps) : GoodPts qs :=
  ⟨by rw [e.length_eq]; exact g.1, by rw [e.length_eq]; exact g.2.1, fun p hp => g.2.2 p (e.mem_iff.mp hp)⟩
/-- one more point adds its own sums -/
theorem ovStep_add (h s : Rat) (z : Rat × Rat) (p : P3) : ovStep h s z p = (z.1 + (ovStep h s (0, 0) p).1, z.2 + (ovStep h s (0, 0) p).2) := by
  unfold ovStep
  split
  · show _ = (z.1 + (0 + p.2.2 * riseR h s p), z.2 + 0)
    rw [Rat.zero_add, Rat.add_zero]
  · show _ = (z.1 + 0, z.2 + (0 - p.2.2 * riseR h s p))
    rw [Rat.add_zero, Rat.sub_eq_add_neg, Rat.sub_eq_add_neg, Rat.zero_add]
theorem ovU_snoc (h s : Rat) (ps : List P3) (p : P3) : ovU h s (ps ++ [p]) = ((ovU h s ps).1 + (ovU h s [p]).1, (ovU h s ps).2 + (ovU h s [p]).2) := by
  show (ps ++ [p]).foldl (ovStep h s) (0, 0) = _
  rw [List.foldl_append]
  exact ovStep_add h s _ p
theorem ovU_perm {qs : List P3} (e : qs.Perm ps) : ovU h s qs = ovU h s ps := by
  refine e.foldl_eq' (fun x _ y _ z => ?_) _
  rw [ovStep_add h s (ovStep h s z x) y, ovStep_add h s (ovStep h s z y) x, ovStep_add h s z x, ovStep_add h s z y]
  generalize ovStep h s (0, 0) x = a
  generalize ovStep h s (0, 0) y = b
  show (z.1 + a.1 + b.1, z.2 + a.2 + b.2) = (z.1 + b.1 + a.1, z.2 + b.2 + a.2)
  rw [Rat.add_assoc, Rat.add_assoc, Rat.add_comm a.1, Rat.add_comm a.2, ← Rat.add_assoc, ← Rat.add_assoc]
theorem rot_perm (ps : List P3) (i : Nat) : (ps.drop i ++ ps.take i).Perm ps := List.perm_append_comm.trans (by rw [List.take_append_drop])
/-- the law's own cost -/
theorem Bd.lc (b : Bd ps) (zh : Sz 200 h) (zs : Sz 200 s) (zu : Sz 200 u) (zd : Sz 200 d) : LcSz h s u d ps := by
  intro i p e
  have hi : i < ps.length := (List.getElem?_eq_some_iff.mp e).1
  have hp := List.mem_of_getElem? e
  obtain ⟨zx, zy⟩ := b.xy p hp
  have zw := b.wt hp
  obtain ⟨D, hD, o1, o2⟩ := b.ov zh zs i (by omega)
  have rv := rise_ov zh zs zx zy
  have wr := wrise_ov zh zs zx zy zw
  have hR : h.den * s.den * (p.1.den * p.2.1.den) < 2 ^ 800 := mul_lt_pow (lineD zh zs) (mul_lt_pow zx.de zy.de)
  have hE : h.den * s.den * (p.1.den * p.2.1.den * p.2.2.den) < 2 ^ 1000 := mul_lt_pow (lineD zh zs) (mul_lt_pow (mul_lt_pow zx.de zy.de) zw.de)
  have lu : Ov (D * (u.den * d.den)) 20500 (lcU h s u d (ps.take i)) := by
    rw [lcU_eq]
    have a1 : Ov (D * (u.den * d.den)) (20000 + 200 + 200) ((ovU h s (ps.take i)).1 * u) := ((o1.mul (Ov.of zu)).up d.den_pos zd.de).cong (by ac_rfl)
    have a2 : Ov (D * (u.den * d.den)) (20000 + 200 + 200) ((ovU h s (ps.take i)).2 * d) := ((o2.mul (Ov.of zd)).up u.den_pos zu.de).cong (by ac_rfl)
    exact (a1.add a2).mono (by decide)
  have hL : D * (u.den * d.den) ≤ 2 ^ 4160 := mulD hD (mul_lt_pow zu.de zd.de)
  have hWu : h.den * s.den * (p.1.den * p.2.1.den * p.2.2.den) * u.den < 2 ^ 1200 := mul_lt_pow hE zu.de
  have hWd : h.den * s.den * (p.1.den * p.2.1.den * p.2.2.den) * d.den < 2 ^ 1200 := mul_lt_pow hE zd.de
  refine ⟨b.rise zh zs hp, SzP.ov (Ov.of zw) rv (Nat.le_of_lt zw.de) hR (by decide) (by decide) (by decide) (by decide) (by decide) (by decide), ?_, ?_, ?_, ?_⟩
  · exact SzP.ov wr (Ov.of zu) (Nat.le_of_lt hE) zu.de (by decide) (by decide) (by decide) (by decide) (by decide) (by decide)
  · exact SzP.ov wr (Ov.of zd) (Nat.le_of_lt hE) zd.de (by decide) (by decide) (by decide) (by decide) (by decide) (by decide)
  · exact SzP.ov lu (wr.mul (Ov.of zu)) hL hWu (by decide) (by decide) (by decide) (by decide) (by decide) (by decide)
  · exact SzP.ov lu (wr.mul (Ov.of zd)) hL hWd (by decide) (by decide) (by decide) (by decide) (by decide) (by decide)
end
end My

namespace My
open PySem PySem.Spec PyProof.Rows L2 GxR
/-! ### tilted, stretched -/
def tiltP (oh os : Rat) (p : P3) : P3 := (p.1, p.2.1 + (oh + os * p.1), p.2.2)
def strP (ac ta : Rat) (p : P3) : P3 := (p.1 * ac, p.2.1 * ta, p.2.2)
theorem rise_tilt (h s oh os : Rat) (p : P3) : riseR (h + oh) (s + os) (tiltP oh os p) = riseR h s p := by
  show p.2.1 + (oh + os * p.1) - ((h + oh) + (s + os) * p.1) = p.2.1 - (h + s * p.1)
  grind
theorem rise_str (h s ta : Rat) {ac : Rat} (n : ac ≠ 0) (p : P3) : riseR (h * ta) (s * ta / ac) (strP ac ta p) = riseR h s p * ta := by
  show p.2.1 * ta - (h * ta + (s * ta / ac) * (p.1 * ac)) = (p.2.1 - (h + s * p.1)) * ta
  grind
theorem rises_tilt (h s oh os : Rat) (ps : List P3) : (ps.map (tiltP oh os)).map (riseR (h + oh) (s + os)) = ps.map (riseR h s) := by
  rw [List.map_map]
  exact List.map_congr_left fun p _ => rise_tilt h s oh os p
theorem rises_str (h s ta : Rat) {ac : Rat} (n : ac ≠ 0) (ps : List P3) : (ps.map (strP ac ta)).map (riseR (h * ta) (s * ta / ac)) = ps.map fun p => riseR h s p * ta := by
  rw [List.map_map]
  exact List.map_congr_left fun p _ => rise_str h s ta n p
theorem ovStep_tilt (h s oh os : Rat) (z : Rat × Rat) (p : P3) : ovStep (h + oh) (s + os) z (tiltP oh os p) = ovStep h s z p := by
  unfold ovStep
  rw [rise_tilt]; rfl
theorem ovU_tilt (h s oh os : Rat) (ps : List P3) : ovU (h + oh) (s + os) (ps.map (tiltP oh os)) = ovU h s ps := by
  unfold ovU
  rw [List.foldl_map]
  congr 1
  funext z p
  exact ovStep_tilt h s oh os z p
theorem sdU_tilt (h s oh os : Rat) (ps : List P3) : sdU (h + oh) (s + os) (ps.map (tiltP oh os)) = sdU h s ps := by
  unfold sdU
  rw [List.foldl_map]
  congr 1
  funext z p
  unfold sdStep
  rw [rise_tilt]; rfl
theorem ov_strP {h s ta ac : Rat} (n : ac ≠ 0) (pt : 0 < ta) : ∀ (ps : List P3) (z : Rat × Rat), (ps.map (strP ac ta)).foldl (ovStep (h * ta) (s * ta / ac)) (z.1 * ta, z.2 * ta) = ((ps.foldl (ovStep h s) z).1 * ta, (ps.foldl (ovStep h s) z).2 * ta)
  | [], z => rfl
  | p :: r, z => by
    have key : ovStep (h * ta) (s * ta / ac) (z.1 * ta, z.2 * ta) (strP ac ta p) = ((ovStep h s z p).1 * ta, (ovStep h s z p).2 * ta) := by
      unfold ovStep
      rw [rise_str h s ta n]
      show (if 0 < riseR h s p * ta then (z.1 * ta + p.2.2 * (riseR h s p * ta), z.2 * ta) else (z.1 * ta, z.2 * ta - p.2.2 * (riseR h s p * ta))) = _
      by_cases h1 : 0 < riseR h s p
      · rw [if_pos h1, if_pos (Rat.mul_pos h1 pt)]
        show _ = ((z.1 + p.2.2 * riseR h s p) * ta, z.2 * ta)
        congr 1
        grind
      · rw [if_neg h1, if_neg (fun w => h1 ((Rat.mul_pos_iff_of_pos_right pt).mp w))]
        show _ = (z.1 * ta, (z.2 - p.2.2 * riseR h s p) * ta)
        congr 1
        grind
    rw [List.map_cons, List.foldl_cons, List.foldl_cons, key, ov_strP n pt r]
theorem ov_strN {h s ta ac : Rat} (n : ac ≠ 0) (nt : ta < 0) : ∀ (ps : List P3) (z : Rat × Rat), (ps.map (strP ac ta)).foldl (ovStep (h * ta) (s * ta / ac)) (z.2 * -ta, z.1 * -ta) = ((ps.foldl (ovStep h s) z).2 * -ta, (ps.foldl (ovStep h s) z).1 * -ta)
  | [], z => rfl
  | p :: r, z => by
    have key : ovStep (h * ta) (s * ta / ac) (z.2 * -ta, z.1 * -ta) (strP ac ta p) = ((ovStep h s z p).2 * -ta, (ovStep h s z p).1 * -ta) := by
      unfold ovStep
      rw [rise_str h s ta n]
      show (if 0 < riseR h s p * ta then (z.2 * -ta + p.2.2 * (riseR h s p * ta), z.1 * -ta) else (z.2 * -ta, z.1 * -ta - p.2.2 * (riseR h s p * ta))) = _
      have pt : 0 < -ta := by
        have := Rat.neg_lt_neg nt
        simpa using this
      have en : riseR h s p * ta = -riseR h s p * -ta := by grind
      rw [en]
      generalize riseR h s p = q
      by_cases h1 : 0 < q
      · have h2 : ¬ 0 < -q * -ta := fun w => by
          have w1 := (Rat.mul_pos_iff_of_pos_right pt).mp w
          have := Rat.neg_lt_neg w1
          rw [Rat.neg_neg] at this
          exact Rat.not_lt.mpr (Rat.le_of_lt h1) (by simpa using this)
        rw [if_pos h1, if_neg h2]
        show _ = (z.2 * -ta, (z.1 + p.2.2 * q) * -ta)
        congr 1
        grind
      · rw [if_neg h1]
        by_cases h3 : 0 < -q * -ta
        · rw [if_pos h3]
          show _ = ((z.2 - p.2.2 * q) * -ta, z.1 * -ta)
          congr 1
          grind
        · have h4 : ¬ 0 < -q := fun w => h3 (Rat.mul_pos w pt)
          have q0 : q = 0 := by
            refine Rat.le_antisymm (Rat.not_lt.mp h1) ?_
            have := Rat.neg_le_neg (Rat.not_lt.mp h4)
            rw [Rat.neg_neg] at this
            simpa using this
          rw [if_neg h3, q0]
          show (z.2 * -ta, z.1 * -ta - p.2.2 * (-0 * -ta)) = ((z.2 - p.2.2 * 0) * -ta, z.1 * -ta)
          congr 1 <;> grind
    rw [List.map_cons, List.foldl_cons, List.foldl_cons, key, ov_strN n nt r]
theorem ovU_strP {h s ta ac : Rat} (n : ac ≠ 0) (pt : 0 < ta) (ps : List P3) : ovU (h * ta) (s * ta / ac) (ps.map (strP ac ta)) = ((ovU h s ps).1 * ta, (ovU h s ps).2 * ta) := by
  have := ov_strP (h := h) (s := s) n pt ps (0, 0)
  rw [Rat.zero_mul] at this
  exact this
theorem ovU_strN {h s ta ac : Rat} (n : ac ≠ 0) (nt : ta < 0) (ps : List P3) : ovU (h * ta) (s * ta / ac) (ps.map (strP ac ta)) = ((ovU h s ps).2 * -ta, (ovU h s ps).1 * -ta) := by
  have := ov_strN (h := h) (s := s) n nt ps (0, 0)
  rw [Rat.zero_mul] at this
  exact this
theorem tilt_back (oh os : Rat) (ps : List P3) : (ps.map (tiltP oh os)).map (tiltP (-oh) (-os)) = ps := by
  rw [List.map_map]
  refine (List.map_congr_left fun p _ => ?_).trans (List.map_id ps)
  obtain ⟨x, y, w⟩ := p
  show (x, y + (oh + os * x) + (-oh + -os * x), w) = (x, y, w)
  have : y + (oh + os * x) + (-oh + -os * x) = y := by grind
  rw [this]
theorem str_back {ac ta : Rat} (n : ac ≠ 0) (n2 : ta ≠ 0) (ps : List P3) : (ps.map (strP ac ta)).map (strP (1 / ac) (1 / ta)) = ps := by
  rw [List.map_map]
  refine (List.map_congr_left fun p _ => ?_).trans (List.map_id ps)
  obtain ⟨x, y, w⟩ := p
  show (x * ac * (1 / ac), y * ta * (1 / ta), w) = (x, y, w)
  have e1 : x * ac * (1 / ac) = x := by grind
  have e2 : y * ta * (1 / ta) = y := by grind
  rw [e1, e2]
theorem GoodPts.map {ps : List P3} (g : GoodPts ps) (f : P3 → P3) (hf : ∀ p, (f p).2.2 = p.2.2) : GoodPts (ps.map f) := ⟨by rw [List.length_map]; exact g.1, by rw [List.length_map]; exact g.2.1, fun p hp => by
  obtain ⟨q, hq, rfl⟩ := List.mem_map.mp hp
  rw [hf]; exact g.2.2 q hq⟩
section
variable {h s u d oh os ac ta : Rat} {ps : List P3}
theorem Bd.tiltRz (b : Bd ps) (zh : Sz 200 oh) (zs : Sz 200 os) {p : P3} (hp : p ∈ ps) : RiseSz oh os p := b.rise zh zs hp
theorem Bd.tiltY (b : Bd ps) (zoh : Sz 200 oh) (zos : Sz 200 os) {p : P3} (hp : p ∈ ps) : Sz 200 (tiltP oh os p).1 ∧ Sz 802 (tiltP oh os p).2.1 := by
  obtain ⟨zx, zy⟩ := b.xy p hp
  exact ⟨zx, (zy.add (zoh.add (zos.mul zx))).mono (by decide)⟩
theorem Bd.rise_t (b : Bd ps) (zh : Sz 200 h) (zs : Sz 200 s) (zoh : Sz 200 oh) (zos : Sz 200 os) {q : P3} (hq : q ∈ ps.map (tiltP oh os)) : RiseSz (h + oh) (s + os) q := by
  obtain ⟨p, hp, rfl⟩ := List.mem_map.mp hq
  obtain ⟨z1, z2⟩ := b.tiltY zoh zos hp
  exact riseSz (a := 802) ((zh.add zoh).mono (by decide)) ((zs.add zos).mono (by decide)) (z1.mono (by decide : 200 ≤ 802)) z2 (by decide) (by decide) (by decide) (by decide)
theorem map_get {f : P3 → P3} {i : Nat} {q : P3} (e : (ps.map f)[i]? = some q) : ∃ p, ps[i]? = some p ∧ q = f p := by
  rw [List.getElem?_map] at e
  cases hp : ps[i]? with
  | none => rw [hp] at e; cases e
  | some p => rw [hp] at e; cases e; exact ⟨p, rfl, rfl⟩
theorem Bd.sum_t (b : Bd ps) (zh : Sz 200 h) (zs : Sz 200 s) (zoh : Sz 200 oh) (zos : Sz 200 os) : SumSz (h + oh) (s + os) (ps.map (tiltP oh os)) := by
  intro i q e
  have hq := List.mem_of_getElem? e
  obtain ⟨p, hp, rfl⟩ := map_get e
  obtain ⟨r0, r1, r2, r3⟩ := b.sum zh zs i p hp
  rw [← List.map_take, ovU_tilt, rise_tilt]
  exact ⟨b.rise_t zh zs zoh zos hq, r1, r2, r3⟩
theorem Bd.side_t (b : Bd ps) (zh : Sz 200 h) (zs : Sz 200 s) (zoh : Sz 200 oh) (zos : Sz 200 os) : SideSz (h + oh) (s + os) (ps.map (tiltP oh os)) := by
  intro i q e
  have hq := List.mem_of_getElem? e
  obtain ⟨p, hp, rfl⟩ := map_get e
  obtain ⟨r0, r1, r2, r3⟩ := b.side zh zs i p hp
  rw [← List.map_take, sdU_tilt]
  exact ⟨b.rise_t zh zs zoh zos hq, r1, r2, r3⟩
theorem Bd.rise_s (b : Bd ps) (zh : Sz 200 h) (zs : Sz 200 s) (zac : Sz 200 ac) (zta : Sz 200 ta) (n : ac ≠ 0) {q : P3} (hq : q ∈ ps.map (strP ac ta)) : RiseSz (h * ta) (s * ta / ac) q := by
  obtain ⟨p, hp, rfl⟩ := List.mem_map.mp hq
  obtain ⟨zx, zy⟩ := b.xy p hp
  exact riseSz (a := 600) (kx := 400) (ky := 400) ((zh.mul zta).mono (by decide)) (((zs.mul zta).dvd zac n).mono (by decide)) (zx.mul zac) (zy.mul zta) (by decide) (by decide) (by decide) (by decide)
/-- the two sums of the stretched points so far -/
theorem Bd.ov_s (b : Bd ps) (zh : Sz 200 h) (zs : Sz 200 s) (zta : Sz 200 ta) (n : ac ≠ 0) (n2 : ta ≠ 0) (i : Nat) (hi : i ≤ ps.length) : ∃ D, D ≤ 2 ^ 3960 ∧ Ov D 20200 (ovU (h * ta) (s * ta / ac) ((ps.take i).map (strP ac ta))).1 ∧ Ov D 20200 (ovU (h * ta) (s * ta / ac) ((ps.take i).map (strP ac ta))).2 := by
  obtain ⟨D, hD, o1, o2⟩ := b.ov zh zs i hi
  have t := Ov.of zta
  have t' := (Ov.of zta).neg
  refine ⟨D * ta.den, mulD hD zta.de, ?_⟩
  by_cases pt : 0 < ta
  · rw [ovU_strP n pt]
    exact ⟨o1.mul t, o2.mul t⟩
  · have nt : ta < 0 := by
      rcases Rat.le_iff_lt_or_eq.mp (Rat.not_lt.mp pt) with h | h
      · exact h
      · exact (n2 h).elim
    rw [ovU_strN n nt]
    exact ⟨o2.mul t', o1.mul t'⟩
theorem Bd.sum_s (b : Bd ps) (zh : Sz 200 h) (zs : Sz 200 s) (zac : Sz 200 ac) (zta : Sz 200 ta) (n : ac ≠ 0) (n2 : ta ≠ 0) : SumSz (h * ta) (s * ta / ac) (ps.map (strP ac ta)) := by
  intro i q e
  have hq := List.mem_of_getElem? e
  obtain ⟨p, hp, rfl⟩ := map_get e
  have hi : i < ps.length := (List.getElem?_eq_some_iff.mp hp).1
  have hm := List.mem_of_getElem? hp
  obtain ⟨zx, zy⟩ := b.xy p hm
  have zw := b.wt hm
  have rv := rise_ov zh zs zx zy
  have wr := wrise_ov zh zs zx zy zw
  have hR : h.den * s.den * (p.1.den * p.2.1.den) * ta.den < 2 ^ 1000 := mul_lt_pow (mul_lt_pow (lineD zh zs) (mul_lt_pow zx.de zy.de)) zta.de
  have hE : h.den * s.den * (p.1.den * p.2.1.den * p.2.2.den) * ta.den < 2 ^ 1200 := mul_lt_pow (mul_lt_pow (lineD zh zs) (mul_lt_pow (mul_lt_pow zx.de zy.de) zw.de)) zta.de
  obtain ⟨D, hD, o1, o2⟩ := b.ov_s (ac := ac) zh zs zta n n2 i (by omega)
  have wr' := wr.mul (Ov.of zta)
  rw [Rat.mul_assoc] at wr'
  rw [← List.map_take, rise_str h s ta n]
  refine ⟨b.rise_s zh zs zac zta n hq, SzP.ov (Ov.of zw) (rv.mul (Ov.of zta)) (Nat.le_of_lt zw.de) hR (by decide) (by decide) (by decide) (by decide) (by decide) (by decide), ?_, ?_⟩
  · exact SzP.ov o1 wr' hD hE (by decide) (by decide) (by decide) (by decide) (by decide) (by decide)
  · exact SzP.ov o2 wr' hD hE (by decide) (by decide) (by decide) (by decide) (by decide) (by decide)
theorem Bd.ovA_s (b : Bd ps) (zh : Sz 200 h) (zs : Sz 200 s) (zta : Sz 200 ta) (n : ac ≠ 0) (n2 : ta ≠ 0) : ∃ D, D ≤ 2 ^ 3960 ∧ Ov D 20200 (ovU (h * ta) (s * ta / ac) (ps.map (strP ac ta))).1 ∧ Ov D 20200 (ovU (h * ta) (s * ta / ac) (ps.map (strP ac ta))).2 := by
  have := b.ov_s (ac := ac) zh zs zta n n2 ps.length (Nat.le_refl _)
  rwa [List.take_length] at this
/-- sizes of a cost, from those of the two sums -/
theorem cost4 {D n e : Nat} {o1 o2 u d : Rat} (hD : D ≤ 2 ^ e) (he : e ≤ 4200) (hn : n ≤ 30000) (n0 : 0 < n) (h1 : Ov D n o1) (h2 : Ov D n o2) (zu : Sz 200 u) (zd : Sz 200 d) : SzP o1 u ∧ SzP o2 d ∧ SzP 0 (o1 * u) ∧ SzP (o1 * u) (o2 * d) :=
  ⟨SzP.ov (d := e) (e := 200) h1 (Ov.of zu) hD zu.de (by omega) (by omega) (by decide) n0 (by decide) (by decide),
   SzP.ov (d := e) (e := 200) h2 (Ov.of zd) hD zd.de (by omega) (by omega) (by decide) n0 (by decide) (by decide),
   SzP.ov (d := 0) (e := e + 200 + 1) Ov.zero (h1.mul (Ov.of zu)) (by decide) (lt_succ_pow (mulD hD zu.de)) (by omega) (by decide) (by omega) (by decide) (by omega) (by omega),
   SzP.ov (d := e + 200) (e := e + 200 + 1) (h1.mul (Ov.of zu)) (h2.mul (Ov.of zd)) (mulD hD zu.de) (lt_succ_pow (mulD hD zd.de)) (by omega) (by omega) (by omega) (by omega) (by omega) (by omega)⟩
/-- a cost is stretched along -/
theorem cost_strP (n : ac ≠ 0) (pt : 0 < ta) : (ovU (h * ta) (s * ta / ac) (ps.map (strP ac ta))).1 * u + (ovU (h * ta) (s * ta / ac) (ps.map (strP ac ta))).2 * d = ((ovU h s ps).1 * u + (ovU h s ps).2 * d) * ta := by
  rw [ovU_strP n pt]
  show (ovU h s ps).1 * ta * u + (ovU h s ps).2 * ta * d = _
  grind
theorem cost_strN (n : ac ≠ 0) (nt : ta < 0) : (ovU (h * ta) (s * ta / ac) (ps.map (strP ac ta))).1 * d + (ovU (h * ta) (s * ta / ac) (ps.map (strP ac ta))).2 * u = ((ovU h s ps).1 * u + (ovU h s ps).2 * d) * -ta := by
  rw [ovU_strN n nt]
  show (ovU h s ps).2 * -ta * d + (ovU h s ps).1 * -ta * u = _
  grind
end
end My

namespace My
open PySem PySem.Spec PyProof.Rows L2 GxR
theorem inV_ints (a : Int) : ∀ wt : List Int, inV (.int a) (wt.map V.int) = decide (a ∈ wt)
  | [] => by simp [inV]
  | b :: r => by
    have ih := inV_ints a r
    unfold inV at ih ⊢
    rw [List.map_cons, List.any_cons, ih]
    show ((b == a) || decide (a ∈ r)) = decide (a ∈ b :: r)
    by_cases h : b = a
    · subst h; simp
    · have h' : ¬ a = b := fun z => h z.symm
      simp [h, h']
theorem flat_ints : ∀ wt : List Int, (wt.map V.int).all flatV = true
  | [] => rfl
  | _ :: r => by rw [List.map_cons, List.all_cons, flat_ints r]; rfl
/-- a row spoilt: no row of so many fractions, or one with a weight not above 0 -/
def BadRow (K : PySem.W.Frag) (H : Hp) (n : Nat) (wt : List Int) (u : V) : Prop := IsRowB K H n u false ∨ ∃ qs, Row K H u qs ∧ qs.length = n ∧ ∃ (i : Nat) (q : Rat), (i : Int) ∈ wt ∧ qs[i]? = some q ∧ ¬ 0 < q
theorem bad_with {K : PySem.W.Frag} {H : Hp} {u : Addr} {w : V} {xs : List V} {qs : List Rat} {i : Nat} (hu : SqT K H u (xs.take i ++ [w] ++ xs.drop (i + 1))) (hf : FrL K H xs qs) (hi : i < xs.length) (hw : IsFrB K H w false) : IsRowB K H qs.length (.ref u) false := by
  have e : ((((qs.take i).map fun _ => true) ++ [false]) ++ ((qs.drop (i + 1)).map fun _ => true)).all id = false := by
    rw [List.all_append, List.all_append, List.all_cons]
    simp
  have := IsRowB.all (many := qs.length) hu (by rw [List.length_append, List.length_append, List.length_take, List.length_drop, hf.len]; show _ + 1 + _ = _; omega) (((hf.take i).bs.app (.cons hw .nil)).app (hf.drop (i + 1)).bs)
  rw [e] at this
  exact this
theorem bad_withW {K : PySem.W.Frag} {H : Hp} {u : Addr} {w : V} {xs : List V} {qs : List Rat} {wt : List Int} {i : Nat} (hu : SqT K H u (xs.take i ++ [w] ++ xs.drop (i + 1))) (hf : FrL K H xs qs) (hi : i < xs.length) (hwt : (i : Int) ∈ wt) (hw : BadW K H w) : BadRow K H qs.length wt (.ref u) := by
  rcases hw with hw | ⟨q, fq, nq⟩
  · exact .inl (bad_with hu hf hi hw)
  · have hl := hf.len
    refine .inr ⟨qs.take i ++ [q] ++ qs.drop (i + 1), ⟨u, _, rfl, hu, ((hf.take i).app (.cons fq .nil)).app (hf.drop (i + 1))⟩, ?_, i, q, hwt, ?_, nq⟩
    · rw [List.length_append, List.length_append, List.length_take, List.length_drop]; show _ + 1 + _ = _; omega
    · rw [List.getElem?_append_left (by rw [List.length_append, List.length_take]; show i < _ + 1; omega), List.getElem?_append_right (by rw [List.length_take]; omega), List.length_take, show i - min i qs.length = 0 by omega]; rfl
theorem BadRow.sm {K : PySem.W.Frag} {H H' : Hp} {n : Nat} {wt : List Int} {u : V} (s : Sm H H') (h : BadRow K H n wt u) : BadRow K H' n wt u := by
  rcases h with h | ⟨qs, h1, h2⟩
  · exact .inl (h.sm s)
  · exact .inr ⟨qs, h1.sm s, h2⟩
theorem len3 {α : Type} : ∀ {l : List α}, l.length = 3 → ∃ a b c, l = [a, b, c]
  | [a, b, c], _ => ⟨a, b, c, rfl⟩
theorem len2 {α : Type} : ∀ {l : List α}, l.length = 2 → ∃ a b, l = [a, b]
  | [a, b], _ => ⟨a, b, rfl⟩
theorem bad_pt {K : PySem.W.Frag} {H : Hp} {u : V} (h : BadRow K H 3 [2] u) : IsPtB K H u false := by
  rcases h with h | ⟨qs, ⟨a, vs, rfl, hs, hf⟩, hl, i, q, hi, hq, nq⟩
  · exact .bad h
  · obtain ⟨q0, q1, q2, rfl⟩ : ∃ q0 q1 q2, qs = [q0, q1, q2] := len3 hl
    cases hf with
    | cons g0 r0 =>
      cases r0 with
      | cons g1 r1 =>
        cases r1 with
        | cons g2 r2 =>
          cases r2
          have ei : i = 2 := by
            rw [List.mem_singleton] at hi; omega
          subst ei
          cases hq
          have := IsPtB.full (p := (q0, q1, q)) (K := K) (H := H) ⟨a, _, _, _, rfl, hs, g0, g1, g2⟩
          rwa [decide_eq_false nq] at this
theorem bad_pr {K : PySem.W.Frag} {H : Hp} {u : V} (h : BadRow K H 2 [0, 1] u) : IsPrB K H u false := by
  rcases h with h | ⟨qs, ⟨a, vs, rfl, hs, hf⟩, hl, i, q, hi, hq, nq⟩
  · exact .bad h
  · obtain ⟨q0, q1, rfl⟩ : ∃ q0 q1, qs = [q0, q1] := len2 hl
    cases hf with
    | cons g0 r0 =>
      cases r0 with
      | cons g1 r1 =>
        cases r1
        have := IsPrB.full (q := q0) (r := q1) (K := K) (H := H) ⟨a, _, _, rfl, hs, g0, g1⟩
        have e : (decide (0 < q0) && decide (0 < q1)) = false := by
          have hi2 : i < 2 := by
            have := (List.getElem?_eq_some_iff.mp hq).1
            exact this
          rcases (by omega : i = 0 ∨ i = 1) with rfl | rfl
          · cases hq; rw [decide_eq_false nq]; rfl
          · cases hq; rw [decide_eq_false nq, Bool.and_false]
        rwa [e] at this
theorem bad_ln {K : PySem.W.Frag} {H : Hp} {u : V} (h : BadRow K H 2 [] u) : IsRowB K H 2 u false := by
  rcases h with h | ⟨qs, _, _, i, q, hi, _⟩
  · exact h
  · simp at hi
theorem bad_pts {K : PySem.W.Frag} {H : Hp} {l : Addr} {u : V} {ws : List V} {ps : List P3} {i : Nat} (hl : SqL K H l (ws.take i ++ [u] ++ ws.drop (i + 1))) (he : Each (Pt K H) ws ps) (g : GoodPts ps) (hi : i < ws.length) (hu : IsPtB K H u false) : IsPtsB K H (.ref l) false := by
  have hlen := he.len
  have tr : Each (IsPtB K H) ws (ps.map fun p => decide (0 < p.2.2)) := he.map _ fun _ _ => .full
  have := IsPtsB.all hl (by rw [List.length_append, List.length_append, List.length_take, List.length_drop]; show 1 ≤ _ + 1 + _ ∧ _ + 1 + _ ≤ 12; have := g.2.1; omega) (((tr.take i).app (.cons hu .nil)).app (tr.drop (i + 1)))
  have e : (((ps.map fun p => decide (0 < p.2.2)).take i ++ [false]) ++ (ps.map fun p => decide (0 < p.2.2)).drop (i + 1)).all id = false := by
    rw [List.all_append, List.all_append, List.all_cons]
    simp
  rwa [e] at this
theorem cut_last (xs : List V) : (cutV xs none (some (-1))).length = xs.length - 1 := by
  unfold cutV
  rw [HT.sIx_none, List.drop_zero, List.length_take]
  have : HT.sIx xs.length xs.length (some (-1)) = xs.length - 1 := by
    show (if (-1 : Int) < 0 then ((-1 : Int) + (xs.length : Int)).toNat else min (-1 : Int).toNat xs.length) = xs.length - 1
    rw [if_pos (by decide)]
    omega
  rw [this]
  omega
end My

namespace My
open PySem PySem.Spec PyProof.Rows L2 GxR
theorem rep_len {α : Type} (n : Nat) (v : α) : ((List.replicate n [v]).flatten).length = n := by simp
theorem Each.rep {β : Type} {R : V → β → Prop} {v : V} {b : β} (h : R v b) : ∀ n, Each R (List.replicate n [v]).flatten (List.replicate n b)
  | 0 => .nil
  | n + 1 => by
    rw [List.replicate_succ, List.flatten_cons, List.replicate_succ]
    exact .cons h (Each.rep h n)
theorem each_ex {β : Type} {R : V → β → Prop} : ∀ {ys : List V}, (∀ (i : Nat) (y : V), ys[i]? = some y → ∃ b, R y b) → ∃ bs, Each R ys bs
  | [], _ => ⟨[], .nil⟩
  | y :: ys, f => by
    obtain ⟨b, hb⟩ := f 0 y rfl
    obtain ⟨bs, h⟩ := each_ex fun i z e => f (i + 1) z e
    exact ⟨b :: bs, .cons hb h⟩
/-- the points of another x than the first one's, told by a list that keeps them -/
theorem two_len (p0 : P3) (ps' : List P3) {n : Nat} (hn : n = (p0 :: ps').length) {m : Nat} (hm : m = ((List.range n).filter (nth ((p0 :: ps').map fun q => !decide (q.1 = p0.1)))).length) : (!decide (m = 0)) = twoX (p0 :: ps') := by
  subst hn
  have ef : twoX (p0 :: ps') = ((p0 :: ps').map fun q => !decide (q.1 = p0.1)).any id := by rw [List.any_map]; rfl
  rw [ef]
  by_cases h : ∃ i, i < (p0 :: ps').length ∧ nth ((p0 :: ps').map fun q => !decide (q.1 = p0.1)) i = true
  · obtain ⟨i, hi, hf⟩ := h
    rw [any_nth (k := i) (by rw [List.length_map]; exact hi) hf]
    have : i ∈ (List.range (p0 :: ps').length).filter (nth ((p0 :: ps').map fun q => !decide (q.1 = p0.1))) := List.mem_filter.mpr ⟨List.mem_range.mpr hi, hf⟩
    have := List.length_pos_of_mem this
    rw [decide_eq_false (by omega)]; rfl
  · have hall : ∀ i, i < ((p0 :: ps').map fun q => !decide (q.1 = p0.1)).length → nth ((p0 :: ps').map fun q => !decide (q.1 = p0.1)) i = false := fun i hi => by
      rw [List.length_map] at hi
      exact Bool.eq_false_iff.mpr fun z => h ⟨i, hi, z⟩
    rw [not_any_nth hall]
    have e : (List.range (p0 :: ps').length).filter (nth ((p0 :: ps').map fun q => !decide (q.1 = p0.1))) = [] := by
      rw [List.filter_eq_nil_iff]
      intro i hi z
      rw [List.mem_range] at hi
      exact h ⟨i, hi, z⟩
    rw [e] at hm
    rw [decide_eq_true (by simpa using hm)]; rfl
theorem eqv_nil (ps : List P3) : (!PyData.eqv (.list (ps.map pdP)) (.list [])) = !decide (ps.length = 0) := by
  cases ps with
  | nil => rfl
  | cons p r => rfl
theorem mem_iff_get {α : Type} {l : List α} {P : α → Prop} (h : ∀ (i : Nat) y, l[i]? = some y → P y) : ∀ y ∈ l, P y := fun y hy => by
  obtain ⟨i, hi⟩ := List.getElem?_of_mem hy
  exact h i y hi
end My
namespace My
open PySem PySem.Spec PyProof.Rows L2 GxR
/-- a loop over enumerate(a list) -/
theorem for_enm {K : PySem.W.Frag} {a : Addr} {xs : List V} {g : TG} {tb : TS} {D : Ends} {σ : L2.St} {H : Hp} (Pv : Nat → L2.St → Hp → Prop) (h0 : Pv 0 σ H) (hq : ∀ i σ H, Pv i σ H → SqL K H a xs)
    (hs : ∀ (i : Nat) (x : V) (T : Addr) (σ : L2.St) (H : Hp), xs[i]? = some x → Pv i σ H → H T = none → g (.ref T) σ (upd H T (.tup [.int (i : Nat), x])) fun σ2 H2 => tb { D with nx := Pv (i + 1), ct := Pv (i + 1), bk := D.nx } σ2 H2) (hd : ∀ σ H, Pv xs.length σ H → D.nx σ H) :
    ∃ W : Nat → Nat → L2.St → Hp → Prop, (∃ m, W 0 m σ H) ∧ ∀ i m σ H, W i m σ H →
      ((Ite K a).stop i H ∧ D.nx σ H) ∨ ((Ite K a).go i H ∧ ∃ N : L2.St → Hp → Prop, (∀ σ' H', N σ' H' → ∃ m', m' < m ∧ W (i + 1) m' σ' H') ∧ ∀ v H', (Ite K a).yld i H v H' → g v σ H' fun σ2 H2 => tb { D with nx := N, ct := N, bk := D.nx } σ2 H2) := by
  refine ⟨fun i m σ H => m = xs.length - i ∧ i ≤ xs.length ∧ Pv i σ H, ⟨xs.length, rfl, Nat.zero_le _, h0⟩, ?_⟩
  rintro i m σ H ⟨rfl, hi, p⟩
  have qx := hq i σ H p
  by_cases hlt : i < xs.length
  · refine .inr ⟨⟨xs, _, qx, List.getElem?_eq_getElem hlt⟩, Pv (i + 1), fun σ' H' p' => ⟨xs.length - (i + 1), by omega, rfl, hlt, p'⟩, fun v H' y => ?_⟩
    obtain ⟨T, x', rfl, hT, rfl, f1⟩ := y
    exact hs i x' T σ H (f1 xs qx) p hT
  · have e : i = xs.length := by omega
    subst e
    exact .inl ⟨⟨xs, qx, Nat.le_refl _⟩, hd σ H p⟩
def rNinX (K : PySem.W.Frag) : R2 := fun x y H Q => rIn K true x y H Q ∨ rNotInD K x y H Q
def rInX (K : PySem.W.Frag) : R2 := fun x y H Q => rIn K false x y H Q ∨ rInD K x y H Q
theorem hu65 {A : Around} {k : Nat} (hr : Room k A) : A.units + 65 < cLine := by have := hr.un; omega
section
variable {X : Cx} (K : PySem.W.Frag)
theorem my_notinX (hu : X.A.units + 65 < cLine) (hK : X.K = K := by rfl) : OpR X (compareOp .NotIn) (rNinX K) := by
  subst hK
  intro pins s σ H x y v u Q I rx ry h
  exact h.elim (op_notIn_seq pins s σ H x y v u Q I rx ry) (op_notInD hu pins s σ H x y v u Q I rx ry)
theorem my_enum {e : Expr} {ta : TA} {p pos tpos : Pos} {elts : List Expr} {kk : Nat} (hg : Gl X "enumerate") (hm : X.mg "enumerate" = none) (ha : PA X [e] ta) (hK : X.K = K := by rfl) (hs : starEach [e] X.env = [(false, eval e X.env)] := by rfl) :
    PI X (.Tuple elts kk tpos) (.Call (.Name "enumerate" p) [e] [] pos) (iEnum K ta) := by subst hK; exact pi_enum hg hm ha hs
end
section
variable {K : PySem.W.Frag} {σ : L2.St} {H : Hp} {Q : VK}
theorem rd_enum {ta : TA} {R : It → Hp → Prop} (k : ta σ H fun vs H1 => ∃ a xs, vs = [.ref a] ∧ SqL K H1 a xs ∧ R (Ite K a) H1) : iEnum K ta σ H R := k
theorem rd_notinD {x y : V} {d : PyData} {ds : List PyData} (h1 : Dp K H x d) (h2 : Dp K H y (.list ds)) (s1 : SeqAt.shaped d = true) (s2 : SeqAt.shaped (.list ds) = true) (k : Q (.bl (!ds.any fun z => PyData.eqv z d)) H) : rNinX K x y H Q := .inr ⟨d, ds, h1, h2, s1, s2, k⟩
end
end My

namespace My
open PySem PySem.Spec PyProof.Rows L2 GxR
section
variable {X : Cx} (K : PySem.W.Frag)
theorem my_zipA {e e2 : Expr} {ta : TA} {p pos tpos : Pos} {elts : List Expr} {kk : Nat} (hg : Gl X "zip") (hm : X.mg "zip" = none) (ha : PA X [e, e2] ta) (hK : X.K = K := by rfl)
    (hs : starEach [e, e2] X.env = (false, eval e X.env) :: starEach [e2] X.env := by rfl) (hpl : (backTo pos (starEach [e2] X.env)).any (·.1) = false := by rfl) :
    PI X (.Tuple elts kk tpos) (.Call (.Name "zip" p) [e, e2] [] pos) (RZ.iZipA K ta) := by subst hK; exact RZ.pi_zipA hg hm ha hs hpl
end
section
variable {K : PySem.W.Frag} {σ : L2.St} {H : Hp} {Q : VK}
theorem rd_zipA {ta : TA} {R : It → Hp → Prop} (k : ta σ H fun vs H1 => ∃ a b xs ys, vs = [.ref a, .ref b] ∧ ((SqL K H1 a xs ∧ SqL K H1 b ys ∧ R (Itz K a b) H1) ∨ (SqT K H1 a xs ∧ SqT K H1 b ys ∧ R (RZ.ItzT K a b) H1))) : RZ.iZipA K ta σ H R := k
end
theorem rd_iL {K : PySem.W.Frag} {σ : L2.St} {H : Hp} {tl : TE} {R : It → Hp → Prop} (k : tl σ H fun x H1 => ∃ a, x = .ref a ∧ (∃ xs, SqL K H1 a xs) ∧ R (Itl K a) H1) : iList K tl σ H R := k
/-- a method of a list at a slot -/
theorem rd_lmV {K : PySem.W.Frag} {σ : L2.St} {H : Hp} {Q : VK} {j : Nat} {l : Addr} {xs : List V} {t : TA} {r : V → List V → Hp → VK → Prop} (hv : σ[j]? = some (some (.ref l))) (h : H l = some (.lst xs)) (k : t σ H fun vs H2 => r (.ref l) vs H2 Q) : tBM K "list" r (tVar j) t σ H Q :=
  ⟨_, hv, .inl ⟨rfl, xs, SqL.of h⟩, k⟩
/-! ### lines in their order -/
def ahead (p q : Rat × Rat) : Prop := p.1 < q.1 ∨ (p.1 = q.1 ∧ p.2 < q.2)
instance (p q : Rat × Rat) : Decidable (ahead p q) := by unfold ahead; infer_instance
theorem ahead_irr (p : Rat × Rat) : ¬ ahead p p := by
  unfold ahead
  grind
theorem ahead_trans {p q r : Rat × Rat} (h : ahead p q) (h2 : ahead q r) : ahead p r := by
  unfold ahead at *
  grind
theorem ahead_tri {p q : Rat × Rat} (h : ¬ ahead p q) (h2 : p ≠ q) : ahead q p := by
  obtain ⟨a, b⟩ := p
  obtain ⟨c, d⟩ := q
  unfold ahead at *
  dsimp only at *
  have e : ¬ (a = c ∧ b = d) := fun z => h2 (by rw [z.1, z.2])
  grind
/-- how many go ahead -/
def cnt (ls : List (Rat × Rat)) (r : Rat × Rat) : Nat := (ls.filter fun q => decide (ahead q r)).length
theorem cnt_le (ls : List (Rat × Rat)) (r : Rat × Rat) : cnt ls r ≤ ls.length := List.length_filter_le _ _
theorem cnt_iff : ∀ {ls : List (Rat × Rat)} {r : Rat × Rat}, ls.Pairwise ahead → ∀ {i : Nat} {q : Rat × Rat}, ls[i]? = some q → (ahead q r ↔ i < cnt ls r)
  | [], r, _, i, q, h => by simp at h
  | p :: ls, r, hp, i, q, h => by
    have ih : ∀ {i : Nat} {q : Rat × Rat}, ls[i]? = some q → (ahead q r ↔ i < cnt ls r) := fun e => cnt_iff (List.pairwise_cons.mp hp).2 e
    have h0 := (List.pairwise_cons.mp hp).1
    by_cases hpr : ahead p r
    · have ec : cnt (p :: ls) r = cnt ls r + 1 := by
        unfold cnt
        rw [List.filter_cons_of_pos (p := fun q => decide (ahead q r)) (decide_eq_true hpr)]; rfl
      rw [ec]
      match i, h with
      | 0, h => cases h; exact ⟨fun _ => by omega, fun _ => hpr⟩
      | i + 1, h => exact (ih (i := i) h).trans ⟨fun z => by omega, fun z => by omega⟩
    · have e0 : cnt ls r = 0 := by
        unfold cnt
        rw [List.length_eq_zero_iff, List.filter_eq_nil_iff]
        intro x hx z
        exact hpr (ahead_trans (h0 x hx) (of_decide_eq_true z))
      have ec : cnt (p :: ls) r = 0 := by
        unfold cnt at e0 ⊢
        rw [List.filter_cons_of_neg (p := fun q => decide (ahead q r)) (by simpa using hpr)]
        exact e0
      rw [ec]
      match i, h with
      | 0, h => cases h; exact ⟨fun z => (hpr z).elim, fun z => by omega⟩
      | i + 1, h => exact ((ih (i := i) h).trans (by rw [e0])).trans ⟨fun z => by omega, fun z => by omega⟩
/-- put in its place, if it isn't there -/
def insOnce (ls : List (Rat × Rat)) (r : Rat × Rat) : List (Rat × Rat) := if ls[cnt ls r]? = some r then ls else ls.take (cnt ls r) ++ [r] ++ ls.drop (cnt ls r)
theorem ins_mem {ls : List (Rat × Rat)} {r q : Rat × Rat} : q ∈ insOnce ls r ↔ q ∈ ls ∨ q = r := by
  unfold insOnce
  split
  · rename_i h
    have := List.mem_of_getElem? h
    exact ⟨.inl, fun z => z.elim id fun e => e ▸ this⟩
  · rw [List.mem_append, List.mem_append, List.mem_singleton]
    constructor
    · rintro ((h | h) | h)
      · exact .inl (List.mem_of_mem_take h)
      · exact .inr h
      · exact .inl (List.mem_of_mem_drop h)
    · rintro (h | h)
      · rw [← List.take_append_drop (cnt ls r) ls, List.mem_append] at h
        exact h.elim (fun z => .inl (.inl z)) .inr
      · exact .inl (.inr h)
theorem ins_sorted {ls : List (Rat × Rat)} {r : Rat × Rat} (h : ls.Pairwise ahead) : (insOnce ls r).Pairwise ahead := by
  unfold insOnce
  split
  · exact h
  · rename_i hn
    have hl : ∀ q ∈ ls.take (cnt ls r), ahead q r := fun q hq => by
      obtain ⟨i, hi⟩ := List.getElem?_of_mem hq
      have hlt : i < cnt ls r := by
        have := (List.getElem?_eq_some_iff.mp hi).1
        rw [List.length_take] at this
        omega
      rw [List.getElem?_take, if_pos hlt] at hi
      exact (cnt_iff h hi).mpr hlt
    have hr : ∀ q ∈ ls.drop (cnt ls r), ahead r q := fun q hq => by
      obtain ⟨i, hi⟩ := List.getElem?_of_mem hq
      rw [List.getElem?_drop] at hi
      have na : ¬ ahead q r := fun z => by
        have := (cnt_iff h hi).mp z
        omega
      by_cases e : q = r
      · subst e
        have hz : 0 < i := by
          rcases Nat.eq_zero_or_pos i with z | z
          · subst z; exact (hn (by simpa using hi)).elim
          · exact z
        have hlt : cnt ls q < ls.length := by
          have := (List.getElem?_eq_some_iff.mp hi).1
          omega
        have hg : ls[cnt ls q]? = some ls[cnt ls q] := List.getElem?_eq_getElem hlt
        have hpw : ahead ls[cnt ls q] q := by
          have := List.pairwise_iff_getElem.mp h (cnt ls q) (cnt ls q + i) hlt ((List.getElem?_eq_some_iff.mp hi).1) (by omega)
          rwa [(List.getElem?_eq_some_iff.mp hi).2] at this
        have := (cnt_iff h hg).mp hpw
        omega
      · exact ahead_tri na e
    have p1 := h.sublist (List.take_sublist (cnt ls r) ls)
    have p2 := h.sublist (List.drop_sublist (cnt ls r) ls)
    rw [List.pairwise_append, List.pairwise_append]
    refine ⟨⟨p1, List.pairwise_singleton _ _, fun x hx y hy => by rw [List.mem_singleton.mp hy]; exact hl x hx⟩, p2, fun x hx y hy => ?_⟩
    rcases List.mem_append.mp hx with hx | hx
    · exact ahead_trans (hl x hx) (hr y hy)
    · rw [List.mem_singleton.mp hx]; exact hr y hy
def srt (ls : List (Rat × Rat)) : List (Rat × Rat) := ls.foldl insOnce []
theorem srt_take {ls : List (Rat × Rat)} {i : Nat} {q : Rat × Rat} (h : ls[i]? = some q) : srt (ls.take (i + 1)) = insOnce (srt (ls.take i)) q := by
  unfold srt
  rw [take_snoc h, List.foldl_append]; rfl
theorem fold_sorted : ∀ (ls acc : List (Rat × Rat)), acc.Pairwise ahead → (ls.foldl insOnce acc).Pairwise ahead
  | [], _, h => h
  | _ :: r, _, h => fold_sorted r _ (ins_sorted h)
theorem srt_sorted (ls : List (Rat × Rat)) : (srt ls).Pairwise ahead := fold_sorted ls [] .nil
theorem fold_mem : ∀ (ls acc : List (Rat × Rat)) {q : Rat × Rat}, q ∈ ls.foldl insOnce acc ↔ q ∈ acc ∨ q ∈ ls
  | [], _, q => by simp
  | p :: r, acc, q => by
    rw [List.foldl_cons, fold_mem r, ins_mem, List.mem_cons]
    constructor
    · rintro ((h | h) | h)
      · exact .inl h
      · exact .inr (.inl h)
      · exact .inr (.inr h)
    · rintro (h | h | h)
      · exact .inl (.inl h)
      · exact .inl (.inr h)
      · exact .inr h
theorem srt_mem {ls : List (Rat × Rat)} {q : Rat × Rat} : q ∈ srt ls ↔ q ∈ ls := by
  unfold srt
  rw [fold_mem]
  simp
/-- sorted lists of the same lines are one -/
theorem sorted_uniq : ∀ {l1 l2 : List (Rat × Rat)}, l1.Pairwise ahead → l2.Pairwise ahead → (∀ q, q ∈ l1 ↔ q ∈ l2) → l1 = l2
  | [], [], _, _, _ => rfl
  | [], q :: _, _, _, h => by have := (h q).mpr List.mem_cons_self; simp at this
  | q :: _, [], _, _, h => by have := (h q).mp List.mem_cons_self; simp at this
  | p :: r, q :: t, h1, h2, h => by
    obtain ⟨a1, b1⟩ := List.pairwise_cons.mp h1
    obtain ⟨a2, b2⟩ := List.pairwise_cons.mp h2
    have e : p = q := by
      have m1 := (h p).mp List.mem_cons_self
      have m2 := (h q).mpr List.mem_cons_self
      rcases List.mem_cons.mp m1 with e | m1
      · exact e
      · rcases List.mem_cons.mp m2 with e | m2
        · exact e.symm
        · exact (ahead_irr p (ahead_trans (a1 q m2) (a2 p m1))).elim
    subst e
    have : r = t := sorted_uniq b1 b2 fun x => by
      constructor
      · intro hx
        rcases List.mem_cons.mp ((h x).mp (List.mem_cons_of_mem _ hx)) with e | z
        · subst e; exact (ahead_irr x (a1 x hx)).elim
        · exact z
      · intro hx
        rcases List.mem_cons.mp ((h x).mpr (List.mem_cons_of_mem _ hx)) with e | z
        · subst e; exact (ahead_irr x (a2 x hx)).elim
        · exact z
    rw [this]
theorem srt_len (ls : List (Rat × Rat)) : (srt ls).length ≤ ls.length := by
  have key : ∀ (l acc : List (Rat × Rat)), (l.foldl insOnce acc).length ≤ acc.length + l.length := fun l => by
    induction l with
    | nil => intro acc; exact Nat.le_refl _
    | cons p r ih =>
      intro acc
      rw [List.foldl_cons, List.length_cons]
      refine Nat.le_trans (ih _) ?_
      have : (insOnce acc p).length ≤ acc.length + 1 := by
        unfold insOnce
        split
        · omega
        · rw [List.length_append, List.length_append, List.length_take, List.length_drop]
          have := cnt_le acc p
          show min _ _ + 1 + _ ≤ _
          omega
      omega
  have := key ls []
  simpa [srt] using this
end My

namespace My
open PySem PySem.Spec PyProof.Rows L2 GxR
/-- a line -/
def Ln (K : PySem.W.Frag) (H : Hp) (v : V) (q : Rat × Rat) : Prop := Two K H v q.1 q.2
theorem Ln.sm {K : PySem.W.Frag} {H H' : Hp} {v : V} {q : Rat × Rat} (s : Sm H H') (h : Ln K H v q) : Ln K H' v q := Two.sm s h
theorem Ln.tk {K : PySem.W.Frag} {H H' : Hp} {v : V} {q : Rat × Rat} (s : Tk H H') (h : Ln K H v q) : Ln K H' v q := Two.tk s h
/-- the line through two points of unlike x -/
def thr (p q : P3) : Rat × Rat := (p.2.1 - (q.2.1 - p.2.1) / (q.1 - p.1) * p.1, (q.2.1 - p.2.1) / (q.1 - p.1))
theorem sub_ne {a b : Rat} (h : a ≠ b) : b - a ≠ 0 := by grind
theorem thr_sz {p q : P3} (h : p.1 ≠ q.1) (z1 : Sz 210 p.1 ∧ Sz 210 p.2.1) (z2 : Sz 210 q.1 ∧ Sz 210 q.2.1) : Sz 1400 (thr p q).1 ∧ Sz 1000 (thr p q).2 := by
  have zs := (z2.2.sub z1.2).dvd (z2.1.sub z1.1) (sub_ne h)
  exact ⟨(z1.2.sub (zs.mul z1.1)).mono (by decide), zs.mono (by decide)⟩
end My
/-! ### the reading walks: "fr" finds a fraction's fact at a later heap; "rd" takes one construct -/
local macro_rules | `(tactic| walk_at "fr") => `(tactic| first | assumption | (refine' My.Fr.up ?h1 ?h2; (case h1 => assumption); (case h2 => walk_at "fr")) | (refine' My.FrT.fr ?h1; (case h1 => walk_at "frt")) | (refine' My.Fr.kp ?h1 ?h2; (case h1 => assumption); (case h2 => walk_at "fr")))
local macro_rules | `(tactic| walk_at "frt") => `(tactic| first | assumption | (refine' My.FrT.up ?h1 ?h2; (case h1 => assumption); (case h2 => walk_at "frt")) | (refine' My.FrT.kp ?h1 ?h2; (case h1 => assumption); (case h2 => walk_at "frt")))
local macro_rules | `(tactic| walk_at "pot") => `(tactic| first | assumption | (refine' My.Kp.new ?h1; (case h1 => assumption)) | (refine' My.PotAt.up ?h1 ?h2; (case h1 => assumption); (case h2 => walk_at "pot")))
local macro_rules | `(tactic| walk_at "same") => `(tactic| first | exact My.Sm.refl _ | assumption | (refine' My.Sm.trans ?h1 ?h2; (case h2 => assumption); (case h1 => walk_at "same")))
local macro_rules | `(tactic| walk_at "kp") => `(tactic| first | assumption | (refine' My.Kp.refl ?h; (case h => assumption)) | (refine' My.Kp.trans ?h1 ?h2; (case h2 => assumption); (case h1 => walk_at "kp")) | (refine' My.Kp.tos ?h1 ?h2; (case h2 => assumption); (case h1 => walk_at "kp")))
local macro_rules | `(tactic| walk_at "sz") => `(tactic| (refine' My.Sz.mono ?h1 ?h2; (case h1 => assumption); (case h2 => omega)))
local macro_rules | `(tactic| walk_at "rd") => `(tactic| first
  | ((with_reducible refine' My.rd_var ?hv ?_); (case hv => exact rfl))
  | (with_reducible refine' My.rd_c ?_)
  | (with_reducible refine' My.rd_tup ?_)
  | (with_reducible refine' My.rd_lst ?_)
  | (with_reducible refine' My.rd_call ?_)
  | (with_reducible refine' My.rd_op ?_)
  | (with_reducible refine' My.rd_un ?_)
  | (with_reducible refine' My.rd_nil ?_)
  | (with_reducible refine' My.rd_cons ?_)
  | (with_reducible refine' My.rd_callS ?_)
  | (with_reducible refine' My.rd_cb ?_)
  | (with_reducible refine' My.rd_I0 ?_)
  | (with_reducible refine' My.rd_U ?_)
  | (with_reducible refine' My.rd_addI ?_)
  | (with_reducible refine' My.rd_eqI ?_)
  | (with_reducible refine' My.rd_neI ?_)
  | (with_reducible refine' My.rd_test ?_)
  | (with_reducible refine' My.rd_truA ?_)
  | (with_reducible refine' My.rd_not ?_)
  | (with_reducible refine' My.rd_and ?_)
  | (with_reducible refine' My.rd_or ?_)
  | (with_reducible refine' My.rd_andV ?_)
  | (with_reducible refine' My.rd_orV ?_)
  | (with_reducible refine' My.rd_notV ?_)
  | (with_reducible refine' My.rd_if ?_)
  | (with_reducible refine' My.rd_seq ?_)
  | (with_reducible refine' My.rd_asg ?_)
  | (with_reducible refine' My.rd_name ?_)
  | (with_reducible refine' My.rd_par ?_)
  | (with_reducible refine' My.rd_ret ?_)
  | (with_reducible refine' My.rd_drop ?_)
  | (with_reducible refine' My.rd_next ?_)
  | (with_reducible refine' My.rd_bl ?_)
  | (with_reducible refine' My.rd_tru ?_)
  | (with_reducible refine' My.rd_p2 ?_)
  | (with_reducible refine' My.rd_gcd ?_)
  | (with_reducible refine' My.rd_gcons ?_)
  | (with_reducible refine' My.rd_gnil ?_)
  | ((with_reducible refine' My.rd_ixF0 ?hv ?_); (case hv => walk_at "fr"))
  | ((with_reducible refine' My.rd_ixF1 ?hv ?_); (case hv => walk_at "fr"))
  | ((with_reducible refine' My.rd_mod ?hv ?_); (case hv => first | assumption | decide | omega))
  | (with_reducible refine' My.rd_gsub ?_)
  | (with_reducible refine' My.rd_2i ?_)
  | (with_reducible refine' My.rd_1i ?_)
  | (with_reducible refine' My.rd_for ?_)
  | (with_reducible refine' My.rd_rng1 ?_)
  | (with_reducible refine' My.rd_while ?_)
  | (with_reducible refine' My.rd_int1 ?_)
  | (with_reducible refine' My.rd_int1b ?_)
  | (with_reducible refine' My.rd_neB ?_)
  | (with_reducible refine' My.rd_isB ?_)
  | (with_reducible refine' My.rd_notB ?_))
local macro_rules | `(tactic| walk_at "sq") => `(tactic| first | assumption | (refine' My.sqt_up ?h1 ?h2; (case h1 => assumption); (case h2 => walk_at "sq")) | (refine' My.Kp.sqt ?h1 ?h2; (case h1 => assumption); (case h2 => walk_at "sq")))
local macro_rules | `(tactic| walk_at "rd") => `(tactic| first
  | (with_reducible refine' My.rd_chain ?_)
  | ((with_reducible refine' My.rd_ixT ?hv ?he ?_); (case hv => walk_at "sq"); (case he => exact rfl)))
local macro_rules | `(tactic| walk_at "rd") => `(tactic| first
  | (with_reducible refine' My.rd_sl ?_)
  | (with_reducible refine' My.rd_nopart ?_)
  | (with_reducible refine' My.rd_part ?_)
  | (with_reducible refine' My.rd_1v ?_)
  | (with_reducible refine' My.rd_rng2 ?_)
  | (with_reducible refine' My.rd_enum ?_))
local macro_rules | `(tactic| walk_at "rd") => `(tactic| first
  | (with_reducible refine' My.rd_zipA ?_))
namespace Lw
open PySem PySem.Spec PyProof.Rows L2 My
def top (i : Nat) : Stmt := PySem.Challenge.pw_signlines_k51_sums_told.main.body.getD i (.Pass ⟨0, 0, 0, 0⟩)
abbrev s_made : Stmt := top 7
abbrev N_made : List Str := ["top", "bottom", "shared"]
theorem sc_made : FnScope N_made ["top", "bottom"] (defScope s_made) := ⟨rfl, rfl, rfl, by decide +kernel, rfl, by decide +kernel, by decide +kernel⟩
abbrev s_added : Stmt := top 8
abbrev N_added : List Str := ["one", "other"]
theorem sc_added : FnScope N_added ["one", "other"] (defScope s_added) := ⟨rfl, rfl, rfl, by decide +kernel, rfl, by decide +kernel, by decide +kernel⟩
abbrev s_subtracted : Stmt := top 9
abbrev N_subtracted : List Str := ["one", "other"]
theorem sc_subtracted : FnScope N_subtracted ["one", "other"] (defScope s_subtracted) := ⟨rfl, rfl, rfl, by decide +kernel, rfl, by decide +kernel, by decide +kernel⟩
abbrev s_multiplied : Stmt := top 10
abbrev N_multiplied : List Str := ["one", "other"]
theorem sc_multiplied : FnScope N_multiplied ["one", "other"] (defScope s_multiplied) := ⟨rfl, rfl, rfl, by decide +kernel, rfl, by decide +kernel, by decide +kernel⟩
abbrev s_is_whole : Stmt := top 12
abbrev N_is_whole : List Str := ["thing"]
theorem sc_is_whole : FnScope N_is_whole ["thing"] (defScope s_is_whole) := ⟨rfl, rfl, rfl, by decide +kernel, rfl, by decide +kernel, by decide +kernel⟩
abbrev s_is_fraction : Stmt := top 13
abbrev N_is_fraction : List Str := ["thing", "top", "bottom"]
theorem sc_is_fraction : FnScope N_is_fraction ["thing"] (defScope s_is_fraction) := ⟨rfl, rfl, rfl, by decide +kernel, rfl, by decide +kernel, by decide +kernel⟩
abbrev s_is_row : Stmt := top 14
abbrev N_is_row : List Str := ["thing", "many", "part"]
theorem sc_is_row : FnScope N_is_row ["thing", "many"] (defScope s_is_row) := ⟨rfl, rfl, rfl, by decide +kernel, rfl, by decide +kernel, by decide +kernel⟩
abbrev s_are_rows : Stmt := top 15
abbrev N_are_rows : List Str := ["thing", "most", "many", "part"]
theorem sc_are_rows : FnScope N_are_rows ["thing", "most", "many"] (defScope s_are_rows) := ⟨rfl, rfl, rfl, by decide +kernel, rfl, by decide +kernel, by decide +kernel⟩
abbrev s_are_weighed : Stmt := top 16
abbrev N_are_weighed : List Str := ["thing", "most", "many", "row"]
theorem sc_are_weighed : FnScope N_are_weighed ["thing", "most", "many"] (defScope s_are_weighed) := ⟨rfl, rfl, rfl, by decide +kernel, rfl, by decide +kernel, by decide +kernel⟩
abbrev s_is_points : Stmt := top 19
abbrev N_is_points : List Str := ["thing"]
theorem sc_is_points : FnScope N_is_points ["thing"] (defScope s_is_points) := ⟨rfl, rfl, rfl, by decide +kernel, rfl, by decide +kernel, by decide +kernel⟩
abbrev s_is_line : Stmt := top 20
abbrev N_is_line : List Str := ["thing"]
theorem sc_is_line : FnScope N_is_line ["thing"] (defScope s_is_line) := ⟨rfl, rfl, rfl, by decide +kernel, rfl, by decide +kernel, by decide +kernel⟩
abbrev s_need_points : Stmt := top 21
abbrev N_need_points : List Str := ["thing"]
theorem sc_need_points : FnScope N_need_points ["thing"] (defScope s_need_points) := ⟨rfl, rfl, rfl, by decide +kernel, rfl, by decide +kernel, by decide +kernel⟩
abbrev s_need_line : Stmt := top 22
abbrev N_need_line : List Str := ["thing"]
theorem sc_need_line : FnScope N_need_line ["thing"] (defScope s_need_line) := ⟨rfl, rfl, rfl, by decide +kernel, rfl, by decide +kernel, by decide +kernel⟩
abbrev s_stand_at : Stmt := top 23
abbrev N_stand_at : List Str := ["line", "x"]
theorem sc_stand_at : FnScope N_stand_at ["line", "x"] (defScope s_stand_at) := ⟨rfl, rfl, rfl, by decide +kernel, rfl, by decide +kernel, by decide +kernel⟩
abbrev s_rise_of : Stmt := top 25
abbrev N_rise_of : List Str := ["point", "line"]
theorem sc_rise_of : FnScope N_rise_of ["point", "line"] (defScope s_rise_of) := ⟨rfl, rfl, rfl, by decide +kernel, rfl, by decide +kernel, by decide +kernel⟩
abbrev s_sums_of : Stmt := top 26
abbrev N_sums_of : List Str := ["points", "line", "over", "under", "point", "rise", "part"]
theorem sc_sums_of : FnScope N_sums_of ["points", "line"] (defScope s_sums_of) := ⟨rfl, rfl, rfl, by decide +kernel, rfl, by decide +kernel, by decide +kernel⟩
abbrev s_sums : Stmt := top 28
abbrev N_sums : List Str := ["points", "line"]
theorem sc_sums : FnScope N_sums ["points", "line"] (defScope s_sums) := ⟨rfl, rfl, rfl, by decide +kernel, rfl, by decide +kernel, by decide +kernel⟩
abbrev s__law_short : Stmt := top 30
abbrev N__law_short : List Str := ["_law_line_here", "_law_number"]
theorem sc__law_short : FnScope N__law_short ["_law_line_here"] (defScope s__law_short) := ⟨rfl, rfl, rfl, by decide +kernel, rfl, by decide +kernel, by decide +kernel⟩
abbrev s__law_draw : Stmt := top 34
abbrev N__law_draw : List Str := ["_law_pot_here", "_law_many", "_law_digit"]
theorem sc__law_draw : FnScope N__law_draw ["_law_pot_here", "_law_many"] (defScope s__law_draw) := ⟨rfl, rfl, rfl, by decide +kernel, rfl, by decide +kernel, by decide +kernel⟩
abbrev s__law_low : Stmt := top 36
abbrev N__law_low : List Str := ["_law_top", "_law_bottom", "_law_one", "_law_other"]
theorem sc__law_low : FnScope N__law_low ["_law_top", "_law_bottom"] (defScope s__law_low) := ⟨rfl, rfl, rfl, by decide +kernel, rfl, by decide +kernel, by decide +kernel⟩
abbrev s__law_over : Stmt := top 40
abbrev N__law_over : List Str := ["_law_one", "_law_other"]
theorem sc__law_over : FnScope N__law_over ["_law_one", "_law_other"] (defScope s__law_over) := ⟨rfl, rfl, rfl, by decide +kernel, rfl, by decide +kernel, by decide +kernel⟩
abbrev s__law_less : Stmt := top 38
abbrev N__law_less : List Str := ["_law_one", "_law_other"]
theorem sc__law_less : FnScope N__law_less ["_law_one", "_law_other"] (defScope s__law_less) := ⟨rfl, rfl, rfl, by decide +kernel, rfl, by decide +kernel, by decide +kernel⟩
abbrev s__law_times : Stmt := top 39
abbrev N__law_times : List Str := ["_law_one", "_law_other"]
theorem sc__law_times : FnScope N__law_times ["_law_one", "_law_other"] (defScope s__law_times) := ⟨rfl, rfl, rfl, by decide +kernel, rfl, by decide +kernel, by decide +kernel⟩
abbrev s__law_through : Stmt := top 48
abbrev N__law_through : List Str := ["_law_one", "_law_other", "_law_slope"]
theorem sc__law_through : FnScope N__law_through ["_law_one", "_law_other"] (defScope s__law_through) := ⟨rfl, rfl, rfl, by decide +kernel, rfl, by decide +kernel, by decide +kernel⟩
abbrev s__law_small : Stmt := top 41
abbrev N__law_small : List Str := ["_law_pot_here"]
theorem sc__law_small : FnScope N__law_small ["_law_pot_here"] (defScope s__law_small) := ⟨rfl, rfl, rfl, by decide +kernel, rfl, by decide +kernel, by decide +kernel⟩
abbrev s__law_great : Stmt := top 35
abbrev N__law_great : List Str := ["_law_pot_here", "_law_many", "_law_found", "_law_k"]
theorem sc__law_great : FnScope N__law_great ["_law_pot_here", "_law_many"] (defScope s__law_great) := ⟨rfl, rfl, rfl, by decide +kernel, rfl, by decide +kernel, by decide +kernel⟩
abbrev s__law_far : Stmt := top 42
abbrev N__law_far : List Str := ["_law_pot_here"]
theorem sc__law_far : FnScope N__law_far ["_law_pot_here"] (defScope s__law_far) := ⟨rfl, rfl, rfl, by decide +kernel, rfl, by decide +kernel, by decide +kernel⟩
abbrev s__law_plus : Stmt := top 37
abbrev N__law_plus : List Str := ["_law_one", "_law_other"]
theorem sc__law_plus : FnScope N__law_plus ["_law_one", "_law_other"] (defScope s__law_plus) := ⟨rfl, rfl, rfl, by decide +kernel, rfl, by decide +kernel, by decide +kernel⟩
abbrev s__law_any_line : Stmt := top 31
abbrev N__law_any_line : List Str := ["_law_pot_here", "_law_points_here", "_law_way", "_law_one", "_law_line_here", "_law_slope"]
theorem sc__law_any_line : FnScope N__law_any_line ["_law_pot_here", "_law_points_here"] (defScope s__law_any_line) := ⟨rfl, rfl, rfl, by decide +kernel, rfl, by decide +kernel, by decide +kernel⟩
abbrev s__law_cell : Stmt := top 32
abbrev N__law_cell : List Str := ["_law_script", "_law_k"]
theorem sc__law_cell : FnScope N__law_cell ["_law_script", "_law_k"] (defScope s__law_cell) := ⟨rfl, rfl, rfl, by decide +kernel, rfl, by decide +kernel, by decide +kernel⟩
abbrev s__law_pot : Stmt := top 33
abbrev N__law_pot : List Str := ["_law_cell_here"]
theorem sc__law_pot : FnScope N__law_pot ["_law_cell_here"] (defScope s__law_pot) := ⟨rfl, rfl, rfl, by decide +kernel, rfl, by decide +kernel, by decide +kernel⟩
abbrev s__law_above_nought : Stmt := top 43
abbrev N__law_above_nought : List Str := ["_law_pot_here", "_law_way"]
theorem sc__law_above_nought : FnScope N__law_above_nought ["_law_pot_here"] (defScope s__law_above_nought) := ⟨rfl, rfl, rfl, by decide +kernel, rfl, by decide +kernel, by decide +kernel⟩
abbrev s__law_spot : Stmt := top 44
abbrev N__law_spot : List Str := ["_law_pot_here", "_law_manner", "_law_line_here", "_law_x", "_law_y"]
theorem sc__law_spot : FnScope N__law_spot ["_law_pot_here", "_law_manner", "_law_line_here"] (defScope s__law_spot) := ⟨rfl, rfl, rfl, by decide +kernel, rfl, by decide +kernel, by decide +kernel⟩
abbrev s__law_points : Stmt := top 45
abbrev N__law_points : List Str := ["_law_pot_here", "_law_most", "_law_manner", "_law_line_here", "_law_points_here", "_law_k", "_law_x", "_law_y"]
theorem sc__law_points : FnScope N__law_points ["_law_pot_here", "_law_most"] (defScope s__law_points) := ⟨rfl, rfl, rfl, by decide +kernel, rfl, by decide +kernel, by decide +kernel⟩
abbrev s__law_stand : Stmt := top 46
abbrev N__law_stand : List Str := ["_law_line_here", "_law_x"]
theorem sc__law_stand : FnScope N__law_stand ["_law_line_here", "_law_x"] (defScope s__law_stand) := ⟨rfl, rfl, rfl, by decide +kernel, rfl, by decide +kernel, by decide +kernel⟩
abbrev s__law_rise : Stmt := top 47
abbrev N__law_rise : List Str := ["_law_point", "_law_line_here"]
theorem sc__law_rise : FnScope N__law_rise ["_law_point", "_law_line_here"] (defScope s__law_rise) := ⟨rfl, rfl, rfl, by decide +kernel, rfl, by decide +kernel, by decide +kernel⟩
abbrev s__law_line : Stmt := top 49
abbrev N__law_line : List Str := ["_law_pot_here", "_law_points_here", "_law_line_here"]
theorem sc__law_line : FnScope N__law_line ["_law_pot_here", "_law_points_here"] (defScope s__law_line) := ⟨rfl, rfl, rfl, by decide +kernel, rfl, by decide +kernel, by decide +kernel⟩
abbrev s__law_is_fraction : Stmt := top 50
abbrev N__law_is_fraction : List Str := ["_law_found", "_law_part"]
theorem sc__law_is_fraction : FnScope N__law_is_fraction ["_law_found"] (defScope s__law_is_fraction) := ⟨rfl, rfl, rfl, by decide +kernel, rfl, by decide +kernel, by decide +kernel⟩
abbrev s__law_sums : Stmt := top 51
abbrev N__law_sums : List Str := ["_law_points_here", "_law_line_here", "_law_above", "_law_beneath", "_law_point", "_law_rise_here"]
theorem sc__law_sums : FnScope N__law_sums ["_law_points_here", "_law_line_here"] (defScope s__law_sums) := ⟨rfl, rfl, rfl, by decide +kernel, rfl, by decide +kernel, by decide +kernel⟩
abbrev s__law_upside : Stmt := top 52
abbrev N__law_upside : List Str := ["_law_points_here", "_law_x", "_law_y", "_law_weight"]
theorem sc__law_upside : FnScope N__law_upside ["_law_points_here"] (defScope s__law_upside) := ⟨rfl, rfl, rfl, by decide +kernel, rfl, by decide +kernel, by decide +kernel⟩
abbrev s__law_right : Stmt := top 53
abbrev N__law_right : List Str := ["_law_points_here", "_law_line_here", "_law_at", "_law_due", "_law_handed", "_law_found", "_law_turned", "_law_more", "_law_one"]
theorem sc__law_right : FnScope N__law_right ["_law_points_here", "_law_line_here", "_law_at"] (defScope s__law_right) := ⟨rfl, rfl, rfl, by decide +kernel, rfl, by decide +kernel, by decide +kernel⟩
abbrev s_law : Stmt := top 54
abbrev N_law : List Str := ["_law_script", "_law_points_here", "_law_k", "_law_pot_here", "_law_line_here"]
theorem sc_law : FnScope N_law ["_law_script"] (defScope s_law) := ⟨rfl, rfl, rfl, by decide +kernel, rfl, by decide +kernel, by decide +kernel⟩
structure Ad where
  f_made : Addr
  d_made : FuncData
  f_added : Addr
  d_added : FuncData
  f_subtracted : Addr
  d_subtracted : FuncData
  f_multiplied : Addr
  d_multiplied : FuncData
  f_is_whole : Addr
  d_is_whole : FuncData
  f_is_fraction : Addr
  d_is_fraction : FuncData
  f_is_row : Addr
  d_is_row : FuncData
  f_are_rows : Addr
  d_are_rows : FuncData
  f_are_weighed : Addr
  d_are_weighed : FuncData
  f_is_points : Addr
  d_is_points : FuncData
  f_is_line : Addr
  d_is_line : FuncData
  f_need_points : Addr
  d_need_points : FuncData
  f_need_line : Addr
  d_need_line : FuncData
  f_stand_at : Addr
  d_stand_at : FuncData
  f_rise_of : Addr
  d_rise_of : FuncData
  f_sums_of : Addr
  d_sums_of : FuncData
  f_sums : Addr
  d_sums : FuncData
  f__law_short : Addr
  d__law_short : FuncData
  f__law_draw : Addr
  d__law_draw : FuncData
  f__law_low : Addr
  d__law_low : FuncData
  f__law_over : Addr
  d__law_over : FuncData
  f__law_less : Addr
  d__law_less : FuncData
  f__law_times : Addr
  d__law_times : FuncData
  f__law_through : Addr
  d__law_through : FuncData
  f__law_small : Addr
  d__law_small : FuncData
  f__law_great : Addr
  d__law_great : FuncData
  f__law_far : Addr
  d__law_far : FuncData
  f__law_plus : Addr
  d__law_plus : FuncData
  f__law_any_line : Addr
  d__law_any_line : FuncData
  f__law_cell : Addr
  d__law_cell : FuncData
  f__law_pot : Addr
  d__law_pot : FuncData
  f__law_above_nought : Addr
  d__law_above_nought : FuncData
  f__law_spot : Addr
  d__law_spot : FuncData
  f__law_points : Addr
  d__law_points : FuncData
  f__law_stand : Addr
  d__law_stand : FuncData
  f__law_rise : Addr
  d__law_rise : FuncData
  f__law_line : Addr
  d__law_line : FuncData
  f__law_is_fraction : Addr
  d__law_is_fraction : FuncData
  f__law_sums : Addr
  d__law_sums : FuncData
  f__law_upside : Addr
  d__law_upside : FuncData
  f__law_right : Addr
  d__law_right : FuncData
  f_law : Addr
  d_law : FuncData
  C_LineError : Addr
  C_NoPoints : Addr
  C_NoLine : Addr
  c_NOUGHT : Addr
  k_is_row : Addr
  p_is_row : Addr
  k_are_rows : Addr
  p_are_rows : Addr
  k_are_weighed : Addr
  p_are_weighed : Addr
structure Tbs (base : Heap) (mg : Str → Option Value) (a : Ad) : Prop where
  t_is_row : GxR.TabB base mg a.k_is_row a.p_is_row
  t_are_rows : GxR.TabB base mg a.k_are_rows a.p_are_rows
  t_are_weighed : GxR.TabB base mg a.k_are_weighed a.p_are_weighed
structure TG (a : Ad) (H : Hp) : Prop where
  t_is_row : GxR.TabG H a.p_is_row
  t_are_rows : GxR.TabG H a.p_are_rows
  t_are_weighed : GxR.TabG H a.p_are_weighed
theorem TG.up {a : Ad} {H H' : Hp} (s : Sm H H') (h : TG a H) : TG a H' := ⟨s.tab h.t_is_row, s.tab h.t_are_rows, s.tab h.t_are_weighed⟩
theorem TG.kp {a : Ad} {p : Addr} {H H' : Hp} (s : Kp p H H') (h : TG a H) : TG a H' := ⟨s.tab h.t_is_row, s.tab h.t_are_rows, s.tab h.t_are_weighed⟩
local macro_rules | `(tactic| walk_at "tg") => `(tactic| first | assumption | (refine' Lw.TG.up ?h1 ?h2; (case h1 => assumption); (case h2 => walk_at "tg")) | (refine' Lw.TG.kp ?h1 ?h2; (case h1 => assumption); (case h2 => walk_at "tg")))
structure Txt (K : PySem.W.Frag) (mg : Str → Option Value) (a : Ad) : Prop where
  F_made : Fun K "made" "made" s_made a.f_made a.d_made
  b_made : Binds K a.d_made ["top", "bottom"] []
  g_made : mg "made" = some (.ref a.f_made)
  F_added : Fun K "added" "added" s_added a.f_added a.d_added
  b_added : Binds K a.d_added ["one", "other"] []
  g_added : mg "added" = some (.ref a.f_added)
  F_subtracted : Fun K "subtracted" "subtracted" s_subtracted a.f_subtracted a.d_subtracted
  b_subtracted : Binds K a.d_subtracted ["one", "other"] []
  g_subtracted : mg "subtracted" = some (.ref a.f_subtracted)
  F_multiplied : Fun K "multiplied" "multiplied" s_multiplied a.f_multiplied a.d_multiplied
  b_multiplied : Binds K a.d_multiplied ["one", "other"] []
  g_multiplied : mg "multiplied" = some (.ref a.f_multiplied)
  F_is_whole : Fun K "is_whole" "is_whole" s_is_whole a.f_is_whole a.d_is_whole
  b_is_whole : Binds K a.d_is_whole ["thing"] []
  g_is_whole : mg "is_whole" = some (.ref a.f_is_whole)
  F_is_fraction : Fun K "is_fraction" "is_fraction" s_is_fraction a.f_is_fraction a.d_is_fraction
  b_is_fraction : Binds K a.d_is_fraction ["thing"] []
  g_is_fraction : mg "is_fraction" = some (.ref a.f_is_fraction)
  F_is_row : Fun K "is_row" "is_row" s_is_row a.f_is_row a.d_is_row
  b_is_row : Binds K a.d_is_row ["thing", "many"] []
  g_is_row : mg "is_row" = some (.ref a.f_is_row)
  L_is_row : FunC K "is_row" "is_row" s_is_row a.f_is_row a.d_is_row a.k_is_row
  F_are_rows : Fun K "are_rows" "are_rows" s_are_rows a.f_are_rows a.d_are_rows
  b_are_rows : Binds K a.d_are_rows ["thing", "most", "many"] []
  g_are_rows : mg "are_rows" = some (.ref a.f_are_rows)
  L_are_rows : FunC K "are_rows" "are_rows" s_are_rows a.f_are_rows a.d_are_rows a.k_are_rows
  F_are_weighed : Fun K "are_weighed" "are_weighed" s_are_weighed a.f_are_weighed a.d_are_weighed
  b_are_weighed : Binds K a.d_are_weighed ["thing", "most", "many"] []
  g_are_weighed : mg "are_weighed" = some (.ref a.f_are_weighed)
  L_are_weighed : FunC K "are_weighed" "are_weighed" s_are_weighed a.f_are_weighed a.d_are_weighed a.k_are_weighed
  F_is_points : Fun K "is_points" "is_points" s_is_points a.f_is_points a.d_is_points
  b_is_points : Binds K a.d_is_points ["thing"] []
  g_is_points : mg "is_points" = some (.ref a.f_is_points)
  F_is_line : Fun K "is_line" "is_line" s_is_line a.f_is_line a.d_is_line
  b_is_line : Binds K a.d_is_line ["thing"] []
  g_is_line : mg "is_line" = some (.ref a.f_is_line)
  F_need_points : Fun K "need_points" "need_points" s_need_points a.f_need_points a.d_need_points
  b_need_points : Binds K a.d_need_points ["thing"] []
  g_need_points : mg "need_points" = some (.ref a.f_need_points)
  F_need_line : Fun K "need_line" "need_line" s_need_line a.f_need_line a.d_need_line
  b_need_line : Binds K a.d_need_line ["thing"] []
  g_need_line : mg "need_line" = some (.ref a.f_need_line)
  F_stand_at : Fun K "stand_at" "stand_at" s_stand_at a.f_stand_at a.d_stand_at
  b_stand_at : Binds K a.d_stand_at ["line", "x"] []
  g_stand_at : mg "stand_at" = some (.ref a.f_stand_at)
  F_rise_of : Fun K "rise_of" "rise_of" s_rise_of a.f_rise_of a.d_rise_of
  b_rise_of : Binds K a.d_rise_of ["point", "line"] []
  g_rise_of : mg "rise_of" = some (.ref a.f_rise_of)
  F_sums_of : Fun K "sums_of" "sums_of" s_sums_of a.f_sums_of a.d_sums_of
  b_sums_of : Binds K a.d_sums_of ["points", "line"] []
  g_sums_of : mg "sums_of" = some (.ref a.f_sums_of)
  F_sums : Fun K "sums" "sums" s_sums a.f_sums a.d_sums
  b_sums : Binds K a.d_sums ["points", "line"] []
  g_sums : mg "sums" = some (.ref a.f_sums)
  F__law_short : Fun K "_law_short" "_law_short" s__law_short a.f__law_short a.d__law_short
  b__law_short : Binds K a.d__law_short ["_law_line_here"] []
  g__law_short : mg "_law_short" = some (.ref a.f__law_short)
  F__law_draw : Fun K "_law_draw" "_law_draw" s__law_draw a.f__law_draw a.d__law_draw
  b__law_draw : Binds K a.d__law_draw ["_law_pot_here", "_law_many"] []
  g__law_draw : mg "_law_draw" = some (.ref a.f__law_draw)
  F__law_low : Fun K "_law_low" "_law_low" s__law_low a.f__law_low a.d__law_low
  b__law_low : Binds K a.d__law_low ["_law_top", "_law_bottom"] []
  g__law_low : mg "_law_low" = some (.ref a.f__law_low)
  F__law_over : Fun K "_law_over" "_law_over" s__law_over a.f__law_over a.d__law_over
  b__law_over : Binds K a.d__law_over ["_law_one", "_law_other"] []
  g__law_over : mg "_law_over" = some (.ref a.f__law_over)
  F__law_less : Fun K "_law_less" "_law_less" s__law_less a.f__law_less a.d__law_less
  b__law_less : Binds K a.d__law_less ["_law_one", "_law_other"] []
  g__law_less : mg "_law_less" = some (.ref a.f__law_less)
  F__law_times : Fun K "_law_times" "_law_times" s__law_times a.f__law_times a.d__law_times
  b__law_times : Binds K a.d__law_times ["_law_one", "_law_other"] []
  g__law_times : mg "_law_times" = some (.ref a.f__law_times)
  F__law_through : Fun K "_law_through" "_law_through" s__law_through a.f__law_through a.d__law_through
  b__law_through : Binds K a.d__law_through ["_law_one", "_law_other"] []
  g__law_through : mg "_law_through" = some (.ref a.f__law_through)
  F__law_small : Fun K "_law_small" "_law_small" s__law_small a.f__law_small a.d__law_small
  b__law_small : Binds K a.d__law_small ["_law_pot_here"] []
  g__law_small : mg "_law_small" = some (.ref a.f__law_small)
  F__law_great : Fun K "_law_great" "_law_great" s__law_great a.f__law_great a.d__law_great
  b__law_great : Binds K a.d__law_great ["_law_pot_here", "_law_many"] []
  g__law_great : mg "_law_great" = some (.ref a.f__law_great)
  F__law_far : Fun K "_law_far" "_law_far" s__law_far a.f__law_far a.d__law_far
  b__law_far : Binds K a.d__law_far ["_law_pot_here"] []
  g__law_far : mg "_law_far" = some (.ref a.f__law_far)
  F__law_plus : Fun K "_law_plus" "_law_plus" s__law_plus a.f__law_plus a.d__law_plus
  b__law_plus : Binds K a.d__law_plus ["_law_one", "_law_other"] []
  g__law_plus : mg "_law_plus" = some (.ref a.f__law_plus)
  F__law_any_line : Fun K "_law_any_line" "_law_any_line" s__law_any_line a.f__law_any_line a.d__law_any_line
  b__law_any_line : Binds K a.d__law_any_line ["_law_pot_here", "_law_points_here"] []
  g__law_any_line : mg "_law_any_line" = some (.ref a.f__law_any_line)
  F__law_cell : Fun K "_law_cell" "_law_cell" s__law_cell a.f__law_cell a.d__law_cell
  b__law_cell : Binds K a.d__law_cell ["_law_script", "_law_k"] []
  g__law_cell : mg "_law_cell" = some (.ref a.f__law_cell)
  F__law_pot : Fun K "_law_pot" "_law_pot" s__law_pot a.f__law_pot a.d__law_pot
  b__law_pot : Binds K a.d__law_pot ["_law_cell_here"] []
  g__law_pot : mg "_law_pot" = some (.ref a.f__law_pot)
  F__law_above_nought : Fun K "_law_above_nought" "_law_above_nought" s__law_above_nought a.f__law_above_nought a.d__law_above_nought
  b__law_above_nought : Binds K a.d__law_above_nought ["_law_pot_here"] []
  g__law_above_nought : mg "_law_above_nought" = some (.ref a.f__law_above_nought)
  F__law_spot : Fun K "_law_spot" "_law_spot" s__law_spot a.f__law_spot a.d__law_spot
  b__law_spot : Binds K a.d__law_spot ["_law_pot_here", "_law_manner", "_law_line_here"] []
  g__law_spot : mg "_law_spot" = some (.ref a.f__law_spot)
  F__law_points : Fun K "_law_points" "_law_points" s__law_points a.f__law_points a.d__law_points
  b__law_points : Binds K a.d__law_points ["_law_pot_here", "_law_most"] []
  g__law_points : mg "_law_points" = some (.ref a.f__law_points)
  F__law_stand : Fun K "_law_stand" "_law_stand" s__law_stand a.f__law_stand a.d__law_stand
  b__law_stand : Binds K a.d__law_stand ["_law_line_here", "_law_x"] []
  g__law_stand : mg "_law_stand" = some (.ref a.f__law_stand)
  F__law_rise : Fun K "_law_rise" "_law_rise" s__law_rise a.f__law_rise a.d__law_rise
  b__law_rise : Binds K a.d__law_rise ["_law_point", "_law_line_here"] []
  g__law_rise : mg "_law_rise" = some (.ref a.f__law_rise)
  F__law_line : Fun K "_law_line" "_law_line" s__law_line a.f__law_line a.d__law_line
  b__law_line : Binds K a.d__law_line ["_law_pot_here", "_law_points_here"] []
  g__law_line : mg "_law_line" = some (.ref a.f__law_line)
  F__law_is_fraction : Fun K "_law_is_fraction" "_law_is_fraction" s__law_is_fraction a.f__law_is_fraction a.d__law_is_fraction
  b__law_is_fraction : Binds K a.d__law_is_fraction ["_law_found"] []
  g__law_is_fraction : mg "_law_is_fraction" = some (.ref a.f__law_is_fraction)
  F__law_sums : Fun K "_law_sums" "_law_sums" s__law_sums a.f__law_sums a.d__law_sums
  b__law_sums : Binds K a.d__law_sums ["_law_points_here", "_law_line_here"] []
  g__law_sums : mg "_law_sums" = some (.ref a.f__law_sums)
  F__law_upside : Fun K "_law_upside" "_law_upside" s__law_upside a.f__law_upside a.d__law_upside
  b__law_upside : Binds K a.d__law_upside ["_law_points_here"] []
  g__law_upside : mg "_law_upside" = some (.ref a.f__law_upside)
  F__law_right : Fun K "_law_right" "_law_right" s__law_right a.f__law_right a.d__law_right
  b__law_right : Binds K a.d__law_right ["_law_points_here", "_law_line_here", "_law_at"] []
  g__law_right : mg "_law_right" = some (.ref a.f__law_right)
  F_law : Fun K "law" "law" s_law a.f_law a.d_law
  b_law : Binds K a.d_law ["_law_script"] []
  g_law : mg "law" = some (.ref a.f_law)
  c_LineError : mg "LineError" = some (.ref a.C_LineError)
  s_LineError : PySem.W.subIn K (.ref a.C_LineError) (.type "BaseException") = some true
  t_LineError : PySem.W.typeIn K (.ref a.C_LineError) = some (.type "type")
  i_LineError : PySem.W.isClsIn K a.C_LineError = true
  h_LineError : PySem.W.hasDictIn K a.C_LineError = true
  u_NoPoints_LineError : PySem.W.subIn K (.ref a.C_NoPoints) (.ref a.C_LineError) = some true
  u_NoLine_LineError : PySem.W.subIn K (.ref a.C_NoLine) (.ref a.C_LineError) = some true
  c_NoPoints : mg "NoPoints" = some (.ref a.C_NoPoints)
  x_NoPoints : PySem.W.excIn K a.C_NoPoints [.type "ValueError", .type "Exception", .type "BaseException", .type "object"] "ValueError.__new__" = true
  k_NoPoints : PySem.W.keepIn K (.ref a.C_NoPoints) = true
  e_NoPoints : ExcC K a.C_NoPoints
  kv_NoPoints : PySem.W.subIn K (.ref a.C_NoPoints) (.type "ValueError") = some true
  s_NoPoints : PySem.W.subIn K (.ref a.C_NoPoints) (.type "BaseException") = some true
  t_NoPoints : PySem.W.typeIn K (.ref a.C_NoPoints) = some (.type "type")
  i_NoPoints : PySem.W.isClsIn K a.C_NoPoints = true
  h_NoPoints : PySem.W.hasDictIn K a.C_NoPoints = true
  u_NoPoints_NoPoints : PySem.W.subIn K (.ref a.C_NoPoints) (.ref a.C_NoPoints) = some true
  u_NoLine_NoPoints : PySem.W.subIn K (.ref a.C_NoLine) (.ref a.C_NoPoints) = some false
  c_NoLine : mg "NoLine" = some (.ref a.C_NoLine)
  x_NoLine : PySem.W.excIn K a.C_NoLine [.type "ValueError", .type "Exception", .type "BaseException", .type "object"] "ValueError.__new__" = true
  k_NoLine : PySem.W.keepIn K (.ref a.C_NoLine) = true
  e_NoLine : ExcC K a.C_NoLine
  kv_NoLine : PySem.W.subIn K (.ref a.C_NoLine) (.type "ValueError") = some true
  s_NoLine : PySem.W.subIn K (.ref a.C_NoLine) (.type "BaseException") = some true
  t_NoLine : PySem.W.typeIn K (.ref a.C_NoLine) = some (.type "type")
  i_NoLine : PySem.W.isClsIn K a.C_NoLine = true
  h_NoLine : PySem.W.hasDictIn K a.C_NoLine = true
  u_NoPoints_NoLine : PySem.W.subIn K (.ref a.C_NoPoints) (.ref a.C_NoLine) = some false
  u_NoLine_NoLine : PySem.W.subIn K (.ref a.C_NoLine) (.ref a.C_NoLine) = some true
  z_isinstance : mg "isinstance" = none
  z_int : mg "int" = none
  z_bool : mg "bool" = none
  z_tuple : mg "tuple" = none
  z_len : mg "len" = none
  z_all : mg "all" = none
  z_list : mg "list" = none
  z_max : mg "max" = none
  z_abs : mg "abs" = none
  z_divmod : mg "divmod" = none
  z_range : mg "range" = none
  z_min : mg "min" = none
  z_any : mg "any" = none
  i_gcd : mg "gcd" = some (.builtin "math.gcd")
  v_NOUGHT : ∃ u, mg "NOUGHT" = some u ∧ RelV (.ref a.c_NOUGHT) u
  w_NOUGHT : ∀ H, SqT K H a.c_NOUGHT [.int 0, .int 1]
  v_MOST_POINTS : ∃ u, mg "MOST_POINTS" = some u ∧ RelV (.int 12) u
section
variable {P : Program} {w : World} {K : PySem.W.Frag} {mg : Str → Option Value} {base : Heap} {a : Ad}
def sp_made (K : PySem.W.Frag) (a : Ad) : Sp := fun vs H Q E => ∃ t b : Int, vs = [.int t, .int b] ∧ (b ≠ 0 ∧ b.natAbs < 2 ^ 8990) ∧ ∀ v H', Sm H H' → Fr K H' v (Rat.divInt t b) → Q v H'
theorem ok_made (T : Txt K mg a) (B : Tbs base mg a) : FnOk P w K mg base (L2.CX P w) 2 a.f_made a.d_made ["top", "bottom"] (sp_made K a) := by
  refine T.F_made.okX sc_made (fun vs H Q E h => ?_) (fun cdv A outer s H vs Q E hr h => ?_)
  · obtain ⟨t, b, rfl, ⟨hb, hs⟩, k⟩ := h
    rfl
  · have hu := hu64 hr
    obtain ⟨t, b, rfl, ⟨hb, hs⟩, k⟩ := h
    refine ⟨_, (pss_cons (ps_set (i := 2) sc_made.nd rfl (by first | exact Or.inl rfl | exact Or.inr rfl) (pe_callBfun cr_gcd (by rfl) T.i_gcd (pa_cons (pv 0) (pa_cons (pv 1) pa_nil))))
    (pss_cons (ps_if (pt_cmpR op_lt (pv 1) pe_int (nomark _)) (pss_one (ps_set (i := 2) sc_made.nd rfl (by first | exact Or.inl rfl | exact Or.inr rfl) (pe_un un_neg (pv 2)))) pss_nil)
    (pss_one (ps_ret (pe_tup (pa_cons (pe_op op_fdivX (pv 0) (pv 2)) (pa_cons (pe_op op_fdivX (pv 1) (pv 2)) pa_nil))))))), ?_⟩
    repeat walk_at "rd"
    by_cases hn : b < 0
    · refine iteP (decide_eq_true hn) ?_
      have e := dv_of_neg (t := t) hn
      repeat walk_at "rd"
      rw [e]
      refine rd_fd (dv_ne hb) (dv_lt hb hs) ?_
      repeat walk_at "rd"
      refine rd_fd (dv_ne hb) (dv_lt hb hs) ?_
      repeat walk_at "rd"
      refine rd_mk le2 fun p H1 hp s1 hx => ?_
      rw [num_dv hb, den_dv hb] at hx
      exact k _ _ s1 ⟨p, rfl, SqT.of hx⟩
    · refine iteN (decide_eq_false hn) ?_
      have e := dv_of_pos (t := t) hn
      repeat walk_at "rd"
      rw [e]
      refine rd_fd (dv_ne hb) (dv_lt hb hs) ?_
      repeat walk_at "rd"
      refine rd_fd (dv_ne hb) (dv_lt hb hs) ?_
      repeat walk_at "rd"
      refine rd_mk le2 fun p H1 hp s1 hx => ?_
      rw [num_dv hb, den_dv hb] at hx
      exact k _ _ s1 ⟨p, rfl, SqT.of hx⟩
def sp_added (K : PySem.W.Frag) (a : Ad) : Sp := fun vs H Q E => ∃ v w q r, vs = [v, w] ∧ Fr K H v q ∧ Fr K H w r ∧ SzP q r ∧ ∀ x H', Sm H H' → Fr K H' x (q + r) → Q x H'
theorem ok_added (T : Txt K mg a) (B : Tbs base mg a) : FnOk P w K mg base (L2.CX P w) 3 a.f_added a.d_added ["one", "other"] (sp_added K a) := by
  refine T.F_added.okX sc_added (fun vs H Q E h => ?_) (fun cdv A outer s H vs Q E hr h => ?_)
  · obtain ⟨v, w, q, r, rfl, hv, hw, zz, k⟩ := h
    rfl
  · have hu := hu64 hr
    obtain ⟨v, w, q, r, rfl, hv, hw, zz, k⟩ := h
    refine ⟨_, (pss_one (ps_ret (pe_callS (ok_made T B) (hr.mono (by decide)) (by rfl) T.g_made T.F_made.kp T.b_made (fun σ => passAt (takes_of rfl rfl rfl rfl) σ) (by exact (pa_cons (pe_op (op_addA K) (pe_op op_mulW (pe_ix (ix_any K) (pv 0) pe_int (fun _ _ => rfl)) (pe_ix (ix_any K) (pv 1) pe_int (fun _ _ => rfl))) (pe_op op_mulW (pe_ix (ix_any K) (pv 1) pe_int (fun _ _ => rfl)) (pe_ix (ix_any K) (pv 0) pe_int (fun _ _ => rfl)))) (pa_cons (pe_op op_mulW (pe_ix (ix_any K) (pv 0) pe_int (fun _ _ => rfl)) (pe_ix (ix_any K) (pv 1) pe_int (fun _ _ => rfl))) pa_nil)))))), ?_⟩
    repeat walk_at "rd"
    refine rd_mul zz.nd ?_
    repeat walk_at "rd"
    refine rd_mul zz.nd2 ?_
    repeat walk_at "rd"
    refine rd_mul zz.de ?_
    repeat walk_at "rd"
    refine ⟨_, _, rfl, ⟨Int.mul_ne_zero (den_ne q) (den_ne r), zz.lt⟩, fun x H1 s1 hx => ?_⟩
    rw [add_as] at hx
    exact k x H1 s1 hx
def sp_subtracted (K : PySem.W.Frag) (a : Ad) : Sp := fun vs H Q E => ∃ v w q r, vs = [v, w] ∧ Fr K H v q ∧ Fr K H w r ∧ SzP q r ∧ ∀ x H', Sm H H' → Fr K H' x (q - r) → Q x H'
theorem ok_subtracted (T : Txt K mg a) (B : Tbs base mg a) : FnOk P w K mg base (L2.CX P w) 3 a.f_subtracted a.d_subtracted ["one", "other"] (sp_subtracted K a) := by
  refine T.F_subtracted.okX sc_subtracted (fun vs H Q E h => ?_) (fun cdv A outer s H vs Q E hr h => ?_)
  · obtain ⟨v, w, q, r, rfl, hv, hw, zz, k⟩ := h
    rfl
  · have hu := hu64 hr
    obtain ⟨v, w, q, r, rfl, hv, hw, zz, k⟩ := h
    refine ⟨_, (pss_one (ps_ret (pe_callS (ok_made T B) (hr.mono (by decide)) (by rfl) T.g_made T.F_made.kp T.b_made (fun σ => passAt (takes_of rfl rfl rfl rfl) σ) (by exact (pa_cons (pe_op op_sub (pe_op op_mulW (pe_ix (ix_any K) (pv 0) pe_int (fun _ _ => rfl)) (pe_ix (ix_any K) (pv 1) pe_int (fun _ _ => rfl))) (pe_op op_mulW (pe_ix (ix_any K) (pv 1) pe_int (fun _ _ => rfl)) (pe_ix (ix_any K) (pv 0) pe_int (fun _ _ => rfl)))) (pa_cons (pe_op op_mulW (pe_ix (ix_any K) (pv 0) pe_int (fun _ _ => rfl)) (pe_ix (ix_any K) (pv 1) pe_int (fun _ _ => rfl))) pa_nil)))))), ?_⟩
    repeat walk_at "rd"
    refine rd_mul zz.nd ?_
    repeat walk_at "rd"
    refine rd_mul zz.nd2 ?_
    repeat walk_at "rd"
    refine rd_mul zz.de ?_
    repeat walk_at "rd"
    refine ⟨_, _, rfl, ⟨Int.mul_ne_zero (den_ne q) (den_ne r), zz.lt⟩, fun x H1 s1 hx => ?_⟩
    rw [sub_as] at hx
    exact k x H1 s1 hx
def sp_multiplied (K : PySem.W.Frag) (a : Ad) : Sp := fun vs H Q E => ∃ v w q r, vs = [v, w] ∧ Fr K H v q ∧ Fr K H w r ∧ SzP q r ∧ ∀ x H', Sm H H' → Fr K H' x (q * r) → Q x H'
theorem ok_multiplied (T : Txt K mg a) (B : Tbs base mg a) : FnOk P w K mg base (L2.CX P w) 3 a.f_multiplied a.d_multiplied ["one", "other"] (sp_multiplied K a) := by
  refine T.F_multiplied.okX sc_multiplied (fun vs H Q E h => ?_) (fun cdv A outer s H vs Q E hr h => ?_)
  · obtain ⟨v, w, q, r, rfl, hv, hw, zz, k⟩ := h
    rfl
  · have hu := hu64 hr
    obtain ⟨v, w, q, r, rfl, hv, hw, zz, k⟩ := h
    refine ⟨_, (pss_one (ps_ret (pe_callS (ok_made T B) (hr.mono (by decide)) (by rfl) T.g_made T.F_made.kp T.b_made (fun σ => passAt (takes_of rfl rfl rfl rfl) σ) (by exact (pa_cons (pe_op op_mulW (pe_ix (ix_any K) (pv 0) pe_int (fun _ _ => rfl)) (pe_ix (ix_any K) (pv 1) pe_int (fun _ _ => rfl))) (pa_cons (pe_op op_mulW (pe_ix (ix_any K) (pv 0) pe_int (fun _ _ => rfl)) (pe_ix (ix_any K) (pv 1) pe_int (fun _ _ => rfl))) pa_nil)))))), ?_⟩
    repeat walk_at "rd"
    refine rd_mul zz.nn ?_
    repeat walk_at "rd"
    refine rd_mul zz.de ?_
    repeat walk_at "rd"
    refine ⟨_, _, rfl, ⟨Int.mul_ne_zero (den_ne q) (den_ne r), zz.lt⟩, fun x H1 s1 hx => ?_⟩
    rw [mul_as] at hx
    exact k x H1 s1 hx
def sp_is_whole (K : PySem.W.Frag) (a : Ad) : Sp := fun vs H Q E => ∃ x t b, vs = [x] ∧ TyX K H x (.type t) ∧ WholeT t b ∧ Q (.bl b) H
theorem ok_is_whole (T : Txt K mg a) (B : Tbs base mg a) : FnOk P w K mg base (L2.CX P w) 2 a.f_is_whole a.d_is_whole ["thing"] (sp_is_whole K a) := by
  refine T.F_is_whole.okX sc_is_whole (fun vs H Q E h => ?_) (fun cdv A outer s H vs Q E hr h => ?_)
  · obtain ⟨x, t, b, rfl, ty, ⟨b1, b2, e1, e2, rfl⟩, k⟩ := h
    rfl
  · have hu := hu64 hr
    obtain ⟨x, t, b, rfl, ty, ⟨b1, b2, e1, e2, rfl⟩, k⟩ := h
    refine ⟨_, (pss_one (ps_ret (pe_and (pe_callB (my_isi K) (by rfl) T.z_isinstance bt_isinstance (pa_cons (pv 0) (pa_cons (my_ty "int" T.z_int) pa_nil))) (pe_one (pe_not (pe_callB (my_isi K) (by rfl) T.z_isinstance bt_isinstance (pa_cons (pv 0) (pa_cons (my_ty "bool" T.z_bool) pa_nil)))))))), ?_⟩
    repeat walk_at "rd"
    refine rd_isi ty e1 ?_
    refine rd_bl ?_
    cases b1 with
    | false => exact iteN rfl k
    | true =>
      refine iteP rfl ?_
      repeat walk_at "rd"
      refine rd_isi ty e2 ?_
      exact rd_bl k
def sp_is_fraction (K : PySem.W.Frag) (a : Ad) : Sp := fun vs H Q E => ∃ x b, vs = [x] ∧ IsFrB K H x b ∧ Q (.bl b) H
theorem ok_is_fraction (T : Txt K mg a) (B : Tbs base mg a) : FnOk P w K mg base (L2.CX P w) 3 a.f_is_fraction a.d_is_fraction ["thing"] (sp_is_fraction K a) := by
  refine T.F_is_fraction.okX sc_is_fraction (fun vs H Q E h => ?_) (fun cdv A outer s H vs Q E hr h => ?_)
  · obtain ⟨x, b, rfl, hx, k⟩ := h
    rfl
  · have hu := hu64 hr
    obtain ⟨x, b, rfl, hx, k⟩ := h
    refine ⟨_, (pss_cons (ps_if ((pw_or (pt_not (my_truth K (pe_callB (my_isi K) (by rfl) T.z_isinstance bt_isinstance (pa_cons (pv 0) (pa_cons (my_ty "tuple" T.z_tuple) pa_nil))))) (pw_or1 (pt_cmpR (op_neA K (by exact hu)) (pe_callB (call_lenA K) (by rfl) T.z_len bt_len (pa_cons (pv 0) pa_nil)) pe_int (nomark _))))).pt (pss_one (ps_ret pe_bl)) pss_nil)
    (pss_cons (ps_asg (pv 0) (my_gtup K 2 rfl (pgs_cons (pg_name (i := 1) sc_is_fraction.nd rfl (by first | exact Or.inl rfl | exact Or.inr rfl)) (pgs_cons (pg_name (i := 2) sc_is_fraction.nd rfl (by first | exact Or.inl rfl | exact Or.inr rfl)) pgs_nil))))
    (pss_one (ps_ret (pe_and (pe_callS (ok_is_whole T B) (hr.mono (by decide)) (by rfl) T.g_is_whole T.F_is_whole.kp T.b_is_whole (fun σ => passAt (takes_of rfl rfl rfl rfl) σ) (by exact (pa_cons (pv 1) pa_nil))) (pe_and (pe_callS (ok_is_whole T B) (hr.mono (by decide)) (by rfl) T.g_is_whole T.F_is_whole.kp T.b_is_whole (fun σ => passAt (takes_of rfl rfl rfl rfl) σ) (by exact (pa_cons (pv 2) pa_nil))) (pe_and (pe_cmpR op_ge (pv 2) pe_int (nomark _)) (pe_one (pe_cmpR (op_eqA K (by exact hu)) (pe_callBfun cr_gcd (by rfl) T.i_gcd (pa_cons (pv 1) (pa_cons (pv 2) pa_nil))) pe_int (nomark _)))))))))), ?_⟩
    repeat walk_at "rd"
    cases hx with
    | no ty e =>
      refine rd_isi ty e ?_
      repeat walk_at "rd"
      refine iteP rfl ?_
      refine iteP rfl ?_
      repeat walk_at "rd"
      exact k
    | @len p xs h e =>
      refine rd_isi (sqt_ty h) (by decide +kernel : kitB "tuple" "tuple" = some true) ?_
      repeat walk_at "rd"
      refine iteN rfl ?_
      repeat walk_at "rd"
      refine rd_lenT h ?_
      repeat walk_at "rd"
      refine iteP (by simp; omega) ?_
      repeat walk_at "rd"
      exact k
    | @fst p x y t h ty e2 =>
      refine rd_isi (sqt_ty h) (by decide +kernel : kitB "tuple" "tuple" = some true) ?_
      repeat walk_at "rd"
      refine iteN rfl ?_
      repeat walk_at "rd"
      refine rd_lenT h ?_
      repeat walk_at "rd"
      refine iteN rfl ?_
      repeat walk_at "rd"
      refine rd_gtup h rfl ?_
      repeat walk_at "rd"
      refine ⟨_, t, false, rfl, ty, e2, ?_⟩
      refine rd_bl ?_
      refine iteN rfl ?_
      exact k
    | @snd p i y t h ty e2 =>
      refine rd_isi (sqt_ty h) (by decide +kernel : kitB "tuple" "tuple" = some true) ?_
      repeat walk_at "rd"
      refine iteN rfl ?_
      repeat walk_at "rd"
      refine rd_lenT h ?_
      repeat walk_at "rd"
      refine iteN rfl ?_
      repeat walk_at "rd"
      refine rd_gtup h rfl ?_
      repeat walk_at "rd"
      refine ⟨_, "int", true, rfl, ty_int i, whole_int, ?_⟩
      refine rd_bl ?_
      refine iteP rfl ?_
      repeat walk_at "rd"
      refine ⟨_, t, false, rfl, ty, e2, ?_⟩
      refine rd_bl ?_
      refine iteN rfl ?_
      exact k
    | @two p i j h =>
      refine rd_isi (sqt_ty h) (by decide +kernel : kitB "tuple" "tuple" = some true) ?_
      repeat walk_at "rd"
      refine iteN rfl ?_
      repeat walk_at "rd"
      refine rd_lenT h ?_
      repeat walk_at "rd"
      refine iteN rfl ?_
      repeat walk_at "rd"
      refine rd_gtup h rfl ?_
      repeat walk_at "rd"
      refine ⟨_, "int", true, rfl, ty_int i, whole_int, ?_⟩
      refine rd_bl ?_
      refine iteP rfl ?_
      repeat walk_at "rd"
      refine ⟨_, "int", true, rfl, ty_int j, whole_int, ?_⟩
      refine rd_bl ?_
      refine iteP rfl ?_
      repeat walk_at "rd"
      by_cases hj : 1 ≤ j
      · refine iteP (decide_eq_true hj) ?_
        repeat walk_at "rd"
        rw [decide_eq_true hj, Bool.true_and] at k
        exact k
      · refine iteN (decide_eq_false hj) ?_
        rw [decide_eq_false hj, Bool.false_and] at k
        exact k
def sp_is_row (K : PySem.W.Frag) (a : Ad) : Sp := fun vs H Q E => ∃ v b, ∃ many : Nat, vs = [v, .int many] ∧ TG a H ∧ many ≤ 1000 ∧ IsRowB K H many v b ∧ ∀ H', Sm H H' → Q (.bl b) H'
theorem ok_is_row (T : Txt K mg a) (B : Tbs base mg a) : FnOk P w K mg base (L2.CX P w) 5 a.f_is_row a.d_is_row ["thing", "many"] (sp_is_row K a) := by
  refine T.L_is_row.okC sc_is_row (fun vs H Q E h => ?_) (fun A outer s H vs Q E hr h => ?_)
  · obtain ⟨v, b, many, rfl, tg, hm, hv, k⟩ := h
    rfl
  · have hu := hu64 hr
    obtain ⟨v, b, many, rfl, tg, hm, hv, k⟩ := h
    refine ⟨_, (pss_one (ps_ret (pe_and (pe_callB (my_isi K) (by rfl) T.z_isinstance bt_isinstance (pa_cons (pv 0) (pa_cons (my_ty "tuple" T.z_tuple) pa_nil))) (pe_and (pe_cmpR (op_eqA K (by exact hu)) (pe_callB (call_lenA K) (by rfl) T.z_len bt_len (pa_cons (pv 0) pa_nil)) (pv 1) (nomark _)) (pe_one (Gx.pe_all (own := [("part", 2)]) hr (by rfl) T.z_all bt_all rfl sc_is_row.nd B.t_is_row rfl (blkOk_by (N := N_is_row) (sc := defScope s_is_row) (by decide +kernel)) rfl (by decide +kernel) rfl (my_itup K (pv 0)) (fun _ _ _ _ _ _ => (pg_name (i := 2) sc_is_row.nd rfl (by first | exact Or.inl rfl | exact Or.inr rfl))) (fun _ _ _ _ _ _ hrG => (pe_call (ok_is_fraction T B) (hrG.mono (by decide)) (by rfl) T.g_is_fraction T.F_is_fraction.kp T.b_is_fraction .nil passL (pa_cons (pv 2) pa_nil))) (fun _ => rfl))))))), ?_⟩
    repeat walk_at "rd"
    cases hv with
    | no ty e =>
      refine rd_isi ty e ?_
      repeat walk_at "rd"
      refine iteN rfl ?_
      exact k _ (.refl _)
    | @len aa xs h e =>
      refine rd_isi (b := true) (sqt_ty h) (by decide +kernel) ?_
      repeat walk_at "rd"
      refine iteP rfl ?_
      repeat walk_at "rd"
      refine rd_lenT h ?_
      repeat walk_at "rd"
      refine iteN (by simp; omega) ?_
      exact k _ (.refl _)
    | @all aa xs bs h e f =>
      refine rd_isi (b := true) (sqt_ty h) (by decide +kernel) ?_
      repeat walk_at "rd"
      refine iteP rfl ?_
      repeat walk_at "rd"
      refine rd_lenT h ?_
      repeat walk_at "rd"
      refine iteP (by simp; omega) ?_
      repeat walk_at "rd"
      refine rd_gxT rfl h (nth bs) tg.t_is_row (fun _ => rfl) (fun i x H2 hx s2 Q' hq => ?_) (fun H2 s2 all => ?_) (fun H2 i s2 hi hf => ?_)
      · obtain ⟨b, hb, ib⟩ := f.get hx
        repeat walk_at "rd"
        refine ⟨x, b, rfl, ib.sm s2, ?_⟩
        rw [nth_of hb] at hq
        exact hq _ (.refl _)
      · rw [all_nth (fun i hi => all i (by rw [← f.len]; exact hi))] at k
        exact k _ s2
      · rw [not_all_nth (by rw [f.len]; exact hi) hf] at k
        exact k _ s2
theorem wd_split {K : PySem.W.Frag} {H : Hp} : ∀ {xs : List V} {bs : List Bool}, Each (IsPtB K H) xs bs → ∃ rb, Each (IsRowB K H 3) xs rb ∧ ((rb.all id = false ∧ bs.all id = false) ∨ (rb.all id = true ∧ ∃ ps : List P3, Each (Pt K H) xs ps ∧ bs = ps.map fun p => decide (0 < p.2.2)))
  | _, _, .nil => ⟨[], .nil, .inr ⟨rfl, [], .nil, rfl⟩⟩
  | _, _, .cons h r => by
    obtain ⟨rb, hr, q⟩ := wd_split r
    cases h with
    | bad h =>
      refine ⟨false :: rb, .cons h hr, .inl ⟨rfl, rfl⟩⟩
    | @full p h =>
      refine ⟨true :: rb, .cons h.is hr, ?_⟩
      rcases q with ⟨q1, q2⟩ | ⟨q1, ps, q2, rfl⟩
      · refine .inl ⟨by rw [List.all_cons, q1, Bool.and_false], by rw [List.all_cons, q2, Bool.and_false]⟩
      · exact .inr ⟨by rw [List.all_cons, q1]; rfl, p :: ps, .cons h q2, rfl⟩
def sp_are_rows (K : PySem.W.Frag) (a : Ad) : Sp := fun vs H Q E => ∃ v, ∃ most : Nat, ∃ many : Nat, vs = [v, .int most, .int many] ∧ TG a H ∧ many ≤ 1000 ∧ ((∃ t, TyX K H v (.type t) ∧ kitB t "list" = some false ∧ Q (.bl false) H) ∨ (∃ aa xs, v = .ref aa ∧ SqL K H aa xs ∧ ((¬ (1 ≤ xs.length ∧ xs.length ≤ most) ∧ Q (.bl false) H) ∨ (1 ≤ xs.length ∧ xs.length ≤ most ∧ ∃ bs, Each (IsRowB K H many) xs bs ∧ ∀ H', Sm H H' → Q (.bl (bs.all id)) H'))))
theorem ok_are_rows (T : Txt K mg a) (B : Tbs base mg a) : FnOk P w K mg base (L2.CX P w) 7 a.f_are_rows a.d_are_rows ["thing", "most", "many"] (sp_are_rows K a) := by
  refine T.L_are_rows.okC sc_are_rows (fun vs H Q E h => ?_) (fun A outer s H vs Q E hr h => ?_)
  · obtain ⟨v, most, many, rfl, tg, hm, k⟩ := h
    rfl
  · have hu := hu64 hr
    obtain ⟨v, most, many, rfl, tg, hm, k⟩ := h
    refine ⟨_, (pss_cons (ps_if ((pw_or (pt_not (my_truth K (pe_callB (my_isi K) (by rfl) T.z_isinstance bt_isinstance (pa_cons (pv 0) (pa_cons (my_ty "list" T.z_list) pa_nil))))) (pw_or1 (pt_not (pt_chain op_le op_le pe_int (pe_callB (call_lenA K) (by rfl) T.z_len bt_len (pa_cons (pv 0) pa_nil)) (pv 1)))))).pt (pss_one (ps_ret pe_bl)) pss_nil)
    (pss_one (ps_ret (Gx.pe_all (own := [("part", 3)]) hr (by rfl) T.z_all bt_all rfl sc_are_rows.nd B.t_are_rows rfl (blkOk_by (N := N_are_rows) (sc := defScope s_are_rows) (by decide +kernel)) rfl (by decide +kernel) rfl (my_ilist K (pv 0)) (fun _ _ _ _ _ _ => (pg_name (i := 3) sc_are_rows.nd rfl (by first | exact Or.inl rfl | exact Or.inr rfl))) (fun _ _ _ _ _ _ hrG => (pe_call (ok_is_row T B) (hrG.mono (by decide)) (by rfl) T.g_is_row T.F_is_row.kp T.b_is_row .nil passL (pa_cons (pv 3) (pa_cons (pv 2) pa_nil)))) (fun _ => rfl))))), ?_⟩
    repeat walk_at "rd"
    rcases k with ⟨t, ty, e, k⟩ | ⟨aa, xs, rfl, h, ⟨e, k⟩ | ⟨e1, e2, bs, f, k⟩⟩
    · refine rd_isi ty e ?_
      repeat walk_at "rd"
      refine iteP rfl ?_
      refine iteP rfl ?_
      repeat walk_at "rd"
      exact k
    · refine rd_isi (b := true) (sql_ty h) (by decide +kernel) ?_
      repeat walk_at "rd"
      refine iteN rfl ?_
      repeat walk_at "rd"
      refine rd_lenL h ?_
      repeat walk_at "rd"
      by_cases h1 : 1 ≤ xs.length
      · refine iteP (decide_eq_true (by omega)) ?_
        repeat walk_at "rd"
        refine iteP (by simp; omega) ?_
        repeat walk_at "rd"
        exact k
      · refine iteN (decide_eq_false (by omega)) ?_
        repeat walk_at "rd"
        refine iteP rfl ?_
        repeat walk_at "rd"
        exact k
    · refine rd_isi (b := true) (sql_ty h) (by decide +kernel) ?_
      repeat walk_at "rd"
      refine iteN rfl ?_
      repeat walk_at "rd"
      refine rd_lenL h ?_
      repeat walk_at "rd"
      refine iteP (decide_eq_true (by omega)) ?_
      repeat walk_at "rd"
      refine iteN (by simp; omega) ?_
      repeat walk_at "rd"
      refine rd_gxL rfl h (nth bs) tg.t_are_rows (fun _ => rfl) (fun i x H2 hx s2 Q' hq => ?_) (fun H2 s2 all => ?_) (fun H2 i s2 hi hf => ?_)
      · obtain ⟨b, hb, ib⟩ := f.get hx
        repeat walk_at "rd"
        refine ⟨x, b, many, rfl, tg.up s2, hm, ib.sm s2, fun H3 s3 => ?_⟩
        rw [nth_of hb] at hq
        exact hq _ s3
      · rw [all_nth (fun i hi => all i (by rw [← f.len]; exact hi))] at k
        exact k _ s2
      · rw [not_all_nth (by rw [f.len]; exact hi) hf] at k
        exact k _ s2
def sp_are_weighed (K : PySem.W.Frag) (a : Ad) : Sp := fun vs H Q E => ∃ v b, vs = [v, .int 12, .int 3] ∧ TG a H ∧ IsPtsB K H v b ∧ ∀ H', Sm H H' → Q (.bl b) H'
theorem ok_are_weighed (T : Txt K mg a) (B : Tbs base mg a) : FnOk P w K mg base (L2.CX P w) 8 a.f_are_weighed a.d_are_weighed ["thing", "most", "many"] (sp_are_weighed K a) := by
  refine T.L_are_weighed.okC sc_are_weighed (fun vs H Q E h => ?_) (fun A outer s H vs Q E hr h => ?_)
  · obtain ⟨v, b, rfl, tg, hv, k⟩ := h
    rfl
  · have hu := hu64 hr
    obtain ⟨v, b, rfl, tg, hv, k⟩ := h
    refine ⟨_, (pss_one (ps_ret (pe_and (pe_callS (ok_are_rows T B) (hr.mono (by decide)) (by rfl) T.g_are_rows T.F_are_rows.kp T.b_are_rows (fun σ => passAt (takes_of rfl rfl rfl rfl) σ) (by exact (pa_cons (pv 0) (pa_cons (pv 1) (pa_cons (pv 2) pa_nil))))) (pe_one (Gx.pe_all (own := [("row", 3)]) hr (by rfl) T.z_all bt_all rfl sc_are_weighed.nd B.t_are_weighed rfl (blkOk_by (N := N_are_weighed) (sc := defScope s_are_weighed) (by decide +kernel)) rfl (by decide +kernel) rfl (my_ilist K (pv 0)) (fun _ _ _ _ _ _ => (pg_name (i := 3) sc_are_weighed.nd rfl (by first | exact Or.inl rfl | exact Or.inr rfl))) (fun _ _ _ _ _ _ hrG => (pe_cmpR op_gt (pe_ix (ix_any K) (pe_ix (ix_any K) (pv 3) (pe_un un_neg pe_int) (fun _ _ => rfl)) pe_int (fun _ _ => rfl)) pe_int (nomark _))) (fun _ => rfl)))))), ?_⟩
    repeat walk_at "rd"
    refine ⟨v, 12, 3, rfl, tg, by decide, ?_⟩
    cases hv with
    | no ty e =>
      refine .inl ⟨_, ty, e, ?_⟩
      refine rd_bl ?_
      refine iteN rfl ?_
      exact k _ (.refl _)
    | @len aa xs h e =>
      refine .inr ⟨aa, xs, rfl, h, .inl ⟨e, ?_⟩⟩
      refine rd_bl ?_
      refine iteN rfl ?_
      exact k _ (.refl _)
    | @all aa xs bs h e f =>
      obtain ⟨rb, hr2, q⟩ := wd_split f
      refine .inr ⟨aa, xs, rfl, h, .inr ⟨e.1, e.2, rb, hr2, fun H1 s1 => ?_⟩⟩
      refine rd_bl ?_
      rcases q with ⟨q1, q2⟩ | ⟨q1, ps, q2, rfl⟩
      · refine iteN q1 ?_
        rw [q2] at k
        exact k _ s1
      · refine iteP q1 ?_
        repeat walk_at "rd"
        refine rd_gxL rfl (s1.sql h) (nth (ps.map fun p => decide (0 < p.2.2))) (tg.up s1).t_are_weighed (fun _ => rfl) (fun i x H2 hx s2 Q' hq => ?_) (fun H2 s2 all => ?_) (fun H2 i s2 hi hf => ?_)
        · obtain ⟨p, hp, hpt⟩ := q2.get hx
          rw [nth_of (b := decide (0 < p.2.2)) (by rw [List.getElem?_map, hp]; rfl)] at hq
          obtain ⟨ap, vx, vy, vw, rfl, hs, w1, w2, w3⟩ := hpt.sm (s1.trans s2)
          repeat walk_at "rd"
          have e : decide (p.2.2.num > 0) = decide (0 < p.2.2) := decide_eq_decide.mpr (by rw [← num_pos])
          rw [e]
          exact hq _ (.refl _)
        · rw [all_nth (fun i hi => all i (by rw [← q2.len]; simpa using hi))] at k
          exact k _ (s1.trans s2)
        · rw [not_all_nth (by simpa [q2.len] using hi) hf] at k
          exact k _ (s1.trans s2)
def sp_is_points (K : PySem.W.Frag) (a : Ad) : Sp := fun vs H Q E => ∃ v b, vs = [v] ∧ TG a H ∧ IsPtsB K H v b ∧ ∀ H', Sm H H' → Q (.bl b) H'
theorem ok_is_points (T : Txt K mg a) (B : Tbs base mg a) : FnOk P w K mg base (L2.CX P w) 9 a.f_is_points a.d_is_points ["thing"] (sp_is_points K a) := by
  refine T.F_is_points.okX sc_is_points (fun vs H Q E h => ?_) (fun cdv A outer s H vs Q E hr h => ?_)
  · obtain ⟨v, b, rfl, tg, hv, k⟩ := h
    rfl
  · have hu := hu64 hr
    obtain ⟨v, b, rfl, tg, hv, k⟩ := h
    refine ⟨_, (pss_one (ps_ret (pe_callS (ok_are_weighed T B) (hr.mono (by decide)) (by rfl) T.g_are_weighed T.F_are_weighed.kp T.b_are_weighed (fun σ => passAt (takes_of rfl rfl rfl rfl) σ) (by exact (pa_cons (pv 0) (pa_cons (my_const T.v_MOST_POINTS) (pa_cons pe_int pa_nil))))))), ?_⟩
    repeat walk_at "rd"
    exact ⟨v, b, rfl, tg, hv, k⟩
def sp_is_line (K : PySem.W.Frag) (a : Ad) : Sp := fun vs H Q E => ∃ v b, vs = [v] ∧ TG a H ∧ IsRowB K H 2 v b ∧ ∀ H', Sm H H' → Q (.bl b) H'
theorem ok_is_line (T : Txt K mg a) (B : Tbs base mg a) : FnOk P w K mg base (L2.CX P w) 6 a.f_is_line a.d_is_line ["thing"] (sp_is_line K a) := by
  refine T.F_is_line.okX sc_is_line (fun vs H Q E h => ?_) (fun cdv A outer s H vs Q E hr h => ?_)
  · obtain ⟨v, b, rfl, tg, hv, k⟩ := h
    rfl
  · have hu := hu64 hr
    obtain ⟨v, b, rfl, tg, hv, k⟩ := h
    refine ⟨_, (pss_one (ps_ret (pe_callS (ok_is_row T B) (hr.mono (by decide)) (by rfl) T.g_is_row T.F_is_row.kp T.b_is_row (fun σ => passAt (takes_of rfl rfl rfl rfl) σ) (by exact (pa_cons (pv 0) (pa_cons pe_int pa_nil)))))), ?_⟩
    repeat walk_at "rd"
    refine ⟨v, b, 2, rfl, tg, by decide, hv, fun H1 s1 => ?_⟩
    exact k _ s1
def sp_need_points (K : PySem.W.Frag) (a : Ad) : Sp := fun vs H Q E => ∃ v b, vs = [v] ∧ TG a H ∧ IsPtsB K H v b ∧ (b = true → ∀ H', Sm H H' → Q .non H') ∧ (b = false → ∀ H', Sm H H' → E (.ref a.C_NoPoints) none H')
theorem ok_need_points (T : Txt K mg a) (B : Tbs base mg a) : FnOk P w K mg base (L2.CX P w) 10 a.f_need_points a.d_need_points ["thing"] (sp_need_points K a) := by
  refine T.F_need_points.okX sc_need_points (fun vs H Q E h => ?_) (fun cdv A outer s H vs Q E hr h => ?_)
  · obtain ⟨v, b, rfl, tg, hv, k1, k2⟩ := h
    rfl
  · have hu := hu64 hr
    obtain ⟨v, b, rfl, tg, hv, k1, k2⟩ := h
    refine ⟨_, (pss_one (ps_if (pt_not (my_truth K (pe_callS (ok_is_points T B) (hr.mono (by decide)) (by rfl) T.g_is_points T.F_is_points.kp T.b_is_points (fun σ => passAt (takes_of rfl rfl rfl rfl) σ) (by exact (pa_cons (pv 0) pa_nil))))) (pss_one (ps_raise rfl (takes_of rfl rfl rfl rfl) (pmk_own PySem.F.excBase_ValueError T.x_NoPoints T.c_NoPoints T.k_NoPoints (raises_own T.s_NoPoints T.t_NoPoints) (by rfl)))) pss_nil)), ?_⟩
    repeat walk_at "rd"
    refine ⟨v, b, rfl, tg, hv, fun H1 s1 => ?_⟩
    repeat walk_at "rd"
    cases b with
    | true => exact iteN rfl (k1 rfl _ s1)
    | false => exact iteP rfl (k2 rfl _ s1)
def sp_need_line (K : PySem.W.Frag) (a : Ad) : Sp := fun vs H Q E => ∃ v b, vs = [v] ∧ TG a H ∧ IsRowB K H 2 v b ∧ (b = true → ∀ H', Sm H H' → Q .non H') ∧ (b = false → ∀ H', Sm H H' → E (.ref a.C_NoLine) none H')
theorem ok_need_line (T : Txt K mg a) (B : Tbs base mg a) : FnOk P w K mg base (L2.CX P w) 7 a.f_need_line a.d_need_line ["thing"] (sp_need_line K a) := by
  refine T.F_need_line.okX sc_need_line (fun vs H Q E h => ?_) (fun cdv A outer s H vs Q E hr h => ?_)
  · obtain ⟨v, b, rfl, tg, hv, k1, k2⟩ := h
    rfl
  · have hu := hu64 hr
    obtain ⟨v, b, rfl, tg, hv, k1, k2⟩ := h
    refine ⟨_, (pss_one (ps_if (pt_not (my_truth K (pe_callS (ok_is_line T B) (hr.mono (by decide)) (by rfl) T.g_is_line T.F_is_line.kp T.b_is_line (fun σ => passAt (takes_of rfl rfl rfl rfl) σ) (by exact (pa_cons (pv 0) pa_nil))))) (pss_one (ps_raise rfl (takes_of rfl rfl rfl rfl) (pmk_own PySem.F.excBase_ValueError T.x_NoLine T.c_NoLine T.k_NoLine (raises_own T.s_NoLine T.t_NoLine) (by rfl)))) pss_nil)), ?_⟩
    repeat walk_at "rd"
    refine ⟨v, b, rfl, tg, hv, fun H1 s1 => ?_⟩
    repeat walk_at "rd"
    cases b with
    | true => exact iteN rfl (k1 rfl _ s1)
    | false => exact iteP rfl (k2 rfl _ s1)
def sp_stand_at (K : PySem.W.Frag) (a : Ad) : Sp := fun vs H Q E => ∃ v w h s x, vs = [v, w] ∧ Two K H v h s ∧ Fr K H w x ∧ SzP s x ∧ SzP h (s * x) ∧ ∀ u H', Sm H H' → Fr K H' u (h + s * x) → Q u H'
theorem ok_stand_at (T : Txt K mg a) (B : Tbs base mg a) : FnOk P w K mg base (L2.CX P w) 4 a.f_stand_at a.d_stand_at ["line", "x"] (sp_stand_at K a) := by
  refine T.F_stand_at.okX sc_stand_at (fun vs H Q E h => ?_) (fun cdv A outer s H vs Q E hr h => ?_)
  · obtain ⟨v, w, h, s', x, rfl, ⟨aa, v1, v2, rfl, hs, h1, h2⟩, h3, z1, z2, k⟩ := h
    rfl
  · have hu := hu64 hr
    obtain ⟨v, w, h, s', x, rfl, ⟨aa, v1, v2, rfl, hs, h1, h2⟩, h3, z1, z2, k⟩ := h
    refine ⟨_, (pss_one (ps_ret (pe_callS (ok_added T B) (hr.mono (by decide)) (by rfl) T.g_added T.F_added.kp T.b_added (fun σ => passAt (takes_of rfl rfl rfl rfl) σ) (by exact (pa_cons (pe_ix (ix_any K) (pv 0) pe_int (fun _ _ => rfl)) (pa_cons (pe_callS (ok_multiplied T B) (hr.mono (by decide)) (by rfl) T.g_multiplied T.F_multiplied.kp T.b_multiplied (fun σ => passAt (takes_of rfl rfl rfl rfl) σ) (by exact (pa_cons (pe_ix (ix_any K) (pv 0) pe_int (fun _ _ => rfl)) (pa_cons (pv 1) pa_nil)))) pa_nil)))))), ?_⟩
    repeat walk_at "rd"
    refine ⟨_, _, _, _, rfl, (by walk_at "fr"), (by walk_at "fr"), z1, fun u H1 s1 hu => ?_⟩
    repeat walk_at "rd"
    refine ⟨_, _, _, _, rfl, (by walk_at "fr"), (by walk_at "fr"), z2, fun u2 H2 s2 hu2 => ?_⟩
    exact k _ _ (s1.trans s2) hu2
def sp_rise_of (K : PySem.W.Frag) (a : Ad) : Sp := fun vs H Q E => ∃ v w p h s, vs = [v, w] ∧ Pt K H v p ∧ Two K H w h s ∧ SzP s p.1 ∧ SzP h (s * p.1) ∧ SzP p.2.1 (h + s * p.1) ∧ ∀ u H', Sm H H' → Fr K H' u (p.2.1 - (h + s * p.1)) → Q u H'
theorem ok_rise_of (T : Txt K mg a) (B : Tbs base mg a) : FnOk P w K mg base (L2.CX P w) 5 a.f_rise_of a.d_rise_of ["point", "line"] (sp_rise_of K a) := by
  refine T.F_rise_of.okX sc_rise_of (fun vs H Q E h => ?_) (fun cdv A outer s H vs Q E hr h => ?_)
  · obtain ⟨v, w, p, h, s', rfl, ⟨aa, vx, vy, vw, rfl, hs, h1, h2, h3⟩, hl, z1, z2, z3, k⟩ := h
    rfl
  · have hu := hu64 hr
    obtain ⟨v, w, p, h, s', rfl, ⟨aa, vx, vy, vw, rfl, hs, h1, h2, h3⟩, hl, z1, z2, z3, k⟩ := h
    refine ⟨_, (pss_one (ps_ret (pe_callS (ok_subtracted T B) (hr.mono (by decide)) (by rfl) T.g_subtracted T.F_subtracted.kp T.b_subtracted (fun σ => passAt (takes_of rfl rfl rfl rfl) σ) (by exact (pa_cons (pe_ix (ix_any K) (pv 0) pe_int (fun _ _ => rfl)) (pa_cons (pe_callS (ok_stand_at T B) (hr.mono (by decide)) (by rfl) T.g_stand_at T.F_stand_at.kp T.b_stand_at (fun σ => passAt (takes_of rfl rfl rfl rfl) σ) (by exact (pa_cons (pv 1) (pa_cons (pe_ix (ix_any K) (pv 0) pe_int (fun _ _ => rfl)) pa_nil)))) pa_nil)))))), ?_⟩
    repeat walk_at "rd"
    refine ⟨_, _, h, s', p.1, rfl, hl, (by walk_at "fr"), z1, z2, fun u H1 s1 hu => ?_⟩
    repeat walk_at "rd"
    refine ⟨_, _, _, _, rfl, (by walk_at "fr"), (by walk_at "fr"), z3, fun u2 H2 s2 hu2 => ?_⟩
    exact k _ _ (s1.trans s2) hu2
def sp_sums_of (K : PySem.W.Frag) (a : Ad) : Sp := fun vs H Q E => ∃ v w ps h s, vs = [v, w] ∧ Pts K H v ps ∧ Two K H w h s ∧ SumSz h s ps ∧ ∀ u H', Sm H H' → Two K H' u (ovU h s ps).1 (ovU h s ps).2 → Q u H'
theorem ok_sums_of (T : Txt K mg a) (B : Tbs base mg a) : FnOk P w K mg base (L2.CX P w) 6 a.f_sums_of a.d_sums_of ["points", "line"] (sp_sums_of K a) := by
  refine T.F_sums_of.okX sc_sums_of (fun vs H Q E h => ?_) (fun cdv A outer s H vs Q E hr h => ?_)
  · obtain ⟨v, w, ps, h, s', rfl, ⟨l, ws, rfl, hl, hp⟩, hln, hz, k⟩ := h
    rfl
  · have hu := hu64 hr
    obtain ⟨v, w, ps, h, s', rfl, ⟨l, ws, rfl, hl, hp⟩, hln, hz, k⟩ := h
    refine ⟨_, (pss_cons (ps_set (i := 2) sc_sums_of.nd rfl (by first | exact Or.inl rfl | exact Or.inr rfl) (my_const T.v_NOUGHT))
    (pss_cons (ps_set (i := 3) sc_sums_of.nd rfl (by first | exact Or.inl rfl | exact Or.inr rfl) (my_const T.v_NOUGHT))
    (pss_cons (ps_for (passes_of rfl) rfl (my_ilist K (pv 0)) (pg_name (i := 4) sc_sums_of.nd rfl (by first | exact Or.inl rfl | exact Or.inr rfl)) (pss_cons (ps_set (i := 5) sc_sums_of.nd rfl (by first | exact Or.inl rfl | exact Or.inr rfl) (pe_callS (ok_rise_of T B) (hr.mono (by decide)) (by rfl) T.g_rise_of T.F_rise_of.kp T.b_rise_of (fun σ => passAt (takes_of rfl rfl rfl rfl) σ) (by exact (pa_cons (pv 4) (pa_cons (pv 1) pa_nil)))))
    (pss_cons (ps_set (i := 6) sc_sums_of.nd rfl (by first | exact Or.inl rfl | exact Or.inr rfl) (pe_callS (ok_multiplied T B) (hr.mono (by decide)) (by rfl) T.g_multiplied T.F_multiplied.kp T.b_multiplied (fun σ => passAt (takes_of rfl rfl rfl rfl) σ) (by exact (pa_cons (pe_ix (ix_any K) (pv 4) pe_int (fun _ _ => rfl)) (pa_cons (pv 5) pa_nil)))))
    (pss_one (ps_if (pt_cmpR op_gt (pe_ix (ix_any K) (pv 5) pe_int (fun _ _ => rfl)) pe_int (nomark _)) (pss_one (ps_set (i := 2) sc_sums_of.nd rfl (by first | exact Or.inl rfl | exact Or.inr rfl) (pe_callS (ok_added T B) (hr.mono (by decide)) (by rfl) T.g_added T.F_added.kp T.b_added (fun σ => passAt (takes_of rfl rfl rfl rfl) σ) (by exact (pa_cons (pv 2) (pa_cons (pv 6) pa_nil)))))) (pss_one (ps_set (i := 3) sc_sums_of.nd rfl (by first | exact Or.inl rfl | exact Or.inr rfl) (pe_callS (ok_subtracted T B) (hr.mono (by decide)) (by rfl) T.g_subtracted T.F_subtracted.kp T.b_subtracted (fun σ => passAt (takes_of rfl rfl rfl rfl) σ) (by exact (pa_cons (pv 3) (pa_cons (pv 6) pa_nil)))))))))))
    (pss_one (ps_ret (pe_tup (pa_cons (pv 2) (pa_cons (pv 3) pa_nil)))))))), ?_⟩
    repeat walk_at "rd"
    refine ⟨_, rfl, l, rfl, ⟨ws, hl⟩, for_list (xs := ws) (fun i σ' H' => ∃ o u x1 x2 x3, σ' = [some (.ref l), some w, some o, some u, x1, x2, x3] ∧ Fr K H' o (ovU h s' (ps.take i)).1 ∧ Fr K H' u (ovU h s' (ps.take i)).2 ∧ Sm H H')
      ⟨_, _, _, _, _, rfl, fr_of (T.w_NOUGHT H) rfl rfl, fr_of (T.w_NOUGHT H) rfl rfl, .refl _⟩ (fun i σ' H' _ p => ?_) (fun i x σ' H' hx p => ?_) (fun σ' H' p => ?_)⟩
    · obtain ⟨o, u, x1, x2, x3, rfl, ho, hu', s1⟩ := p
      exact s1.sql hl
    · obtain ⟨o, u, x1, x2, x3, rfl, ho, hu', s1⟩ := p
      obtain ⟨q, hq, fq⟩ := hp.get hx
      have fq1 := fq.sm s1
      obtain ⟨aa, vx, vy, vw, rfl, hsq, f1, f2, f3⟩ := fq.sm s1
      obtain ⟨⟨r1, r2, r3⟩, z1, z2, z3⟩ := hz i q hq
      repeat walk_at "rd"
      refine ⟨_, _, q, h, s', rfl, fq1, hln.sm s1, r1, r2, r3, fun ri H2 s2 hri => ?_⟩
      repeat walk_at "rd"
      refine ⟨_, _, q.2.2, riseR h s' q, rfl, (by walk_at "fr"), hri, z1, fun pa H3 s3 hpa => ?_⟩
      repeat walk_at "rd"
      have hri3 : Fr K H3 ri (riseR h s' q) := hri.up s3
      repeat walk_at "rd"
      by_cases hpos : 0 < riseR h s' q
      · refine iteP (decide_eq_true (by rw [← num_pos] at hpos; exact hpos)) ?_
        repeat walk_at "rd"
        refine ⟨_, _, _, _, rfl, (by walk_at "fr"), hpa, z2, fun o2 H4 s4 ho2 => ?_⟩
        repeat walk_at "rd"
        refine ⟨o2, u, _, _, _, rfl, ?_, ?_, s1.trans (s2.trans (s3.trans s4))⟩
        · rw [ovU_take hq]; unfold ovStep; rw [if_pos hpos]; exact ho2
        · rw [ovU_take hq]; unfold ovStep; rw [if_pos hpos]; exact hu'.up (s2.trans (s3.trans s4))
      · refine iteN (decide_eq_false (by rw [← num_pos] at hpos; exact hpos)) ?_
        repeat walk_at "rd"
        refine ⟨_, _, _, _, rfl, (by walk_at "fr"), hpa, z3, fun u2 H4 s4 hu2 => ?_⟩
        repeat walk_at "rd"
        refine ⟨o, u2, _, _, _, rfl, ?_, ?_, s1.trans (s2.trans (s3.trans s4))⟩
        · rw [ovU_take hq]; unfold ovStep; rw [if_neg hpos]; exact ho.up (s2.trans (s3.trans s4))
        · rw [ovU_take hq]; unfold ovStep; rw [if_neg hpos]; exact hu2
    · obtain ⟨o, u, x1, x2, x3, rfl, ho, hu', s1⟩ := p
      repeat walk_at "rd"
      have el : ps.take ws.length = ps := by rw [← hp.len, List.take_length]
      rw [el] at ho hu'
      refine rd_mk le2 fun r H2 hr2 s2 hx2 => ?_
      exact k _ _ (s1.trans s2) ⟨r, o, u, rfl, SqT.of hx2, ho.up s2, hu'.up s2⟩
def sp_sums (K : PySem.W.Frag) (a : Ad) : Sp := fun vs H Q E => ∃ v w bp, vs = [v, w] ∧ TG a H ∧ IsPtsB K H v bp ∧ (bp = false → ∀ H', Sm H H' → E (.ref a.C_NoPoints) none H') ∧ (bp = true → ∃ bl, IsRowB K H 2 w bl ∧ (bl = false → ∀ H', Sm H H' → E (.ref a.C_NoLine) none H') ∧ (bl = true → ∃ ps h s, Pts K H v ps ∧ Two K H w h s ∧ SumSz h s ps ∧ ∀ u H', Sm H H' → Two K H' u (ovU h s ps).1 (ovU h s ps).2 → Q u H'))
theorem ok_sums (T : Txt K mg a) (B : Tbs base mg a) : FnOk P w K mg base (L2.CX P w) 11 a.f_sums a.d_sums ["points", "line"] (sp_sums K a) := by
  refine T.F_sums.okX sc_sums (fun vs H Q E h => ?_) (fun cdv A outer s H vs Q E hr h => ?_)
  · obtain ⟨v, w, bp, rfl, tg, hv, kf, kt⟩ := h
    rfl
  · have hu := hu64 hr
    obtain ⟨v, w, bp, rfl, tg, hv, kf, kt⟩ := h
    refine ⟨_, (pss_cons (ps_expr (pe_callS (ok_need_points T B) (hr.mono (by decide)) (by rfl) T.g_need_points T.F_need_points.kp T.b_need_points (fun σ => passAt (takes_of rfl rfl rfl rfl) σ) (by exact (pa_cons (pv 0) pa_nil))))
    (pss_cons (ps_expr (pe_callS (ok_need_line T B) (hr.mono (by decide)) (by rfl) T.g_need_line T.F_need_line.kp T.b_need_line (fun σ => passAt (takes_of rfl rfl rfl rfl) σ) (by exact (pa_cons (pv 1) pa_nil))))
    (pss_one (ps_ret (pe_callS (ok_sums_of T B) (hr.mono (by decide)) (by rfl) T.g_sums_of T.F_sums_of.kp T.b_sums_of (fun σ => passAt (takes_of rfl rfl rfl rfl) σ) (by exact (pa_cons (pv 0) (pa_cons (pv 1) pa_nil)))))))), ?_⟩
    repeat walk_at "rd"
    refine ⟨v, bp, rfl, tg, hv, fun hb H1 s1 => ?_, kf⟩
    obtain ⟨bl, hw, kf2, kt2⟩ := kt hb
    repeat walk_at "rd"
    refine ⟨w, bl, rfl, tg.up s1, hw.sm s1, fun hb2 H2 s2 => ?_, fun hb2 H2 s2 => kf2 hb2 _ (s1.trans s2)⟩
    obtain ⟨ps, h, s', hps, hln, hz, k⟩ := kt2 hb2
    have s0 := s1.trans s2
    repeat walk_at "rd"
    exact ⟨v, w, ps, h, s', rfl, hps.sm s0, hln.sm s0, hz, fun u H3 s3 hu => k u H3 (s0.trans s3) hu⟩
def sp__law_short (K : PySem.W.Frag) (a : Ad) : Sp := fun vs H Q E => ∃ v h s, vs = [v] ∧ Two K H v h s ∧ ∀ b H', Sm H H' → (b = true → Sz 200 h ∧ Sz 200 s) → Q (.bl b) H'
theorem ok__law_short (T : Txt K mg a) (B : Tbs base mg a) : FnOk P w K mg base (L2.CX P w) 2 a.f__law_short a.d__law_short ["_law_line_here"] (sp__law_short K a) := by
  refine T.F__law_short.okX sc__law_short (fun vs H Q E h => ?_) (fun cdv A outer s H vs Q E hr h => ?_)
  · obtain ⟨v, h, s', rfl, ⟨aa, v1, v2, rfl, hs, ⟨a1, rfl, h1⟩, ⟨a2, rfl, h2⟩⟩, k⟩ := h
    rfl
  · have hu := hu64 hr
    obtain ⟨v, h, s', rfl, ⟨aa, v1, v2, rfl, hs, ⟨a1, rfl, h1⟩, ⟨a2, rfl, h2⟩⟩, k⟩ := h
    refine ⟨_, (pss_one (ps_ret (pe_cmpR op_lt (pe_callB (my_max K rfl) (by rfl) T.z_max bt_max (pa_cons (pe_lc (own := [("_law_number", 1)]) rfl sc__law_short.nd (my_itup K (pe_op (op_addA K) (pe_ix (ix_any K) (pv 0) pe_int (fun _ _ => rfl)) (pe_ix (ix_any K) (pv 0) pe_int (fun _ _ => rfl)))) (blkOk_by (N := N__law_short) (sc := defScope s__law_short) (by decide +kernel)) (fun _ _ _ _ _ => (pg_name (i := 1) sc__law_short.nd rfl (by first | exact Or.inl rfl | exact Or.inr rfl))) (fun _ _ _ _ _ => pts_nil) (fun _ _ _ _ _ => (pe_callB (call_abs) (by rfl) T.z_abs bt_abs (pa_cons (pv 1) pa_nil)))) pa_nil)) (pe_op op_pow pe_int pe_int) (nomark _)))), ?_⟩
    repeat walk_at "rd"
    refine rd_lcTE ?_
    repeat walk_at "rd"
    refine rd_catT h1 h2 (by simp) (by simp) (Nat.le_of_ble_eq_true rfl) fun q H2 hq s2 hx2 => ?_
    refine ⟨q, rfl, ⟨_, SqT.of hx2⟩, ?_⟩
    refine rd_lcTa (xs := [.int h.num, .int (h.den : Int), .int s'.num, .int (s'.den : Int)]) (fun i _ y => ∃ z : Int, [h.num, (h.den : Int), s'.num, (s'.den : Int)][i]? = some z ∧ y = .int (if z < 0 then -z else z)) (fun _ _ _ _ _ p => p) (SqT.of hx2) (Nat.le_of_ble_eq_true rfl) (fun n x H3 hx s3 Q' hq' => ?_) (fun D ys H3 hD s3 hxD hlen hys => ?_)
    · repeat walk_at "rd"
      refine ⟨rfl, ?_⟩
      obtain ⟨z, hz, rfl⟩ : ∃ z : Int, [h.num, (h.den : Int), s'.num, (s'.den : Int)][n]? = some z ∧ x = .int z := by
        match n, hx with
        | 0, hx => exact ⟨_, rfl, (Option.some.inj hx).symm⟩
        | 1, hx => exact ⟨_, rfl, (Option.some.inj hx).symm⟩
        | 2, hx => exact ⟨_, rfl, (Option.some.inj hx).symm⟩
        | 3, hx => exact ⟨_, rfl, (Option.some.inj hx).symm⟩
        | n + 4, hx => simp at hx
      repeat walk_at "rd"
      exact hq' _ H3 (.refl _) ⟨z, hz, rfl⟩
    · have e : ys = ([if h.num < 0 then -h.num else h.num, if (h.den : Int) < 0 then -(h.den : Int) else (h.den : Int), if s'.num < 0 then -s'.num else s'.num, if (s'.den : Int) < 0 then -(s'.den : Int) else (s'.den : Int)] : List Int).map V.int := by
        refine ints_of hlen fun i y ey => ?_
        obtain ⟨z, hz, rfl⟩ := hys i y ey
        match i, hz with
        | 0, hz => cases hz; exact ⟨_, rfl, rfl⟩
        | 1, hz => cases hz; exact ⟨_, rfl, rfl⟩
        | 2, hz => cases hz; exact ⟨_, rfl, rfl⟩
        | 3, hz => cases hz; exact ⟨_, rfl, rfl⟩
        | n + 4, hz => simp at hz
      subst e
      refine ⟨D, _, rfl, SqL.of hxD, by simp, fun m hm hall => ?_⟩
      repeat walk_at "rd"
      refine rd_pow ⟨by decide, by decide, by decide⟩ ?_
      repeat walk_at "rd"
      rw [p60]
      refine k _ _ (s2.trans s3) fun hb => ?_
      have hb' := of_decide_eq_true hb
      have q1 := hall (if h.num < 0 then -h.num else h.num) (by simp)
      have q2 := hall (if (h.den : Int) < 0 then -(h.den : Int) else (h.den : Int)) (by simp)
      have q3 := hall (if s'.num < 0 then -s'.num else s'.num) (by simp)
      have q4 := hall (if (s'.den : Int) < 0 then -(s'.den : Int) else (s'.den : Int)) (by simp)
      have key : ∀ t : Int, (if t < 0 then -t else t) ≤ m → t.natAbs < 2 ^ 200 := fun t ht => by
        have : (2 : Nat) ^ 200 = 1606938044258990275541962092341162602522202993782792835301376 := by decide +kernel
        rw [this]
        split at ht <;> omega
      exact ⟨⟨key _ q1, by simpa using key _ q2⟩, ⟨key _ q3, by simpa using key _ q4⟩⟩
def sp__law_draw (K : PySem.W.Frag) (a : Ad) : Sp := fun vs H Q E => ∃ (p : Addr) (m : Int), vs = [.ref p, .int m] ∧ PotAt H p ∧ (0 < m ∧ m.natAbs < 2 ^ 8990) ∧ ∀ d H', 0 ≤ d → d < m → Kp p H H' → Q (.int d) H'
theorem ok__law_draw (T : Txt K mg a) (B : Tbs base mg a) : FnOk P w K mg base (L2.CX P w) 2 a.f__law_draw a.d__law_draw ["_law_pot_here", "_law_many"] (sp__law_draw K a) := by
  refine T.F__law_draw.okX sc__law_draw (fun vs H Q E h => ?_) (fun cdv A outer s H vs Q E hr h => ?_)
  · obtain ⟨p, m, rfl, hp, ⟨hm, hm2⟩, k⟩ := h
    rfl
  · have hu := hu64 hr
    obtain ⟨p, m, rfl, hp, ⟨hm, hm2⟩, k⟩ := h
    refine ⟨_, (pss_cons (ps_if (pt_cmpR op_gt (pe_ix (ix_any K) (pv 0) pe_int (fun _ _ => rfl)) pe_int (nomark _)) (pss_cons (ps_asg (pe_callB (call_divmodN) (by rfl) T.z_divmod bt_divmod (pa_cons (pe_ix (ix_any K) (pv 0) pe_int (fun _ _ => rfl)) (pa_cons (pv 1) pa_nil))) (my_gtup K 2 rfl (pgs_cons (pg_sub (pv 0) pe_int set_list) (pgs_cons (pg_name (i := 2) sc__law_draw.nd rfl (by first | exact Or.inl rfl | exact Or.inr rfl)) pgs_nil))))
    (pss_one (ps_ret (pv 2)))) pss_nil)
    (pss_cons (ps_asg (pe_op op_mod (pe_op (op_addA K) (pe_op op_mulW (pe_ix (ix_any K) (pv 0) pe_int (fun _ _ => rfl)) pe_int) pe_int) pe_int) (pg_sub (pv 0) pe_int set_list))
    (pss_one (ps_ret (pe_op op_mod (pe_op op_fdivX (pe_op op_mod (pe_op op_mulW (pe_ix (ix_any K) (pv 0) pe_int (fun _ _ => rfl)) (pe_ix (ix_any K) (pv 0) pe_int (fun _ _ => rfl))) pe_int) pe_int) (pv 1)))))), ?_⟩
    obtain ⟨x, y, hx, h0, h1, h2⟩ := id hp
    repeat walk_at "rd"
    refine rd_ixL hx rfl ?_
    repeat walk_at "rd"
    by_cases hg : 0 < x
    · refine iteP (decide_eq_true hg) ?_
      repeat walk_at "rd"
      refine rd_ixL hx rfl ?_
      repeat walk_at "rd"
      refine rd_divmod ⟨hm, npl hm2 (by decide) (by decide)⟩ fun q H1 hq s1 hq1 => ?_
      refine rd_gtup (SqT.of hq1) rfl ?_
      repeat walk_at "rd"
      refine rd_setL (s1.g hx) rfl ?_
      repeat walk_at "rd"
      have r := mod_rng (i := x) hm
      exact k _ _ r.1 r.2 ((Kp.of s1 hp).trans (pot_write (hp.up s1) (Int.ediv_nonneg h0 (by omega)) h1 h2))
    · refine iteN (decide_eq_false hg) ?_
      repeat walk_at "rd"
      refine rd_ixL hx rfl ?_
      repeat walk_at "rd"
      refine rd_mul (cm (n := 32) (m := 32) (by omega) (by decide)) ?_
      repeat walk_at "rd"
      refine rd_setL hx rfl ?_
      repeat walk_at "rd"
      have r1 := mod_rng (i := y * 48271 + 11) (j := 2147483647) (by decide)
      refine rd_ixL upd_same rfl ?_
      repeat walk_at "rd"
      refine rd_ixL upd_same rfl ?_
      refine rd_mul (cm (n := 32) (m := 32) (by omega) (by omega)) ?_
      repeat walk_at "rd"
      refine rd_fd (n := 8) (by decide) (by decide) ?_
      repeat walk_at "rd"
      have r := mod_rng (i := ((y * 48271 + 11) % 2147483647 * ((y * 48271 + 11) % 2147483647) % 2147483629).fdiv 3) hm
      exact k _ _ r.1 r.2 (pot_write hp h0 r1.1 (by omega))
def sp__law_low (K : PySem.W.Frag) (a : Ad) : Sp := fun vs H Q E => ∃ t b : Int, vs = [.int t, .int b] ∧ (b ≠ 0 ∧ b.natAbs < 2 ^ 8990) ∧ ∀ v H', Sm H H' → FrT H' v (Rat.divInt t b) → Q v H'
theorem ok__law_low (T : Txt K mg a) (B : Tbs base mg a) : FnOk P w K mg base (L2.CX P w) 2 a.f__law_low a.d__law_low ["_law_top", "_law_bottom"] (sp__law_low K a) := by
  refine T.F__law_low.okX sc__law_low (fun vs H Q E h => ?_) (fun cdv A outer s H vs Q E hr h => ?_)
  · obtain ⟨t, b, rfl, ⟨hb, hs⟩, k⟩ := h
    rfl
  · have hu := hu64 hr
    obtain ⟨t, b, rfl, ⟨hb, hs⟩, k⟩ := h
    refine ⟨_, (pss_cons (ps_par (i := 2) (j := 3) rfl sc__law_low.nd rfl rfl (by decide) rfl rfl (pa_cons (pe_callB (call_abs) (by rfl) T.z_abs bt_abs (pa_cons (pv 0) pa_nil)) (pa_cons (pe_callB (call_abs) (by rfl) T.z_abs bt_abs (pa_cons (pv 1) pa_nil)) pa_nil)) rfl)
    (pss_cons (ps_while (passes_of rfl) (pt_cmpR op_gt (pv 3) pe_int (nomark _)) (pss_one (ps_par (i := 2) (j := 3) rfl sc__law_low.nd rfl rfl (by decide) rfl rfl (pa_cons (pv 3) (pa_cons (pe_op op_mod (pv 2) (pv 3)) pa_nil)) rfl)))
    (pss_cons (ps_if (pt_cmpR op_lt (pv 1) pe_int (nomark _)) (pss_one (ps_set (i := 2) sc__law_low.nd rfl (by first | exact Or.inl rfl | exact Or.inr rfl) (pe_un un_neg (pv 2)))) pss_nil)
    (pss_one (ps_ret (pe_tup (pa_cons (pe_op op_fdivX (pv 0) (pv 2)) (pa_cons (pe_op op_fdivX (pv 1) (pv 2)) pa_nil)))))))), ?_⟩
    repeat walk_at "rd"
    refine ⟨fun m σ H1 => ∃ x y : Int, σ = [some (.int t), some (.int b), some (.int x), some (.int y)] ∧ H1 = H ∧ 0 ≤ x ∧ 0 ≤ y ∧ x.natAbs.gcd y.natAbs = t.natAbs.gcd b.natAbs ∧ m = y.natAbs, ⟨_, _, _, rfl, rfl, abs_nn t, abs_nn b, by rw [abs_na, abs_na], rfl⟩, ?_⟩
    rintro m σ H1 ⟨x, y, rfl, rfl, hx, hy, hg, rfl⟩
    repeat walk_at "rd"
    by_cases h : 0 < y
    · refine iteP (decide_eq_true h) ?_
      refine ⟨_, fun σ' H' z => z, ?_⟩
      repeat walk_at "rd"
      exact ⟨_, (mod_less h), _, _, rfl, rfl, hy, (mod_rng h).1, (euclid h hx).trans hg, rfl⟩
    · refine iteN (decide_eq_false h) ?_
      have y0 : y = 0 := by omega
      subst y0
      have e : x = ((t.natAbs.gcd b.natAbs : Nat) : Int) := by
        rw [← hg]
        show x = ((x.natAbs.gcd 0 : Nat) : Int)
        rw [Nat.gcd_zero_right]; omega
      subst e
      repeat walk_at "rd"
      by_cases hn : b < 0
      · refine iteP (decide_eq_true hn) ?_
        have e := dv_of_neg (t := t) hn
        repeat walk_at "rd"
        rw [e]
        refine rd_fd (dv_ne hb) (dv_lt hb hs) ?_
        repeat walk_at "rd"
        refine rd_fd (dv_ne hb) (dv_lt hb hs) ?_
        repeat walk_at "rd"
        refine rd_mk le2 fun p H1 hp s1 hx => ?_
        rw [num_dv hb, den_dv hb] at hx
        exact k _ _ s1 ⟨p, rfl, hx⟩
      · refine iteN (decide_eq_false hn) ?_
        have e := dv_of_pos (t := t) hn
        repeat walk_at "rd"
        rw [e]
        refine rd_fd (dv_ne hb) (dv_lt hb hs) ?_
        repeat walk_at "rd"
        refine rd_fd (dv_ne hb) (dv_lt hb hs) ?_
        repeat walk_at "rd"
        refine rd_mk le2 fun p H1 hp s1 hx => ?_
        rw [num_dv hb, den_dv hb] at hx
        exact k _ _ s1 ⟨p, rfl, hx⟩
def sp__law_over (K : PySem.W.Frag) (a : Ad) : Sp := fun vs H Q E => ∃ v w q r, vs = [v, w] ∧ Fr K H v q ∧ Fr K H w r ∧ SzD q r ∧ r ≠ 0 ∧ ∀ x H', Sm H H' → Fr K H' x (q / r) → Q x H'
theorem ok__law_over (T : Txt K mg a) (B : Tbs base mg a) : FnOk P w K mg base (L2.CX P w) 3 a.f__law_over a.d__law_over ["_law_one", "_law_other"] (sp__law_over K a) := by
  refine T.F__law_over.okX sc__law_over (fun vs H Q E h => ?_) (fun cdv A outer s H vs Q E hr h => ?_)
  · obtain ⟨v, w, q, r, rfl, hv, hw, zz, hr0, k⟩ := h
    rfl
  · have hu := hu64 hr
    obtain ⟨v, w, q, r, rfl, hv, hw, zz, hr0, k⟩ := h
    refine ⟨_, (pss_one (ps_ret (pe_callS (ok__law_low T B) (hr.mono (by decide)) (by rfl) T.g__law_low T.F__law_low.kp T.b__law_low (fun σ => passAt (takes_of rfl rfl rfl rfl) σ) (by exact (pa_cons (pe_op op_mulW (pe_ix (ix_any K) (pv 0) pe_int (fun _ _ => rfl)) (pe_ix (ix_any K) (pv 1) pe_int (fun _ _ => rfl))) (pa_cons (pe_op op_mulW (pe_ix (ix_any K) (pv 0) pe_int (fun _ _ => rfl)) (pe_ix (ix_any K) (pv 1) pe_int (fun _ _ => rfl))) pa_nil)))))), ?_⟩
    repeat walk_at "rd"
    refine rd_mul zz.nd ?_
    repeat walk_at "rd"
    refine rd_mul zz.dn ?_
    repeat walk_at "rd"
    refine ⟨_, _, rfl, ⟨Int.mul_ne_zero (den_ne q) (num_ne hr0), zz.lt⟩, fun x H1 s1 hx => ?_⟩
    rw [div_as] at hx
    exact k x H1 s1 hx.fr
def sp__law_less (K : PySem.W.Frag) (a : Ad) : Sp := fun vs H Q E => ∃ v w q r, vs = [v, w] ∧ Fr K H v q ∧ Fr K H w r ∧ SzP q r ∧ ∀ x H', Sm H H' → Fr K H' x (q - r) → Q x H'
theorem ok__law_less (T : Txt K mg a) (B : Tbs base mg a) : FnOk P w K mg base (L2.CX P w) 3 a.f__law_less a.d__law_less ["_law_one", "_law_other"] (sp__law_less K a) := by
  refine T.F__law_less.okX sc__law_less (fun vs H Q E h => ?_) (fun cdv A outer s H vs Q E hr h => ?_)
  · obtain ⟨v, w, q, r, rfl, hv, hw, zz, k⟩ := h
    rfl
  · have hu := hu64 hr
    obtain ⟨v, w, q, r, rfl, hv, hw, zz, k⟩ := h
    refine ⟨_, (pss_one (ps_ret (pe_callS (ok__law_low T B) (hr.mono (by decide)) (by rfl) T.g__law_low T.F__law_low.kp T.b__law_low (fun σ => passAt (takes_of rfl rfl rfl rfl) σ) (by exact (pa_cons (pe_op op_sub (pe_op op_mulW (pe_ix (ix_any K) (pv 0) pe_int (fun _ _ => rfl)) (pe_ix (ix_any K) (pv 1) pe_int (fun _ _ => rfl))) (pe_op op_mulW (pe_ix (ix_any K) (pv 1) pe_int (fun _ _ => rfl)) (pe_ix (ix_any K) (pv 0) pe_int (fun _ _ => rfl)))) (pa_cons (pe_op op_mulW (pe_ix (ix_any K) (pv 0) pe_int (fun _ _ => rfl)) (pe_ix (ix_any K) (pv 1) pe_int (fun _ _ => rfl))) pa_nil)))))), ?_⟩
    repeat walk_at "rd"
    refine rd_mul zz.nd ?_
    repeat walk_at "rd"
    refine rd_mul zz.nd2 ?_
    repeat walk_at "rd"
    refine rd_mul zz.de ?_
    repeat walk_at "rd"
    refine ⟨_, _, rfl, ⟨Int.mul_ne_zero (den_ne q) (den_ne r), zz.lt⟩, fun x H1 s1 hx => ?_⟩
    rw [sub_as] at hx
    exact k x H1 s1 hx.fr
def sp__law_times (K : PySem.W.Frag) (a : Ad) : Sp := fun vs H Q E => ∃ v w q r, vs = [v, w] ∧ Fr K H v q ∧ Fr K H w r ∧ SzP q r ∧ ∀ x H', Sm H H' → Fr K H' x (q * r) → Q x H'
theorem ok__law_times (T : Txt K mg a) (B : Tbs base mg a) : FnOk P w K mg base (L2.CX P w) 3 a.f__law_times a.d__law_times ["_law_one", "_law_other"] (sp__law_times K a) := by
  refine T.F__law_times.okX sc__law_times (fun vs H Q E h => ?_) (fun cdv A outer s H vs Q E hr h => ?_)
  · obtain ⟨v, w, q, r, rfl, hv, hw, zz, k⟩ := h
    rfl
  · have hu := hu64 hr
    obtain ⟨v, w, q, r, rfl, hv, hw, zz, k⟩ := h
    refine ⟨_, (pss_one (ps_ret (pe_callS (ok__law_low T B) (hr.mono (by decide)) (by rfl) T.g__law_low T.F__law_low.kp T.b__law_low (fun σ => passAt (takes_of rfl rfl rfl rfl) σ) (by exact (pa_cons (pe_op op_mulW (pe_ix (ix_any K) (pv 0) pe_int (fun _ _ => rfl)) (pe_ix (ix_any K) (pv 1) pe_int (fun _ _ => rfl))) (pa_cons (pe_op op_mulW (pe_ix (ix_any K) (pv 0) pe_int (fun _ _ => rfl)) (pe_ix (ix_any K) (pv 1) pe_int (fun _ _ => rfl))) pa_nil)))))), ?_⟩
    repeat walk_at "rd"
    refine rd_mul zz.nn ?_
    repeat walk_at "rd"
    refine rd_mul zz.de ?_
    repeat walk_at "rd"
    refine ⟨_, _, rfl, ⟨Int.mul_ne_zero (den_ne q) (den_ne r), zz.lt⟩, fun x H1 s1 hx => ?_⟩
    rw [mul_as] at hx
    exact k x H1 s1 hx.fr
def sp__law_through (K : PySem.W.Frag) (a : Ad) : Sp := fun vs H Q E => ∃ v w p q, vs = [v, w] ∧ Pt K H v p ∧ Pt K H w q ∧ (Sz 210 p.1 ∧ Sz 210 p.2.1) ∧ (Sz 210 q.1 ∧ Sz 210 q.2.1) ∧ (p.1 = q.1 → ∀ H', Sm H H' → Q .non H') ∧ (p.1 ≠ q.1 → ∀ u H', Sm H H' → Two K H' u (thr p q).1 (thr p q).2 → Q u H')
theorem ok__law_through (T : Txt K mg a) (B : Tbs base mg a) : FnOk P w K mg base (L2.CX P w) 4 a.f__law_through a.d__law_through ["_law_one", "_law_other"] (sp__law_through K a) := by
  refine T.F__law_through.okX sc__law_through (fun vs H Q E h => ?_) (fun cdv A outer s H vs Q E hr h => ?_)
  · obtain ⟨v, w, p, q, rfl, ⟨aa, vx, vy, vw, rfl, hs, h1, h2, h3⟩, ⟨bb, wx, wy, ww, rfl, hs', g1, g2, g3⟩, ⟨zx, zy⟩, ⟨zx', zy'⟩, kn, kt⟩ := h
    rfl
  · have hu := hu64 hr
    obtain ⟨v, w, p, q, rfl, ⟨aa, vx, vy, vw, rfl, hs, h1, h2, h3⟩, ⟨bb, wx, wy, ww, rfl, hs', g1, g2, g3⟩, ⟨zx, zy⟩, ⟨zx', zy'⟩, kn, kt⟩ := h
    refine ⟨_, (pss_cons (ps_if (pt_cmpR (op_eqA K (by exact hu)) (pe_ix (ix_any K) (pv 0) pe_int (fun _ _ => rfl)) (pe_ix (ix_any K) (pv 1) pe_int (fun _ _ => rfl)) (nomark _)) (pss_one (ps_ret pe_non)) pss_nil)
    (pss_cons (ps_set (i := 2) sc__law_through.nd rfl (by first | exact Or.inl rfl | exact Or.inr rfl) (pe_callS (ok__law_over T B) (hr.mono (by decide)) (by rfl) T.g__law_over T.F__law_over.kp T.b__law_over (fun σ => passAt (takes_of rfl rfl rfl rfl) σ) (by exact (pa_cons (pe_callS (ok__law_less T B) (hr.mono (by decide)) (by rfl) T.g__law_less T.F__law_less.kp T.b__law_less (fun σ => passAt (takes_of rfl rfl rfl rfl) σ) (by exact (pa_cons (pe_ix (ix_any K) (pv 1) pe_int (fun _ _ => rfl)) (pa_cons (pe_ix (ix_any K) (pv 0) pe_int (fun _ _ => rfl)) pa_nil)))) (pa_cons (pe_callS (ok__law_less T B) (hr.mono (by decide)) (by rfl) T.g__law_less T.F__law_less.kp T.b__law_less (fun σ => passAt (takes_of rfl rfl rfl rfl) σ) (by exact (pa_cons (pe_ix (ix_any K) (pv 1) pe_int (fun _ _ => rfl)) (pa_cons (pe_ix (ix_any K) (pv 0) pe_int (fun _ _ => rfl)) pa_nil)))) pa_nil)))))
    (pss_one (ps_ret (pe_tup (pa_cons (pe_callS (ok__law_less T B) (hr.mono (by decide)) (by rfl) T.g__law_less T.F__law_less.kp T.b__law_less (fun σ => passAt (takes_of rfl rfl rfl rfl) σ) (by exact (pa_cons (pe_ix (ix_any K) (pv 0) pe_int (fun _ _ => rfl)) (pa_cons (pe_callS (ok__law_times T B) (hr.mono (by decide)) (by rfl) T.g__law_times T.F__law_times.kp T.b__law_times (fun σ => passAt (takes_of rfl rfl rfl rfl) σ) (by exact (pa_cons (pv 2) (pa_cons (pe_ix (ix_any K) (pv 0) pe_int (fun _ _ => rfl)) pa_nil)))) pa_nil)))) (pa_cons (pv 2) pa_nil))))))), ?_⟩
    repeat walk_at "rd"
    refine rd_eqD h1.dp g1.dp rfl rfl ?_
    rw [eqv_t]
    repeat walk_at "rd"
    by_cases heq : p.1 = q.1
    · refine iteP (decide_eq_true heq) ?_
      repeat walk_at "rd"
      exact kn heq _ (.refl _)
    · refine iteN (decide_eq_false heq) ?_
      repeat walk_at "rd"
      refine ⟨_, _, q.2.1, p.2.1, rfl, (by walk_at "fr"), (by walk_at "fr"), .mk' zy' zy, fun d1 H1 s1 hd1 => ?_⟩
      repeat walk_at "rd"
      refine ⟨_, _, q.1, p.1, rfl, (by walk_at "fr"), (by walk_at "fr"), .mk' zx' zx, fun d2 H2 s2 hd2 => ?_⟩
      repeat walk_at "rd"
      have hne : q.1 - p.1 ≠ 0 := fun z => heq (by
        have : q.1 - p.1 + p.1 = 0 + p.1 := by rw [z]
        rw [Rat.sub_add_cancel, Rat.zero_add] at this
        exact this.symm)
      refine ⟨_, _, _, _, rfl, (by walk_at "fr"), (by walk_at "fr"), .mk' (zy'.sub zy) (zx'.sub zx), hne, fun sl H3 s3 hsl => ?_⟩
      repeat walk_at "rd"
      have zs := (zy'.sub zy).dvd (zx'.sub zx) hne
      refine ⟨_, _, _, _, rfl, (by walk_at "fr"), (by walk_at "fr"), .mk' zs zx, fun m H4 s4 hm => ?_⟩
      repeat walk_at "rd"
      refine ⟨_, _, _, _, rfl, (by walk_at "fr"), (by walk_at "fr"), .mk' zy (zs.mul zx), fun hh H5 s5 hh5 => ?_⟩
      repeat walk_at "rd"
      refine rd_mk le2 fun r H6 hr6 s6 hx6 => ?_
      exact kt heq _ H6 (s1.trans (s2.trans (s3.trans (s4.trans (s5.trans s6))))) ⟨r, _, _, rfl, SqT.of hx6, hh5.up s6, hsl.up (s4.trans (s5.trans s6))⟩
def sp__law_small (K : PySem.W.Frag) (a : Ad) : Sp := fun vs H Q E => ∃ (p : Addr), vs = [.ref p] ∧ PotAt H p ∧ ∀ v q H', Kp p H H' → FrT H' v q → Sz 8 q → Q v H'
theorem ok__law_small (T : Txt K mg a) (B : Tbs base mg a) : FnOk P w K mg base (L2.CX P w) 3 a.f__law_small a.d__law_small ["_law_pot_here"] (sp__law_small K a) := by
  refine T.F__law_small.okX sc__law_small (fun vs H Q E h => ?_) (fun cdv A outer s H vs Q E hr h => ?_)
  · obtain ⟨p, rfl, hp, k⟩ := h
    rfl
  · have hu := hu64 hr
    obtain ⟨p, rfl, hp, k⟩ := h
    refine ⟨_, (pss_one (ps_ret (pe_callS (ok__law_low T B) (hr.mono (by decide)) (by rfl) T.g__law_low T.F__law_low.kp T.b__law_low (fun σ => passAt (takes_of rfl rfl rfl rfl) σ) (by exact (pa_cons (pe_op op_sub (pe_callS (ok__law_draw T B) (hr.mono (by decide)) (by rfl) T.g__law_draw T.F__law_draw.kp T.b__law_draw (fun σ => passAt (takes_of rfl rfl rfl rfl) σ) (by exact (pa_cons (pv 0) (pa_cons pe_int pa_nil)))) pe_int) (pa_cons (pe_op (op_addA K) pe_int (pe_callS (ok__law_draw T B) (hr.mono (by decide)) (by rfl) T.g__law_draw T.F__law_draw.kp T.b__law_draw (fun σ => passAt (takes_of rfl rfl rfl rfl) σ) (by exact (pa_cons (pv 0) (pa_cons pe_int pa_nil))))) pa_nil)))))), ?_⟩
    repeat walk_at "rd"
    refine ⟨p, _, rfl, hp, ⟨by decide, by decide +kernel⟩, fun d1 H1 a0 a1 k1 => ?_⟩
    repeat walk_at "rd"
    refine ⟨p, _, rfl, k1.new, ⟨by decide, by decide +kernel⟩, fun d2 H2 b0 b1 k2 => ?_⟩
    repeat walk_at "rd"
    refine ⟨_, _, rfl, ⟨by omega, pow_up (n := 8) (by omega) (by decide)⟩, fun v H3 s3 hv => ?_⟩
    exact k v _ H3 ((k1.trans k2).tos s3) hv (Sz.div (by omega) (pow_up (n := 8) (by omega) (by decide)) (pow_up (n := 8) (by omega) (by decide)))
def sp__law_great (K : PySem.W.Frag) (a : Ad) : Sp := fun vs H Q E => ∃ (p : Addr) (m : Int), vs = [.ref p, .int m] ∧ PotAt H p ∧ (0 < m ∧ m.natAbs < 2 ^ 8990) ∧ ∀ d H', 0 ≤ d → d < m → Kp p H H' → Q (.int d) H'
theorem ok__law_great (T : Txt K mg a) (B : Tbs base mg a) : FnOk P w K mg base (L2.CX P w) 3 a.f__law_great a.d__law_great ["_law_pot_here", "_law_many"] (sp__law_great K a) := by
  refine T.F__law_great.okX sc__law_great (fun vs H Q E h => ?_) (fun cdv A outer s H vs Q E hr h => ?_)
  · obtain ⟨p, m, rfl, hp, ⟨hm, hm2⟩, k⟩ := h
    rfl
  · have hu := hu64 hr
    obtain ⟨p, m, rfl, hp, ⟨hm, hm2⟩, k⟩ := h
    refine ⟨_, (pss_cons (ps_if (pt_cmpR op_gt (pe_ix (ix_any K) (pv 0) pe_int (fun _ _ => rfl)) pe_int (nomark _)) (pss_one (ps_ret (pe_callS (ok__law_draw T B) (hr.mono (by decide)) (by rfl) T.g__law_draw T.F__law_draw.kp T.b__law_draw (fun σ => passAt (takes_of rfl rfl rfl rfl) σ) (by exact (pa_cons (pv 0) (pa_cons (pv 1) pa_nil)))))) pss_nil)
    (pss_cons (ps_set (i := 2) sc__law_great.nd rfl (by first | exact Or.inl rfl | exact Or.inr rfl) pe_int)
    (pss_cons (ps_for (passes_of rfl) rfl (pi_range1 (by rfl) T.z_range (pa_cons pe_int pa_nil)) (pg_name (i := 3) sc__law_great.nd rfl (by first | exact Or.inl rfl | exact Or.inr rfl)) (pss_one (ps_set (i := 2) sc__law_great.nd rfl (by first | exact Or.inl rfl | exact Or.inr rfl) (pe_op (op_addA K) (pe_op op_mulW (pv 2) pe_int) (pe_callS (ok__law_draw T B) (hr.mono (by decide)) (by rfl) T.g__law_draw T.F__law_draw.kp T.b__law_draw (fun σ => passAt (takes_of rfl rfl rfl rfl) σ) (by exact (pa_cons (pv 0) (pa_cons pe_int pa_nil))))))))
    (pss_one (ps_ret (pe_op op_mod (pv 2) (pv 1))))))), ?_⟩
    obtain ⟨x, y, hx, h0, h1, h2⟩ := id hp
    repeat walk_at "rd"
    refine rd_ixL hx rfl ?_
    repeat walk_at "rd"
    by_cases hg : 0 < x
    · refine iteP (decide_eq_true hg) ?_
      repeat walk_at "rd"
      exact ⟨p, m, rfl, hp, ⟨hm, hm2⟩, k⟩
    · refine iteN (decide_eq_false hg) ?_
      repeat walk_at "rd"
      refine ⟨by decide, by decide, ?_⟩
      refine for_range (n := 7) (fun i σ H' => ∃ (f : Int) (v : Option V), σ = [some (.ref p), some (.int m), some (.int f), v] ∧ Kp p H H' ∧ f.natAbs < 2 ^ (32 * i + 1)) ⟨0, none, rfl, Kp.refl hp, by decide⟩ ?_ ?_
      · rintro i σ H1 hi ⟨f, v, rfl, kp, hf⟩
        repeat walk_at "rd"
        refine rd_mul (cm hf (m := 32) (by decide) (by omega) (by decide) (by omega)) ?_
        repeat walk_at "rd"
        refine ⟨p, _, rfl, kp.new, ⟨by decide, by decide⟩, fun d H2 d0 d1 k2 => ?_⟩
        repeat walk_at "rd"
        refine ⟨_, _, rfl, kp.trans k2, great_step hf d0 d1⟩
      · rintro σ H1 ⟨f, v, rfl, kp, hf⟩
        repeat walk_at "rd"
        have r := mod_rng (i := f) hm
        exact k _ _ r.1 r.2 kp
def sp__law_far (K : PySem.W.Frag) (a : Ad) : Sp := fun vs H Q E => ∃ (p : Addr), vs = [.ref p] ∧ PotAt H p ∧ ∀ v q H', Kp p H H' → FrT H' v q → Sz 200 q → Q v H'
theorem ok__law_far (T : Txt K mg a) (B : Tbs base mg a) : FnOk P w K mg base (L2.CX P w) 4 a.f__law_far a.d__law_far ["_law_pot_here"] (sp__law_far K a) := by
  refine T.F__law_far.okX sc__law_far (fun vs H Q E h => ?_) (fun cdv A outer s H vs Q E hr h => ?_)
  · obtain ⟨p, rfl, hp, k⟩ := h
    rfl
  · have hu := hu64 hr
    obtain ⟨p, rfl, hp, k⟩ := h
    refine ⟨_, (pss_one (ps_ret (pe_callS (ok__law_low T B) (hr.mono (by decide)) (by rfl) T.g__law_low T.F__law_low.kp T.b__law_low (fun σ => passAt (takes_of rfl rfl rfl rfl) σ) (by exact (pa_cons (pe_op (op_addA K) (pe_op op_sub (pe_callS (ok__law_great T B) (hr.mono (by decide)) (by rfl) T.g__law_great T.F__law_great.kp T.b__law_great (fun σ => passAt (takes_of rfl rfl rfl rfl) σ) (by exact (pa_cons (pv 0) (pa_cons (pe_op op_sub (pe_op op_mulW pe_int (pe_op op_pow pe_int pe_int)) pe_int) pa_nil)))) (pe_op op_pow pe_int pe_int)) pe_int) (pa_cons (pe_op (op_addA K) pe_int (pe_callS (ok__law_great T B) (hr.mono (by decide)) (by rfl) T.g__law_great T.F__law_great.kp T.b__law_great (fun σ => passAt (takes_of rfl rfl rfl rfl) σ) (by exact (pa_cons (pv 0) (pa_cons (pe_op op_sub (pe_op op_pow pe_int pe_int) pe_int) pa_nil))))) pa_nil)))))), ?_⟩
    repeat walk_at "rd"
    refine rd_pow ⟨by decide, by decide, by decide⟩ ?_
    refine rd_mul (cm (n := 8) (m := 256) (by decide) (by rw [p59]; decide +kernel)) ?_
    repeat walk_at "rd"
    refine ⟨p, _, rfl, hp, ⟨by rw [p59]; decide +kernel, by rw [p59]; exact pow_up (n := 256) (by decide +kernel) (by decide)⟩, fun d1 H1 a0 a1 k1 => ?_⟩
    rw [p59] at a1
    repeat walk_at "rd"
    refine rd_pow ⟨by decide, by decide, by decide⟩ ?_
    repeat walk_at "rd"
    rw [p59]
    refine rd_pow ⟨by decide, by decide, by decide⟩ ?_
    repeat walk_at "rd"
    rw [p59]
    refine ⟨p, _, rfl, k1.new, ⟨by decide +kernel, pow_up (n := 256) (by decide +kernel) (by decide)⟩, fun d2 H2 b0 b1 k2 => ?_⟩
    repeat walk_at "rd"
    refine ⟨_, _, rfl, ⟨by omega, pow_up (n := 199) (by omega) (by decide)⟩, fun v H3 s3 hv => ?_⟩
    exact k v _ H3 ((k1.trans k2).tos s3) hv (Sz.div (by omega) (pow_up (n := 199) (by omega) (by decide)) (pow_up (n := 199) (by omega) (by decide)))
def sp__law_plus (K : PySem.W.Frag) (a : Ad) : Sp := fun vs H Q E => ∃ v w q r, vs = [v, w] ∧ Fr K H v q ∧ Fr K H w r ∧ SzP q r ∧ ∀ x H', Sm H H' → Fr K H' x (q + r) → Q x H'
theorem ok__law_plus (T : Txt K mg a) (B : Tbs base mg a) : FnOk P w K mg base (L2.CX P w) 3 a.f__law_plus a.d__law_plus ["_law_one", "_law_other"] (sp__law_plus K a) := by
  refine T.F__law_plus.okX sc__law_plus (fun vs H Q E h => ?_) (fun cdv A outer s H vs Q E hr h => ?_)
  · obtain ⟨v, w, q, r, rfl, hv, hw, zz, k⟩ := h
    rfl
  · have hu := hu64 hr
    obtain ⟨v, w, q, r, rfl, hv, hw, zz, k⟩ := h
    refine ⟨_, (pss_one (ps_ret (pe_callS (ok__law_low T B) (hr.mono (by decide)) (by rfl) T.g__law_low T.F__law_low.kp T.b__law_low (fun σ => passAt (takes_of rfl rfl rfl rfl) σ) (by exact (pa_cons (pe_op (op_addA K) (pe_op op_mulW (pe_ix (ix_any K) (pv 0) pe_int (fun _ _ => rfl)) (pe_ix (ix_any K) (pv 1) pe_int (fun _ _ => rfl))) (pe_op op_mulW (pe_ix (ix_any K) (pv 1) pe_int (fun _ _ => rfl)) (pe_ix (ix_any K) (pv 0) pe_int (fun _ _ => rfl)))) (pa_cons (pe_op op_mulW (pe_ix (ix_any K) (pv 0) pe_int (fun _ _ => rfl)) (pe_ix (ix_any K) (pv 1) pe_int (fun _ _ => rfl))) pa_nil)))))), ?_⟩
    repeat walk_at "rd"
    refine rd_mul zz.nd ?_
    repeat walk_at "rd"
    refine rd_mul zz.nd2 ?_
    repeat walk_at "rd"
    refine rd_mul zz.de ?_
    repeat walk_at "rd"
    refine ⟨_, _, rfl, ⟨Int.mul_ne_zero (den_ne q) (den_ne r), zz.lt⟩, fun x H1 s1 hx => ?_⟩
    rw [add_as] at hx
    exact k x H1 s1 hx.fr
def sp__law_any_line (K : PySem.W.Frag) (a : Ad) : Sp := fun vs H Q E => ∃ (p l : Addr), ∃ ws ps, vs = [.ref p, .ref l] ∧ PotAt H p ∧ l ≠ p ∧ H l = some (.lst ws) ∧ Each (Pt K H) ws ps ∧ (1 ≤ ps.length ∧ ps.length ≤ 12) ∧ (∀ q ∈ ps, Sz 200 q.1 ∧ Sz 200 q.2.1) ∧ ∀ v h s H', Kp p H H' → Two K H' v h s → Q v H'
theorem ok__law_any_line (T : Txt K mg a) (B : Tbs base mg a) : FnOk P w K mg base (L2.CX P w) 5 a.f__law_any_line a.d__law_any_line ["_law_pot_here", "_law_points_here"] (sp__law_any_line K a) := by
  refine T.F__law_any_line.okX sc__law_any_line (fun vs H Q E h => ?_) (fun cdv A outer s H vs Q E hr h => ?_)
  · obtain ⟨p, l, ws, ps, rfl, hp, hne, hx, he, ⟨n0, n1⟩, hz, k⟩ := h
    rfl
  · have hu := hu64 hr
    obtain ⟨p, l, ws, ps, rfl, hp, hne, hx, he, ⟨n0, n1⟩, hz, k⟩ := h
    refine ⟨_, (pss_cons (ps_set (i := 2) sc__law_any_line.nd rfl (by first | exact Or.inl rfl | exact Or.inr rfl) (pe_callS (ok__law_draw T B) (hr.mono (by decide)) (by rfl) T.g__law_draw T.F__law_draw.kp T.b__law_draw (fun σ => passAt (takes_of rfl rfl rfl rfl) σ) (by exact (pa_cons (pv 0) (pa_cons pe_int pa_nil)))))
    (pss_cons (ps_set (i := 3) sc__law_any_line.nd rfl (by first | exact Or.inl rfl | exact Or.inr rfl) (pe_ix (ix_any K) (pv 1) (pe_callS (ok__law_draw T B) (hr.mono (by decide)) (by rfl) T.g__law_draw T.F__law_draw.kp T.b__law_draw (fun σ => passAt (takes_of rfl rfl rfl rfl) σ) (by exact (pa_cons (pv 0) (pa_cons (pe_callB (call_lenA K) (by rfl) T.z_len bt_len (pa_cons (pv 1) pa_nil)) pa_nil)))) (fun _ _ => rfl)))
    (pss_cutE (ps_if (pt_cmpR op_lt (pv 2) pe_int (nomark _)) (pss_cons (ps_set (i := 4) sc__law_any_line.nd rfl (by first | exact Or.inl rfl | exact Or.inr rfl) (pe_callS (ok__law_through T B) (hr.mono (by decide)) (by rfl) T.g__law_through T.F__law_through.kp T.b__law_through (fun σ => passAt (takes_of rfl rfl rfl rfl) σ) (by exact (pa_cons (pv 3) (pa_cons (pe_ix (ix_any K) (pv 1) (pe_callS (ok__law_draw T B) (hr.mono (by decide)) (by rfl) T.g__law_draw T.F__law_draw.kp T.b__law_draw (fun σ => passAt (takes_of rfl rfl rfl rfl) σ) (by exact (pa_cons (pv 0) (pa_cons (pe_callB (call_lenA K) (by rfl) T.z_len bt_len (pa_cons (pv 1) pa_nil)) pa_nil)))) (fun _ _ => rfl)) pa_nil)))))
    (pss_one (ps_if (pt_cmpR op_notN (pv 4) pe_non (nomark _)) (pss_one (ps_ret (pe_tup (pa_cons (pe_callS (ok__law_plus T B) (hr.mono (by decide)) (by rfl) T.g__law_plus T.F__law_plus.kp T.b__law_plus (fun σ => passAt (takes_of rfl rfl rfl rfl) σ) (by exact (pa_cons (pe_ix (ix_any K) (pv 4) pe_int (fun _ _ => rfl)) (pa_cons (pe_ix (ix_any K) (pe_lst (pa_cons (pe_tup (pa_cons pe_int (pa_cons pe_int pa_nil))) (pa_cons (pe_callS (ok__law_small T B) (hr.mono (by decide)) (by rfl) T.g__law_small T.F__law_small.kp T.b__law_small (fun σ => passAt (takes_of rfl rfl rfl rfl) σ) (by exact (pa_cons (pv 0) pa_nil))) pa_nil))) (pv 2) (fun _ _ => rfl)) pa_nil)))) (pa_cons (pe_ix (ix_any K) (pv 4) pe_int (fun _ _ => rfl)) pa_nil))))) pss_nil))) pss_nil)
    (pss_cons (ps_if (pt_cmpR op_lt (pv 2) pe_int (nomark _)) (pss_cons (ps_set (i := 5) sc__law_any_line.nd rfl (by first | exact Or.inl rfl | exact Or.inr rfl) (pe_callS (ok__law_small T B) (hr.mono (by decide)) (by rfl) T.g__law_small T.F__law_small.kp T.b__law_small (fun σ => passAt (takes_of rfl rfl rfl rfl) σ) (by exact (pa_cons (pv 0) pa_nil))))
    (pss_one (ps_ret (pe_tup (pa_cons (pe_callS (ok__law_less T B) (hr.mono (by decide)) (by rfl) T.g__law_less T.F__law_less.kp T.b__law_less (fun σ => passAt (takes_of rfl rfl rfl rfl) σ) (by exact (pa_cons (pe_ix (ix_any K) (pv 3) pe_int (fun _ _ => rfl)) (pa_cons (pe_callS (ok__law_times T B) (hr.mono (by decide)) (by rfl) T.g__law_times T.F__law_times.kp T.b__law_times (fun σ => passAt (takes_of rfl rfl rfl rfl) σ) (by exact (pa_cons (pv 5) (pa_cons (pe_ix (ix_any K) (pv 3) pe_int (fun _ _ => rfl)) pa_nil)))) pa_nil)))) (pa_cons (pv 5) pa_nil)))))) pss_nil)
    (pss_cons (ps_if (pt_cmpR (op_eqA K (by exact hu)) (pv 2) pe_int (nomark _)) (pss_one (ps_ret (pe_tup (pa_cons (pe_callS (ok__law_small T B) (hr.mono (by decide)) (by rfl) T.g__law_small T.F__law_small.kp T.b__law_small (fun σ => passAt (takes_of rfl rfl rfl rfl) σ) (by exact (pa_cons (pv 0) pa_nil))) (pa_cons (pe_callS (ok__law_small T B) (hr.mono (by decide)) (by rfl) T.g__law_small T.F__law_small.kp T.b__law_small (fun σ => passAt (takes_of rfl rfl rfl rfl) σ) (by exact (pa_cons (pv 0) pa_nil))) pa_nil))))) pss_nil)
    (pss_one (ps_ret (pe_tup (pa_cons (pe_callS (ok__law_far T B) (hr.mono (by decide)) (by rfl) T.g__law_far T.F__law_far.kp T.b__law_far (fun σ => passAt (takes_of rfl rfl rfl rfl) σ) (by exact (pa_cons (pv 0) pa_nil))) (pa_cons (pe_callS (ok__law_far T B) (hr.mono (by decide)) (by rfl) T.g__law_far T.F__law_far.kp T.b__law_far (fun σ => passAt (takes_of rfl rfl rfl rfl) σ) (by exact (pa_cons (pv 0) pa_nil))) pa_nil)))))))))), ?_⟩
    have hz' : ∀ q ∈ ps, Sz 210 q.1 ∧ Sz 210 q.2.1 := fun q hq => ⟨(hz q hq).1.mono (by decide), (hz q hq).2.mono (by decide)⟩
    repeat walk_at "rd"
    refine ⟨p, _, rfl, hp, ⟨by decide, by decide +kernel⟩, fun way H1 a0 a1 k1 => ?_⟩
    repeat walk_at "rd"
    have hx1 := k1.at hx hne
    have hwl := he.len
    refine rd_lenL (SqL.of hx1) ?_
    repeat walk_at "rd"
    refine ⟨p, _, rfl, k1.new, ⟨by omega, pow_up (n := 16) (by omega) (by decide)⟩, fun d H2 b0 b1 k2 => ?_⟩
    repeat walk_at "rd"
    have hx2 := k2.at hx1 hne
    have he2 := he.imp fun _ _ z => (Pt.kp k2 (Pt.kp k1 z))
    obtain ⟨v1, q1, hv1, hq1, f1⟩ := pick he2 b0 b1
    refine rd_ixL hx2 hv1 ?_
    repeat walk_at "rd"
    have k12 := k1.trans k2
    obtain ⟨z1x, z1y⟩ := hz _ hq1
    refine rd_cut (fun σ' H' => ∃ x4, σ' = [some (.ref p), some (.ref l), some (.int way), some v1, x4, none] ∧ Kp p H H' ∧ Pt K H' v1 q1) ?_ ?_
    · repeat walk_at "rd"
      by_cases h2 : way < 2
      · refine iteP (decide_eq_true h2) ?_
        repeat walk_at "rd"
        refine rd_lenL (SqL.of hx2) ?_
        repeat walk_at "rd"
        refine ⟨p, _, rfl, k2.new, ⟨by omega, pow_up (n := 16) (by omega) (by decide)⟩, fun d' H3 c0 c1 k3 => ?_⟩
        repeat walk_at "rd"
        have hx3 := k3.at hx2 hne
        have he3 := he2.imp fun _ _ => Pt.kp k3
        obtain ⟨v2, q2, hv2, hq2, f2⟩ := pick he3 c0 c1
        refine rd_ixL hx3 hv2 ?_
        repeat walk_at "rd"
        refine ⟨v1, v2, q1, q2, rfl, f1.kp k3, f2, hz' _ hq1, hz' _ hq2, fun _ H4 s4 => ?_, fun hne4 u H4 s4 hu => ?_⟩
        · repeat walk_at "rd"
          refine ⟨rfl, ?_⟩
          repeat walk_at "rd"
          refine iteN rfl ?_
          repeat walk_at "rd"
          exact ⟨_, rfl, (k12.trans k3).tos s4, (f1.kp k3).sm s4⟩
        · repeat walk_at "rd"
          refine ⟨rfl, ?_⟩
          repeat walk_at "rd"
          obtain ⟨zh, zs⟩ := thr_sz hne4 (hz' _ hq1) (hz' _ hq2)
          generalize (thr q1 q2).1 = h at hu zh
          generalize (thr q1 q2).2 = s' at hu zs
          obtain ⟨aa, u1, u2, rfl, hsu, g1, g2⟩ := hu
          refine iteP rfl ?_
          repeat walk_at "rd"
          refine rd_mk le2 fun t1 H5 ht1 s5 hx5 => ?_
          repeat walk_at "rd"
          have k5 := ((k12.trans k3).tos s4).tos s5
          refine ⟨p, rfl, k5.new, fun v3 r H6 k6 f6 z6 => ?_⟩
          repeat walk_at "rd"
          refine rd_mk le2 fun t2 H7 ht2 s7 hx7 => ?_
          repeat walk_at "rd"
          refine rd_ixAny hx7 a0 (by show way < 2; exact h2) fun v hv => ?_
          obtain ⟨qv, fv, zv⟩ : ∃ q, Fr K H7 v q ∧ Sz 8 q := by
            rcases List.mem_cons.mp hv with rfl | hv
            · exact ⟨0, fr_of (SqT.of (s7.g (k6.tup hx5))) rfl rfl, by decide +kernel, by decide +kernel⟩
            · rw [List.mem_singleton.mp hv]
              exact ⟨r, f6.fr.up s7, z6⟩
          have g1' : Fr K H7 u1 h := ((g1.up s5).kp k6).up s7
          have g2' : Fr K H7 u2 s' := ((g2.up s5).kp k6).up s7
          have hsu' : SqT K H7 aa [u1, u2] := sqt_up s7 (k6.sqt (sqt_up s5 hsu))
          repeat walk_at "rd"
          refine ⟨_, _, h, qv, rfl, g1', fv, .mk' zh zv, fun w H8 s8 hw => ?_⟩
          repeat walk_at "rd"
          refine rd_mk le2 fun t3 H9 ht3 s9 hx9 => ?_
          exact k _ _ _ H9 (((k5.trans k6).tos s7).tos (s8.trans s9)) ⟨t3, _, _, rfl, SqT.of hx9, hw.up s9, g2'.up (s8.trans s9)⟩
      · refine iteN (decide_eq_false h2) ?_
        repeat walk_at "rd"
        exact ⟨_, rfl, k12, f1⟩
    · rintro σ' H3 ⟨x4, rfl, k3, f3⟩
      repeat walk_at "rd"
      by_cases h3 : way < 3
      · refine iteP (decide_eq_true h3) ?_
        repeat walk_at "rd"
        refine ⟨p, rfl, k3.new, fun sl r H4 k4 f4 z4 => ?_⟩
        obtain ⟨aa, vx, vy, vw, rfl, hsq, g1, g2, g3⟩ := f3.kp k4
        have f4' : Fr K H4 sl r := f4.fr
        repeat walk_at "rd"
        refine ⟨_, _, r, q1.1, rfl, (by walk_at "fr"), (by walk_at "fr"), .mk' z4 z1x, fun m H5 s5 hm => ?_⟩
        repeat walk_at "rd"
        refine ⟨_, _, q1.2.1, _, rfl, (by walk_at "fr"), (by walk_at "fr"), .mk' z1y (z4.mul z1x), fun m2 H6 s6 hm2 => ?_⟩
        repeat walk_at "rd"
        refine rd_mk le2 fun t3 H7 ht3 s7 hx7 => ?_
        exact k _ _ _ H7 ((k3.trans k4).tos (s5.trans (s6.trans s7))) ⟨t3, _, _, rfl, SqT.of hx7, hm2.up s7, f4'.up (s5.trans (s6.trans s7))⟩
      · refine iteN (decide_eq_false h3) ?_
        repeat walk_at "rd"
        by_cases h4 : way = 3
        · refine iteP (decide_eq_true h4) ?_
          repeat walk_at "rd"
          refine ⟨p, rfl, k3.new, fun u1 r H4 k4 f4 z4 => ?_⟩
          repeat walk_at "rd"
          refine ⟨p, rfl, k4.new, fun u2 r2 H5 k5 f5 z5 => ?_⟩
          repeat walk_at "rd"
          refine rd_mk le2 fun t3 H7 ht3 s7 hx7 => ?_
          exact k _ _ _ H7 (((k3.trans k4).trans k5).tos s7) ⟨t3, _, _, rfl, SqT.of hx7, (f4.fr.kp k5).up s7, f5.fr.up s7⟩
        · refine iteN (decide_eq_false h4) ?_
          repeat walk_at "rd"
          refine ⟨p, rfl, k3.new, fun u1 r H4 k4 f4 z4 => ?_⟩
          repeat walk_at "rd"
          refine ⟨p, rfl, k4.new, fun u2 r2 H5 k5 f5 z5 => ?_⟩
          repeat walk_at "rd"
          refine rd_mk le2 fun t3 H7 ht3 s7 hx7 => ?_
          exact k _ _ _ H7 (((k3.trans k4).trans k5).tos s7) ⟨t3, _, _, rfl, SqT.of hx7, (f4.fr.kp k5).up s7, f5.fr.up s7⟩
def sp__law_cell (K : PySem.W.Frag) (a : Ad) : Sp := fun vs H Q E => ∃ (s : Addr) (i : Int) (ns : List Int), vs = [.ref s, .int i] ∧ SqL K H s (ns.map V.int) ∧ 0 ≤ i ∧ ∀ z, Q (.int z) H
theorem ok__law_cell (T : Txt K mg a) (B : Tbs base mg a) : FnOk P w K mg base (L2.CX P w) 2 a.f__law_cell a.d__law_cell ["_law_script", "_law_k"] (sp__law_cell K a) := by
  refine T.F__law_cell.okX sc__law_cell (fun vs H Q E h => ?_) (fun cdv A outer s H vs Q E hr h => ?_)
  · obtain ⟨s, i, ns, rfl, hs, h0, k⟩ := h
    rfl
  · have hu := hu64 hr
    obtain ⟨s, i, ns, rfl, hs, h0, k⟩ := h
    refine ⟨_, (pss_cons (ps_if (pt_cmpR op_lt (pv 1) (pe_callB (call_lenA K) (by rfl) T.z_len bt_len (pa_cons (pv 0) pa_nil)) (nomark _)) (pss_one (ps_ret (pe_ix (ix_any K) (pv 0) (pv 1) (fun _ _ => rfl)))) pss_nil)
    (pss_one (ps_ret pe_int))), ?_⟩
    repeat walk_at "rd"
    refine rd_lenL hs ?_
    repeat walk_at "rd"
    by_cases hi : i < ((ns.map V.int).length : Int)
    · refine iteP (decide_eq_true hi) ?_
      rw [List.length_map] at hi
      repeat walk_at "rd"
      refine rd_ixSL hs (v := .int (ns[i.toNat]'(by omega))) ?_ ?_
      · refine at_of (j := i.toNat) (by omega) ?_
        rw [List.getElem?_map, List.getElem?_eq_getElem (by omega)]
        rfl
      · exact k _
    · refine iteN (decide_eq_false hi) ?_
      repeat walk_at "rd"
      exact k _
def sp__law_pot (K : PySem.W.Frag) (a : Ad) : Sp := fun vs H Q E => ∃ c : Int, vs = [.int c] ∧ ∀ p H', H p = none → Sm H H' → PotAt H' p → Q (.ref p) H'
theorem ok__law_pot (T : Txt K mg a) (B : Tbs base mg a) : FnOk P w K mg base (L2.CX P w) 2 a.f__law_pot a.d__law_pot ["_law_cell_here"] (sp__law_pot K a) := by
  refine T.F__law_pot.okX sc__law_pot (fun vs H Q E h => ?_) (fun cdv A outer s H vs Q E hr h => ?_)
  · obtain ⟨c, rfl, k⟩ := h
    rfl
  · have hu := hu64 hr
    obtain ⟨c, rfl, k⟩ := h
    refine ⟨_, (pss_one (ps_ret (pe_lst (pa_cons (pe_callB (call_max2 rfl) (by rfl) T.z_max bt_max (pa_cons pe_int (pa_cons (pe_op op_sub (pe_callB (call_abs) (by rfl) T.z_abs bt_abs (pa_cons (pv 0) pa_nil)) (pe_op op_pow pe_int pe_int)) pa_nil))) (pa_cons (pe_op (op_addA K) (pe_op op_mod (pe_callB (call_abs) (by rfl) T.z_abs bt_abs (pa_cons (pv 0) pa_nil)) pe_int) pe_int) pa_nil))))), ?_⟩
    repeat walk_at "rd"
    refine rd_pow ⟨by decide, by decide, by decide⟩ ?_
    repeat walk_at "rd"
    refine rd_mk le2 fun p H1 hp s1 hx => ?_
    refine k p H1 hp s1 ⟨_, _, hx, ?_, ?_, ?_⟩
    · split <;> omega
    · omega
    · omega
def sp__law_above_nought (K : PySem.W.Frag) (a : Ad) : Sp := fun vs H Q E => ∃ (p : Addr), vs = [.ref p] ∧ PotAt H p ∧ ∀ v q H', Kp p H H' → Fr K H' v q → 0 < q → Sz 200 q → Q v H'
theorem ok__law_above_nought (T : Txt K mg a) (B : Tbs base mg a) : FnOk P w K mg base (L2.CX P w) 4 a.f__law_above_nought a.d__law_above_nought ["_law_pot_here"] (sp__law_above_nought K a) := by
  refine T.F__law_above_nought.okX sc__law_above_nought (fun vs H Q E h => ?_) (fun cdv A outer s H vs Q E hr h => ?_)
  · obtain ⟨p, rfl, hp, k⟩ := h
    rfl
  · have hu := hu64 hr
    obtain ⟨p, rfl, hp, k⟩ := h
    refine ⟨_, (pss_cons (ps_set (i := 1) sc__law_above_nought.nd rfl (by first | exact Or.inl rfl | exact Or.inr rfl) (pe_callS (ok__law_draw T B) (hr.mono (by decide)) (by rfl) T.g__law_draw T.F__law_draw.kp T.b__law_draw (fun σ => passAt (takes_of rfl rfl rfl rfl) σ) (by exact (pa_cons (pv 0) (pa_cons pe_int pa_nil)))))
    (pss_cons (ps_if (pt_cmpR op_lt (pv 1) pe_int (nomark _)) (pss_one (ps_ret (pe_tup (pa_cons pe_int (pa_cons pe_int pa_nil))))) pss_nil)
    (pss_cons (ps_if (pt_cmpR op_lt (pv 1) pe_int (nomark _)) (pss_one (ps_ret (pe_callS (ok__law_low T B) (hr.mono (by decide)) (by rfl) T.g__law_low T.F__law_low.kp T.b__law_low (fun σ => passAt (takes_of rfl rfl rfl rfl) σ) (by exact (pa_cons (pe_op (op_addA K) pe_int (pe_callS (ok__law_draw T B) (hr.mono (by decide)) (by rfl) T.g__law_draw T.F__law_draw.kp T.b__law_draw (fun σ => passAt (takes_of rfl rfl rfl rfl) σ) (by exact (pa_cons (pv 0) (pa_cons pe_int pa_nil))))) (pa_cons (pe_op (op_addA K) pe_int (pe_callS (ok__law_draw T B) (hr.mono (by decide)) (by rfl) T.g__law_draw T.F__law_draw.kp T.b__law_draw (fun σ => passAt (takes_of rfl rfl rfl rfl) σ) (by exact (pa_cons (pv 0) (pa_cons pe_int pa_nil))))) pa_nil)))))) pss_nil)
    (pss_one (ps_ret (pe_callS (ok__law_low T B) (hr.mono (by decide)) (by rfl) T.g__law_low T.F__law_low.kp T.b__law_low (fun σ => passAt (takes_of rfl rfl rfl rfl) σ) (by exact (pa_cons (pe_op (op_addA K) pe_int (pe_callS (ok__law_great T B) (hr.mono (by decide)) (by rfl) T.g__law_great T.F__law_great.kp T.b__law_great (fun σ => passAt (takes_of rfl rfl rfl rfl) σ) (by exact (pa_cons (pv 0) (pa_cons (pe_op op_sub (pe_op op_pow pe_int pe_int) pe_int) pa_nil))))) (pa_cons (pe_op (op_addA K) pe_int (pe_callS (ok__law_great T B) (hr.mono (by decide)) (by rfl) T.g__law_great T.F__law_great.kp T.b__law_great (fun σ => passAt (takes_of rfl rfl rfl rfl) σ) (by exact (pa_cons (pv 0) (pa_cons (pe_op op_sub (pe_op op_pow pe_int pe_int) pe_int) pa_nil))))) pa_nil))))))))), ?_⟩
    repeat walk_at "rd"
    refine ⟨p, _, rfl, hp, ⟨by decide, by decide +kernel⟩, fun d1 H1 a0 a1 k1 => ?_⟩
    repeat walk_at "rd"
    by_cases h2 : d1 < 2
    · refine iteP (decide_eq_true h2) ?_
      repeat walk_at "rd"
      refine rd_mk le2 fun r H2 hr2 s2 hx2 => ?_
      exact k _ 1 H2 (k1.tos s2) ⟨r, rfl, SqT.of hx2⟩ one_pos ⟨by decide +kernel, by decide +kernel⟩
    · refine iteN (decide_eq_false h2) ?_
      repeat walk_at "rd"
      by_cases h5 : d1 < 5
      · refine iteP (decide_eq_true h5) ?_
        repeat walk_at "rd"
        refine ⟨p, _, rfl, k1.new, ⟨by decide, by decide +kernel⟩, fun d2 H2 b0 b1 k2 => ?_⟩
        repeat walk_at "rd"
        refine ⟨p, _, rfl, k2.new, ⟨by decide, by decide +kernel⟩, fun d3 H3 c0 c1 k3 => ?_⟩
        repeat walk_at "rd"
        refine ⟨_, _, rfl, ⟨by omega, pow_up (n := 8) (by omega) (by decide)⟩, fun v H4 s4 hv => ?_⟩
        exact k v _ H4 (((k1.trans k2).trans k3).tos s4) hv.fr (divInt_pos (by omega) (by omega)) (Sz.div (by omega) (pow_up (n := 8) (by omega) (by decide)) (pow_up (n := 8) (by omega) (by decide)))
      · refine iteN (decide_eq_false h5) ?_
        repeat walk_at "rd"
        refine rd_pow ⟨by decide, by decide, by decide⟩ ?_
        repeat walk_at "rd"
        rw [p60]
        refine ⟨p, _, rfl, k1.new, ⟨by decide +kernel, pow_up (n := 256) (by decide +kernel) (by decide)⟩, fun d2 H2 b0 b1 k2 => ?_⟩
        repeat walk_at "rd"
        refine rd_pow ⟨by decide, by decide, by decide⟩ ?_
        repeat walk_at "rd"
        rw [p60]
        refine ⟨p, _, rfl, k2.new, ⟨by decide +kernel, pow_up (n := 256) (by decide +kernel) (by decide)⟩, fun d3 H3 c0 c1 k3 => ?_⟩
        repeat walk_at "rd"
        refine ⟨_, _, rfl, ⟨by omega, pow_up (n := 200) (by omega) (by decide)⟩, fun v H4 s4 hv => ?_⟩
        exact k v _ H4 (((k1.trans k2).trans k3).tos s4) hv.fr (divInt_pos (by omega) (by omega)) (Sz.div (by omega) (by omega) (by omega))
def sp__law_spot (K : PySem.W.Frag) (a : Ad) : Sp := fun vs H Q E => ∃ (p : Addr) (m : Int), ∃ ln h s, vs = [.ref p, .int m, ln] ∧ PotAt H p ∧ Two K H ln h s ∧ Sz 8 h ∧ Sz 8 s ∧ ∀ v x y H', Kp p H H' → Two K H' v x y → (m ≠ 4 → Sz 8 x ∧ Sz 40 y) → (m = 4 → Sz 200 x ∧ Sz 200 y) → Q v H'
theorem ok__law_spot (T : Txt K mg a) (B : Tbs base mg a) : FnOk P w K mg base (L2.CX P w) 5 a.f__law_spot a.d__law_spot ["_law_pot_here", "_law_manner", "_law_line_here"] (sp__law_spot K a) := by
  refine T.F__law_spot.okX sc__law_spot (fun vs H Q E h => ?_) (fun cdv A outer s H vs Q E hr h => ?_)
  · obtain ⟨p, m, ln, h, s', rfl, hp, hln, zh, zs, k⟩ := h
    rfl
  · have hu := hu64 hr
    obtain ⟨p, m, ln, h, s', rfl, hp, hln, zh, zs, k⟩ := h
    refine ⟨_, (pss_cons (ps_if (pt_cmpR op_lt (pv 1) pe_int (nomark _)) (pss_one (ps_ret (pe_tup (pa_cons (pe_tup (pa_cons (pe_op op_sub (pe_callS (ok__law_draw T B) (hr.mono (by decide)) (by rfl) T.g__law_draw T.F__law_draw.kp T.b__law_draw (fun σ => passAt (takes_of rfl rfl rfl rfl) σ) (by exact (pa_cons (pv 0) (pa_cons pe_int pa_nil)))) pe_int) (pa_cons pe_int pa_nil))) (pa_cons (pe_tup (pa_cons (pe_op op_sub (pe_callS (ok__law_draw T B) (hr.mono (by decide)) (by rfl) T.g__law_draw T.F__law_draw.kp T.b__law_draw (fun σ => passAt (takes_of rfl rfl rfl rfl) σ) (by exact (pa_cons (pv 0) (pa_cons pe_int pa_nil)))) pe_int) (pa_cons pe_int pa_nil))) pa_nil))))) pss_nil)
    (pss_cons (ps_if (pt_cmpR (op_eqA K (by exact hu)) (pv 1) pe_int (nomark _)) (pss_one (ps_ret (pe_tup (pa_cons (pe_callS (ok__law_small T B) (hr.mono (by decide)) (by rfl) T.g__law_small T.F__law_small.kp T.b__law_small (fun σ => passAt (takes_of rfl rfl rfl rfl) σ) (by exact (pa_cons (pv 0) pa_nil))) (pa_cons (pe_callS (ok__law_small T B) (hr.mono (by decide)) (by rfl) T.g__law_small T.F__law_small.kp T.b__law_small (fun σ => passAt (takes_of rfl rfl rfl rfl) σ) (by exact (pa_cons (pv 0) pa_nil))) pa_nil))))) pss_nil)
    (pss_cons (ps_if (pt_cmpR (op_eqA K (by exact hu)) (pv 1) pe_int (nomark _)) (pss_cons (ps_set (i := 3) sc__law_spot.nd rfl (by first | exact Or.inl rfl | exact Or.inr rfl) (pe_tup (pa_cons (pe_op op_sub (pe_callS (ok__law_draw T B) (hr.mono (by decide)) (by rfl) T.g__law_draw T.F__law_draw.kp T.b__law_draw (fun σ => passAt (takes_of rfl rfl rfl rfl) σ) (by exact (pa_cons (pv 0) (pa_cons pe_int pa_nil)))) pe_int) (pa_cons pe_int pa_nil))))
    (pss_cons (ps_set (i := 4) sc__law_spot.nd rfl (by first | exact Or.inl rfl | exact Or.inr rfl) (pe_callS (ok__law_plus T B) (hr.mono (by decide)) (by rfl) T.g__law_plus T.F__law_plus.kp T.b__law_plus (fun σ => passAt (takes_of rfl rfl rfl rfl) σ) (by exact (pa_cons (pe_ix (ix_any K) (pv 2) pe_int (fun _ _ => rfl)) (pa_cons (pe_callS (ok__law_times T B) (hr.mono (by decide)) (by rfl) T.g__law_times T.F__law_times.kp T.b__law_times (fun σ => passAt (takes_of rfl rfl rfl rfl) σ) (by exact (pa_cons (pe_ix (ix_any K) (pv 2) pe_int (fun _ _ => rfl)) (pa_cons (pv 3) pa_nil)))) pa_nil)))))
    (pss_one (ps_ret (pe_tup (pa_cons (pv 3) (pa_cons (pe_callS (ok__law_plus T B) (hr.mono (by decide)) (by rfl) T.g__law_plus T.F__law_plus.kp T.b__law_plus (fun σ => passAt (takes_of rfl rfl rfl rfl) σ) (by exact (pa_cons (pv 4) (pa_cons (pe_tup (pa_cons (pe_callTy my_int1 (by rfl) T.z_int bt_int (pa_cons (pe_cmpR (op_eqA K (by exact hu)) (pe_callS (ok__law_draw T B) (hr.mono (by decide)) (by rfl) T.g__law_draw T.F__law_draw.kp T.b__law_draw (fun σ => passAt (takes_of rfl rfl rfl rfl) σ) (by exact (pa_cons (pv 0) (pa_cons pe_int pa_nil)))) pe_int (nomark _)) pa_nil)) (pa_cons pe_int pa_nil))) pa_nil)))) pa_nil))))))) pss_nil)
    (pss_cons (ps_if (pt_cmpR (op_eqA K (by exact hu)) (pv 1) pe_int (nomark _)) (pss_one (ps_ret (pe_tup (pa_cons (pe_callS (ok__law_far T B) (hr.mono (by decide)) (by rfl) T.g__law_far T.F__law_far.kp T.b__law_far (fun σ => passAt (takes_of rfl rfl rfl rfl) σ) (by exact (pa_cons (pv 0) pa_nil))) (pa_cons (pe_callS (ok__law_far T B) (hr.mono (by decide)) (by rfl) T.g__law_far T.F__law_far.kp T.b__law_far (fun σ => passAt (takes_of rfl rfl rfl rfl) σ) (by exact (pa_cons (pv 0) pa_nil))) pa_nil))))) pss_nil)
    (pss_one (ps_ret (pe_tup (pa_cons (pe_tup (pa_cons (pe_callTy my_int1 (by rfl) T.z_int bt_int (pa_cons (pe_cmpR (op_eqA K (by exact hu)) (pe_callS (ok__law_draw T B) (hr.mono (by decide)) (by rfl) T.g__law_draw T.F__law_draw.kp T.b__law_draw (fun σ => passAt (takes_of rfl rfl rfl rfl) σ) (by exact (pa_cons (pv 0) (pa_cons pe_int pa_nil)))) pe_int (nomark _)) pa_nil)) (pa_cons pe_int pa_nil))) (pa_cons (pe_tup (pa_cons (pe_op op_sub (pe_callS (ok__law_draw T B) (hr.mono (by decide)) (by rfl) T.g__law_draw T.F__law_draw.kp T.b__law_draw (fun σ => passAt (takes_of rfl rfl rfl rfl) σ) (by exact (pa_cons (pv 0) (pa_cons pe_int pa_nil)))) pe_int) (pa_cons pe_int pa_nil))) pa_nil))))))))), ?_⟩
    repeat walk_at "rd"
    by_cases h2 : m < 2
    · refine iteP (decide_eq_true h2) ?_
      repeat walk_at "rd"
      refine ⟨p, _, rfl, hp, ⟨by decide, by decide +kernel⟩, fun d1 H1 a0 a1 k1 => ?_⟩
      repeat walk_at "rd"
      refine rd_mk le2 fun t1 H2 ht1 s2 hx2 => ?_
      repeat walk_at "rd"
      refine ⟨p, _, rfl, k1.new.up s2, ⟨by decide, by decide +kernel⟩, fun d2 H3 b0 b1 k3 => ?_⟩
      repeat walk_at "rd"
      refine rd_mk le2 fun t2 H4 ht2 s4 hx4 => ?_
      repeat walk_at "rd"
      refine rd_mk le2 fun t3 H5 ht3 s5 hx5 => ?_
      refine k _ _ _ H5 (((((k1.tos s2).trans k3).tos s4).tos s5)) ⟨t3, _, _, rfl, SqT.of hx5, (((fr_int (SqT.of hx2)).kp k3).up s4).up s5, (fr_int (SqT.of hx4)).up s5⟩ (fun _ => ⟨sz_int (pow_up (n := 8) (by omega) (by decide)), sz_int (pow_up (n := 8) (by omega) (by decide))⟩) (fun z => by omega)
    · refine iteN (decide_eq_false h2) ?_
      repeat walk_at "rd"
      by_cases h3 : m = 2
      · refine iteP (decide_eq_true h3) ?_
        repeat walk_at "rd"
        refine ⟨p, rfl, hp, fun v1 q H1 k1 f1 z1 => ?_⟩
        repeat walk_at "rd"
        refine ⟨p, rfl, k1.new, fun v2 r H2 k2 f2 z2 => ?_⟩
        repeat walk_at "rd"
        refine rd_mk le2 fun t3 H5 ht3 s5 hx5 => ?_
        exact k _ _ _ H5 ((k1.trans k2).tos s5) ⟨t3, _, _, rfl, SqT.of hx5, (f1.fr.kp k2).up s5, f2.fr.up s5⟩ (fun _ => ⟨z1.mono (by decide), z2.mono (by decide)⟩) (fun z => by omega)
      · refine iteN (decide_eq_false h3) ?_
        repeat walk_at "rd"
        by_cases h4 : m = 3
        · refine iteP (decide_eq_true h4) ?_
          repeat walk_at "rd"
          refine ⟨p, _, rfl, hp, ⟨by decide, by decide +kernel⟩, fun d1 H1 a0 a1 k1 => ?_⟩
          repeat walk_at "rd"
          refine rd_mk le2 fun t1 H2 ht1 s2 hx2 => ?_
          have fx : Fr K H2 (.ref t1) ((d1 - 4 : Int) : Rat) := fr_int (SqT.of hx2)
          have zx : Sz 8 ((d1 - 4 : Int) : Rat) := sz_int (by omega)
          obtain ⟨aa, u1, u2, rfl, hs, g1, g2⟩ := (hln.kp k1).sm s2
          repeat walk_at "rd"
          refine ⟨_, _, _, _, rfl, (by walk_at "fr"), fx, .mk' zs zx, fun w1 H3 s3 hw1 => ?_⟩
          repeat walk_at "rd"
          refine ⟨_, _, _, _, rfl, (by walk_at "fr"), (by walk_at "fr"), .mk' zh (zs.mul zx), fun w2 H4 s4 hw2 => ?_⟩
          repeat walk_at "rd"
          refine ⟨p, _, rfl, (k1.new.up s2).up (s3.trans s4), ⟨by decide, by decide +kernel⟩, fun d2 H5 b0 b1 k5 => ?_⟩
          repeat walk_at "rd"
          have bb : 0 ≤ (if decide (d2 = 0) = true then (1 : Int) else 0) ∧ (if decide (d2 = 0) = true then (1 : Int) else 0) ≤ 1 := by split <;> omega
          generalize (if decide (d2 = 0) = true then (1 : Int) else 0) = bt at bb ⊢
          refine rd_mk le2 fun t4 H6 ht6 s6 hx6 => ?_
          repeat walk_at "rd"
          have zb : Sz 8 (bt : Rat) := sz_int (by omega)
          have zy := zh.add (zs.mul zx)
          refine ⟨_, _, _, _, rfl, (hw2.kp k5).up s6, fr_int (SqT.of hx6), .mk' zy zb, fun w3 H7 s7 hw3 => ?_⟩
          repeat walk_at "rd"
          refine rd_mk le2 fun t5 H8 ht8 s8 hx8 => ?_
          exact k _ _ _ H8 ((((((k1.tos s2).tos (s3.trans s4)).trans k5).tos s6).tos s7).tos s8) ⟨t5, _, _, rfl, SqT.of hx8, ((((fx.up (s3.trans s4)).kp k5).up s6).up s7).up s8, hw3.up s8⟩ (fun _ => ⟨zx.mono (by decide), (zy.add zb).mono (by decide)⟩) (fun z => by omega)
        · refine iteN (decide_eq_false h4) ?_
          repeat walk_at "rd"
          by_cases h5 : m = 4
          · refine iteP (decide_eq_true h5) ?_
            repeat walk_at "rd"
            refine ⟨p, rfl, hp, fun v1 q H1 k1 f1 z1 => ?_⟩
            repeat walk_at "rd"
            refine ⟨p, rfl, k1.new, fun v2 r H2 k2 f2 z2 => ?_⟩
            repeat walk_at "rd"
            refine rd_mk le2 fun t3 H5 ht3 s5 hx5 => ?_
            exact k _ _ _ H5 ((k1.trans k2).tos s5) ⟨t3, _, _, rfl, SqT.of hx5, (f1.fr.kp k2).up s5, f2.fr.up s5⟩ (fun z => (z h5).elim) (fun _ => ⟨z1, z2⟩)
          · refine iteN (decide_eq_false h5) ?_
            repeat walk_at "rd"
            refine ⟨p, _, rfl, hp, ⟨by decide, by decide +kernel⟩, fun d1 H1 a0 a1 k1 => ?_⟩
            repeat walk_at "rd"
            have bb : 0 ≤ (if decide (d1 = 0) = true then (1 : Int) else 0) ∧ (if decide (d1 = 0) = true then (1 : Int) else 0) ≤ 1 := by split <;> omega
            generalize (if decide (d1 = 0) = true then (1 : Int) else 0) = bt at bb ⊢
            refine rd_mk le2 fun t1 H2 ht1 s2 hx2 => ?_
            repeat walk_at "rd"
            refine ⟨p, _, rfl, k1.new.up s2, ⟨by decide, by decide +kernel⟩, fun d2 H3 b0 b1 k3 => ?_⟩
            repeat walk_at "rd"
            refine rd_mk le2 fun t2 H4 ht2 s4 hx4 => ?_
            repeat walk_at "rd"
            refine rd_mk le2 fun t3 H5 ht3 s5 hx5 => ?_
            exact k _ _ _ H5 ((((k1.tos s2).trans k3).tos s4).tos s5) ⟨t3, _, _, rfl, SqT.of hx5, (((fr_int (SqT.of hx2)).kp k3).up s4).up s5, (fr_int (SqT.of hx4)).up s5⟩ (fun _ => ⟨sz_int (pow_up (n := 8) (by omega) (by decide)), sz_int (pow_up (n := 8) (by omega) (by decide))⟩) (fun z => by omega)
def sp__law_points (K : PySem.W.Frag) (a : Ad) : Sp := fun vs H Q E => ∃ (p : Addr) (most : Int), vs = [.ref p, .int most] ∧ PotAt H p ∧ (1 ≤ most ∧ most ≤ 1000) ∧ ∀ l ws ps far H', Kp p H H' → H l = none → H' l = some (.lst ws) → Each (Pt K H') ws ps → (1 ≤ ps.length ∧ (ps.length : Int) ≤ most ∧ (far = true → ps.length ≤ 4)) → (∀ q ∈ ps, DrawnP far q) → Q (.ref l) H'
theorem ok__law_points (T : Txt K mg a) (B : Tbs base mg a) : FnOk P w K mg base (L2.CX P w) 6 a.f__law_points a.d__law_points ["_law_pot_here", "_law_most"] (sp__law_points K a) := by
  refine T.F__law_points.okX sc__law_points (fun vs H Q E h => ?_) (fun cdv A outer s H vs Q E hr h => ?_)
  · obtain ⟨p, most, rfl, hp, hm, k⟩ := h
    rfl
  · have hu := hu64 hr
    obtain ⟨p, most, rfl, hp, hm, k⟩ := h
    refine ⟨_, (pss_cons (ps_set (i := 2) sc__law_points.nd rfl (by first | exact Or.inl rfl | exact Or.inr rfl) (pe_callS (ok__law_draw T B) (hr.mono (by decide)) (by rfl) T.g__law_draw T.F__law_draw.kp T.b__law_draw (fun σ => passAt (takes_of rfl rfl rfl rfl) σ) (by exact (pa_cons (pv 0) (pa_cons pe_int pa_nil)))))
    (pss_cons (ps_set (i := 3) sc__law_points.nd rfl (by first | exact Or.inl rfl | exact Or.inr rfl) (pe_tup (pa_cons (pe_callS (ok__law_small T B) (hr.mono (by decide)) (by rfl) T.g__law_small T.F__law_small.kp T.b__law_small (fun σ => passAt (takes_of rfl rfl rfl rfl) σ) (by exact (pa_cons (pv 0) pa_nil))) (pa_cons (pe_callS (ok__law_small T B) (hr.mono (by decide)) (by rfl) T.g__law_small T.F__law_small.kp T.b__law_small (fun σ => passAt (takes_of rfl rfl rfl rfl) σ) (by exact (pa_cons (pv 0) pa_nil))) pa_nil))))
    (pss_cons (ps_set (i := 4) sc__law_points.nd rfl (by first | exact Or.inl rfl | exact Or.inr rfl) (pe_lst pa_nil))
    (pss_cons (ps_for (passes_of rfl) rfl (pi_range1 (by rfl) T.z_range (pa_cons (pe_op (op_addA K) pe_int (pe_callS (ok__law_draw T B) (hr.mono (by decide)) (by rfl) T.g__law_draw T.F__law_draw.kp T.b__law_draw (fun σ => passAt (takes_of rfl rfl rfl rfl) σ) (by exact (pa_cons (pv 0) (pa_cons (pe_ix (ix_any K) (pe_lst (pa_cons (pv 1) (pa_cons (pe_callB (call_min2 rfl) (by rfl) T.z_min bt_min (pa_cons (pv 1) (pa_cons pe_int pa_nil))) pa_nil))) (pe_callTy my_int1 (by rfl) T.z_int bt_int (pa_cons (pe_cmpR (op_eqA K (by exact hu)) (pv 2) pe_int (nomark _)) pa_nil)) (fun _ _ => rfl)) pa_nil))))) pa_nil)) (pg_name (i := 5) sc__law_points.nd rfl (by first | exact Or.inl rfl | exact Or.inr rfl)) (pss_one (ps_if ((pw_and (pt_cmpR (op_neA K (by exact hu)) (pv 4) (pe_lst pa_nil) (nomark _)) (pw_and1 (pt_cmpR (op_eqA K (by exact hu)) (pe_callS (ok__law_draw T B) (hr.mono (by decide)) (by rfl) T.g__law_draw T.F__law_draw.kp T.b__law_draw (fun σ => passAt (takes_of rfl rfl rfl rfl) σ) (by exact (pa_cons (pv 0) (pa_cons pe_int pa_nil)))) pe_int (nomark _))))).pt (pss_one (ps_expr (pe_bm PySem.F.plainAttrs_list PySem.F.slot_list_append PySem.F.type_list_append mt_append (pv 4) (pa_cons (pe_ix (ix_any K) (pv 4) (pe_callS (ok__law_draw T B) (hr.mono (by decide)) (by rfl) T.g__law_draw T.F__law_draw.kp T.b__law_draw (fun σ => passAt (takes_of rfl rfl rfl rfl) σ) (by exact (pa_cons (pv 0) (pa_cons (pe_callB (call_lenA K) (by rfl) T.z_len bt_len (pa_cons (pv 4) pa_nil)) pa_nil)))) (fun _ _ => rfl)) pa_nil)))) (pss_cons (ps_asg (pe_callS (ok__law_spot T B) (hr.mono (by decide)) (by rfl) T.g__law_spot T.F__law_spot.kp T.b__law_spot (fun σ => passAt (takes_of rfl rfl rfl rfl) σ) (by exact (pa_cons (pv 0) (pa_cons (pv 2) (pa_cons (pv 3) pa_nil))))) (my_gtup K 2 rfl (pgs_cons (pg_name (i := 6) sc__law_points.nd rfl (by first | exact Or.inl rfl | exact Or.inr rfl)) (pgs_cons (pg_name (i := 7) sc__law_points.nd rfl (by first | exact Or.inl rfl | exact Or.inr rfl)) pgs_nil))))
    (pss_one (ps_expr (pe_bm PySem.F.plainAttrs_list PySem.F.slot_list_append PySem.F.type_list_append mt_append (pv 4) (pa_cons (pe_tup (pa_cons (pv 6) (pa_cons (pv 7) (pa_cons (pe_ix (ix_any K) (pe_lst (pa_cons (pe_callS (ok__law_above_nought T B) (hr.mono (by decide)) (by rfl) T.g__law_above_nought T.F__law_above_nought.kp T.b__law_above_nought (fun σ => passAt (takes_of rfl rfl rfl rfl) σ) (by exact (pa_cons (pv 0) pa_nil))) (pa_cons (pe_tup (pa_cons (pe_op (op_addA K) pe_int (pe_callS (ok__law_draw T B) (hr.mono (by decide)) (by rfl) T.g__law_draw T.F__law_draw.kp T.b__law_draw (fun σ => passAt (takes_of rfl rfl rfl rfl) σ) (by exact (pa_cons (pv 0) (pa_cons pe_int pa_nil))))) (pa_cons pe_int pa_nil))) pa_nil))) (pe_callTy my_int1 (by rfl) T.z_int bt_int (pa_cons (pe_cmpR (op_eqA K (by exact hu)) (pv 2) pe_int (nomark _)) pa_nil)) (fun _ _ => rfl)) pa_nil)))) pa_nil))))))))
    (pss_one (ps_ret (pv 4))))))), ?_⟩
    repeat walk_at "rd"
    refine ⟨p, _, rfl, hp, ⟨by decide, by decide +kernel⟩, fun m H1 m0 m1 k1 => ?_⟩
    repeat walk_at "rd"
    refine ⟨p, rfl, k1.new, fun v1 h H2 k2 f1 z1 => ?_⟩
    repeat walk_at "rd"
    refine ⟨p, rfl, k2.new, fun v2 s' H3 k3 f2 z2 => ?_⟩
    repeat walk_at "rd"
    refine rd_mk le2 fun tl H4 htl s4 hx4 => ?_
    repeat walk_at "rd"
    refine rd_mk (Nat.zero_le _) fun l H5 hl s5 hx5 => ?_
    repeat walk_at "rd"
    refine rd_mk le2 fun t1 H6 ht1 s6 hx6 => ?_
    repeat walk_at "rd"
    refine rd_ixB hx6 ?_
    obtain ⟨n, en, hn1, hn2, hn3⟩ : ∃ n : Int, (if decide (m = 4) = true then V.int (if 4 < most then 4 else most) else V.int most) = V.int n ∧ 1 ≤ n ∧ n ≤ most ∧ (decide (m = 4) = true → n ≤ 4) := by
      by_cases h4 : m = 4
      · refine ⟨if 4 < most then 4 else most, by rw [if_pos (decide_eq_true h4)], ?_, ?_, fun _ => ?_⟩ <;> split <;> omega
      · exact ⟨most, by rw [if_neg (by simpa using h4)], by omega, by omega, fun z => absurd (of_decide_eq_true z) h4⟩
    rw [en]
    repeat walk_at "rd"
    have kp3 : Kp p H H4 := ((k1.trans k2).trans k3).tos s4
    have hlp : l ≠ p := fun z => by
      obtain ⟨_, _, e, _⟩ := kp3.new
      rw [z, e] at hl; cases hl
    have kp6 : Kp p H4 H6 := Kp.of (s5.trans s6) kp3.new
    refine ⟨p, n, rfl, kp6.new, ⟨by omega, pow_up (n := 16) (by omega) (by decide)⟩, fun d H7 d0 d1 k7 => ?_⟩
    repeat walk_at "rd"
    refine ⟨by omega, by omega, ?_⟩
    have f1' : Fr K H4 v1 h := (f1.fr.kp k3).up s4
    have f2' : Fr K H4 v2 s' := f2.fr.up s4
    refine for_range (n := (1 + d).toNat) (fun i σ H' => ∃ ws ps x1 x2 x3, σ = [some (.ref p), some (.int most), some (.int m), some (.ref tl), some (.ref l), x1, x2, x3] ∧ Kp p H4 H' ∧ H' l = some (.lst ws) ∧ Each (Pt K H') ws ps ∧ ps.length = i ∧ ∀ q ∈ ps, DrawnP (decide (m = 4)) q)
      ⟨[], [], none, none, none, rfl, kp6.trans k7, k7.at (s6.g hx5) hlp, .nil, rfl, fun q hq => absurd hq (by simp)⟩ ?_ ?_
    · rintro i σ H8 hi ⟨ws, ps, x1, x2, x3, rfl, kp8, hx8, he8, hlen, hd⟩
      have fin : ∀ (H' : Hp) (y : V) (q : P3) (x1 x2 x3 : Option V), Kp p H4 H' → H' l = some (.lst ws) → Each (Pt K H') ws ps → Pt K H' y q → DrawnP (decide (m = 4)) q →
          ∃ ws2 ps2 y1 y2 y3, [some (V.ref p), some (.int most), some (.int m), some (.ref tl), some (.ref l), x1, x2, x3] = [some (V.ref p), some (.int most), some (.int m), some (.ref tl), some (.ref l), y1, y2, y3] ∧ Kp p H4 (upd H' l (.lst (ws ++ [y]))) ∧ (upd H' l (.lst (ws ++ [y]))) l = some (.lst ws2) ∧ Each (Pt K (upd H' l (.lst (ws ++ [y])))) ws2 ps2 ∧ ps2.length = i + 1 ∧ ∀ q ∈ ps2, DrawnP (decide (m = 4)) q := fun H' y q x1 x2 x3 a b c dd e =>
        ⟨ws ++ [y], ps ++ [q], x1, x2, x3, rfl, a.lst hl b hlp, upd_same, each_app (c.imp fun _ _ => Pt.tk (tk_lst b)) (dd.tk (tk_lst b)), by rw [List.length_append, hlen]; rfl, fun r hr => (List.mem_append.mp hr).elim (hd r) fun z => by rw [List.mem_singleton.mp z]; exact e⟩
      repeat walk_at "rd"
      refine rd_mk (Nat.zero_le _) fun e0 H9 he0 s9 hx9 => ?_
      repeat walk_at "rd"
      have kp9 := kp8.tos s9
      have hx9' := s9.g hx8
      have he9 := he8.imp fun _ _ => Pt.sm s9
      refine rd_neD (.lst (SqL.of hx9') (dps_of he9)) (.lst (SqL.of hx9) .nil) (shaped_pts ps) rfl ?_
      repeat walk_at "rd"
      by_cases hps : ps = []
      · have e : (!PyData.eqv (.list (ps.map pdP)) (.list [])) = false := by rw [hps]; rfl
        refine iteN e ?_
        refine iteN rfl ?_
        repeat walk_at "rd"
        refine ⟨p, m, .ref tl, h, s', rfl, kp9.new, ⟨tl, v1, v2, rfl, kp9.sqt (SqT.of hx4), f1'.kp kp9, f2'.kp kp9⟩, z1, z2, fun vs' xq yq HA kA tA zs zf => ?_⟩
        obtain ⟨ta, vx, vy, rfl, hta, fx, fy⟩ := tA
        refine rd_gtup hta rfl ?_
        repeat walk_at "rd"
        have hxA := kA.at hx9' hlp
        refine rd_appV rfl hxA ?_
        repeat walk_at "rd"
        refine ⟨p, rfl, kA.new, fun vw qw HB kB fw pw zw => ?_⟩
        repeat walk_at "rd"
        refine ⟨p, _, rfl, kB.new, ⟨by decide, by decide +kernel⟩, fun dw HC c0 c1 kC => ?_⟩
        repeat walk_at "rd"
        refine rd_mk le2 fun tw HD htw sD hxD => ?_
        repeat walk_at "rd"
        refine rd_mk le2 fun tl2 HE htl2 sE hxE => ?_
        repeat walk_at "rd"
        refine rd_ixB hxE ?_
        obtain ⟨wv, ww, ew, fw', hdw⟩ : ∃ wv ww, (if decide (m = 4) = true then V.ref tw else vw) = wv ∧ Fr K HE wv ww ∧ DrawnP (decide (m = 4)) (xq, yq, ww) := by
          by_cases h4 : m = 4
          · refine ⟨_, ((1 + dw : Int) : Rat), by rw [if_pos (decide_eq_true h4)], (fr_int (SqT.of hxD)).up sE, ?_⟩
            rw [decide_eq_true h4]
            exact ⟨(zf h4).1, (zf h4).2, sz_int (by omega), by rw [← num_pos]; show 0 < 1 + dw; omega⟩
          · refine ⟨vw, qw, by rw [if_neg (by simpa using h4)], ((fw.kp kC).up sD).up sE, ?_⟩
            rw [decide_eq_false h4]
            exact ⟨(zs h4).1, (zs h4).2, zw, pw⟩
        rw [ew]
        repeat walk_at "rd"
        refine rd_mk (Nat.le_of_ble_eq_true rfl) fun tp HF htp sF hxF => ?_
        repeat walk_at "rd"
        have kBC := kB.trans kC
        have sDF := (sD.trans sE).trans sF
        have hxF' : HF l = some (.lst ws) := sDF.g (kBC.at hxA hlp)
        refine rd_rApp hxF' (by have := he8.len; omega) ?_
        repeat walk_at "rd"
        exact fin HF _ (xq, yq, ww) _ _ _ ((kp9.trans kA).trans (kBC.tos sDF)) hxF' (he9.imp fun _ _ z => ((z.kp kA).kp kBC).sm sDF) ⟨tp, vx, vy, wv, rfl, SqT.of hxF, (fx.kp kBC).up sDF, (fy.kp kBC).up sDF, fw'.up sF⟩ hdw
      · have e : (!PyData.eqv (.list (ps.map pdP)) (.list [])) = true := by
          cases ps with
          | nil => exact absurd rfl hps
          | cons a b => rfl
        refine iteP e ?_
        repeat walk_at "rd"
        refine ⟨p, _, rfl, kp9.new, ⟨by decide, by decide +kernel⟩, fun d8 HG g0 g1 kG => ?_⟩
        have kpG := kp9.trans kG
        have hxG := kG.at hx9' hlp
        have heG := he9.imp fun _ _ => Pt.kp kG
        repeat walk_at "rd"
        by_cases h8 : d8 = 0
        · refine iteP (decide_eq_true h8) ?_
          repeat walk_at "rd"
          refine rd_appV rfl hxG ?_
          repeat walk_at "rd"
          refine rd_lenL (SqL.of hxG) ?_
          have hwl : 0 < ws.length := by
            rw [← heG.len]
            cases ps with
            | nil => exact absurd rfl hps
            | cons a b => exact Nat.succ_pos _
          have hwl2 : ws.length ≤ 1000 := by have := heG.len; omega
          refine ⟨p, _, rfl, kpG.new, ⟨by omega, pow_up (n := 16) (by omega) (by decide)⟩, fun dd HA a0 a1 kA => ?_⟩
          repeat walk_at "rd"
          have hxA := kA.at hxG hlp
          have hlt : dd.toNat < ws.length := by omega
          refine rd_ixL hxA (v := ws[dd.toNat]'hlt) (at_of (j := dd.toNat) (by omega) (List.getElem?_eq_getElem hlt)) ?_
          repeat walk_at "rd"
          refine rd_rApp hxA (by omega) ?_
          repeat walk_at "rd"
          have heA := heG.imp fun _ _ => Pt.kp kA
          obtain ⟨q, hq, fq⟩ := heA.get (List.getElem?_eq_getElem hlt)
          exact fin HA _ q _ _ _ (kpG.trans kA) hxA heA fq (hd q (List.mem_of_getElem? hq))
        · refine iteN (decide_eq_false h8) ?_
          repeat walk_at "rd"
          refine ⟨p, m, .ref tl, h, s', rfl, kpG.new, ⟨tl, v1, v2, rfl, kpG.sqt (SqT.of hx4), f1'.kp kpG, f2'.kp kpG⟩, z1, z2, fun vs' xq yq HA kA tA zs zf => ?_⟩
          obtain ⟨ta, vx, vy, rfl, hta, fx, fy⟩ := tA
          refine rd_gtup hta rfl ?_
          repeat walk_at "rd"
          have hxA := kA.at hxG hlp
          refine rd_appV rfl hxA ?_
          repeat walk_at "rd"
          refine ⟨p, rfl, kA.new, fun vw qw HB kB fw pw zw => ?_⟩
          repeat walk_at "rd"
          refine ⟨p, _, rfl, kB.new, ⟨by decide, by decide +kernel⟩, fun dw HC c0 c1 kC => ?_⟩
          repeat walk_at "rd"
          refine rd_mk le2 fun tw HD htw sD hxD => ?_
          repeat walk_at "rd"
          refine rd_mk le2 fun tl2 HE htl2 sE hxE => ?_
          repeat walk_at "rd"
          refine rd_ixB hxE ?_
          obtain ⟨wv, ww, ew, fw', hdw⟩ : ∃ wv ww, (if decide (m = 4) = true then V.ref tw else vw) = wv ∧ Fr K HE wv ww ∧ DrawnP (decide (m = 4)) (xq, yq, ww) := by
            by_cases h4 : m = 4
            · refine ⟨_, ((1 + dw : Int) : Rat), by rw [if_pos (decide_eq_true h4)], (fr_int (SqT.of hxD)).up sE, ?_⟩
              rw [decide_eq_true h4]
              exact ⟨(zf h4).1, (zf h4).2, sz_int (by omega), by rw [← num_pos]; show 0 < 1 + dw; omega⟩
            · refine ⟨vw, qw, by rw [if_neg (by simpa using h4)], ((fw.kp kC).up sD).up sE, ?_⟩
              rw [decide_eq_false h4]
              exact ⟨(zs h4).1, (zs h4).2, zw, pw⟩
          rw [ew]
          repeat walk_at "rd"
          refine rd_mk (Nat.le_of_ble_eq_true rfl) fun tp HF htp sF hxF => ?_
          repeat walk_at "rd"
          have kBC := kB.trans kC
          have sDF := (sD.trans sE).trans sF
          have hxF' : HF l = some (.lst ws) := sDF.g (kBC.at hxA hlp)
          refine rd_rApp hxF' (by have := he8.len; omega) ?_
          repeat walk_at "rd"
          exact fin HF _ (xq, yq, ww) _ _ _ ((kpG.trans kA).trans (kBC.tos sDF)) hxF' (heG.imp fun _ _ z => ((z.kp kA).kp kBC).sm sDF) ⟨tp, vx, vy, wv, rfl, SqT.of hxF, (fx.kp kBC).up sDF, (fy.kp kBC).up sDF, fw'.up sF⟩ hdw
    · rintro σ H8 ⟨ws, ps, x1, x2, x3, rfl, kp8, hx8, he8, hlen, hd⟩
      repeat walk_at "rd"
      exact k l ws ps (decide (m = 4)) H8 (kp3.trans kp8) (kp3.free hl) hx8 he8 ⟨by omega, by omega, fun z => by have := hn3 z; omega⟩ hd
def sp__law_stand (K : PySem.W.Frag) (a : Ad) : Sp := fun vs H Q E => ∃ v w h s x, vs = [v, w] ∧ Two K H v h s ∧ Fr K H w x ∧ SzP s x ∧ SzP h (s * x) ∧ ∀ u H', Sm H H' → Fr K H' u (h + s * x) → Q u H'
theorem ok__law_stand (T : Txt K mg a) (B : Tbs base mg a) : FnOk P w K mg base (L2.CX P w) 4 a.f__law_stand a.d__law_stand ["_law_line_here", "_law_x"] (sp__law_stand K a) := by
  refine T.F__law_stand.okX sc__law_stand (fun vs H Q E h => ?_) (fun cdv A outer s H vs Q E hr h => ?_)
  · obtain ⟨v, w, h, s', x, rfl, ⟨aa, v1, v2, rfl, hs, h1, h2⟩, h3, z1, z2, k⟩ := h
    rfl
  · have hu := hu64 hr
    obtain ⟨v, w, h, s', x, rfl, ⟨aa, v1, v2, rfl, hs, h1, h2⟩, h3, z1, z2, k⟩ := h
    refine ⟨_, (pss_one (ps_ret (pe_callS (ok__law_plus T B) (hr.mono (by decide)) (by rfl) T.g__law_plus T.F__law_plus.kp T.b__law_plus (fun σ => passAt (takes_of rfl rfl rfl rfl) σ) (by exact (pa_cons (pe_ix (ix_any K) (pv 0) pe_int (fun _ _ => rfl)) (pa_cons (pe_callS (ok__law_times T B) (hr.mono (by decide)) (by rfl) T.g__law_times T.F__law_times.kp T.b__law_times (fun σ => passAt (takes_of rfl rfl rfl rfl) σ) (by exact (pa_cons (pe_ix (ix_any K) (pv 0) pe_int (fun _ _ => rfl)) (pa_cons (pv 1) pa_nil)))) pa_nil)))))), ?_⟩
    repeat walk_at "rd"
    refine ⟨_, _, _, _, rfl, (by walk_at "fr"), (by walk_at "fr"), z1, fun u H1 s1 hu => ?_⟩
    repeat walk_at "rd"
    refine ⟨_, _, _, _, rfl, (by walk_at "fr"), (by walk_at "fr"), z2, fun u2 H2 s2 hu2 => ?_⟩
    exact k _ _ (s1.trans s2) hu2
def sp__law_rise (K : PySem.W.Frag) (a : Ad) : Sp := fun vs H Q E => ∃ v w p h s, vs = [v, w] ∧ Pt K H v p ∧ Two K H w h s ∧ RiseSz h s p ∧ ∀ u H', Sm H H' → Fr K H' u (riseR h s p) → Q u H'
theorem ok__law_rise (T : Txt K mg a) (B : Tbs base mg a) : FnOk P w K mg base (L2.CX P w) 5 a.f__law_rise a.d__law_rise ["_law_point", "_law_line_here"] (sp__law_rise K a) := by
  refine T.F__law_rise.okX sc__law_rise (fun vs H Q E h => ?_) (fun cdv A outer s H vs Q E hr h => ?_)
  · obtain ⟨v, w, p, h, s', rfl, ⟨aa, vx, vy, vw, rfl, hs, h1, h2, h3⟩, hl, ⟨z1, z2, z3⟩, k⟩ := h
    rfl
  · have hu := hu64 hr
    obtain ⟨v, w, p, h, s', rfl, ⟨aa, vx, vy, vw, rfl, hs, h1, h2, h3⟩, hl, ⟨z1, z2, z3⟩, k⟩ := h
    refine ⟨_, (pss_one (ps_ret (pe_callS (ok__law_less T B) (hr.mono (by decide)) (by rfl) T.g__law_less T.F__law_less.kp T.b__law_less (fun σ => passAt (takes_of rfl rfl rfl rfl) σ) (by exact (pa_cons (pe_ix (ix_any K) (pv 0) pe_int (fun _ _ => rfl)) (pa_cons (pe_callS (ok__law_stand T B) (hr.mono (by decide)) (by rfl) T.g__law_stand T.F__law_stand.kp T.b__law_stand (fun σ => passAt (takes_of rfl rfl rfl rfl) σ) (by exact (pa_cons (pv 1) (pa_cons (pe_ix (ix_any K) (pv 0) pe_int (fun _ _ => rfl)) pa_nil)))) pa_nil)))))), ?_⟩
    repeat walk_at "rd"
    refine ⟨_, _, h, s', p.1, rfl, hl, (by walk_at "fr"), z1, z2, fun u H1 s1 hu => ?_⟩
    repeat walk_at "rd"
    refine ⟨_, _, _, _, rfl, (by walk_at "fr"), (by walk_at "fr"), z3, fun u2 H2 s2 hu2 => ?_⟩
    exact k _ _ (s1.trans s2) hu2
def sp__law_line (K : PySem.W.Frag) (a : Ad) : Sp := fun vs H Q E => ∃ (p l : Addr), ∃ ws ps, vs = [.ref p, .ref l] ∧ PotAt H p ∧ l ≠ p ∧ H l = some (.lst ws) ∧ Each (Pt K H) ws ps ∧ (1 ≤ ps.length ∧ ps.length ≤ 12) ∧ (∀ q ∈ ps, Sz 200 q.1 ∧ Sz 200 q.2.1) ∧ ∀ v h s H', Kp p H H' → Two K H' v h s → Sz 200 h → Sz 200 s → Q v H'
theorem ok__law_line (T : Txt K mg a) (B : Tbs base mg a) : FnOk P w K mg base (L2.CX P w) 6 a.f__law_line a.d__law_line ["_law_pot_here", "_law_points_here"] (sp__law_line K a) := by
  refine T.F__law_line.okX sc__law_line (fun vs H Q E h => ?_) (fun cdv A outer s H vs Q E hr h => ?_)
  · obtain ⟨p, l, ws, ps, rfl, hp, hne, hx, he, hn, hz, k⟩ := h
    rfl
  · have hu := hu64 hr
    obtain ⟨p, l, ws, ps, rfl, hp, hne, hx, he, hn, hz, k⟩ := h
    refine ⟨_, (pss_cons (ps_set (i := 2) sc__law_line.nd rfl (by first | exact Or.inl rfl | exact Or.inr rfl) (pe_callS (ok__law_any_line T B) (hr.mono (by decide)) (by rfl) T.g__law_any_line T.F__law_any_line.kp T.b__law_any_line (fun σ => passAt (takes_of rfl rfl rfl rfl) σ) (by exact (pa_cons (pv 0) (pa_cons (pv 1) pa_nil)))))
    (pss_cons (ps_if (my_truth K (pe_callS (ok__law_short T B) (hr.mono (by decide)) (by rfl) T.g__law_short T.F__law_short.kp T.b__law_short (fun σ => passAt (takes_of rfl rfl rfl rfl) σ) (by exact (pa_cons (pv 2) pa_nil)))) (pss_one (ps_ret (pv 2))) pss_nil)
    (pss_one (ps_ret (pe_tup (pa_cons (pe_callS (ok__law_small T B) (hr.mono (by decide)) (by rfl) T.g__law_small T.F__law_small.kp T.b__law_small (fun σ => passAt (takes_of rfl rfl rfl rfl) σ) (by exact (pa_cons (pv 0) pa_nil))) (pa_cons (pe_callS (ok__law_small T B) (hr.mono (by decide)) (by rfl) T.g__law_small T.F__law_small.kp T.b__law_small (fun σ => passAt (takes_of rfl rfl rfl rfl) σ) (by exact (pa_cons (pv 0) pa_nil))) pa_nil))))))), ?_⟩
    repeat walk_at "rd"
    refine ⟨p, l, ws, ps, rfl, hp, hne, hx, he, hn, hz, fun v h s' H1 k1 h1 => ?_⟩
    repeat walk_at "rd"
    refine ⟨v, h, s', rfl, h1, fun b H2 s2 hb => ?_⟩
    repeat walk_at "rd"
    cases b with
    | true =>
      refine iteP rfl ?_
      repeat walk_at "rd"
      obtain ⟨zh, zs⟩ := hb rfl
      exact k v h s' H2 (k1.tos s2) (h1.sm s2) zh zs
    | false =>
      refine iteN rfl ?_
      repeat walk_at "rd"
      refine ⟨p, rfl, (k1.tos s2).new, fun v1 q H3 k3 f3 z3 => ?_⟩
      repeat walk_at "rd"
      refine ⟨p, rfl, k3.new, fun v2 r H4 k4 f4 z4 => ?_⟩
      repeat walk_at "rd"
      refine rd_mk le2 fun t H5 ht s5 hx5 => ?_
      exact k _ q r H5 ((((k1.tos s2).trans k3).trans k4).tos s5) ⟨t, _, _, rfl, SqT.of hx5, (f3.fr.kp k4).up s5, f4.fr.up s5⟩ (z3.mono (by decide)) (z4.mono (by decide))
def sp__law_is_fraction (K : PySem.W.Frag) (a : Ad) : Sp := fun vs H Q E => ∃ v q, vs = [v] ∧ Fr K H v q ∧ q.den < 2 ^ 8990 ∧ ∀ H', Sm H H' → Q (.bl true) H'
theorem ok__law_is_fraction (T : Txt K mg a) (B : Tbs base mg a) : FnOk P w K mg base (L2.CX P w) 3 a.f__law_is_fraction a.d__law_is_fraction ["_law_found"] (sp__law_is_fraction K a) := by
  refine T.F__law_is_fraction.okX sc__law_is_fraction (fun vs H Q E h => ?_) (fun cdv A outer s H vs Q E hr h => ?_)
  · obtain ⟨v, q, rfl, hv, hz, k⟩ := h
    rfl
  · have hu := hu64 hr
    obtain ⟨v, q, rfl, hv, hz, k⟩ := h
    refine ⟨_, (pss_cons (ps_if ((pw_or (pt_not (my_truth K (pe_callB (my_isi K) (by rfl) T.z_isinstance bt_isinstance (pa_cons (pv 0) (pa_cons (my_ty "tuple" T.z_tuple) pa_nil))))) (pw_or1 (pt_cmpR (op_neA K (by exact hu)) (pe_callB (call_lenA K) (by rfl) T.z_len bt_len (pa_cons (pv 0) pa_nil)) pe_int (nomark _))))).pt (pss_one (ps_ret pe_bl)) pss_nil)
    (pss_cons (ps_if (my_truth K (pe_callB (my_any K rfl) (by rfl) T.z_any bt_any (pa_cons (pe_lc (own := [("_law_part", 1)]) rfl sc__law_is_fraction.nd (my_itup K (pv 0)) (blkOk_by (N := N__law_is_fraction) (sc := defScope s__law_is_fraction) (by decide +kernel)) (fun _ _ _ _ _ => (pg_name (i := 1) sc__law_is_fraction.nd rfl (by first | exact Or.inl rfl | exact Or.inr rfl))) (fun _ _ _ _ _ => pts_nil) (fun _ _ _ _ _ => (pe_or (pe_callB (my_isi K) (by rfl) T.z_isinstance bt_isinstance (pa_cons (pv 1) (pa_cons (my_ty "bool" T.z_bool) pa_nil))) (pe_one (pe_not (pe_callB (my_isi K) (by rfl) T.z_isinstance bt_isinstance (pa_cons (pv 1) (pa_cons (my_ty "int" T.z_int) pa_nil)))))))) pa_nil))) (pss_one (ps_ret pe_bl)) pss_nil)
    (pss_one (ps_ret (pe_and (pe_cmpR op_gt (pe_ix (ix_any K) (pv 0) pe_int (fun _ _ => rfl)) pe_int (nomark _)) (pe_one (pe_cmpR (op_eqA K (by exact hu)) (pe_callS (ok__law_low T B) (hr.mono (by decide)) (by rfl) T.g__law_low T.F__law_low.kp T.b__law_low (fun σ => passAt (takes_of rfl rfl rfl rfl) σ) (by exact (pa_cons (pe_ix (ix_any K) (pv 0) pe_int (fun _ _ => rfl)) (pa_cons (pe_ix (ix_any K) (pv 0) pe_int (fun _ _ => rfl)) pa_nil)))) (pv 0) (nomark _)))))))), ?_⟩
    repeat walk_at "rd"
    refine rd_isi hv.ty (by decide +kernel : kitB "tuple" "tuple" = some true) ?_
    repeat walk_at "rd"
    refine iteN rfl ?_
    repeat walk_at "rd"
    have hv0 := hv
    obtain ⟨fa, rfl, hf⟩ := hv
    refine rd_lenT hf ?_
    repeat walk_at "rd"
    refine iteN rfl ?_
    repeat walk_at "rd"
    refine rd_lcTv rfl hf (Nat.le_of_ble_eq_true rfl) (fun _ => rfl) (fun _ => .bl false) (fun n x H2 hx s2 Q' hQ => ?_) fun D H2 s2 hD => ?_
    · obtain ⟨i, rfl⟩ := two_ints hx
      repeat walk_at "rd"
      refine rd_isi (ty_int i) (by decide +kernel : kitB "int" "bool" = some false) ?_
      repeat walk_at "rd"
      refine iteN rfl ?_
      repeat walk_at "rd"
      refine rd_isi (ty_int i) (by decide +kernel : kitB "int" "int" = some true) ?_
      repeat walk_at "rd"
      exact hQ H2 (Sm.refl _)
    · repeat walk_at "rd"
      refine rd_any (bs := [false, false]) (SqL.of hD) ?_
      repeat walk_at "rd"
      refine iteN rfl ?_
      have h2 := hv0.up s2
      repeat walk_at "rd"
      refine iteP (decide_eq_true (by have := q.den_pos; omega)) ?_
      repeat walk_at "rd"
      refine ⟨q.num, (q.den : Int), rfl, ⟨by have := q.den_pos; omega, by rw [Int.natAbs_natCast]; exact hz⟩, fun u H3 s3 hu => ?_⟩
      rw [Rat.num_divInt_den] at hu
      repeat walk_at "rd"
      refine rd_eqD hu.fr.dp (h2.up s3).dp rfl rfl ?_
      rw [eqv_self]
      exact k H3 (s2.trans s3)
def sp__law_sums (K : PySem.W.Frag) (a : Ad) : Sp := fun vs H Q E => ∃ v w ps h s, vs = [v, w] ∧ Pts K H v ps ∧ Two K H w h s ∧ SumSz h s ps ∧ (∀ p ∈ ps, 0 < p.2.2) ∧ ∀ u H', Sm H H' → Two K H' u (ovU h s ps).1 (ovU h s ps).2 → Q u H'
theorem ok__law_sums (T : Txt K mg a) (B : Tbs base mg a) : FnOk P w K mg base (L2.CX P w) 6 a.f__law_sums a.d__law_sums ["_law_points_here", "_law_line_here"] (sp__law_sums K a) := by
  refine T.F__law_sums.okX sc__law_sums (fun vs H Q E h => ?_) (fun cdv A outer s H vs Q E hr h => ?_)
  · obtain ⟨v, w, ps, h, s', rfl, ⟨l, ws, rfl, hl, hp⟩, hln, hz, hpos, k⟩ := h
    rfl
  · have hu := hu64 hr
    obtain ⟨v, w, ps, h, s', rfl, ⟨l, ws, rfl, hl, hp⟩, hln, hz, hpos, k⟩ := h
    refine ⟨_, (pss_cons (ps_set (i := 2) sc__law_sums.nd rfl (by first | exact Or.inl rfl | exact Or.inr rfl) (pe_tup (pa_cons pe_int (pa_cons pe_int pa_nil))))
    (pss_cons (ps_set (i := 3) sc__law_sums.nd rfl (by first | exact Or.inl rfl | exact Or.inr rfl) (pe_tup (pa_cons pe_int (pa_cons pe_int pa_nil))))
    (pss_cons (ps_for (passes_of rfl) rfl (my_ilist K (pv 0)) (pg_name (i := 4) sc__law_sums.nd rfl (by first | exact Or.inl rfl | exact Or.inr rfl)) (pss_cons (ps_set (i := 5) sc__law_sums.nd rfl (by first | exact Or.inl rfl | exact Or.inr rfl) (pe_callS (ok__law_times T B) (hr.mono (by decide)) (by rfl) T.g__law_times T.F__law_times.kp T.b__law_times (fun σ => passAt (takes_of rfl rfl rfl rfl) σ) (by exact (pa_cons (pe_ix (ix_any K) (pv 4) pe_int (fun _ _ => rfl)) (pa_cons (pe_callS (ok__law_rise T B) (hr.mono (by decide)) (by rfl) T.g__law_rise T.F__law_rise.kp T.b__law_rise (fun σ => passAt (takes_of rfl rfl rfl rfl) σ) (by exact (pa_cons (pv 4) (pa_cons (pv 1) pa_nil)))) pa_nil)))))
    (pss_cons (ps_if (pt_cmpR op_gt (pe_ix (ix_any K) (pv 5) pe_int (fun _ _ => rfl)) pe_int (nomark _)) (pss_one (ps_set (i := 2) sc__law_sums.nd rfl (by first | exact Or.inl rfl | exact Or.inr rfl) (pe_callS (ok__law_plus T B) (hr.mono (by decide)) (by rfl) T.g__law_plus T.F__law_plus.kp T.b__law_plus (fun σ => passAt (takes_of rfl rfl rfl rfl) σ) (by exact (pa_cons (pv 2) (pa_cons (pv 5) pa_nil)))))) pss_nil)
    (pss_one (ps_if (pt_cmpR op_lt (pe_ix (ix_any K) (pv 5) pe_int (fun _ _ => rfl)) pe_int (nomark _)) (pss_one (ps_set (i := 3) sc__law_sums.nd rfl (by first | exact Or.inl rfl | exact Or.inr rfl) (pe_callS (ok__law_less T B) (hr.mono (by decide)) (by rfl) T.g__law_less T.F__law_less.kp T.b__law_less (fun σ => passAt (takes_of rfl rfl rfl rfl) σ) (by exact (pa_cons (pv 3) (pa_cons (pv 5) pa_nil)))))) pss_nil)))))
    (pss_one (ps_ret (pe_tup (pa_cons (pv 2) (pa_cons (pv 3) pa_nil)))))))), ?_⟩
    repeat walk_at "rd"
    refine rd_mk le2 fun t1 H1 ht1 s1 hx1 => ?_
    repeat walk_at "rd"
    refine rd_mk le2 fun t2 H2 ht2 s2 hx2 => ?_
    repeat walk_at "rd"
    have sm2 := s1.trans s2
    refine ⟨_, rfl, l, rfl, ⟨ws, sm2.sql hl⟩, for_list (xs := ws) (fun i σ' H' => ∃ o u x1 x2, σ' = [some (.ref l), some w, some o, some u, x1, x2] ∧ Fr K H' o (ovU h s' (ps.take i)).1 ∧ Fr K H' u (ovU h s' (ps.take i)).2 ∧ Sm H H')
      ⟨_, _, _, _, rfl, fr_of (SqT.of (s2.g hx1)) rfl rfl, fr_of (SqT.of hx2) rfl rfl, sm2⟩ (fun i σ' H' _ p => ?_) (fun i x σ' H' hx p => ?_) (fun σ' H' p => ?_)⟩
    · obtain ⟨o, u, x1, x2, rfl, ho, hu', s3⟩ := p
      exact s3.sql hl
    · obtain ⟨o, u, x1, x2, rfl, ho, hu', s3⟩ := p
      obtain ⟨q, hq, fq⟩ := hp.get hx
      have fq1 := fq.sm s3
      obtain ⟨aa, vx, vy, vw, rfl, hsq, f1, f2, f3⟩ := fq.sm s3
      obtain ⟨rz, z1, z2, z3⟩ := hz i q hq
      have pw := hpos q (List.mem_of_getElem? hq)
      repeat walk_at "rd"
      refine ⟨_, _, q, h, s', rfl, fq1, hln.sm s3, rz, fun ri H4 s4 hri => ?_⟩
      repeat walk_at "rd"
      refine ⟨_, _, q.2.2, riseR h s' q, rfl, (by walk_at "fr"), hri, z1, fun pa H5 s5 hpa => ?_⟩
      repeat walk_at "rd"
      have ho5 := ho.up (s4.trans s5)
      have hu5 := hu'.up (s4.trans s5)
      have s35 := s3.trans (s4.trans s5)
      by_cases h1 : 0 < riseR h s' q
      · have h2 : 0 < q.2.2 * riseR h s' q := Rat.mul_pos pw h1
        have n1 : ¬ q.2.2 * riseR h s' q < 0 := Rat.not_lt.mpr (Rat.le_of_lt h2)
        refine iteP (decide_eq_true (by rw [← num_pos] at h2; exact h2)) ?_
        repeat walk_at "rd"
        refine ⟨_, _, _, _, rfl, ho5, hpa, z2, fun o2 H6 s6 ho2 => ?_⟩
        repeat walk_at "rd"
        have hpa6 : Fr K H6 pa (q.2.2 * riseR h s' q) := hpa.up s6
        repeat walk_at "rd"
        refine iteN (decide_eq_false (by rw [← num_neg] at n1; exact n1)) ?_
        repeat walk_at "rd"
        refine ⟨o2, u, _, _, rfl, ?_, ?_, s35.trans s6⟩
        · rw [ovU_take hq]; unfold ovStep; rw [if_pos h1]; exact ho2
        · rw [ovU_take hq]; unfold ovStep; rw [if_pos h1]; exact hu5.up s6
      · have n1 : ¬ 0 < q.2.2 * riseR h s' q := fun z => h1 ((Rat.mul_pos_iff_of_pos_left pw).mp z)
        refine iteN (decide_eq_false (by rw [← num_pos] at n1; exact n1)) ?_
        repeat walk_at "rd"
        by_cases h2 : q.2.2 * riseR h s' q < 0
        · refine iteP (decide_eq_true (by rw [← num_neg] at h2; exact h2)) ?_
          repeat walk_at "rd"
          refine ⟨_, _, _, _, rfl, hu5, hpa, z3, fun u2 H6 s6 hu2 => ?_⟩
          repeat walk_at "rd"
          refine ⟨o, u2, _, _, rfl, ?_, ?_, s35.trans s6⟩
          · rw [ovU_take hq]; unfold ovStep; rw [if_neg h1]; exact ho5.up s6
          · rw [ovU_take hq]; unfold ovStep; rw [if_neg h1]; exact hu2
        · refine iteN (decide_eq_false (by rw [← num_neg] at h2; exact h2)) ?_
          repeat walk_at "rd"
          have z0 : q.2.2 * riseR h s' q = 0 := Rat.le_antisymm (Rat.not_lt.mp n1) (Rat.not_lt.mp h2)
          refine ⟨o, u, _, _, rfl, ?_, ?_, s35⟩
          · rw [ovU_take hq]; unfold ovStep; rw [if_neg h1]; exact ho5
          · rw [ovU_take hq]; unfold ovStep; rw [if_neg h1, z0, Rat.sub_eq_add_neg, Rat.neg_zero, Rat.add_zero]; exact hu5
    · obtain ⟨o, u, x1, x2, rfl, ho, hu', s3⟩ := p
      repeat walk_at "rd"
      have el : ps.take ws.length = ps := by rw [← hp.len, List.take_length]
      rw [el] at ho hu'
      refine rd_mk le2 fun r H4 hr4 s4 hx4 => ?_
      exact k _ _ (s3.trans s4) ⟨r, o, u, rfl, SqT.of hx4, ho.up s4, hu'.up s4⟩
def sp__law_upside (K : PySem.W.Frag) (a : Ad) : Sp := fun vs H Q E => ∃ v ps, vs = [v] ∧ Pts K H v ps ∧ ps.length ≤ 12 ∧ ∀ D ys H', Sm H H' → H' D = some (.lst ys) → Each (Pt K H') ys (ps.map upP) → Q (.ref D) H'
theorem ok__law_upside (T : Txt K mg a) (B : Tbs base mg a) : FnOk P w K mg base (L2.CX P w) 2 a.f__law_upside a.d__law_upside ["_law_points_here"] (sp__law_upside K a) := by
  refine T.F__law_upside.okX sc__law_upside (fun vs H Q E h => ?_) (fun cdv A outer s H vs Q E hr h => ?_)
  · obtain ⟨v, ps, rfl, ⟨l, ws, rfl, hl, hp⟩, hlen, k⟩ := h
    rfl
  · have hu := hu64 hr
    obtain ⟨v, ps, rfl, ⟨l, ws, rfl, hl, hp⟩, hlen, k⟩ := h
    refine ⟨_, (pss_one (ps_ret (pe_lc (own := [("_law_x", 1), ("_law_y", 2), ("_law_weight", 3)]) rfl sc__law_upside.nd (my_ilist K (pv 0)) (blkOk_by (N := N__law_upside) (sc := defScope s__law_upside) (by decide +kernel)) (fun _ _ _ _ _ => (my_gtup K 3 rfl (pgs_cons (pg_name (i := 1) sc__law_upside.nd rfl (by first | exact Or.inl rfl | exact Or.inr rfl)) (pgs_cons (pg_name (i := 2) sc__law_upside.nd rfl (by first | exact Or.inl rfl | exact Or.inr rfl)) (pgs_cons (pg_name (i := 3) sc__law_upside.nd rfl (by first | exact Or.inl rfl | exact Or.inr rfl)) pgs_nil))))) (fun _ _ _ _ _ => pts_nil) (fun _ _ _ _ _ => (pe_tup (pa_cons (pv 1) (pa_cons (pe_tup (pa_cons (pe_un un_neg (pe_ix (ix_any K) (pv 2) pe_int (fun _ _ => rfl))) (pa_cons (pe_ix (ix_any K) (pv 2) pe_int (fun _ _ => rfl)) pa_nil))) (pa_cons (pv 3) pa_nil)))))))), ?_⟩
    repeat walk_at "rd"
    refine rd_lcLg (xs := ws) (fun i H2 y => ∃ q, ps[i]? = some q ∧ Pt K H2 y (upP q)) (fun i H1 H2 y t ⟨q, e, f⟩ => ⟨q, e, f.tk t⟩) rfl hl (by rw [← hp.len]; omega) (fun n x H3 hx s3 Q' hq => ?_) (fun D zs H3 hD3 s3 hx hlz hzs => ?_)
    · obtain ⟨q, eq, fq⟩ := hp.get hx
      obtain ⟨aa, vx, vy, vw, rfl, hsq, g1, g2, g3⟩ := fq.sm s3
      refine rd_gtup hsq rfl ?_
      repeat walk_at "rd"
      refine ⟨rfl, ?_⟩
      repeat walk_at "rd"
      refine rd_mk le2 fun t1 H4 ht1 s4 hx4 => ?_
      repeat walk_at "rd"
      refine rd_mk (Nat.le_of_ble_eq_true rfl) fun t H5 ht s5 hx5 => ?_
      have hu : Fr K H5 (.ref t1) (-q.2.1) := ⟨t1, rfl, SqT.of (by rw [s5.g hx4, Rat.neg_num, Rat.neg_den])⟩
      exact hq _ H5 (s4.trans s5) ⟨q, eq, t, _, _, _, rfl, SqT.of hx5, g1.up (s4.trans s5), hu, g3.up (s4.trans s5)⟩
    · exact k D zs H3 s3 hx (each_of (by rw [List.length_map, hlz, hp.len]) fun i y e => by
        obtain ⟨q, eq, fq⟩ := hzs i y e
        exact ⟨_, by rw [List.getElem?_map, eq]; rfl, fq⟩)
def sp__law_right (K : PySem.W.Frag) (a : Ad) : Sp := fun vs H Q E => ∃ (l : Addr), ∃ v3 ws ps h s, ∃ at_ : Nat, vs = [.ref l, v3, .int (at_ : Int)] ∧ TG a H ∧ H l = some (.lst ws) ∧ Each (Pt K H) ws ps ∧ GoodPts ps ∧ Bd ps ∧ (∀ p ∈ ps, ps.length < 12 → Bd (ps ++ [p])) ∧ Two K H v3 h s ∧ (Sz 200 h ∧ Sz 200 s) ∧ at_ < ps.length ∧ ∀ H', Sm H H' → Q (.bl true) H'
theorem ok__law_right (T : Txt K mg a) (B : Tbs base mg a) : FnOk P w K mg base (L2.CX P w) 12 a.f__law_right a.d__law_right ["_law_points_here", "_law_line_here", "_law_at"] (sp__law_right K a) := by
  refine T.F__law_right.okX sc__law_right (fun vs H Q E h => ?_) (fun cdv A outer s H vs Q E hr h => ?_)
  · obtain ⟨l, v3, ws, ps, h, s', at_, rfl, tg, hl, he, gp, b, bb, hln, ⟨zh, zs⟩, hat, k⟩ := h
    rfl
  · have hu := hu64 hr
    obtain ⟨l, v3, ws, ps, h, s', at_, rfl, tg, hl, he, gp, b, bb, hln, ⟨zh, zs⟩, hat, k⟩ := h
    refine ⟨_, (pss_cons (ps_set (i := 3) sc__law_right.nd rfl (by first | exact Or.inl rfl | exact Or.inr rfl) (pe_callS (ok__law_sums T B) (hr.mono (by decide)) (by rfl) T.g__law_sums T.F__law_sums.kp T.b__law_sums (fun σ => passAt (takes_of rfl rfl rfl rfl) σ) (by exact (pa_cons (pv 0) (pa_cons (pv 1) pa_nil)))))
    (pss_cons (ps_set (i := 4) sc__law_right.nd rfl (by first | exact Or.inl rfl | exact Or.inr rfl) (pe_callTy (my_list_of K) (by rfl) T.z_list bt_list (pa_cons (pv 0) pa_nil)))
    (pss_cons (ps_set (i := 5) sc__law_right.nd rfl (by first | exact Or.inl rfl | exact Or.inr rfl) (pe_callS (ok_sums T B) (hr.mono (by decide)) (by rfl) T.g_sums T.F_sums.kp T.b_sums (fun σ => passAt (takes_of rfl rfl rfl rfl) σ) (by exact (pa_cons (pv 4) (pa_cons (pv 1) pa_nil)))))
    (pss_cons (ps_if ((pw_or (pt_not (my_truth K (pe_callB (my_isi K) (by rfl) T.z_isinstance bt_isinstance (pa_cons (pv 5) (pa_cons (my_ty "tuple" T.z_tuple) pa_nil))))) (pw_or (pt_cmpR (op_neA K (by exact hu)) (pe_callB (call_lenA K) (by rfl) T.z_len bt_len (pa_cons (pv 5) pa_nil)) pe_int (nomark _)) (pw_or1 (pt_not (my_truth K (pe_callB (my_all K rfl) (by rfl) T.z_all bt_all (pa_cons (pe_lc (own := [("_law_one", 8)]) rfl sc__law_right.nd (my_itup K (pv 5)) (blkOk_by (N := N__law_right) (sc := defScope s__law_right) (by decide +kernel)) (fun _ _ _ _ _ => (pg_name (i := 8) sc__law_right.nd rfl (by first | exact Or.inl rfl | exact Or.inr rfl))) (fun _ _ _ _ _ => pts_nil) (fun _ _ _ _ _ => (pe_call (ok__law_is_fraction T B) (hr.mono (by decide)) (by rfl) T.g__law_is_fraction T.F__law_is_fraction.kp T.b__law_is_fraction .nil passL (pa_cons (pv 8) pa_nil)))) pa_nil)))))))).pt (pss_one (ps_ret pe_bl)) pss_nil)
    (pss_cons (ps_if ((pw_or (pt_cmpR (op_neA K (by exact hu)) (pv 5) (pv 3) (nomark _)) (pw_or (pt_cmpR (op_neA K (by exact hu)) (pe_callS (ok_sums T B) (hr.mono (by decide)) (by rfl) T.g_sums T.F_sums.kp T.b_sums (fun σ => passAt (takes_of rfl rfl rfl rfl) σ) (by exact (pa_cons (pe_op (op_addA K) (pe_slice (my_sl K) (pv 4) (po_some (pv 2)) po_none) (pe_slice (my_sl K) (pv 4) po_none (po_some (pv 2)))) (pa_cons (pv 1) pa_nil)))) (pv 3) (nomark _)) (pw_or1 (pt_cmpR (op_neA K (by exact hu)) (pe_callS (ok_sums T B) (hr.mono (by decide)) (by rfl) T.g_sums T.F_sums.kp T.b_sums (fun σ => passAt (takes_of rfl rfl rfl rfl) σ) (by exact (pa_cons (my_revL K (pv 0)) (pa_cons (pv 1) pa_nil)))) (pv 3) (nomark _)))))).pt (pss_one (ps_ret pe_bl)) pss_nil)
    (pss_cons (ps_set (i := 6) sc__law_right.nd rfl (by first | exact Or.inl rfl | exact Or.inr rfl) (pe_tup (pa_cons (pe_tup (pa_cons (pe_un un_neg (pe_ix (ix_any K) (pe_ix (ix_any K) (pv 1) pe_int (fun _ _ => rfl)) pe_int (fun _ _ => rfl))) (pa_cons (pe_ix (ix_any K) (pe_ix (ix_any K) (pv 1) pe_int (fun _ _ => rfl)) pe_int (fun _ _ => rfl)) pa_nil))) (pa_cons (pe_tup (pa_cons (pe_un un_neg (pe_ix (ix_any K) (pe_ix (ix_any K) (pv 1) pe_int (fun _ _ => rfl)) pe_int (fun _ _ => rfl))) (pa_cons (pe_ix (ix_any K) (pe_ix (ix_any K) (pv 1) pe_int (fun _ _ => rfl)) pe_int (fun _ _ => rfl)) pa_nil))) pa_nil))))
    (pss_cons (ps_if (pt_cmpR (op_neA K (by exact hu)) (pe_callS (ok_sums T B) (hr.mono (by decide)) (by rfl) T.g_sums T.F_sums.kp T.b_sums (fun σ => passAt (takes_of rfl rfl rfl rfl) σ) (by exact (pa_cons (pe_callS (ok__law_upside T B) (hr.mono (by decide)) (by rfl) T.g__law_upside T.F__law_upside.kp T.b__law_upside (fun σ => passAt (takes_of rfl rfl rfl rfl) σ) (by exact (pa_cons (pv 0) pa_nil))) (pa_cons (pv 6) pa_nil)))) (pe_tup (pa_cons (pe_ix (ix_any K) (pv 3) pe_int (fun _ _ => rfl)) (pa_cons (pe_ix (ix_any K) (pv 3) pe_int (fun _ _ => rfl)) pa_nil))) (nomark _)) (pss_one (ps_ret pe_bl)) pss_nil)
    (pss_cutE (ps_if (pt_cmpR op_lt (pe_callB (call_lenA K) (by rfl) T.z_len bt_len (pa_cons (pv 0) pa_nil)) pe_int (nomark _)) (pss_cons (ps_set (i := 7) sc__law_right.nd rfl (by first | exact Or.inl rfl | exact Or.inr rfl) (pe_callS (ok__law_sums T B) (hr.mono (by decide)) (by rfl) T.g__law_sums T.F__law_sums.kp T.b__law_sums (fun σ => passAt (takes_of rfl rfl rfl rfl) σ) (by exact (pa_cons (pe_lst (pa_cons (pe_ix (ix_any K) (pv 0) (pv 2) (fun _ _ => rfl)) pa_nil)) (pa_cons (pv 1) pa_nil)))))
    (pss_one (ps_if (pt_cmpR (op_neA K (by exact hu)) (pe_callS (ok_sums T B) (hr.mono (by decide)) (by rfl) T.g_sums T.F_sums.kp T.b_sums (fun σ => passAt (takes_of rfl rfl rfl rfl) σ) (by exact (pa_cons (pe_op (op_addA K) (pv 0) (pe_lst (pa_cons (pe_ix (ix_any K) (pv 0) (pv 2) (fun _ _ => rfl)) pa_nil))) (pa_cons (pv 1) pa_nil)))) (pe_tup (pa_cons (pe_callS (ok__law_plus T B) (hr.mono (by decide)) (by rfl) T.g__law_plus T.F__law_plus.kp T.b__law_plus (fun σ => passAt (takes_of rfl rfl rfl rfl) σ) (by exact (pa_cons (pe_ix (ix_any K) (pv 3) pe_int (fun _ _ => rfl)) (pa_cons (pe_ix (ix_any K) (pv 7) pe_int (fun _ _ => rfl)) pa_nil)))) (pa_cons (pe_callS (ok__law_plus T B) (hr.mono (by decide)) (by rfl) T.g__law_plus T.F__law_plus.kp T.b__law_plus (fun σ => passAt (takes_of rfl rfl rfl rfl) σ) (by exact (pa_cons (pe_ix (ix_any K) (pv 3) pe_int (fun _ _ => rfl)) (pa_cons (pe_ix (ix_any K) (pv 7) pe_int (fun _ _ => rfl)) pa_nil)))) pa_nil))) (nomark _)) (pss_one (ps_ret pe_bl)) pss_nil))) pss_nil)
    (pss_one (ps_ret (pe_and (pe_cmpR (op_eqA K (by exact hu)) (pv 4) (pv 0) (nomark _)) (pe_one (pe_cmpR (op_eqA K (by exact hu)) (pe_callS (ok_sums T B) (hr.mono (by decide)) (by rfl) T.g_sums T.F_sums.kp T.b_sums (fun σ => passAt (takes_of rfl rfl rfl rfl) σ) (by exact (pa_cons (pv 4) (pa_cons (pv 1) pa_nil)))) (pv 3) (nomark _)))))))))))))), ?_⟩
    have hP : ∀ {H'}, Sm H H' → Pts K H' (.ref l) ps := fun z => ⟨l, ws, rfl, SqL.of (z.g hl), he.imp fun _ _ => Pt.sm z⟩
    have hEach : ∀ {H'}, Sm H H' → Each (Pt K H') ws ps := fun z => he.imp fun _ _ => Pt.sm z
    have hlen12 := b.len
    have hwl := he.len
    have hsz : SumSz h s' ps := b.sum zh zs
    have hden : (ovU h s' ps).1.den < 2 ^ 8990 ∧ (ovU h s' ps).2.den < 2 ^ 8990 := by
      obtain ⟨D, hD, o1, o2⟩ := b.ovA zh zs
      have e : (2 : Nat) ^ 3760 < 2 ^ 8990 := Nat.pow_lt_pow_right (by decide) (by decide)
      exact ⟨Nat.lt_of_le_of_lt (Nat.le_trans o1.sz.1 hD) e, Nat.lt_of_le_of_lt (Nat.le_trans o2.sz.1 hD) e⟩
    repeat walk_at "rd"
    refine ⟨.ref l, v3, ps, h, s', rfl, hP (.refl _), hln, hsz, gp.2.2, fun due H1 s1 hdue => ?_⟩
    repeat walk_at "rd"
    refine rd_listL (SqL.of (s1.g hl)) fun l0 H2 hl0 s2 hx2 => ?_
    repeat walk_at "rd"
    have s02 := s1.trans s2
    have hP0 : ∀ {H'}, Sm H2 H' → Pts K H' (.ref l0) ps := fun z => ⟨l0, ws, rfl, SqL.of (z.g hx2), hEach (s02.trans z)⟩
    refine ⟨.ref l0, v3, true, rfl, tg.up s02, (hP0 (.refl _)).is gp, (fun z => nomatch z), fun _ => ⟨true, (hln.sm s02).is, (fun z => nomatch z), fun _ => ⟨ps, h, s', hP0 (.refl _), hln.sm s02, hsz, fun fo H3 s3 hfo => ?_⟩⟩⟩
    repeat walk_at "rd"
    have s03 := s02.trans s3
    refine rd_isi hfo.ty (by decide +kernel : kitB "tuple" "tuple" = some true) ?_
    repeat walk_at "rd"
    refine iteN rfl ?_
    repeat walk_at "rd"
    have hfo' := hfo
    obtain ⟨fa, f1, f2, rfl, hfs, hf1, hf2⟩ := hfo'
    refine rd_lenT hfs ?_
    repeat walk_at "rd"
    refine iteN rfl ?_
    repeat walk_at "rd"
    refine rd_lcTv rfl hfs (Nat.le_of_ble_eq_true rfl) (fun _ => rfl) (fun _ => .bl true) (fun n x H4 hx s4 Q' hQ => ?_) fun D H4 s4 hD => ?_
    · repeat walk_at "rd"
      match n, hx with
      | 0, hx => cases hx; exact ⟨_, _, rfl, hf1.up s4, hden.1, fun H5 s5 => hQ H5 s5⟩
      | 1, hx => cases hx; exact ⟨_, _, rfl, hf2.up s4, hden.2, fun H5 s5 => hQ H5 s5⟩
      | n + 2, hx => simp at hx
    repeat walk_at "rd"
    refine rd_all (bs := [true, true]) (SqL.of hD) ?_
    repeat walk_at "rd"
    refine iteN rfl ?_
    repeat walk_at "rd"
    have s04 := s03.trans s4
    have s24 := s3.trans s4
    refine rd_neD (hfo.sm s4).dp (hdue.sm (s2.trans s24)).dp rfl rfl ?_
    rw [SeqAt.eqv_refl _ rfl]
    repeat walk_at "rd"
    refine iteN rfl ?_
    repeat walk_at "rd"
    refine rd_slL (SqL.of (s24.g hx2)) fun l1 H5 hl1 s5 hx5 => ?_
    repeat walk_at "rd"
    have s25 := s24.trans s5
    refine rd_slL (SqL.of (s25.g hx2)) fun l2 H6 hl2 s6 hx6 => ?_
    repeat walk_at "rd"
    rw [cut_from ws at_ (by omega)] at hx5
    rw [cut_to ws at_ (by omega)] at hx6
    refine rd_cat (s6.g hx5) hx6 (by rw [List.length_drop, List.length_take]; omega) fun l3 H7 hl3 s7 hx7 => ?_
    repeat walk_at "rd"
    have s26 := s25.trans s6
    have s27 := s26.trans s7
    have s07 := s02.trans s27
    have e1 := rot_perm ps at_
    have b1 := b.perm e1
    have hP1 : Pts K H7 (.ref l3) (ps.drop at_ ++ ps.take at_) := ⟨l3, _, rfl, SqL.of hx7, ((hEach s07).drop at_).app ((hEach s07).take at_)⟩
    refine ⟨.ref l3, v3, true, rfl, tg.up s07, hP1.is (gp.perm e1), (fun z => nomatch z), fun _ => ⟨true, (hln.sm s07).is, (fun z => nomatch z), fun _ => ⟨_, h, s', hP1, hln.sm s07, b1.sum zh zs, fun u8 H8 s8 hu8 => ?_⟩⟩⟩
    rw [ovU_perm e1] at hu8
    repeat walk_at "rd"
    have s08 := s07.trans s8
    refine rd_neD hu8.dp (hdue.sm (s2.trans (s27.trans s8))).dp rfl rfl ?_
    rw [SeqAt.eqv_refl _ rfl]
    repeat walk_at "rd"
    refine iteN rfl ?_
    repeat walk_at "rd"
    refine rd_revS rfl (SqL.of (s08.g hl)) fun l4 H9 hl4 s9 hx9 => ?_
    repeat walk_at "rd"
    have s09 := s08.trans s9
    have e2 : ps.reverse.Perm ps := List.reverse_perm ps
    have b2 := b.perm e2
    have hP2 : Pts K H9 (.ref l4) ps.reverse := ⟨l4, _, rfl, SqL.of hx9, (hEach s09).rev⟩
    refine ⟨.ref l4, v3, true, rfl, tg.up s09, hP2.is (gp.perm e2), (fun z => nomatch z), fun _ => ⟨true, (hln.sm s09).is, (fun z => nomatch z), fun _ => ⟨_, h, s', hP2, hln.sm s09, b2.sum zh zs, fun u10 H10 s10 hu10 => ?_⟩⟩⟩
    rw [ovU_perm e2] at hu10
    repeat walk_at "rd"
    have s010 := s09.trans s10
    have s210 := s27.trans (s8.trans (s9.trans s10))
    have hdue10 := hdue.sm (s2.trans s210)
    refine rd_neD hu10.dp hdue10.dp rfl rfl ?_
    rw [SeqAt.eqv_refl _ rfl]
    repeat walk_at "rd"
    refine iteN rfl ?_
    repeat walk_at "rd"
    obtain ⟨la, l1', l2', rfl, hsl, hl1', hl2'⟩ := hln.sm s010
    obtain ⟨a1, rfl, g1⟩ := hl1'
    obtain ⟨a2, rfl, g2⟩ := hl2'
    repeat walk_at "rd"
    refine rd_mk le2 fun t1 H11 ht1 s11 hx11 => ?_
    have hsl11 := sqt_up s11 hsl
    have g2' := sqt_up s11 g2
    repeat walk_at "rd"
    refine rd_mk le2 fun t2 H12 ht2 s12 hx12 => ?_
    repeat walk_at "rd"
    refine rd_mk le2 fun tn H13 htn s13 hx13 => ?_
    repeat walk_at "rd"
    have s013 := s010.trans (s11.trans (s12.trans s13))
    refine ⟨.ref l, ps, rfl, hP s013, hlen12, fun D3 ys5 H14 s14 hxD3 he5 => ?_⟩
    repeat walk_at "rd"
    have s014 := s013.trans s14
    have hTn : Two K H14 (.ref tn) (-h) (-s') := ⟨tn, .ref t1, .ref t2, rfl, SqT.of (s14.g hx13), ⟨t1, rfl, SqT.of (by rw [(s12.trans (s13.trans s14)).g hx11, Rat.neg_num, Rat.neg_den])⟩, ⟨t2, rfl, SqT.of (by rw [(s13.trans s14).g hx12, Rat.neg_num, Rat.neg_den])⟩⟩
    have hP3 : Pts K H14 (.ref D3) (ps.map upP) := ⟨D3, ys5, rfl, SqL.of hxD3, he5⟩
    have g3 : GoodPts (ps.map upP) := ⟨by rw [List.length_map]; exact gp.1, by rw [List.length_map]; exact gp.2.1, fun p hp => by
      obtain ⟨q, hq, rfl⟩ := List.mem_map.mp hp
      exact gp.2.2 q hq⟩
    refine ⟨.ref D3, .ref tn, true, rfl, tg.up s014, hP3.is g3, (fun z => nomatch z), fun _ => ⟨true, hTn.is, (fun z => nomatch z), fun _ => ⟨_, -h, -s', hP3, hTn, b.up.sum zh.neg zs.neg, fun u15 H15 s15 hu15 => ?_⟩⟩⟩
    rw [ovU_up] at hu15
    repeat walk_at "rd"
    have s1015 := s11.trans (s12.trans (s13.trans (s14.trans s15)))
    have s015 := s014.trans s15
    obtain ⟨da, d1, d2, rfl, hds, hd1, hd2⟩ := hdue10.sm s1015
    repeat walk_at "rd"
    refine rd_mk le2 fun ts H16 hts s16 hx16 => ?_
    repeat walk_at "rd"
    have hsw : Two K H16 (.ref ts) (ovU h s' ps).2 (ovU h s' ps).1 := ⟨ts, d2, d1, rfl, SqT.of hx16, hd2.up s16, hd1.up s16⟩
    refine rd_neD (hu15.sm s16).dp hsw.dp rfl rfl ?_
    rw [SeqAt.eqv_refl _ rfl]
    repeat walk_at "rd"
    refine iteN rfl ?_
    repeat walk_at "rd"
    have s016 := s015.trans s16
    have s216 := s210.trans (s1015.trans s16)
    refine rd_cut (fun σ' H' => ∃ x7, σ' = [some (.ref l), some (.ref la), some (.int (at_ : Int)), some (.ref da), some (.ref l0), some (.ref fa), some (.ref tn), x7, none] ∧ Sm H16 H') ?_ ?_
    · repeat walk_at "rd"
      refine rd_lenL (SqL.of (s016.g hl)) ?_
      repeat walk_at "rd"
      by_cases h12 : (ws.length : Int) < 12
      · refine iteP (decide_eq_true h12) ?_
        repeat walk_at "rd"
        obtain ⟨v, q, hv, hq, fq⟩ := pick (d := (at_ : Int)) (hEach s016) (by omega) (by omega)
        refine rd_ixL (s016.g hl) hv ?_
        repeat walk_at "rd"
        refine rd_mk (Nat.le_of_ble_eq_true rfl) fun l5 H17 hl5 s17 hx17 => ?_
        repeat walk_at "rd"
        have bq : Bd [q] := by
          obtain ⟨kx, ky, kw, N, hall, hl, r⟩ := b
          exact ⟨kx, ky, kw, N, fun p hp => hall p (by rw [List.mem_singleton.mp hp]; exact hq), by show 1 ≤ N; omega, r⟩
        have s017 := s016.trans s17
        refine ⟨.ref l5, .ref la, [q], h, s', rfl, ⟨l5, _, rfl, SqL.of hx17, .cons (fq.sm s17) .nil⟩, hln.sm s017, bq.sum zh zs, fun p hp => by rw [List.mem_singleton.mp hp]; exact gp.2.2 q hq, fun mo H18 s18 hmo => ?_⟩
        repeat walk_at "rd"
        have s018 := s017.trans s18
        refine rd_ixL (s018.g hl) hv ?_
        repeat walk_at "rd"
        refine rd_mk (Nat.le_of_ble_eq_true rfl) fun l6 H19 hl6 s19 hx19 => ?_
        have s019 := s018.trans s19
        repeat walk_at "rd"
        refine rd_cat (s019.g hl) hx19 (by show ws.length + 1 ≤ 1000; omega) fun l7 H20 hl7 s20 hx20 => ?_
        repeat walk_at "rd"
        have s020 := s019.trans s20
        have b5 := bb q hq (by omega)
        have hP5 : Pts K H20 (.ref l7) (ps ++ [q]) := ⟨l7, _, rfl, SqL.of hx20, (hEach s020).app (.cons (fq.sm (s17.trans (s18.trans (s19.trans s20)))) .nil)⟩
        have g5 : GoodPts (ps ++ [q]) := ⟨by rw [List.length_append]; exact Nat.le_trans gp.1 (Nat.le_add_right _ _), by rw [List.length_append]; show _ + 1 ≤ 12; omega, fun p hp => by
          rcases List.mem_append.mp hp with hp | hp
          · exact gp.2.2 p hp
          · rw [List.mem_singleton.mp hp]; exact gp.2.2 q hq⟩
        refine ⟨.ref l7, .ref la, true, rfl, tg.up s020, hP5.is g5, (fun z => nomatch z), fun _ => ⟨true, (hln.sm s020).is, (fun z => nomatch z), fun _ => ⟨_, h, s', hP5, hln.sm s020, b5.sum zh zs, fun u21 H21 s21 hu21 => ?_⟩⟩⟩
        rw [ovU_snoc] at hu21
        repeat walk_at "rd"
        have s1621 := s17.trans (s18.trans (s19.trans (s20.trans s21)))
        obtain ⟨ma, m1, m2, rfl, hms, hm1, hm2⟩ := hmo.sm (s19.trans (s20.trans s21))
        have hds21 := sqt_up (s16.trans s1621) hds
        have hd1' := hd1.up (s16.trans s1621)
        have hd2' := hd2.up (s16.trans s1621)
        obtain ⟨D1, lD1, oA, oB⟩ := b.ovA zh zs
        obtain ⟨D2, lD2, oA2, oB2⟩ := bq.ovA zh zs
        repeat walk_at "rd"
        refine ⟨_, _, _, _, rfl, hd1', hm1, SzP.ov (d := 3760) (e := 3761) oA oA2 lD1 (lt_succ_pow lD2) (by decide) (by decide) (by decide) (by decide) (by decide) (by decide), fun p1 H22 s22 hp1 => ?_⟩
        have hds22 := sqt_up s22 hds21
        have hms22 := sqt_up s22 hms
        repeat walk_at "rd"
        refine ⟨_, _, _, _, rfl, hd2'.up s22, hm2.up s22, SzP.ov (d := 3760) (e := 3761) oB oB2 lD1 (lt_succ_pow lD2) (by decide) (by decide) (by decide) (by decide) (by decide) (by decide), fun p2 H23 s23 hp2 => ?_⟩
        repeat walk_at "rd"
        refine rd_mk le2 fun tq H24 htq s24' hx24 => ?_
        repeat walk_at "rd"
        refine rd_neD (hu21.sm (s22.trans (s23.trans s24'))).dp (Two.dp ⟨tq, p1, p2, rfl, SqT.of hx24, (hp1.up s23).up s24', hp2.up s24'⟩) rfl rfl ?_
        rw [SeqAt.eqv_refl _ rfl]
        repeat walk_at "rd"
        refine iteN rfl ?_
        repeat walk_at "rd"
        exact ⟨_, rfl, s1621.trans (s22.trans (s23.trans s24'))⟩
      · refine iteN (decide_eq_false h12) ?_
        repeat walk_at "rd"
        exact ⟨_, rfl, .refl _⟩
    · rintro σ' H17 ⟨x7, rfl, s17⟩
      have s017 := s016.trans s17
      have s217 := s216.trans s17
      repeat walk_at "rd"
      refine rd_eqD (.lst (SqL.of (s217.g hx2)) (dps_of (hEach s017))) (.lst (SqL.of (s017.g hl)) (dps_of (hEach s017))) (shaped_pts ps) (shaped_pts ps) ?_
      rw [eqv_ps]
      repeat walk_at "rd"
      refine iteP rfl ?_
      repeat walk_at "rd"
      refine ⟨.ref l0, .ref la, true, rfl, tg.up s017, (hP0 s217).is gp, (fun z => nomatch z), fun _ => ⟨true, (hln.sm s017).is, (fun z => nomatch z), fun _ => ⟨ps, h, s', hP0 s217, hln.sm s017, hsz, fun fo2 H18 s18 hfo2 => ?_⟩⟩⟩
      repeat walk_at "rd"
      have hdl : Two K H18 (.ref da) (ovU h s' ps).1 (ovU h s' ps).2 := ⟨da, d1, d2, rfl, sqt_up (s16.trans (s17.trans s18)) hds, hd1.up (s16.trans (s17.trans s18)), hd2.up (s16.trans (s17.trans s18))⟩
      refine rd_eqD hfo2.dp hdl.dp rfl rfl ?_
      rw [SeqAt.eqv_refl _ rfl]
      exact k H18 (s017.trans s18)
def sp_law (K : PySem.W.Frag) (a : Ad) : Sp := fun vs H Q E => ∃ (s : Addr) (ns : List Int), vs = [.ref s] ∧ SqL K H s (ns.map V.int) ∧ ns.length ≤ 63 ∧ TG a H ∧ ∀ H', Q (.bl true) H'
theorem ok_law (T : Txt K mg a) (B : Tbs base mg a) : FnOk P w K mg base (L2.CX P w) 13 a.f_law a.d_law ["_law_script"] (sp_law K a) := by
  refine T.F_law.okX sc_law (fun vs H Q E h => ?_) (fun cdv A outer s H vs Q E hr h => ?_)
  · obtain ⟨sc, ns, rfl, hS, hns, tg, k⟩ := h
    rfl
  · have hu := hu64 hr
    obtain ⟨sc, ns, rfl, hS, hns, tg, k⟩ := h
    refine ⟨_, (pss_cons (ps_set (i := 1) sc_law.nd rfl (by first | exact Or.inl rfl | exact Or.inr rfl) (pe_callS (ok__law_points T B) (hr.mono (by decide)) (by rfl) T.g__law_points T.F__law_points.kp T.b__law_points (fun σ => passAt (takes_of rfl rfl rfl rfl) σ) (by exact (pa_cons (pe_callS (ok__law_pot T B) (hr.mono (by decide)) (by rfl) T.g__law_pot T.F__law_pot.kp T.b__law_pot (fun σ => passAt (takes_of rfl rfl rfl rfl) σ) (by exact (pa_cons (pe_callS (ok__law_cell T B) (hr.mono (by decide)) (by rfl) T.g__law_cell T.F__law_cell.kp T.b__law_cell (fun σ => passAt (takes_of rfl rfl rfl rfl) σ) (by exact (pa_cons (pv 0) (pa_cons pe_int pa_nil)))) pa_nil))) (pa_cons pe_int pa_nil)))))
    (pss_cons (ps_for (passes_of rfl) rfl (pi_range2 (by rfl) T.z_range (pa_cons pe_int (pa_cons (pe_callB (call_max2 rfl) (by rfl) T.z_max bt_max (pa_cons pe_int (pa_cons (pe_callB (call_min2 rfl) (by rfl) T.z_min bt_min (pa_cons pe_int (pa_cons (pe_callB (call_lenA K) (by rfl) T.z_len bt_len (pa_cons (pv 0) pa_nil)) pa_nil))) pa_nil))) pa_nil))) (pg_name (i := 2) sc_law.nd rfl (by first | exact Or.inl rfl | exact Or.inr rfl)) (pss_cons (ps_set (i := 3) sc_law.nd rfl (by first | exact Or.inl rfl | exact Or.inr rfl) (pe_callS (ok__law_pot T B) (hr.mono (by decide)) (by rfl) T.g__law_pot T.F__law_pot.kp T.b__law_pot (fun σ => passAt (takes_of rfl rfl rfl rfl) σ) (by exact (pa_cons (pe_callS (ok__law_cell T B) (hr.mono (by decide)) (by rfl) T.g__law_cell T.F__law_cell.kp T.b__law_cell (fun σ => passAt (takes_of rfl rfl rfl rfl) σ) (by exact (pa_cons (pv 0) (pa_cons (pv 2) pa_nil)))) pa_nil))))
    (pss_cons (ps_set (i := 4) sc_law.nd rfl (by first | exact Or.inl rfl | exact Or.inr rfl) (pe_callS (ok__law_line T B) (hr.mono (by decide)) (by rfl) T.g__law_line T.F__law_line.kp T.b__law_line (fun σ => passAt (takes_of rfl rfl rfl rfl) σ) (by exact (pa_cons (pv 3) (pa_cons (pv 1) pa_nil)))))
    (pss_one (ps_if (pt_not (my_truth K (pe_callS (ok__law_right T B) (hr.mono (by decide)) (by rfl) T.g__law_right T.F__law_right.kp T.b__law_right (fun σ => passAt (takes_of rfl rfl rfl rfl) σ) (by exact (pa_cons (pv 1) (pa_cons (pv 4) (pa_cons (pe_callS (ok__law_draw T B) (hr.mono (by decide)) (by rfl) T.g__law_draw T.F__law_draw.kp T.b__law_draw (fun σ => passAt (takes_of rfl rfl rfl rfl) σ) (by exact (pa_cons (pv 3) (pa_cons (pe_callB (call_lenA K) (by rfl) T.z_len bt_len (pa_cons (pv 1) pa_nil)) pa_nil)))) pa_nil))))))) (pss_one (ps_ret pe_bl)) pss_nil)))))
    (pss_one (ps_ret pe_bl)))), ?_⟩
    repeat walk_at "rd"
    refine ⟨sc, _, ns, rfl, hS, by omega, fun z => ?_⟩
    repeat walk_at "rd"
    refine ⟨z, rfl, fun p H1 hp s1 hpot => ?_⟩
    repeat walk_at "rd"
    refine ⟨p, 12, rfl, hpot, by decide, fun l ws ps far H2 k2 hl hx2 he2 hn hd => ?_⟩
    repeat walk_at "rd"
    have s2 : Sm H H2 := Kp.same0 s1 hp k2
    have hb : Bd ps := Bd.drawn hd (by omega) (fun z => by have := hn.2.2 z; omega)
    have hbb : ∀ p ∈ ps, ps.length < 12 → Bd (ps ++ [p]) := fun q hq hlt => Bd.drawn (far := far) (fun r hr => by
      rcases List.mem_append.mp hr with hr | hr
      · exact hd r hr
      · rw [List.mem_singleton.mp hr]; exact hd q hq) (by rw [List.length_append]; show _ + 1 ≤ 12; omega) (fun z => by have := hn.2.2 z; rw [List.length_append]; show _ + 1 ≤ 8; omega)
    have gp : GoodPts ps := ⟨hn.1, by omega, fun q hq => (hd q hq).pos⟩
    refine rd_lenL (s2.sql hS) ?_
    repeat walk_at "rd"
    refine ⟨by split <;> (try split) <;> omega, ?_⟩
    refine for_range (fun i σ H' => ∃ x2 x3 x4, σ = [some (.ref sc), some (.ref l), x2, x3, x4] ∧ Sm H2 H') ⟨none, none, none, rfl, .refl _⟩ ?_ ?_
    · rintro i σ H3 hi ⟨x2, x3, x4, rfl, s3⟩
      repeat walk_at "rd"
      have hx3 := s3.g hx2
      have he3 := he2.imp fun _ _ => Pt.sm s3
      refine ⟨sc, _, ns, rfl, (s2.trans s3).sql hS, by omega, fun z' => ?_⟩
      repeat walk_at "rd"
      refine ⟨z', rfl, fun p' H4 hp' s4 hpot' => ?_⟩
      repeat walk_at "rd"
      have hx4 := s4.g hx3
      have he4 := he3.imp fun _ _ => Pt.sm s4
      have hlp : l ≠ p' := fun w => by rw [w, hp'] at hx3; cases hx3
      refine ⟨p', l, ws, ps, rfl, hpot', hlp, hx4, he4, ⟨by omega, by omega⟩, hb.xy, fun v3 h s' H5 k5 hln zh zs => ?_⟩
      repeat walk_at "rd"
      have hx5 := k5.at hx4 hlp
      have hwl := he4.len
      refine rd_lenL (SqL.of hx5) ?_
      repeat walk_at "rd"
      refine ⟨p', _, rfl, k5.new, ⟨by omega, pow_up (n := 16) (by omega) (by decide)⟩, fun d H6 c0 c1 k6 => ?_⟩
      repeat walk_at "rd"
      have k56 := k5.trans k6
      have s6 : Sm H3 H6 := Kp.same0 s4 hp' k56
      obtain ⟨dn, rfl⟩ : ∃ dn : Nat, d = (dn : Int) := ⟨d.toNat, by omega⟩
      refine ⟨l, v3, ws, ps, h, s', dn, rfl, tg.up ((s2.trans s3).trans s6), s6.g hx3, he3.imp fun _ _ => Pt.sm s6, gp, hb, hbb, hln.kp k6, ⟨zh, zs⟩, by omega, fun H7 s7 => ?_⟩
      repeat walk_at "rd"
      refine iteN rfl ?_
      repeat walk_at "rd"
      exact ⟨_, _, _, rfl, s3.trans (s6.trans s7)⟩
    · rintro σ H3 ⟨x2, x3, x4, rfl, s3⟩
      repeat walk_at "rd"
      exact k H3
end
def hd_made : He.DefD := ⟨("made", none), "made", "made", defArgs s_made, defBody s_made, defScope s_made, [], []⟩
def hd_added : He.DefD := ⟨("added", none), "added", "added", defArgs s_added, defBody s_added, defScope s_added, [], []⟩
def hd_subtracted : He.DefD := ⟨("subtracted", none), "subtracted", "subtracted", defArgs s_subtracted, defBody s_subtracted, defScope s_subtracted, [], []⟩
def hd_multiplied : He.DefD := ⟨("multiplied", none), "multiplied", "multiplied", defArgs s_multiplied, defBody s_multiplied, defScope s_multiplied, [], []⟩
def hd_is_whole : He.DefD := ⟨("is_whole", none), "is_whole", "is_whole", defArgs s_is_whole, defBody s_is_whole, defScope s_is_whole, [], []⟩
def hd_is_fraction : He.DefD := ⟨("is_fraction", none), "is_fraction", "is_fraction", defArgs s_is_fraction, defBody s_is_fraction, defScope s_is_fraction, [], []⟩
def hd_is_row : He.DefD := ⟨("is_row", none), "is_row", "is_row", defArgs s_is_row, defBody s_is_row, defScope s_is_row, [], []⟩
def hd_are_rows : He.DefD := ⟨("are_rows", none), "are_rows", "are_rows", defArgs s_are_rows, defBody s_are_rows, defScope s_are_rows, [], []⟩
def hd_are_weighed : He.DefD := ⟨("are_weighed", none), "are_weighed", "are_weighed", defArgs s_are_weighed, defBody s_are_weighed, defScope s_are_weighed, [], []⟩
def hd_is_points : He.DefD := ⟨("is_points", none), "is_points", "is_points", defArgs s_is_points, defBody s_is_points, defScope s_is_points, [], []⟩
def hd_is_line : He.DefD := ⟨("is_line", none), "is_line", "is_line", defArgs s_is_line, defBody s_is_line, defScope s_is_line, [], []⟩
def hd_need_points : He.DefD := ⟨("need_points", none), "need_points", "need_points", defArgs s_need_points, defBody s_need_points, defScope s_need_points, [], []⟩
def hd_need_line : He.DefD := ⟨("need_line", none), "need_line", "need_line", defArgs s_need_line, defBody s_need_line, defScope s_need_line, [], []⟩
def hd_stand_at : He.DefD := ⟨("stand_at", none), "stand_at", "stand_at", defArgs s_stand_at, defBody s_stand_at, defScope s_stand_at, [], []⟩
def hd_rise_of : He.DefD := ⟨("rise_of", none), "rise_of", "rise_of", defArgs s_rise_of, defBody s_rise_of, defScope s_rise_of, [], []⟩
def hd_sums_of : He.DefD := ⟨("sums_of", none), "sums_of", "sums_of", defArgs s_sums_of, defBody s_sums_of, defScope s_sums_of, [], []⟩
def hd_sums : He.DefD := ⟨("sums", none), "sums", "sums", defArgs s_sums, defBody s_sums, defScope s_sums, [], []⟩
def hd__law_short : He.DefD := ⟨("_law_short", none), "_law_short", "_law_short", defArgs s__law_short, defBody s__law_short, defScope s__law_short, [], []⟩
def hd__law_draw : He.DefD := ⟨("_law_draw", none), "_law_draw", "_law_draw", defArgs s__law_draw, defBody s__law_draw, defScope s__law_draw, [], []⟩
def hd__law_low : He.DefD := ⟨("_law_low", none), "_law_low", "_law_low", defArgs s__law_low, defBody s__law_low, defScope s__law_low, [], []⟩
def hd__law_over : He.DefD := ⟨("_law_over", none), "_law_over", "_law_over", defArgs s__law_over, defBody s__law_over, defScope s__law_over, [], []⟩
def hd__law_less : He.DefD := ⟨("_law_less", none), "_law_less", "_law_less", defArgs s__law_less, defBody s__law_less, defScope s__law_less, [], []⟩
def hd__law_times : He.DefD := ⟨("_law_times", none), "_law_times", "_law_times", defArgs s__law_times, defBody s__law_times, defScope s__law_times, [], []⟩
def hd__law_through : He.DefD := ⟨("_law_through", none), "_law_through", "_law_through", defArgs s__law_through, defBody s__law_through, defScope s__law_through, [], []⟩
def hd__law_small : He.DefD := ⟨("_law_small", none), "_law_small", "_law_small", defArgs s__law_small, defBody s__law_small, defScope s__law_small, [], []⟩
def hd__law_great : He.DefD := ⟨("_law_great", none), "_law_great", "_law_great", defArgs s__law_great, defBody s__law_great, defScope s__law_great, [], []⟩
def hd__law_far : He.DefD := ⟨("_law_far", none), "_law_far", "_law_far", defArgs s__law_far, defBody s__law_far, defScope s__law_far, [], []⟩
def hd__law_plus : He.DefD := ⟨("_law_plus", none), "_law_plus", "_law_plus", defArgs s__law_plus, defBody s__law_plus, defScope s__law_plus, [], []⟩
def hd__law_any_line : He.DefD := ⟨("_law_any_line", none), "_law_any_line", "_law_any_line", defArgs s__law_any_line, defBody s__law_any_line, defScope s__law_any_line, [], []⟩
def hd__law_cell : He.DefD := ⟨("_law_cell", none), "_law_cell", "_law_cell", defArgs s__law_cell, defBody s__law_cell, defScope s__law_cell, [], []⟩
def hd__law_pot : He.DefD := ⟨("_law_pot", none), "_law_pot", "_law_pot", defArgs s__law_pot, defBody s__law_pot, defScope s__law_pot, [], []⟩
def hd__law_above_nought : He.DefD := ⟨("_law_above_nought", none), "_law_above_nought", "_law_above_nought", defArgs s__law_above_nought, defBody s__law_above_nought, defScope s__law_above_nought, [], []⟩
def hd__law_spot : He.DefD := ⟨("_law_spot", none), "_law_spot", "_law_spot", defArgs s__law_spot, defBody s__law_spot, defScope s__law_spot, [], []⟩
def hd__law_points : He.DefD := ⟨("_law_points", none), "_law_points", "_law_points", defArgs s__law_points, defBody s__law_points, defScope s__law_points, [], []⟩
def hd__law_stand : He.DefD := ⟨("_law_stand", none), "_law_stand", "_law_stand", defArgs s__law_stand, defBody s__law_stand, defScope s__law_stand, [], []⟩
def hd__law_rise : He.DefD := ⟨("_law_rise", none), "_law_rise", "_law_rise", defArgs s__law_rise, defBody s__law_rise, defScope s__law_rise, [], []⟩
def hd__law_line : He.DefD := ⟨("_law_line", none), "_law_line", "_law_line", defArgs s__law_line, defBody s__law_line, defScope s__law_line, [], []⟩
def hd__law_is_fraction : He.DefD := ⟨("_law_is_fraction", none), "_law_is_fraction", "_law_is_fraction", defArgs s__law_is_fraction, defBody s__law_is_fraction, defScope s__law_is_fraction, [], []⟩
def hd__law_sums : He.DefD := ⟨("_law_sums", none), "_law_sums", "_law_sums", defArgs s__law_sums, defBody s__law_sums, defScope s__law_sums, [], []⟩
def hd__law_upside : He.DefD := ⟨("_law_upside", none), "_law_upside", "_law_upside", defArgs s__law_upside, defBody s__law_upside, defScope s__law_upside, [], []⟩
def hd__law_right : He.DefD := ⟨("_law_right", none), "_law_right", "_law_right", defArgs s__law_right, defBody s__law_right, defScope s__law_right, [], []⟩
def hd_law : He.DefD := ⟨("law", none), "law", "law", defArgs s_law, defBody s_law, defScope s_law, [], []⟩
def fnL0 : List He.DefD := [hd_made,
  hd_added,
  hd_subtracted,
  hd_multiplied,
  hd_is_whole,
  hd_is_fraction,
  hd_is_row,
  hd_are_rows,
  hd_are_weighed,
  hd_is_points,
  hd_is_line,
  hd_need_points,
  hd_need_line,
  hd_stand_at,
  hd_rise_of,
  hd_sums_of,
  hd_sums,
  hd__law_short,
  hd__law_draw,
  hd__law_low,
  hd__law_over,
  hd__law_less,
  hd__law_times,
  hd__law_through,
  hd__law_small,
  hd__law_great,
  hd__law_far,
  hd__law_plus,
  hd__law_any_line,
  hd__law_cell]
def fnL1 : List He.DefD := [hd__law_pot,
  hd__law_above_nought,
  hd__law_spot,
  hd__law_points,
  hd__law_stand,
  hd__law_rise,
  hd__law_line,
  hd__law_is_fraction,
  hd__law_sums,
  hd__law_upside,
  hd__law_right,
  hd_law]
def fnL : List He.DefD := fnL0 ++ fnL1
def faL0 : List He.Fa := [.glo "made",
  .glo "added",
  .glo "subtracted",
  .glo "multiplied",
  .glo "is_whole",
  .glo "is_fraction",
  .glo "is_row",
  .glo "are_rows",
  .glo "are_weighed",
  .glo "is_points",
  .glo "is_line",
  .glo "need_points",
  .glo "need_line",
  .glo "stand_at",
  .glo "rise_of",
  .glo "sums_of",
  .glo "sums",
  .glo "_law_short",
  .glo "_law_draw",
  .glo "_law_low",
  .glo "_law_over",
  .glo "_law_less",
  .glo "_law_times",
  .glo "_law_through",
  .glo "_law_small",
  .glo "_law_great",
  .glo "_law_far",
  .glo "_law_plus",
  .glo "_law_any_line",
  .glo "_law_cell"]
def faL1 : List He.Fa := [.glo "_law_pot",
  .glo "_law_above_nought",
  .glo "_law_spot",
  .glo "_law_points",
  .glo "_law_stand",
  .glo "_law_rise",
  .glo "_law_line",
  .glo "_law_is_fraction",
  .glo "_law_sums",
  .glo "_law_upside",
  .glo "_law_right",
  .glo "law",
  .glo "LineError",
  .glo "NoPoints",
  .glo "NoLine",
  .glo "NOUGHT",
  .int "MOST_POINTS" 12,
  .free "isinstance",
  .free "int",
  .free "bool",
  .free "tuple",
  .free "len",
  .free "all",
  .free "list",
  .free "max",
  .free "abs",
  .free "divmod",
  .free "range",
  .free "min",
  .free "any"]
def faL : List He.Fa := faL0 ++ faL1
def exL0 : List (PySem.W.Frag → Bool) := [fun K => decide (PySem.W.subIn K (.ref (He.ga K "LineError")) (.type "BaseException") = some true),
  fun K => decide (PySem.W.typeIn K (.ref (He.ga K "LineError")) = some (.type "type")),
  fun K => decide (PySem.W.isClsIn K (He.ga K "LineError") = true),
  fun K => decide (PySem.W.hasDictIn K (He.ga K "LineError") = true),
  fun K => decide (PySem.W.subIn K (.ref (He.ga K "NoPoints")) (.ref (He.ga K "LineError")) = some true),
  fun K => decide (PySem.W.subIn K (.ref (He.ga K "NoLine")) (.ref (He.ga K "LineError")) = some true),
  fun K => decide (PySem.W.excIn K (He.ga K "NoPoints") [.type "ValueError", .type "Exception", .type "BaseException", .type "object"] "ValueError.__new__" = true),
  fun K => decide (PySem.W.keepIn K (.ref (He.ga K "NoPoints")) = true),
  fun K => decide (PySem.W.findIn K (.ref (He.ga K "NoPoints")) "__getattribute__" = some (some (.builtin "BaseException.__getattribute__"))),
  fun K => decide (PySem.W.findIn K (.ref (He.ga K "NoPoints")) "__getattr__" = some none),
  fun K => decide (PySem.W.findIn K (.ref (He.ga K "NoPoints")) "__class__" = some (some (.builtin "object.__class__"))),
  fun K => decide (PySem.W.mroIn K (He.ga K "NoPoints") (.type "object") = some true),
  fun K => decide (PySem.W.subIn K (.ref (He.ga K "NoPoints")) (.type "ValueError") = some true),
  fun K => decide (PySem.W.subIn K (.ref (He.ga K "NoPoints")) (.type "BaseException") = some true),
  fun K => decide (PySem.W.typeIn K (.ref (He.ga K "NoPoints")) = some (.type "type")),
  fun K => decide (PySem.W.isClsIn K (He.ga K "NoPoints") = true),
  fun K => decide (PySem.W.hasDictIn K (He.ga K "NoPoints") = true),
  fun K => decide (PySem.W.subIn K (.ref (He.ga K "NoPoints")) (.ref (He.ga K "NoPoints")) = some true),
  fun K => decide (PySem.W.subIn K (.ref (He.ga K "NoLine")) (.ref (He.ga K "NoPoints")) = some false),
  fun K => decide (PySem.W.excIn K (He.ga K "NoLine") [.type "ValueError", .type "Exception", .type "BaseException", .type "object"] "ValueError.__new__" = true),
  fun K => decide (PySem.W.keepIn K (.ref (He.ga K "NoLine")) = true),
  fun K => decide (PySem.W.findIn K (.ref (He.ga K "NoLine")) "__getattribute__" = some (some (.builtin "BaseException.__getattribute__"))),
  fun K => decide (PySem.W.findIn K (.ref (He.ga K "NoLine")) "__getattr__" = some none),
  fun K => decide (PySem.W.findIn K (.ref (He.ga K "NoLine")) "__class__" = some (some (.builtin "object.__class__"))),
  fun K => decide (PySem.W.mroIn K (He.ga K "NoLine") (.type "object") = some true),
  fun K => decide (PySem.W.subIn K (.ref (He.ga K "NoLine")) (.type "ValueError") = some true),
  fun K => decide (PySem.W.subIn K (.ref (He.ga K "NoLine")) (.type "BaseException") = some true),
  fun K => decide (PySem.W.typeIn K (.ref (He.ga K "NoLine")) = some (.type "type")),
  fun K => decide (PySem.W.isClsIn K (He.ga K "NoLine") = true),
  fun K => decide (PySem.W.hasDictIn K (He.ga K "NoLine") = true)]
def exL1 : List (PySem.W.Frag → Bool) := [fun K => decide (PySem.W.subIn K (.ref (He.ga K "NoPoints")) (.ref (He.ga K "NoLine")) = some false),
  fun K => decide (PySem.W.subIn K (.ref (He.ga K "NoLine")) (.ref (He.ga K "NoLine")) = some true),
  fun K => decide (PySem.W.specialIn K (.builtin "object.__class__") "__get__" = some (some (.builtin "getset_descriptor.__get__"))),
  fun K => decide (PySem.W.takesIn K (.builtin "object.__class__") = some true),
  fun K => decide (PySem.W.nsIn K mainGlobals "gcd" = some (some (.builtin "math.gcd"))),
  fun K => decide (He.tupB K "NOUGHT" [.int 0, .int 1] = true)]
def exL : List (PySem.W.Frag → Bool) := exL0 ++ exL1
def exB (K : PySem.W.Frag) : Bool := exL.all fun f => f K
def tfL : List He.Defn := [("is_row", none), ("are_rows", none), ("are_weighed", none)]
abbrev R : PySem.W.OpenRow := PySem.W.OpenLaw.row PySem.Challenge.rw_signlines_k51_sums_told
abbrev hk : PySem.W.Hook := He.hookX 5 faL fnL [] tfL exB
def ob (s : PySem.W.SharedT) : He.AlX := He.obsX 5 faL fnL [] tfL exB (HandSHeadRun.getT s)
theorem ob_eq (s : PySem.W.SharedT) : ob s = hk.obs s.abs := He.obsX_eq (HandSHeadRun.getT_eq s)
def looseL0 : List PySem.Str := ["made",
  "added",
  "subtracted",
  "multiplied",
  "is_whole",
  "is_fraction",
  "is_row",
  "are_rows",
  "are_weighed",
  "is_points",
  "is_line",
  "need_points",
  "need_line",
  "stand_at",
  "rise_of",
  "sums_of",
  "sums",
  "_law_short",
  "_law_draw",
  "_law_low",
  "_law_over",
  "_law_less",
  "_law_times",
  "_law_through",
  "_law_small",
  "_law_great",
  "_law_far",
  "_law_plus",
  "_law_any_line",
  "_law_cell"]
def looseL1 : List PySem.Str := ["_law_pot",
  "_law_above_nought",
  "_law_spot",
  "_law_points",
  "_law_stand",
  "_law_rise",
  "_law_line",
  "_law_is_fraction",
  "_law_sums",
  "_law_upside",
  "_law_right",
  "LineError",
  "NoPoints",
  "NoLine",
  "NOUGHT",
  "MOST_POINTS",
  "__name__"]
def looseL : List PySem.Str := looseL0 ++ looseL1
theorem run (w : World) : HandSHeadRun.RunEqI R (PySem.W.view R.prog [0, 54]) hk ob 12000 looseL w := by
  unfold HandSHeadRun.RunEqI
  kernel_rfl
theorem facts {w : World} {h : Heap} {K : PySem.W.Frag} {mg : Str → Option Value} {fa : Addr} (X : K.In h) (G : h.Ns mainGlobals mg) (hfa : mg ("law" : Str) = some (.ref fa)) (c : He.SaysX faL fnL [] tfL exB w h K) :
    LamX.LawAtS PySem.Challenge.rw_signlines_k51_sums_told w K (L2.CX (PySem.Challenge.rw_signlines_k51_sums_told).prog w) 13 63 "_law_script" mg fa h := by
  have cd : He.SaysD faL fnL K := congrArg (fun z : He.AlT => z.1) c.t
  have cm : exL.all (fun f => f K) = true := c.more
  obtain ⟨d_made, F_made⟩ := cd.def_ 0 (d := hd_made) rfl
  obtain ⟨d_added, F_added⟩ := cd.def_ 1 (d := hd_added) rfl
  obtain ⟨d_subtracted, F_subtracted⟩ := cd.def_ 2 (d := hd_subtracted) rfl
  obtain ⟨d_multiplied, F_multiplied⟩ := cd.def_ 3 (d := hd_multiplied) rfl
  obtain ⟨d_is_whole, F_is_whole⟩ := cd.def_ 4 (d := hd_is_whole) rfl
  obtain ⟨d_is_fraction, F_is_fraction⟩ := cd.def_ 5 (d := hd_is_fraction) rfl
  obtain ⟨d_is_row, F_is_row⟩ := cd.def_ 6 (d := hd_is_row) rfl
  obtain ⟨d_are_rows, F_are_rows⟩ := cd.def_ 7 (d := hd_are_rows) rfl
  obtain ⟨d_are_weighed, F_are_weighed⟩ := cd.def_ 8 (d := hd_are_weighed) rfl
  obtain ⟨d_is_points, F_is_points⟩ := cd.def_ 9 (d := hd_is_points) rfl
  obtain ⟨d_is_line, F_is_line⟩ := cd.def_ 10 (d := hd_is_line) rfl
  obtain ⟨d_need_points, F_need_points⟩ := cd.def_ 11 (d := hd_need_points) rfl
  obtain ⟨d_need_line, F_need_line⟩ := cd.def_ 12 (d := hd_need_line) rfl
  obtain ⟨d_stand_at, F_stand_at⟩ := cd.def_ 13 (d := hd_stand_at) rfl
  obtain ⟨d_rise_of, F_rise_of⟩ := cd.def_ 14 (d := hd_rise_of) rfl
  obtain ⟨d_sums_of, F_sums_of⟩ := cd.def_ 15 (d := hd_sums_of) rfl
  obtain ⟨d_sums, F_sums⟩ := cd.def_ 16 (d := hd_sums) rfl
  obtain ⟨d__law_short, F__law_short⟩ := cd.def_ 17 (d := hd__law_short) rfl
  obtain ⟨d__law_draw, F__law_draw⟩ := cd.def_ 18 (d := hd__law_draw) rfl
  obtain ⟨d__law_low, F__law_low⟩ := cd.def_ 19 (d := hd__law_low) rfl
  obtain ⟨d__law_over, F__law_over⟩ := cd.def_ 20 (d := hd__law_over) rfl
  obtain ⟨d__law_less, F__law_less⟩ := cd.def_ 21 (d := hd__law_less) rfl
  obtain ⟨d__law_times, F__law_times⟩ := cd.def_ 22 (d := hd__law_times) rfl
  obtain ⟨d__law_through, F__law_through⟩ := cd.def_ 23 (d := hd__law_through) rfl
  obtain ⟨d__law_small, F__law_small⟩ := cd.def_ 24 (d := hd__law_small) rfl
  obtain ⟨d__law_great, F__law_great⟩ := cd.def_ 25 (d := hd__law_great) rfl
  obtain ⟨d__law_far, F__law_far⟩ := cd.def_ 26 (d := hd__law_far) rfl
  obtain ⟨d__law_plus, F__law_plus⟩ := cd.def_ 27 (d := hd__law_plus) rfl
  obtain ⟨d__law_any_line, F__law_any_line⟩ := cd.def_ 28 (d := hd__law_any_line) rfl
  obtain ⟨d__law_cell, F__law_cell⟩ := cd.def_ 29 (d := hd__law_cell) rfl
  obtain ⟨d__law_pot, F__law_pot⟩ := cd.def_ 30 (d := hd__law_pot) rfl
  obtain ⟨d__law_above_nought, F__law_above_nought⟩ := cd.def_ 31 (d := hd__law_above_nought) rfl
  obtain ⟨d__law_spot, F__law_spot⟩ := cd.def_ 32 (d := hd__law_spot) rfl
  obtain ⟨d__law_points, F__law_points⟩ := cd.def_ 33 (d := hd__law_points) rfl
  obtain ⟨d__law_stand, F__law_stand⟩ := cd.def_ 34 (d := hd__law_stand) rfl
  obtain ⟨d__law_rise, F__law_rise⟩ := cd.def_ 35 (d := hd__law_rise) rfl
  obtain ⟨d__law_line, F__law_line⟩ := cd.def_ 36 (d := hd__law_line) rfl
  obtain ⟨d__law_is_fraction, F__law_is_fraction⟩ := cd.def_ 37 (d := hd__law_is_fraction) rfl
  obtain ⟨d__law_sums, F__law_sums⟩ := cd.def_ 38 (d := hd__law_sums) rfl
  obtain ⟨d__law_upside, F__law_upside⟩ := cd.def_ 39 (d := hd__law_upside) rfl
  obtain ⟨d__law_right, F__law_right⟩ := cd.def_ 40 (d := hd__law_right) rfl
  obtain ⟨d_law, F_law⟩ := cd.def_ 41 (d := hd_law) rfl
  let a : Ad := { f_made := He.fAd K ("made", none), f_added := He.fAd K ("added", none), f_subtracted := He.fAd K ("subtracted", none), f_multiplied := He.fAd K ("multiplied", none), f_is_whole := He.fAd K ("is_whole", none), f_is_fraction := He.fAd K ("is_fraction", none), f_is_row := He.fAd K ("is_row", none), f_are_rows := He.fAd K ("are_rows", none), f_are_weighed := He.fAd K ("are_weighed", none), f_is_points := He.fAd K ("is_points", none), f_is_line := He.fAd K ("is_line", none), f_need_points := He.fAd K ("need_points", none), f_need_line := He.fAd K ("need_line", none), f_stand_at := He.fAd K ("stand_at", none), f_rise_of := He.fAd K ("rise_of", none), f_sums_of := He.fAd K ("sums_of", none), f_sums := He.fAd K ("sums", none), f__law_short := He.fAd K ("_law_short", none), f__law_draw := He.fAd K ("_law_draw", none), f__law_low := He.fAd K ("_law_low", none), f__law_over := He.fAd K ("_law_over", none), f__law_less := He.fAd K ("_law_less", none), f__law_times := He.fAd K ("_law_times", none), f__law_through := He.fAd K ("_law_through", none), f__law_small := He.fAd K ("_law_small", none), f__law_great := He.fAd K ("_law_great", none), f__law_far := He.fAd K ("_law_far", none), f__law_plus := He.fAd K ("_law_plus", none), f__law_any_line := He.fAd K ("_law_any_line", none), f__law_cell := He.fAd K ("_law_cell", none), f__law_pot := He.fAd K ("_law_pot", none), f__law_above_nought := He.fAd K ("_law_above_nought", none), f__law_spot := He.fAd K ("_law_spot", none), f__law_points := He.fAd K ("_law_points", none), f__law_stand := He.fAd K ("_law_stand", none), f__law_rise := He.fAd K ("_law_rise", none), f__law_line := He.fAd K ("_law_line", none), f__law_is_fraction := He.fAd K ("_law_is_fraction", none), f__law_sums := He.fAd K ("_law_sums", none), f__law_upside := He.fAd K ("_law_upside", none), f__law_right := He.fAd K ("_law_right", none), f_law := He.fAd K ("law", none), d_made := d_made, d_added := d_added, d_subtracted := d_subtracted, d_multiplied := d_multiplied, d_is_whole := d_is_whole, d_is_fraction := d_is_fraction, d_is_row := d_is_row, d_are_rows := d_are_rows, d_are_weighed := d_are_weighed, d_is_points := d_is_points, d_is_line := d_is_line, d_need_points := d_need_points, d_need_line := d_need_line, d_stand_at := d_stand_at, d_rise_of := d_rise_of, d_sums_of := d_sums_of, d_sums := d_sums, d__law_short := d__law_short, d__law_draw := d__law_draw, d__law_low := d__law_low, d__law_over := d__law_over, d__law_less := d__law_less, d__law_times := d__law_times, d__law_through := d__law_through, d__law_small := d__law_small, d__law_great := d__law_great, d__law_far := d__law_far, d__law_plus := d__law_plus, d__law_any_line := d__law_any_line, d__law_cell := d__law_cell, d__law_pot := d__law_pot, d__law_above_nought := d__law_above_nought, d__law_spot := d__law_spot, d__law_points := d__law_points, d__law_stand := d__law_stand, d__law_rise := d__law_rise, d__law_line := d__law_line, d__law_is_fraction := d__law_is_fraction, d__law_sums := d__law_sums, d__law_upside := d__law_upside, d__law_right := d__law_right, d_law := d_law, C_LineError := He.ga K "LineError", C_NoPoints := He.ga K "NoPoints", C_NoLine := He.ga K "NoLine", c_NOUGHT := He.ga K "NOUGHT", k_is_row := He.codeOf K ("is_row", none), p_is_row := He.tabOf K (He.codeOf K ("is_row", none)), k_are_rows := He.codeOf K ("are_rows", none), p_are_rows := He.tabOf K (He.codeOf K ("are_rows", none)), k_are_weighed := He.codeOf K ("are_weighed", none), p_are_weighed := He.tabOf K (He.codeOf K ("are_weighed", none)) }
  have e := hfa.symm.trans (He.glo_ok X G (cd.fact 41 (f := .glo "law") rfl))
  cases e
  have T : Txt K mg a := ⟨fun_of (st := s_made) F_made,
    (fun_of (st := s_made) F_made).binds (ps := ["top", "bottom"]) fun _ _ _ _ _ _ us hl => match us, hl with | [_, _], _ => rfl,
    He.glo_ok X G (cd.fact 0 (f := .glo "made") rfl),
    fun_of (st := s_added) F_added,
    (fun_of (st := s_added) F_added).binds (ps := ["one", "other"]) fun _ _ _ _ _ _ us hl => match us, hl with | [_, _], _ => rfl,
    He.glo_ok X G (cd.fact 1 (f := .glo "added") rfl),
    fun_of (st := s_subtracted) F_subtracted,
    (fun_of (st := s_subtracted) F_subtracted).binds (ps := ["one", "other"]) fun _ _ _ _ _ _ us hl => match us, hl with | [_, _], _ => rfl,
    He.glo_ok X G (cd.fact 2 (f := .glo "subtracted") rfl),
    fun_of (st := s_multiplied) F_multiplied,
    (fun_of (st := s_multiplied) F_multiplied).binds (ps := ["one", "other"]) fun _ _ _ _ _ _ us hl => match us, hl with | [_, _], _ => rfl,
    He.glo_ok X G (cd.fact 3 (f := .glo "multiplied") rfl),
    fun_of (st := s_is_whole) F_is_whole,
    (fun_of (st := s_is_whole) F_is_whole).binds (ps := ["thing"]) fun _ _ _ _ _ _ us hl => match us, hl with | [_], _ => rfl,
    He.glo_ok X G (cd.fact 4 (f := .glo "is_whole") rfl),
    fun_of (st := s_is_fraction) F_is_fraction,
    (fun_of (st := s_is_fraction) F_is_fraction).binds (ps := ["thing"]) fun _ _ _ _ _ _ us hl => match us, hl with | [_], _ => rfl,
    He.glo_ok X G (cd.fact 5 (f := .glo "is_fraction") rfl),
    fun_of (st := s_is_row) F_is_row,
    (fun_of (st := s_is_row) F_is_row).binds (ps := ["thing", "many"]) fun _ _ _ _ _ _ us hl => match us, hl with | [_, _], _ => rfl,
    He.glo_ok X G (cd.fact 6 (f := .glo "is_row") rfl),
    func_of (st := s_is_row) F_is_row,
    fun_of (st := s_are_rows) F_are_rows,
    (fun_of (st := s_are_rows) F_are_rows).binds (ps := ["thing", "most", "many"]) fun _ _ _ _ _ _ us hl => match us, hl with | [_, _, _], _ => rfl,
    He.glo_ok X G (cd.fact 7 (f := .glo "are_rows") rfl),
    func_of (st := s_are_rows) F_are_rows,
    fun_of (st := s_are_weighed) F_are_weighed,
    (fun_of (st := s_are_weighed) F_are_weighed).binds (ps := ["thing", "most", "many"]) fun _ _ _ _ _ _ us hl => match us, hl with | [_, _, _], _ => rfl,
    He.glo_ok X G (cd.fact 8 (f := .glo "are_weighed") rfl),
    func_of (st := s_are_weighed) F_are_weighed,
    fun_of (st := s_is_points) F_is_points,
    (fun_of (st := s_is_points) F_is_points).binds (ps := ["thing"]) fun _ _ _ _ _ _ us hl => match us, hl with | [_], _ => rfl,
    He.glo_ok X G (cd.fact 9 (f := .glo "is_points") rfl),
    fun_of (st := s_is_line) F_is_line,
    (fun_of (st := s_is_line) F_is_line).binds (ps := ["thing"]) fun _ _ _ _ _ _ us hl => match us, hl with | [_], _ => rfl,
    He.glo_ok X G (cd.fact 10 (f := .glo "is_line") rfl),
    fun_of (st := s_need_points) F_need_points,
    (fun_of (st := s_need_points) F_need_points).binds (ps := ["thing"]) fun _ _ _ _ _ _ us hl => match us, hl with | [_], _ => rfl,
    He.glo_ok X G (cd.fact 11 (f := .glo "need_points") rfl),
    fun_of (st := s_need_line) F_need_line,
    (fun_of (st := s_need_line) F_need_line).binds (ps := ["thing"]) fun _ _ _ _ _ _ us hl => match us, hl with | [_], _ => rfl,
    He.glo_ok X G (cd.fact 12 (f := .glo "need_line") rfl),
    fun_of (st := s_stand_at) F_stand_at,
    (fun_of (st := s_stand_at) F_stand_at).binds (ps := ["line", "x"]) fun _ _ _ _ _ _ us hl => match us, hl with | [_, _], _ => rfl,
    He.glo_ok X G (cd.fact 13 (f := .glo "stand_at") rfl),
    fun_of (st := s_rise_of) F_rise_of,
    (fun_of (st := s_rise_of) F_rise_of).binds (ps := ["point", "line"]) fun _ _ _ _ _ _ us hl => match us, hl with | [_, _], _ => rfl,
    He.glo_ok X G (cd.fact 14 (f := .glo "rise_of") rfl),
    fun_of (st := s_sums_of) F_sums_of,
    (fun_of (st := s_sums_of) F_sums_of).binds (ps := ["points", "line"]) fun _ _ _ _ _ _ us hl => match us, hl with | [_, _], _ => rfl,
    He.glo_ok X G (cd.fact 15 (f := .glo "sums_of") rfl),
    fun_of (st := s_sums) F_sums,
    (fun_of (st := s_sums) F_sums).binds (ps := ["points", "line"]) fun _ _ _ _ _ _ us hl => match us, hl with | [_, _], _ => rfl,
    He.glo_ok X G (cd.fact 16 (f := .glo "sums") rfl),
    fun_of (st := s__law_short) F__law_short,
    (fun_of (st := s__law_short) F__law_short).binds (ps := ["_law_line_here"]) fun _ _ _ _ _ _ us hl => match us, hl with | [_], _ => rfl,
    He.glo_ok X G (cd.fact 17 (f := .glo "_law_short") rfl),
    fun_of (st := s__law_draw) F__law_draw,
    (fun_of (st := s__law_draw) F__law_draw).binds (ps := ["_law_pot_here", "_law_many"]) fun _ _ _ _ _ _ us hl => match us, hl with | [_, _], _ => rfl,
    He.glo_ok X G (cd.fact 18 (f := .glo "_law_draw") rfl),
    fun_of (st := s__law_low) F__law_low,
    (fun_of (st := s__law_low) F__law_low).binds (ps := ["_law_top", "_law_bottom"]) fun _ _ _ _ _ _ us hl => match us, hl with | [_, _], _ => rfl,
    He.glo_ok X G (cd.fact 19 (f := .glo "_law_low") rfl),
    fun_of (st := s__law_over) F__law_over,
    (fun_of (st := s__law_over) F__law_over).binds (ps := ["_law_one", "_law_other"]) fun _ _ _ _ _ _ us hl => match us, hl with | [_, _], _ => rfl,
    He.glo_ok X G (cd.fact 20 (f := .glo "_law_over") rfl),
    fun_of (st := s__law_less) F__law_less,
    (fun_of (st := s__law_less) F__law_less).binds (ps := ["_law_one", "_law_other"]) fun _ _ _ _ _ _ us hl => match us, hl with | [_, _], _ => rfl,
    He.glo_ok X G (cd.fact 21 (f := .glo "_law_less") rfl),
    fun_of (st := s__law_times) F__law_times,
    (fun_of (st := s__law_times) F__law_times).binds (ps := ["_law_one", "_law_other"]) fun _ _ _ _ _ _ us hl => match us, hl with | [_, _], _ => rfl,
    He.glo_ok X G (cd.fact 22 (f := .glo "_law_times") rfl),
    fun_of (st := s__law_through) F__law_through,
    (fun_of (st := s__law_through) F__law_through).binds (ps := ["_law_one", "_law_other"]) fun _ _ _ _ _ _ us hl => match us, hl with | [_, _], _ => rfl,
    He.glo_ok X G (cd.fact 23 (f := .glo "_law_through") rfl),
    fun_of (st := s__law_small) F__law_small,
    (fun_of (st := s__law_small) F__law_small).binds (ps := ["_law_pot_here"]) fun _ _ _ _ _ _ us hl => match us, hl with | [_], _ => rfl,
    He.glo_ok X G (cd.fact 24 (f := .glo "_law_small") rfl),
    fun_of (st := s__law_great) F__law_great,
    (fun_of (st := s__law_great) F__law_great).binds (ps := ["_law_pot_here", "_law_many"]) fun _ _ _ _ _ _ us hl => match us, hl with | [_, _], _ => rfl,
    He.glo_ok X G (cd.fact 25 (f := .glo "_law_great") rfl),
    fun_of (st := s__law_far) F__law_far,
    (fun_of (st := s__law_far) F__law_far).binds (ps := ["_law_pot_here"]) fun _ _ _ _ _ _ us hl => match us, hl with | [_], _ => rfl,
    He.glo_ok X G (cd.fact 26 (f := .glo "_law_far") rfl),
    fun_of (st := s__law_plus) F__law_plus,
    (fun_of (st := s__law_plus) F__law_plus).binds (ps := ["_law_one", "_law_other"]) fun _ _ _ _ _ _ us hl => match us, hl with | [_, _], _ => rfl,
    He.glo_ok X G (cd.fact 27 (f := .glo "_law_plus") rfl),
    fun_of (st := s__law_any_line) F__law_any_line,
    (fun_of (st := s__law_any_line) F__law_any_line).binds (ps := ["_law_pot_here", "_law_points_here"]) fun _ _ _ _ _ _ us hl => match us, hl with | [_, _], _ => rfl,
    He.glo_ok X G (cd.fact 28 (f := .glo "_law_any_line") rfl),
    fun_of (st := s__law_cell) F__law_cell,
    (fun_of (st := s__law_cell) F__law_cell).binds (ps := ["_law_script", "_law_k"]) fun _ _ _ _ _ _ us hl => match us, hl with | [_, _], _ => rfl,
    He.glo_ok X G (cd.fact 29 (f := .glo "_law_cell") rfl),
    fun_of (st := s__law_pot) F__law_pot,
    (fun_of (st := s__law_pot) F__law_pot).binds (ps := ["_law_cell_here"]) fun _ _ _ _ _ _ us hl => match us, hl with | [_], _ => rfl,
    He.glo_ok X G (cd.fact 30 (f := .glo "_law_pot") rfl),
    fun_of (st := s__law_above_nought) F__law_above_nought,
    (fun_of (st := s__law_above_nought) F__law_above_nought).binds (ps := ["_law_pot_here"]) fun _ _ _ _ _ _ us hl => match us, hl with | [_], _ => rfl,
    He.glo_ok X G (cd.fact 31 (f := .glo "_law_above_nought") rfl),
    fun_of (st := s__law_spot) F__law_spot,
    (fun_of (st := s__law_spot) F__law_spot).binds (ps := ["_law_pot_here", "_law_manner", "_law_line_here"]) fun _ _ _ _ _ _ us hl => match us, hl with | [_, _, _], _ => rfl,
    He.glo_ok X G (cd.fact 32 (f := .glo "_law_spot") rfl),
    fun_of (st := s__law_points) F__law_points,
    (fun_of (st := s__law_points) F__law_points).binds (ps := ["_law_pot_here", "_law_most"]) fun _ _ _ _ _ _ us hl => match us, hl with | [_, _], _ => rfl,
    He.glo_ok X G (cd.fact 33 (f := .glo "_law_points") rfl),
    fun_of (st := s__law_stand) F__law_stand,
    (fun_of (st := s__law_stand) F__law_stand).binds (ps := ["_law_line_here", "_law_x"]) fun _ _ _ _ _ _ us hl => match us, hl with | [_, _], _ => rfl,
    He.glo_ok X G (cd.fact 34 (f := .glo "_law_stand") rfl),
    fun_of (st := s__law_rise) F__law_rise,
    (fun_of (st := s__law_rise) F__law_rise).binds (ps := ["_law_point", "_law_line_here"]) fun _ _ _ _ _ _ us hl => match us, hl with | [_, _], _ => rfl,
    He.glo_ok X G (cd.fact 35 (f := .glo "_law_rise") rfl),
    fun_of (st := s__law_line) F__law_line,
    (fun_of (st := s__law_line) F__law_line).binds (ps := ["_law_pot_here", "_law_points_here"]) fun _ _ _ _ _ _ us hl => match us, hl with | [_, _], _ => rfl,
    He.glo_ok X G (cd.fact 36 (f := .glo "_law_line") rfl),
    fun_of (st := s__law_is_fraction) F__law_is_fraction,
    (fun_of (st := s__law_is_fraction) F__law_is_fraction).binds (ps := ["_law_found"]) fun _ _ _ _ _ _ us hl => match us, hl with | [_], _ => rfl,
    He.glo_ok X G (cd.fact 37 (f := .glo "_law_is_fraction") rfl),
    fun_of (st := s__law_sums) F__law_sums,
    (fun_of (st := s__law_sums) F__law_sums).binds (ps := ["_law_points_here", "_law_line_here"]) fun _ _ _ _ _ _ us hl => match us, hl with | [_, _], _ => rfl,
    He.glo_ok X G (cd.fact 38 (f := .glo "_law_sums") rfl),
    fun_of (st := s__law_upside) F__law_upside,
    (fun_of (st := s__law_upside) F__law_upside).binds (ps := ["_law_points_here"]) fun _ _ _ _ _ _ us hl => match us, hl with | [_], _ => rfl,
    He.glo_ok X G (cd.fact 39 (f := .glo "_law_upside") rfl),
    fun_of (st := s__law_right) F__law_right,
    (fun_of (st := s__law_right) F__law_right).binds (ps := ["_law_points_here", "_law_line_here", "_law_at"]) fun _ _ _ _ _ _ us hl => match us, hl with | [_, _, _], _ => rfl,
    He.glo_ok X G (cd.fact 40 (f := .glo "_law_right") rfl),
    fun_of (st := s_law) F_law,
    (fun_of (st := s_law) F_law).binds (ps := ["_law_script"]) fun _ _ _ _ _ _ us hl => match us, hl with | [_], _ => rfl,
    He.glo_ok X G (cd.fact 41 (f := .glo "law") rfl),
    He.glo_ok X G (cd.fact 42 (f := .glo "LineError") rfl),
    (of_decide_eq_true (ex_get cm 0)),
    (of_decide_eq_true (ex_get cm 1)),
    (of_decide_eq_true (ex_get cm 2)),
    (of_decide_eq_true (ex_get cm 3)),
    (of_decide_eq_true (ex_get cm 4)),
    (of_decide_eq_true (ex_get cm 5)),
    He.glo_ok X G (cd.fact 43 (f := .glo "NoPoints") rfl),
    (of_decide_eq_true (ex_get cm 6)),
    (of_decide_eq_true (ex_get cm 7)),
    ⟨(of_decide_eq_true (ex_get cm 8)), (of_decide_eq_true (ex_get cm 9)), (of_decide_eq_true (ex_get cm 13)), (of_decide_eq_true (ex_get cm 16)), (of_decide_eq_true (ex_get cm 10)), (of_decide_eq_true (ex_get cm 32)), (of_decide_eq_true (ex_get cm 33)), (of_decide_eq_true (ex_get cm 11))⟩,
    (of_decide_eq_true (ex_get cm 12)),
    (of_decide_eq_true (ex_get cm 13)),
    (of_decide_eq_true (ex_get cm 14)),
    (of_decide_eq_true (ex_get cm 15)),
    (of_decide_eq_true (ex_get cm 16)),
    (of_decide_eq_true (ex_get cm 17)),
    (of_decide_eq_true (ex_get cm 18)),
    He.glo_ok X G (cd.fact 44 (f := .glo "NoLine") rfl),
    (of_decide_eq_true (ex_get cm 19)),
    (of_decide_eq_true (ex_get cm 20)),
    ⟨(of_decide_eq_true (ex_get cm 21)), (of_decide_eq_true (ex_get cm 22)), (of_decide_eq_true (ex_get cm 26)), (of_decide_eq_true (ex_get cm 29)), (of_decide_eq_true (ex_get cm 23)), (of_decide_eq_true (ex_get cm 32)), (of_decide_eq_true (ex_get cm 33)), (of_decide_eq_true (ex_get cm 24))⟩,
    (of_decide_eq_true (ex_get cm 25)),
    (of_decide_eq_true (ex_get cm 26)),
    (of_decide_eq_true (ex_get cm 27)),
    (of_decide_eq_true (ex_get cm 28)),
    (of_decide_eq_true (ex_get cm 29)),
    (of_decide_eq_true (ex_get cm 30)),
    (of_decide_eq_true (ex_get cm 31)),
    He.free_ok X G (cd.fact 47 (f := .free "isinstance") rfl),
    He.free_ok X G (cd.fact 48 (f := .free "int") rfl),
    He.free_ok X G (cd.fact 49 (f := .free "bool") rfl),
    He.free_ok X G (cd.fact 50 (f := .free "tuple") rfl),
    He.free_ok X G (cd.fact 51 (f := .free "len") rfl),
    He.free_ok X G (cd.fact 52 (f := .free "all") rfl),
    He.free_ok X G (cd.fact 53 (f := .free "list") rfl),
    He.free_ok X G (cd.fact 54 (f := .free "max") rfl),
    He.free_ok X G (cd.fact 55 (f := .free "abs") rfl),
    He.free_ok X G (cd.fact 56 (f := .free "divmod") rfl),
    He.free_ok X G (cd.fact 57 (f := .free "range") rfl),
    He.free_ok X G (cd.fact 58 (f := .free "min") rfl),
    He.free_ok X G (cd.fact 59 (f := .free "any") rfl),
    PySem.W.mg_of X G (of_decide_eq_true (ex_get cm 34)),
    ⟨_, He.glo_ok X G (cd.fact 45 (f := .glo "NOUGHT") rfl), rfl⟩,
    fun H => He.tupB_ok (of_decide_eq_true (ex_get cm 35)) H,
    (let ⟨t, z⟩ := He.int_ok X G (cd.fact 46 (f := .int "MOST_POINTS" 12) rfl); ⟨_, z, ⟨t, rfl⟩⟩)⟩
  refine ⟨d_law, tfL.map (He.cT K), sp_law K a, fun p hp => ?_, fun p hp => ?_, fun p hp => ?_, fun s u => FunD.bindsA (ps := ["_law_script"]) F_law (fun _ _ _ _ _ _ us hl => match us, hl with | [_], _ => rfl) s [u] rfl, fun H s ns hl _ hH hS => ⟨s, ns, rfl, hS, hl, ⟨tabG_of (hH _ (List.mem_map.mpr ⟨("is_row", none), by decide, rfl⟩)), tabG_of (hH _ (List.mem_map.mpr ⟨("are_rows", none), by decide, rfl⟩)), tabG_of (hH _ (List.mem_map.mpr ⟨("are_weighed", none), by decide, rfl⟩))⟩, fun _ => rfl⟩, fun base _ _ hB => ok_law T ⟨tabB_of (hB _ (List.mem_map.mpr ⟨("is_row", none), by decide, rfl⟩)), tabB_of (hB _ (List.mem_map.mpr ⟨("are_rows", none), by decide, rfl⟩)), tabB_of (hB _ (List.mem_map.mpr ⟨("are_weighed", none), by decide, rfl⟩))⟩⟩
  · obtain ⟨q, hq, rfl⟩ := List.mem_map.mp hp; exact c.empty q hq
  · obtain ⟨q, hq, rfl⟩ := List.mem_map.mp hp; exact c.out q hq
  · obtain ⟨q, hq, rfl⟩ := List.mem_map.mp hp; exact PySem.W.codeHd_of_K X (c.hd q hq)
end Lw
open PySem PySem.W PySem.Calls PyProof.Rows
set_option maxRecDepth 100000 in
set_option maxHeartbeats 0 in
theorem PySem.Challenge.cw_signlines_k51_sums_told_holds : PySem.Challenge.rw_signlines_k51_sums_told.Holds := by
  w_on; o_law
  refine HandSHeadRun.head_imp (r := OpenLaw.row PySem.Challenge.rw_signlines_k51_sums_told) (q := view (OpenLaw.row PySem.Challenge.rw_signlines_k51_sums_told).prog [0, 54]) (H := Lw.hk) (ob := Lw.ob) (M := 12000) (loose := Lw.looseL) (d := HandSHeadRun.topDef (OpenLaw.row PySem.Challenge.rw_signlines_k51_sums_told).prog 54) (kwd := []) Lw.ob_eq
    Lw.run (by kernel_rfl) (by kernel_rfl) (by kernel_rfl) (by rfl) (by first | assumption | decide +kernel) (by decide +kernel) ⟨rfl, rfl, rfl, rfl, rfl, by decide +kernel⟩ ?hw ?hc
  case hw => w_witness2
  case hc =>
    refine LamX.walk_ofTsE (l := PySem.Challenge.rw_signlines_k51_sums_told) (n := 63) (k := 13) (x := "_law_script") (CX := fun w => L2.CX (PySem.Challenge.rw_signlines_k51_sums_told).prog w) rfl (by decide) (by kernel_rfl) ⟨rfl, by decide, by decide⟩ ?F (fun _ _ _ _ _ z => by
      obtain ⟨_, _, _, _, _, _, _, _, _, _, _, _, z⟩ := z
      exact z)
    intro w mg fa h Y G hmg0
    obtain ⟨K, KX, c⟩ := Y
    have hmg : mg ("law" : PySem.Str) = some (.ref fa) := by
      have e : (HandSHeadRun.topDef (OpenLaw.row PySem.Challenge.rw_signlines_k51_sums_told).prog 54).name = ("law" : PySem.Str) := by kernel_rfl
      rw [← e]
      exact hmg0
    exact ⟨K, KX, Lw.facts KX G hmg c⟩
