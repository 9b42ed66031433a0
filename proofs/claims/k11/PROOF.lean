import PyProof.Rows.All
import Wide.All
import OpenK.AllK
import Wide.FinOn
import PySem.Challenge.RW_signlines_k11_fractions_reckoned
import HandS.Base
import HandS.Call
import HandS.List
import HandS.Comp
import HandS.Dict
import HandS.Ends
import HandS.Exc
import HandS.TryOnly
import HandS.ExcOwn
import HandS.Words
import HandS.WordsList
import HandS.WordsExc
import HandS.Wide
import HandS.WideBits
import HandS.Gcd
import HandS.IsInst
import HandS.ExcIs
import HandS.Style
import HandS.Flow
set_option Elab.async false
set_option linter.all false
set_option maxRecDepth 100000
set_option maxHeartbeats 4000000
namespace My
open PySem PySem.Spec PyProof.Rows L2

/-! ### what stays -/
theorem sqt_up {K : PySem.W.Frag} {H H' : Hp} {a : Addr} {xs : List V} (e : Same H H') (h : SqT K H a xs) : SqT K H' a xs := by
  rcases h with (h | ⟨o, h⟩) | h
  · exact .inl (.inl (e _ _ h))
  · exact .inl (.inr ⟨o, e _ _ h⟩)
  · exact .inr h
theorem sql_up {K : PySem.W.Frag} {H H' : Hp} {a : Addr} {xs : List V} (e : Same H H') (h : SqL K H a xs) : SqL K H' a xs := e.seq h
mutual
theorem dp_up {K : PySem.W.Frag} {H H' : Hp} (e : Same H H') : ∀ (d : PyData) (v : V), Dp K H v d → Dp K H' v d
  | .none, _, h => by cases h; exact .non
  | .bool b, _, h => by cases h; exact .bl b
  | .int i, _, h => by cases h; exact .int i
  | .str x, _, h => by cases h; exact .str x
  | .list ds, _, h => by
    cases h with
    | lst hs ha => exact .lst (sql_up e hs) (dpa_up e ds _ ha)
  | .tuple ds, _, h => by
    cases h with
    | tup hs ha => exact .tup (sqt_up e hs) (dpa_up e ds _ ha)
  | .dict _, _, h => by cases h
theorem dpa_up {K : PySem.W.Frag} {H H' : Hp} (e : Same H H') : ∀ (ds : List PyData) (vs : List V), DpAll K H vs ds → DpAll K H' vs ds
  | [], _, h => by cases h; exact .nil
  | d :: ds, _, h => by
    cases h with
    | cons h1 h2 => exact .cons (dp_up e d _ h1) (dpa_up e ds _ h2)
end
theorem same_new {H : Hp} {p : Addr} {o : HO} (h : H p = none) : Same H (upd H p o) := fun b u e => by
  rw [upd_ne (ne_of_none e h)]
  exact e

/-! ### operators, every kind at once -/
def rAddA (K : PySem.W.Frag) : R2 := fun x y H Q => match x, y with
  | .int i, .int j => Q (.int (i + j)) H
  | .str a, .str b => a.length + b.length ≤ sizeLine ∧ Q (.str (a ++ b)) H
  | x, y => rCat x y H Q ∨ rCatT K x y H Q
def rEqA (K : PySem.W.Frag) : R2 := fun x y H Q => (scal x y = true ∧ Q (.bl (decide (x = y))) H) ∨ rEqD K x y H Q
def rNeA (K : PySem.W.Frag) : R2 := fun x y H Q => (scal x y = true ∧ Q (.bl (!decide (x = y))) H) ∨ rNeD K x y H Q
/-- // by anything but 0, not too great -/
def CDivX (i j : Int) : Prop := j ≠ 0 ∧ Builtin.divisionGoesByPylong i j = false
def rLenA (K : PySem.W.Frag) : List V → Hp → VK → Prop := fun xs H Q => (∃ p ys, xs = [.ref p] ∧ (SqL K H p ys ∨ SqT K H p ys) ∧ Q (.int ys.length) H) ∨ (∃ z, xs = [.str z] ∧ z.length ≤ sizeLine ∧ Q (.int z.length) H)
def rIxA (K : PySem.W.Frag) : R2 := fun x y H Q => match x, y with
  | .ref a, .int i => ∃ xs v, (SqL K H a xs ∨ SqT K H a xs) ∧ atI xs i = some v ∧ Q v H
  | x, y => rIxS x y H Q
section
variable {X : Cx}
theorem op_fdivX : OpR X (binaryOp .FloorDiv) (rI CDivX fun i j => .int (i.fdiv j)) := opI fun i j _ _ _ _ _ hc q => floordiv_int hc.1 q (.inl hc.2)
theorem op_addA' : OpR X (binaryOp .Add) (rAddA X.K) := by
  intro pins s σ H x y v u Q I rx ry h
  cases x with
  | int i =>
    cases y with
    | int j => exact op_add pins s σ H _ _ v u Q I rx ry ⟨i, j, rfl, rfl, h⟩
    | _ => exact (h.elim (op_cat pins s σ H _ _ v u Q I rx ry) (op_catT pins s σ H _ _ v u Q I rx ry))
  | str a =>
    cases y with
    | str b => exact op_add_str pins s σ H _ _ v u Q I rx ry ⟨a, b, rfl, rfl, h.1, h.2⟩
    | _ => exact (h.elim (op_cat pins s σ H _ _ v u Q I rx ry) (op_catT pins s σ H _ _ v u Q I rx ry))
  | _ => exact (h.elim (op_cat pins s σ H _ _ v u Q I rx ry) (op_catT pins s σ H _ _ v u Q I rx ry))
theorem op_eqA' (hu : X.A.units + 64 < cLine) : OpR X (compareOp .Eq) (rEqA X.K) := by
  intro pins s σ H x y v u Q I rx ry h
  exact h.elim (op_eq pins s σ H x y v u Q I rx ry) (op_eqD hu pins s σ H x y v u Q I rx ry)
theorem op_neA' (hu : X.A.units + 64 < cLine) : OpR X (compareOp .NotEq) (rNeA X.K) := by
  intro pins s σ H x y v u Q I rx ry h
  exact h.elim (op_ne pins s σ H x y v u Q I rx ry) (op_neD hu pins s σ H x y v u Q I rx ry)
theorem ix_any' : IxR X (rIxA X.K) := by
  intro ve se pins s σ H x y v u Q I rx ry h hsub
  cases x with
  | ref a =>
    cases y with
    | int i =>
      obtain ⟨xs, w, hs, ha, q⟩ := h
      rcases hs with hs | hs
      · exact ix_list ve se pins s σ H _ _ v u Q I rx ry ⟨a, xs, i, w, rfl, rfl, hs, ha, q⟩ hsub
      · exact ix_tup ve se pins s σ H _ _ v u Q I rx ry ⟨a, xs, i, w, rfl, rfl, hs, ha, q⟩ hsub
    | _ => exact ix_str ve se pins s σ H _ _ v u Q I rx ry h hsub
  | _ => exact ix_str ve se pins s σ H _ _ v u Q I rx ry h hsub
theorem call_lenA' : CallR X (.builtin "len") (rLenA X.K) := by
  intro pins s σ H xs us Q I r h
  exact h.elim (call_len_seq pins s σ H xs us Q I r) (call_len_str pins s σ H xs us Q I r)
end
/-! ### isinstance of the exception that a suite holds -/
def rIsEA (K : PySem.W.Frag) (a : Addr) (cls : Value) (d : Option Addr) : List V → Hp → VK → Prop := fun xs H Q => ∃ D, cls = .ref D ∧ d = none ∧ ExcC K D ∧
  ((∃ (c : V) (cv : Value) (b : Bool), xs = [.ref a, c] ∧ ClsV c cv ∧ PySem.W.kitOne K (.ref D) cv = some b ∧ Q (.bl b) H) ∨
   (∃ (tp : Addr) (cs : List V) (us : List Value) (b : Bool), xs = [.ref a, .ref tp] ∧ H tp = some (.tup cs) ∧ Paired ClsV cs us ∧ PySem.W.kitAny K (.ref D) us = some b ∧ Q (.bl b) H))
theorem call_isEA {X : Cx} {a : Addr} {cls : Value} {d : Option Addr} {oe : Obj} {pn : List (Addr × Obj)} (hz : Zc cls d oe) (hf : ∃ vs, oe.data = .fields vs) : CallR (X.suite a ((a, oe) :: pn)) (.builtin "isinstance") (rIsEA X.K a cls d) := by
  intro pins s σ H xs us Q I r h
  obtain ⟨D, rfl, rfl, C, ⟨c, cv, b, rfl, hc, e, q⟩ | ⟨tp, cs, ws, b, rfl, hT, k, e, q⟩⟩ := h
  · exact call_isE C hz hf pins s σ H _ us Q I r ⟨c, cv, b, rfl, fun u ru => hc.eq ru, e, q⟩
  · obtain ⟨u1, u2, rfl, rx, r2⟩ := vals2 r
    cases (show u2 = Value.ref tp from r2)
    cases (show u1 = Value.ref a from rx)
    obtain ⟨_, its, rv, o, h1, h2, n, h3⟩ := (show ObjOk X.prog X.w H s.heap tp (.tup cs) from I.hok tp _ hT)
    have e3 := ClsV.all k rv
    subst e3
    obtain ⟨oc, od, dt, sl⟩ := o
    simp only at h2 h3
    subst h2 h3
    obtain ⟨hget, _⟩ := I.pin (a, oe) (List.mem_append.mpr (.inl List.mem_cons_self))
    obtain ⟨vs, hv⟩ := hf
    have J : PySem.W.InstAt s.heap a oe D none := by
      obtain ⟨oc, od, oda, osl⟩ := oe
      obtain ⟨h1, h2⟩ := hz
      dsimp only at h1 h2 hv
      subst h1 h2 hv
      exact ⟨hget, rfl, rfl, trivial⟩
    exact PySem.W.kia_tup (PySem.W.handS_kitx_exc C.hg C.hk C.hs C.hd C.ha C.hn C.ht C.hm) I.kIn J h1 e (fun z => nomatch z) fun tk => ⟨.bl b, H, I.kept (t' := tk) fun _ _ z => z, rfl, q⟩
def tTruA (K : PySem.W.Frag) (te : TE) : TT := fun σ H Q => te σ H fun x H1 => ∃ k, TruV K x H1 k ∧ Q k H1
theorem my_tru {X : Cx} {e : Expr} {t : TE} (h : PE X e t) (he : ∀ whole, isTrue e X.env whole = (do let v ← whole; standAt e.pos; holding [v] (truthy v)) := by intro _; rfl) : PT X e (tTruA X.K t) := pt_truth h he
def rDivmod : List V → Hp → VK → Prop := fun xs H Q => ∃ i j, xs = [.int i, .int j] ∧ CDivP i j ∧ ∀ p, H p = none → Q (.ref p) (upd H p (.tup [.int (i / j), .int (i % j)]))
theorem call_divmodN {X : Cx} : CallR X (.builtin "divmod") rDivmod := call_divmodW
theorem rd_divmod {i j : Int} {H : Hp} {Q : VK} (c : CDivP i j) (k : ∀ p H2, H p = none → Same H H2 → H2 p = some (.tup [.int (i / j), .int (i % j)]) → Q (.ref p) H2) : rDivmod [.int i, .int j] H Q := ⟨i, j, rfl, c, fun p hp => k p _ hp (same_new hp) upd_same⟩
section
variable {X : Cx} (K : PySem.W.Frag)
theorem op_addA (hK : X.K = K := by rfl) : OpR X (binaryOp .Add) (rAddA K) := by subst hK; exact op_addA'
theorem op_eqA (hu : X.A.units + 64 < cLine) (hK : X.K = K := by rfl) : OpR X (compareOp .Eq) (rEqA K) := by subst hK; exact op_eqA' hu
theorem op_neA (hu : X.A.units + 64 < cLine) (hK : X.K = K := by rfl) : OpR X (compareOp .NotEq) (rNeA K) := by subst hK; exact op_neA' hu
theorem ix_any (hK : X.K = K := by rfl) : IxR X (rIxA K) := by subst hK; exact ix_any'
theorem call_lenA (hK : X.K = K := by rfl) : CallR X (.builtin "len") (rLenA K) := by subst hK; exact call_lenA'
theorem my_isi (hK : X.K = K := by rfl) : CallR X (.builtin "isinstance") (rIsi K) := by subst hK; exact call_isi
theorem my_isiT (hK : X.K = K := by rfl) : CallR X (.builtin "isinstance") (rIsiT K) := by subst hK; exact call_isiT
theorem my_any (hc : X.calm = true) (hK : X.K = K := by rfl) : CallR X (.builtin "any") (rAny K) := by subst hK; exact cr_any hc
theorem my_all (hc : X.calm = true) (hK : X.K = K := by rfl) : CallR X (.builtin "all") (rAll K) := by subst hK; exact cr_all hc
theorem my_in (hK : X.K = K := by rfl) : OpR X (compareOp .In) (rIn K false) := by subst hK; exact op_in_seq
theorem my_notin (hK : X.K = K := by rfl) : OpR X (compareOp .NotIn) (rIn K true) := by subst hK; exact op_notIn_seq
theorem my_isE {a : Addr} {cls : Value} {d : Option Addr} {oe : Obj} {pn : List (Addr × Obj)} (hz : Zc cls d oe) (hf : ∃ vs, oe.data = .fields vs) (hK : X.K = K := by rfl) : CallR (X.suite a ((a, oe) :: pn)) (.builtin "isinstance") (rIsEA K a cls d) := by subst hK; exact call_isEA hz hf
theorem my_truth {e : Expr} {t : TE} (h : PE X e t) (hK : X.K = K := by rfl) (he : ∀ whole, isTrue e X.env whole = (do let v ← whole; standAt e.pos; holding [v] (truthy v)) := by intro _; rfl) : PT X e (tTruA K t) := by subst hK; exact my_tru h he
theorem my_gtup {es : List Expr} {k : Nat} {pos : Pos} {t : TGs} (n : Nat) (hc : X.calm = true) (h : PGs X es t) (hK : X.K = K := by rfl) (hn : (assignEach es X.env).length = n := by rfl) (hst : List.findIdx? (fun x => x.1) (assignEach es X.env) = none := by rfl) : PG X (.Tuple es k pos) (gTup K n t) := by subst hK; subst hn; exact pg_tup hc h (hst := hst)
theorem my_ilist {tg l : Expr} {tl : TE} (h : PE X l tl) (hK : X.K = K := by rfl) : PI X tg l (iList K tl) := by subst hK; exact pi_list h
theorem my_itup {tg l : Expr} {tl : TE} (h : PE X l tl) (hK : X.K = K := by rfl) : PI X tg l (iTup K tl) := by subst hK; exact pi_tup h
end
/-- two statements, what holds between them said -/
def tCutE (t u : TS) : TS := fun D σ H => ∃ J : L2.St → Hp → Prop, t { D with nx := J } σ H ∧ ∀ σ' H', J σ' H' → u D σ' H'
theorem pss_cutE {X : Cx} {st : Stmt} {rest : List Stmt} {t u : TS} (h1 : PS X st t) (h2 : PSs X rest u) : PSs X (st :: rest) (tCutE t u) := by
  refine ⟨fun pins s σ H D I h => ?_⟩
  obtain ⟨J, a, b⟩ := h
  refine wpAny_execs_cons (thn (h1.run pins s σ H { D with nx := J } I a) fun f s1 q => ?_)
  cases f with
  | next =>
    obtain ⟨σ', H', I', q⟩ := q
    exact h2.run pins s1 σ' H' D I' (b σ' H' q)
  | ret v => exact q
  | brk => exact q
  | cont => exact q
theorem rd_cut {t u : TS} {D : Ends} {σ : L2.St} {H : Hp} (J : L2.St → Hp → Prop) (h1 : t { D with nx := J } σ H) (h2 : ∀ σ' H', J σ' H' → u D σ' H') : tCutE t u D σ H := ⟨J, h1, h2⟩
theorem rd_cutS {t u : TS} {D : Ends} {σ : L2.St} {H : Hp} (R : Hp → Prop) (h1 : t { D with nx := fun σ' H' => σ' = σ ∧ R H' } σ H) (h2 : ∀ H', R H' → u D σ H') : tCutE t u D σ H :=
  ⟨_, h1, fun σ' H' z => by obtain ⟨rfl, z⟩ := z; exact h2 H' z⟩
/-- {k: v}, k a tuple -/
def tDispT (tk tv : TE) : TE := fun σ H Q => ∀ p, H p = none → tk σ (upd H p (.dT [])) fun x H1 => tv σ H1 fun y H2 => ∃ b ks, x = .ref b ∧ H2 p = some (.dT []) ∧ H2 b = some (.tup (ks.map kV)) ∧ Q (.ref p) (upd H2 p (.dT (putK [] ks y)))
theorem pe_dispT {X : Cx} {k v : Expr} {tk tv : TE} {pos : Pos} (hu : X.A.units + 64 < cLine) (hk : PE X k tk) (hv : PE X v tv) : PE X (.Dict [some k] [v] pos) (tDispT tk tv) := by
  refine ⟨fun pins s σ H Q I q => ?_⟩
  have hn := I.hok.fresh (Nat.le_refl s.heap.objs.size)
  have I1 := I.laid (a := s.heap.objs.size) (o := .dT []) (h' := s.heap.push { cls := .type "dict", data := .dict #[] }) (t' := s.toks) (fun _ _ q => Heap.get?_push_of_some _ q) (Nat.le_refl _) (dt_empty s.heap I.big)
  have z := zip_pairTrees [some k] [v] X.env pos rfl rfl
  rw [arm_eval_Dict, z, dictDisplay_pairs _ (by simp [pairTrees]) (by simp [pairTrees])]
  refine wpAny_bind (wpAny_standAt (wpAny_bind ?_))
  unfold subDict
  refine wpAny_bind (wpAny_alloc ?_)
  refine wpAny_bind (wpAny_holding ?_)
  rw [if_pos (by simp [pairTrees])]
  refine wpAny_bind ?_
  refine pairTrees_cons_walk (thn (hk.run pins _ σ _ _ I1 (q _ hn)) fun u s1 ⟨x, H1, J1, rx, q1⟩ => thn (hv.run pins s1 σ H1 _ J1 q1) fun w2 s2 ⟨y, H2, J2, ry, q2⟩ => pairTrees_nil_walk ?_)
  obtain ⟨b, ks, rfl, ep, eb, q3⟩ := q2
  cases (show u = Value.ref b from rx)
  obtain ⟨z, hd, xs, rel, dd⟩ := dt_of J2.hok ep
  refine wpAny_holding ?_
  rw [List.forIn_cons]
  have hz : xs.length ≤ sizeLine := by rw [← Paired.length rel]; exact z
  refine wpAny_bind (wpAny_bind (wpAny_bind (wpAny_dictSet_heap (hsz := hz) (show X.A.units < cLine by omega) (key_of J2.hok eb) dd fun h' dd' hs => wpAny_pure ?_)))
  dsimp only
  rw [List.forIn_nil]
  obtain ⟨o, es, en, hq, h2, h3, h4, _, h5⟩ := dd'
  have hl : (putK ([] : List (List Key × V)) ks y).length ≤ sizeLine := by
    have := length_putK ([] : List (List Key × V)) ks y
    rw [List.length_nil] at this
    exact Nat.le_trans this (by decide)
  refine wpAny_pure (wpAny_pure (wpAny_pure (wpAny_pure ⟨.ref s.heap.objs.size, _, ?_, rfl, q3⟩)))
  refine d_write J2 (by rw [ep]; exact True.intro) hs ⟨o, hq⟩ ⟨hl, hd, _, (rel.put ks eb ry).keeps fun c ys ec => ?_, o, es, en, hq, h2, h3, h4, h5⟩
  rw [upd_ne (ne_of ec ep (fun z => nomatch z))]
  exact ec
def rInt1 : List V → Hp → VK → Prop := fun xs H Q => (∃ i, xs = [.int i] ∧ Q (.int i) H) ∨ ∃ k, xs = [.bl k] ∧ Q (.int (if k then 1 else 0)) H
theorem my_int1 {X : Cx} : CallR X (.type "int") rInt1 := call_int1
theorem rd_int1 {i : Int} {H : Hp} {Q : VK} (k : Q (.int i) H) : rInt1 [.int i] H Q := .inl ⟨i, rfl, k⟩
theorem rd_int1b {b : Bool} {H : Hp} {Q : VK} (k : Q (.int (if b then 1 else 0)) H) : rInt1 [.bl b] H Q := .inr ⟨b, rfl, k⟩
theorem bt_isinstance : bootBuiltins "isinstance" = some (.builtin "isinstance") := by decide +kernel
theorem bt_len : bootBuiltins "len" = some (.builtin "len") := by decide +kernel
theorem bt_abs : bootBuiltins "abs" = some (.builtin "abs") := by decide +kernel
theorem bt_max : bootBuiltins "max" = some (.builtin "max") := by decide +kernel
theorem bt_min : bootBuiltins "min" = some (.builtin "min") := by decide +kernel
theorem bt_divmod : bootBuiltins "divmod" = some (.builtin "divmod") := by decide +kernel
theorem bt_any : bootBuiltins "any" = some (.builtin "any") := by decide +kernel
theorem bt_all : bootBuiltins "all" = some (.builtin "all") := by decide +kernel
theorem bt_sum : bootBuiltins "sum" = some (.builtin "sum") := by decide +kernel
theorem bt_sorted : bootBuiltins "sorted" = some (.builtin "sorted") := by decide +kernel
theorem bt_int : bootBuiltins "int" = some (.type "int") := by decide +kernel
theorem bt_bool : bootBuiltins "bool" = some (.type "bool") := by decide +kernel
theorem bt_list : bootBuiltins "list" = some (.type "list") := by decide +kernel
theorem bt_tuple : bootBuiltins "tuple" = some (.type "tuple") := by decide +kernel
theorem bt_str : bootBuiltins "str" = some (.type "str") := by decide +kernel
theorem bt_ord : bootBuiltins "ord" = some (.builtin "ord") := by decide +kernel
theorem hu64 {A : Around} {k : Nat} (hr : Room k A) : A.units + 64 < cLine := by have := hr.un; omega
end My
/-! ### fractions as rational numbers -/
namespace My
/-- the divisor: the greatest common one, with the bottom's sign -/
def dv (t b : Int) : Int := if b < 0 then -((t.natAbs.gcd b.natAbs : Nat) : Int) else ((t.natAbs.gcd b.natAbs : Nat) : Int)
theorem gcd_pos {t b : Int} (h : b ≠ 0) : 0 < t.natAbs.gcd b.natAbs := Nat.gcd_pos_of_pos_right _ (Int.natAbs_pos.mpr h)
theorem dv_ne {t b : Int} (h : b ≠ 0) : dv t b ≠ 0 := by
  have := gcd_pos (t := t) h
  unfold dv; split <;> omega
theorem num_dv {t b : Int} (h : b ≠ 0) : t.fdiv (dv t b) = (Rat.divInt t b).num := by
  have g0 := gcd_pos (t := t) h
  have e : b.gcd t = t.natAbs.gcd b.natAbs := Nat.gcd_comm _ _
  rw [Rat.num_divInt, e]
  unfold dv
  split
  · rename_i hb
    rw [Int.sign_eq_neg_one_of_neg hb, ← Int.neg_fdiv_neg, Int.neg_neg, Int.fdiv_eq_ediv_of_nonneg _ (by omega), Int.neg_one_mul]
  · rw [Int.sign_eq_one_of_pos (by omega), Int.fdiv_eq_ediv_of_nonneg _ (by omega), Int.one_mul]
theorem den_dv {t b : Int} (h : b ≠ 0) : b.fdiv (dv t b) = ((Rat.divInt t b).den : Int) := by
  have g0 := gcd_pos (t := t) h
  have e : b.gcd t = t.natAbs.gcd b.natAbs := Nat.gcd_comm _ _
  rw [Rat.den_divInt, if_neg h, e]
  unfold dv
  split
  · rename_i hb
    rw [← Int.neg_fdiv_neg, Int.neg_neg, Int.fdiv_eq_ediv_of_nonneg _ (by omega)]
    have : -b = (b.natAbs : Int) := by omega
    rw [this]; rfl
  · rw [Int.fdiv_eq_ediv_of_nonneg _ (by omega)]
    have : b = (b.natAbs : Int) := by omega
    conv => lhs; rw [this]
    rfl
theorem den_ne (q : Rat) : (q.den : Int) ≠ 0 := by have := q.den_nz; omega
theorem add_as (q r : Rat) : Rat.divInt (q.num * r.den + r.num * q.den) (q.den * r.den) = q + r := by
  rw [← Rat.divInt_add_divInt _ _ (den_ne q) (den_ne r), Rat.num_divInt_den, Rat.num_divInt_den]
theorem sub_as (q r : Rat) : Rat.divInt (q.num * r.den - r.num * q.den) (q.den * r.den) = q - r := by
  rw [← Rat.divInt_sub_divInt _ _ (den_ne q) (den_ne r), Rat.num_divInt_den, Rat.num_divInt_den]
theorem mul_as (q r : Rat) : Rat.divInt (q.num * r.num) (q.den * r.den) = q * r := by
  rw [← Rat.divInt_mul_divInt, Rat.num_divInt_den, Rat.num_divInt_den]
theorem div_as (q r : Rat) : Rat.divInt (q.num * r.den) (q.den * r.num) = q / r := by
  rw [← Rat.divInt_mul_divInt, ← Rat.inv_divInt r.num, Rat.num_divInt_den, Rat.num_divInt_den, ← Rat.div_def]
theorem lt_as (q r : Rat) : decide (q.num * r.den < r.num * q.den) = decide (q < r) := by
  rw [decide_eq_decide]; exact (Rat.lt_iff q r).symm
theorem num_ne {q : Rat} (h : q ≠ 0) : q.num ≠ 0 := fun e => h (Rat.num_eq_zero.mp e)
/-- both parts below 2 ^ n -/
structure Sz (n : Nat) (q : Rat) : Prop where
  nu : q.num.natAbs < 2 ^ n
  de : q.den < 2 ^ n
theorem Sz.mono {n m : Nat} {q : Rat} (h : Sz n q) (l : n ≤ m) : Sz m q :=
  ⟨Nat.lt_of_lt_of_le h.nu (Nat.pow_le_pow_right (by decide) l), Nat.lt_of_lt_of_le h.de (Nat.pow_le_pow_right (by decide) l)⟩
theorem Sz.div {n : Nat} {t b : Int} (hb : b ≠ 0) (h1 : t.natAbs < 2 ^ n) (h2 : b.natAbs < 2 ^ n) : Sz n (Rat.divInt t b) := by
  have g0 := gcd_pos (t := t) hb
  constructor
  · rw [Rat.num_divInt]
    have l : (b.sign * t / ((b.gcd t : Nat) : Int)).natAbs ≤ t.natAbs := by
      refine Nat.le_trans (Int.natAbs_ediv_le_natAbs _ _) ?_
      rw [Int.natAbs_mul]
      have : b.sign.natAbs ≤ 1 := by rw [Int.natAbs_sign]; split <;> omega
      calc b.sign.natAbs * t.natAbs ≤ 1 * t.natAbs := Nat.mul_le_mul_right _ this
        _ = t.natAbs := Nat.one_mul _
    omega
  · rw [Rat.den_divInt, if_neg hb]
    exact Nat.lt_of_le_of_lt (Nat.div_le_self _ _) h2
theorem mul_lt_pow {a b n m : Nat} (h1 : a < 2 ^ n) (h2 : b < 2 ^ m) : a * b < 2 ^ (n + m) := by
  rw [Nat.pow_add]; exact Nat.mul_lt_mul'' h1 h2
theorem pow_up {a n m : Nat} (h : a < 2 ^ n) (l : n ≤ m) : a < 2 ^ m := Nat.lt_of_lt_of_le h (Nat.pow_le_pow_right (by decide) l)
theorem add_pow {a b n : Nat} (h1 : a < 2 ^ n) (h2 : b < 2 ^ n) : a + b < 2 ^ (n + 1) := by rw [Nat.pow_succ]; omega
theorem Sz.add {n m : Nat} {q r : Rat} (h1 : Sz n q) (h2 : Sz m r) : Sz (n + m + 1) (q + r) := by
  rw [← add_as]
  refine Sz.div (Int.mul_ne_zero (den_ne q) (den_ne r)) ?_ ?_
  · refine Nat.lt_of_le_of_lt (Int.natAbs_add_le _ _) (add_pow ?_ ?_)
    · rw [Int.natAbs_mul]; exact mul_lt_pow h1.nu h2.de
    · rw [Int.natAbs_mul, Nat.add_comm]; exact mul_lt_pow h2.nu h1.de
  · rw [Int.natAbs_mul]; exact pow_up (mul_lt_pow h1.de h2.de) (by omega)
theorem Sz.sub {n m : Nat} {q r : Rat} (h1 : Sz n q) (h2 : Sz m r) : Sz (n + m + 1) (q - r) := by
  rw [← sub_as]
  refine Sz.div (Int.mul_ne_zero (den_ne q) (den_ne r)) ?_ ?_
  · refine Nat.lt_of_le_of_lt (Int.natAbs_sub_le _ _) (add_pow ?_ ?_)
    · rw [Int.natAbs_mul]; exact mul_lt_pow h1.nu h2.de
    · rw [Int.natAbs_mul, Nat.add_comm]; exact mul_lt_pow h2.nu h1.de
  · rw [Int.natAbs_mul]; exact pow_up (mul_lt_pow h1.de h2.de) (by omega)
theorem Sz.mul {n m : Nat} {q r : Rat} (h1 : Sz n q) (h2 : Sz m r) : Sz (n + m) (q * r) := by
  rw [← mul_as]
  refine Sz.div (Int.mul_ne_zero (den_ne q) (den_ne r)) ?_ ?_
  · rw [Int.natAbs_mul]; exact mul_lt_pow h1.nu h2.nu
  · rw [Int.natAbs_mul]; exact mul_lt_pow h1.de h2.de
theorem Sz.dvd {n m : Nat} {q r : Rat} (h1 : Sz n q) (h2 : Sz m r) (h : r ≠ 0) : Sz (n + m) (q / r) := by
  rw [← div_as]
  refine Sz.div (Int.mul_ne_zero (den_ne q) (num_ne h)) ?_ ?_
  · rw [Int.natAbs_mul]; exact mul_lt_pow h1.nu h2.de
  · rw [Int.natAbs_mul]; exact mul_lt_pow h1.de h2.nu
theorem Sz.neg {n : Nat} {q : Rat} (h : Sz n q) : Sz n (-q) := ⟨by rw [Rat.neg_num, Int.natAbs_neg]; exact h.nu, h.de⟩
theorem rat_ext {q r : Rat} (h1 : q.num = r.num) (h2 : q.den = r.den) : q = r := Rat.ext h1 h2
end My
namespace My
open PySem PySem.Spec PyProof.Rows L2
section
variable {X : Cx}
theorem my_ty (n : String) {x : Str} {pos : Pos} (hm : X.mg x = none) (hg : Gl X x := by rfl) (hv : bootBuiltins x = some (.type n) := by decide +kernel) (hn : x ≠ "__name__" := by decide) (hd : (x == ("__debug__" : Str)) = false := by decide) : PE X (.Name x pos) (tC (.ty n)) :=
  pe_bltn hg hm hv rfl hn hd
theorem my_cls {x : Str} {C : Addr} {pos : Pos} (hm : X.mg x = some (.ref C)) (hg : Gl X x := by rfl) (hd : (x == ("__debug__" : Str)) = false := by decide) : PE X (.Name x pos) (tC (.ref C)) := pe_glob hg hm rfl hd
theorem my_const {x : Str} {v : V} {pos : Pos} (h : ∃ u, X.mg x = some u ∧ RelV v u) (hg : Gl X x := by rfl) (hd : (x == ("__debug__" : Str)) = false := by decide) : PE X (.Name x pos) (tC v) := by
  obtain ⟨u, h1, h2⟩ := h
  exact pe_glob hg h1 h2 hd
end

/-! ### the pot: a list of two numbers from 0 on -/
def PotAt (H : Hp) (p : Addr) : Prop := ∃ a b : Int, H p = some (.lst [.int a, .int b]) ∧ 0 ≤ a ∧ 0 ≤ b ∧ b < 2147483648
structure Kp (p : Addr) (H H' : Hp) : Prop where
  old : PotAt H p
  new : PotAt H' p
  keep : ∀ c o, c ≠ p → H c = some o → H' c = some o
theorem Kp.refl {p : Addr} {H : Hp} (h : PotAt H p) : Kp p H H := ⟨h, h, fun _ _ _ e => e⟩
theorem Kp.trans {p : Addr} {H H1 H2 : Hp} (a : Kp p H H1) (b : Kp p H1 H2) : Kp p H H2 := ⟨a.old, b.new, fun c o n e => b.keep c o n (a.keep c o n e)⟩
theorem PotAt.up {p : Addr} {H H' : Hp} (s : Same H H') (h : PotAt H p) : PotAt H' p := by
  obtain ⟨a, b, e, r⟩ := h
  exact ⟨a, b, s _ _ e, r⟩
theorem Kp.of {p : Addr} {H H' : Hp} (s : Same H H') (h : PotAt H p) : Kp p H H' := ⟨h, h.up s, fun c o _ e => s c o e⟩
theorem Kp.sqt {K : PySem.W.Frag} {p a : Addr} {H H' : Hp} {xs : List V} (k : Kp p H H') (h : SqT K H a xs) : SqT K H' a xs := by
  obtain ⟨i, j, e, _⟩ := k.old
  have ne : ∀ o, H a = some o → (∀ l, o ≠ .lst l) → a ≠ p := fun o ho hl z => by
    subst z
    rw [ho] at e
    exact hl _ (Option.some.inj e)
  rcases h with (h | ⟨o, h⟩) | h
  · exact .inl (.inl (k.keep _ _ (ne _ h (fun _ z => nomatch z)) h))
  · exact .inl (.inr ⟨o, k.keep _ _ (ne _ h (fun _ z => nomatch z)) h⟩)
  · exact .inr h
/-- free behind, free ahead -/
theorem Kp.free {p l : Addr} {H H' : Hp} (k : Kp p H H') (h : H' l = none) : H l = none := by
  cases q : H l with
  | none => rfl
  | some o =>
    by_cases e : l = p
    · subst e
      obtain ⟨_, _, z, _⟩ := k.new
      rw [h] at z; cases z
    · rw [k.keep l o e q] at h; cases h

/-! ### a fraction: the tuple of its two parts -/
def Fr (K : PySem.W.Frag) (H : Hp) (v : V) (q : Rat) : Prop := ∃ a, v = .ref a ∧ SqT K H a [.int q.num, .int (q.den : Int)]
theorem Fr.up {K : PySem.W.Frag} {H H' : Hp} {v : V} {q : Rat} (s : Same H H') (h : Fr K H v q) : Fr K H' v q := by
  obtain ⟨a, e, h⟩ := h
  exact ⟨a, e, sqt_up s h⟩
theorem Fr.kp {K : PySem.W.Frag} {p : Addr} {H H' : Hp} {v : V} {q : Rat} (s : Kp p H H') (h : Fr K H v q) : Fr K H' v q := by
  obtain ⟨a, e, h⟩ := h
  exact ⟨a, e, s.sqt h⟩
theorem Fr.dp {K : PySem.W.Frag} {H : Hp} {v : V} {q : Rat} (h : Fr K H v q) : Dp K H v (.tuple [.int q.num, .int (q.den : Int)]) := by
  obtain ⟨a, rfl, h⟩ := h
  exact .tup h (.cons (.int _) (.cons (.int _) .nil))

/-! ### the readings, one construct a rule -/
section
variable {K : PySem.W.Frag} {σ : L2.St} {H : Hp} {Q : VK} {ta tb tc : TE} {te : TA} {D : Ends} {t1 t2 : TS}
theorem rd_var {i : Nat} {v : V} (h : σ[i]? = some (some v)) (k : Q v H) : tVar i σ H Q := ⟨v, h, k⟩
theorem rd_c {v : V} (k : Q v H) : tC v σ H Q := k
theorem rd_op {r : R2} (k : ta σ H fun x H1 => tb σ H1 fun y H2 => r x y H2 Q) : tOp r ta tb σ H Q := k
theorem rd_un {r : V → Hp → VK → Prop} (k : ta σ H fun x H1 => r x H1 Q) : tUn r ta σ H Q := k
theorem rd_nil {R : List V → Hp → Prop} (k : R [] H) : tNil σ H R := k
theorem rd_cons {R : List V → Hp → Prop} (k : ta σ H fun x H1 => te σ H1 fun xs H2 => R (x :: xs) H2) : tCons ta te σ H R := k
theorem rd_callS {sp : Sp} {E : L2.St → XK} (k : te σ H fun vs H1 => sp vs H1 Q (E σ)) : tCallS sp E te σ H Q := k
theorem rd_call {sp : Sp} {E : XK} (k : te σ H fun vs H1 => sp vs H1 Q E) : tCall sp [] E te σ H Q := by
  show te σ H fun vs H1 => sp (vs ++ []) H1 Q E
  simpa using k
theorem rd_cb {r : List V → Hp → VK → Prop} (k : te σ H fun vs H1 => r vs H1 Q) : tCB r te σ H Q := k
/-- a new object -/
def MkO (n : Nat) (o : HO) (H : Hp) (Q : VK) : Prop := n ≤ sizeLine ∧ ∀ p, H p = none → Q (.ref p) (upd H p o)
theorem rd_tup (k : te σ H fun xs H1 => MkO xs.length (.tup xs) H1 Q) : tTup te σ H Q := k
theorem rd_lst (k : te σ H fun xs H1 => MkO xs.length (.lst xs) H1 Q) : tLst te σ H Q := k
theorem rd_I0 {g : Int → Int → V} {i j : Int} (k : Q (g i j) H) : rI0 g (.int i) (.int j) H Q := ⟨i, j, rfl, rfl, k⟩
theorem rd_I {C : Int → Int → Prop} {g : Int → Int → V} {i j : Int} (h : C i j) (k : Q (g i j) H) : rI C g (.int i) (.int j) H Q := ⟨i, j, rfl, rfl, h, k⟩
theorem rd_U {g : Int → V} {i : Int} (k : Q (g i) H) : rU g (.int i) H Q := ⟨i, rfl, k⟩
theorem rd_addI {i j : Int} (k : Q (.int (i + j)) H) : rAddA K (.int i) (.int j) H Q := k
theorem rd_eqI {i j : Int} (k : Q (.bl (decide (i = j))) H) : rEqA K (.int i) (.int j) H Q := .inl ⟨rfl, by simpa using k⟩
theorem rd_neI {i j : Int} (k : Q (.bl (!decide (i = j))) H) : rNeA K (.int i) (.int j) H Q := .inl ⟨rfl, by simpa using k⟩
theorem rd_eqD {x y : V} {d e : PyData} (h1 : Dp K H x d) (h2 : Dp K H y e) (s1 : SeqAt.shaped d = true) (s2 : SeqAt.shaped e = true) (k : Q (.bl (PyData.eqv d e)) H) : rEqA K x y H Q := .inr ⟨d, e, h1, h2, s1, s2, k⟩
theorem rd_neD {x y : V} {d e : PyData} (h1 : Dp K H x d) (h2 : Dp K H y e) (s1 : SeqAt.shaped d = true) (s2 : SeqAt.shaped e = true) (k : Q (.bl (!PyData.eqv d e)) H) : rNeA K x y H Q := .inr ⟨d, e, h1, h2, s1, s2, k⟩
theorem rd_ixF0 {v : V} {q : Rat} (h : Fr K H v q) (k : Q (.int q.num) H) : rIxA K v (.int 0) H Q := by
  obtain ⟨a, rfl, h⟩ := h
  exact ⟨_, _, .inr h, rfl, k⟩
theorem rd_ixF1 {v : V} {q : Rat} (h : Fr K H v q) (k : Q (.int (q.den : Int)) H) : rIxA K v (.int 1) H Q := by
  obtain ⟨a, rfl, h⟩ := h
  exact ⟨_, _, .inr h, rfl, k⟩
theorem rd_ixL {a : Addr} {xs : List V} {i : Int} {v : V} (h : H a = some (.lst xs)) (e : atI xs i = some v) (k : Q v H) : rIxA K (.ref a) (.int i) H Q := ⟨xs, v, .inl (SqL.of h), e, k⟩
theorem rd_ixSL {a : Addr} {xs : List V} {i : Int} {v : V} (h : SqL K H a xs) (e : atI xs i = some v) (k : Q v H) : rIxA K (.ref a) (.int i) H Q := ⟨xs, v, .inl h, e, k⟩
theorem rd_test {R : Bool → Hp → Prop} (k : ta σ H fun x H1 => ∃ b, x = .bl b ∧ R b H1) : tTest ta σ H R := k
theorem rd_any {p : Addr} {bs : List Bool} (h : SqL K H p (bs.map V.bl)) (k : Q (.bl (bs.any id)) H) : rAny K [.ref p] H Q := ⟨p, bs, rfl, h, k⟩
theorem rd_yes {R : Bool → Hp → Prop} (k : R true H) : tYes σ H R := k
theorem rd_lcTv {i j : Nat} {a : Addr} {xs : List V} {te : TE} {vs : List Nat} (hv : σ[j]? = some (some (.ref a))) (h : SqT K H a xs) (hz : xs.length ≤ 1000) (hw : ∀ v, wipe ((wipe σ vs).set i (some v)) vs = wipe σ vs) (f : Nat → V)
    (he : ∀ n x H2, xs[n]? = some x → Same H H2 → ∀ Q' : VK, (∀ H3, Same H2 H3 → Q' (f n) H3) → te ((wipe σ vs).set i (some x)) H2 Q') (k : ∀ D H2, Same H H2 → H2 D = some (.lst ((List.range xs.length).map f)) → Q (.ref D) H2) :
    tLc (iTup K (tVar j)) (gName i) tYes te vs σ H Q := by
  refine ⟨_, hv, a, rfl, ⟨xs, h⟩, fun D hD => ?_⟩
  refine lc_tup (K := K) (a := a) (xs := xs) (fun n H2 => Same H H2 ∧ H2 D = some (.lst ((List.range n).map f))) ⟨same_new hD, upd_same⟩ (fun n H2 _ p => sqt_up p.1 h) (fun n x H2 hx p => ?_) (fun H2 p => k D H2 p.1 p.2)
  refine ⟨hw _, ?_⟩
  refine rd_yes ?_
  rw [if_pos rfl]
  refine he n x H2 hx p.1 _ fun H3 s3 => ⟨_, s3 _ _ p.2, ?_, ?_, ?_⟩
  · have := (List.getElem?_eq_some_iff.mp hx).1
    rw [List.length_map, List.length_range]
    exact Nat.lt_of_lt_of_le (by omega : n < 1000) (by decide)
  · exact fun c o e => by
      rw [upd_ne (ne_of_none e hD)]
      exact s3 _ _ (p.1 _ _ e)
  · show upd H3 D _ D = _
    rw [upd_same, List.range_succ, List.map_append]
    rfl
theorem rd_isE1 {C ea : Addr} {v : V} {cv : Value} {b : Bool} (hC : ExcC K C) (hc : ClsV v cv) (e : PySem.W.kitOne K (.ref C) cv = some b) (k : Q (.bl b) H) : rIsEA K ea (.ref C) none [.ref ea, v] H Q := ⟨C, rfl, rfl, hC, .inl ⟨v, cv, b, rfl, hc, e, k⟩⟩
theorem pairedRefs : ∀ (Cs : List Addr), Paired ClsV (Cs.map V.ref) (Cs.map Value.ref)
  | [] => .nil
  | C :: Cs => .cons (.own C) (pairedRefs Cs)
theorem rd_isET {C ea p : Addr} (Cs : List Addr) {b : Bool} (hC : ExcC K C) (hT : H p = some (.tup (Cs.map V.ref))) (e : PySem.W.kitAny K (.ref C) (Cs.map Value.ref) = some b) (k : Q (.bl b) H) : rIsEA K ea (.ref C) none [.ref ea, .ref p] H Q :=
  ⟨C, rfl, rfl, hC, .inr ⟨p, _, _, b, rfl, hT, pairedRefs Cs, e, k⟩⟩
theorem kit_one {C D : Addr} {b : Bool} (t : PySem.W.typeIn K (.ref C) = some (.type "type")) (i : PySem.W.isClsIn K C = true) (s : PySem.W.subIn K (.ref D) (.ref D) = some true) (h : PySem.W.subIn K (.ref D) (.ref C) = some b) : PySem.W.kitOne K (.ref D) (.ref C) = some b := by
  by_cases e : D = C
  · subst e
    rw [s] at h
    cases h
    unfold PySem.W.kitOne
    rw [if_pos (by simp)]
  · have h0 : (Value.ref D == Value.ref C) = false := by simpa using e
    have i' : (PySem.W.clsIn K C).isSome = true := i
    unfold PySem.W.kitOne
    rw [h0, if_neg Bool.false_ne_true]
    show (if ((PySem.W.clsIn K C).isSome && PySem.W.typeIn K (.ref C) == some (.type "type")) = true then PySem.W.subIn K (.ref D) (.ref C) else none) = some b
    rw [i', t]
    simpa using h
theorem kit_val {D : Addr} {n : String} {b : Bool} (hm : PySem.W.kitMeta n = true) (h : PySem.W.subIn K (.ref D) (.type n) = some b) : PySem.W.kitOne K (.ref D) (.type n) = some b := by
  have h0 : (Value.ref D == Value.type n) = false := rfl
  unfold PySem.W.kitOne
  rw [h0, if_neg Bool.false_ne_true]
  show (if PySem.W.kitMeta n = true then PySem.W.subIn K (.ref D) (.type n) else none) = some b
  rw [if_pos hm]; exact h
theorem rd_truA {R : Bool → Hp → Prop} (k : ta σ H fun x H1 => ∃ b, TruV K x H1 b ∧ R b H1) : tTruA K ta σ H R := k
theorem rd_not {t : TT} {R : Bool → Hp → Prop} (k : t σ H fun c H1 => R (!c) H1) : tNot t σ H R := k
theorem rd_and {t u : TT} {R : Bool → Hp → Prop} (k : t σ H fun c H1 => if c = true then u σ H1 R else R false H1) : tAnd t u σ H R := k
theorem rd_or {t u : TT} {R : Bool → Hp → Prop} (k : t σ H fun c H1 => if c = true then R true H1 else u σ H1 R) : tOr t u σ H R := k
theorem rd_andV (k : ta σ H fun x H1 => ∃ c, x = .bl c ∧ if c = true then tb σ H1 Q else Q (.bl false) H1) : tAndV ta tb σ H Q := k
theorem rd_orV (k : ta σ H fun x H1 => ∃ c, x = .bl c ∧ if c = true then Q (.bl true) H1 else tb σ H1 Q) : tOrV ta tb σ H Q := k
theorem rd_notV (k : ta σ H fun x H1 => ∃ c, x = .bl c ∧ Q (.bl (!c)) H1) : tNotV ta σ H Q := k
theorem rd_if {c : TT} (k : c σ H fun b H1 => if b = true then t1 D σ H1 else t2 D σ H1) : tIfS c t1 t2 D σ H := k
theorem rd_seq (k : t1 { D with nx := t2 D } σ H) : tSeq t1 t2 D σ H := k
theorem rd_asg {g : TG} (k : ta σ H fun x H1 => g x σ H1 D.nx) : tAsg ta g D σ H := k
theorem rd_name {i : Nat} {v : V} {R : L2.St → Hp → Prop} (k : R (σ.set i (some v)) H) : gName i v σ H R := k
theorem rd_par {i j : Nat} (k : te σ H fun vs H1 => ∃ v w, vs = [v, w] ∧ D.nx ((σ.set i (some v)).set j (some w)) H1) : tPar i j te D σ H := k
theorem rd_ret (k : ta σ H D.rt) : tRet ta D σ H := k
theorem rd_drop (k : ta σ H fun _ H1 => D.nx σ H1) : tDrop ta D σ H := k
theorem rd_next (k : D.nx σ H) : tNext D σ H := k
theorem rd_bl {P : Bool → Prop} {b : Bool} (k : P b) : ∃ c, V.bl b = V.bl c ∧ P c := ⟨b, rfl, k⟩
theorem rd_tru {P : Bool → Prop} {b : Bool} (k : P b) : ∃ c, TruV K (.bl b) H c ∧ P c := ⟨b, rfl, k⟩
theorem rd_p2 {v w : V} {P : V → V → Prop} (k : P v w) : ∃ v' w', [v, w] = [v', w'] ∧ P v' w' := ⟨v, w, rfl, k⟩
theorem rd_gcd {i j : Int} (k : Q (.int ((i.natAbs.gcd j.natAbs : Nat) : Int)) H) : rGcd [.int i, .int j] H Q := ⟨i, j, rfl, k⟩
theorem rd_gtup {n : Nat} {g : TGs} {a : Addr} {xs : List V} {R : L2.St → Hp → Prop} (h : SqT K H a xs) (hn : xs.length = n) (k : g xs σ H R) : gTup K n g (.ref a) σ H R := ⟨a, xs, rfl, h, hn, k⟩
theorem rd_gcons {t : TG} {u : TGs} {v : V} {r : List V} {R : L2.St → Hp → Prop} (k : t v σ H fun σ' H' => u r σ' H' R) : gCons t u (v :: r) σ H R := ⟨v, r, rfl, k⟩
theorem rd_gnil {R : L2.St → Hp → Prop} (k : R σ H) : gNil [] σ H R := ⟨rfl, k⟩
/-- isinstance of what has a built-in type -/
theorem rd_isi {x : V} {t n : String} {b : Bool} (ty : TyX K H x (.type t)) (e : kitB t n = some b) (k : Q (.bl b) H) : rIsi K [x, .ty n] H Q := ⟨x, .ty n, .type t, .type n, b, rfl, .ty n, ty, kit_ty e, k⟩
end
theorem Fr.ty {K : PySem.W.Frag} {H : Hp} {v : V} {q : Rat} (h : Fr K H v q) : TyX K H v (.type "tuple") := by
  obtain ⟨a, rfl, h⟩ := h
  rcases h with (h | ⟨o, h⟩) | ⟨o, its, n, h1, h2, _⟩
  · exact .base (.tup h)
  · exact .fTuple h
  · exact .kTuple h1 h2
theorem Kp.tos {p : Addr} {H H1 H2 : Hp} (a : Kp p H H1) (b : Same H1 H2) : Kp p H H2 := a.trans (Kp.of b a.new)
theorem Kp.sat {p : Addr} {H H1 H2 : Hp} (s : Same H H1) (b : Kp p H1 H2) (h : PotAt H p) : Kp p H H2 := (Kp.of s h).trans b
theorem sqt_ty {K : PySem.W.Frag} {H : Hp} {a : Addr} {xs : List V} (h : SqT K H a xs) : TyX K H (.ref a) (.type "tuple") := by
  rcases h with (h | ⟨o, h⟩) | ⟨o, its, n, h1, h2, _⟩
  · exact .base (.tup h)
  · exact .fTuple h
  · exact .kTuple h1 h2
theorem ty_int {K : PySem.W.Frag} {H : Hp} (i : Int) : TyX K H (.int i) (.type "int") := .base (.int i)
end My
set_option exponentiation.threshold 10000
namespace My
open PySem PySem.Spec PyProof.Rows L2
theorem iteP {c : Bool} {A B : Prop} (h : c = true) (k : A) : if c = true then A else B := by rw [if_pos h]; exact k
theorem iteN {c : Bool} {A B : Prop} (h : c = false) (k : B) : if c = true then A else B := by rw [h, if_neg Bool.false_ne_true]; exact k
theorem dv_of_neg {t b : Int} (h : b < 0) : -(((t.natAbs.gcd b.natAbs : Nat)) : Int) = dv t b := by unfold dv; rw [if_pos h]
theorem dv_of_pos {t b : Int} (h : ¬ b < 0) : (((t.natAbs.gcd b.natAbs : Nat)) : Int) = dv t b := by unfold dv; rw [if_neg h]
theorem dv_lt {t b : Int} {n : Nat} (hb : b ≠ 0) (h : b.natAbs < 2 ^ n) : (dv t b).natAbs < 2 ^ n := by
  have l : t.natAbs.gcd b.natAbs ≤ b.natAbs := Nat.gcd_le_right _ (Int.natAbs_pos.mpr hb)
  unfold dv; split <;> omega
theorem npl {x y : Int} {n : Nat} (h : y.natAbs < 2 ^ n) (h0 : 0 < n) (hn : n ≤ 9000) : Builtin.divisionGoesByPylong x y = false :=
  PyProof.noPylong_of_log2 (Nat.lt_of_lt_of_le (PySem.Flt.log2_lt_of h0 h) hn)
theorem le2 {x y : V} : [x, y].length ≤ 1000 := Nat.le_of_ble_eq_true rfl
section
variable {K : PySem.W.Frag} {σ : L2.St} {H : Hp} {Q : VK}
theorem rd_fd {i j : Int} {n : Nat} (h0 : j ≠ 0) (h : j.natAbs < 2 ^ n) (k : Q (.int (i.fdiv j)) H) (hz : 0 < n := by decide) (hn : n ≤ 9000 := by decide) : rI CDivX (fun i j => .int (i.fdiv j)) (.int i) (.int j) H Q := ⟨i, j, rfl, rfl, ⟨h0, npl h hz hn⟩, k⟩
theorem rd_mul {i j : Int} (h : CMulW i j) (k : Q (.int (i * j)) H) : rI CMulW (fun i j => .int (i * j)) (.int i) (.int j) H Q := ⟨i, j, rfl, rfl, h, k⟩
theorem rd_mk {n : Nat} {o : HO} (hl : n ≤ 1000) (k : ∀ p H2, H p = none → Same H H2 → H2 p = some o → Q (.ref p) H2) : MkO n o H Q :=
  ⟨Nat.le_trans hl (by decide), fun p hp => k p _ hp (same_new hp) upd_same⟩
end
theorem cm {i j : Int} {n m : Nat} (ha : i.natAbs < 2 ^ n) (hb : j.natAbs < 2 ^ m) (h0 : 0 < n := by decide) (h1 : 0 < m := by decide) (h : n + m ≤ 1000000 := by decide) : CMulW i j := wide_mul ha hb h0 h1 h
theorem Sz.cn {n : Nat} {q : Rat} (h : Sz n q) : q.num.natAbs < 2 ^ n := h.nu
theorem Sz.cd {n : Nat} {q : Rat} (h : Sz n q) : (q.den : Int).natAbs < 2 ^ n := by rw [Int.natAbs_natCast]; exact h.de
theorem dd_lt {q r : Rat} (h1 : Sz 4000 q) (h2 : Sz 4000 r) : ((q.den : Int) * (r.den : Int)).natAbs < 2 ^ 8990 := by
  rw [Int.natAbs_mul]; exact pow_up (mul_lt_pow h1.cd h2.cd) (by decide)
theorem dn_lt {q r : Rat} (h1 : Sz 4000 q) (h2 : Sz 4000 r) : ((q.den : Int) * r.num).natAbs < 2 ^ 8990 := by
  rw [Int.natAbs_mul]; exact pow_up (mul_lt_pow h1.cd h2.cn) (by decide)
/-- what is a whole number, by its type -/
def WholeT (t : String) (b : Bool) : Prop := ∃ b1 b2, kitB t "int" = some b1 ∧ kitB t "bool" = some b2 ∧ b = (b1 && !b2)
theorem whole_int : WholeT "int" true := ⟨true, false, by decide +kernel, by decide +kernel, rfl⟩
theorem whole_bool : WholeT "bool" false := ⟨true, true, by decide +kernel, by decide +kernel, rfl⟩
theorem whole_none : WholeT "NoneType" false := ⟨false, false, by decide +kernel, by decide +kernel, rfl⟩
theorem whole_str : WholeT "str" false := ⟨false, false, by decide +kernel, by decide +kernel, rfl⟩
theorem whole_tuple : WholeT "tuple" false := ⟨false, false, by decide +kernel, by decide +kernel, rfl⟩
theorem whole_list : WholeT "list" false := ⟨false, false, by decide +kernel, by decide +kernel, rfl⟩
theorem whole_dict : WholeT "dict" false := ⟨false, false, by decide +kernel, by decide +kernel, rfl⟩
/-- whether it is a fraction -/
inductive IsFrB (K : PySem.W.Frag) (H : Hp) : V → Bool → Prop
  | no {x : V} {t : String} (h : TyX K H x (.type t)) (e : kitB t "tuple" = some false) : IsFrB K H x false
  | len {a : Addr} {xs : List V} (h : SqT K H a xs) (e : xs.length ≠ 2) : IsFrB K H (.ref a) false
  | fst {a : Addr} {x y : V} {t : String} (h : SqT K H a [x, y]) (e : TyX K H x (.type t)) (e2 : WholeT t false) : IsFrB K H (.ref a) false
  | snd {a : Addr} {i : Int} {y : V} {t : String} (h : SqT K H a [.int i, y]) (e : TyX K H y (.type t)) (e2 : WholeT t false) : IsFrB K H (.ref a) false
  | two {a : Addr} {i j : Int} (h : SqT K H a [.int i, .int j]) : IsFrB K H (.ref a) (decide (1 ≤ j) && decide (((i.natAbs.gcd j.natAbs : Nat) : Int) = 1))
theorem Fr.is {K : PySem.W.Frag} {H : Hp} {v : V} {q : Rat} (h : Fr K H v q) : IsFrB K H v true := by
  obtain ⟨a, rfl, h⟩ := h
  have e : (decide ((1 : Int) ≤ (q.den : Int)) && decide (((q.num.natAbs.gcd (q.den : Int).natAbs : Nat) : Int) = 1)) = true := by
    have h1 := q.den_pos
    have h2 : q.num.natAbs.gcd (q.den : Int).natAbs = 1 := by rw [Int.natAbs_natCast]; exact q.reduced
    rw [h2]
    simp; omega
  rw [← e]
  exact .two h
theorem IsFrB.up {K : PySem.W.Frag} {H H' : Hp} {v : V} {b : Bool} (h : IsFrB K H v b) (hv : b = true) : ∃ q, Fr K H v q := by
  cases h with
  | no _ _ => cases hv
  | len _ _ => cases hv
  | fst _ _ _ => cases hv
  | snd _ _ _ => cases hv
  | @two a i j h =>
    simp only [Bool.and_eq_true, decide_eq_true_eq] at hv
    obtain ⟨h1, h2⟩ := hv
    have e : (j.natAbs : Int) = j := by omega
    refine ⟨⟨i, j.natAbs, by omega, by have : i.natAbs.gcd j.natAbs = 1 := by omega
                                       exact this⟩, a, rfl, ?_⟩
    show SqT K H a [.int i, .int (j.natAbs : Int)]
    rw [e]; exact h
theorem q0_iff (q : Rat) : PyData.eqv (.tuple [.int q.num, .int (q.den : Int)]) (.tuple [.int 0, .int 1]) = decide (q = 0) := by
  show (q.num == 0 && ((q.den : Int) == 1 && true)) = decide (q = 0)
  by_cases h : q = 0
  · subst h; rfl
  · have := num_ne h
    rw [decide_eq_false h]
    simp [this]
theorem eqv_self (i j : Int) : PyData.eqv (.tuple [.int i, .int j]) (.tuple [.int i, .int j]) = true := by
  show (i == i && (j == j && true)) = true
  simp
theorem shaped2 (i j : Int) : SeqAt.shaped (.tuple [.int i, .int j]) = true := rfl
theorem mod_rng {i j : Int} (h : 0 < j) : 0 ≤ i % j ∧ i % j < j := ⟨Int.emod_nonneg _ (by omega), Int.emod_lt_of_pos _ h⟩
section
variable {K : PySem.W.Frag} {σ : L2.St} {H : Hp} {Q : VK}
theorem rd_mod {i j : Int} (h : 0 < j) (k : Q (.int (i % j)) H) : rI (fun _ j => 0 < j) (fun i j => .int (i % j)) (.int i) (.int j) H Q := ⟨i, j, rfl, rfl, h, k⟩
theorem rd_pow {i j : Int} (h : CPow i j) (k : Q (.int (i ^ j.toNat)) H) : rI CPow (fun i j => .int (i ^ j.toNat)) (.int i) (.int j) H Q := ⟨i, j, rfl, rfl, h, k⟩
theorem rd_setL {p : Addr} {xs : List V} {i : Int} {j : Nat} {v : V} {R : Hp → Prop} (h : H p = some (.lst xs)) (e : ixN xs.length i = some j) (k : R (upd H p (.lst (xs.set j v)))) : rSetL (.ref p) (.int i) v H R := ⟨p, xs, i, j, rfl, rfl, h, e, k⟩
theorem rd_gsub {to ti : TE} {t : TSet} {v : V} {R : L2.St → Hp → Prop} (k : to σ H fun o H1 => ti σ H1 fun i H2 => t o i v H2 fun H3 => R σ H3) : gSub to ti t v σ H R := k
theorem rd_lenL {p : Addr} {xs : List V} (h : SqL K H p xs) (k : Q (.int xs.length) H) : rLenA K [.ref p] H Q := .inl ⟨p, xs, rfl, .inl h, k⟩
theorem rd_lenT {p : Addr} {xs : List V} (h : SqT K H p xs) (k : Q (.int xs.length) H) : rLenA K [.ref p] H Q := .inl ⟨p, xs, rfl, .inr h, k⟩
end
theorem rd_2i {x y : Int} {P : Int → Int → Prop} (k : P x y) : ∃ i j, [V.int x, V.int y] = [V.int i, V.int j] ∧ P i j := ⟨x, y, rfl, k⟩
theorem rd_1i {x : Int} {P : Int → Prop} (k : P x) : ∃ i, [V.int x] = [V.int i] ∧ P i := ⟨x, rfl, k⟩
theorem rd_for {wi : TI} {g : TG} {tb : TS} {D : Ends} {σ : L2.St} {H : Hp} (k : wi σ H fun J H1 => ∃ W : Nat → Nat → L2.St → Hp → Prop, (∃ m, W 0 m σ H1) ∧ ∀ i m σ H, W i m σ H → (J.stop i H ∧ D.nx σ H) ∨ (J.go i H ∧ ∃ N : L2.St → Hp → Prop, (∀ σ' H', N σ' H' → ∃ m', m' < m ∧ W (i + 1) m' σ' H') ∧ ∀ x H', J.yld i H x H' → g x σ H' fun σ2 H2 => tb { D with nx := N, ct := N, bk := D.nx } σ2 H2)) : tFor wi g tb D σ H := k
theorem rd_rng1 {ta : TA} {σ : L2.St} {H : Hp} {R : It → Hp → Prop} (k : ta σ H fun vs H1 => ∃ j : Int, vs = [.int j] ∧ -(2 ^ 62) ≤ j ∧ j < 2 ^ 62 ∧ R (Itr 0 j.toNat) H1) : iRng1 ta σ H R := k
theorem rd_while {c : TT} {tb : TS} {D : Ends} {σ : L2.St} {H : Hp} (k : ∃ W : Nat → L2.St → Hp → Prop, (∃ m, W m σ H) ∧ ∀ m σ H, W m σ H → c σ H fun b H1 => if b = true then ∃ N : L2.St → Hp → Prop, (∀ σ' H', N σ' H' → ∃ m', m' < m ∧ W m' σ' H') ∧ tb { D with nx := N, ct := N, bk := D.nx } σ H1 else D.nx σ H1) : tWhile c tb D σ H := k
theorem great_step {f d : Int} {i : Nat} (hf : f.natAbs < 2 ^ (32 * i + 1)) (d0 : 0 ≤ d) (d1 : d < 400000000) : (f * 1000000007 + d).natAbs < 2 ^ (32 * (i + 1) + 1) := by
  have e : 2 ^ (32 * (i + 1) + 1) = 2 ^ (32 * i + 1) * 4294967296 := by
    rw [show 32 * (i + 1) + 1 = (32 * i + 1) + 32 by omega, Nat.pow_add]
  have h1 : 1 ≤ 2 ^ (32 * i + 1) := Nat.one_le_two_pow
  rw [e]
  generalize 2 ^ (32 * i + 1) = z at hf h1 ⊢
  omega
theorem abs_nn (t : Int) : 0 ≤ (if t < 0 then -t else t) := by split <;> omega
theorem abs_na (t : Int) : (if t < 0 then -t else t).natAbs = t.natAbs := by split <;> omega
theorem mod_less {x y : Int} (h : 0 < y) : (x % y).natAbs < y.natAbs := by have := mod_rng (i := x) h; omega
theorem euclid {x y : Int} (h : 0 < y) (hx : 0 ≤ x) : y.natAbs.gcd (x % y).natAbs = x.natAbs.gcd y.natAbs := by
  have e : (x % y).natAbs = x.natAbs % y.natAbs := by rw [Int.natAbs_emod_of_nonneg hx]
  rw [e, Nat.gcd_comm, ← Nat.gcd_rec, Nat.gcd_comm]
theorem p59 : (10 : Int) ^ (59 : Int).toNat = 100000000000000000000000000000000000000000000000000000000000 := by decide +kernel
theorem p60 : (10 : Int) ^ (60 : Int).toNat = 1000000000000000000000000000000000000000000000000000000000000 := by decide +kernel
theorem two_ints {i j : Int} {n : Nat} {x : V} (h : [V.int i, V.int j][n]? = some x) : ∃ z, x = V.int z := by
  match n, h with
  | 0, h => exact ⟨i, (Option.some.inj h).symm⟩
  | 1, h => exact ⟨j, (Option.some.inj h).symm⟩
  | n + 2, h => simp at h
section
variable {K : PySem.W.Frag} {H : Hp} {Q : VK}
theorem rd_ix2 {p : Addr} {x y : V} {c : Bool} (h : H p = some (.lst [x, y])) (k : ∀ v, (v = x ∨ v = y) → Q v H) : rIxA K (.ref p) (.int (if c then 1 else 0)) H Q := by
  cases c with
  | false => exact rd_ixL h rfl (k x (.inl rfl))
  | true => exact rd_ixL h rfl (k y (.inr rfl))
theorem rd_ixAny {p : Addr} {xs : List V} {i : Int} (h : H p = some (.lst xs)) (h0 : 0 ≤ i) (h1 : i < xs.length) (k : ∀ v, v ∈ xs → Q v H) : rIxA K (.ref p) (.int i) H Q := by
  refine rd_ixL h (v := xs[i.toNat]'(by omega)) (at_of (j := i.toNat) (by omega) (List.getElem?_eq_getElem (by omega))) (k _ (List.getElem_mem _))
theorem rd_neB {x y : Bool} (k : Q (.bl (!decide (x = y))) H) : rNeA K (.bl x) (.bl y) H Q := .inl ⟨rfl, by simpa using k⟩
theorem rd_cat {l p : Addr} {xs ys : List V} (h1 : H l = some (.lst xs)) (h2 : H p = some (.lst ys)) (hl : xs.length + ys.length ≤ 1000) (k : ∀ q H2, H q = none → Same H H2 → H2 q = some (.lst (xs ++ ys)) → Q (.ref q) H2) : rAddA K (.ref l) (.ref p) H Q :=
  .inl ⟨l, p, xs, ys, rfl, rfl, h1, h2, Nat.le_trans hl (by decide), fun q hq => k q _ hq (same_new hq) upd_same⟩
theorem rd_catT {l p : Addr} {xs ys : List V} (h1 : SqT K H l xs) (h2 : SqT K H p ys) (n1 : xs ≠ []) (n2 : ys ≠ []) (hl : xs.length + ys.length ≤ 1000) (k : ∀ q H2, H q = none → Same H H2 → H2 q = some (.tup (xs ++ ys)) → Q (.ref q) H2) : rAddA K (.ref l) (.ref p) H Q :=
  .inr ⟨l, p, xs, ys, rfl, rfl, h1, h2, n1, Nat.le_trans hl (by decide), fun z => (n2 z).elim, fun _ q hq => k q _ hq (same_new hq) upd_same⟩
theorem rd_isB {x y : Bool} (k : Q (.bl (decide (x = y))) H) : rIsB (.bl x) (.bl y) H Q := ⟨x, y, rfl, rfl, k⟩
theorem rd_notB {x y : Bool} (k : Q (.bl (!decide (x = y))) H) : rNotB (.bl x) (.bl y) H Q := ⟨x, y, rfl, rfl, k⟩
theorem rd_newK (k : ∀ q H2, H q = none → Same H H2 → H2 q = some (.dK []) → Q (.ref q) H2) {σ : L2.St} : tDNewK σ H Q := fun q hq => k q _ hq (same_new hq) upd_same
end
theorem rd_dispV {H : Hp} {Q : VK} {σ : L2.St} {i : Nat} {b : Addr} {x y : Int} (h : σ[i]? = some (some (.ref b))) (hb : H b = some (.tup [.int x, .int y])) (k : ∀ d H2, H d = none → Same H H2 → H2 d = some (.dT [([.inl x, .inl y], .ref b)]) → Q (.ref d) H2) : tDispT (tVar i) (tVar i) σ H Q := fun d hd => by
  refine ⟨_, h, _, h, b, [.inl x, .inl y], rfl, upd_same, ?_, k d _ hd (fun c o e => ?_) upd_same⟩
  · rw [upd_ne (ne_of_none hb hd)]; exact hb
  · rw [upd_ne (ne_of_none e hd), upd_ne (ne_of_none e hd)]; exact e
theorem two_no {K : PySem.W.Frag} {H : Hp} {a : Addr} {i j : Int} (h : SqT K H a [.int i, .int j]) (e : ¬ (1 ≤ j ∧ i.natAbs.gcd j.natAbs = 1)) : IsFrB K H (.ref a) false := by
  have z : (decide (1 ≤ j) && decide (((i.natAbs.gcd j.natAbs : Nat) : Int) = 1)) = false := by
    rw [Bool.eq_false_iff]
    intro w
    simp only [Bool.and_eq_true, decide_eq_true_eq] at w
    exact e ⟨w.1, by omega⟩
  rw [← z]
  exact .two h
theorem gcd2 (i j : Int) : (2 * i).natAbs.gcd (2 * j).natAbs ≠ 1 := by
  rw [Int.natAbs_mul, Int.natAbs_mul]
  show (2 * i.natAbs).gcd (2 * j.natAbs) ≠ 1
  rw [Nat.gcd_mul_left]; omega
/-- a fraction whose tuple is tracked -/
def FrT (H : Hp) (v : V) (q : Rat) : Prop := ∃ a, v = .ref a ∧ H a = some (.tup [.int q.num, .int (q.den : Int)])
theorem FrT.fr {K : PySem.W.Frag} {H : Hp} {v : V} {q : Rat} (h : FrT H v q) : Fr K H v q := by
  obtain ⟨a, e, h⟩ := h
  exact ⟨a, e, SqT.of h⟩
theorem FrT.up {H H' : Hp} {v : V} {q : Rat} (s : Same H H') (h : FrT H v q) : FrT H' v q := by
  obtain ⟨a, e, h⟩ := h
  exact ⟨a, e, s _ _ h⟩
theorem FrT.kp {p : Addr} {H H' : Hp} {v : V} {q : Rat} (s : Kp p H H') (h : FrT H v q) : FrT H' v q := by
  obtain ⟨a, e, h⟩ := h
  obtain ⟨i, j, z, _⟩ := s.old
  refine ⟨a, e, s.keep _ _ (fun w => ?_) h⟩
  subst w
  rw [h] at z
  cases z
theorem Kp.tup {p a : Addr} {H H' : Hp} {xs : List V} (s : Kp p H H') (h : H a = some (.tup xs)) : H' a = some (.tup xs) := by
  obtain ⟨i, j, z, _⟩ := s.old
  refine s.keep _ _ (fun w => ?_) h
  subst w
  rw [h] at z
  cases z
theorem Kp.get {p a : Addr} {H0 H H' : Hp} {o : HO} (s : Kp p H H') (h0 : PotAt H0 p) (hn : H0 a = none) (h : H a = some o) : H' a = some o := by
  obtain ⟨i, j, z, _⟩ := h0
  exact s.keep _ _ (ne_of_none z hn).symm h
theorem Kp.same0 {p : Addr} {H0 H1 H2 : Hp} (s : Same H0 H1) (hn : H0 p = none) (k : Kp p H1 H2) : Same H0 H2 := fun c o e => k.keep c o (ne_of_none e hn) (s c o e)
theorem pot_write {H : Hp} {p : Addr} {a b : Int} (h : PotAt H p) (ha : 0 ≤ a) (hb : 0 ≤ b) (hb2 : b < 2147483648) : Kp p H (upd H p (.lst [.int a, .int b])) :=
  ⟨h, ⟨a, b, upd_same, ha, hb, hb2⟩, fun c o n e => by rw [upd_ne n]; exact e⟩
end My
/-! ### the reading walks: "fr" finds a fraction's fact at a later heap; "rd" takes one construct -/
local macro_rules | `(tactic| walk_at "fr") => `(tactic| first | assumption | (refine' My.Fr.up ?h1 ?h2; (case h1 => assumption); (case h2 => walk_at "fr")) | (refine' My.FrT.fr ?h1; (case h1 => walk_at "frt")) | (refine' My.Fr.kp ?h1 ?h2; (case h1 => assumption); (case h2 => walk_at "fr")))
local macro_rules | `(tactic| walk_at "frt") => `(tactic| first | assumption | (refine' My.FrT.up ?h1 ?h2; (case h1 => assumption); (case h2 => walk_at "frt")) | (refine' My.FrT.kp ?h1 ?h2; (case h1 => assumption); (case h2 => walk_at "frt")))
local macro_rules | `(tactic| walk_at "pot") => `(tactic| first | assumption | (refine' My.Kp.new ?h1; (case h1 => assumption)) | (refine' My.PotAt.up ?h1 ?h2; (case h1 => assumption); (case h2 => walk_at "pot")))
local macro_rules | `(tactic| walk_at "same") => `(tactic| first | exact L2.Same.refl _ | assumption | (refine' L2.Same.trans ?h1 ?h2; (case h2 => assumption); (case h1 => walk_at "same")))
local macro_rules | `(tactic| walk_at "kp") => `(tactic| first | assumption | (refine' My.Kp.refl ?h; (case h => assumption)) | (refine' My.Kp.trans ?h1 ?h2; (case h2 => assumption); (case h1 => walk_at "kp")) | (refine' My.Kp.tos ?h1 ?h2; (case h2 => assumption); (case h1 => walk_at "kp")))
local macro_rules | `(tactic| walk_at "sz") => `(tactic| (refine' My.Sz.mono ?h1 ?h2; (case h1 => assumption); (case h2 => omega)))
local macro_rules | `(tactic| walk_at "rd") => `(tactic| first
  | ((with_reducible refine' My.rd_var ?hv ?_); (case hv => exact rfl))
  | (with_reducible refine' My.rd_c ?_)
  | (with_reducible refine' My.rd_tup ?_)
  | (with_reducible refine' My.rd_lst ?_)
  | (with_reducible refine' My.rd_call ?_)
  | (with_reducible refine' My.rd_op ?_)
  | (with_reducible refine' My.rd_un ?_)
  | (with_reducible refine' My.rd_nil ?_)
  | (with_reducible refine' My.rd_cons ?_)
  | (with_reducible refine' My.rd_callS ?_)
  | (with_reducible refine' My.rd_cb ?_)
  | (with_reducible refine' My.rd_I0 ?_)
  | (with_reducible refine' My.rd_U ?_)
  | (with_reducible refine' My.rd_addI ?_)
  | (with_reducible refine' My.rd_eqI ?_)
  | (with_reducible refine' My.rd_neI ?_)
  | (with_reducible refine' My.rd_test ?_)
  | (with_reducible refine' My.rd_truA ?_)
  | (with_reducible refine' My.rd_not ?_)
  | (with_reducible refine' My.rd_and ?_)
  | (with_reducible refine' My.rd_or ?_)
  | (with_reducible refine' My.rd_andV ?_)
  | (with_reducible refine' My.rd_orV ?_)
  | (with_reducible refine' My.rd_notV ?_)
  | (with_reducible refine' My.rd_if ?_)
  | (with_reducible refine' My.rd_seq ?_)
  | (with_reducible refine' My.rd_asg ?_)
  | (with_reducible refine' My.rd_name ?_)
  | (with_reducible refine' My.rd_par ?_)
  | (with_reducible refine' My.rd_ret ?_)
  | (with_reducible refine' My.rd_drop ?_)
  | (with_reducible refine' My.rd_next ?_)
  | (with_reducible refine' My.rd_bl ?_)
  | (with_reducible refine' My.rd_tru ?_)
  | (with_reducible refine' My.rd_p2 ?_)
  | (with_reducible refine' My.rd_gcd ?_)
  | (with_reducible refine' My.rd_gcons ?_)
  | (with_reducible refine' My.rd_gnil ?_)
  | ((with_reducible refine' My.rd_ixF0 ?hv ?_); (case hv => walk_at "fr"))
  | ((with_reducible refine' My.rd_ixF1 ?hv ?_); (case hv => walk_at "fr"))
  | ((with_reducible refine' My.rd_mod ?hv ?_); (case hv => first | assumption | decide | omega))
  | (with_reducible refine' My.rd_gsub ?_)
  | (with_reducible refine' My.rd_2i ?_)
  | (with_reducible refine' My.rd_1i ?_)
  | (with_reducible refine' My.rd_for ?_)
  | (with_reducible refine' My.rd_rng1 ?_)
  | (with_reducible refine' My.rd_while ?_)
  | (with_reducible refine' My.rd_int1 ?_)
  | (with_reducible refine' My.rd_int1b ?_)
  | (with_reducible refine' My.rd_neB ?_)
  | (with_reducible refine' My.rd_isB ?_)
  | (with_reducible refine' My.rd_notB ?_))
namespace Lw
open PySem PySem.Spec PyProof.Rows L2 My
def top (i : Nat) : Stmt := PySem.Challenge.pw_signlines_k11_fractions_reckoned.main.body.getD i (.Pass ⟨0, 0, 0, 0⟩)
abbrev s_made : Stmt := top 23
abbrev N_made : List Str := ["top", "bottom", "shared"]
theorem sc_made : FnScope N_made ["top", "bottom"] (defScope s_made) := ⟨rfl, rfl, rfl, by decide +kernel, rfl, by decide +kernel, by decide +kernel⟩
abbrev s_added : Stmt := top 24
abbrev N_added : List Str := ["one", "other"]
theorem sc_added : FnScope N_added ["one", "other"] (defScope s_added) := ⟨rfl, rfl, rfl, by decide +kernel, rfl, by decide +kernel, by decide +kernel⟩
abbrev s_subtracted : Stmt := top 25
abbrev N_subtracted : List Str := ["one", "other"]
theorem sc_subtracted : FnScope N_subtracted ["one", "other"] (defScope s_subtracted) := ⟨rfl, rfl, rfl, by decide +kernel, rfl, by decide +kernel, by decide +kernel⟩
abbrev s_multiplied : Stmt := top 26
abbrev N_multiplied : List Str := ["one", "other"]
theorem sc_multiplied : FnScope N_multiplied ["one", "other"] (defScope s_multiplied) := ⟨rfl, rfl, rfl, by decide +kernel, rfl, by decide +kernel, by decide +kernel⟩
abbrev s_divided : Stmt := top 27
abbrev N_divided : List Str := ["one", "other"]
theorem sc_divided : FnScope N_divided ["one", "other"] (defScope s_divided) := ⟨rfl, rfl, rfl, by decide +kernel, rfl, by decide +kernel, by decide +kernel⟩
abbrev s_negated : Stmt := top 28
abbrev N_negated : List Str := ["one"]
theorem sc_negated : FnScope N_negated ["one"] (defScope s_negated) := ⟨rfl, rfl, rfl, by decide +kernel, rfl, by decide +kernel, by decide +kernel⟩
abbrev s_is_less : Stmt := top 29
abbrev N_is_less : List Str := ["one", "other"]
theorem sc_is_less : FnScope N_is_less ["one", "other"] (defScope s_is_less) := ⟨rfl, rfl, rfl, by decide +kernel, rfl, by decide +kernel, by decide +kernel⟩
abbrev s_is_whole : Stmt := top 31
abbrev N_is_whole : List Str := ["thing"]
theorem sc_is_whole : FnScope N_is_whole ["thing"] (defScope s_is_whole) := ⟨rfl, rfl, rfl, by decide +kernel, rfl, by decide +kernel, by decide +kernel⟩
abbrev s_is_fraction : Stmt := top 32
abbrev N_is_fraction : List Str := ["thing", "top", "bottom"]
theorem sc_is_fraction : FnScope N_is_fraction ["thing"] (defScope s_is_fraction) := ⟨rfl, rfl, rfl, by decide +kernel, rfl, by decide +kernel, by decide +kernel⟩
abbrev s_need_fraction : Stmt := top 33
abbrev N_need_fraction : List Str := ["thing"]
theorem sc_need_fraction : FnScope N_need_fraction ["thing"] (defScope s_need_fraction) := ⟨rfl, rfl, rfl, by decide +kernel, rfl, by decide +kernel, by decide +kernel⟩
abbrev s_need_factor : Stmt := top 34
abbrev N_need_factor : List Str := ["thing"]
theorem sc_need_factor : FnScope N_need_factor ["thing"] (defScope s_need_factor) := ⟨rfl, rfl, rfl, by decide +kernel, rfl, by decide +kernel, by decide +kernel⟩
abbrev s_fraction : Stmt := top 35
abbrev N_fraction : List Str := ["top", "bottom"]
theorem sc_fraction : FnScope N_fraction ["top", "bottom"] (defScope s_fraction) := ⟨rfl, rfl, rfl, by decide +kernel, rfl, by decide +kernel, by decide +kernel⟩
abbrev s_plus : Stmt := top 36
abbrev N_plus : List Str := ["one", "other"]
theorem sc_plus : FnScope N_plus ["one", "other"] (defScope s_plus) := ⟨rfl, rfl, rfl, by decide +kernel, rfl, by decide +kernel, by decide +kernel⟩
abbrev s_less : Stmt := top 37
abbrev N_less : List Str := ["one", "other"]
theorem sc_less : FnScope N_less ["one", "other"] (defScope s_less) := ⟨rfl, rfl, rfl, by decide +kernel, rfl, by decide +kernel, by decide +kernel⟩
abbrev s_times : Stmt := top 38
abbrev N_times : List Str := ["one", "other"]
theorem sc_times : FnScope N_times ["one", "other"] (defScope s_times) := ⟨rfl, rfl, rfl, by decide +kernel, rfl, by decide +kernel, by decide +kernel⟩
abbrev s_over : Stmt := top 39
abbrev N_over : List Str := ["one", "other"]
theorem sc_over : FnScope N_over ["one", "other"] (defScope s_over) := ⟨rfl, rfl, rfl, by decide +kernel, rfl, by decide +kernel, by decide +kernel⟩
abbrev s_opposite : Stmt := top 40
abbrev N_opposite : List Str := ["one"]
theorem sc_opposite : FnScope N_opposite ["one"] (defScope s_opposite) := ⟨rfl, rfl, rfl, by decide +kernel, rfl, by decide +kernel, by decide +kernel⟩
abbrev s_is_below : Stmt := top 41
abbrev N_is_below : List Str := ["one", "other"]
theorem sc_is_below : FnScope N_is_below ["one", "other"] (defScope s_is_below) := ⟨rfl, rfl, rfl, by decide +kernel, rfl, by decide +kernel, by decide +kernel⟩
abbrev s__law_cell : Stmt := top 43
abbrev N__law_cell : List Str := ["_law_script", "_law_k"]
theorem sc__law_cell : FnScope N__law_cell ["_law_script", "_law_k"] (defScope s__law_cell) := ⟨rfl, rfl, rfl, by decide +kernel, rfl, by decide +kernel, by decide +kernel⟩
abbrev s__law_pot : Stmt := top 44
abbrev N__law_pot : List Str := ["_law_cell_here"]
theorem sc__law_pot : FnScope N__law_pot ["_law_cell_here"] (defScope s__law_pot) := ⟨rfl, rfl, rfl, by decide +kernel, rfl, by decide +kernel, by decide +kernel⟩
abbrev s__law_draw : Stmt := top 45
abbrev N__law_draw : List Str := ["_law_pot_here", "_law_many", "_law_digit"]
theorem sc__law_draw : FnScope N__law_draw ["_law_pot_here", "_law_many"] (defScope s__law_draw) := ⟨rfl, rfl, rfl, by decide +kernel, rfl, by decide +kernel, by decide +kernel⟩
abbrev s__law_great : Stmt := top 46
abbrev N__law_great : List Str := ["_law_pot_here", "_law_many", "_law_found", "_law_k"]
theorem sc__law_great : FnScope N__law_great ["_law_pot_here", "_law_many"] (defScope s__law_great) := ⟨rfl, rfl, rfl, by decide +kernel, rfl, by decide +kernel, by decide +kernel⟩
abbrev s__law_low : Stmt := top 47
abbrev N__law_low : List Str := ["_law_top", "_law_bottom", "_law_one_here", "_law_other"]
theorem sc__law_low : FnScope N__law_low ["_law_top", "_law_bottom"] (defScope s__law_low) := ⟨rfl, rfl, rfl, by decide +kernel, rfl, by decide +kernel, by decide +kernel⟩
abbrev s__law_plus : Stmt := top 48
abbrev N__law_plus : List Str := ["_law_one_here", "_law_other"]
theorem sc__law_plus : FnScope N__law_plus ["_law_one_here", "_law_other"] (defScope s__law_plus) := ⟨rfl, rfl, rfl, by decide +kernel, rfl, by decide +kernel, by decide +kernel⟩
abbrev s__law_less : Stmt := top 49
abbrev N__law_less : List Str := ["_law_one_here", "_law_other"]
theorem sc__law_less : FnScope N__law_less ["_law_one_here", "_law_other"] (defScope s__law_less) := ⟨rfl, rfl, rfl, by decide +kernel, rfl, by decide +kernel, by decide +kernel⟩
abbrev s__law_times : Stmt := top 50
abbrev N__law_times : List Str := ["_law_one_here", "_law_other"]
theorem sc__law_times : FnScope N__law_times ["_law_one_here", "_law_other"] (defScope s__law_times) := ⟨rfl, rfl, rfl, by decide +kernel, rfl, by decide +kernel, by decide +kernel⟩
abbrev s__law_over : Stmt := top 51
abbrev N__law_over : List Str := ["_law_one_here", "_law_other"]
theorem sc__law_over : FnScope N__law_over ["_law_one_here", "_law_other"] (defScope s__law_over) := ⟨rfl, rfl, rfl, by decide +kernel, rfl, by decide +kernel, by decide +kernel⟩
abbrev s__law_below : Stmt := top 52
abbrev N__law_below : List Str := ["_law_one_here", "_law_other"]
theorem sc__law_below : FnScope N__law_below ["_law_one_here", "_law_other"] (defScope s__law_below) := ⟨rfl, rfl, rfl, by decide +kernel, rfl, by decide +kernel, by decide +kernel⟩
abbrev s__law_small : Stmt := top 53
abbrev N__law_small : List Str := ["_law_pot_here"]
theorem sc__law_small : FnScope N__law_small ["_law_pot_here"] (defScope s__law_small) := ⟨rfl, rfl, rfl, by decide +kernel, rfl, by decide +kernel, by decide +kernel⟩
abbrev s__law_far : Stmt := top 54
abbrev N__law_far : List Str := ["_law_pot_here"]
theorem sc__law_far : FnScope N__law_far ["_law_pot_here"] (defScope s__law_far) := ⟨rfl, rfl, rfl, by decide +kernel, rfl, by decide +kernel, by decide +kernel⟩
abbrev s__law_one : Stmt := top 55
abbrev N__law_one : List Str := ["_law_pot_here"]
theorem sc__law_one : FnScope N__law_one ["_law_pot_here"] (defScope s__law_one) := ⟨rfl, rfl, rfl, by decide +kernel, rfl, by decide +kernel, by decide +kernel⟩
abbrev s__law_number : Stmt := top 56
abbrev N__law_number : List Str := ["_law_pot_here"]
theorem sc__law_number : FnScope N__law_number ["_law_pot_here"] (defScope s__law_number) := ⟨rfl, rfl, rfl, by decide +kernel, rfl, by decide +kernel, by decide +kernel⟩
abbrev s__law_refused : Stmt := top 57
abbrev N__law_refused : List Str := ["_law_way", "_law_one_here", "_law_other", "_law_good", "e", "_law_strange"]
theorem sc__law_refused : FnScope N__law_refused ["_law_way", "_law_one_here", "_law_other"] (defScope s__law_refused) := ⟨rfl, rfl, rfl, by decide +kernel, rfl, by decide +kernel, by decide +kernel⟩
abbrev s__law_is_right : Stmt := top 58
abbrev N__law_is_right : List Str := ["_law_found", "_law_due", "_law_number_here"]
theorem sc__law_is_right : FnScope N__law_is_right ["_law_found", "_law_due"] (defScope s__law_is_right) := ⟨rfl, rfl, rfl, by decide +kernel, rfl, by decide +kernel, by decide +kernel⟩
abbrev s__law_reckoned : Stmt := top 59
abbrev N__law_reckoned : List Str := ["_law_one_here", "_law_other"]
theorem sc__law_reckoned : FnScope N__law_reckoned ["_law_one_here", "_law_other"] (defScope s__law_reckoned) := ⟨rfl, rfl, rfl, by decide +kernel, rfl, by decide +kernel, by decide +kernel⟩
abbrev s__law_right : Stmt := top 60
abbrev N__law_right : List Str := ["_law_pot_here", "_law_one_here", "_law_other", "_law_found", "_law_top", "_law_bottom", "_law_odd", "_law_thing"]
theorem sc__law_right : FnScope N__law_right ["_law_pot_here"] (defScope s__law_right) := ⟨rfl, rfl, rfl, by decide +kernel, rfl, by decide +kernel, by decide +kernel⟩
abbrev s_law : Stmt := top 61
abbrev N_law : List Str := ["_law_script", "_law_k"]
theorem sc_law : FnScope N_law ["_law_script"] (defScope s_law) := ⟨rfl, rfl, rfl, by decide +kernel, rfl, by decide +kernel, by decide +kernel⟩
structure Ad where
  f_made : Addr
  d_made : FuncData
  f_added : Addr
  d_added : FuncData
  f_subtracted : Addr
  d_subtracted : FuncData
  f_multiplied : Addr
  d_multiplied : FuncData
  f_divided : Addr
  d_divided : FuncData
  f_negated : Addr
  d_negated : FuncData
  f_is_less : Addr
  d_is_less : FuncData
  f_is_whole : Addr
  d_is_whole : FuncData
  f_is_fraction : Addr
  d_is_fraction : FuncData
  f_need_fraction : Addr
  d_need_fraction : FuncData
  f_need_factor : Addr
  d_need_factor : FuncData
  f_fraction : Addr
  d_fraction : FuncData
  f_plus : Addr
  d_plus : FuncData
  f_less : Addr
  d_less : FuncData
  f_times : Addr
  d_times : FuncData
  f_over : Addr
  d_over : FuncData
  f_opposite : Addr
  d_opposite : FuncData
  f_is_below : Addr
  d_is_below : FuncData
  f__law_cell : Addr
  d__law_cell : FuncData
  f__law_pot : Addr
  d__law_pot : FuncData
  f__law_draw : Addr
  d__law_draw : FuncData
  f__law_great : Addr
  d__law_great : FuncData
  f__law_low : Addr
  d__law_low : FuncData
  f__law_plus : Addr
  d__law_plus : FuncData
  f__law_less : Addr
  d__law_less : FuncData
  f__law_times : Addr
  d__law_times : FuncData
  f__law_over : Addr
  d__law_over : FuncData
  f__law_below : Addr
  d__law_below : FuncData
  f__law_small : Addr
  d__law_small : FuncData
  f__law_far : Addr
  d__law_far : FuncData
  f__law_one : Addr
  d__law_one : FuncData
  f__law_number : Addr
  d__law_number : FuncData
  f__law_refused : Addr
  d__law_refused : FuncData
  f__law_is_right : Addr
  d__law_is_right : FuncData
  f__law_reckoned : Addr
  d__law_reckoned : FuncData
  f__law_right : Addr
  d__law_right : FuncData
  f_law : Addr
  d_law : FuncData
  C_LineError : Addr
  C_NoFraction : Addr
  C_NoText : Addr
  C_NoPoints : Addr
  C_NoPrices : Addr
  C_NoLine : Addr
  C_NoLines : Addr
  C_NoShares : Addr
  C_NoSpread : Addr
  C_NoNumber : Addr
  C_NoPlace : Addr
  C_NoBounds : Addr
  C_NoSpots : Addr
  C_NoPlane : Addr
  C_NoValues : Addr
  C_NoPair : Addr
  C_NoDirections : Addr
  C_NoDeed : Addr
  C_NoRow : Addr
  c_NOUGHT : Addr
structure Txt (K : PySem.W.Frag) (mg : Str → Option Value) (a : Ad) : Prop where
  F_made : Fun K "made" "made" s_made a.f_made a.d_made
  b_made : Binds K a.d_made ["top", "bottom"] []
  g_made : mg "made" = some (.ref a.f_made)
  F_added : Fun K "added" "added" s_added a.f_added a.d_added
  b_added : Binds K a.d_added ["one", "other"] []
  g_added : mg "added" = some (.ref a.f_added)
  F_subtracted : Fun K "subtracted" "subtracted" s_subtracted a.f_subtracted a.d_subtracted
  b_subtracted : Binds K a.d_subtracted ["one", "other"] []
  g_subtracted : mg "subtracted" = some (.ref a.f_subtracted)
  F_multiplied : Fun K "multiplied" "multiplied" s_multiplied a.f_multiplied a.d_multiplied
  b_multiplied : Binds K a.d_multiplied ["one", "other"] []
  g_multiplied : mg "multiplied" = some (.ref a.f_multiplied)
  F_divided : Fun K "divided" "divided" s_divided a.f_divided a.d_divided
  b_divided : Binds K a.d_divided ["one", "other"] []
  g_divided : mg "divided" = some (.ref a.f_divided)
  F_negated : Fun K "negated" "negated" s_negated a.f_negated a.d_negated
  b_negated : Binds K a.d_negated ["one"] []
  g_negated : mg "negated" = some (.ref a.f_negated)
  F_is_less : Fun K "is_less" "is_less" s_is_less a.f_is_less a.d_is_less
  b_is_less : Binds K a.d_is_less ["one", "other"] []
  g_is_less : mg "is_less" = some (.ref a.f_is_less)
  F_is_whole : Fun K "is_whole" "is_whole" s_is_whole a.f_is_whole a.d_is_whole
  b_is_whole : Binds K a.d_is_whole ["thing"] []
  g_is_whole : mg "is_whole" = some (.ref a.f_is_whole)
  F_is_fraction : Fun K "is_fraction" "is_fraction" s_is_fraction a.f_is_fraction a.d_is_fraction
  b_is_fraction : Binds K a.d_is_fraction ["thing"] []
  g_is_fraction : mg "is_fraction" = some (.ref a.f_is_fraction)
  F_need_fraction : Fun K "need_fraction" "need_fraction" s_need_fraction a.f_need_fraction a.d_need_fraction
  b_need_fraction : Binds K a.d_need_fraction ["thing"] []
  g_need_fraction : mg "need_fraction" = some (.ref a.f_need_fraction)
  F_need_factor : Fun K "need_factor" "need_factor" s_need_factor a.f_need_factor a.d_need_factor
  b_need_factor : Binds K a.d_need_factor ["thing"] []
  g_need_factor : mg "need_factor" = some (.ref a.f_need_factor)
  F_fraction : Fun K "fraction" "fraction" s_fraction a.f_fraction a.d_fraction
  b_fraction : Binds K a.d_fraction ["top", "bottom"] []
  g_fraction : mg "fraction" = some (.ref a.f_fraction)
  F_plus : Fun K "plus" "plus" s_plus a.f_plus a.d_plus
  b_plus : Binds K a.d_plus ["one", "other"] []
  g_plus : mg "plus" = some (.ref a.f_plus)
  F_less : Fun K "less" "less" s_less a.f_less a.d_less
  b_less : Binds K a.d_less ["one", "other"] []
  g_less : mg "less" = some (.ref a.f_less)
  F_times : Fun K "times" "times" s_times a.f_times a.d_times
  b_times : Binds K a.d_times ["one", "other"] []
  g_times : mg "times" = some (.ref a.f_times)
  F_over : Fun K "over" "over" s_over a.f_over a.d_over
  b_over : Binds K a.d_over ["one", "other"] []
  g_over : mg "over" = some (.ref a.f_over)
  F_opposite : Fun K "opposite" "opposite" s_opposite a.f_opposite a.d_opposite
  b_opposite : Binds K a.d_opposite ["one"] []
  g_opposite : mg "opposite" = some (.ref a.f_opposite)
  F_is_below : Fun K "is_below" "is_below" s_is_below a.f_is_below a.d_is_below
  b_is_below : Binds K a.d_is_below ["one", "other"] []
  g_is_below : mg "is_below" = some (.ref a.f_is_below)
  F__law_cell : Fun K "_law_cell" "_law_cell" s__law_cell a.f__law_cell a.d__law_cell
  b__law_cell : Binds K a.d__law_cell ["_law_script", "_law_k"] []
  g__law_cell : mg "_law_cell" = some (.ref a.f__law_cell)
  F__law_pot : Fun K "_law_pot" "_law_pot" s__law_pot a.f__law_pot a.d__law_pot
  b__law_pot : Binds K a.d__law_pot ["_law_cell_here"] []
  g__law_pot : mg "_law_pot" = some (.ref a.f__law_pot)
  F__law_draw : Fun K "_law_draw" "_law_draw" s__law_draw a.f__law_draw a.d__law_draw
  b__law_draw : Binds K a.d__law_draw ["_law_pot_here", "_law_many"] []
  g__law_draw : mg "_law_draw" = some (.ref a.f__law_draw)
  F__law_great : Fun K "_law_great" "_law_great" s__law_great a.f__law_great a.d__law_great
  b__law_great : Binds K a.d__law_great ["_law_pot_here", "_law_many"] []
  g__law_great : mg "_law_great" = some (.ref a.f__law_great)
  F__law_low : Fun K "_law_low" "_law_low" s__law_low a.f__law_low a.d__law_low
  b__law_low : Binds K a.d__law_low ["_law_top", "_law_bottom"] []
  g__law_low : mg "_law_low" = some (.ref a.f__law_low)
  F__law_plus : Fun K "_law_plus" "_law_plus" s__law_plus a.f__law_plus a.d__law_plus
  b__law_plus : Binds K a.d__law_plus ["_law_one_here", "_law_other"] []
  g__law_plus : mg "_law_plus" = some (.ref a.f__law_plus)
  F__law_less : Fun K "_law_less" "_law_less" s__law_less a.f__law_less a.d__law_less
  b__law_less : Binds K a.d__law_less ["_law_one_here", "_law_other"] []
  g__law_less : mg "_law_less" = some (.ref a.f__law_less)
  F__law_times : Fun K "_law_times" "_law_times" s__law_times a.f__law_times a.d__law_times
  b__law_times : Binds K a.d__law_times ["_law_one_here", "_law_other"] []
  g__law_times : mg "_law_times" = some (.ref a.f__law_times)
  F__law_over : Fun K "_law_over" "_law_over" s__law_over a.f__law_over a.d__law_over
  b__law_over : Binds K a.d__law_over ["_law_one_here", "_law_other"] []
  g__law_over : mg "_law_over" = some (.ref a.f__law_over)
  F__law_below : Fun K "_law_below" "_law_below" s__law_below a.f__law_below a.d__law_below
  b__law_below : Binds K a.d__law_below ["_law_one_here", "_law_other"] []
  g__law_below : mg "_law_below" = some (.ref a.f__law_below)
  F__law_small : Fun K "_law_small" "_law_small" s__law_small a.f__law_small a.d__law_small
  b__law_small : Binds K a.d__law_small ["_law_pot_here"] []
  g__law_small : mg "_law_small" = some (.ref a.f__law_small)
  F__law_far : Fun K "_law_far" "_law_far" s__law_far a.f__law_far a.d__law_far
  b__law_far : Binds K a.d__law_far ["_law_pot_here"] []
  g__law_far : mg "_law_far" = some (.ref a.f__law_far)
  F__law_one : Fun K "_law_one" "_law_one" s__law_one a.f__law_one a.d__law_one
  b__law_one : Binds K a.d__law_one ["_law_pot_here"] []
  g__law_one : mg "_law_one" = some (.ref a.f__law_one)
  F__law_number : Fun K "_law_number" "_law_number" s__law_number a.f__law_number a.d__law_number
  b__law_number : Binds K a.d__law_number ["_law_pot_here"] []
  g__law_number : mg "_law_number" = some (.ref a.f__law_number)
  F__law_refused : Fun K "_law_refused" "_law_refused" s__law_refused a.f__law_refused a.d__law_refused
  b__law_refused : Binds K a.d__law_refused ["_law_way", "_law_one_here", "_law_other"] []
  g__law_refused : mg "_law_refused" = some (.ref a.f__law_refused)
  F__law_is_right : Fun K "_law_is_right" "_law_is_right" s__law_is_right a.f__law_is_right a.d__law_is_right
  b__law_is_right : Binds K a.d__law_is_right ["_law_found", "_law_due"] []
  g__law_is_right : mg "_law_is_right" = some (.ref a.f__law_is_right)
  F__law_reckoned : Fun K "_law_reckoned" "_law_reckoned" s__law_reckoned a.f__law_reckoned a.d__law_reckoned
  b__law_reckoned : Binds K a.d__law_reckoned ["_law_one_here", "_law_other"] []
  g__law_reckoned : mg "_law_reckoned" = some (.ref a.f__law_reckoned)
  F__law_right : Fun K "_law_right" "_law_right" s__law_right a.f__law_right a.d__law_right
  b__law_right : Binds K a.d__law_right ["_law_pot_here"] []
  g__law_right : mg "_law_right" = some (.ref a.f__law_right)
  F_law : Fun K "law" "law" s_law a.f_law a.d_law
  b_law : Binds K a.d_law ["_law_script"] []
  g_law : mg "law" = some (.ref a.f_law)
  c_LineError : mg "LineError" = some (.ref a.C_LineError)
  s_LineError : PySem.W.subIn K (.ref a.C_LineError) (.type "BaseException") = some true
  t_LineError : PySem.W.typeIn K (.ref a.C_LineError) = some (.type "type")
  i_LineError : PySem.W.isClsIn K a.C_LineError = true
  h_LineError : PySem.W.hasDictIn K a.C_LineError = true
  u_NoFraction_LineError : PySem.W.subIn K (.ref a.C_NoFraction) (.ref a.C_LineError) = some true
  c_NoFraction : mg "NoFraction" = some (.ref a.C_NoFraction)
  x_NoFraction : PySem.W.excIn K a.C_NoFraction [.type "ValueError", .type "Exception", .type "BaseException", .type "object"] "ValueError.__new__" = true
  k_NoFraction : PySem.W.keepIn K (.ref a.C_NoFraction) = true
  e_NoFraction : ExcC K a.C_NoFraction
  kv_NoFraction : PySem.W.subIn K (.ref a.C_NoFraction) (.type "ValueError") = some true
  s_NoFraction : PySem.W.subIn K (.ref a.C_NoFraction) (.type "BaseException") = some true
  t_NoFraction : PySem.W.typeIn K (.ref a.C_NoFraction) = some (.type "type")
  i_NoFraction : PySem.W.isClsIn K a.C_NoFraction = true
  h_NoFraction : PySem.W.hasDictIn K a.C_NoFraction = true
  u_NoFraction_NoFraction : PySem.W.subIn K (.ref a.C_NoFraction) (.ref a.C_NoFraction) = some true
  c_NoText : mg "NoText" = some (.ref a.C_NoText)
  s_NoText : PySem.W.subIn K (.ref a.C_NoText) (.type "BaseException") = some true
  t_NoText : PySem.W.typeIn K (.ref a.C_NoText) = some (.type "type")
  i_NoText : PySem.W.isClsIn K a.C_NoText = true
  h_NoText : PySem.W.hasDictIn K a.C_NoText = true
  u_NoFraction_NoText : PySem.W.subIn K (.ref a.C_NoFraction) (.ref a.C_NoText) = some false
  c_NoPoints : mg "NoPoints" = some (.ref a.C_NoPoints)
  s_NoPoints : PySem.W.subIn K (.ref a.C_NoPoints) (.type "BaseException") = some true
  t_NoPoints : PySem.W.typeIn K (.ref a.C_NoPoints) = some (.type "type")
  i_NoPoints : PySem.W.isClsIn K a.C_NoPoints = true
  h_NoPoints : PySem.W.hasDictIn K a.C_NoPoints = true
  u_NoFraction_NoPoints : PySem.W.subIn K (.ref a.C_NoFraction) (.ref a.C_NoPoints) = some false
  c_NoPrices : mg "NoPrices" = some (.ref a.C_NoPrices)
  s_NoPrices : PySem.W.subIn K (.ref a.C_NoPrices) (.type "BaseException") = some true
  t_NoPrices : PySem.W.typeIn K (.ref a.C_NoPrices) = some (.type "type")
  i_NoPrices : PySem.W.isClsIn K a.C_NoPrices = true
  h_NoPrices : PySem.W.hasDictIn K a.C_NoPrices = true
  u_NoFraction_NoPrices : PySem.W.subIn K (.ref a.C_NoFraction) (.ref a.C_NoPrices) = some false
  c_NoLine : mg "NoLine" = some (.ref a.C_NoLine)
  s_NoLine : PySem.W.subIn K (.ref a.C_NoLine) (.type "BaseException") = some true
  t_NoLine : PySem.W.typeIn K (.ref a.C_NoLine) = some (.type "type")
  i_NoLine : PySem.W.isClsIn K a.C_NoLine = true
  h_NoLine : PySem.W.hasDictIn K a.C_NoLine = true
  u_NoFraction_NoLine : PySem.W.subIn K (.ref a.C_NoFraction) (.ref a.C_NoLine) = some false
  c_NoLines : mg "NoLines" = some (.ref a.C_NoLines)
  s_NoLines : PySem.W.subIn K (.ref a.C_NoLines) (.type "BaseException") = some true
  t_NoLines : PySem.W.typeIn K (.ref a.C_NoLines) = some (.type "type")
  i_NoLines : PySem.W.isClsIn K a.C_NoLines = true
  h_NoLines : PySem.W.hasDictIn K a.C_NoLines = true
  u_NoFraction_NoLines : PySem.W.subIn K (.ref a.C_NoFraction) (.ref a.C_NoLines) = some false
  c_NoShares : mg "NoShares" = some (.ref a.C_NoShares)
  s_NoShares : PySem.W.subIn K (.ref a.C_NoShares) (.type "BaseException") = some true
  t_NoShares : PySem.W.typeIn K (.ref a.C_NoShares) = some (.type "type")
  i_NoShares : PySem.W.isClsIn K a.C_NoShares = true
  h_NoShares : PySem.W.hasDictIn K a.C_NoShares = true
  u_NoFraction_NoShares : PySem.W.subIn K (.ref a.C_NoFraction) (.ref a.C_NoShares) = some false
  c_NoSpread : mg "NoSpread" = some (.ref a.C_NoSpread)
  s_NoSpread : PySem.W.subIn K (.ref a.C_NoSpread) (.type "BaseException") = some true
  t_NoSpread : PySem.W.typeIn K (.ref a.C_NoSpread) = some (.type "type")
  i_NoSpread : PySem.W.isClsIn K a.C_NoSpread = true
  h_NoSpread : PySem.W.hasDictIn K a.C_NoSpread = true
  u_NoFraction_NoSpread : PySem.W.subIn K (.ref a.C_NoFraction) (.ref a.C_NoSpread) = some false
  c_NoNumber : mg "NoNumber" = some (.ref a.C_NoNumber)
  s_NoNumber : PySem.W.subIn K (.ref a.C_NoNumber) (.type "BaseException") = some true
  t_NoNumber : PySem.W.typeIn K (.ref a.C_NoNumber) = some (.type "type")
  i_NoNumber : PySem.W.isClsIn K a.C_NoNumber = true
  h_NoNumber : PySem.W.hasDictIn K a.C_NoNumber = true
  u_NoFraction_NoNumber : PySem.W.subIn K (.ref a.C_NoFraction) (.ref a.C_NoNumber) = some false
  c_NoPlace : mg "NoPlace" = some (.ref a.C_NoPlace)
  s_NoPlace : PySem.W.subIn K (.ref a.C_NoPlace) (.type "BaseException") = some true
  t_NoPlace : PySem.W.typeIn K (.ref a.C_NoPlace) = some (.type "type")
  i_NoPlace : PySem.W.isClsIn K a.C_NoPlace = true
  h_NoPlace : PySem.W.hasDictIn K a.C_NoPlace = true
  u_NoFraction_NoPlace : PySem.W.subIn K (.ref a.C_NoFraction) (.ref a.C_NoPlace) = some false
  c_NoBounds : mg "NoBounds" = some (.ref a.C_NoBounds)
  s_NoBounds : PySem.W.subIn K (.ref a.C_NoBounds) (.type "BaseException") = some true
  t_NoBounds : PySem.W.typeIn K (.ref a.C_NoBounds) = some (.type "type")
  i_NoBounds : PySem.W.isClsIn K a.C_NoBounds = true
  h_NoBounds : PySem.W.hasDictIn K a.C_NoBounds = true
  u_NoFraction_NoBounds : PySem.W.subIn K (.ref a.C_NoFraction) (.ref a.C_NoBounds) = some false
  c_NoSpots : mg "NoSpots" = some (.ref a.C_NoSpots)
  s_NoSpots : PySem.W.subIn K (.ref a.C_NoSpots) (.type "BaseException") = some true
  t_NoSpots : PySem.W.typeIn K (.ref a.C_NoSpots) = some (.type "type")
  i_NoSpots : PySem.W.isClsIn K a.C_NoSpots = true
  h_NoSpots : PySem.W.hasDictIn K a.C_NoSpots = true
  u_NoFraction_NoSpots : PySem.W.subIn K (.ref a.C_NoFraction) (.ref a.C_NoSpots) = some false
  c_NoPlane : mg "NoPlane" = some (.ref a.C_NoPlane)
  s_NoPlane : PySem.W.subIn K (.ref a.C_NoPlane) (.type "BaseException") = some true
  t_NoPlane : PySem.W.typeIn K (.ref a.C_NoPlane) = some (.type "type")
  i_NoPlane : PySem.W.isClsIn K a.C_NoPlane = true
  h_NoPlane : PySem.W.hasDictIn K a.C_NoPlane = true
  u_NoFraction_NoPlane : PySem.W.subIn K (.ref a.C_NoFraction) (.ref a.C_NoPlane) = some false
  c_NoValues : mg "NoValues" = some (.ref a.C_NoValues)
  s_NoValues : PySem.W.subIn K (.ref a.C_NoValues) (.type "BaseException") = some true
  t_NoValues : PySem.W.typeIn K (.ref a.C_NoValues) = some (.type "type")
  i_NoValues : PySem.W.isClsIn K a.C_NoValues = true
  h_NoValues : PySem.W.hasDictIn K a.C_NoValues = true
  u_NoFraction_NoValues : PySem.W.subIn K (.ref a.C_NoFraction) (.ref a.C_NoValues) = some false
  c_NoPair : mg "NoPair" = some (.ref a.C_NoPair)
  s_NoPair : PySem.W.subIn K (.ref a.C_NoPair) (.type "BaseException") = some true
  t_NoPair : PySem.W.typeIn K (.ref a.C_NoPair) = some (.type "type")
  i_NoPair : PySem.W.isClsIn K a.C_NoPair = true
  h_NoPair : PySem.W.hasDictIn K a.C_NoPair = true
  u_NoFraction_NoPair : PySem.W.subIn K (.ref a.C_NoFraction) (.ref a.C_NoPair) = some false
  c_NoDirections : mg "NoDirections" = some (.ref a.C_NoDirections)
  s_NoDirections : PySem.W.subIn K (.ref a.C_NoDirections) (.type "BaseException") = some true
  t_NoDirections : PySem.W.typeIn K (.ref a.C_NoDirections) = some (.type "type")
  i_NoDirections : PySem.W.isClsIn K a.C_NoDirections = true
  h_NoDirections : PySem.W.hasDictIn K a.C_NoDirections = true
  u_NoFraction_NoDirections : PySem.W.subIn K (.ref a.C_NoFraction) (.ref a.C_NoDirections) = some false
  c_NoDeed : mg "NoDeed" = some (.ref a.C_NoDeed)
  s_NoDeed : PySem.W.subIn K (.ref a.C_NoDeed) (.type "BaseException") = some true
  t_NoDeed : PySem.W.typeIn K (.ref a.C_NoDeed) = some (.type "type")
  i_NoDeed : PySem.W.isClsIn K a.C_NoDeed = true
  h_NoDeed : PySem.W.hasDictIn K a.C_NoDeed = true
  u_NoFraction_NoDeed : PySem.W.subIn K (.ref a.C_NoFraction) (.ref a.C_NoDeed) = some false
  c_NoRow : mg "NoRow" = some (.ref a.C_NoRow)
  s_NoRow : PySem.W.subIn K (.ref a.C_NoRow) (.type "BaseException") = some true
  t_NoRow : PySem.W.typeIn K (.ref a.C_NoRow) = some (.type "type")
  i_NoRow : PySem.W.isClsIn K a.C_NoRow = true
  h_NoRow : PySem.W.hasDictIn K a.C_NoRow = true
  u_NoFraction_NoRow : PySem.W.subIn K (.ref a.C_NoFraction) (.ref a.C_NoRow) = some false
  z_isinstance : mg "isinstance" = none
  z_int : mg "int" = none
  z_bool : mg "bool" = none
  z_tuple : mg "tuple" = none
  z_len : mg "len" = none
  z_max : mg "max" = none
  z_abs : mg "abs" = none
  z_divmod : mg "divmod" = none
  z_range : mg "range" = none
  z_ValueError : mg "ValueError" = none
  z_any : mg "any" = none
  z_min : mg "min" = none
  i_gcd : mg "gcd" = some (.builtin "math.gcd")
  v_NOUGHT : ∃ u, mg "NOUGHT" = some u ∧ RelV (.ref a.c_NOUGHT) u
  w_NOUGHT : ∀ H, SqT K H a.c_NOUGHT [.int 0, .int 1]
section
variable {P : Program} {w : World} {K : PySem.W.Frag} {mg : Str → Option Value} {base : Heap} {a : Ad}
def sp_made (K : PySem.W.Frag) (a : Ad) : Sp := fun vs H Q E => ∃ t b : Int, vs = [.int t, .int b] ∧ (b ≠ 0 ∧ b.natAbs < 2 ^ 8990) ∧ ∀ v H', Same H H' → Fr K H' v (Rat.divInt t b) → Q v H'
theorem ok_made (T : Txt K mg a) : FnOk P w K mg base (L2.CX P w) 2 a.f_made a.d_made ["top", "bottom"] (sp_made K a) := by
  refine T.F_made.okX sc_made (fun vs H Q E h => ?_) (fun cdv A outer s H vs Q E hr h => ?_)
  · obtain ⟨t, b, rfl, ⟨hb, hs⟩, k⟩ := h
    rfl
  · have hu := hu64 hr
    obtain ⟨t, b, rfl, ⟨hb, hs⟩, k⟩ := h
    refine ⟨_, (pss_cons (ps_set (i := 2) sc_made.nd rfl (by first | exact Or.inl rfl | exact Or.inr rfl) (pe_callBfun cr_gcd (by rfl) T.i_gcd (pa_cons (pv 0) (pa_cons (pv 1) pa_nil))))
    (pss_cons (ps_if (pt_cmpR op_lt (pv 1) pe_int (nomark _)) (pss_one (ps_set (i := 2) sc_made.nd rfl (by first | exact Or.inl rfl | exact Or.inr rfl) (pe_un un_neg (pv 2)))) pss_nil)
    (pss_one (ps_ret (pe_tup (pa_cons (pe_op op_fdivX (pv 0) (pv 2)) (pa_cons (pe_op op_fdivX (pv 1) (pv 2)) pa_nil))))))), ?_⟩
    repeat walk_at "rd"
    by_cases hn : b < 0
    · refine iteP (decide_eq_true hn) ?_
      have e := dv_of_neg (t := t) hn
      repeat walk_at "rd"
      rw [e]
      refine rd_fd (dv_ne hb) (dv_lt hb hs) ?_
      repeat walk_at "rd"
      refine rd_fd (dv_ne hb) (dv_lt hb hs) ?_
      repeat walk_at "rd"
      refine rd_mk le2 fun p H1 hp s1 hx => ?_
      rw [num_dv hb, den_dv hb] at hx
      exact k _ _ s1 ⟨p, rfl, SqT.of hx⟩
    · refine iteN (decide_eq_false hn) ?_
      have e := dv_of_pos (t := t) hn
      repeat walk_at "rd"
      rw [e]
      refine rd_fd (dv_ne hb) (dv_lt hb hs) ?_
      repeat walk_at "rd"
      refine rd_fd (dv_ne hb) (dv_lt hb hs) ?_
      repeat walk_at "rd"
      refine rd_mk le2 fun p H1 hp s1 hx => ?_
      rw [num_dv hb, den_dv hb] at hx
      exact k _ _ s1 ⟨p, rfl, SqT.of hx⟩
def sp_added (K : PySem.W.Frag) (a : Ad) : Sp := fun vs H Q E => ∃ v w q r, vs = [v, w] ∧ Fr K H v q ∧ Fr K H w r ∧ Sz 4000 q ∧ Sz 4000 r ∧ ∀ x H', Same H H' → Fr K H' x (q + r) → Q x H'
theorem ok_added (T : Txt K mg a) : FnOk P w K mg base (L2.CX P w) 3 a.f_added a.d_added ["one", "other"] (sp_added K a) := by
  refine T.F_added.okX sc_added (fun vs H Q E h => ?_) (fun cdv A outer s H vs Q E hr h => ?_)
  · obtain ⟨v, w, q, r, rfl, hv, hw, zq, zr, k⟩ := h
    rfl
  · have hu := hu64 hr
    obtain ⟨v, w, q, r, rfl, hv, hw, zq, zr, k⟩ := h
    refine ⟨_, (pss_one (ps_ret (pe_callS (ok_made T) (hr.mono (by decide)) (by rfl) T.g_made T.F_made.kp T.b_made (fun σ => passAt (takes_of rfl rfl rfl rfl) σ) (by exact (pa_cons (pe_op (op_addA K) (pe_op op_mulW (pe_ix (ix_any K) (pv 0) pe_int (fun _ _ => rfl)) (pe_ix (ix_any K) (pv 1) pe_int (fun _ _ => rfl))) (pe_op op_mulW (pe_ix (ix_any K) (pv 1) pe_int (fun _ _ => rfl)) (pe_ix (ix_any K) (pv 0) pe_int (fun _ _ => rfl)))) (pa_cons (pe_op op_mulW (pe_ix (ix_any K) (pv 0) pe_int (fun _ _ => rfl)) (pe_ix (ix_any K) (pv 1) pe_int (fun _ _ => rfl))) pa_nil)))))), ?_⟩
    repeat walk_at "rd"
    refine rd_mul (cm (Sz.cn zq) (Sz.cd zr)) ?_
    repeat walk_at "rd"
    refine rd_mul (cm (Sz.cn zr) (Sz.cd zq)) ?_
    repeat walk_at "rd"
    refine rd_mul (cm (Sz.cd zq) (Sz.cd zr)) ?_
    repeat walk_at "rd"
    refine ⟨_, _, rfl, ⟨Int.mul_ne_zero (den_ne q) (den_ne r), dd_lt zq zr⟩, fun x H1 s1 hx => ?_⟩
    rw [add_as] at hx
    exact k x H1 s1 hx
def sp_subtracted (K : PySem.W.Frag) (a : Ad) : Sp := fun vs H Q E => ∃ v w q r, vs = [v, w] ∧ Fr K H v q ∧ Fr K H w r ∧ Sz 4000 q ∧ Sz 4000 r ∧ ∀ x H', Same H H' → Fr K H' x (q - r) → Q x H'
theorem ok_subtracted (T : Txt K mg a) : FnOk P w K mg base (L2.CX P w) 3 a.f_subtracted a.d_subtracted ["one", "other"] (sp_subtracted K a) := by
  refine T.F_subtracted.okX sc_subtracted (fun vs H Q E h => ?_) (fun cdv A outer s H vs Q E hr h => ?_)
  · obtain ⟨v, w, q, r, rfl, hv, hw, zq, zr, k⟩ := h
    rfl
  · have hu := hu64 hr
    obtain ⟨v, w, q, r, rfl, hv, hw, zq, zr, k⟩ := h
    refine ⟨_, (pss_one (ps_ret (pe_callS (ok_made T) (hr.mono (by decide)) (by rfl) T.g_made T.F_made.kp T.b_made (fun σ => passAt (takes_of rfl rfl rfl rfl) σ) (by exact (pa_cons (pe_op op_sub (pe_op op_mulW (pe_ix (ix_any K) (pv 0) pe_int (fun _ _ => rfl)) (pe_ix (ix_any K) (pv 1) pe_int (fun _ _ => rfl))) (pe_op op_mulW (pe_ix (ix_any K) (pv 1) pe_int (fun _ _ => rfl)) (pe_ix (ix_any K) (pv 0) pe_int (fun _ _ => rfl)))) (pa_cons (pe_op op_mulW (pe_ix (ix_any K) (pv 0) pe_int (fun _ _ => rfl)) (pe_ix (ix_any K) (pv 1) pe_int (fun _ _ => rfl))) pa_nil)))))), ?_⟩
    repeat walk_at "rd"
    refine rd_mul (cm (Sz.cn zq) (Sz.cd zr)) ?_
    repeat walk_at "rd"
    refine rd_mul (cm (Sz.cn zr) (Sz.cd zq)) ?_
    repeat walk_at "rd"
    refine rd_mul (cm (Sz.cd zq) (Sz.cd zr)) ?_
    repeat walk_at "rd"
    refine ⟨_, _, rfl, ⟨Int.mul_ne_zero (den_ne q) (den_ne r), dd_lt zq zr⟩, fun x H1 s1 hx => ?_⟩
    rw [sub_as] at hx
    exact k x H1 s1 hx
def sp_multiplied (K : PySem.W.Frag) (a : Ad) : Sp := fun vs H Q E => ∃ v w q r, vs = [v, w] ∧ Fr K H v q ∧ Fr K H w r ∧ Sz 4000 q ∧ Sz 4000 r ∧ ∀ x H', Same H H' → Fr K H' x (q * r) → Q x H'
theorem ok_multiplied (T : Txt K mg a) : FnOk P w K mg base (L2.CX P w) 3 a.f_multiplied a.d_multiplied ["one", "other"] (sp_multiplied K a) := by
  refine T.F_multiplied.okX sc_multiplied (fun vs H Q E h => ?_) (fun cdv A outer s H vs Q E hr h => ?_)
  · obtain ⟨v, w, q, r, rfl, hv, hw, zq, zr, k⟩ := h
    rfl
  · have hu := hu64 hr
    obtain ⟨v, w, q, r, rfl, hv, hw, zq, zr, k⟩ := h
    refine ⟨_, (pss_one (ps_ret (pe_callS (ok_made T) (hr.mono (by decide)) (by rfl) T.g_made T.F_made.kp T.b_made (fun σ => passAt (takes_of rfl rfl rfl rfl) σ) (by exact (pa_cons (pe_op op_mulW (pe_ix (ix_any K) (pv 0) pe_int (fun _ _ => rfl)) (pe_ix (ix_any K) (pv 1) pe_int (fun _ _ => rfl))) (pa_cons (pe_op op_mulW (pe_ix (ix_any K) (pv 0) pe_int (fun _ _ => rfl)) (pe_ix (ix_any K) (pv 1) pe_int (fun _ _ => rfl))) pa_nil)))))), ?_⟩
    repeat walk_at "rd"
    refine rd_mul (cm (Sz.cn zq) (Sz.cn zr)) ?_
    repeat walk_at "rd"
    refine rd_mul (cm (Sz.cd zq) (Sz.cd zr)) ?_
    repeat walk_at "rd"
    refine ⟨_, _, rfl, ⟨Int.mul_ne_zero (den_ne q) (den_ne r), dd_lt zq zr⟩, fun x H1 s1 hx => ?_⟩
    rw [mul_as] at hx
    exact k x H1 s1 hx
def sp_divided (K : PySem.W.Frag) (a : Ad) : Sp := fun vs H Q E => ∃ v w q r, vs = [v, w] ∧ Fr K H v q ∧ Fr K H w r ∧ Sz 4000 q ∧ Sz 4000 r ∧ r ≠ 0 ∧ ∀ x H', Same H H' → Fr K H' x (q / r) → Q x H'
theorem ok_divided (T : Txt K mg a) : FnOk P w K mg base (L2.CX P w) 3 a.f_divided a.d_divided ["one", "other"] (sp_divided K a) := by
  refine T.F_divided.okX sc_divided (fun vs H Q E h => ?_) (fun cdv A outer s H vs Q E hr h => ?_)
  · obtain ⟨v, w, q, r, rfl, hv, hw, zq, zr, hr0, k⟩ := h
    rfl
  · have hu := hu64 hr
    obtain ⟨v, w, q, r, rfl, hv, hw, zq, zr, hr0, k⟩ := h
    refine ⟨_, (pss_one (ps_ret (pe_callS (ok_made T) (hr.mono (by decide)) (by rfl) T.g_made T.F_made.kp T.b_made (fun σ => passAt (takes_of rfl rfl rfl rfl) σ) (by exact (pa_cons (pe_op op_mulW (pe_ix (ix_any K) (pv 0) pe_int (fun _ _ => rfl)) (pe_ix (ix_any K) (pv 1) pe_int (fun _ _ => rfl))) (pa_cons (pe_op op_mulW (pe_ix (ix_any K) (pv 0) pe_int (fun _ _ => rfl)) (pe_ix (ix_any K) (pv 1) pe_int (fun _ _ => rfl))) pa_nil)))))), ?_⟩
    repeat walk_at "rd"
    refine rd_mul (cm (Sz.cn zq) (Sz.cd zr)) ?_
    repeat walk_at "rd"
    refine rd_mul (cm (Sz.cd zq) (Sz.cn zr)) ?_
    repeat walk_at "rd"
    refine ⟨_, _, rfl, ⟨Int.mul_ne_zero (den_ne q) (num_ne hr0), dn_lt zq zr⟩, fun x H1 s1 hx => ?_⟩
    rw [div_as] at hx
    exact k x H1 s1 hx
def sp_negated (K : PySem.W.Frag) (a : Ad) : Sp := fun vs H Q E => ∃ v q, vs = [v] ∧ Fr K H v q ∧ ∀ x H', Same H H' → Fr K H' x (-q) → Q x H'
theorem ok_negated (T : Txt K mg a) : FnOk P w K mg base (L2.CX P w) 2 a.f_negated a.d_negated ["one"] (sp_negated K a) := by
  refine T.F_negated.okX sc_negated (fun vs H Q E h => ?_) (fun cdv A outer s H vs Q E hr h => ?_)
  · obtain ⟨v, q, rfl, hv, k⟩ := h
    rfl
  · have hu := hu64 hr
    obtain ⟨v, q, rfl, hv, k⟩ := h
    refine ⟨_, (pss_one (ps_ret (pe_tup (pa_cons (pe_un un_neg (pe_ix (ix_any K) (pv 0) pe_int (fun _ _ => rfl))) (pa_cons (pe_ix (ix_any K) (pv 0) pe_int (fun _ _ => rfl)) pa_nil))))), ?_⟩
    repeat walk_at "rd"
    refine rd_mk le2 fun p H1 hp s1 hx => ?_
    exact k _ _ s1 ⟨p, rfl, SqT.of (by rw [hx, Rat.neg_num, Rat.neg_den])⟩
def sp_is_less (K : PySem.W.Frag) (a : Ad) : Sp := fun vs H Q E => ∃ v w q r, vs = [v, w] ∧ Fr K H v q ∧ Fr K H w r ∧ Sz 4000 q ∧ Sz 4000 r ∧ Q (.bl (decide (q < r))) H
theorem ok_is_less (T : Txt K mg a) : FnOk P w K mg base (L2.CX P w) 2 a.f_is_less a.d_is_less ["one", "other"] (sp_is_less K a) := by
  refine T.F_is_less.okX sc_is_less (fun vs H Q E h => ?_) (fun cdv A outer s H vs Q E hr h => ?_)
  · obtain ⟨v, w, q, r, rfl, hv, hw, zq, zr, k⟩ := h
    rfl
  · have hu := hu64 hr
    obtain ⟨v, w, q, r, rfl, hv, hw, zq, zr, k⟩ := h
    refine ⟨_, (pss_one (ps_ret (pe_cmpR op_lt (pe_op op_mulW (pe_ix (ix_any K) (pv 0) pe_int (fun _ _ => rfl)) (pe_ix (ix_any K) (pv 1) pe_int (fun _ _ => rfl))) (pe_op op_mulW (pe_ix (ix_any K) (pv 1) pe_int (fun _ _ => rfl)) (pe_ix (ix_any K) (pv 0) pe_int (fun _ _ => rfl))) (nomark _)))), ?_⟩
    repeat walk_at "rd"
    refine rd_mul (cm (Sz.cn zq) (Sz.cd zr)) ?_
    repeat walk_at "rd"
    refine rd_mul (cm (Sz.cn zr) (Sz.cd zq)) ?_
    repeat walk_at "rd"
    rw [lt_as]
    exact k
def sp_is_whole (K : PySem.W.Frag) (a : Ad) : Sp := fun vs H Q E => ∃ x t b, vs = [x] ∧ TyX K H x (.type t) ∧ WholeT t b ∧ Q (.bl b) H
theorem ok_is_whole (T : Txt K mg a) : FnOk P w K mg base (L2.CX P w) 2 a.f_is_whole a.d_is_whole ["thing"] (sp_is_whole K a) := by
  refine T.F_is_whole.okX sc_is_whole (fun vs H Q E h => ?_) (fun cdv A outer s H vs Q E hr h => ?_)
  · obtain ⟨x, t, b, rfl, ty, ⟨b1, b2, e1, e2, rfl⟩, k⟩ := h
    rfl
  · have hu := hu64 hr
    obtain ⟨x, t, b, rfl, ty, ⟨b1, b2, e1, e2, rfl⟩, k⟩ := h
    refine ⟨_, (pss_one (ps_ret (pe_and (pe_callB (my_isi K) (by rfl) T.z_isinstance bt_isinstance (pa_cons (pv 0) (pa_cons (my_ty "int" T.z_int) pa_nil))) (pe_one (pe_not (pe_callB (my_isi K) (by rfl) T.z_isinstance bt_isinstance (pa_cons (pv 0) (pa_cons (my_ty "bool" T.z_bool) pa_nil)))))))), ?_⟩
    repeat walk_at "rd"
    refine rd_isi ty e1 ?_
    refine rd_bl ?_
    cases b1 with
    | false => exact iteN rfl k
    | true =>
      refine iteP rfl ?_
      repeat walk_at "rd"
      refine rd_isi ty e2 ?_
      exact rd_bl k
def sp_is_fraction (K : PySem.W.Frag) (a : Ad) : Sp := fun vs H Q E => ∃ x b, vs = [x] ∧ IsFrB K H x b ∧ Q (.bl b) H
theorem ok_is_fraction (T : Txt K mg a) : FnOk P w K mg base (L2.CX P w) 3 a.f_is_fraction a.d_is_fraction ["thing"] (sp_is_fraction K a) := by
  refine T.F_is_fraction.okX sc_is_fraction (fun vs H Q E h => ?_) (fun cdv A outer s H vs Q E hr h => ?_)
  · obtain ⟨x, b, rfl, hx, k⟩ := h
    rfl
  · have hu := hu64 hr
    obtain ⟨x, b, rfl, hx, k⟩ := h
    refine ⟨_, (pss_cons (ps_if ((pw_or (pt_not (my_truth K (pe_callB (my_isi K) (by rfl) T.z_isinstance bt_isinstance (pa_cons (pv 0) (pa_cons (my_ty "tuple" T.z_tuple) pa_nil))))) (pw_or1 (pt_cmpR (op_neA K (by exact hu)) (pe_callB (call_lenA K) (by rfl) T.z_len bt_len (pa_cons (pv 0) pa_nil)) pe_int (nomark _))))).pt (pss_one (ps_ret pe_bl)) pss_nil)
    (pss_cons (ps_asg (pv 0) (my_gtup K 2 rfl (pgs_cons (pg_name (i := 1) sc_is_fraction.nd rfl (by first | exact Or.inl rfl | exact Or.inr rfl)) (pgs_cons (pg_name (i := 2) sc_is_fraction.nd rfl (by first | exact Or.inl rfl | exact Or.inr rfl)) pgs_nil))))
    (pss_one (ps_ret (pe_and (pe_callS (ok_is_whole T) (hr.mono (by decide)) (by rfl) T.g_is_whole T.F_is_whole.kp T.b_is_whole (fun σ => passAt (takes_of rfl rfl rfl rfl) σ) (by exact (pa_cons (pv 1) pa_nil))) (pe_and (pe_callS (ok_is_whole T) (hr.mono (by decide)) (by rfl) T.g_is_whole T.F_is_whole.kp T.b_is_whole (fun σ => passAt (takes_of rfl rfl rfl rfl) σ) (by exact (pa_cons (pv 2) pa_nil))) (pe_and (pe_cmpR op_ge (pv 2) pe_int (nomark _)) (pe_one (pe_cmpR (op_eqA K (by exact hu)) (pe_callBfun cr_gcd (by rfl) T.i_gcd (pa_cons (pv 1) (pa_cons (pv 2) pa_nil))) pe_int (nomark _)))))))))), ?_⟩
    repeat walk_at "rd"
    cases hx with
    | no ty e =>
      refine rd_isi ty e ?_
      repeat walk_at "rd"
      refine iteP rfl ?_
      refine iteP rfl ?_
      repeat walk_at "rd"
      exact k
    | @len p xs h e =>
      refine rd_isi (sqt_ty h) (by decide +kernel : kitB "tuple" "tuple" = some true) ?_
      repeat walk_at "rd"
      refine iteN rfl ?_
      repeat walk_at "rd"
      refine rd_lenT h ?_
      repeat walk_at "rd"
      refine iteP (by simp; omega) ?_
      repeat walk_at "rd"
      exact k
    | @fst p x y t h ty e2 =>
      refine rd_isi (sqt_ty h) (by decide +kernel : kitB "tuple" "tuple" = some true) ?_
      repeat walk_at "rd"
      refine iteN rfl ?_
      repeat walk_at "rd"
      refine rd_lenT h ?_
      repeat walk_at "rd"
      refine iteN rfl ?_
      repeat walk_at "rd"
      refine rd_gtup h rfl ?_
      repeat walk_at "rd"
      refine ⟨_, t, false, rfl, ty, e2, ?_⟩
      refine rd_bl ?_
      refine iteN rfl ?_
      exact k
    | @snd p i y t h ty e2 =>
      refine rd_isi (sqt_ty h) (by decide +kernel : kitB "tuple" "tuple" = some true) ?_
      repeat walk_at "rd"
      refine iteN rfl ?_
      repeat walk_at "rd"
      refine rd_lenT h ?_
      repeat walk_at "rd"
      refine iteN rfl ?_
      repeat walk_at "rd"
      refine rd_gtup h rfl ?_
      repeat walk_at "rd"
      refine ⟨_, "int", true, rfl, ty_int i, whole_int, ?_⟩
      refine rd_bl ?_
      refine iteP rfl ?_
      repeat walk_at "rd"
      refine ⟨_, t, false, rfl, ty, e2, ?_⟩
      refine rd_bl ?_
      refine iteN rfl ?_
      exact k
    | @two p i j h =>
      refine rd_isi (sqt_ty h) (by decide +kernel : kitB "tuple" "tuple" = some true) ?_
      repeat walk_at "rd"
      refine iteN rfl ?_
      repeat walk_at "rd"
      refine rd_lenT h ?_
      repeat walk_at "rd"
      refine iteN rfl ?_
      repeat walk_at "rd"
      refine rd_gtup h rfl ?_
      repeat walk_at "rd"
      refine ⟨_, "int", true, rfl, ty_int i, whole_int, ?_⟩
      refine rd_bl ?_
      refine iteP rfl ?_
      repeat walk_at "rd"
      refine ⟨_, "int", true, rfl, ty_int j, whole_int, ?_⟩
      refine rd_bl ?_
      refine iteP rfl ?_
      repeat walk_at "rd"
      by_cases hj : 1 ≤ j
      · refine iteP (decide_eq_true hj) ?_
        repeat walk_at "rd"
        rw [decide_eq_true hj, Bool.true_and] at k
        exact k
      · refine iteN (decide_eq_false hj) ?_
        rw [decide_eq_false hj, Bool.false_and] at k
        exact k
def sp_need_fraction (K : PySem.W.Frag) (a : Ad) : Sp := fun vs H Q E => ∃ x b, vs = [x] ∧ IsFrB K H x b ∧ (b = true → Q .non H) ∧ (b = false → E (.ref a.C_NoFraction) none H)
theorem ok_need_fraction (T : Txt K mg a) : FnOk P w K mg base (L2.CX P w) 4 a.f_need_fraction a.d_need_fraction ["thing"] (sp_need_fraction K a) := by
  refine T.F_need_fraction.okX sc_need_fraction (fun vs H Q E h => ?_) (fun cdv A outer s H vs Q E hr h => ?_)
  · obtain ⟨x, b, rfl, hx, k1, k2⟩ := h
    rfl
  · have hu := hu64 hr
    obtain ⟨x, b, rfl, hx, k1, k2⟩ := h
    refine ⟨_, (pss_one (ps_if (pt_not (my_truth K (pe_callS (ok_is_fraction T) (hr.mono (by decide)) (by rfl) T.g_is_fraction T.F_is_fraction.kp T.b_is_fraction (fun σ => passAt (takes_of rfl rfl rfl rfl) σ) (by exact (pa_cons (pv 0) pa_nil))))) (pss_one (ps_raise rfl (takes_of rfl rfl rfl rfl) (pmk_own PySem.F.excBase_ValueError T.x_NoFraction T.c_NoFraction T.k_NoFraction (raises_own T.s_NoFraction T.t_NoFraction) (by rfl)))) pss_nil)), ?_⟩
    repeat walk_at "rd"
    refine ⟨x, b, rfl, hx, ?_⟩
    repeat walk_at "rd"
    cases b with
    | true => exact iteN rfl (k1 rfl)
    | false => exact iteP rfl (k2 rfl)
def sp_need_factor (K : PySem.W.Frag) (a : Ad) : Sp := fun vs H Q E => ∃ x, vs = [x] ∧ ((∃ q, Fr K H x q ∧ (q ≠ 0 → Q .non H) ∧ (q = 0 → E (.ref a.C_NoFraction) none H)) ∨ (IsFrB K H x false ∧ E (.ref a.C_NoFraction) none H))
theorem ok_need_factor (T : Txt K mg a) : FnOk P w K mg base (L2.CX P w) 5 a.f_need_factor a.d_need_factor ["thing"] (sp_need_factor K a) := by
  refine T.F_need_factor.okX sc_need_factor (fun vs H Q E h => ?_) (fun cdv A outer s H vs Q E hr h => ?_)
  · obtain ⟨x, rfl, h⟩ := h
    rfl
  · have hu := hu64 hr
    obtain ⟨x, rfl, h⟩ := h
    refine ⟨_, (pss_cons (ps_expr (pe_callS (ok_need_fraction T) (hr.mono (by decide)) (by rfl) T.g_need_fraction T.F_need_fraction.kp T.b_need_fraction (fun σ => passAt (takes_of rfl rfl rfl rfl) σ) (by exact (pa_cons (pv 0) pa_nil))))
    (pss_one (ps_if (pt_cmpR (op_eqA K (by exact hu)) (pv 0) (my_const T.v_NOUGHT) (nomark _)) (pss_one (ps_raise rfl (takes_of rfl rfl rfl rfl) (pmk_own PySem.F.excBase_ValueError T.x_NoFraction T.c_NoFraction T.k_NoFraction (raises_own T.s_NoFraction T.t_NoFraction) (by rfl)))) pss_nil))), ?_⟩
    repeat walk_at "rd"
    rcases h with ⟨q, hq, k1, k2⟩ | ⟨hx, k2⟩
    · refine ⟨x, true, rfl, hq.is, fun _ => ?_, fun z => nomatch z⟩
      repeat walk_at "rd"
      refine rd_eqD hq.dp (.tup (T.w_NOUGHT H) (.cons (.int _) (.cons (.int _) .nil))) rfl rfl ?_
      rw [q0_iff]
      repeat walk_at "rd"
      by_cases h0 : q = 0
      · exact iteP (decide_eq_true h0) (k2 h0)
      · exact iteN (decide_eq_false h0) (k1 h0)
    · exact ⟨x, false, rfl, hx, (fun z => nomatch z), fun _ => k2⟩
def sp_fraction (K : PySem.W.Frag) (a : Ad) : Sp := fun vs H Q E => ∃ x y, vs = [x, y] ∧ ((((∃ t, TyX K H x (.type t) ∧ WholeT t false) ∨ (∃ i t, x = .int i ∧ TyX K H y (.type t) ∧ WholeT t false) ∨ (∃ i, x = .int i ∧ y = .int 0)) ∧ E (.ref a.C_NoFraction) none H) ∨ ∃ i j, x = .int i ∧ y = .int j ∧ (j ≠ 0 ∧ j.natAbs < 2 ^ 8990) ∧ ∀ v H', Same H H' → Fr K H' v (Rat.divInt i j) → Q v H')
theorem ok_fraction (T : Txt K mg a) : FnOk P w K mg base (L2.CX P w) 3 a.f_fraction a.d_fraction ["top", "bottom"] (sp_fraction K a) := by
  refine T.F_fraction.okX sc_fraction (fun vs H Q E h => ?_) (fun cdv A outer s H vs Q E hr h => ?_)
  · obtain ⟨x, y, rfl, h⟩ := h
    rfl
  · have hu := hu64 hr
    obtain ⟨x, y, rfl, h⟩ := h
    refine ⟨_, (pss_cons (ps_if ((pw_or (pt_not (my_truth K (pe_callS (ok_is_whole T) (hr.mono (by decide)) (by rfl) T.g_is_whole T.F_is_whole.kp T.b_is_whole (fun σ => passAt (takes_of rfl rfl rfl rfl) σ) (by exact (pa_cons (pv 0) pa_nil))))) (pw_or (pt_not (my_truth K (pe_callS (ok_is_whole T) (hr.mono (by decide)) (by rfl) T.g_is_whole T.F_is_whole.kp T.b_is_whole (fun σ => passAt (takes_of rfl rfl rfl rfl) σ) (by exact (pa_cons (pv 1) pa_nil))))) (pw_or1 (pt_cmpR (op_eqA K (by exact hu)) (pv 1) pe_int (nomark _)))))).pt (pss_one (ps_raise rfl (takes_of rfl rfl rfl rfl) (pmk_own PySem.F.excBase_ValueError T.x_NoFraction T.c_NoFraction T.k_NoFraction (raises_own T.s_NoFraction T.t_NoFraction) (by rfl)))) pss_nil)
    (pss_one (ps_ret (pe_callS (ok_made T) (hr.mono (by decide)) (by rfl) T.g_made T.F_made.kp T.b_made (fun σ => passAt (takes_of rfl rfl rfl rfl) σ) (by exact (pa_cons (pv 0) (pa_cons (pv 1) pa_nil))))))), ?_⟩
    repeat walk_at "rd"
    rcases h with ⟨⟨t, ty, wt⟩ | ⟨i, t, rfl, ty, wt⟩ | ⟨i, rfl, rfl⟩, k⟩ | ⟨i, j, rfl, rfl, hj, k⟩
    · refine ⟨_, t, false, rfl, ty, wt, ?_⟩
      repeat walk_at "rd"
      refine iteP rfl ?_
      exact iteP rfl k
    · refine ⟨_, _, true, rfl, ty_int i, whole_int, ?_⟩
      repeat walk_at "rd"
      refine iteN rfl ?_
      repeat walk_at "rd"
      refine ⟨_, t, false, rfl, ty, wt, ?_⟩
      repeat walk_at "rd"
      refine iteP rfl ?_
      exact iteP rfl k
    · refine ⟨_, _, true, rfl, ty_int i, whole_int, ?_⟩
      repeat walk_at "rd"
      refine iteN rfl ?_
      repeat walk_at "rd"
      refine ⟨_, _, true, rfl, ty_int 0, whole_int, ?_⟩
      repeat walk_at "rd"
      refine iteN rfl ?_
      repeat walk_at "rd"
      exact iteP rfl k
    · refine ⟨_, _, true, rfl, ty_int i, whole_int, ?_⟩
      repeat walk_at "rd"
      refine iteN rfl ?_
      repeat walk_at "rd"
      refine ⟨_, _, true, rfl, ty_int j, whole_int, ?_⟩
      repeat walk_at "rd"
      refine iteN rfl ?_
      repeat walk_at "rd"
      refine iteN (decide_eq_false hj.1) ?_
      repeat walk_at "rd"
      exact ⟨_, _, rfl, hj, k⟩
def sp_plus (K : PySem.W.Frag) (a : Ad) : Sp := fun vs H Q E => ∃ v w q r, vs = [v, w] ∧ Fr K H v q ∧ Fr K H w r ∧ Sz 4000 q ∧ Sz 4000 r ∧ ∀ x H', Same H H' → Fr K H' x (q + r) → Q x H'
theorem ok_plus (T : Txt K mg a) : FnOk P w K mg base (L2.CX P w) 5 a.f_plus a.d_plus ["one", "other"] (sp_plus K a) := by
  refine T.F_plus.okX sc_plus (fun vs H Q E h => ?_) (fun cdv A outer s H vs Q E hr h => ?_)
  · obtain ⟨v, w, q, r, rfl, hv, hw, zq, zr, k⟩ := h
    rfl
  · have hu := hu64 hr
    obtain ⟨v, w, q, r, rfl, hv, hw, zq, zr, k⟩ := h
    refine ⟨_, (pss_cons (ps_expr (pe_callS (ok_need_fraction T) (hr.mono (by decide)) (by rfl) T.g_need_fraction T.F_need_fraction.kp T.b_need_fraction (fun σ => passAt (takes_of rfl rfl rfl rfl) σ) (by exact (pa_cons (pv 0) pa_nil))))
    (pss_cons (ps_expr (pe_callS (ok_need_fraction T) (hr.mono (by decide)) (by rfl) T.g_need_fraction T.F_need_fraction.kp T.b_need_fraction (fun σ => passAt (takes_of rfl rfl rfl rfl) σ) (by exact (pa_cons (pv 1) pa_nil))))
    (pss_one (ps_ret (pe_callS (ok_added T) (hr.mono (by decide)) (by rfl) T.g_added T.F_added.kp T.b_added (fun σ => passAt (takes_of rfl rfl rfl rfl) σ) (by exact (pa_cons (pv 0) (pa_cons (pv 1) pa_nil)))))))), ?_⟩
    repeat walk_at "rd"
    refine ⟨v, true, rfl, hv.is, fun _ => ?_, fun z => nomatch z⟩
    repeat walk_at "rd"
    refine ⟨w, true, rfl, hw.is, fun _ => ?_, fun z => nomatch z⟩
    repeat walk_at "rd"
    exact ⟨v, w, q, r, rfl, hv, hw, zq, zr, k⟩
def sp_less (K : PySem.W.Frag) (a : Ad) : Sp := fun vs H Q E => ∃ v w q r, vs = [v, w] ∧ Fr K H v q ∧ Fr K H w r ∧ Sz 4000 q ∧ Sz 4000 r ∧ ∀ x H', Same H H' → Fr K H' x (q - r) → Q x H'
theorem ok_less (T : Txt K mg a) : FnOk P w K mg base (L2.CX P w) 5 a.f_less a.d_less ["one", "other"] (sp_less K a) := by
  refine T.F_less.okX sc_less (fun vs H Q E h => ?_) (fun cdv A outer s H vs Q E hr h => ?_)
  · obtain ⟨v, w, q, r, rfl, hv, hw, zq, zr, k⟩ := h
    rfl
  · have hu := hu64 hr
    obtain ⟨v, w, q, r, rfl, hv, hw, zq, zr, k⟩ := h
    refine ⟨_, (pss_cons (ps_expr (pe_callS (ok_need_fraction T) (hr.mono (by decide)) (by rfl) T.g_need_fraction T.F_need_fraction.kp T.b_need_fraction (fun σ => passAt (takes_of rfl rfl rfl rfl) σ) (by exact (pa_cons (pv 0) pa_nil))))
    (pss_cons (ps_expr (pe_callS (ok_need_fraction T) (hr.mono (by decide)) (by rfl) T.g_need_fraction T.F_need_fraction.kp T.b_need_fraction (fun σ => passAt (takes_of rfl rfl rfl rfl) σ) (by exact (pa_cons (pv 1) pa_nil))))
    (pss_one (ps_ret (pe_callS (ok_subtracted T) (hr.mono (by decide)) (by rfl) T.g_subtracted T.F_subtracted.kp T.b_subtracted (fun σ => passAt (takes_of rfl rfl rfl rfl) σ) (by exact (pa_cons (pv 0) (pa_cons (pv 1) pa_nil)))))))), ?_⟩
    repeat walk_at "rd"
    refine ⟨v, true, rfl, hv.is, fun _ => ?_, fun z => nomatch z⟩
    repeat walk_at "rd"
    refine ⟨w, true, rfl, hw.is, fun _ => ?_, fun z => nomatch z⟩
    repeat walk_at "rd"
    exact ⟨v, w, q, r, rfl, hv, hw, zq, zr, k⟩
def sp_times (K : PySem.W.Frag) (a : Ad) : Sp := fun vs H Q E => ∃ v w q r, vs = [v, w] ∧ Fr K H v q ∧ Fr K H w r ∧ Sz 4000 q ∧ Sz 4000 r ∧ ∀ x H', Same H H' → Fr K H' x (q * r) → Q x H'
theorem ok_times (T : Txt K mg a) : FnOk P w K mg base (L2.CX P w) 5 a.f_times a.d_times ["one", "other"] (sp_times K a) := by
  refine T.F_times.okX sc_times (fun vs H Q E h => ?_) (fun cdv A outer s H vs Q E hr h => ?_)
  · obtain ⟨v, w, q, r, rfl, hv, hw, zq, zr, k⟩ := h
    rfl
  · have hu := hu64 hr
    obtain ⟨v, w, q, r, rfl, hv, hw, zq, zr, k⟩ := h
    refine ⟨_, (pss_cons (ps_expr (pe_callS (ok_need_fraction T) (hr.mono (by decide)) (by rfl) T.g_need_fraction T.F_need_fraction.kp T.b_need_fraction (fun σ => passAt (takes_of rfl rfl rfl rfl) σ) (by exact (pa_cons (pv 0) pa_nil))))
    (pss_cons (ps_expr (pe_callS (ok_need_fraction T) (hr.mono (by decide)) (by rfl) T.g_need_fraction T.F_need_fraction.kp T.b_need_fraction (fun σ => passAt (takes_of rfl rfl rfl rfl) σ) (by exact (pa_cons (pv 1) pa_nil))))
    (pss_one (ps_ret (pe_callS (ok_multiplied T) (hr.mono (by decide)) (by rfl) T.g_multiplied T.F_multiplied.kp T.b_multiplied (fun σ => passAt (takes_of rfl rfl rfl rfl) σ) (by exact (pa_cons (pv 0) (pa_cons (pv 1) pa_nil)))))))), ?_⟩
    repeat walk_at "rd"
    refine ⟨v, true, rfl, hv.is, fun _ => ?_, fun z => nomatch z⟩
    repeat walk_at "rd"
    refine ⟨w, true, rfl, hw.is, fun _ => ?_, fun z => nomatch z⟩
    repeat walk_at "rd"
    exact ⟨v, w, q, r, rfl, hv, hw, zq, zr, k⟩
def sp_over (K : PySem.W.Frag) (a : Ad) : Sp := fun vs H Q E => ∃ v w q r, vs = [v, w] ∧ Fr K H v q ∧ Fr K H w r ∧ Sz 4000 q ∧ Sz 4000 r ∧ (r = 0 → E (.ref a.C_NoFraction) none H) ∧ (r ≠ 0 → ∀ x H', Same H H' → Fr K H' x (q / r) → Q x H')
theorem ok_over (T : Txt K mg a) : FnOk P w K mg base (L2.CX P w) 6 a.f_over a.d_over ["one", "other"] (sp_over K a) := by
  refine T.F_over.okX sc_over (fun vs H Q E h => ?_) (fun cdv A outer s H vs Q E hr h => ?_)
  · obtain ⟨v, w, q, r, rfl, hv, hw, zq, zr, k0, k⟩ := h
    rfl
  · have hu := hu64 hr
    obtain ⟨v, w, q, r, rfl, hv, hw, zq, zr, k0, k⟩ := h
    refine ⟨_, (pss_cons (ps_expr (pe_callS (ok_need_fraction T) (hr.mono (by decide)) (by rfl) T.g_need_fraction T.F_need_fraction.kp T.b_need_fraction (fun σ => passAt (takes_of rfl rfl rfl rfl) σ) (by exact (pa_cons (pv 0) pa_nil))))
    (pss_cons (ps_expr (pe_callS (ok_need_factor T) (hr.mono (by decide)) (by rfl) T.g_need_factor T.F_need_factor.kp T.b_need_factor (fun σ => passAt (takes_of rfl rfl rfl rfl) σ) (by exact (pa_cons (pv 1) pa_nil))))
    (pss_one (ps_ret (pe_callS (ok_divided T) (hr.mono (by decide)) (by rfl) T.g_divided T.F_divided.kp T.b_divided (fun σ => passAt (takes_of rfl rfl rfl rfl) σ) (by exact (pa_cons (pv 0) (pa_cons (pv 1) pa_nil)))))))), ?_⟩
    repeat walk_at "rd"
    refine ⟨v, true, rfl, hv.is, fun _ => ?_, fun z => nomatch z⟩
    repeat walk_at "rd"
    refine ⟨w, rfl, .inl ⟨r, hw, fun h0 => ?_, k0⟩⟩
    repeat walk_at "rd"
    exact ⟨v, w, q, r, rfl, hv, hw, zq, zr, h0, k h0⟩
def sp_opposite (K : PySem.W.Frag) (a : Ad) : Sp := fun vs H Q E => ∃ v q, vs = [v] ∧ Fr K H v q ∧ ∀ x H', Same H H' → Fr K H' x (-q) → Q x H'
theorem ok_opposite (T : Txt K mg a) : FnOk P w K mg base (L2.CX P w) 5 a.f_opposite a.d_opposite ["one"] (sp_opposite K a) := by
  refine T.F_opposite.okX sc_opposite (fun vs H Q E h => ?_) (fun cdv A outer s H vs Q E hr h => ?_)
  · obtain ⟨v, q, rfl, hv, k⟩ := h
    rfl
  · have hu := hu64 hr
    obtain ⟨v, q, rfl, hv, k⟩ := h
    refine ⟨_, (pss_cons (ps_expr (pe_callS (ok_need_fraction T) (hr.mono (by decide)) (by rfl) T.g_need_fraction T.F_need_fraction.kp T.b_need_fraction (fun σ => passAt (takes_of rfl rfl rfl rfl) σ) (by exact (pa_cons (pv 0) pa_nil))))
    (pss_one (ps_ret (pe_callS (ok_negated T) (hr.mono (by decide)) (by rfl) T.g_negated T.F_negated.kp T.b_negated (fun σ => passAt (takes_of rfl rfl rfl rfl) σ) (by exact (pa_cons (pv 0) pa_nil)))))), ?_⟩
    repeat walk_at "rd"
    refine ⟨v, true, rfl, hv.is, fun _ => ?_, fun z => nomatch z⟩
    repeat walk_at "rd"
    exact ⟨v, q, rfl, hv, k⟩
def sp_is_below (K : PySem.W.Frag) (a : Ad) : Sp := fun vs H Q E => ∃ v w q r, vs = [v, w] ∧ Fr K H v q ∧ Fr K H w r ∧ Sz 4000 q ∧ Sz 4000 r ∧ Q (.bl (decide (q < r))) H
theorem ok_is_below (T : Txt K mg a) : FnOk P w K mg base (L2.CX P w) 5 a.f_is_below a.d_is_below ["one", "other"] (sp_is_below K a) := by
  refine T.F_is_below.okX sc_is_below (fun vs H Q E h => ?_) (fun cdv A outer s H vs Q E hr h => ?_)
  · obtain ⟨v, w, q, r, rfl, hv, hw, zq, zr, k⟩ := h
    rfl
  · have hu := hu64 hr
    obtain ⟨v, w, q, r, rfl, hv, hw, zq, zr, k⟩ := h
    refine ⟨_, (pss_cons (ps_expr (pe_callS (ok_need_fraction T) (hr.mono (by decide)) (by rfl) T.g_need_fraction T.F_need_fraction.kp T.b_need_fraction (fun σ => passAt (takes_of rfl rfl rfl rfl) σ) (by exact (pa_cons (pv 0) pa_nil))))
    (pss_cons (ps_expr (pe_callS (ok_need_fraction T) (hr.mono (by decide)) (by rfl) T.g_need_fraction T.F_need_fraction.kp T.b_need_fraction (fun σ => passAt (takes_of rfl rfl rfl rfl) σ) (by exact (pa_cons (pv 1) pa_nil))))
    (pss_one (ps_ret (pe_callS (ok_is_less T) (hr.mono (by decide)) (by rfl) T.g_is_less T.F_is_less.kp T.b_is_less (fun σ => passAt (takes_of rfl rfl rfl rfl) σ) (by exact (pa_cons (pv 0) (pa_cons (pv 1) pa_nil)))))))), ?_⟩
    repeat walk_at "rd"
    refine ⟨v, true, rfl, hv.is, fun _ => ?_, fun z => nomatch z⟩
    repeat walk_at "rd"
    refine ⟨w, true, rfl, hw.is, fun _ => ?_, fun z => nomatch z⟩
    repeat walk_at "rd"
    exact ⟨v, w, q, r, rfl, hv, hw, zq, zr, k⟩
def sp__law_cell (K : PySem.W.Frag) (a : Ad) : Sp := fun vs H Q E => ∃ (s : Addr) (i : Int) (ns : List Int), vs = [.ref s, .int i] ∧ SqL K H s (ns.map V.int) ∧ 0 ≤ i ∧ ∀ z, Q (.int z) H
theorem ok__law_cell (T : Txt K mg a) : FnOk P w K mg base (L2.CX P w) 2 a.f__law_cell a.d__law_cell ["_law_script", "_law_k"] (sp__law_cell K a) := by
  refine T.F__law_cell.okX sc__law_cell (fun vs H Q E h => ?_) (fun cdv A outer s H vs Q E hr h => ?_)
  · obtain ⟨s, i, ns, rfl, hs, h0, k⟩ := h
    rfl
  · have hu := hu64 hr
    obtain ⟨s, i, ns, rfl, hs, h0, k⟩ := h
    refine ⟨_, (pss_cons (ps_if (pt_cmpR op_lt (pv 1) (pe_callB (call_lenA K) (by rfl) T.z_len bt_len (pa_cons (pv 0) pa_nil)) (nomark _)) (pss_one (ps_ret (pe_ix (ix_any K) (pv 0) (pv 1) (fun _ _ => rfl)))) pss_nil)
    (pss_one (ps_ret pe_int))), ?_⟩
    repeat walk_at "rd"
    refine rd_lenL hs ?_
    repeat walk_at "rd"
    by_cases hi : i < ((ns.map V.int).length : Int)
    · refine iteP (decide_eq_true hi) ?_
      rw [List.length_map] at hi
      repeat walk_at "rd"
      refine rd_ixSL hs (v := .int (ns[i.toNat]'(by omega))) ?_ ?_
      · refine at_of (j := i.toNat) (by omega) ?_
        rw [List.getElem?_map, List.getElem?_eq_getElem (by omega)]
        rfl
      · exact k _
    · refine iteN (decide_eq_false hi) ?_
      repeat walk_at "rd"
      exact k _
def sp__law_pot (K : PySem.W.Frag) (a : Ad) : Sp := fun vs H Q E => ∃ c : Int, vs = [.int c] ∧ ∀ p H', H p = none → Same H H' → PotAt H' p → Q (.ref p) H'
theorem ok__law_pot (T : Txt K mg a) : FnOk P w K mg base (L2.CX P w) 2 a.f__law_pot a.d__law_pot ["_law_cell_here"] (sp__law_pot K a) := by
  refine T.F__law_pot.okX sc__law_pot (fun vs H Q E h => ?_) (fun cdv A outer s H vs Q E hr h => ?_)
  · obtain ⟨c, rfl, k⟩ := h
    rfl
  · have hu := hu64 hr
    obtain ⟨c, rfl, k⟩ := h
    refine ⟨_, (pss_one (ps_ret (pe_lst (pa_cons (pe_callB (call_max2 rfl) (by rfl) T.z_max bt_max (pa_cons pe_int (pa_cons (pe_op op_sub (pe_callB (call_abs) (by rfl) T.z_abs bt_abs (pa_cons (pv 0) pa_nil)) (pe_op op_pow pe_int pe_int)) pa_nil))) (pa_cons (pe_op (op_addA K) (pe_op op_mod (pe_callB (call_abs) (by rfl) T.z_abs bt_abs (pa_cons (pv 0) pa_nil)) pe_int) pe_int) pa_nil))))), ?_⟩
    repeat walk_at "rd"
    refine rd_pow ⟨by decide, by decide, by decide⟩ ?_
    repeat walk_at "rd"
    refine rd_mk le2 fun p H1 hp s1 hx => ?_
    refine k p H1 hp s1 ⟨_, _, hx, ?_, ?_, ?_⟩
    · split <;> omega
    · omega
    · omega
def sp__law_draw (K : PySem.W.Frag) (a : Ad) : Sp := fun vs H Q E => ∃ (p : Addr) (m : Int), vs = [.ref p, .int m] ∧ PotAt H p ∧ (0 < m ∧ m.natAbs < 2 ^ 8990) ∧ ∀ d H', 0 ≤ d → d < m → Kp p H H' → Q (.int d) H'
theorem ok__law_draw (T : Txt K mg a) : FnOk P w K mg base (L2.CX P w) 2 a.f__law_draw a.d__law_draw ["_law_pot_here", "_law_many"] (sp__law_draw K a) := by
  refine T.F__law_draw.okX sc__law_draw (fun vs H Q E h => ?_) (fun cdv A outer s H vs Q E hr h => ?_)
  · obtain ⟨p, m, rfl, hp, ⟨hm, hm2⟩, k⟩ := h
    rfl
  · have hu := hu64 hr
    obtain ⟨p, m, rfl, hp, ⟨hm, hm2⟩, k⟩ := h
    refine ⟨_, (pss_cons (ps_if (pt_cmpR op_gt (pe_ix (ix_any K) (pv 0) pe_int (fun _ _ => rfl)) pe_int (nomark _)) (pss_cons (ps_asg (pe_callB (call_divmodN) (by rfl) T.z_divmod bt_divmod (pa_cons (pe_ix (ix_any K) (pv 0) pe_int (fun _ _ => rfl)) (pa_cons (pv 1) pa_nil))) (my_gtup K 2 rfl (pgs_cons (pg_sub (pv 0) pe_int set_list) (pgs_cons (pg_name (i := 2) sc__law_draw.nd rfl (by first | exact Or.inl rfl | exact Or.inr rfl)) pgs_nil))))
    (pss_one (ps_ret (pv 2)))) pss_nil)
    (pss_cons (ps_asg (pe_op op_mod (pe_op (op_addA K) (pe_op op_mulW (pe_ix (ix_any K) (pv 0) pe_int (fun _ _ => rfl)) pe_int) pe_int) pe_int) (pg_sub (pv 0) pe_int set_list))
    (pss_one (ps_ret (pe_op op_mod (pe_op op_fdivX (pe_op op_mod (pe_op op_mulW (pe_ix (ix_any K) (pv 0) pe_int (fun _ _ => rfl)) (pe_ix (ix_any K) (pv 0) pe_int (fun _ _ => rfl))) pe_int) pe_int) (pv 1)))))), ?_⟩
    obtain ⟨x, y, hx, h0, h1, h2⟩ := id hp
    repeat walk_at "rd"
    refine rd_ixL hx rfl ?_
    repeat walk_at "rd"
    by_cases hg : 0 < x
    · refine iteP (decide_eq_true hg) ?_
      repeat walk_at "rd"
      refine rd_ixL hx rfl ?_
      repeat walk_at "rd"
      refine rd_divmod ⟨hm, npl hm2 (by decide) (by decide)⟩ fun q H1 hq s1 hq1 => ?_
      refine rd_gtup (SqT.of hq1) rfl ?_
      repeat walk_at "rd"
      refine rd_setL (s1 _ _ hx) rfl ?_
      repeat walk_at "rd"
      have r := mod_rng (i := x) hm
      exact k _ _ r.1 r.2 ((Kp.of s1 hp).trans (pot_write (hp.up s1) (Int.ediv_nonneg h0 (by omega)) h1 h2))
    · refine iteN (decide_eq_false hg) ?_
      repeat walk_at "rd"
      refine rd_ixL hx rfl ?_
      repeat walk_at "rd"
      refine rd_mul (cm (n := 32) (m := 32) (by omega) (by decide)) ?_
      repeat walk_at "rd"
      refine rd_setL hx rfl ?_
      repeat walk_at "rd"
      have r1 := mod_rng (i := y * 48271 + 11) (j := 2147483647) (by decide)
      refine rd_ixL upd_same rfl ?_
      repeat walk_at "rd"
      refine rd_ixL upd_same rfl ?_
      refine rd_mul (cm (n := 32) (m := 32) (by omega) (by omega)) ?_
      repeat walk_at "rd"
      refine rd_fd (n := 8) (by decide) (by decide) ?_
      repeat walk_at "rd"
      have r := mod_rng (i := ((y * 48271 + 11) % 2147483647 * ((y * 48271 + 11) % 2147483647) % 2147483629).fdiv 3) hm
      exact k _ _ r.1 r.2 (pot_write hp h0 r1.1 (by omega))
def sp__law_great (K : PySem.W.Frag) (a : Ad) : Sp := fun vs H Q E => ∃ (p : Addr) (m : Int), vs = [.ref p, .int m] ∧ PotAt H p ∧ (0 < m ∧ m.natAbs < 2 ^ 8990) ∧ ∀ d H', 0 ≤ d → d < m → Kp p H H' → Q (.int d) H'
theorem ok__law_great (T : Txt K mg a) : FnOk P w K mg base (L2.CX P w) 3 a.f__law_great a.d__law_great ["_law_pot_here", "_law_many"] (sp__law_great K a) := by
  refine T.F__law_great.okX sc__law_great (fun vs H Q E h => ?_) (fun cdv A outer s H vs Q E hr h => ?_)
  · obtain ⟨p, m, rfl, hp, ⟨hm, hm2⟩, k⟩ := h
    rfl
  · have hu := hu64 hr
    obtain ⟨p, m, rfl, hp, ⟨hm, hm2⟩, k⟩ := h
    refine ⟨_, (pss_cons (ps_if (pt_cmpR op_gt (pe_ix (ix_any K) (pv 0) pe_int (fun _ _ => rfl)) pe_int (nomark _)) (pss_one (ps_ret (pe_callS (ok__law_draw T) (hr.mono (by decide)) (by rfl) T.g__law_draw T.F__law_draw.kp T.b__law_draw (fun σ => passAt (takes_of rfl rfl rfl rfl) σ) (by exact (pa_cons (pv 0) (pa_cons (pv 1) pa_nil)))))) pss_nil)
    (pss_cons (ps_set (i := 2) sc__law_great.nd rfl (by first | exact Or.inl rfl | exact Or.inr rfl) pe_int)
    (pss_cons (ps_for (passes_of rfl) rfl (pi_range1 (by rfl) T.z_range (pa_cons pe_int pa_nil)) (pg_name (i := 3) sc__law_great.nd rfl (by first | exact Or.inl rfl | exact Or.inr rfl)) (pss_one (ps_set (i := 2) sc__law_great.nd rfl (by first | exact Or.inl rfl | exact Or.inr rfl) (pe_op (op_addA K) (pe_op op_mulW (pv 2) pe_int) (pe_callS (ok__law_draw T) (hr.mono (by decide)) (by rfl) T.g__law_draw T.F__law_draw.kp T.b__law_draw (fun σ => passAt (takes_of rfl rfl rfl rfl) σ) (by exact (pa_cons (pv 0) (pa_cons pe_int pa_nil))))))))
    (pss_one (ps_ret (pe_op op_mod (pv 2) (pv 1))))))), ?_⟩
    obtain ⟨x, y, hx, h0, h1, h2⟩ := id hp
    repeat walk_at "rd"
    refine rd_ixL hx rfl ?_
    repeat walk_at "rd"
    by_cases hg : 0 < x
    · refine iteP (decide_eq_true hg) ?_
      repeat walk_at "rd"
      exact ⟨p, m, rfl, hp, ⟨hm, hm2⟩, k⟩
    · refine iteN (decide_eq_false hg) ?_
      repeat walk_at "rd"
      refine ⟨by decide, by decide, ?_⟩
      refine for_range (n := 7) (fun i σ H' => ∃ (f : Int) (v : Option V), σ = [some (.ref p), some (.int m), some (.int f), v] ∧ Kp p H H' ∧ f.natAbs < 2 ^ (32 * i + 1)) ⟨0, none, rfl, Kp.refl hp, by decide⟩ ?_ ?_
      · rintro i σ H1 hi ⟨f, v, rfl, kp, hf⟩
        repeat walk_at "rd"
        refine rd_mul (cm hf (m := 32) (by decide) (by omega) (by decide) (by omega)) ?_
        repeat walk_at "rd"
        refine ⟨p, _, rfl, kp.new, ⟨by decide, by decide⟩, fun d H2 d0 d1 k2 => ?_⟩
        repeat walk_at "rd"
        refine ⟨_, _, rfl, kp.trans k2, great_step hf d0 d1⟩
      · rintro σ H1 ⟨f, v, rfl, kp, hf⟩
        repeat walk_at "rd"
        have r := mod_rng (i := f) hm
        exact k _ _ r.1 r.2 kp
def sp__law_low (K : PySem.W.Frag) (a : Ad) : Sp := fun vs H Q E => ∃ t b : Int, vs = [.int t, .int b] ∧ (b ≠ 0 ∧ b.natAbs < 2 ^ 8990) ∧ ∀ v H', Same H H' → FrT H' v (Rat.divInt t b) → Q v H'
theorem ok__law_low (T : Txt K mg a) : FnOk P w K mg base (L2.CX P w) 2 a.f__law_low a.d__law_low ["_law_top", "_law_bottom"] (sp__law_low K a) := by
  refine T.F__law_low.okX sc__law_low (fun vs H Q E h => ?_) (fun cdv A outer s H vs Q E hr h => ?_)
  · obtain ⟨t, b, rfl, ⟨hb, hs⟩, k⟩ := h
    rfl
  · have hu := hu64 hr
    obtain ⟨t, b, rfl, ⟨hb, hs⟩, k⟩ := h
    refine ⟨_, (pss_cons (ps_par (i := 2) (j := 3) rfl sc__law_low.nd rfl rfl (by decide) rfl rfl (pa_cons (pe_callB (call_abs) (by rfl) T.z_abs bt_abs (pa_cons (pv 0) pa_nil)) (pa_cons (pe_callB (call_abs) (by rfl) T.z_abs bt_abs (pa_cons (pv 1) pa_nil)) pa_nil)) rfl)
    (pss_cons (ps_while (passes_of rfl) (pt_cmpR op_gt (pv 3) pe_int (nomark _)) (pss_one (ps_par (i := 2) (j := 3) rfl sc__law_low.nd rfl rfl (by decide) rfl rfl (pa_cons (pv 3) (pa_cons (pe_op op_mod (pv 2) (pv 3)) pa_nil)) rfl)))
    (pss_cons (ps_if (pt_cmpR op_lt (pv 1) pe_int (nomark _)) (pss_one (ps_set (i := 2) sc__law_low.nd rfl (by first | exact Or.inl rfl | exact Or.inr rfl) (pe_un un_neg (pv 2)))) pss_nil)
    (pss_one (ps_ret (pe_tup (pa_cons (pe_op op_fdivX (pv 0) (pv 2)) (pa_cons (pe_op op_fdivX (pv 1) (pv 2)) pa_nil)))))))), ?_⟩
    repeat walk_at "rd"
    refine ⟨fun m σ H1 => ∃ x y : Int, σ = [some (.int t), some (.int b), some (.int x), some (.int y)] ∧ H1 = H ∧ 0 ≤ x ∧ 0 ≤ y ∧ x.natAbs.gcd y.natAbs = t.natAbs.gcd b.natAbs ∧ m = y.natAbs, ⟨_, _, _, rfl, rfl, abs_nn t, abs_nn b, by rw [abs_na, abs_na], rfl⟩, ?_⟩
    rintro m σ H1 ⟨x, y, rfl, rfl, hx, hy, hg, rfl⟩
    repeat walk_at "rd"
    by_cases h : 0 < y
    · refine iteP (decide_eq_true h) ?_
      refine ⟨_, fun σ' H' z => z, ?_⟩
      repeat walk_at "rd"
      exact ⟨_, (mod_less h), _, _, rfl, rfl, hy, (mod_rng h).1, (euclid h hx).trans hg, rfl⟩
    · refine iteN (decide_eq_false h) ?_
      have y0 : y = 0 := by omega
      subst y0
      have e : x = ((t.natAbs.gcd b.natAbs : Nat) : Int) := by
        rw [← hg]
        show x = ((x.natAbs.gcd 0 : Nat) : Int)
        rw [Nat.gcd_zero_right]; omega
      subst e
      repeat walk_at "rd"
      by_cases hn : b < 0
      · refine iteP (decide_eq_true hn) ?_
        have e := dv_of_neg (t := t) hn
        repeat walk_at "rd"
        rw [e]
        refine rd_fd (dv_ne hb) (dv_lt hb hs) ?_
        repeat walk_at "rd"
        refine rd_fd (dv_ne hb) (dv_lt hb hs) ?_
        repeat walk_at "rd"
        refine rd_mk le2 fun p H1 hp s1 hx => ?_
        rw [num_dv hb, den_dv hb] at hx
        exact k _ _ s1 ⟨p, rfl, hx⟩
      · refine iteN (decide_eq_false hn) ?_
        have e := dv_of_pos (t := t) hn
        repeat walk_at "rd"
        rw [e]
        refine rd_fd (dv_ne hb) (dv_lt hb hs) ?_
        repeat walk_at "rd"
        refine rd_fd (dv_ne hb) (dv_lt hb hs) ?_
        repeat walk_at "rd"
        refine rd_mk le2 fun p H1 hp s1 hx => ?_
        rw [num_dv hb, den_dv hb] at hx
        exact k _ _ s1 ⟨p, rfl, hx⟩
def sp__law_plus (K : PySem.W.Frag) (a : Ad) : Sp := fun vs H Q E => ∃ v w q r, vs = [v, w] ∧ Fr K H v q ∧ Fr K H w r ∧ Sz 4000 q ∧ Sz 4000 r ∧ ∀ x H', Same H H' → Fr K H' x (q + r) → Q x H'
theorem ok__law_plus (T : Txt K mg a) : FnOk P w K mg base (L2.CX P w) 3 a.f__law_plus a.d__law_plus ["_law_one_here", "_law_other"] (sp__law_plus K a) := by
  refine T.F__law_plus.okX sc__law_plus (fun vs H Q E h => ?_) (fun cdv A outer s H vs Q E hr h => ?_)
  · obtain ⟨v, w, q, r, rfl, hv, hw, zq, zr, k⟩ := h
    rfl
  · have hu := hu64 hr
    obtain ⟨v, w, q, r, rfl, hv, hw, zq, zr, k⟩ := h
    refine ⟨_, (pss_one (ps_ret (pe_callS (ok__law_low T) (hr.mono (by decide)) (by rfl) T.g__law_low T.F__law_low.kp T.b__law_low (fun σ => passAt (takes_of rfl rfl rfl rfl) σ) (by exact (pa_cons (pe_op (op_addA K) (pe_op op_mulW (pe_ix (ix_any K) (pv 0) pe_int (fun _ _ => rfl)) (pe_ix (ix_any K) (pv 1) pe_int (fun _ _ => rfl))) (pe_op op_mulW (pe_ix (ix_any K) (pv 1) pe_int (fun _ _ => rfl)) (pe_ix (ix_any K) (pv 0) pe_int (fun _ _ => rfl)))) (pa_cons (pe_op op_mulW (pe_ix (ix_any K) (pv 0) pe_int (fun _ _ => rfl)) (pe_ix (ix_any K) (pv 1) pe_int (fun _ _ => rfl))) pa_nil)))))), ?_⟩
    repeat walk_at "rd"
    refine rd_mul (cm (Sz.cn zq) (Sz.cd zr)) ?_
    repeat walk_at "rd"
    refine rd_mul (cm (Sz.cn zr) (Sz.cd zq)) ?_
    repeat walk_at "rd"
    refine rd_mul (cm (Sz.cd zq) (Sz.cd zr)) ?_
    repeat walk_at "rd"
    refine ⟨_, _, rfl, ⟨Int.mul_ne_zero (den_ne q) (den_ne r), dd_lt zq zr⟩, fun x H1 s1 hx => ?_⟩
    rw [add_as] at hx
    exact k x H1 s1 hx.fr
def sp__law_less (K : PySem.W.Frag) (a : Ad) : Sp := fun vs H Q E => ∃ v w q r, vs = [v, w] ∧ Fr K H v q ∧ Fr K H w r ∧ Sz 4000 q ∧ Sz 4000 r ∧ ∀ x H', Same H H' → Fr K H' x (q - r) → Q x H'
theorem ok__law_less (T : Txt K mg a) : FnOk P w K mg base (L2.CX P w) 3 a.f__law_less a.d__law_less ["_law_one_here", "_law_other"] (sp__law_less K a) := by
  refine T.F__law_less.okX sc__law_less (fun vs H Q E h => ?_) (fun cdv A outer s H vs Q E hr h => ?_)
  · obtain ⟨v, w, q, r, rfl, hv, hw, zq, zr, k⟩ := h
    rfl
  · have hu := hu64 hr
    obtain ⟨v, w, q, r, rfl, hv, hw, zq, zr, k⟩ := h
    refine ⟨_, (pss_one (ps_ret (pe_callS (ok__law_low T) (hr.mono (by decide)) (by rfl) T.g__law_low T.F__law_low.kp T.b__law_low (fun σ => passAt (takes_of rfl rfl rfl rfl) σ) (by exact (pa_cons (pe_op op_sub (pe_op op_mulW (pe_ix (ix_any K) (pv 0) pe_int (fun _ _ => rfl)) (pe_ix (ix_any K) (pv 1) pe_int (fun _ _ => rfl))) (pe_op op_mulW (pe_ix (ix_any K) (pv 1) pe_int (fun _ _ => rfl)) (pe_ix (ix_any K) (pv 0) pe_int (fun _ _ => rfl)))) (pa_cons (pe_op op_mulW (pe_ix (ix_any K) (pv 0) pe_int (fun _ _ => rfl)) (pe_ix (ix_any K) (pv 1) pe_int (fun _ _ => rfl))) pa_nil)))))), ?_⟩
    repeat walk_at "rd"
    refine rd_mul (cm (Sz.cn zq) (Sz.cd zr)) ?_
    repeat walk_at "rd"
    refine rd_mul (cm (Sz.cn zr) (Sz.cd zq)) ?_
    repeat walk_at "rd"
    refine rd_mul (cm (Sz.cd zq) (Sz.cd zr)) ?_
    repeat walk_at "rd"
    refine ⟨_, _, rfl, ⟨Int.mul_ne_zero (den_ne q) (den_ne r), dd_lt zq zr⟩, fun x H1 s1 hx => ?_⟩
    rw [sub_as] at hx
    exact k x H1 s1 hx.fr
def sp__law_times (K : PySem.W.Frag) (a : Ad) : Sp := fun vs H Q E => ∃ v w q r, vs = [v, w] ∧ Fr K H v q ∧ Fr K H w r ∧ Sz 4000 q ∧ Sz 4000 r ∧ ∀ x H', Same H H' → Fr K H' x (q * r) → Q x H'
theorem ok__law_times (T : Txt K mg a) : FnOk P w K mg base (L2.CX P w) 3 a.f__law_times a.d__law_times ["_law_one_here", "_law_other"] (sp__law_times K a) := by
  refine T.F__law_times.okX sc__law_times (fun vs H Q E h => ?_) (fun cdv A outer s H vs Q E hr h => ?_)
  · obtain ⟨v, w, q, r, rfl, hv, hw, zq, zr, k⟩ := h
    rfl
  · have hu := hu64 hr
    obtain ⟨v, w, q, r, rfl, hv, hw, zq, zr, k⟩ := h
    refine ⟨_, (pss_one (ps_ret (pe_callS (ok__law_low T) (hr.mono (by decide)) (by rfl) T.g__law_low T.F__law_low.kp T.b__law_low (fun σ => passAt (takes_of rfl rfl rfl rfl) σ) (by exact (pa_cons (pe_op op_mulW (pe_ix (ix_any K) (pv 0) pe_int (fun _ _ => rfl)) (pe_ix (ix_any K) (pv 1) pe_int (fun _ _ => rfl))) (pa_cons (pe_op op_mulW (pe_ix (ix_any K) (pv 0) pe_int (fun _ _ => rfl)) (pe_ix (ix_any K) (pv 1) pe_int (fun _ _ => rfl))) pa_nil)))))), ?_⟩
    repeat walk_at "rd"
    refine rd_mul (cm (Sz.cn zq) (Sz.cn zr)) ?_
    repeat walk_at "rd"
    refine rd_mul (cm (Sz.cd zq) (Sz.cd zr)) ?_
    repeat walk_at "rd"
    refine ⟨_, _, rfl, ⟨Int.mul_ne_zero (den_ne q) (den_ne r), dd_lt zq zr⟩, fun x H1 s1 hx => ?_⟩
    rw [mul_as] at hx
    exact k x H1 s1 hx.fr
def sp__law_over (K : PySem.W.Frag) (a : Ad) : Sp := fun vs H Q E => ∃ v w q r, vs = [v, w] ∧ Fr K H v q ∧ Fr K H w r ∧ Sz 4000 q ∧ Sz 4000 r ∧ r ≠ 0 ∧ ∀ x H', Same H H' → Fr K H' x (q / r) → Q x H'
theorem ok__law_over (T : Txt K mg a) : FnOk P w K mg base (L2.CX P w) 3 a.f__law_over a.d__law_over ["_law_one_here", "_law_other"] (sp__law_over K a) := by
  refine T.F__law_over.okX sc__law_over (fun vs H Q E h => ?_) (fun cdv A outer s H vs Q E hr h => ?_)
  · obtain ⟨v, w, q, r, rfl, hv, hw, zq, zr, hr0, k⟩ := h
    rfl
  · have hu := hu64 hr
    obtain ⟨v, w, q, r, rfl, hv, hw, zq, zr, hr0, k⟩ := h
    refine ⟨_, (pss_one (ps_ret (pe_callS (ok__law_low T) (hr.mono (by decide)) (by rfl) T.g__law_low T.F__law_low.kp T.b__law_low (fun σ => passAt (takes_of rfl rfl rfl rfl) σ) (by exact (pa_cons (pe_op op_mulW (pe_ix (ix_any K) (pv 0) pe_int (fun _ _ => rfl)) (pe_ix (ix_any K) (pv 1) pe_int (fun _ _ => rfl))) (pa_cons (pe_op op_mulW (pe_ix (ix_any K) (pv 0) pe_int (fun _ _ => rfl)) (pe_ix (ix_any K) (pv 1) pe_int (fun _ _ => rfl))) pa_nil)))))), ?_⟩
    repeat walk_at "rd"
    refine rd_mul (cm (Sz.cn zq) (Sz.cd zr)) ?_
    repeat walk_at "rd"
    refine rd_mul (cm (Sz.cd zq) (Sz.cn zr)) ?_
    repeat walk_at "rd"
    refine ⟨_, _, rfl, ⟨Int.mul_ne_zero (den_ne q) (num_ne hr0), dn_lt zq zr⟩, fun x H1 s1 hx => ?_⟩
    rw [div_as] at hx
    exact k x H1 s1 hx.fr
def sp__law_below (K : PySem.W.Frag) (a : Ad) : Sp := fun vs H Q E => ∃ v w q r, vs = [v, w] ∧ Fr K H v q ∧ Fr K H w r ∧ Sz 4000 q ∧ Sz 4000 r ∧ Q (.bl (decide (q < r))) H
theorem ok__law_below (T : Txt K mg a) : FnOk P w K mg base (L2.CX P w) 2 a.f__law_below a.d__law_below ["_law_one_here", "_law_other"] (sp__law_below K a) := by
  refine T.F__law_below.okX sc__law_below (fun vs H Q E h => ?_) (fun cdv A outer s H vs Q E hr h => ?_)
  · obtain ⟨v, w, q, r, rfl, hv, hw, zq, zr, k⟩ := h
    rfl
  · have hu := hu64 hr
    obtain ⟨v, w, q, r, rfl, hv, hw, zq, zr, k⟩ := h
    refine ⟨_, (pss_one (ps_ret (pe_cmpR op_lt (pe_op op_mulW (pe_ix (ix_any K) (pv 0) pe_int (fun _ _ => rfl)) (pe_ix (ix_any K) (pv 1) pe_int (fun _ _ => rfl))) (pe_op op_mulW (pe_ix (ix_any K) (pv 1) pe_int (fun _ _ => rfl)) (pe_ix (ix_any K) (pv 0) pe_int (fun _ _ => rfl))) (nomark _)))), ?_⟩
    repeat walk_at "rd"
    refine rd_mul (cm (Sz.cn zq) (Sz.cd zr)) ?_
    repeat walk_at "rd"
    refine rd_mul (cm (Sz.cn zr) (Sz.cd zq)) ?_
    repeat walk_at "rd"
    rw [lt_as]
    exact k
def sp__law_small (K : PySem.W.Frag) (a : Ad) : Sp := fun vs H Q E => ∃ (p : Addr), vs = [.ref p] ∧ PotAt H p ∧ ∀ v q H', Kp p H H' → FrT H' v q → Sz 200 q → Q v H'
theorem ok__law_small (T : Txt K mg a) : FnOk P w K mg base (L2.CX P w) 3 a.f__law_small a.d__law_small ["_law_pot_here"] (sp__law_small K a) := by
  refine T.F__law_small.okX sc__law_small (fun vs H Q E h => ?_) (fun cdv A outer s H vs Q E hr h => ?_)
  · obtain ⟨p, rfl, hp, k⟩ := h
    rfl
  · have hu := hu64 hr
    obtain ⟨p, rfl, hp, k⟩ := h
    refine ⟨_, (pss_one (ps_ret (pe_callS (ok__law_low T) (hr.mono (by decide)) (by rfl) T.g__law_low T.F__law_low.kp T.b__law_low (fun σ => passAt (takes_of rfl rfl rfl rfl) σ) (by exact (pa_cons (pe_op op_sub (pe_callS (ok__law_draw T) (hr.mono (by decide)) (by rfl) T.g__law_draw T.F__law_draw.kp T.b__law_draw (fun σ => passAt (takes_of rfl rfl rfl rfl) σ) (by exact (pa_cons (pv 0) (pa_cons pe_int pa_nil)))) pe_int) (pa_cons (pe_op (op_addA K) pe_int (pe_callS (ok__law_draw T) (hr.mono (by decide)) (by rfl) T.g__law_draw T.F__law_draw.kp T.b__law_draw (fun σ => passAt (takes_of rfl rfl rfl rfl) σ) (by exact (pa_cons (pv 0) (pa_cons pe_int pa_nil))))) pa_nil)))))), ?_⟩
    repeat walk_at "rd"
    refine ⟨p, _, rfl, hp, ⟨by decide, by decide +kernel⟩, fun d1 H1 a0 a1 k1 => ?_⟩
    repeat walk_at "rd"
    refine ⟨p, _, rfl, k1.new, ⟨by decide, by decide +kernel⟩, fun d2 H2 b0 b1 k2 => ?_⟩
    repeat walk_at "rd"
    refine ⟨_, _, rfl, ⟨by omega, pow_up (n := 8) (by omega) (by decide)⟩, fun v H3 s3 hv => ?_⟩
    exact k v _ H3 ((k1.trans k2).tos s3) hv (Sz.div (by omega) (pow_up (n := 8) (by omega) (by decide)) (pow_up (n := 8) (by omega) (by decide)))
def sp__law_far (K : PySem.W.Frag) (a : Ad) : Sp := fun vs H Q E => ∃ (p : Addr), vs = [.ref p] ∧ PotAt H p ∧ ∀ v q H', Kp p H H' → FrT H' v q → Sz 200 q → Q v H'
theorem ok__law_far (T : Txt K mg a) : FnOk P w K mg base (L2.CX P w) 4 a.f__law_far a.d__law_far ["_law_pot_here"] (sp__law_far K a) := by
  refine T.F__law_far.okX sc__law_far (fun vs H Q E h => ?_) (fun cdv A outer s H vs Q E hr h => ?_)
  · obtain ⟨p, rfl, hp, k⟩ := h
    rfl
  · have hu := hu64 hr
    obtain ⟨p, rfl, hp, k⟩ := h
    refine ⟨_, (pss_one (ps_ret (pe_callS (ok__law_low T) (hr.mono (by decide)) (by rfl) T.g__law_low T.F__law_low.kp T.b__law_low (fun σ => passAt (takes_of rfl rfl rfl rfl) σ) (by exact (pa_cons (pe_op (op_addA K) (pe_op op_sub (pe_callS (ok__law_great T) (hr.mono (by decide)) (by rfl) T.g__law_great T.F__law_great.kp T.b__law_great (fun σ => passAt (takes_of rfl rfl rfl rfl) σ) (by exact (pa_cons (pv 0) (pa_cons (pe_op op_sub (pe_op op_mulW pe_int (pe_op op_pow pe_int pe_int)) pe_int) pa_nil)))) (pe_op op_pow pe_int pe_int)) pe_int) (pa_cons (pe_op (op_addA K) pe_int (pe_callS (ok__law_great T) (hr.mono (by decide)) (by rfl) T.g__law_great T.F__law_great.kp T.b__law_great (fun σ => passAt (takes_of rfl rfl rfl rfl) σ) (by exact (pa_cons (pv 0) (pa_cons (pe_op op_sub (pe_op op_pow pe_int pe_int) pe_int) pa_nil))))) pa_nil)))))), ?_⟩
    repeat walk_at "rd"
    refine rd_pow ⟨by decide, by decide, by decide⟩ ?_
    refine rd_mul (cm (n := 8) (m := 256) (by decide) (by rw [p59]; decide +kernel)) ?_
    repeat walk_at "rd"
    refine ⟨p, _, rfl, hp, ⟨by rw [p59]; decide +kernel, by rw [p59]; exact pow_up (n := 256) (by decide +kernel) (by decide)⟩, fun d1 H1 a0 a1 k1 => ?_⟩
    rw [p59] at a1
    repeat walk_at "rd"
    refine rd_pow ⟨by decide, by decide, by decide⟩ ?_
    repeat walk_at "rd"
    rw [p59]
    refine rd_pow ⟨by decide, by decide, by decide⟩ ?_
    repeat walk_at "rd"
    rw [p59]
    refine ⟨p, _, rfl, k1.new, ⟨by decide +kernel, pow_up (n := 256) (by decide +kernel) (by decide)⟩, fun d2 H2 b0 b1 k2 => ?_⟩
    repeat walk_at "rd"
    refine ⟨_, _, rfl, ⟨by omega, pow_up (n := 199) (by omega) (by decide)⟩, fun v H3 s3 hv => ?_⟩
    exact k v _ H3 ((k1.trans k2).tos s3) hv (Sz.div (by omega) (pow_up (n := 199) (by omega) (by decide)) (pow_up (n := 199) (by omega) (by decide)))
def sp__law_one (K : PySem.W.Frag) (a : Ad) : Sp := fun vs H Q E => ∃ (p : Addr), vs = [.ref p] ∧ PotAt H p ∧ ∀ v q H', Kp p H H' → FrT H' v q → Sz 200 q → Q v H'
theorem ok__law_one (T : Txt K mg a) : FnOk P w K mg base (L2.CX P w) 5 a.f__law_one a.d__law_one ["_law_pot_here"] (sp__law_one K a) := by
  refine T.F__law_one.okX sc__law_one (fun vs H Q E h => ?_) (fun cdv A outer s H vs Q E hr h => ?_)
  · obtain ⟨p, rfl, hp, k⟩ := h
    rfl
  · have hu := hu64 hr
    obtain ⟨p, rfl, hp, k⟩ := h
    refine ⟨_, (pss_cons (ps_if (pt_cmpR (op_eqA K (by exact hu)) (pe_callS (ok__law_draw T) (hr.mono (by decide)) (by rfl) T.g__law_draw T.F__law_draw.kp T.b__law_draw (fun σ => passAt (takes_of rfl rfl rfl rfl) σ) (by exact (pa_cons (pv 0) (pa_cons pe_int pa_nil)))) pe_int (nomark _)) (pss_one (ps_ret (pe_callS (ok__law_small T) (hr.mono (by decide)) (by rfl) T.g__law_small T.F__law_small.kp T.b__law_small (fun σ => passAt (takes_of rfl rfl rfl rfl) σ) (by exact (pa_cons (pv 0) pa_nil))))) pss_nil)
    (pss_one (ps_ret (pe_callS (ok__law_far T) (hr.mono (by decide)) (by rfl) T.g__law_far T.F__law_far.kp T.b__law_far (fun σ => passAt (takes_of rfl rfl rfl rfl) σ) (by exact (pa_cons (pv 0) pa_nil)))))), ?_⟩
    repeat walk_at "rd"
    refine ⟨p, _, rfl, hp, ⟨by decide, by decide +kernel⟩, fun d1 H1 a0 a1 k1 => ?_⟩
    repeat walk_at "rd"
    by_cases h : d1 = 0
    · refine iteP (decide_eq_true h) ?_
      repeat walk_at "rd"
      exact ⟨p, rfl, k1.new, fun v q H2 k2 hv z => k v q H2 (k1.trans k2) hv z⟩
    · refine iteN (decide_eq_false h) ?_
      repeat walk_at "rd"
      exact ⟨p, rfl, k1.new, fun v q H2 k2 hv z => k v q H2 (k1.trans k2) hv z⟩
def sp__law_number (K : PySem.W.Frag) (a : Ad) : Sp := fun vs H Q E => ∃ (p : Addr), vs = [.ref p] ∧ PotAt H p ∧ ∀ z H', Kp p H H' → z.natAbs < 2 ^ 220 → Q (.int z) H'
theorem ok__law_number (T : Txt K mg a) : FnOk P w K mg base (L2.CX P w) 4 a.f__law_number a.d__law_number ["_law_pot_here"] (sp__law_number K a) := by
  refine T.F__law_number.okX sc__law_number (fun vs H Q E h => ?_) (fun cdv A outer s H vs Q E hr h => ?_)
  · obtain ⟨p, rfl, hp, k⟩ := h
    rfl
  · have hu := hu64 hr
    obtain ⟨p, rfl, hp, k⟩ := h
    refine ⟨_, (pss_cons (ps_if (pt_cmpR (op_eqA K (by exact hu)) (pe_callS (ok__law_draw T) (hr.mono (by decide)) (by rfl) T.g__law_draw T.F__law_draw.kp T.b__law_draw (fun σ => passAt (takes_of rfl rfl rfl rfl) σ) (by exact (pa_cons (pv 0) (pa_cons pe_int pa_nil)))) pe_int (nomark _)) (pss_one (ps_ret (pe_op op_sub (pe_callS (ok__law_draw T) (hr.mono (by decide)) (by rfl) T.g__law_draw T.F__law_draw.kp T.b__law_draw (fun σ => passAt (takes_of rfl rfl rfl rfl) σ) (by exact (pa_cons (pv 0) (pa_cons pe_int pa_nil)))) pe_int))) pss_nil)
    (pss_one (ps_ret (pe_op (op_addA K) (pe_op op_sub (pe_callS (ok__law_great T) (hr.mono (by decide)) (by rfl) T.g__law_great T.F__law_great.kp T.b__law_great (fun σ => passAt (takes_of rfl rfl rfl rfl) σ) (by exact (pa_cons (pv 0) (pa_cons (pe_op op_sub (pe_op op_mulW pe_int (pe_op op_pow pe_int pe_int)) pe_int) pa_nil)))) (pe_op op_pow pe_int pe_int)) pe_int)))), ?_⟩
    repeat walk_at "rd"
    refine ⟨p, _, rfl, hp, ⟨by decide, by decide +kernel⟩, fun d1 H1 a0 a1 k1 => ?_⟩
    repeat walk_at "rd"
    by_cases h : d1 = 0
    · refine iteP (decide_eq_true h) ?_
      repeat walk_at "rd"
      refine ⟨p, _, rfl, k1.new, ⟨by decide, by decide +kernel⟩, fun d2 H2 b0 b1 k2 => ?_⟩
      repeat walk_at "rd"
      exact k _ _ (k1.trans k2) (pow_up (n := 8) (by omega) (by decide))
    · refine iteN (decide_eq_false h) ?_
      repeat walk_at "rd"
      refine rd_pow ⟨by decide, by decide, by decide⟩ ?_
      refine rd_mul (cm (n := 8) (m := 256) (by decide) (by rw [p60]; decide +kernel)) ?_
      repeat walk_at "rd"
      rw [p60]
      refine ⟨p, _, rfl, k1.new, ⟨by decide +kernel, pow_up (n := 256) (by decide +kernel) (by decide)⟩, fun d2 H2 b0 b1 k2 => ?_⟩
      repeat walk_at "rd"
      refine rd_pow ⟨by decide, by decide, by decide⟩ ?_
      repeat walk_at "rd"
      rw [p60]
      exact k _ _ (k1.trans k2) (by omega)
def sp__law_refused (K : PySem.W.Frag) (a : Ad) : Sp := fun vs H Q E => ∃ (n : Int) (x y : V), vs = [.int n, x, y] ∧ ((n = 0 ∧ ((∃ t, TyX K H x (.type t) ∧ WholeT t false) ∨ (∃ i t, x = .int i ∧ TyX K H y (.type t) ∧ WholeT t false) ∨ (∃ i, x = .int i ∧ y = .int 0))) ∨ (n ≠ 0 ∧ ∃ q, Fr K H x q ∧ Sz 4000 q ∧ Fr K H y 0)) ∧ ∀ H', Same H H' → Q (.bl true) H'
theorem ok__law_refused (T : Txt K mg a) : FnOk P w K mg base (L2.CX P w) 7 a.f__law_refused a.d__law_refused ["_law_way", "_law_one_here", "_law_other"] (sp__law_refused K a) := by
  refine T.F__law_refused.okX sc__law_refused (fun vs H Q E h => ?_) (fun cdv A outer s H vs Q E hr h => ?_)
  · obtain ⟨n, x, y, rfl, h, k⟩ := h
    rfl
  · have hu := hu64 hr
    obtain ⟨n, x, y, rfl, h, k⟩ := h
    refine ⟨_, (pss_cons (ps_set (i := 3) sc__law_refused.nd rfl (by first | exact Or.inl rfl | exact Or.inr rfl) pe_bl)
    (pss_cons (ps_try_as (i := 4) rfl rfl sc__law_refused.nd rfl rfl ⟨rfl, by decide, Or.inl T.c_LineError⟩ (takes_of rfl rfl rfl rfl)
      (fun W pn xe tkT PO => (pss_one (ps_if (pt_cmpR (op_eqA K (by exact hu)) (pv 0) pe_int (nomark _)) (pss_one (ps_expr (pe_callS (ok_fraction T) (hr.mono (by decide)) (by rfl) T.g_fraction T.F_fraction.kp T.b_fraction (fun σ => passAt tkT σ) (by exact (pa_cons (pv 1) (pa_cons (pv 2) pa_nil)))))) (pss_one (ps_expr (pe_callS (ok_over T) (hr.mono (by decide)) (by rfl) T.g_over T.F_over.kp T.b_over (fun σ => passAt tkT σ) (by exact (pa_cons (pv 1) (pa_cons (pv 2) pa_nil)))))))))
      (fun ea oe cls d pn hz hf => (pss_cons (ps_set (i := 5) sc__law_refused.nd rfl (by first | exact Or.inl rfl | exact Or.inr rfl) (pe_callB (my_isE K hz hf) (by rfl) T.z_isinstance bt_isinstance (pa_cons (pv 4) (pa_cons (pe_tup (pa_cons (my_cls T.c_NoBounds) (pa_cons (my_cls T.c_NoDeed) (pa_cons (my_cls T.c_NoDirections) (pa_cons (my_cls T.c_NoLine) (pa_cons (my_cls T.c_NoLines) (pa_cons (my_cls T.c_NoNumber) (pa_cons (my_cls T.c_NoPair) (pa_cons (my_cls T.c_NoPlace) (pa_cons (my_cls T.c_NoPlane) pa_nil)))))))))) pa_nil))))
    (pss_cons (ps_set (i := 5) sc__law_refused.nd rfl (by first | exact Or.inl rfl | exact Or.inr rfl) (pe_or (pv 5) (pe_one (pe_callB (my_isE K hz hf) (by rfl) T.z_isinstance bt_isinstance (pa_cons (pv 4) (pa_cons (pe_tup (pa_cons (my_cls T.c_NoPoints) (pa_cons (my_cls T.c_NoPrices) (pa_cons (my_cls T.c_NoRow) (pa_cons (my_cls T.c_NoShares) (pa_cons (my_cls T.c_NoSpots) (pa_cons (my_cls T.c_NoSpread) (pa_cons (my_cls T.c_NoText) (pa_cons (my_cls T.c_NoValues) pa_nil))))))))) pa_nil))))))
    (pss_one (ps_set (i := 3) sc__law_refused.nd rfl (by first | exact Or.inl rfl | exact Or.inr rfl) (pe_and (pe_callB (my_isE K hz hf) (by rfl) T.z_isinstance bt_isinstance (pa_cons (pv 4) (pa_cons (my_cls T.c_NoFraction) pa_nil))) (pe_and (pe_callB (my_isE K hz hf) (by rfl) T.z_isinstance bt_isinstance (pa_cons (pv 4) (pa_cons (my_ty "ValueError" T.z_ValueError) pa_nil))) (pe_one (pe_not (pv 5)))))))))))
    (pss_one (ps_ret (pv 3))))), ?_⟩
    repeat walk_at "rd"
    rcases h with ⟨hn, bad⟩ | ⟨hn, q, hx, zq, hy⟩
    · refine iteP (decide_eq_true hn) ?_
      repeat walk_at "rd"
      refine ⟨_, _, rfl, .inl ⟨bad, true, (PySem.W.exm_ref T.s_LineError T.h_LineError T.t_LineError T.u_NoFraction_LineError), fun _ ea hea => ?_, fun z => nomatch z⟩⟩
      repeat walk_at "rd"
      refine rd_mk (Nat.le_of_ble_eq_true rfl) fun p1 H1 hp1 s1 hx1 => ?_
      repeat walk_at "rd"
      refine rd_isET [a.C_NoBounds, a.C_NoDeed, a.C_NoDirections, a.C_NoLine, a.C_NoLines, a.C_NoNumber, a.C_NoPair, a.C_NoPlace, a.C_NoPlane] T.e_NoFraction hx1 (kitAny_cons (kit_one T.t_NoBounds T.i_NoBounds T.u_NoFraction_NoFraction T.u_NoFraction_NoBounds) (fun _ => (kitAny_cons (kit_one T.t_NoDeed T.i_NoDeed T.u_NoFraction_NoFraction T.u_NoFraction_NoDeed) (fun _ => (kitAny_cons (kit_one T.t_NoDirections T.i_NoDirections T.u_NoFraction_NoFraction T.u_NoFraction_NoDirections) (fun _ => (kitAny_cons (kit_one T.t_NoLine T.i_NoLine T.u_NoFraction_NoFraction T.u_NoFraction_NoLine) (fun _ => (kitAny_cons (kit_one T.t_NoLines T.i_NoLines T.u_NoFraction_NoFraction T.u_NoFraction_NoLines) (fun _ => (kitAny_cons (kit_one T.t_NoNumber T.i_NoNumber T.u_NoFraction_NoFraction T.u_NoFraction_NoNumber) (fun _ => (kitAny_cons (kit_one T.t_NoPair T.i_NoPair T.u_NoFraction_NoFraction T.u_NoFraction_NoPair) (fun _ => (kitAny_cons (kit_one T.t_NoPlace T.i_NoPlace T.u_NoFraction_NoFraction T.u_NoFraction_NoPlace) (fun _ => (kitAny_cons (kit_one T.t_NoPlane T.i_NoPlane T.u_NoFraction_NoFraction T.u_NoFraction_NoPlane) (fun _ => kitAny_nil) (fun z => nomatch z))) (fun z => nomatch z))) (fun z => nomatch z))) (fun z => nomatch z))) (fun z => nomatch z))) (fun z => nomatch z))) (fun z => nomatch z))) (fun z => nomatch z))) (fun z => nomatch z)) ?_
      repeat walk_at "rd"
      refine iteN rfl ?_
      repeat walk_at "rd"
      refine rd_mk (Nat.le_of_ble_eq_true rfl) fun p2 H2 hp2 s2 hx2 => ?_
      repeat walk_at "rd"
      refine rd_isET [a.C_NoPoints, a.C_NoPrices, a.C_NoRow, a.C_NoShares, a.C_NoSpots, a.C_NoSpread, a.C_NoText, a.C_NoValues] T.e_NoFraction hx2 (kitAny_cons (kit_one T.t_NoPoints T.i_NoPoints T.u_NoFraction_NoFraction T.u_NoFraction_NoPoints) (fun _ => (kitAny_cons (kit_one T.t_NoPrices T.i_NoPrices T.u_NoFraction_NoFraction T.u_NoFraction_NoPrices) (fun _ => (kitAny_cons (kit_one T.t_NoRow T.i_NoRow T.u_NoFraction_NoFraction T.u_NoFraction_NoRow) (fun _ => (kitAny_cons (kit_one T.t_NoShares T.i_NoShares T.u_NoFraction_NoFraction T.u_NoFraction_NoShares) (fun _ => (kitAny_cons (kit_one T.t_NoSpots T.i_NoSpots T.u_NoFraction_NoFraction T.u_NoFraction_NoSpots) (fun _ => (kitAny_cons (kit_one T.t_NoSpread T.i_NoSpread T.u_NoFraction_NoFraction T.u_NoFraction_NoSpread) (fun _ => (kitAny_cons (kit_one T.t_NoText T.i_NoText T.u_NoFraction_NoFraction T.u_NoFraction_NoText) (fun _ => (kitAny_cons (kit_one T.t_NoValues T.i_NoValues T.u_NoFraction_NoFraction T.u_NoFraction_NoValues) (fun _ => kitAny_nil) (fun z => nomatch z))) (fun z => nomatch z))) (fun z => nomatch z))) (fun z => nomatch z))) (fun z => nomatch z))) (fun z => nomatch z))) (fun z => nomatch z))) (fun z => nomatch z)) ?_
      repeat walk_at "rd"
      refine rd_isE1 T.e_NoFraction (.own _) (kit_one T.t_NoFraction T.i_NoFraction T.u_NoFraction_NoFraction T.u_NoFraction_NoFraction) ?_
      repeat walk_at "rd"
      refine iteP rfl ?_
      repeat walk_at "rd"
      refine rd_isE1 T.e_NoFraction (.ty _) (kit_val (by decide +kernel) T.kv_NoFraction) ?_
      repeat walk_at "rd"
      refine iteP rfl ?_
      repeat walk_at "rd"
      exact k H2 (s1.trans s2)
    · refine iteN (decide_eq_false hn) ?_
      repeat walk_at "rd"
      refine ⟨_, _, q, 0, rfl, hx, hy, zq, ⟨by decide +kernel, by decide +kernel⟩, fun _ => ⟨true, (PySem.W.exm_ref T.s_LineError T.h_LineError T.t_LineError T.u_NoFraction_LineError), fun _ ea hea => ?_, fun z => nomatch z⟩, fun z => (z rfl).elim⟩
      repeat walk_at "rd"
      refine rd_mk (Nat.le_of_ble_eq_true rfl) fun p1 H1 hp1 s1 hx1 => ?_
      repeat walk_at "rd"
      refine rd_isET [a.C_NoBounds, a.C_NoDeed, a.C_NoDirections, a.C_NoLine, a.C_NoLines, a.C_NoNumber, a.C_NoPair, a.C_NoPlace, a.C_NoPlane] T.e_NoFraction hx1 (kitAny_cons (kit_one T.t_NoBounds T.i_NoBounds T.u_NoFraction_NoFraction T.u_NoFraction_NoBounds) (fun _ => (kitAny_cons (kit_one T.t_NoDeed T.i_NoDeed T.u_NoFraction_NoFraction T.u_NoFraction_NoDeed) (fun _ => (kitAny_cons (kit_one T.t_NoDirections T.i_NoDirections T.u_NoFraction_NoFraction T.u_NoFraction_NoDirections) (fun _ => (kitAny_cons (kit_one T.t_NoLine T.i_NoLine T.u_NoFraction_NoFraction T.u_NoFraction_NoLine) (fun _ => (kitAny_cons (kit_one T.t_NoLines T.i_NoLines T.u_NoFraction_NoFraction T.u_NoFraction_NoLines) (fun _ => (kitAny_cons (kit_one T.t_NoNumber T.i_NoNumber T.u_NoFraction_NoFraction T.u_NoFraction_NoNumber) (fun _ => (kitAny_cons (kit_one T.t_NoPair T.i_NoPair T.u_NoFraction_NoFraction T.u_NoFraction_NoPair) (fun _ => (kitAny_cons (kit_one T.t_NoPlace T.i_NoPlace T.u_NoFraction_NoFraction T.u_NoFraction_NoPlace) (fun _ => (kitAny_cons (kit_one T.t_NoPlane T.i_NoPlane T.u_NoFraction_NoFraction T.u_NoFraction_NoPlane) (fun _ => kitAny_nil) (fun z => nomatch z))) (fun z => nomatch z))) (fun z => nomatch z))) (fun z => nomatch z))) (fun z => nomatch z))) (fun z => nomatch z))) (fun z => nomatch z))) (fun z => nomatch z))) (fun z => nomatch z)) ?_
      repeat walk_at "rd"
      refine iteN rfl ?_
      repeat walk_at "rd"
      refine rd_mk (Nat.le_of_ble_eq_true rfl) fun p2 H2 hp2 s2 hx2 => ?_
      repeat walk_at "rd"
      refine rd_isET [a.C_NoPoints, a.C_NoPrices, a.C_NoRow, a.C_NoShares, a.C_NoSpots, a.C_NoSpread, a.C_NoText, a.C_NoValues] T.e_NoFraction hx2 (kitAny_cons (kit_one T.t_NoPoints T.i_NoPoints T.u_NoFraction_NoFraction T.u_NoFraction_NoPoints) (fun _ => (kitAny_cons (kit_one T.t_NoPrices T.i_NoPrices T.u_NoFraction_NoFraction T.u_NoFraction_NoPrices) (fun _ => (kitAny_cons (kit_one T.t_NoRow T.i_NoRow T.u_NoFraction_NoFraction T.u_NoFraction_NoRow) (fun _ => (kitAny_cons (kit_one T.t_NoShares T.i_NoShares T.u_NoFraction_NoFraction T.u_NoFraction_NoShares) (fun _ => (kitAny_cons (kit_one T.t_NoSpots T.i_NoSpots T.u_NoFraction_NoFraction T.u_NoFraction_NoSpots) (fun _ => (kitAny_cons (kit_one T.t_NoSpread T.i_NoSpread T.u_NoFraction_NoFraction T.u_NoFraction_NoSpread) (fun _ => (kitAny_cons (kit_one T.t_NoText T.i_NoText T.u_NoFraction_NoFraction T.u_NoFraction_NoText) (fun _ => (kitAny_cons (kit_one T.t_NoValues T.i_NoValues T.u_NoFraction_NoFraction T.u_NoFraction_NoValues) (fun _ => kitAny_nil) (fun z => nomatch z))) (fun z => nomatch z))) (fun z => nomatch z))) (fun z => nomatch z))) (fun z => nomatch z))) (fun z => nomatch z))) (fun z => nomatch z))) (fun z => nomatch z)) ?_
      repeat walk_at "rd"
      refine rd_isE1 T.e_NoFraction (.own _) (kit_one T.t_NoFraction T.i_NoFraction T.u_NoFraction_NoFraction T.u_NoFraction_NoFraction) ?_
      repeat walk_at "rd"
      refine iteP rfl ?_
      repeat walk_at "rd"
      refine rd_isE1 T.e_NoFraction (.ty _) (kit_val (by decide +kernel) T.kv_NoFraction) ?_
      repeat walk_at "rd"
      refine iteP rfl ?_
      repeat walk_at "rd"
      exact k H2 (s1.trans s2)
def sp__law_is_right (K : PySem.W.Frag) (a : Ad) : Sp := fun vs H Q E => ∃ v w q, vs = [v, w] ∧ Fr K H v q ∧ Fr K H w q ∧ ∀ H', Same H H' → Q (.bl true) H'
theorem ok__law_is_right (T : Txt K mg a) : FnOk P w K mg base (L2.CX P w) 2 a.f__law_is_right a.d__law_is_right ["_law_found", "_law_due"] (sp__law_is_right K a) := by
  refine T.F__law_is_right.okX sc__law_is_right (fun vs H Q E h => ?_) (fun cdv A outer s H vs Q E hr h => ?_)
  · obtain ⟨v, w, q, rfl, hv, hw, k⟩ := h
    rfl
  · have hu := hu64 hr
    obtain ⟨v, w, q, rfl, hv, hw, k⟩ := h
    refine ⟨_, (pss_cons (ps_if ((pw_or (pt_not (my_truth K (pe_callB (my_isi K) (by rfl) T.z_isinstance bt_isinstance (pa_cons (pv 0) (pa_cons (my_ty "tuple" T.z_tuple) pa_nil))))) (pw_or1 (pt_cmpR (op_neA K (by exact hu)) (pv 0) (pv 1) (nomark _))))).pt (pss_one (ps_ret pe_bl)) pss_nil)
    (pss_one (ps_ret (pe_not (pe_callB (my_any K rfl) (by rfl) T.z_any bt_any (pa_cons (pe_lc (own := [("_law_number_here", 2)]) rfl sc__law_is_right.nd (my_itup K (pv 0)) (blkOk_by (N := N__law_is_right) (sc := defScope s__law_is_right) (by decide +kernel)) (fun _ _ _ _ _ => (pg_name (i := 2) sc__law_is_right.nd rfl (by first | exact Or.inl rfl | exact Or.inr rfl))) (fun _ _ _ _ _ => pts_nil) (fun _ _ _ _ _ => (pe_or (pe_callB (my_isi K) (by rfl) T.z_isinstance bt_isinstance (pa_cons (pv 2) (pa_cons (my_ty "bool" T.z_bool) pa_nil))) (pe_one (pe_not (pe_callB (my_isi K) (by rfl) T.z_isinstance bt_isinstance (pa_cons (pv 2) (pa_cons (my_ty "int" T.z_int) pa_nil)))))))) pa_nil)))))), ?_⟩
    repeat walk_at "rd"
    refine rd_isi hv.ty (by decide +kernel : kitB "tuple" "tuple" = some true) ?_
    repeat walk_at "rd"
    refine iteN rfl ?_
    repeat walk_at "rd"
    refine rd_neD hv.dp hw.dp rfl rfl ?_
    rw [eqv_self]
    repeat walk_at "rd"
    refine iteN rfl ?_
    repeat walk_at "rd"
    obtain ⟨fa, rfl, hf⟩ := hv
    refine rd_lcTv rfl hf (Nat.le_of_ble_eq_true rfl) (fun _ => rfl) (fun _ => .bl false) (fun n x H2 hx s2 Q' hQ => ?_) fun D H2 s2 hD => ?_
    · obtain ⟨i, rfl⟩ := two_ints hx
      repeat walk_at "rd"
      refine rd_isi (ty_int i) (by decide +kernel : kitB "int" "bool" = some false) ?_
      repeat walk_at "rd"
      refine iteN rfl ?_
      repeat walk_at "rd"
      refine rd_isi (ty_int i) (by decide +kernel : kitB "int" "int" = some true) ?_
      repeat walk_at "rd"
      exact hQ H2 (Same.refl _)
    · repeat walk_at "rd"
      refine rd_any (bs := [false, false]) (SqL.of hD) ?_
      repeat walk_at "rd"
      exact k H2 s2
def sp__law_reckoned (K : PySem.W.Frag) (a : Ad) : Sp := fun vs H Q E => ∃ v w q r, vs = [v, w] ∧ Fr K H v q ∧ Fr K H w r ∧ Sz 200 q ∧ Sz 200 r ∧ ∀ H', Same H H' → Q (.bl true) H'
theorem ok__law_reckoned (T : Txt K mg a) : FnOk P w K mg base (L2.CX P w) 8 a.f__law_reckoned a.d__law_reckoned ["_law_one_here", "_law_other"] (sp__law_reckoned K a) := by
  refine T.F__law_reckoned.okX sc__law_reckoned (fun vs H Q E h => ?_) (fun cdv A outer s H vs Q E hr h => ?_)
  · obtain ⟨v, w, q, r, rfl, hv, hw, zq, zr, k⟩ := h
    rfl
  · have hu := hu64 hr
    obtain ⟨v, w, q, r, rfl, hv, hw, zq, zr, k⟩ := h
    refine ⟨_, (pss_cons (ps_if (pt_not (my_truth K (pe_callS (ok__law_is_right T) (hr.mono (by decide)) (by rfl) T.g__law_is_right T.F__law_is_right.kp T.b__law_is_right (fun σ => passAt (takes_of rfl rfl rfl rfl) σ) (by exact (pa_cons (pe_callS (ok_plus T) (hr.mono (by decide)) (by rfl) T.g_plus T.F_plus.kp T.b_plus (fun σ => passAt (takes_of rfl rfl rfl rfl) σ) (by exact (pa_cons (pv 0) (pa_cons (pv 1) pa_nil)))) (pa_cons (pe_callS (ok__law_plus T) (hr.mono (by decide)) (by rfl) T.g__law_plus T.F__law_plus.kp T.b__law_plus (fun σ => passAt (takes_of rfl rfl rfl rfl) σ) (by exact (pa_cons (pv 0) (pa_cons (pv 1) pa_nil)))) pa_nil)))))) (pss_one (ps_ret pe_bl)) pss_nil)
    (pss_cons (ps_if (pt_not (my_truth K (pe_callS (ok__law_is_right T) (hr.mono (by decide)) (by rfl) T.g__law_is_right T.F__law_is_right.kp T.b__law_is_right (fun σ => passAt (takes_of rfl rfl rfl rfl) σ) (by exact (pa_cons (pe_callS (ok_less T) (hr.mono (by decide)) (by rfl) T.g_less T.F_less.kp T.b_less (fun σ => passAt (takes_of rfl rfl rfl rfl) σ) (by exact (pa_cons (pv 0) (pa_cons (pv 1) pa_nil)))) (pa_cons (pe_callS (ok__law_less T) (hr.mono (by decide)) (by rfl) T.g__law_less T.F__law_less.kp T.b__law_less (fun σ => passAt (takes_of rfl rfl rfl rfl) σ) (by exact (pa_cons (pv 0) (pa_cons (pv 1) pa_nil)))) pa_nil)))))) (pss_one (ps_ret pe_bl)) pss_nil)
    (pss_cons (ps_if (pt_not (my_truth K (pe_callS (ok__law_is_right T) (hr.mono (by decide)) (by rfl) T.g__law_is_right T.F__law_is_right.kp T.b__law_is_right (fun σ => passAt (takes_of rfl rfl rfl rfl) σ) (by exact (pa_cons (pe_callS (ok_times T) (hr.mono (by decide)) (by rfl) T.g_times T.F_times.kp T.b_times (fun σ => passAt (takes_of rfl rfl rfl rfl) σ) (by exact (pa_cons (pv 0) (pa_cons (pv 1) pa_nil)))) (pa_cons (pe_callS (ok__law_times T) (hr.mono (by decide)) (by rfl) T.g__law_times T.F__law_times.kp T.b__law_times (fun σ => passAt (takes_of rfl rfl rfl rfl) σ) (by exact (pa_cons (pv 0) (pa_cons (pv 1) pa_nil)))) pa_nil)))))) (pss_one (ps_ret pe_bl)) pss_nil)
    (pss_cons (ps_if (pt_cmpR (op_eqA K (by exact hu)) (pe_ix (ix_any K) (pv 1) pe_int (fun _ _ => rfl)) pe_int (nomark _)) (pss_one (ps_ret (pe_callS (ok__law_refused T) (hr.mono (by decide)) (by rfl) T.g__law_refused T.F__law_refused.kp T.b__law_refused (fun σ => passAt (takes_of rfl rfl rfl rfl) σ) (by exact (pa_cons pe_int (pa_cons (pv 0) (pa_cons (pv 1) pa_nil))))))) pss_nil)
    (pss_one (ps_ret (pe_callS (ok__law_is_right T) (hr.mono (by decide)) (by rfl) T.g__law_is_right T.F__law_is_right.kp T.b__law_is_right (fun σ => passAt (takes_of rfl rfl rfl rfl) σ) (by exact (pa_cons (pe_callS (ok_over T) (hr.mono (by decide)) (by rfl) T.g_over T.F_over.kp T.b_over (fun σ => passAt (takes_of rfl rfl rfl rfl) σ) (by exact (pa_cons (pv 0) (pa_cons (pv 1) pa_nil)))) (pa_cons (pe_callS (ok__law_over T) (hr.mono (by decide)) (by rfl) T.g__law_over T.F__law_over.kp T.b__law_over (fun σ => passAt (takes_of rfl rfl rfl rfl) σ) (by exact (pa_cons (pv 0) (pa_cons (pv 1) pa_nil)))) pa_nil)))))))))), ?_⟩
    have yq : Sz 4000 q := zq.mono (by decide)
    have yr : Sz 4000 r := zr.mono (by decide)
    repeat walk_at "rd"
    refine ⟨v, w, q, r, rfl, (by walk_at "fr"), (by walk_at "fr"), yq, yr, fun x1 H1 s1 h1 => ?_⟩
    repeat walk_at "rd"
    refine ⟨v, w, q, r, rfl, (by walk_at "fr"), (by walk_at "fr"), yq, yr, fun y1 H2 s2 h2 => ?_⟩
    repeat walk_at "rd"
    refine ⟨x1, y1, q + r, rfl, (by walk_at "fr"), (by walk_at "fr"), fun H3 s3 => ?_⟩
    repeat walk_at "rd"
    refine iteN rfl ?_
    repeat walk_at "rd"
    refine ⟨v, w, q, r, rfl, (by walk_at "fr"), (by walk_at "fr"), yq, yr, fun x2 H4 s4 h4 => ?_⟩
    repeat walk_at "rd"
    refine ⟨v, w, q, r, rfl, (by walk_at "fr"), (by walk_at "fr"), yq, yr, fun y2 H5 s5 h5 => ?_⟩
    repeat walk_at "rd"
    refine ⟨x2, y2, q - r, rfl, (by walk_at "fr"), (by walk_at "fr"), fun H6 s6 => ?_⟩
    repeat walk_at "rd"
    refine iteN rfl ?_
    repeat walk_at "rd"
    refine ⟨v, w, q, r, rfl, (by walk_at "fr"), (by walk_at "fr"), yq, yr, fun x3 H7 s7 h7 => ?_⟩
    repeat walk_at "rd"
    refine ⟨v, w, q, r, rfl, (by walk_at "fr"), (by walk_at "fr"), yq, yr, fun y3 H8 s8 h8 => ?_⟩
    repeat walk_at "rd"
    refine ⟨x3, y3, q * r, rfl, (by walk_at "fr"), (by walk_at "fr"), fun H9 s9 => ?_⟩
    repeat walk_at "rd"
    refine iteN rfl ?_
    repeat walk_at "rd"
    by_cases h0 : r.num = 0
    · refine iteP (decide_eq_true h0) ?_
      have r0 : r = 0 := Rat.num_eq_zero.mp h0
      subst r0
      repeat walk_at "rd"
      refine ⟨1, v, w, rfl, .inr ⟨by decide, q, (by walk_at "fr"), yq, (by walk_at "fr")⟩, fun H10 s10 => ?_⟩
      exact k H10 (by walk_at "same")
    · refine iteN (decide_eq_false h0) ?_
      have r0 : r ≠ 0 := fun z => h0 (by rw [z]; rfl)
      repeat walk_at "rd"
      refine ⟨v, w, q, r, rfl, (by walk_at "fr"), (by walk_at "fr"), yq, yr, fun z => (r0 z).elim, fun _ x4 H10 s10 h10 => ?_⟩
      repeat walk_at "rd"
      refine ⟨v, w, q, r, rfl, (by walk_at "fr"), (by walk_at "fr"), yq, yr, r0, fun y4 H11 s11 h11 => ?_⟩
      repeat walk_at "rd"
      refine ⟨x4, y4, q / r, rfl, (by walk_at "fr"), (by walk_at "fr"), fun H12 s12 => ?_⟩
      exact k H12 (by walk_at "same")
def sp__law_right (K : PySem.W.Frag) (a : Ad) : Sp := fun vs H Q E => ∃ (p : Addr), vs = [.ref p] ∧ PotAt H p ∧ ∀ H', Kp p H H' → Q (.bl true) H'
theorem ok__law_right (T : Txt K mg a) : FnOk P w K mg base (L2.CX P w) 9 a.f__law_right a.d__law_right ["_law_pot_here"] (sp__law_right K a) := by
  refine T.F__law_right.okX sc__law_right (fun vs H Q E h => ?_) (fun cdv A outer s H vs Q E hr h => ?_)
  · obtain ⟨p, rfl, hp, k⟩ := h
    rfl
  · have hu := hu64 hr
    obtain ⟨p, rfl, hp, k⟩ := h
    refine ⟨_, (pss_cons (ps_set (i := 1) sc__law_right.nd rfl (by first | exact Or.inl rfl | exact Or.inr rfl) (pe_callS (ok__law_one T) (hr.mono (by decide)) (by rfl) T.g__law_one T.F__law_one.kp T.b__law_one (fun σ => passAt (takes_of rfl rfl rfl rfl) σ) (by exact (pa_cons (pv 0) pa_nil))))
    (pss_cons (ps_set (i := 2) sc__law_right.nd rfl (by first | exact Or.inl rfl | exact Or.inr rfl) (pe_ix (ix_any K) (pe_lst (pa_cons (pe_callS (ok__law_one T) (hr.mono (by decide)) (by rfl) T.g__law_one T.F__law_one.kp T.b__law_one (fun σ => passAt (takes_of rfl rfl rfl rfl) σ) (by exact (pa_cons (pv 0) pa_nil))) (pa_cons (pv 1) pa_nil))) (pe_callTy my_int1 (by rfl) T.z_int bt_int (pa_cons (pe_cmpR (op_eqA K (by exact hu)) (pe_callS (ok__law_draw T) (hr.mono (by decide)) (by rfl) T.g__law_draw T.F__law_draw.kp T.b__law_draw (fun σ => passAt (takes_of rfl rfl rfl rfl) σ) (by exact (pa_cons (pv 0) (pa_cons pe_int pa_nil)))) pe_int (nomark _)) pa_nil)) (fun _ _ => rfl)))
    (pss_cons (ps_if ((pw_or (pt_not (my_truth K (pe_callS (ok__law_reckoned T) (hr.mono (by decide)) (by rfl) T.g__law_reckoned T.F__law_reckoned.kp T.b__law_reckoned (fun σ => passAt (takes_of rfl rfl rfl rfl) σ) (by exact (pa_cons (pv 1) (pa_cons (pv 2) pa_nil)))))) (pw_or1 (pt_not (my_truth K (pe_callS (ok__law_reckoned T) (hr.mono (by decide)) (by rfl) T.g__law_reckoned T.F__law_reckoned.kp T.b__law_reckoned (fun σ => passAt (takes_of rfl rfl rfl rfl) σ) (by exact (pa_cons (pv 2) (pa_cons (pv 1) pa_nil))))))))).pt (pss_one (ps_ret pe_bl)) pss_nil)
    (pss_cons (ps_set (i := 3) sc__law_right.nd rfl (by first | exact Or.inl rfl | exact Or.inr rfl) (pe_callS (ok_is_below T) (hr.mono (by decide)) (by rfl) T.g_is_below T.F_is_below.kp T.b_is_below (fun σ => passAt (takes_of rfl rfl rfl rfl) σ) (by exact (pa_cons (pv 1) (pa_cons (pv 2) pa_nil)))))
    (pss_cons (ps_if ((pw_or (pt_not (my_truth K (pe_callB (my_isi K) (by rfl) T.z_isinstance bt_isinstance (pa_cons (pv 3) (pa_cons (my_ty "bool" T.z_bool) pa_nil))))) (pw_or (pt_cmpR (op_neA K (by exact hu)) (pv 3) (pe_callS (ok__law_below T) (hr.mono (by decide)) (by rfl) T.g__law_below T.F__law_below.kp T.b__law_below (fun σ => passAt (takes_of rfl rfl rfl rfl) σ) (by exact (pa_cons (pv 1) (pa_cons (pv 2) pa_nil)))) (nomark _)) (pw_or1 (pt_cmpR (op_neA K (by exact hu)) (pe_callS (ok_opposite T) (hr.mono (by decide)) (by rfl) T.g_opposite T.F_opposite.kp T.b_opposite (fun σ => passAt (takes_of rfl rfl rfl rfl) σ) (by exact (pa_cons (pv 1) pa_nil))) (pe_tup (pa_cons (pe_un un_neg (pe_ix (ix_any K) (pv 1) pe_int (fun _ _ => rfl))) (pa_cons (pe_ix (ix_any K) (pv 1) pe_int (fun _ _ => rfl)) pa_nil))) (nomark _)))))).pt (pss_one (ps_ret pe_bl)) pss_nil)
    (pss_cons (ps_par (i := 4) (j := 5) rfl sc__law_right.nd rfl rfl (by decide) rfl rfl (pa_cons (pe_callS (ok__law_number T) (hr.mono (by decide)) (by rfl) T.g__law_number T.F__law_number.kp T.b__law_number (fun σ => passAt (takes_of rfl rfl rfl rfl) σ) (by exact (pa_cons (pv 0) pa_nil))) (pa_cons (pe_callS (ok__law_number T) (hr.mono (by decide)) (by rfl) T.g__law_number T.F__law_number.kp T.b__law_number (fun σ => passAt (takes_of rfl rfl rfl rfl) σ) (by exact (pa_cons (pv 0) pa_nil))) pa_nil)) rfl)
    (pss_cutE (ps_if ((pw_and (pt_cmpR (op_eqA K (by exact hu)) (pv 5) pe_int (nomark _)) (pw_and1 (pt_not (my_truth K (pe_callS (ok__law_refused T) (hr.mono (by decide)) (by rfl) T.g__law_refused T.F__law_refused.kp T.b__law_refused (fun σ => passAt (takes_of rfl rfl rfl rfl) σ) (by exact (pa_cons pe_int (pa_cons (pv 4) (pa_cons (pv 5) pa_nil)))))))))).pt (pss_one (ps_ret pe_bl)) pss_nil)
    (pss_cutE (ps_if ((pw_and (pt_cmpR (op_neA K (by exact hu)) (pv 5) pe_int (nomark _)) (pw_and1 (pt_not (my_truth K (pe_callS (ok__law_is_right T) (hr.mono (by decide)) (by rfl) T.g__law_is_right T.F__law_is_right.kp T.b__law_is_right (fun σ => passAt (takes_of rfl rfl rfl rfl) σ) (by exact (pa_cons (pe_callS (ok_fraction T) (hr.mono (by decide)) (by rfl) T.g_fraction T.F_fraction.kp T.b_fraction (fun σ => passAt (takes_of rfl rfl rfl rfl) σ) (by exact (pa_cons (pv 4) (pa_cons (pv 5) pa_nil)))) (pa_cons (pe_callS (ok__law_low T) (hr.mono (by decide)) (by rfl) T.g__law_low T.F__law_low.kp T.b__law_low (fun σ => passAt (takes_of rfl rfl rfl rfl) σ) (by exact (pa_cons (pv 4) (pa_cons (pv 5) pa_nil)))) pa_nil))))))))).pt (pss_one (ps_ret pe_bl)) pss_nil)
    (pss_cons (ps_set (i := 6) sc__law_right.nd rfl (by first | exact Or.inl rfl | exact Or.inr rfl) (pe_lst (pa_cons pe_non (pa_cons pe_int (pa_cons pe_bl (pa_cons pe_str (pa_cons (pe_lst (pa_cons (pe_ix (ix_any K) (pv 1) pe_int (fun _ _ => rfl)) (pa_cons (pe_ix (ix_any K) (pv 1) pe_int (fun _ _ => rfl)) pa_nil))) (pa_cons (pe_tup (pa_cons (pe_ix (ix_any K) (pv 1) pe_int (fun _ _ => rfl)) pa_nil)) (pa_cons (pe_tup (pa_cons (pe_op op_mulW pe_int (pe_ix (ix_any K) (pv 1) pe_int (fun _ _ => rfl))) (pa_cons (pe_op op_mulW pe_int (pe_ix (ix_any K) (pv 1) pe_int (fun _ _ => rfl))) pa_nil))) (pa_cons (pe_tup (pa_cons (pe_ix (ix_any K) (pv 1) pe_int (fun _ _ => rfl)) (pa_cons pe_int pa_nil))) pa_nil))))))))))
    (pss_cons (ps_set (i := 6) sc__law_right.nd rfl (by first | exact Or.inl rfl | exact Or.inr rfl) (pe_op (op_addA K) (pv 6) (pe_lst (pa_cons (pe_tup (pa_cons (pe_ix (ix_any K) (pv 1) pe_int (fun _ _ => rfl)) (pa_cons (pe_un un_neg (pe_ix (ix_any K) (pv 1) pe_int (fun _ _ => rfl))) pa_nil))) (pa_cons (pe_tup (pa_cons pe_bl (pa_cons pe_int pa_nil))) (pa_cons (pe_op (op_addA K) (pv 1) (pe_tup (pa_cons pe_int pa_nil))) (pa_cons (pe_dispT (by exact hu) (pv 1) (pv 1)) (pa_cons (pe_tup (pa_cons (pv 1) (pa_cons (pv 1) pa_nil))) pa_nil))))))))
    (pss_cons (ps_if ((pw_or (pt_cmpR op_notBl (pe_callS (ok_is_fraction T) (hr.mono (by decide)) (by rfl) T.g_is_fraction T.F_is_fraction.kp T.b_is_fraction (fun σ => passAt (takes_of rfl rfl rfl rfl) σ) (by exact (pa_cons (pe_ix (ix_any K) (pv 6) (pe_callS (ok__law_draw T) (hr.mono (by decide)) (by rfl) T.g__law_draw T.F__law_draw.kp T.b__law_draw (fun σ => passAt (takes_of rfl rfl rfl rfl) σ) (by exact (pa_cons (pv 0) (pa_cons pe_int pa_nil)))) (fun _ _ => rfl)) pa_nil))) pe_bl (nomark _)) (pw_or1 (pt_cmpR op_notBl (pe_callS (ok_is_fraction T) (hr.mono (by decide)) (by rfl) T.g_is_fraction T.F_is_fraction.kp T.b_is_fraction (fun σ => passAt (takes_of rfl rfl rfl rfl) σ) (by exact (pa_cons (pv 1) pa_nil))) pe_bl (nomark _))))).pt (pss_one (ps_ret pe_bl)) pss_nil)
    (pss_cons (ps_set (i := 7) sc__law_right.nd rfl (by first | exact Or.inl rfl | exact Or.inr rfl) (pe_ix (ix_any K) (pe_lst (pa_cons pe_non (pa_cons pe_bl (pa_cons pe_bl (pa_cons pe_str (pa_cons (pe_tup (pa_cons pe_int (pa_cons pe_int pa_nil))) (pa_cons (pe_lst (pa_cons pe_int pa_nil)) (pa_cons pe_dnewK pa_nil)))))))) (pe_callS (ok__law_draw T) (hr.mono (by decide)) (by rfl) T.g__law_draw T.F__law_draw.kp T.b__law_draw (fun σ => passAt (takes_of rfl rfl rfl rfl) σ) (by exact (pa_cons (pv 0) (pa_cons pe_int pa_nil)))) (fun _ _ => rfl)))
    (pss_one (ps_ret (pe_and (pe_callS (ok__law_refused T) (hr.mono (by decide)) (by rfl) T.g__law_refused T.F__law_refused.kp T.b__law_refused (fun σ => passAt (takes_of rfl rfl rfl rfl) σ) (by exact (pa_cons pe_int (pa_cons (pv 7) (pa_cons pe_int pa_nil))))) (pe_one (pe_callS (ok__law_refused T) (hr.mono (by decide)) (by rfl) T.g__law_refused T.F__law_refused.kp T.b__law_refused (fun σ => passAt (takes_of rfl rfl rfl rfl) σ) (by exact (pa_cons pe_int (pa_cons pe_int (pa_cons (pv 7) pa_nil))))))))))))))))))))), ?_⟩
    repeat walk_at "rd"
    refine ⟨p, rfl, hp, fun v1 q H1 k1 f1 z1 => ?_⟩
    repeat walk_at "rd"
    refine ⟨p, rfl, k1.new, fun v2 r2 H2 k2 f2 z2 => ?_⟩
    repeat walk_at "rd"
    refine rd_mk le2 fun l1 H3 hl1 s3 hx3 => ?_
    repeat walk_at "rd"
    refine ⟨p, _, rfl, k2.new.up s3, ⟨by decide, by decide +kernel⟩, fun d1 H4 d10 d11 k4 => ?_⟩
    repeat walk_at "rd"
    refine rd_ix2 (k4.get k2.new hl1 hx3) fun v hv => ?_
    have g1 : FrT H4 v1 q := by walk_at "frt"
    obtain ⟨r, gv, zr⟩ : ∃ r, FrT H4 v r ∧ Sz 200 r := by
      rcases hv with e | e
      · subst e; exact ⟨r2, by walk_at "frt", z2⟩
      · subst e; exact ⟨q, g1, z1⟩
    clear hv
    have kp4 : Kp p H H4 := (((k1.trans k2).tos s3).trans k4)
    repeat walk_at "rd"
    refine ⟨_, _, q, r, rfl, (by walk_at "fr"), (by walk_at "fr"), z1, zr, fun H5 s5 => ?_⟩
    repeat walk_at "rd"
    refine iteN rfl ?_
    repeat walk_at "rd"
    refine ⟨_, _, r, q, rfl, (by walk_at "fr"), (by walk_at "fr"), zr, z1, fun H6 s6 => ?_⟩
    repeat walk_at "rd"
    refine iteN rfl ?_
    repeat walk_at "rd"
    refine ⟨_, _, q, r, rfl, (by walk_at "fr"), (by walk_at "fr"), z1.mono (by decide), zr.mono (by decide), ?_⟩
    repeat walk_at "rd"
    refine rd_isi (.base (.bl _)) (by decide +kernel : kitB "bool" "bool" = some true) ?_
    repeat walk_at "rd"
    refine iteN rfl ?_
    repeat walk_at "rd"
    refine ⟨_, _, q, r, rfl, (by walk_at "fr"), (by walk_at "fr"), z1.mono (by decide), zr.mono (by decide), ?_⟩
    repeat walk_at "rd"
    refine iteN (by simp) ?_
    repeat walk_at "rd"
    refine ⟨_, q, rfl, (by walk_at "fr"), fun v5 H7 s7 h7 => ?_⟩
    repeat walk_at "rd"
    refine rd_mk le2 fun t1 H8 ht1 s8 hx8 => ?_
    rw [← Rat.neg_num, ← Rat.neg_den] at hx8
    refine rd_neD (h7.up s8).dp (Dp.tup (SqT.of hx8) (.cons (.int _) (.cons (.int _) .nil))) rfl rfl ?_
    rw [eqv_self]
    repeat walk_at "rd"
    refine iteN rfl ?_
    have g8 : FrT H8 v1 q := by walk_at "frt"
    have kp8 : Kp p H H8 := (((kp4.tos s5).tos s6).tos s7).tos s8
    clear g1 gv f1 f2 h7
    repeat walk_at "rd"
    refine ⟨p, rfl, kp8.new, fun top H9 k9 zt => ?_⟩
    repeat walk_at "rd"
    refine ⟨p, rfl, k9.new, fun bot H10 k10 zb => ?_⟩
    repeat walk_at "rd"
    have g10 : FrT H10 v1 q := by walk_at "frt"
    have kp10 : Kp p H H10 := (kp8.trans k9).trans k10
    refine rd_cutS (fun H' => Kp p H H' ∧ FrT H' v1 q) ?_ ?_
    · repeat walk_at "rd"
      by_cases hb : bot = 0
      · refine iteP (decide_eq_true hb) ?_
        subst hb
        repeat walk_at "rd"
        refine ⟨0, _, _, rfl, .inl ⟨rfl, .inr (.inr ⟨_, rfl, rfl⟩)⟩, fun H11 s11 => ?_⟩
        repeat walk_at "rd"
        refine iteN rfl ?_
        repeat walk_at "rd"
        exact ⟨rfl, kp10.tos s11, by walk_at "frt"⟩
      · refine iteN (decide_eq_false hb) ?_
        refine iteN rfl ?_
        repeat walk_at "rd"
        exact ⟨rfl, kp10, g10⟩
    rintro H11 ⟨kp11, g11⟩
    refine rd_cutS (fun H' => Kp p H H' ∧ FrT H' v1 q) ?_ ?_
    · repeat walk_at "rd"
      by_cases hb : bot = 0
      · refine iteN (by simp [hb]) ?_
        refine iteN rfl ?_
        repeat walk_at "rd"
        exact ⟨rfl, kp11, g11⟩
      · refine iteP (by simp [hb]) ?_
        repeat walk_at "rd"
        refine ⟨_, _, rfl, .inr ⟨_, _, rfl, rfl, ⟨hb, pow_up zb (by decide)⟩, fun x1 H12 s12 h12 => ?_⟩⟩
        repeat walk_at "rd"
        refine ⟨_, _, rfl, ⟨hb, pow_up zb (by decide)⟩, fun y1 H13 s13 h13 => ?_⟩
        repeat walk_at "rd"
        refine ⟨_, _, _, rfl, (by walk_at "fr"), (by walk_at "fr"), fun H14 s14 => ?_⟩
        repeat walk_at "rd"
        refine iteN rfl ?_
        repeat walk_at "rd"
        exact ⟨rfl, ((kp11.tos s12).tos s13).tos s14, by walk_at "frt"⟩
    rintro H12 ⟨kp12, g12⟩
    obtain ⟨fa, rfl, hfa⟩ := g12
    have ff : ∀ H', H' fa = some (.tup [.int q.num, .int (q.den : Int)]) → Fr K H' (.ref fa) q := fun H' h => ⟨fa, rfl, SqT.of h⟩
    repeat walk_at "rd"
    refine rd_ixF0 (ff _ hfa) ?_
    repeat walk_at "rd"
    refine rd_ixF1 (ff _ hfa) ?_
    repeat walk_at "rd"
    refine rd_mk le2 fun o5 A1 ho5 e1 hx5 => ?_
    have m1 : A1 fa = _ := e1 _ _ hfa
    repeat walk_at "rd"
    refine rd_ixF0 (ff _ m1) ?_
    repeat walk_at "rd"
    refine rd_mk (Nat.le_of_ble_eq_true rfl) fun o6 A2 ho6 e2 hx6 => ?_
    have m2 : A2 fa = _ := e2 _ _ m1
    repeat walk_at "rd"
    refine rd_ixF0 (ff _ m2) ?_
    repeat walk_at "rd"
    refine rd_mul (cm (n := 8) (m := 200) (by decide) z1.cn) ?_
    repeat walk_at "rd"
    refine rd_ixF1 (ff _ m2) ?_
    repeat walk_at "rd"
    refine rd_mul (cm (n := 8) (m := 200) (by decide) z1.cd) ?_
    repeat walk_at "rd"
    refine rd_mk le2 fun o7 A3 ho7 e3 hx7 => ?_
    have m3 : A3 fa = _ := e3 _ _ m2
    repeat walk_at "rd"
    refine rd_ixF0 (ff _ m3) ?_
    repeat walk_at "rd"
    refine rd_mk le2 fun o8 A4 ho8 e4 hx8 => ?_
    have m4 : A4 fa = _ := e4 _ _ m3
    repeat walk_at "rd"
    refine rd_mk (Nat.le_of_ble_eq_true rfl) fun la A5 hla e5 hxa => ?_
    have m5 : A5 fa = _ := e5 _ _ m4
    repeat walk_at "rd"
    refine rd_ixF0 (ff _ m5) ?_
    repeat walk_at "rd"
    refine rd_ixF1 (ff _ m5) ?_
    repeat walk_at "rd"
    refine rd_mk le2 fun o9 A6 ho9 e6 hx9 => ?_
    have m6 : A6 fa = _ := e6 _ _ m5
    repeat walk_at "rd"
    refine rd_mk le2 fun o10 A7 ho10 e7 hx10 => ?_
    have m7 : A7 fa = _ := e7 _ _ m6
    repeat walk_at "rd"
    refine rd_mk (Nat.le_of_ble_eq_true rfl) fun o11a A8 ho11a e8 hx11a => ?_
    have m8 : A8 fa = _ := e8 _ _ m7
    repeat walk_at "rd"
    refine rd_catT (SqT.of m8) (SqT.of hx11a) (by simp) (by simp) (by simp) fun o11 A9 ho11 e9 hx11 => ?_
    have m9 : A9 fa = _ := e9 _ _ m8
    refine rd_dispV rfl m9 fun o12 A10 ho12 e10 hx12 => ?_
    have m10 : A10 fa = _ := e10 _ _ m9
    repeat walk_at "rd"
    refine rd_mk le2 fun o13 A11 ho13 e11 hx13 => ?_
    have m11 : A11 fa = _ := e11 _ _ m10
    repeat walk_at "rd"
    refine rd_mk (Nat.le_of_ble_eq_true rfl) fun lb A12 hlb e12 hxb => ?_
    have m12 : A12 fa = _ := e12 _ _ m11
    refine rd_cat (e12 _ _ (e11 _ _ (e10 _ _ (e9 _ _ (e8 _ _ (e7 _ _ (e6 _ _ hxa))))))) hxb (Nat.le_of_ble_eq_true rfl) fun lc A13 hlc e13 hxc => ?_
    have m13 : A13 fa = _ := e13 _ _ m12
    have w12 : Same A12 A13 := e13
    have w11 : Same A11 A13 := e12.trans w12
    have w10 : Same A10 A13 := e11.trans w11
    have w9 : Same A9 A13 := e10.trans w10
    have w8 : Same A8 A13 := e9.trans w9
    have w7 : Same A7 A13 := e8.trans w8
    have w6 : Same A6 A13 := e7.trans w7
    have w5 : Same A5 A13 := e6.trans w6
    have w4 : Same A4 A13 := e5.trans w5
    have w3 : Same A3 A13 := e4.trans w4
    have w2 : Same A2 A13 := e3.trans w3
    have w1 : Same A1 A13 := e2.trans w2
    have w0 : Same H12 A13 := e1.trans w1
    have kp13 : Kp p H A13 := kp12.tos w0
    repeat walk_at "rd"
    refine ⟨p, _, rfl, kp13.new, ⟨by decide, by decide +kernel⟩, fun d2 A14 d20 d21 k14 => ?_⟩
    have pa : PotAt H12 p := kp12.new
    have c5 : A14 o5 = _ := k14.get pa ho5 (w1 _ _ hx5)
    have c6 : A14 o6 = _ := k14.tup (w2 _ _ hx6)
    have c7 : A14 o7 = _ := k14.tup (w3 _ _ hx7)
    have c8 : A14 o8 = _ := k14.tup (w4 _ _ hx8)
    have c9 : A14 o9 = _ := k14.tup (w6 _ _ hx9)
    have c10 : A14 o10 = _ := k14.tup (w7 _ _ hx10)
    have c11 : A14 o11 = _ := k14.tup (w9 _ _ hx11)
    have c12 : A14 o12 = _ := k14.get (pa.up (e1.trans (e2.trans (e3.trans (e4.trans (e5.trans (e6.trans (e7.trans (e8.trans e9))))))))) ho12 (w10 _ _ hx12)
    have c13 : A14 o13 = _ := k14.tup (w11 _ _ hx13)
    have cf : A14 fa = _ := k14.tup m13
    have clc : A14 lc = _ := k14.get (pa.up (e1.trans (e2.trans (e3.trans (e4.trans (e5.trans (e6.trans (e7.trans (e8.trans (e9.trans (e10.trans (e11.trans e12)))))))))))) hlc hxc
    refine rd_ixAny clc d20 (by simpa using d21) fun v9 hv9 => ?_
    have bad : IsFrB K A14 v9 false := by
      simp only [List.cons_append, List.nil_append, List.mem_cons, List.not_mem_nil, or_false] at hv9
      rcases hv9 with rfl | rfl | rfl | rfl | rfl | rfl | rfl | rfl | rfl | rfl | rfl | rfl | rfl
      · exact .no (.base .non) (by decide +kernel : kitB "NoneType" "tuple" = some false)
      · exact .no (ty_int _) (by decide +kernel : kitB "int" "tuple" = some false)
      · exact .no (.base (.bl _)) (by decide +kernel : kitB "bool" "tuple" = some false)
      · exact .no (.base (.str _)) (by decide +kernel : kitB "str" "tuple" = some false)
      · exact .no (.base (.lst c5)) (by decide +kernel : kitB "list" "tuple" = some false)
      · exact .len (SqT.of c6) (by simp)
      · exact two_no (SqT.of c7) (fun z => gcd2 _ _ z.2)
      · exact two_no (SqT.of c8) (fun z => absurd z.1 (by decide))
      · exact two_no (SqT.of c9) (fun z => absurd z.1 (by have := q.den_pos; omega))
      · exact .fst (SqT.of c10) (.base (.bl _)) whole_bool
      · exact .len (SqT.of c11) (by simp)
      · exact .no (.base (.dT c12)) (by decide +kernel : kitB "dict" "tuple" = some false)
      · exact .fst (SqT.of c13) (sqt_ty (SqT.of cf)) whole_tuple
    repeat walk_at "rd"
    refine ⟨_, _, rfl, bad, ?_⟩
    repeat walk_at "rd"
    refine iteN rfl ?_
    repeat walk_at "rd"
    refine ⟨_, _, rfl, (ff _ cf).is, ?_⟩
    repeat walk_at "rd"
    refine iteN rfl ?_
    have kp14 : Kp p H A14 := kp13.trans k14
    repeat walk_at "rd"
    refine rd_mk le2 fun r1 B1 hr1 b1 hy1 => ?_
    repeat walk_at "rd"
    refine rd_mk (Nat.le_of_ble_eq_true rfl) fun r2 B2 hr2 b2 hy2 => ?_
    repeat walk_at "rd"
    refine rd_newK fun r3 B3 hr3 b3 hy3 => ?_
    repeat walk_at "rd"
    refine rd_mk (Nat.le_of_ble_eq_true rfl) fun r4 B4 hr4 b4 hy4 => ?_
    repeat walk_at "rd"
    refine ⟨p, _, rfl, kp14.new.up (b1.trans (b2.trans (b3.trans b4))), ⟨by decide, by decide +kernel⟩, fun d3 B5 d30 d31 k5 => ?_⟩
    have pb : PotAt A14 p := kp14.new
    have y1 : B5 r1 = _ := k5.tup ((b2.trans (b3.trans b4)) _ _ hy1)
    have y2 : B5 r2 = _ := k5.get (pb.up b1) hr2 ((b3.trans b4) _ _ hy2)
    have y3 : B5 r3 = _ := k5.get (pb.up (b1.trans b2)) hr3 (b4 _ _ hy3)
    have y4 : B5 r4 = _ := k5.get (pb.up (b1.trans (b2.trans b3))) hr4 hy4
    refine rd_ixAny y4 d30 (by simpa using d31) fun v10 hv10 => ?_
    have odd : ∀ H', Same B5 H' → ∃ t, TyX K H' v10 (.type t) ∧ WholeT t false := fun H' sh => by
      simp only [List.mem_cons, List.not_mem_nil, or_false] at hv10
      rcases hv10 with rfl | rfl | rfl | rfl | rfl | rfl | rfl
      · exact ⟨_, .base .non, whole_none⟩
      · exact ⟨_, .base (.bl _), whole_bool⟩
      · exact ⟨_, .base (.bl _), whole_bool⟩
      · exact ⟨_, .base (.str _), whole_str⟩
      · exact ⟨_, .base (.tup (sh _ _ y1)), whole_tuple⟩
      · exact ⟨_, .base (.lst (sh _ _ y2)), whole_list⟩
      · exact ⟨_, .base (.dK (sh _ _ y3)), whole_dict⟩
    repeat walk_at "rd"
    refine ⟨0, _, _, rfl, .inl ⟨rfl, .inl (odd _ (Same.refl _))⟩, fun B6 b6 => ?_⟩
    repeat walk_at "rd"
    refine iteP rfl ?_
    repeat walk_at "rd"
    obtain ⟨t, ty, wt⟩ := odd _ b6
    refine ⟨0, _, _, rfl, .inl ⟨rfl, .inr (.inl ⟨3, t, rfl, ty, wt⟩)⟩, fun B7 b7 => ?_⟩
    exact k B7 (((kp14.tos (b1.trans (b2.trans (b3.trans b4)))).trans k5).tos (b6.trans b7))
def sp_law (K : PySem.W.Frag) (a : Ad) : Sp := fun vs H Q E => ∃ (s : Addr) (ns : List Int), vs = [.ref s] ∧ SqL K H s (ns.map V.int) ∧ ns.length ≤ 63 ∧ ∀ H', Q (.bl true) H'
theorem ok_law (T : Txt K mg a) : FnOk P w K mg base (L2.CX P w) 10 a.f_law a.d_law ["_law_script"] (sp_law K a) := by
  refine T.F_law.okX sc_law (fun vs H Q E h => ?_) (fun cdv A outer s H vs Q E hr h => ?_)
  · obtain ⟨s, ns, rfl, hs, hn, k⟩ := h
    rfl
  · have hu := hu64 hr
    obtain ⟨s, ns, rfl, hs, hn, k⟩ := h
    refine ⟨_, (pss_cons (ps_for (passes_of rfl) rfl (pi_range1 (by rfl) T.z_range (pa_cons (pe_callB (call_max2 rfl) (by rfl) T.z_max bt_max (pa_cons pe_int (pa_cons (pe_callB (call_min2 rfl) (by rfl) T.z_min bt_min (pa_cons pe_int (pa_cons (pe_callB (call_lenA K) (by rfl) T.z_len bt_len (pa_cons (pv 0) pa_nil)) pa_nil))) pa_nil))) pa_nil)) (pg_name (i := 1) sc_law.nd rfl (by first | exact Or.inl rfl | exact Or.inr rfl)) (pss_one (ps_if (pt_not (my_truth K (pe_callS (ok__law_right T) (hr.mono (by decide)) (by rfl) T.g__law_right T.F__law_right.kp T.b__law_right (fun σ => passAt (takes_of rfl rfl rfl rfl) σ) (by exact (pa_cons (pe_callS (ok__law_pot T) (hr.mono (by decide)) (by rfl) T.g__law_pot T.F__law_pot.kp T.b__law_pot (fun σ => passAt (takes_of rfl rfl rfl rfl) σ) (by exact (pa_cons (pe_callS (ok__law_cell T) (hr.mono (by decide)) (by rfl) T.g__law_cell T.F__law_cell.kp T.b__law_cell (fun σ => passAt (takes_of rfl rfl rfl rfl) σ) (by exact (pa_cons (pv 0) (pa_cons (pv 1) pa_nil)))) pa_nil))) pa_nil))))) (pss_one (ps_ret pe_bl)) pss_nil)))
    (pss_one (ps_ret pe_bl))), ?_⟩
    repeat walk_at "rd"
    refine rd_lenL hs ?_
    repeat walk_at "rd"
    refine ⟨by split <;> (try split) <;> omega, by split <;> (try split) <;> omega, ?_⟩
    refine for_range (fun i σ H' => ∃ v : Option V, σ = [some (.ref s), v] ∧ Same H H') ⟨none, rfl, Same.refl _⟩ ?_ ?_
    · rintro i σ H1 hi ⟨v, rfl, s1⟩
      repeat walk_at "rd"
      refine ⟨s, _, ns, rfl, sql_up s1 hs, by omega, fun z => ?_⟩
      repeat walk_at "rd"
      refine ⟨z, rfl, fun p H2 hp s2 pt => ?_⟩
      repeat walk_at "rd"
      refine ⟨p, rfl, pt, fun H3 kp => ?_⟩
      repeat walk_at "rd"
      refine iteN rfl ?_
      exact ⟨_, rfl, Kp.same0 (s1.trans s2) (s1.free hp) kp⟩
    · rintro σ H1 ⟨v, rfl, s1⟩
      repeat walk_at "rd"
      exact k H1
end
def spTop (K : PySem.W.Frag) : Sp := fun vs H Q E => ∃ (s : Addr) (ns : List Int), vs = [.ref s] ∧ SqL K H s (ns.map V.int) ∧ ns.length ≤ 63 ∧ ∀ H', Q (.bl true) H'
theorem all_mk {P : Program} {w : World} {K : PySem.W.Frag} {h : Heap} {mg : Str → Option Value} {fa : Addr} (X : K.In h) (G : h.Ns mainGlobals mg) (hfa : mg "law" = some (.ref fa))
  {f_made : Addr} {od_made an_made : Option Addr} {sl_made : Array (Option Value)} {oc_made kV_made dc_made pm_made cd_made ct_made : Value}
  {f_added : Addr} {od_added an_added : Option Addr} {sl_added : Array (Option Value)} {oc_added kV_added dc_added pm_added cd_added ct_added : Value}
  {f_subtracted : Addr} {od_subtracted an_subtracted : Option Addr} {sl_subtracted : Array (Option Value)} {oc_subtracted kV_subtracted dc_subtracted pm_subtracted cd_subtracted ct_subtracted : Value}
  {f_multiplied : Addr} {od_multiplied an_multiplied : Option Addr} {sl_multiplied : Array (Option Value)} {oc_multiplied kV_multiplied dc_multiplied pm_multiplied cd_multiplied ct_multiplied : Value}
  {f_divided : Addr} {od_divided an_divided : Option Addr} {sl_divided : Array (Option Value)} {oc_divided kV_divided dc_divided pm_divided cd_divided ct_divided : Value}
  {f_negated : Addr} {od_negated an_negated : Option Addr} {sl_negated : Array (Option Value)} {oc_negated kV_negated dc_negated pm_negated cd_negated ct_negated : Value}
  {f_is_less : Addr} {od_is_less an_is_less : Option Addr} {sl_is_less : Array (Option Value)} {oc_is_less kV_is_less dc_is_less pm_is_less cd_is_less ct_is_less : Value}
  {f_is_whole : Addr} {od_is_whole an_is_whole : Option Addr} {sl_is_whole : Array (Option Value)} {oc_is_whole kV_is_whole dc_is_whole pm_is_whole cd_is_whole ct_is_whole : Value}
  {f_is_fraction : Addr} {od_is_fraction an_is_fraction : Option Addr} {sl_is_fraction : Array (Option Value)} {oc_is_fraction kV_is_fraction dc_is_fraction pm_is_fraction cd_is_fraction ct_is_fraction : Value}
  {f_need_fraction : Addr} {od_need_fraction an_need_fraction : Option Addr} {sl_need_fraction : Array (Option Value)} {oc_need_fraction kV_need_fraction dc_need_fraction pm_need_fraction cd_need_fraction ct_need_fraction : Value}
  {f_need_factor : Addr} {od_need_factor an_need_factor : Option Addr} {sl_need_factor : Array (Option Value)} {oc_need_factor kV_need_factor dc_need_factor pm_need_factor cd_need_factor ct_need_factor : Value}
  {f_fraction : Addr} {od_fraction an_fraction : Option Addr} {sl_fraction : Array (Option Value)} {oc_fraction kV_fraction dc_fraction pm_fraction cd_fraction ct_fraction : Value}
  {f_plus : Addr} {od_plus an_plus : Option Addr} {sl_plus : Array (Option Value)} {oc_plus kV_plus dc_plus pm_plus cd_plus ct_plus : Value}
  {f_less : Addr} {od_less an_less : Option Addr} {sl_less : Array (Option Value)} {oc_less kV_less dc_less pm_less cd_less ct_less : Value}
  {f_times : Addr} {od_times an_times : Option Addr} {sl_times : Array (Option Value)} {oc_times kV_times dc_times pm_times cd_times ct_times : Value}
  {f_over : Addr} {od_over an_over : Option Addr} {sl_over : Array (Option Value)} {oc_over kV_over dc_over pm_over cd_over ct_over : Value}
  {f_opposite : Addr} {od_opposite an_opposite : Option Addr} {sl_opposite : Array (Option Value)} {oc_opposite kV_opposite dc_opposite pm_opposite cd_opposite ct_opposite : Value}
  {f_is_below : Addr} {od_is_below an_is_below : Option Addr} {sl_is_below : Array (Option Value)} {oc_is_below kV_is_below dc_is_below pm_is_below cd_is_below ct_is_below : Value}
  {f__law_cell : Addr} {od__law_cell an__law_cell : Option Addr} {sl__law_cell : Array (Option Value)} {oc__law_cell kV__law_cell dc__law_cell pm__law_cell cd__law_cell ct__law_cell : Value}
  {f__law_pot : Addr} {od__law_pot an__law_pot : Option Addr} {sl__law_pot : Array (Option Value)} {oc__law_pot kV__law_pot dc__law_pot pm__law_pot cd__law_pot ct__law_pot : Value}
  {f__law_draw : Addr} {od__law_draw an__law_draw : Option Addr} {sl__law_draw : Array (Option Value)} {oc__law_draw kV__law_draw dc__law_draw pm__law_draw cd__law_draw ct__law_draw : Value}
  {f__law_great : Addr} {od__law_great an__law_great : Option Addr} {sl__law_great : Array (Option Value)} {oc__law_great kV__law_great dc__law_great pm__law_great cd__law_great ct__law_great : Value}
  {f__law_low : Addr} {od__law_low an__law_low : Option Addr} {sl__law_low : Array (Option Value)} {oc__law_low kV__law_low dc__law_low pm__law_low cd__law_low ct__law_low : Value}
  {f__law_plus : Addr} {od__law_plus an__law_plus : Option Addr} {sl__law_plus : Array (Option Value)} {oc__law_plus kV__law_plus dc__law_plus pm__law_plus cd__law_plus ct__law_plus : Value}
  {f__law_less : Addr} {od__law_less an__law_less : Option Addr} {sl__law_less : Array (Option Value)} {oc__law_less kV__law_less dc__law_less pm__law_less cd__law_less ct__law_less : Value}
  {f__law_times : Addr} {od__law_times an__law_times : Option Addr} {sl__law_times : Array (Option Value)} {oc__law_times kV__law_times dc__law_times pm__law_times cd__law_times ct__law_times : Value}
  {f__law_over : Addr} {od__law_over an__law_over : Option Addr} {sl__law_over : Array (Option Value)} {oc__law_over kV__law_over dc__law_over pm__law_over cd__law_over ct__law_over : Value}
  {f__law_below : Addr} {od__law_below an__law_below : Option Addr} {sl__law_below : Array (Option Value)} {oc__law_below kV__law_below dc__law_below pm__law_below cd__law_below ct__law_below : Value}
  {f__law_small : Addr} {od__law_small an__law_small : Option Addr} {sl__law_small : Array (Option Value)} {oc__law_small kV__law_small dc__law_small pm__law_small cd__law_small ct__law_small : Value}
  {f__law_far : Addr} {od__law_far an__law_far : Option Addr} {sl__law_far : Array (Option Value)} {oc__law_far kV__law_far dc__law_far pm__law_far cd__law_far ct__law_far : Value}
  {f__law_one : Addr} {od__law_one an__law_one : Option Addr} {sl__law_one : Array (Option Value)} {oc__law_one kV__law_one dc__law_one pm__law_one cd__law_one ct__law_one : Value}
  {f__law_number : Addr} {od__law_number an__law_number : Option Addr} {sl__law_number : Array (Option Value)} {oc__law_number kV__law_number dc__law_number pm__law_number cd__law_number ct__law_number : Value}
  {f__law_refused : Addr} {od__law_refused an__law_refused : Option Addr} {sl__law_refused : Array (Option Value)} {oc__law_refused kV__law_refused dc__law_refused pm__law_refused cd__law_refused ct__law_refused : Value}
  {f__law_is_right : Addr} {od__law_is_right an__law_is_right : Option Addr} {sl__law_is_right : Array (Option Value)} {oc__law_is_right kV__law_is_right dc__law_is_right pm__law_is_right cd__law_is_right ct__law_is_right : Value}
  {f__law_reckoned : Addr} {od__law_reckoned an__law_reckoned : Option Addr} {sl__law_reckoned : Array (Option Value)} {oc__law_reckoned kV__law_reckoned dc__law_reckoned pm__law_reckoned cd__law_reckoned ct__law_reckoned : Value}
  {f__law_right : Addr} {od__law_right an__law_right : Option Addr} {sl__law_right : Array (Option Value)} {oc__law_right kV__law_right dc__law_right pm__law_right cd__law_right ct__law_right : Value}
  {f_law : Addr} {od_law an_law : Option Addr} {sl_law : Array (Option Value)} {oc_law kV_law dc_law pm_law cd_law ct_law : Value}
  {C_LineError : Addr}
  {C_NoFraction : Addr}
  {C_NoText : Addr}
  {C_NoPoints : Addr}
  {C_NoPrices : Addr}
  {C_NoLine : Addr}
  {C_NoLines : Addr}
  {C_NoShares : Addr}
  {C_NoSpread : Addr}
  {C_NoNumber : Addr}
  {C_NoPlace : Addr}
  {C_NoBounds : Addr}
  {C_NoSpots : Addr}
  {C_NoPlane : Addr}
  {C_NoValues : Addr}
  {C_NoPair : Addr}
  {C_NoDirections : Addr}
  {C_NoDeed : Addr}
  {C_NoRow : Addr}
  {c_NOUGHT : Addr} {dd_NOUGHT : Option Addr} {t0_NOUGHT t1_NOUGHT : Tok} {n_NOUGHT : Nat} {sl_NOUGHT : Array (Option Value)}
  (a_made : PySem.W.nsIn K mainGlobals "made" = some (some (.ref f_made)))
  (l_made : K.lookup f_made = some ⟨oc_made, od_made, .func (PySem.W.fnOf "made" "made" (defArgs s_made) (defBody s_made) (defScope s_made) .none kV_made dc_made pm_made an_made cd_made ct_made), sl_made⟩)
  (c_made : PySem.W.codeIn K cd_made "made" = true)
  (k_made : PySem.W.keepIn K (.ref f_made) = true)
  (a_added : PySem.W.nsIn K mainGlobals "added" = some (some (.ref f_added)))
  (l_added : K.lookup f_added = some ⟨oc_added, od_added, .func (PySem.W.fnOf "added" "added" (defArgs s_added) (defBody s_added) (defScope s_added) .none kV_added dc_added pm_added an_added cd_added ct_added), sl_added⟩)
  (c_added : PySem.W.codeIn K cd_added "added" = true)
  (k_added : PySem.W.keepIn K (.ref f_added) = true)
  (a_subtracted : PySem.W.nsIn K mainGlobals "subtracted" = some (some (.ref f_subtracted)))
  (l_subtracted : K.lookup f_subtracted = some ⟨oc_subtracted, od_subtracted, .func (PySem.W.fnOf "subtracted" "subtracted" (defArgs s_subtracted) (defBody s_subtracted) (defScope s_subtracted) .none kV_subtracted dc_subtracted pm_subtracted an_subtracted cd_subtracted ct_subtracted), sl_subtracted⟩)
  (c_subtracted : PySem.W.codeIn K cd_subtracted "subtracted" = true)
  (k_subtracted : PySem.W.keepIn K (.ref f_subtracted) = true)
  (a_multiplied : PySem.W.nsIn K mainGlobals "multiplied" = some (some (.ref f_multiplied)))
  (l_multiplied : K.lookup f_multiplied = some ⟨oc_multiplied, od_multiplied, .func (PySem.W.fnOf "multiplied" "multiplied" (defArgs s_multiplied) (defBody s_multiplied) (defScope s_multiplied) .none kV_multiplied dc_multiplied pm_multiplied an_multiplied cd_multiplied ct_multiplied), sl_multiplied⟩)
  (c_multiplied : PySem.W.codeIn K cd_multiplied "multiplied" = true)
  (k_multiplied : PySem.W.keepIn K (.ref f_multiplied) = true)
  (a_divided : PySem.W.nsIn K mainGlobals "divided" = some (some (.ref f_divided)))
  (l_divided : K.lookup f_divided = some ⟨oc_divided, od_divided, .func (PySem.W.fnOf "divided" "divided" (defArgs s_divided) (defBody s_divided) (defScope s_divided) .none kV_divided dc_divided pm_divided an_divided cd_divided ct_divided), sl_divided⟩)
  (c_divided : PySem.W.codeIn K cd_divided "divided" = true)
  (k_divided : PySem.W.keepIn K (.ref f_divided) = true)
  (a_negated : PySem.W.nsIn K mainGlobals "negated" = some (some (.ref f_negated)))
  (l_negated : K.lookup f_negated = some ⟨oc_negated, od_negated, .func (PySem.W.fnOf "negated" "negated" (defArgs s_negated) (defBody s_negated) (defScope s_negated) .none kV_negated dc_negated pm_negated an_negated cd_negated ct_negated), sl_negated⟩)
  (c_negated : PySem.W.codeIn K cd_negated "negated" = true)
  (k_negated : PySem.W.keepIn K (.ref f_negated) = true)
  (a_is_less : PySem.W.nsIn K mainGlobals "is_less" = some (some (.ref f_is_less)))
  (l_is_less : K.lookup f_is_less = some ⟨oc_is_less, od_is_less, .func (PySem.W.fnOf "is_less" "is_less" (defArgs s_is_less) (defBody s_is_less) (defScope s_is_less) .none kV_is_less dc_is_less pm_is_less an_is_less cd_is_less ct_is_less), sl_is_less⟩)
  (c_is_less : PySem.W.codeIn K cd_is_less "is_less" = true)
  (k_is_less : PySem.W.keepIn K (.ref f_is_less) = true)
  (a_is_whole : PySem.W.nsIn K mainGlobals "is_whole" = some (some (.ref f_is_whole)))
  (l_is_whole : K.lookup f_is_whole = some ⟨oc_is_whole, od_is_whole, .func (PySem.W.fnOf "is_whole" "is_whole" (defArgs s_is_whole) (defBody s_is_whole) (defScope s_is_whole) .none kV_is_whole dc_is_whole pm_is_whole an_is_whole cd_is_whole ct_is_whole), sl_is_whole⟩)
  (c_is_whole : PySem.W.codeIn K cd_is_whole "is_whole" = true)
  (k_is_whole : PySem.W.keepIn K (.ref f_is_whole) = true)
  (a_is_fraction : PySem.W.nsIn K mainGlobals "is_fraction" = some (some (.ref f_is_fraction)))
  (l_is_fraction : K.lookup f_is_fraction = some ⟨oc_is_fraction, od_is_fraction, .func (PySem.W.fnOf "is_fraction" "is_fraction" (defArgs s_is_fraction) (defBody s_is_fraction) (defScope s_is_fraction) .none kV_is_fraction dc_is_fraction pm_is_fraction an_is_fraction cd_is_fraction ct_is_fraction), sl_is_fraction⟩)
  (c_is_fraction : PySem.W.codeIn K cd_is_fraction "is_fraction" = true)
  (k_is_fraction : PySem.W.keepIn K (.ref f_is_fraction) = true)
  (a_need_fraction : PySem.W.nsIn K mainGlobals "need_fraction" = some (some (.ref f_need_fraction)))
  (l_need_fraction : K.lookup f_need_fraction = some ⟨oc_need_fraction, od_need_fraction, .func (PySem.W.fnOf "need_fraction" "need_fraction" (defArgs s_need_fraction) (defBody s_need_fraction) (defScope s_need_fraction) .none kV_need_fraction dc_need_fraction pm_need_fraction an_need_fraction cd_need_fraction ct_need_fraction), sl_need_fraction⟩)
  (c_need_fraction : PySem.W.codeIn K cd_need_fraction "need_fraction" = true)
  (k_need_fraction : PySem.W.keepIn K (.ref f_need_fraction) = true)
  (a_need_factor : PySem.W.nsIn K mainGlobals "need_factor" = some (some (.ref f_need_factor)))
  (l_need_factor : K.lookup f_need_factor = some ⟨oc_need_factor, od_need_factor, .func (PySem.W.fnOf "need_factor" "need_factor" (defArgs s_need_factor) (defBody s_need_factor) (defScope s_need_factor) .none kV_need_factor dc_need_factor pm_need_factor an_need_factor cd_need_factor ct_need_factor), sl_need_factor⟩)
  (c_need_factor : PySem.W.codeIn K cd_need_factor "need_factor" = true)
  (k_need_factor : PySem.W.keepIn K (.ref f_need_factor) = true)
  (a_fraction : PySem.W.nsIn K mainGlobals "fraction" = some (some (.ref f_fraction)))
  (l_fraction : K.lookup f_fraction = some ⟨oc_fraction, od_fraction, .func (PySem.W.fnOf "fraction" "fraction" (defArgs s_fraction) (defBody s_fraction) (defScope s_fraction) .none kV_fraction dc_fraction pm_fraction an_fraction cd_fraction ct_fraction), sl_fraction⟩)
  (c_fraction : PySem.W.codeIn K cd_fraction "fraction" = true)
  (k_fraction : PySem.W.keepIn K (.ref f_fraction) = true)
  (a_plus : PySem.W.nsIn K mainGlobals "plus" = some (some (.ref f_plus)))
  (l_plus : K.lookup f_plus = some ⟨oc_plus, od_plus, .func (PySem.W.fnOf "plus" "plus" (defArgs s_plus) (defBody s_plus) (defScope s_plus) .none kV_plus dc_plus pm_plus an_plus cd_plus ct_plus), sl_plus⟩)
  (c_plus : PySem.W.codeIn K cd_plus "plus" = true)
  (k_plus : PySem.W.keepIn K (.ref f_plus) = true)
  (a_less : PySem.W.nsIn K mainGlobals "less" = some (some (.ref f_less)))
  (l_less : K.lookup f_less = some ⟨oc_less, od_less, .func (PySem.W.fnOf "less" "less" (defArgs s_less) (defBody s_less) (defScope s_less) .none kV_less dc_less pm_less an_less cd_less ct_less), sl_less⟩)
  (c_less : PySem.W.codeIn K cd_less "less" = true)
  (k_less : PySem.W.keepIn K (.ref f_less) = true)
  (a_times : PySem.W.nsIn K mainGlobals "times" = some (some (.ref f_times)))
  (l_times : K.lookup f_times = some ⟨oc_times, od_times, .func (PySem.W.fnOf "times" "times" (defArgs s_times) (defBody s_times) (defScope s_times) .none kV_times dc_times pm_times an_times cd_times ct_times), sl_times⟩)
  (c_times : PySem.W.codeIn K cd_times "times" = true)
  (k_times : PySem.W.keepIn K (.ref f_times) = true)
  (a_over : PySem.W.nsIn K mainGlobals "over" = some (some (.ref f_over)))
  (l_over : K.lookup f_over = some ⟨oc_over, od_over, .func (PySem.W.fnOf "over" "over" (defArgs s_over) (defBody s_over) (defScope s_over) .none kV_over dc_over pm_over an_over cd_over ct_over), sl_over⟩)
  (c_over : PySem.W.codeIn K cd_over "over" = true)
  (k_over : PySem.W.keepIn K (.ref f_over) = true)
  (a_opposite : PySem.W.nsIn K mainGlobals "opposite" = some (some (.ref f_opposite)))
  (l_opposite : K.lookup f_opposite = some ⟨oc_opposite, od_opposite, .func (PySem.W.fnOf "opposite" "opposite" (defArgs s_opposite) (defBody s_opposite) (defScope s_opposite) .none kV_opposite dc_opposite pm_opposite an_opposite cd_opposite ct_opposite), sl_opposite⟩)
  (c_opposite : PySem.W.codeIn K cd_opposite "opposite" = true)
  (k_opposite : PySem.W.keepIn K (.ref f_opposite) = true)
  (a_is_below : PySem.W.nsIn K mainGlobals "is_below" = some (some (.ref f_is_below)))
  (l_is_below : K.lookup f_is_below = some ⟨oc_is_below, od_is_below, .func (PySem.W.fnOf "is_below" "is_below" (defArgs s_is_below) (defBody s_is_below) (defScope s_is_below) .none kV_is_below dc_is_below pm_is_below an_is_below cd_is_below ct_is_below), sl_is_below⟩)
  (c_is_below : PySem.W.codeIn K cd_is_below "is_below" = true)
  (k_is_below : PySem.W.keepIn K (.ref f_is_below) = true)
  (a__law_cell : PySem.W.nsIn K mainGlobals "_law_cell" = some (some (.ref f__law_cell)))
  (l__law_cell : K.lookup f__law_cell = some ⟨oc__law_cell, od__law_cell, .func (PySem.W.fnOf "_law_cell" "_law_cell" (defArgs s__law_cell) (defBody s__law_cell) (defScope s__law_cell) .none kV__law_cell dc__law_cell pm__law_cell an__law_cell cd__law_cell ct__law_cell), sl__law_cell⟩)
  (c__law_cell : PySem.W.codeIn K cd__law_cell "_law_cell" = true)
  (k__law_cell : PySem.W.keepIn K (.ref f__law_cell) = true)
  (a__law_pot : PySem.W.nsIn K mainGlobals "_law_pot" = some (some (.ref f__law_pot)))
  (l__law_pot : K.lookup f__law_pot = some ⟨oc__law_pot, od__law_pot, .func (PySem.W.fnOf "_law_pot" "_law_pot" (defArgs s__law_pot) (defBody s__law_pot) (defScope s__law_pot) .none kV__law_pot dc__law_pot pm__law_pot an__law_pot cd__law_pot ct__law_pot), sl__law_pot⟩)
  (c__law_pot : PySem.W.codeIn K cd__law_pot "_law_pot" = true)
  (k__law_pot : PySem.W.keepIn K (.ref f__law_pot) = true)
  (a__law_draw : PySem.W.nsIn K mainGlobals "_law_draw" = some (some (.ref f__law_draw)))
  (l__law_draw : K.lookup f__law_draw = some ⟨oc__law_draw, od__law_draw, .func (PySem.W.fnOf "_law_draw" "_law_draw" (defArgs s__law_draw) (defBody s__law_draw) (defScope s__law_draw) .none kV__law_draw dc__law_draw pm__law_draw an__law_draw cd__law_draw ct__law_draw), sl__law_draw⟩)
  (c__law_draw : PySem.W.codeIn K cd__law_draw "_law_draw" = true)
  (k__law_draw : PySem.W.keepIn K (.ref f__law_draw) = true)
  (a__law_great : PySem.W.nsIn K mainGlobals "_law_great" = some (some (.ref f__law_great)))
  (l__law_great : K.lookup f__law_great = some ⟨oc__law_great, od__law_great, .func (PySem.W.fnOf "_law_great" "_law_great" (defArgs s__law_great) (defBody s__law_great) (defScope s__law_great) .none kV__law_great dc__law_great pm__law_great an__law_great cd__law_great ct__law_great), sl__law_great⟩)
  (c__law_great : PySem.W.codeIn K cd__law_great "_law_great" = true)
  (k__law_great : PySem.W.keepIn K (.ref f__law_great) = true)
  (a__law_low : PySem.W.nsIn K mainGlobals "_law_low" = some (some (.ref f__law_low)))
  (l__law_low : K.lookup f__law_low = some ⟨oc__law_low, od__law_low, .func (PySem.W.fnOf "_law_low" "_law_low" (defArgs s__law_low) (defBody s__law_low) (defScope s__law_low) .none kV__law_low dc__law_low pm__law_low an__law_low cd__law_low ct__law_low), sl__law_low⟩)
  (c__law_low : PySem.W.codeIn K cd__law_low "_law_low" = true)
  (k__law_low : PySem.W.keepIn K (.ref f__law_low) = true)
  (a__law_plus : PySem.W.nsIn K mainGlobals "_law_plus" = some (some (.ref f__law_plus)))
  (l__law_plus : K.lookup f__law_plus = some ⟨oc__law_plus, od__law_plus, .func (PySem.W.fnOf "_law_plus" "_law_plus" (defArgs s__law_plus) (defBody s__law_plus) (defScope s__law_plus) .none kV__law_plus dc__law_plus pm__law_plus an__law_plus cd__law_plus ct__law_plus), sl__law_plus⟩)
  (c__law_plus : PySem.W.codeIn K cd__law_plus "_law_plus" = true)
  (k__law_plus : PySem.W.keepIn K (.ref f__law_plus) = true)
  (a__law_less : PySem.W.nsIn K mainGlobals "_law_less" = some (some (.ref f__law_less)))
  (l__law_less : K.lookup f__law_less = some ⟨oc__law_less, od__law_less, .func (PySem.W.fnOf "_law_less" "_law_less" (defArgs s__law_less) (defBody s__law_less) (defScope s__law_less) .none kV__law_less dc__law_less pm__law_less an__law_less cd__law_less ct__law_less), sl__law_less⟩)
  (c__law_less : PySem.W.codeIn K cd__law_less "_law_less" = true)
  (k__law_less : PySem.W.keepIn K (.ref f__law_less) = true)
  (a__law_times : PySem.W.nsIn K mainGlobals "_law_times" = some (some (.ref f__law_times)))
  (l__law_times : K.lookup f__law_times = some ⟨oc__law_times, od__law_times, .func (PySem.W.fnOf "_law_times" "_law_times" (defArgs s__law_times) (defBody s__law_times) (defScope s__law_times) .none kV__law_times dc__law_times pm__law_times an__law_times cd__law_times ct__law_times), sl__law_times⟩)
  (c__law_times : PySem.W.codeIn K cd__law_times "_law_times" = true)
  (k__law_times : PySem.W.keepIn K (.ref f__law_times) = true)
  (a__law_over : PySem.W.nsIn K mainGlobals "_law_over" = some (some (.ref f__law_over)))
  (l__law_over : K.lookup f__law_over = some ⟨oc__law_over, od__law_over, .func (PySem.W.fnOf "_law_over" "_law_over" (defArgs s__law_over) (defBody s__law_over) (defScope s__law_over) .none kV__law_over dc__law_over pm__law_over an__law_over cd__law_over ct__law_over), sl__law_over⟩)
  (c__law_over : PySem.W.codeIn K cd__law_over "_law_over" = true)
  (k__law_over : PySem.W.keepIn K (.ref f__law_over) = true)
  (a__law_below : PySem.W.nsIn K mainGlobals "_law_below" = some (some (.ref f__law_below)))
  (l__law_below : K.lookup f__law_below = some ⟨oc__law_below, od__law_below, .func (PySem.W.fnOf "_law_below" "_law_below" (defArgs s__law_below) (defBody s__law_below) (defScope s__law_below) .none kV__law_below dc__law_below pm__law_below an__law_below cd__law_below ct__law_below), sl__law_below⟩)
  (c__law_below : PySem.W.codeIn K cd__law_below "_law_below" = true)
  (k__law_below : PySem.W.keepIn K (.ref f__law_below) = true)
  (a__law_small : PySem.W.nsIn K mainGlobals "_law_small" = some (some (.ref f__law_small)))
  (l__law_small : K.lookup f__law_small = some ⟨oc__law_small, od__law_small, .func (PySem.W.fnOf "_law_small" "_law_small" (defArgs s__law_small) (defBody s__law_small) (defScope s__law_small) .none kV__law_small dc__law_small pm__law_small an__law_small cd__law_small ct__law_small), sl__law_small⟩)
  (c__law_small : PySem.W.codeIn K cd__law_small "_law_small" = true)
  (k__law_small : PySem.W.keepIn K (.ref f__law_small) = true)
  (a__law_far : PySem.W.nsIn K mainGlobals "_law_far" = some (some (.ref f__law_far)))
  (l__law_far : K.lookup f__law_far = some ⟨oc__law_far, od__law_far, .func (PySem.W.fnOf "_law_far" "_law_far" (defArgs s__law_far) (defBody s__law_far) (defScope s__law_far) .none kV__law_far dc__law_far pm__law_far an__law_far cd__law_far ct__law_far), sl__law_far⟩)
  (c__law_far : PySem.W.codeIn K cd__law_far "_law_far" = true)
  (k__law_far : PySem.W.keepIn K (.ref f__law_far) = true)
  (a__law_one : PySem.W.nsIn K mainGlobals "_law_one" = some (some (.ref f__law_one)))
  (l__law_one : K.lookup f__law_one = some ⟨oc__law_one, od__law_one, .func (PySem.W.fnOf "_law_one" "_law_one" (defArgs s__law_one) (defBody s__law_one) (defScope s__law_one) .none kV__law_one dc__law_one pm__law_one an__law_one cd__law_one ct__law_one), sl__law_one⟩)
  (c__law_one : PySem.W.codeIn K cd__law_one "_law_one" = true)
  (k__law_one : PySem.W.keepIn K (.ref f__law_one) = true)
  (a__law_number : PySem.W.nsIn K mainGlobals "_law_number" = some (some (.ref f__law_number)))
  (l__law_number : K.lookup f__law_number = some ⟨oc__law_number, od__law_number, .func (PySem.W.fnOf "_law_number" "_law_number" (defArgs s__law_number) (defBody s__law_number) (defScope s__law_number) .none kV__law_number dc__law_number pm__law_number an__law_number cd__law_number ct__law_number), sl__law_number⟩)
  (c__law_number : PySem.W.codeIn K cd__law_number "_law_number" = true)
  (k__law_number : PySem.W.keepIn K (.ref f__law_number) = true)
  (a__law_refused : PySem.W.nsIn K mainGlobals "_law_refused" = some (some (.ref f__law_refused)))
  (l__law_refused : K.lookup f__law_refused = some ⟨oc__law_refused, od__law_refused, .func (PySem.W.fnOf "_law_refused" "_law_refused" (defArgs s__law_refused) (defBody s__law_refused) (defScope s__law_refused) .none kV__law_refused dc__law_refused pm__law_refused an__law_refused cd__law_refused ct__law_refused), sl__law_refused⟩)
  (c__law_refused : PySem.W.codeIn K cd__law_refused "_law_refused" = true)
  (k__law_refused : PySem.W.keepIn K (.ref f__law_refused) = true)
  (a__law_is_right : PySem.W.nsIn K mainGlobals "_law_is_right" = some (some (.ref f__law_is_right)))
  (l__law_is_right : K.lookup f__law_is_right = some ⟨oc__law_is_right, od__law_is_right, .func (PySem.W.fnOf "_law_is_right" "_law_is_right" (defArgs s__law_is_right) (defBody s__law_is_right) (defScope s__law_is_right) .none kV__law_is_right dc__law_is_right pm__law_is_right an__law_is_right cd__law_is_right ct__law_is_right), sl__law_is_right⟩)
  (c__law_is_right : PySem.W.codeIn K cd__law_is_right "_law_is_right" = true)
  (k__law_is_right : PySem.W.keepIn K (.ref f__law_is_right) = true)
  (a__law_reckoned : PySem.W.nsIn K mainGlobals "_law_reckoned" = some (some (.ref f__law_reckoned)))
  (l__law_reckoned : K.lookup f__law_reckoned = some ⟨oc__law_reckoned, od__law_reckoned, .func (PySem.W.fnOf "_law_reckoned" "_law_reckoned" (defArgs s__law_reckoned) (defBody s__law_reckoned) (defScope s__law_reckoned) .none kV__law_reckoned dc__law_reckoned pm__law_reckoned an__law_reckoned cd__law_reckoned ct__law_reckoned), sl__law_reckoned⟩)
  (c__law_reckoned : PySem.W.codeIn K cd__law_reckoned "_law_reckoned" = true)
  (k__law_reckoned : PySem.W.keepIn K (.ref f__law_reckoned) = true)
  (a__law_right : PySem.W.nsIn K mainGlobals "_law_right" = some (some (.ref f__law_right)))
  (l__law_right : K.lookup f__law_right = some ⟨oc__law_right, od__law_right, .func (PySem.W.fnOf "_law_right" "_law_right" (defArgs s__law_right) (defBody s__law_right) (defScope s__law_right) .none kV__law_right dc__law_right pm__law_right an__law_right cd__law_right ct__law_right), sl__law_right⟩)
  (c__law_right : PySem.W.codeIn K cd__law_right "_law_right" = true)
  (k__law_right : PySem.W.keepIn K (.ref f__law_right) = true)
  (a_law : PySem.W.nsIn K mainGlobals "law" = some (some (.ref f_law)))
  (l_law : K.lookup f_law = some ⟨oc_law, od_law, .func (PySem.W.fnOf "law" "law" (defArgs s_law) (defBody s_law) (defScope s_law) .none kV_law dc_law pm_law an_law cd_law ct_law), sl_law⟩)
  (c_law : PySem.W.codeIn K cd_law "law" = true)
  (k_law : PySem.W.keepIn K (.ref f_law) = true)
  (ac_LineError : PySem.W.nsIn K mainGlobals "LineError" = some (some (.ref C_LineError)))
  (ac_NoFraction : PySem.W.nsIn K mainGlobals "NoFraction" = some (some (.ref C_NoFraction)))
  (ac_NoText : PySem.W.nsIn K mainGlobals "NoText" = some (some (.ref C_NoText)))
  (ac_NoPoints : PySem.W.nsIn K mainGlobals "NoPoints" = some (some (.ref C_NoPoints)))
  (ac_NoPrices : PySem.W.nsIn K mainGlobals "NoPrices" = some (some (.ref C_NoPrices)))
  (ac_NoLine : PySem.W.nsIn K mainGlobals "NoLine" = some (some (.ref C_NoLine)))
  (ac_NoLines : PySem.W.nsIn K mainGlobals "NoLines" = some (some (.ref C_NoLines)))
  (ac_NoShares : PySem.W.nsIn K mainGlobals "NoShares" = some (some (.ref C_NoShares)))
  (ac_NoSpread : PySem.W.nsIn K mainGlobals "NoSpread" = some (some (.ref C_NoSpread)))
  (ac_NoNumber : PySem.W.nsIn K mainGlobals "NoNumber" = some (some (.ref C_NoNumber)))
  (ac_NoPlace : PySem.W.nsIn K mainGlobals "NoPlace" = some (some (.ref C_NoPlace)))
  (ac_NoBounds : PySem.W.nsIn K mainGlobals "NoBounds" = some (some (.ref C_NoBounds)))
  (ac_NoSpots : PySem.W.nsIn K mainGlobals "NoSpots" = some (some (.ref C_NoSpots)))
  (ac_NoPlane : PySem.W.nsIn K mainGlobals "NoPlane" = some (some (.ref C_NoPlane)))
  (ac_NoValues : PySem.W.nsIn K mainGlobals "NoValues" = some (some (.ref C_NoValues)))
  (ac_NoPair : PySem.W.nsIn K mainGlobals "NoPair" = some (some (.ref C_NoPair)))
  (ac_NoDirections : PySem.W.nsIn K mainGlobals "NoDirections" = some (some (.ref C_NoDirections)))
  (ac_NoDeed : PySem.W.nsIn K mainGlobals "NoDeed" = some (some (.ref C_NoDeed)))
  (ac_NoRow : PySem.W.nsIn K mainGlobals "NoRow" = some (some (.ref C_NoRow)))
  (ts_LineError : PySem.W.subIn K (.ref C_LineError) (.type "BaseException") = some true)
  (tt_LineError : PySem.W.typeIn K (.ref C_LineError) = some (.type "type"))
  (ti_LineError : PySem.W.isClsIn K C_LineError = true)
  (th_LineError : PySem.W.hasDictIn K C_LineError = true)
  (tu_NoFraction_LineError : PySem.W.subIn K (.ref C_NoFraction) (.ref C_LineError) = some true)
  (tx_NoFraction : PySem.W.excIn K C_NoFraction [.type "ValueError", .type "Exception", .type "BaseException", .type "object"] "ValueError.__new__" = true)
  (tk_NoFraction : PySem.W.keepIn K (.ref C_NoFraction) = true)
  (ehg_NoFraction : PySem.W.findIn K (.ref C_NoFraction) "__getattribute__" = some (some (.builtin "BaseException.__getattribute__")))
  (ehk_NoFraction : PySem.W.findIn K (.ref C_NoFraction) "__getattr__" = some none)
  (eha_NoFraction : PySem.W.findIn K (.ref C_NoFraction) "__class__" = some (some (.builtin "object.__class__")))
  (ehm_NoFraction : PySem.W.mroIn K C_NoFraction (.type "object") = some true)
  (tkv_NoFraction : PySem.W.subIn K (.ref C_NoFraction) (.type "ValueError") = some true)
  (ts_NoFraction : PySem.W.subIn K (.ref C_NoFraction) (.type "BaseException") = some true)
  (tt_NoFraction : PySem.W.typeIn K (.ref C_NoFraction) = some (.type "type"))
  (ti_NoFraction : PySem.W.isClsIn K C_NoFraction = true)
  (th_NoFraction : PySem.W.hasDictIn K C_NoFraction = true)
  (tu_NoFraction_NoFraction : PySem.W.subIn K (.ref C_NoFraction) (.ref C_NoFraction) = some true)
  (ts_NoText : PySem.W.subIn K (.ref C_NoText) (.type "BaseException") = some true)
  (tt_NoText : PySem.W.typeIn K (.ref C_NoText) = some (.type "type"))
  (ti_NoText : PySem.W.isClsIn K C_NoText = true)
  (th_NoText : PySem.W.hasDictIn K C_NoText = true)
  (tu_NoFraction_NoText : PySem.W.subIn K (.ref C_NoFraction) (.ref C_NoText) = some false)
  (ts_NoPoints : PySem.W.subIn K (.ref C_NoPoints) (.type "BaseException") = some true)
  (tt_NoPoints : PySem.W.typeIn K (.ref C_NoPoints) = some (.type "type"))
  (ti_NoPoints : PySem.W.isClsIn K C_NoPoints = true)
  (th_NoPoints : PySem.W.hasDictIn K C_NoPoints = true)
  (tu_NoFraction_NoPoints : PySem.W.subIn K (.ref C_NoFraction) (.ref C_NoPoints) = some false)
  (ts_NoPrices : PySem.W.subIn K (.ref C_NoPrices) (.type "BaseException") = some true)
  (tt_NoPrices : PySem.W.typeIn K (.ref C_NoPrices) = some (.type "type"))
  (ti_NoPrices : PySem.W.isClsIn K C_NoPrices = true)
  (th_NoPrices : PySem.W.hasDictIn K C_NoPrices = true)
  (tu_NoFraction_NoPrices : PySem.W.subIn K (.ref C_NoFraction) (.ref C_NoPrices) = some false)
  (ts_NoLine : PySem.W.subIn K (.ref C_NoLine) (.type "BaseException") = some true)
  (tt_NoLine : PySem.W.typeIn K (.ref C_NoLine) = some (.type "type"))
  (ti_NoLine : PySem.W.isClsIn K C_NoLine = true)
  (th_NoLine : PySem.W.hasDictIn K C_NoLine = true)
  (tu_NoFraction_NoLine : PySem.W.subIn K (.ref C_NoFraction) (.ref C_NoLine) = some false)
  (ts_NoLines : PySem.W.subIn K (.ref C_NoLines) (.type "BaseException") = some true)
  (tt_NoLines : PySem.W.typeIn K (.ref C_NoLines) = some (.type "type"))
  (ti_NoLines : PySem.W.isClsIn K C_NoLines = true)
  (th_NoLines : PySem.W.hasDictIn K C_NoLines = true)
  (tu_NoFraction_NoLines : PySem.W.subIn K (.ref C_NoFraction) (.ref C_NoLines) = some false)
  (ts_NoShares : PySem.W.subIn K (.ref C_NoShares) (.type "BaseException") = some true)
  (tt_NoShares : PySem.W.typeIn K (.ref C_NoShares) = some (.type "type"))
  (ti_NoShares : PySem.W.isClsIn K C_NoShares = true)
  (th_NoShares : PySem.W.hasDictIn K C_NoShares = true)
  (tu_NoFraction_NoShares : PySem.W.subIn K (.ref C_NoFraction) (.ref C_NoShares) = some false)
  (ts_NoSpread : PySem.W.subIn K (.ref C_NoSpread) (.type "BaseException") = some true)
  (tt_NoSpread : PySem.W.typeIn K (.ref C_NoSpread) = some (.type "type"))
  (ti_NoSpread : PySem.W.isClsIn K C_NoSpread = true)
  (th_NoSpread : PySem.W.hasDictIn K C_NoSpread = true)
  (tu_NoFraction_NoSpread : PySem.W.subIn K (.ref C_NoFraction) (.ref C_NoSpread) = some false)
  (ts_NoNumber : PySem.W.subIn K (.ref C_NoNumber) (.type "BaseException") = some true)
  (tt_NoNumber : PySem.W.typeIn K (.ref C_NoNumber) = some (.type "type"))
  (ti_NoNumber : PySem.W.isClsIn K C_NoNumber = true)
  (th_NoNumber : PySem.W.hasDictIn K C_NoNumber = true)
  (tu_NoFraction_NoNumber : PySem.W.subIn K (.ref C_NoFraction) (.ref C_NoNumber) = some false)
  (ts_NoPlace : PySem.W.subIn K (.ref C_NoPlace) (.type "BaseException") = some true)
  (tt_NoPlace : PySem.W.typeIn K (.ref C_NoPlace) = some (.type "type"))
  (ti_NoPlace : PySem.W.isClsIn K C_NoPlace = true)
  (th_NoPlace : PySem.W.hasDictIn K C_NoPlace = true)
  (tu_NoFraction_NoPlace : PySem.W.subIn K (.ref C_NoFraction) (.ref C_NoPlace) = some false)
  (ts_NoBounds : PySem.W.subIn K (.ref C_NoBounds) (.type "BaseException") = some true)
  (tt_NoBounds : PySem.W.typeIn K (.ref C_NoBounds) = some (.type "type"))
  (ti_NoBounds : PySem.W.isClsIn K C_NoBounds = true)
  (th_NoBounds : PySem.W.hasDictIn K C_NoBounds = true)
  (tu_NoFraction_NoBounds : PySem.W.subIn K (.ref C_NoFraction) (.ref C_NoBounds) = some false)
  (ts_NoSpots : PySem.W.subIn K (.ref C_NoSpots) (.type "BaseException") = some true)
  (tt_NoSpots : PySem.W.typeIn K (.ref C_NoSpots) = some (.type "type"))
  (ti_NoSpots : PySem.W.isClsIn K C_NoSpots = true)
  (th_NoSpots : PySem.W.hasDictIn K C_NoSpots = true)
  (tu_NoFraction_NoSpots : PySem.W.subIn K (.ref C_NoFraction) (.ref C_NoSpots) = some false)
  (ts_NoPlane : PySem.W.subIn K (.ref C_NoPlane) (.type "BaseException") = some true)
  (tt_NoPlane : PySem.W.typeIn K (.ref C_NoPlane) = some (.type "type"))
  (ti_NoPlane : PySem.W.isClsIn K C_NoPlane = true)
  (th_NoPlane : PySem.W.hasDictIn K C_NoPlane = true)
  (tu_NoFraction_NoPlane : PySem.W.subIn K (.ref C_NoFraction) (.ref C_NoPlane) = some false)
  (ts_NoValues : PySem.W.subIn K (.ref C_NoValues) (.type "BaseException") = some true)
  (tt_NoValues : PySem.W.typeIn K (.ref C_NoValues) = some (.type "type"))
  (ti_NoValues : PySem.W.isClsIn K C_NoValues = true)
  (th_NoValues : PySem.W.hasDictIn K C_NoValues = true)
  (tu_NoFraction_NoValues : PySem.W.subIn K (.ref C_NoFraction) (.ref C_NoValues) = some false)
  (ts_NoPair : PySem.W.subIn K (.ref C_NoPair) (.type "BaseException") = some true)
  (tt_NoPair : PySem.W.typeIn K (.ref C_NoPair) = some (.type "type"))
  (ti_NoPair : PySem.W.isClsIn K C_NoPair = true)
  (th_NoPair : PySem.W.hasDictIn K C_NoPair = true)
  (tu_NoFraction_NoPair : PySem.W.subIn K (.ref C_NoFraction) (.ref C_NoPair) = some false)
  (ts_NoDirections : PySem.W.subIn K (.ref C_NoDirections) (.type "BaseException") = some true)
  (tt_NoDirections : PySem.W.typeIn K (.ref C_NoDirections) = some (.type "type"))
  (ti_NoDirections : PySem.W.isClsIn K C_NoDirections = true)
  (th_NoDirections : PySem.W.hasDictIn K C_NoDirections = true)
  (tu_NoFraction_NoDirections : PySem.W.subIn K (.ref C_NoFraction) (.ref C_NoDirections) = some false)
  (ts_NoDeed : PySem.W.subIn K (.ref C_NoDeed) (.type "BaseException") = some true)
  (tt_NoDeed : PySem.W.typeIn K (.ref C_NoDeed) = some (.type "type"))
  (ti_NoDeed : PySem.W.isClsIn K C_NoDeed = true)
  (th_NoDeed : PySem.W.hasDictIn K C_NoDeed = true)
  (tu_NoFraction_NoDeed : PySem.W.subIn K (.ref C_NoFraction) (.ref C_NoDeed) = some false)
  (ts_NoRow : PySem.W.subIn K (.ref C_NoRow) (.type "BaseException") = some true)
  (tt_NoRow : PySem.W.typeIn K (.ref C_NoRow) = some (.type "type"))
  (ti_NoRow : PySem.W.isClsIn K C_NoRow = true)
  (th_NoRow : PySem.W.hasDictIn K C_NoRow = true)
  (tu_NoFraction_NoRow : PySem.W.subIn K (.ref C_NoFraction) (.ref C_NoRow) = some false)
  (ehn : PySem.W.specialIn K (.builtin "object.__class__") "__get__" = some (some (.builtin "getset_descriptor.__get__")))
  (eht : PySem.W.takesIn K (.builtin "object.__class__") = some true)
  (z_isinstance : PySem.W.nsIn K mainGlobals "isinstance" = some none)
  (z_int : PySem.W.nsIn K mainGlobals "int" = some none)
  (z_bool : PySem.W.nsIn K mainGlobals "bool" = some none)
  (z_tuple : PySem.W.nsIn K mainGlobals "tuple" = some none)
  (z_len : PySem.W.nsIn K mainGlobals "len" = some none)
  (z_max : PySem.W.nsIn K mainGlobals "max" = some none)
  (z_abs : PySem.W.nsIn K mainGlobals "abs" = some none)
  (z_divmod : PySem.W.nsIn K mainGlobals "divmod" = some none)
  (z_range : PySem.W.nsIn K mainGlobals "range" = some none)
  (z_ValueError : PySem.W.nsIn K mainGlobals "ValueError" = some none)
  (z_any : PySem.W.nsIn K mainGlobals "any" = some none)
  (z_min : PySem.W.nsIn K mainGlobals "min" = some none)
  (i_gcd : PySem.W.nsIn K mainGlobals "gcd" = some (some (.builtin "math.gcd")))
  (av_NOUGHT : PySem.W.nsIn K mainGlobals "NOUGHT" = some (some (.ref c_NOUGHT)))
  (lv_NOUGHT : K.lookup c_NOUGHT = some ⟨.type "tuple", dd_NOUGHT, .seq #[.int 0 t0_NOUGHT, .int 1 t1_NOUGHT] n_NOUGHT, sl_NOUGHT⟩) :
    ∃ fd : FuncData, (∀ (s : Shared) (v : Value), BindsTo s fd ⟨[v], []⟩ [("_law_script", v)]) ∧ ∀ base : Heap, K.In base → base.Ns mainGlobals mg → FnOk P w K mg base (L2.CX P w) 10 fa fd ["_law_script"] (spTop K) := by
  have e := hfa.symm.trans (PySem.W.mg_of X G a_law)
  cases e
  have F_made := fun_mk (st := s_made) l_made c_made k_made
  have b_made := F_made.binds (ps := ["top", "bottom"]) fun _ _ _ _ _ _ us hl => match us, hl with | [_, _], _ => rfl
  have F_added := fun_mk (st := s_added) l_added c_added k_added
  have b_added := F_added.binds (ps := ["one", "other"]) fun _ _ _ _ _ _ us hl => match us, hl with | [_, _], _ => rfl
  have F_subtracted := fun_mk (st := s_subtracted) l_subtracted c_subtracted k_subtracted
  have b_subtracted := F_subtracted.binds (ps := ["one", "other"]) fun _ _ _ _ _ _ us hl => match us, hl with | [_, _], _ => rfl
  have F_multiplied := fun_mk (st := s_multiplied) l_multiplied c_multiplied k_multiplied
  have b_multiplied := F_multiplied.binds (ps := ["one", "other"]) fun _ _ _ _ _ _ us hl => match us, hl with | [_, _], _ => rfl
  have F_divided := fun_mk (st := s_divided) l_divided c_divided k_divided
  have b_divided := F_divided.binds (ps := ["one", "other"]) fun _ _ _ _ _ _ us hl => match us, hl with | [_, _], _ => rfl
  have F_negated := fun_mk (st := s_negated) l_negated c_negated k_negated
  have b_negated := F_negated.binds (ps := ["one"]) fun _ _ _ _ _ _ us hl => match us, hl with | [_], _ => rfl
  have F_is_less := fun_mk (st := s_is_less) l_is_less c_is_less k_is_less
  have b_is_less := F_is_less.binds (ps := ["one", "other"]) fun _ _ _ _ _ _ us hl => match us, hl with | [_, _], _ => rfl
  have F_is_whole := fun_mk (st := s_is_whole) l_is_whole c_is_whole k_is_whole
  have b_is_whole := F_is_whole.binds (ps := ["thing"]) fun _ _ _ _ _ _ us hl => match us, hl with | [_], _ => rfl
  have F_is_fraction := fun_mk (st := s_is_fraction) l_is_fraction c_is_fraction k_is_fraction
  have b_is_fraction := F_is_fraction.binds (ps := ["thing"]) fun _ _ _ _ _ _ us hl => match us, hl with | [_], _ => rfl
  have F_need_fraction := fun_mk (st := s_need_fraction) l_need_fraction c_need_fraction k_need_fraction
  have b_need_fraction := F_need_fraction.binds (ps := ["thing"]) fun _ _ _ _ _ _ us hl => match us, hl with | [_], _ => rfl
  have F_need_factor := fun_mk (st := s_need_factor) l_need_factor c_need_factor k_need_factor
  have b_need_factor := F_need_factor.binds (ps := ["thing"]) fun _ _ _ _ _ _ us hl => match us, hl with | [_], _ => rfl
  have F_fraction := fun_mk (st := s_fraction) l_fraction c_fraction k_fraction
  have b_fraction := F_fraction.binds (ps := ["top", "bottom"]) fun _ _ _ _ _ _ us hl => match us, hl with | [_, _], _ => rfl
  have F_plus := fun_mk (st := s_plus) l_plus c_plus k_plus
  have b_plus := F_plus.binds (ps := ["one", "other"]) fun _ _ _ _ _ _ us hl => match us, hl with | [_, _], _ => rfl
  have F_less := fun_mk (st := s_less) l_less c_less k_less
  have b_less := F_less.binds (ps := ["one", "other"]) fun _ _ _ _ _ _ us hl => match us, hl with | [_, _], _ => rfl
  have F_times := fun_mk (st := s_times) l_times c_times k_times
  have b_times := F_times.binds (ps := ["one", "other"]) fun _ _ _ _ _ _ us hl => match us, hl with | [_, _], _ => rfl
  have F_over := fun_mk (st := s_over) l_over c_over k_over
  have b_over := F_over.binds (ps := ["one", "other"]) fun _ _ _ _ _ _ us hl => match us, hl with | [_, _], _ => rfl
  have F_opposite := fun_mk (st := s_opposite) l_opposite c_opposite k_opposite
  have b_opposite := F_opposite.binds (ps := ["one"]) fun _ _ _ _ _ _ us hl => match us, hl with | [_], _ => rfl
  have F_is_below := fun_mk (st := s_is_below) l_is_below c_is_below k_is_below
  have b_is_below := F_is_below.binds (ps := ["one", "other"]) fun _ _ _ _ _ _ us hl => match us, hl with | [_, _], _ => rfl
  have F__law_cell := fun_mk (st := s__law_cell) l__law_cell c__law_cell k__law_cell
  have b__law_cell := F__law_cell.binds (ps := ["_law_script", "_law_k"]) fun _ _ _ _ _ _ us hl => match us, hl with | [_, _], _ => rfl
  have F__law_pot := fun_mk (st := s__law_pot) l__law_pot c__law_pot k__law_pot
  have b__law_pot := F__law_pot.binds (ps := ["_law_cell_here"]) fun _ _ _ _ _ _ us hl => match us, hl with | [_], _ => rfl
  have F__law_draw := fun_mk (st := s__law_draw) l__law_draw c__law_draw k__law_draw
  have b__law_draw := F__law_draw.binds (ps := ["_law_pot_here", "_law_many"]) fun _ _ _ _ _ _ us hl => match us, hl with | [_, _], _ => rfl
  have F__law_great := fun_mk (st := s__law_great) l__law_great c__law_great k__law_great
  have b__law_great := F__law_great.binds (ps := ["_law_pot_here", "_law_many"]) fun _ _ _ _ _ _ us hl => match us, hl with | [_, _], _ => rfl
  have F__law_low := fun_mk (st := s__law_low) l__law_low c__law_low k__law_low
  have b__law_low := F__law_low.binds (ps := ["_law_top", "_law_bottom"]) fun _ _ _ _ _ _ us hl => match us, hl with | [_, _], _ => rfl
  have F__law_plus := fun_mk (st := s__law_plus) l__law_plus c__law_plus k__law_plus
  have b__law_plus := F__law_plus.binds (ps := ["_law_one_here", "_law_other"]) fun _ _ _ _ _ _ us hl => match us, hl with | [_, _], _ => rfl
  have F__law_less := fun_mk (st := s__law_less) l__law_less c__law_less k__law_less
  have b__law_less := F__law_less.binds (ps := ["_law_one_here", "_law_other"]) fun _ _ _ _ _ _ us hl => match us, hl with | [_, _], _ => rfl
  have F__law_times := fun_mk (st := s__law_times) l__law_times c__law_times k__law_times
  have b__law_times := F__law_times.binds (ps := ["_law_one_here", "_law_other"]) fun _ _ _ _ _ _ us hl => match us, hl with | [_, _], _ => rfl
  have F__law_over := fun_mk (st := s__law_over) l__law_over c__law_over k__law_over
  have b__law_over := F__law_over.binds (ps := ["_law_one_here", "_law_other"]) fun _ _ _ _ _ _ us hl => match us, hl with | [_, _], _ => rfl
  have F__law_below := fun_mk (st := s__law_below) l__law_below c__law_below k__law_below
  have b__law_below := F__law_below.binds (ps := ["_law_one_here", "_law_other"]) fun _ _ _ _ _ _ us hl => match us, hl with | [_, _], _ => rfl
  have F__law_small := fun_mk (st := s__law_small) l__law_small c__law_small k__law_small
  have b__law_small := F__law_small.binds (ps := ["_law_pot_here"]) fun _ _ _ _ _ _ us hl => match us, hl with | [_], _ => rfl
  have F__law_far := fun_mk (st := s__law_far) l__law_far c__law_far k__law_far
  have b__law_far := F__law_far.binds (ps := ["_law_pot_here"]) fun _ _ _ _ _ _ us hl => match us, hl with | [_], _ => rfl
  have F__law_one := fun_mk (st := s__law_one) l__law_one c__law_one k__law_one
  have b__law_one := F__law_one.binds (ps := ["_law_pot_here"]) fun _ _ _ _ _ _ us hl => match us, hl with | [_], _ => rfl
  have F__law_number := fun_mk (st := s__law_number) l__law_number c__law_number k__law_number
  have b__law_number := F__law_number.binds (ps := ["_law_pot_here"]) fun _ _ _ _ _ _ us hl => match us, hl with | [_], _ => rfl
  have F__law_refused := fun_mk (st := s__law_refused) l__law_refused c__law_refused k__law_refused
  have b__law_refused := F__law_refused.binds (ps := ["_law_way", "_law_one_here", "_law_other"]) fun _ _ _ _ _ _ us hl => match us, hl with | [_, _, _], _ => rfl
  have F__law_is_right := fun_mk (st := s__law_is_right) l__law_is_right c__law_is_right k__law_is_right
  have b__law_is_right := F__law_is_right.binds (ps := ["_law_found", "_law_due"]) fun _ _ _ _ _ _ us hl => match us, hl with | [_, _], _ => rfl
  have F__law_reckoned := fun_mk (st := s__law_reckoned) l__law_reckoned c__law_reckoned k__law_reckoned
  have b__law_reckoned := F__law_reckoned.binds (ps := ["_law_one_here", "_law_other"]) fun _ _ _ _ _ _ us hl => match us, hl with | [_, _], _ => rfl
  have F__law_right := fun_mk (st := s__law_right) l__law_right c__law_right k__law_right
  have b__law_right := F__law_right.binds (ps := ["_law_pot_here"]) fun _ _ _ _ _ _ us hl => match us, hl with | [_], _ => rfl
  have F_law := fun_mk (st := s_law) l_law c_law k_law
  have b_law := F_law.binds (ps := ["_law_script"]) fun _ _ _ _ _ _ us hl => match us, hl with | [_], _ => rfl
  let a : Ad := { f_made := f_made, d_made := PySem.W.fnOf "made" "made" (defArgs s_made) (defBody s_made) (defScope s_made) .none kV_made dc_made pm_made an_made cd_made ct_made, f_added := f_added, d_added := PySem.W.fnOf "added" "added" (defArgs s_added) (defBody s_added) (defScope s_added) .none kV_added dc_added pm_added an_added cd_added ct_added, f_subtracted := f_subtracted, d_subtracted := PySem.W.fnOf "subtracted" "subtracted" (defArgs s_subtracted) (defBody s_subtracted) (defScope s_subtracted) .none kV_subtracted dc_subtracted pm_subtracted an_subtracted cd_subtracted ct_subtracted, f_multiplied := f_multiplied, d_multiplied := PySem.W.fnOf "multiplied" "multiplied" (defArgs s_multiplied) (defBody s_multiplied) (defScope s_multiplied) .none kV_multiplied dc_multiplied pm_multiplied an_multiplied cd_multiplied ct_multiplied, f_divided := f_divided, d_divided := PySem.W.fnOf "divided" "divided" (defArgs s_divided) (defBody s_divided) (defScope s_divided) .none kV_divided dc_divided pm_divided an_divided cd_divided ct_divided, f_negated := f_negated, d_negated := PySem.W.fnOf "negated" "negated" (defArgs s_negated) (defBody s_negated) (defScope s_negated) .none kV_negated dc_negated pm_negated an_negated cd_negated ct_negated, f_is_less := f_is_less, d_is_less := PySem.W.fnOf "is_less" "is_less" (defArgs s_is_less) (defBody s_is_less) (defScope s_is_less) .none kV_is_less dc_is_less pm_is_less an_is_less cd_is_less ct_is_less, f_is_whole := f_is_whole, d_is_whole := PySem.W.fnOf "is_whole" "is_whole" (defArgs s_is_whole) (defBody s_is_whole) (defScope s_is_whole) .none kV_is_whole dc_is_whole pm_is_whole an_is_whole cd_is_whole ct_is_whole, f_is_fraction := f_is_fraction, d_is_fraction := PySem.W.fnOf "is_fraction" "is_fraction" (defArgs s_is_fraction) (defBody s_is_fraction) (defScope s_is_fraction) .none kV_is_fraction dc_is_fraction pm_is_fraction an_is_fraction cd_is_fraction ct_is_fraction, f_need_fraction := f_need_fraction, d_need_fraction := PySem.W.fnOf "need_fraction" "need_fraction" (defArgs s_need_fraction) (defBody s_need_fraction) (defScope s_need_fraction) .none kV_need_fraction dc_need_fraction pm_need_fraction an_need_fraction cd_need_fraction ct_need_fraction, f_need_factor := f_need_factor, d_need_factor := PySem.W.fnOf "need_factor" "need_factor" (defArgs s_need_factor) (defBody s_need_factor) (defScope s_need_factor) .none kV_need_factor dc_need_factor pm_need_factor an_need_factor cd_need_factor ct_need_factor, f_fraction := f_fraction, d_fraction := PySem.W.fnOf "fraction" "fraction" (defArgs s_fraction) (defBody s_fraction) (defScope s_fraction) .none kV_fraction dc_fraction pm_fraction an_fraction cd_fraction ct_fraction, f_plus := f_plus, d_plus := PySem.W.fnOf "plus" "plus" (defArgs s_plus) (defBody s_plus) (defScope s_plus) .none kV_plus dc_plus pm_plus an_plus cd_plus ct_plus, f_less := f_less, d_less := PySem.W.fnOf "less" "less" (defArgs s_less) (defBody s_less) (defScope s_less) .none kV_less dc_less pm_less an_less cd_less ct_less, f_times := f_times, d_times := PySem.W.fnOf "times" "times" (defArgs s_times) (defBody s_times) (defScope s_times) .none kV_times dc_times pm_times an_times cd_times ct_times, f_over := f_over, d_over := PySem.W.fnOf "over" "over" (defArgs s_over) (defBody s_over) (defScope s_over) .none kV_over dc_over pm_over an_over cd_over ct_over, f_opposite := f_opposite, d_opposite := PySem.W.fnOf "opposite" "opposite" (defArgs s_opposite) (defBody s_opposite) (defScope s_opposite) .none kV_opposite dc_opposite pm_opposite an_opposite cd_opposite ct_opposite, f_is_below := f_is_below, d_is_below := PySem.W.fnOf "is_below" "is_below" (defArgs s_is_below) (defBody s_is_below) (defScope s_is_below) .none kV_is_below dc_is_below pm_is_below an_is_below cd_is_below ct_is_below, f__law_cell := f__law_cell, d__law_cell := PySem.W.fnOf "_law_cell" "_law_cell" (defArgs s__law_cell) (defBody s__law_cell) (defScope s__law_cell) .none kV__law_cell dc__law_cell pm__law_cell an__law_cell cd__law_cell ct__law_cell, f__law_pot := f__law_pot, d__law_pot := PySem.W.fnOf "_law_pot" "_law_pot" (defArgs s__law_pot) (defBody s__law_pot) (defScope s__law_pot) .none kV__law_pot dc__law_pot pm__law_pot an__law_pot cd__law_pot ct__law_pot, f__law_draw := f__law_draw, d__law_draw := PySem.W.fnOf "_law_draw" "_law_draw" (defArgs s__law_draw) (defBody s__law_draw) (defScope s__law_draw) .none kV__law_draw dc__law_draw pm__law_draw an__law_draw cd__law_draw ct__law_draw, f__law_great := f__law_great, d__law_great := PySem.W.fnOf "_law_great" "_law_great" (defArgs s__law_great) (defBody s__law_great) (defScope s__law_great) .none kV__law_great dc__law_great pm__law_great an__law_great cd__law_great ct__law_great, f__law_low := f__law_low, d__law_low := PySem.W.fnOf "_law_low" "_law_low" (defArgs s__law_low) (defBody s__law_low) (defScope s__law_low) .none kV__law_low dc__law_low pm__law_low an__law_low cd__law_low ct__law_low, f__law_plus := f__law_plus, d__law_plus := PySem.W.fnOf "_law_plus" "_law_plus" (defArgs s__law_plus) (defBody s__law_plus) (defScope s__law_plus) .none kV__law_plus dc__law_plus pm__law_plus an__law_plus cd__law_plus ct__law_plus, f__law_less := f__law_less, d__law_less := PySem.W.fnOf "_law_less" "_law_less" (defArgs s__law_less) (defBody s__law_less) (defScope s__law_less) .none kV__law_less dc__law_less pm__law_less an__law_less cd__law_less ct__law_less, f__law_times := f__law_times, d__law_times := PySem.W.fnOf "_law_times" "_law_times" (defArgs s__law_times) (defBody s__law_times) (defScope s__law_times) .none kV__law_times dc__law_times pm__law_times an__law_times cd__law_times ct__law_times, f__law_over := f__law_over, d__law_over := PySem.W.fnOf "_law_over" "_law_over" (defArgs s__law_over) (defBody s__law_over) (defScope s__law_over) .none kV__law_over dc__law_over pm__law_over an__law_over cd__law_over ct__law_over, f__law_below := f__law_below, d__law_below := PySem.W.fnOf "_law_below" "_law_below" (defArgs s__law_below) (defBody s__law_below) (defScope s__law_below) .none kV__law_below dc__law_below pm__law_below an__law_below cd__law_below ct__law_below, f__law_small := f__law_small, d__law_small := PySem.W.fnOf "_law_small" "_law_small" (defArgs s__law_small) (defBody s__law_small) (defScope s__law_small) .none kV__law_small dc__law_small pm__law_small an__law_small cd__law_small ct__law_small, f__law_far := f__law_far, d__law_far := PySem.W.fnOf "_law_far" "_law_far" (defArgs s__law_far) (defBody s__law_far) (defScope s__law_far) .none kV__law_far dc__law_far pm__law_far an__law_far cd__law_far ct__law_far, f__law_one := f__law_one, d__law_one := PySem.W.fnOf "_law_one" "_law_one" (defArgs s__law_one) (defBody s__law_one) (defScope s__law_one) .none kV__law_one dc__law_one pm__law_one an__law_one cd__law_one ct__law_one, f__law_number := f__law_number, d__law_number := PySem.W.fnOf "_law_number" "_law_number" (defArgs s__law_number) (defBody s__law_number) (defScope s__law_number) .none kV__law_number dc__law_number pm__law_number an__law_number cd__law_number ct__law_number, f__law_refused := f__law_refused, d__law_refused := PySem.W.fnOf "_law_refused" "_law_refused" (defArgs s__law_refused) (defBody s__law_refused) (defScope s__law_refused) .none kV__law_refused dc__law_refused pm__law_refused an__law_refused cd__law_refused ct__law_refused, f__law_is_right := f__law_is_right, d__law_is_right := PySem.W.fnOf "_law_is_right" "_law_is_right" (defArgs s__law_is_right) (defBody s__law_is_right) (defScope s__law_is_right) .none kV__law_is_right dc__law_is_right pm__law_is_right an__law_is_right cd__law_is_right ct__law_is_right, f__law_reckoned := f__law_reckoned, d__law_reckoned := PySem.W.fnOf "_law_reckoned" "_law_reckoned" (defArgs s__law_reckoned) (defBody s__law_reckoned) (defScope s__law_reckoned) .none kV__law_reckoned dc__law_reckoned pm__law_reckoned an__law_reckoned cd__law_reckoned ct__law_reckoned, f__law_right := f__law_right, d__law_right := PySem.W.fnOf "_law_right" "_law_right" (defArgs s__law_right) (defBody s__law_right) (defScope s__law_right) .none kV__law_right dc__law_right pm__law_right an__law_right cd__law_right ct__law_right, f_law := fa, d_law := PySem.W.fnOf "law" "law" (defArgs s_law) (defBody s_law) (defScope s_law) .none kV_law dc_law pm_law an_law cd_law ct_law, C_LineError := C_LineError, C_NoFraction := C_NoFraction, C_NoText := C_NoText, C_NoPoints := C_NoPoints, C_NoPrices := C_NoPrices, C_NoLine := C_NoLine, C_NoLines := C_NoLines, C_NoShares := C_NoShares, C_NoSpread := C_NoSpread, C_NoNumber := C_NoNumber, C_NoPlace := C_NoPlace, C_NoBounds := C_NoBounds, C_NoSpots := C_NoSpots, C_NoPlane := C_NoPlane, C_NoValues := C_NoValues, C_NoPair := C_NoPair, C_NoDirections := C_NoDirections, C_NoDeed := C_NoDeed, C_NoRow := C_NoRow, c_NOUGHT := c_NOUGHT }
  have T : Txt K mg a := ⟨F_made,
    b_made,
    PySem.W.mg_of X G a_made,
    F_added,
    b_added,
    PySem.W.mg_of X G a_added,
    F_subtracted,
    b_subtracted,
    PySem.W.mg_of X G a_subtracted,
    F_multiplied,
    b_multiplied,
    PySem.W.mg_of X G a_multiplied,
    F_divided,
    b_divided,
    PySem.W.mg_of X G a_divided,
    F_negated,
    b_negated,
    PySem.W.mg_of X G a_negated,
    F_is_less,
    b_is_less,
    PySem.W.mg_of X G a_is_less,
    F_is_whole,
    b_is_whole,
    PySem.W.mg_of X G a_is_whole,
    F_is_fraction,
    b_is_fraction,
    PySem.W.mg_of X G a_is_fraction,
    F_need_fraction,
    b_need_fraction,
    PySem.W.mg_of X G a_need_fraction,
    F_need_factor,
    b_need_factor,
    PySem.W.mg_of X G a_need_factor,
    F_fraction,
    b_fraction,
    PySem.W.mg_of X G a_fraction,
    F_plus,
    b_plus,
    PySem.W.mg_of X G a_plus,
    F_less,
    b_less,
    PySem.W.mg_of X G a_less,
    F_times,
    b_times,
    PySem.W.mg_of X G a_times,
    F_over,
    b_over,
    PySem.W.mg_of X G a_over,
    F_opposite,
    b_opposite,
    PySem.W.mg_of X G a_opposite,
    F_is_below,
    b_is_below,
    PySem.W.mg_of X G a_is_below,
    F__law_cell,
    b__law_cell,
    PySem.W.mg_of X G a__law_cell,
    F__law_pot,
    b__law_pot,
    PySem.W.mg_of X G a__law_pot,
    F__law_draw,
    b__law_draw,
    PySem.W.mg_of X G a__law_draw,
    F__law_great,
    b__law_great,
    PySem.W.mg_of X G a__law_great,
    F__law_low,
    b__law_low,
    PySem.W.mg_of X G a__law_low,
    F__law_plus,
    b__law_plus,
    PySem.W.mg_of X G a__law_plus,
    F__law_less,
    b__law_less,
    PySem.W.mg_of X G a__law_less,
    F__law_times,
    b__law_times,
    PySem.W.mg_of X G a__law_times,
    F__law_over,
    b__law_over,
    PySem.W.mg_of X G a__law_over,
    F__law_below,
    b__law_below,
    PySem.W.mg_of X G a__law_below,
    F__law_small,
    b__law_small,
    PySem.W.mg_of X G a__law_small,
    F__law_far,
    b__law_far,
    PySem.W.mg_of X G a__law_far,
    F__law_one,
    b__law_one,
    PySem.W.mg_of X G a__law_one,
    F__law_number,
    b__law_number,
    PySem.W.mg_of X G a__law_number,
    F__law_refused,
    b__law_refused,
    PySem.W.mg_of X G a__law_refused,
    F__law_is_right,
    b__law_is_right,
    PySem.W.mg_of X G a__law_is_right,
    F__law_reckoned,
    b__law_reckoned,
    PySem.W.mg_of X G a__law_reckoned,
    F__law_right,
    b__law_right,
    PySem.W.mg_of X G a__law_right,
    F_law,
    b_law,
    PySem.W.mg_of X G a_law,
    PySem.W.mg_of X G ac_LineError,
    ts_LineError,
    tt_LineError,
    ti_LineError,
    th_LineError,
    tu_NoFraction_LineError,
    PySem.W.mg_of X G ac_NoFraction,
    tx_NoFraction,
    tk_NoFraction,
    ⟨ehg_NoFraction, ehk_NoFraction, ts_NoFraction, th_NoFraction, eha_NoFraction, ehn, eht, ehm_NoFraction⟩,
    tkv_NoFraction,
    ts_NoFraction,
    tt_NoFraction,
    ti_NoFraction,
    th_NoFraction,
    tu_NoFraction_NoFraction,
    PySem.W.mg_of X G ac_NoText,
    ts_NoText,
    tt_NoText,
    ti_NoText,
    th_NoText,
    tu_NoFraction_NoText,
    PySem.W.mg_of X G ac_NoPoints,
    ts_NoPoints,
    tt_NoPoints,
    ti_NoPoints,
    th_NoPoints,
    tu_NoFraction_NoPoints,
    PySem.W.mg_of X G ac_NoPrices,
    ts_NoPrices,
    tt_NoPrices,
    ti_NoPrices,
    th_NoPrices,
    tu_NoFraction_NoPrices,
    PySem.W.mg_of X G ac_NoLine,
    ts_NoLine,
    tt_NoLine,
    ti_NoLine,
    th_NoLine,
    tu_NoFraction_NoLine,
    PySem.W.mg_of X G ac_NoLines,
    ts_NoLines,
    tt_NoLines,
    ti_NoLines,
    th_NoLines,
    tu_NoFraction_NoLines,
    PySem.W.mg_of X G ac_NoShares,
    ts_NoShares,
    tt_NoShares,
    ti_NoShares,
    th_NoShares,
    tu_NoFraction_NoShares,
    PySem.W.mg_of X G ac_NoSpread,
    ts_NoSpread,
    tt_NoSpread,
    ti_NoSpread,
    th_NoSpread,
    tu_NoFraction_NoSpread,
    PySem.W.mg_of X G ac_NoNumber,
    ts_NoNumber,
    tt_NoNumber,
    ti_NoNumber,
    th_NoNumber,
    tu_NoFraction_NoNumber,
    PySem.W.mg_of X G ac_NoPlace,
    ts_NoPlace,
    tt_NoPlace,
    ti_NoPlace,
    th_NoPlace,
    tu_NoFraction_NoPlace,
    PySem.W.mg_of X G ac_NoBounds,
    ts_NoBounds,
    tt_NoBounds,
    ti_NoBounds,
    th_NoBounds,
    tu_NoFraction_NoBounds,
    PySem.W.mg_of X G ac_NoSpots,
    ts_NoSpots,
    tt_NoSpots,
    ti_NoSpots,
    th_NoSpots,
    tu_NoFraction_NoSpots,
    PySem.W.mg_of X G ac_NoPlane,
    ts_NoPlane,
    tt_NoPlane,
    ti_NoPlane,
    th_NoPlane,
    tu_NoFraction_NoPlane,
    PySem.W.mg_of X G ac_NoValues,
    ts_NoValues,
    tt_NoValues,
    ti_NoValues,
    th_NoValues,
    tu_NoFraction_NoValues,
    PySem.W.mg_of X G ac_NoPair,
    ts_NoPair,
    tt_NoPair,
    ti_NoPair,
    th_NoPair,
    tu_NoFraction_NoPair,
    PySem.W.mg_of X G ac_NoDirections,
    ts_NoDirections,
    tt_NoDirections,
    ti_NoDirections,
    th_NoDirections,
    tu_NoFraction_NoDirections,
    PySem.W.mg_of X G ac_NoDeed,
    ts_NoDeed,
    tt_NoDeed,
    ti_NoDeed,
    th_NoDeed,
    tu_NoFraction_NoDeed,
    PySem.W.mg_of X G ac_NoRow,
    ts_NoRow,
    tt_NoRow,
    ti_NoRow,
    th_NoRow,
    tu_NoFraction_NoRow,
    PySem.W.mg_none_of X G z_isinstance,
    PySem.W.mg_none_of X G z_int,
    PySem.W.mg_none_of X G z_bool,
    PySem.W.mg_none_of X G z_tuple,
    PySem.W.mg_none_of X G z_len,
    PySem.W.mg_none_of X G z_max,
    PySem.W.mg_none_of X G z_abs,
    PySem.W.mg_none_of X G z_divmod,
    PySem.W.mg_none_of X G z_range,
    PySem.W.mg_none_of X G z_ValueError,
    PySem.W.mg_none_of X G z_any,
    PySem.W.mg_none_of X G z_min,
    PySem.W.mg_of X G i_gcd,
    ⟨_, PySem.W.mg_of X G av_NOUGHT, rfl⟩,
    fun _ => .inr ⟨_, _, _, lv_NOUGHT, rfl, rfl, (by show 2 ≤ sizeLine; decide), .cons ⟨_, rfl⟩ (.cons ⟨_, rfl⟩ (.nil))⟩⟩
  exact ⟨a.d_law, fun s v => .of_eq rfl, fun base _ _ => ok_law T⟩
theorem walk {l : PySem.W.OpenLaw} {q : Program} {loose : List Str} {XP : (Str → Option Value) → Heap → Prop} {YP : World → Heap → Prop} {d : DefRec} {K : Params → PySem.W.Frag} (hn : l.most = some 63) (hdf : d.params.defaults = [])
    (hY : ∀ (w : World) (h : Heap), YP w h → (K w.params).In h)
    (F : ∀ (w : World) (mg : Str → Option Value) (fa : Addr) (h : Heap), (K w.params).In h → h.Ns mainGlobals mg → mg d.name = some (.ref fa) →
      ∃ fd : FuncData, (∀ (s : Shared) (u : Value), BindsTo s fd ⟨[u], []⟩ [("_law_script", u)]) ∧ ∀ base : Heap, (K w.params).In base → base.Ns mainGlobals mg → FnOk l.prog w (K w.params) mg base (L2.CX l.prog w) 10 fa fd ["_law_script"] (spTop (K w.params))) :
    PySem.W.WalkO q loose XP YP l.row.toRowW d [] (fun f vs => PySem.call f vs) :=
  L2.walk_of (n := 63) (k := 10) (x := "_law_script") (CX := fun w => L2.CX l.prog w) (sp := fun w => spTop (K w.params)) hn (by decide) hdf ⟨rfl, by decide, by decide⟩ hY F (fun _ _ a ns hl _ hS => ⟨a, ns, rfl, hS, hl, fun _ => rfl⟩) fun _ _ _ _ _ z => by
    obtain ⟨_, _, _, _, _, _, _, _, _, _, _, _, z⟩ := z
    exact z
end Lw
open PySem PySem.W PyProof.Rows
set_option maxRecDepth 100000 in
set_option maxHeartbeats 0 in
theorem PySem.Challenge.cw_signlines_k11_fractions_reckoned_holds : PySem.Challenge.rw_signlines_k11_fractions_reckoned.Holds := by
  w_on; o_law; k_head; (case hw => w_witness2)
  k_fill
  refine Lw.walk (l := PySem.Challenge.rw_signlines_k11_fractions_reckoned) rfl rfl (fun w h Y => PySem.W.kIn_of Y) ?F
  case F =>
    intro w mg fa h KX G hmg
    refine' Lw.all_mk KX G hmg ?a_made ?l_made ?c_made ?k_made ?a_added ?l_added ?c_added ?k_added ?a_subtracted ?l_subtracted ?c_subtracted ?k_subtracted ?a_multiplied ?l_multiplied ?c_multiplied ?k_multiplied ?a_divided ?l_divided ?c_divided ?k_divided ?a_negated ?l_negated ?c_negated ?k_negated ?a_is_less ?l_is_less ?c_is_less ?k_is_less ?a_is_whole ?l_is_whole ?c_is_whole ?k_is_whole ?a_is_fraction ?l_is_fraction ?c_is_fraction ?k_is_fraction ?a_need_fraction ?l_need_fraction ?c_need_fraction ?k_need_fraction ?a_need_factor ?l_need_factor ?c_need_factor ?k_need_factor ?a_fraction ?l_fraction ?c_fraction ?k_fraction ?a_plus ?l_plus ?c_plus ?k_plus ?a_less ?l_less ?c_less ?k_less ?a_times ?l_times ?c_times ?k_times ?a_over ?l_over ?c_over ?k_over ?a_opposite ?l_opposite ?c_opposite ?k_opposite ?a_is_below ?l_is_below ?c_is_below ?k_is_below ?a__law_cell ?l__law_cell ?c__law_cell ?k__law_cell ?a__law_pot ?l__law_pot ?c__law_pot ?k__law_pot ?a__law_draw ?l__law_draw ?c__law_draw ?k__law_draw ?a__law_great ?l__law_great ?c__law_great ?k__law_great ?a__law_low ?l__law_low ?c__law_low ?k__law_low ?a__law_plus ?l__law_plus ?c__law_plus ?k__law_plus ?a__law_less ?l__law_less ?c__law_less ?k__law_less ?a__law_times ?l__law_times ?c__law_times ?k__law_times ?a__law_over ?l__law_over ?c__law_over ?k__law_over ?a__law_below ?l__law_below ?c__law_below ?k__law_below ?a__law_small ?l__law_small ?c__law_small ?k__law_small ?a__law_far ?l__law_far ?c__law_far ?k__law_far ?a__law_one ?l__law_one ?c__law_one ?k__law_one ?a__law_number ?l__law_number ?c__law_number ?k__law_number ?a__law_refused ?l__law_refused ?c__law_refused ?k__law_refused ?a__law_is_right ?l__law_is_right ?c__law_is_right ?k__law_is_right ?a__law_reckoned ?l__law_reckoned ?c__law_reckoned ?k__law_reckoned ?a__law_right ?l__law_right ?c__law_right ?k__law_right ?a_law ?l_law ?c_law ?k_law ?ac_LineError ?ac_NoFraction ?ac_NoText ?ac_NoPoints ?ac_NoPrices ?ac_NoLine ?ac_NoLines ?ac_NoShares ?ac_NoSpread ?ac_NoNumber ?ac_NoPlace ?ac_NoBounds ?ac_NoSpots ?ac_NoPlane ?ac_NoValues ?ac_NoPair ?ac_NoDirections ?ac_NoDeed ?ac_NoRow ?ts_LineError ?tt_LineError ?ti_LineError ?th_LineError ?tu_NoFraction_LineError ?tx_NoFraction ?tk_NoFraction ?ehg_NoFraction ?ehk_NoFraction ?eha_NoFraction ?ehm_NoFraction ?tkv_NoFraction ?ts_NoFraction ?tt_NoFraction ?ti_NoFraction ?th_NoFraction ?tu_NoFraction_NoFraction ?ts_NoText ?tt_NoText ?ti_NoText ?th_NoText ?tu_NoFraction_NoText ?ts_NoPoints ?tt_NoPoints ?ti_NoPoints ?th_NoPoints ?tu_NoFraction_NoPoints ?ts_NoPrices ?tt_NoPrices ?ti_NoPrices ?th_NoPrices ?tu_NoFraction_NoPrices ?ts_NoLine ?tt_NoLine ?ti_NoLine ?th_NoLine ?tu_NoFraction_NoLine ?ts_NoLines ?tt_NoLines ?ti_NoLines ?th_NoLines ?tu_NoFraction_NoLines ?ts_NoShares ?tt_NoShares ?ti_NoShares ?th_NoShares ?tu_NoFraction_NoShares ?ts_NoSpread ?tt_NoSpread ?ti_NoSpread ?th_NoSpread ?tu_NoFraction_NoSpread ?ts_NoNumber ?tt_NoNumber ?ti_NoNumber ?th_NoNumber ?tu_NoFraction_NoNumber ?ts_NoPlace ?tt_NoPlace ?ti_NoPlace ?th_NoPlace ?tu_NoFraction_NoPlace ?ts_NoBounds ?tt_NoBounds ?ti_NoBounds ?th_NoBounds ?tu_NoFraction_NoBounds ?ts_NoSpots ?tt_NoSpots ?ti_NoSpots ?th_NoSpots ?tu_NoFraction_NoSpots ?ts_NoPlane ?tt_NoPlane ?ti_NoPlane ?th_NoPlane ?tu_NoFraction_NoPlane ?ts_NoValues ?tt_NoValues ?ti_NoValues ?th_NoValues ?tu_NoFraction_NoValues ?ts_NoPair ?tt_NoPair ?ti_NoPair ?th_NoPair ?tu_NoFraction_NoPair ?ts_NoDirections ?tt_NoDirections ?ti_NoDirections ?th_NoDirections ?tu_NoFraction_NoDirections ?ts_NoDeed ?tt_NoDeed ?ti_NoDeed ?th_NoDeed ?tu_NoFraction_NoDeed ?ts_NoRow ?tt_NoRow ?ti_NoRow ?th_NoRow ?tu_NoFraction_NoRow ?ehn ?eht ?z_isinstance ?z_int ?z_bool ?z_tuple ?z_len ?z_max ?z_abs ?z_divmod ?z_range ?z_ValueError ?z_any ?z_min ?i_gcd ?av_NOUGHT ?lv_NOUGHT
    (case a_made => k_is)
    (case l_made => k_is)
    (case c_made => k_is)
    (case k_made => k_is)
    (case a_added => k_is)
    (case l_added => k_is)
    (case c_added => k_is)
    (case k_added => k_is)
    (case a_subtracted => k_is)
    (case l_subtracted => k_is)
    (case c_subtracted => k_is)
    (case k_subtracted => k_is)
    (case a_multiplied => k_is)
    (case l_multiplied => k_is)
    (case c_multiplied => k_is)
    (case k_multiplied => k_is)
    (case a_divided => k_is)
    (case l_divided => k_is)
    (case c_divided => k_is)
    (case k_divided => k_is)
    (case a_negated => k_is)
    (case l_negated => k_is)
    (case c_negated => k_is)
    (case k_negated => k_is)
    (case a_is_less => k_is)
    (case l_is_less => k_is)
    (case c_is_less => k_is)
    (case k_is_less => k_is)
    (case a_is_whole => k_is)
    (case l_is_whole => k_is)
    (case c_is_whole => k_is)
    (case k_is_whole => k_is)
    (case a_is_fraction => k_is)
    (case l_is_fraction => k_is)
    (case c_is_fraction => k_is)
    (case k_is_fraction => k_is)
    (case a_need_fraction => k_is)
    (case l_need_fraction => k_is)
    (case c_need_fraction => k_is)
    (case k_need_fraction => k_is)
    (case a_need_factor => k_is)
    (case l_need_factor => k_is)
    (case c_need_factor => k_is)
    (case k_need_factor => k_is)
    (case a_fraction => k_is)
    (case l_fraction => k_is)
    (case c_fraction => k_is)
    (case k_fraction => k_is)
    (case a_plus => k_is)
    (case l_plus => k_is)
    (case c_plus => k_is)
    (case k_plus => k_is)
    (case a_less => k_is)
    (case l_less => k_is)
    (case c_less => k_is)
    (case k_less => k_is)
    (case a_times => k_is)
    (case l_times => k_is)
    (case c_times => k_is)
    (case k_times => k_is)
    (case a_over => k_is)
    (case l_over => k_is)
    (case c_over => k_is)
    (case k_over => k_is)
    (case a_opposite => k_is)
    (case l_opposite => k_is)
    (case c_opposite => k_is)
    (case k_opposite => k_is)
    (case a_is_below => k_is)
    (case l_is_below => k_is)
    (case c_is_below => k_is)
    (case k_is_below => k_is)
    (case a__law_cell => k_is)
    (case l__law_cell => k_is)
    (case c__law_cell => k_is)
    (case k__law_cell => k_is)
    (case a__law_pot => k_is)
    (case l__law_pot => k_is)
    (case c__law_pot => k_is)
    (case k__law_pot => k_is)
    (case a__law_draw => k_is)
    (case l__law_draw => k_is)
    (case c__law_draw => k_is)
    (case k__law_draw => k_is)
    (case a__law_great => k_is)
    (case l__law_great => k_is)
    (case c__law_great => k_is)
    (case k__law_great => k_is)
    (case a__law_low => k_is)
    (case l__law_low => k_is)
    (case c__law_low => k_is)
    (case k__law_low => k_is)
    (case a__law_plus => k_is)
    (case l__law_plus => k_is)
    (case c__law_plus => k_is)
    (case k__law_plus => k_is)
    (case a__law_less => k_is)
    (case l__law_less => k_is)
    (case c__law_less => k_is)
    (case k__law_less => k_is)
    (case a__law_times => k_is)
    (case l__law_times => k_is)
    (case c__law_times => k_is)
    (case k__law_times => k_is)
    (case a__law_over => k_is)
    (case l__law_over => k_is)
    (case c__law_over => k_is)
    (case k__law_over => k_is)
    (case a__law_below => k_is)
    (case l__law_below => k_is)
    (case c__law_below => k_is)
    (case k__law_below => k_is)
    (case a__law_small => k_is)
    (case l__law_small => k_is)
    (case c__law_small => k_is)
    (case k__law_small => k_is)
    (case a__law_far => k_is)
    (case l__law_far => k_is)
    (case c__law_far => k_is)
    (case k__law_far => k_is)
    (case a__law_one => k_is)
    (case l__law_one => k_is)
    (case c__law_one => k_is)
    (case k__law_one => k_is)
    (case a__law_number => k_is)
    (case l__law_number => k_is)
    (case c__law_number => k_is)
    (case k__law_number => k_is)
    (case a__law_refused => k_is)
    (case l__law_refused => k_is)
    (case c__law_refused => k_is)
    (case k__law_refused => k_is)
    (case a__law_is_right => k_is)
    (case l__law_is_right => k_is)
    (case c__law_is_right => k_is)
    (case k__law_is_right => k_is)
    (case a__law_reckoned => k_is)
    (case l__law_reckoned => k_is)
    (case c__law_reckoned => k_is)
    (case k__law_reckoned => k_is)
    (case a__law_right => k_is)
    (case l__law_right => k_is)
    (case c__law_right => k_is)
    (case k__law_right => k_is)
    (case a_law => k_is)
    (case l_law => k_is)
    (case c_law => k_is)
    (case k_law => k_is)
    (case ac_LineError => k_is)
    (case ac_NoFraction => k_is)
    (case ac_NoText => k_is)
    (case ac_NoPoints => k_is)
    (case ac_NoPrices => k_is)
    (case ac_NoLine => k_is)
    (case ac_NoLines => k_is)
    (case ac_NoShares => k_is)
    (case ac_NoSpread => k_is)
    (case ac_NoNumber => k_is)
    (case ac_NoPlace => k_is)
    (case ac_NoBounds => k_is)
    (case ac_NoSpots => k_is)
    (case ac_NoPlane => k_is)
    (case ac_NoValues => k_is)
    (case ac_NoPair => k_is)
    (case ac_NoDirections => k_is)
    (case ac_NoDeed => k_is)
    (case ac_NoRow => k_is)
    (case ts_LineError => k_is)
    (case tt_LineError => k_is)
    (case ti_LineError => k_is)
    (case th_LineError => k_is)
    (case tu_NoFraction_LineError => k_is)
    (case tx_NoFraction => k_exc)
    (case tk_NoFraction => k_is)
    (case ehg_NoFraction => k_is)
    (case ehk_NoFraction => k_is)
    (case eha_NoFraction => k_is)
    (case ehm_NoFraction => k_is)
    (case tkv_NoFraction => k_is)
    (case ts_NoFraction => k_is)
    (case tt_NoFraction => k_is)
    (case ti_NoFraction => k_is)
    (case th_NoFraction => k_is)
    (case tu_NoFraction_NoFraction => k_is)
    (case ts_NoText => k_is)
    (case tt_NoText => k_is)
    (case ti_NoText => k_is)
    (case th_NoText => k_is)
    (case tu_NoFraction_NoText => k_is)
    (case ts_NoPoints => k_is)
    (case tt_NoPoints => k_is)
    (case ti_NoPoints => k_is)
    (case th_NoPoints => k_is)
    (case tu_NoFraction_NoPoints => k_is)
    (case ts_NoPrices => k_is)
    (case tt_NoPrices => k_is)
    (case ti_NoPrices => k_is)
    (case th_NoPrices => k_is)
    (case tu_NoFraction_NoPrices => k_is)
    (case ts_NoLine => k_is)
    (case tt_NoLine => k_is)
    (case ti_NoLine => k_is)
    (case th_NoLine => k_is)
    (case tu_NoFraction_NoLine => k_is)
    (case ts_NoLines => k_is)
    (case tt_NoLines => k_is)
    (case ti_NoLines => k_is)
    (case th_NoLines => k_is)
    (case tu_NoFraction_NoLines => k_is)
    (case ts_NoShares => k_is)
    (case tt_NoShares => k_is)
    (case ti_NoShares => k_is)
    (case th_NoShares => k_is)
    (case tu_NoFraction_NoShares => k_is)
    (case ts_NoSpread => k_is)
    (case tt_NoSpread => k_is)
    (case ti_NoSpread => k_is)
    (case th_NoSpread => k_is)
    (case tu_NoFraction_NoSpread => k_is)
    (case ts_NoNumber => k_is)
    (case tt_NoNumber => k_is)
    (case ti_NoNumber => k_is)
    (case th_NoNumber => k_is)
    (case tu_NoFraction_NoNumber => k_is)
    (case ts_NoPlace => k_is)
    (case tt_NoPlace => k_is)
    (case ti_NoPlace => k_is)
    (case th_NoPlace => k_is)
    (case tu_NoFraction_NoPlace => k_is)
    (case ts_NoBounds => k_is)
    (case tt_NoBounds => k_is)
    (case ti_NoBounds => k_is)
    (case th_NoBounds => k_is)
    (case tu_NoFraction_NoBounds => k_is)
    (case ts_NoSpots => k_is)
    (case tt_NoSpots => k_is)
    (case ti_NoSpots => k_is)
    (case th_NoSpots => k_is)
    (case tu_NoFraction_NoSpots => k_is)
    (case ts_NoPlane => k_is)
    (case tt_NoPlane => k_is)
    (case ti_NoPlane => k_is)
    (case th_NoPlane => k_is)
    (case tu_NoFraction_NoPlane => k_is)
    (case ts_NoValues => k_is)
    (case tt_NoValues => k_is)
    (case ti_NoValues => k_is)
    (case th_NoValues => k_is)
    (case tu_NoFraction_NoValues => k_is)
    (case ts_NoPair => k_is)
    (case tt_NoPair => k_is)
    (case ti_NoPair => k_is)
    (case th_NoPair => k_is)
    (case tu_NoFraction_NoPair => k_is)
    (case ts_NoDirections => k_is)
    (case tt_NoDirections => k_is)
    (case ti_NoDirections => k_is)
    (case th_NoDirections => k_is)
    (case tu_NoFraction_NoDirections => k_is)
    (case ts_NoDeed => k_is)
    (case tt_NoDeed => k_is)
    (case ti_NoDeed => k_is)
    (case th_NoDeed => k_is)
    (case tu_NoFraction_NoDeed => k_is)
    (case ts_NoRow => k_is)
    (case tt_NoRow => k_is)
    (case ti_NoRow => k_is)
    (case th_NoRow => k_is)
    (case tu_NoFraction_NoRow => k_is)
    (case ehn => k_is)
    (case eht => k_is)
    (case z_isinstance => k_is)
    (case z_int => k_is)
    (case z_bool => k_is)
    (case z_tuple => k_is)
    (case z_len => k_is)
    (case z_max => k_is)
    (case z_abs => k_is)
    (case z_divmod => k_is)
    (case z_range => k_is)
    (case z_ValueError => k_is)
    (case z_any => k_is)
    (case z_min => k_is)
    (case i_gcd => k_is)
    (case av_NOUGHT => k_is)
    (case lv_NOUGHT => k_is)
