import PyProof.Rows.All
import Wide.All
import OpenK.AllK
import Wide.FinOn
import HandS.ForMost
import HandS.IsInst
import HandS.Defaults
import HandS.Strs
import HandS.WrittenGet
import KE.SortData
import HandS.SetFor
import KE.KDictPairs
import KE.GoesNew
import KE.GoesEnum
import HandS.Iter
import HandS.More
import PyProof.RulesMatch
import PyProof.Rows.MatchSeqLen
import HandS.Base
import HandS.Call
import KE.KDictZip
import HandS.Dict
import HandS.Zip
import HandS.TupAny
import HandS.Walk
import HandS.Star
import HandS.MakeKwOnly
import HandS.Conv
import HandS.Ends
import PySem.Challenge.RW_claimsieve_k29_whole_runs_cut_short
set_option Elab.async false
set_option linter.all false
set_option maxRecDepth 100000
namespace Cs
open PySem PySem.Spec PyProof.Rows L2
section
variable {X : Cx} {pins : List (Addr × Obj)} {σ : L2.St} {H : Hp} {s : Shared}
/-! ### sorted of data -/
theorem each_of_dp {K : PySem.W.Frag} {H : Hp} : ∀ {xs : List V} {us : List Value} {ds : List PyData}, DpAll K H xs ds → Vals xs us →
    PySem.W.EachIs (fun u d => ∃ v, RelV v u ∧ Dp K H v d) us ds
  | _, _, _, .nil, .nil => .nil
  | _, _, _, .cons h t, .cons r q => .cons ⟨_, r, h⟩ (each_of_dp t q)
theorem dp_of_each {K : PySem.W.Frag} {H : Hp} : ∀ {us : List Value} {ds : List PyData}, PySem.W.EachIs (fun u d => ∃ v, RelV v u ∧ Dp K H v d) us ds →
    ∃ ys : List V, Vals ys us ∧ DpAll K H ys ds
  | _, _, .nil => ⟨[], .nil, .nil⟩
  | _, _, .cons ⟨v, r, h⟩ t => by
    obtain ⟨ys, q, z⟩ := dp_of_each t
    exact ⟨v :: ys, .cons r q, .cons h z⟩
theorem DpAll.length {K : PySem.W.Frag} {H : Hp} : ∀ {xs : List V} {ds : List PyData}, DpAll K H xs ds → xs.length = ds.length
  | _, _, .nil => rfl
  | _, _, .cons _ t => congrArg Nat.succ (DpAll.length t)
/-- sorted(xs), xs a list of data all of one shape -/
def rSortD (K : PySem.W.Frag) : List V → Hp → VK → Prop := fun vs H Q => ∃ (a : Addr) (xs : List V) (ds : List PyData), vs = [V.ref a] ∧ SqL K H a xs ∧ DpAll K H xs ds ∧
  PySem.W.AllAlike ds ∧ PySem.W.Sortable ds ∧ (∀ d ∈ ds, d.depth ≤ 60) ∧
  ∀ (ys : List V) (p : Addr), DpAll K H ys (ds.mergeSort (PySem.W.dataLe false id)) → H p = none → Q (.ref p) (upd H p (.lst ys))
theorem cr_sortD (hu : X.A.units + 64 < cLine) : CallR X (.builtin "sorted") (rSortD X.K) := by
  intro pins s σ H vs us Q I r h
  obtain ⟨a, xs, ds, rfl, hs, hd, hal, hk, hdp, q⟩ := h
  obtain ⟨its, rv, hl, hz⟩ := I.list hs
  rw [Vals.ref1 r]
  have e := each_of_dp hd rv
  have er : PySem.W.EachIs (fun v b => ∃ as, Reads s.heap v (id b) as) its ds := e.mono fun u d ⟨v, rr, hh⟩ => Dp.reads I d v u hh rr
  refine PySem.W.sorted_data (enc := id) hl.isList e er (by rw [List.map_id]; exact hal) (by rw [List.map_id]; exact hk) (by rw [← DpAll.length hd]; exact hz)
    (fun b hb => ?_) fun out ho hout => ?_
  · have := hdp b hb
    show X.A.units + 2 + b.depth < cLine
    omega
  · obtain ⟨ys, ry, hy⟩ := dp_of_each hout
    obtain ⟨ep, he'⟩ := PyProof.Rows.sortedAll_at s.heap its out.toArray
    have hlen : ys.length ≤ sizeLine := by
      rw [DpAll.length hy, List.length_mergeSort, ← DpAll.length hd]
      exact hz
    exact ⟨.ref _, upd H (s.heap.objs.size + 1) (.lst ys), I.laid (t' := s.toks) (fun _ _ => PyProof.Rows.sortedAll_old) (Nat.le_succ _) ⟨hlen, out, ep, ry, he'⟩, rfl, q _ _ hy (I.hok.fresh (Nat.le_succ _))⟩
end
end Cs
namespace Cs
open PySem PySem.Spec PyProof.Rows L2
/-! ### list comprehensions of any number of clauses -/
section
variable {prog : Program} {w : World} {A : Around} {R : Result → Shared → Prop} {s : Shared} {elt t ip : Expr} {ifs : List Expr} {gens : List Comprehension} {scope : Scope} {pos : Pos} {it acc : Value} {env : Env} {k : Nat}
abbrev tests (ifs : List Expr) (env : Env) : Sem Bool := forIn ifs true fun c r => if r = true then do let ok ← isTrue c env (eval c env); pure (ForInStep.yield ok) else pure (ForInStep.yield r)
/-- what a turn of clause k does where its tests hold -/
def lcBody (elt : Expr) (gens : List Comprehension) (scope : Scope) (pos : Pos) (k : Nat) (acc : Value) (env : Env) : Sem PUnit :=
  match gens[k + 1]? with
  | some g => do
    let x ← eval g.iter env
    standAt g.iter.pos
    let x ← foldedSetIterable g.iter env x
    let _ ← runOwn (.compStart (.ListComp elt gens scope pos) (k + 1) (← holding [x] (pyIter x)) acc env) env
  | none => do
    let _ ← call (.builtin "list.append") [acc, ← eval elt env]
theorem lcTurn_eq (hk : gens[k]? = some ⟨t, ip, ifs, 0⟩) (hy : ∀ g, gens[k + 1]? = some g → g.is_async = 0) : compTurn (.ListComp elt gens scope pos) k it acc env = (do
    standAt ip.pos
    match ← pyNext it with
    | none => pure (.done .next)
    | some v =>
      letOwnedTupleGo t it v
      assign t env v
      let ok ← tests ifs env
      if ok = true then do
        lcBody elt gens scope pos k acc env
        again (.compLoop (.ListComp elt gens scope pos) k it acc env)
      else again (.compLoop (.ListComp elt gens scope pos) k it acc env)) := by
  unfold compTurn lcBody
  simp only [hk]
  cases e : gens[k + 1]? with
  | none => rfl
  | some g =>
    obtain ⟨a, b, c, d⟩ := g
    obtain rfl : d = 0 := hy _ e
    simp only [bind_assoc, pure_bind]
    rfl
abbrev nof : Value → Shared → Prop := fun _ _ => False
theorem wpF {α : Type} {m : Sem α} {M : Model} {Q Q' : α → Shared → Prop} {E : Value → Shared → Prop} (h : wpAny M A m Q nof s) (hq : ∀ a s, Q a s → Q' a s) : wpAny M A m Q' E s :=
  wpAny_mono h hq fun _ _ z => False.elim z
theorem lcLoop (hk : gens[k]? = some ⟨t, ip, ifs, 0⟩) (hy : ∀ g, gens[k + 1]? = some g → g.is_async = 0) (I : Nat → Shared → Prop)
    (turn : ∀ n s, I n s → wpAny (model prog w) A (pyNext it) (fun r s₁ => match r with
      | none => R (.ok .next) s₁
      | some v => wpAny (model prog w) A (letOwnedTupleGo t it v) (fun _ s₂ => wpAny (model prog w) A (assign t env v) (fun _ s₃ => wpAny (model prog w) A (tests ifs env) (fun ok s₄ =>
          if ok = true then wpAny (model prog w) A (lcBody elt gens scope pos k acc env) (fun _ s₅ => ∃ m, m < n ∧ I m s₅) nof s₄ else ∃ m, m < n ∧ I m s₄) nof s₃) nof s₂) nof s₁) nof s)
    (n : Nat) (h : I n s) : codeAny (model prog w) A (.compLoop (.ListComp elt gens scope pos) k it acc env) R s := by
  refine codeAny_loop rfl I (fun n s hI => ?_) n h
  show wpAny _ A ((compTurn (.ListComp elt gens scope pos) k it acc env).onRaise (fun x => do noteFrame x env; theTreesLotGoes x)) _ _ s
  refine wpAny_noted ?_
  rw [lcTurn_eq hk hy]
  refine wpAny_bind (wpAny_standAt (wpAny_bind (wpF (turn n s hI) fun r s₁ h₁ => ?_)))
  cases r with
  | none => exact wpAny_pure h₁
  | some v =>
    refine wpAny_bind (wpF h₁ fun _ s₂ h₂ => wpAny_bind (wpF h₂ fun _ s₃ h₃ => wpAny_bind (wpF h₃ fun ok s₄ h₄ => ?_)))
    cases ok with
    | false => exact wpAny_pure ⟨rfl, h₄⟩
    | true => exact wpAny_bind (wpF h₄ fun _ s₅ h₅ => wpAny_pure ⟨rfl, h₅⟩)
theorem lcStart (hk : gens[k]? = some ⟨t, ip, ifs, 0⟩) (h0 : codeAny (model prog w) A (.compLoop (.ListComp elt gens scope pos) k it acc env) R s)
    (h : wpAny (model prog w) A (pyIter it) (fun it' s' => codeAny (model prog w) A (.compLoop (.ListComp elt gens scope pos) k it' acc env) R s') nof s) :
    codeAny (model prog w) A (.compStart (.ListComp elt gens scope pos) k it acc env) R s := by
  refine codeAny_of_tree ?_
  show wpAny _ _ ((compStart (.ListComp elt gens scope pos) k it acc env).onRaise (fun x => do noteFrame x env; standAt theWindowsPlace)) _ _ s
  refine wpAny_notedAt ?_
  have hc : (clausesOf (.ListComp elt gens scope pos))[k]? = some ⟨t, ip, ifs, 0⟩ := hk
  unfold compStart
  simp only [hc]
  show wpAny _ _ (ask >>= _) _ _ s
  refine wpAny_bind (wpAny_askSetting (wpAny_ite ?_))
  split
  · first
      | exact wpAny_bind (wpAny_pure (wpAny_pure (And.intro rfl h0)))
      | exact wpAny_pure (And.intro rfl h0)
  · refine wpAny_bind (wpAny_rule ?_)
    show wpAny _ _ (standAt ip.pos >>= _) _ _ s
    exact wpAny_bind (wpAny_standAt (wpAny_bind (wpF h fun it' s' h' => wpAny_pure (And.intro rfl h'))))
end
end Cs
namespace Cs
open PySem PySem.Spec PyProof.Rows L2
/-- an inner clause: what it walks, its target, its tests, the slots of the names from here on -/
structure Cl where
  wi : TI
  g : TG
  tt : TT
  vs : List Nat
/-- what is asked of the clauses behind the first, and of the element -/
def tIn (te : TE) (D : Addr) : List Cl → L2.St → Hp → (Hp → Prop) → Prop
  | [], σ, H, Nx => te σ H fun y H1 => ∃ acc, H1 D = some (.lst acc) ∧ acc.length < sizeLine ∧ Nx (upd H1 D (.lst (acc ++ [y])))
  | c :: cs, σ, H, Nx => c.wi σ H fun J H1 => ∃ W : Nat → Nat → Hp → Prop, (∃ m, W 0 m H1) ∧ ∀ j m H2, W j m H2 →
      (J.stop j H2 ∧ Nx H2) ∨ (J.go j H2 ∧ ∃ N1 : Hp → Prop, (∀ H3, N1 H3 → ∃ m1, m1 < m ∧ W (j + 1) m1 H3) ∧
        ∀ x H3, J.yld j H2 x H3 → c.g x (wipe σ c.vs) H3 fun σ1 H4 => wipe σ1 c.vs = wipe σ c.vs ∧ c.tt σ1 H4 fun b H5 => if b = true then tIn te D cs σ1 H5 N1 else N1 H5)
/-- the slots behind the clauses -/
def behindS (σ : L2.St) : List Cl → L2.St
  | [] => σ
  | c :: _ => wipe σ c.vs
section
variable {X : Cx} {elt : Expr} {gens : List Comprehension} {scope : Scope} {pos : Pos}
/-- the clauses behind the k-th, by their readings -/
inductive PCl (X : Cx) (elt : Expr) (gens : List Comprehension) (te : TE) : Nat → List Cl → Prop
  | nil {k : Nat} (h : gens[k + 1]? = none) (he : PE X elt te) : PCl X elt gens te k []
  | cons {k : Nat} {t ip : Expr} {ifs : List Expr} {c : Cl} {cs : List Cl} (h : gens[k + 1]? = some ⟨t, ip, ifs, 0⟩) (hi : PI X t ip c.wi) (hg : PG X t c.g) (ht : PTs X ifs c.tt)
      (hs : ∀ x, foldedSetIterable ip X.env x = pure x) (hv : ∀ c1 ∈ cs.head?, ∀ i ∈ c1.vs, i ∈ c.vs) (tl : PCl X elt gens te (k + 1) cs) : PCl X elt gens te k (c :: cs)
theorem PCl.sync {te : TE} {k : Nat} {cs : List Cl} (h : PCl X elt gens te k cs) : ∀ g, gens[k + 1]? = some g → g.is_async = 0 := fun g e => by
  cases h with
  | nil h _ => rw [h] at e; cases e
  | cons h _ _ _ _ _ _ => rw [h] at e; cases e; rfl
theorem behind_len (σ : L2.St) (cs : List Cl) : (behindS σ cs).length = σ.length := by
  cases cs with
  | nil => rfl
  | cons c cs => exact wipe_length _ _
theorem behind_some {σ σ1 : L2.St} {c : Cl} {cs : List Cl} (hv : ∀ c1 ∈ cs.head?, ∀ i ∈ c1.vs, i ∈ c.vs) (hw : wipe σ1 c.vs = wipe σ c.vs) {j : Nat} {v : V} (e : (wipe σ c.vs)[j]? = some (some v)) :
    (behindS σ1 cs)[j]? = some (some v) := by
  rw [← hw] at e
  obtain ⟨e1, e2⟩ := wipe_some e
  cases cs with
  | nil => exact e1
  | cons c1 cs =>
    show (wipe σ1 c1.vs)[j]? = _
    rw [wipe_out fun z => e2 (hv c1 rfl j z)]
    exact e1
/-- a turn's work, the tests being so -/
theorem body_ok (hc : X.calm = true) (hx : X.xe = nof) {te : TE} {D : Addr} {k : Nat} {cs : List Cl} (P : PCl X elt gens te k cs) : ∀ (pins : List (Addr × Obj)) (s : Shared) (σ : L2.St) (H : Hp) (Nx : Hp → Prop),
    Inv X pins σ H s → tIn te D cs σ H Nx →
    wpAny (model X.prog X.w) X.A (lcBody elt gens scope pos k (.ref D) X.env) (fun _ s1 => ∃ H1, Inv X pins (behindS σ cs) H1 s1 ∧ Nx H1) nof s := by
  induction P with
  | nil h he =>
    intro pins s σ H Nx I q
    unfold lcBody
    simp only [h]
    have z := he.run pins s σ H _ I q
    rw [hx] at z
    refine wpAny_bind (wpF z fun y s1 h1 => ?_)
    obtain ⟨v, H1, I1, r, acc, hD, hz, nx⟩ := h1
    exact wpAny_bind (app_ok I1 hD hz r fun s2 I2 => wpAny_pure ⟨_, I2, nx⟩)
  | @cons k t ip ifs c cs h hi hg ht hs hv tl ih =>
    intro pins s σ H Nx I q
    unfold lcBody
    simp only [h]
    have z := hi.run pins s σ H _ I q
    rw [hx] at z
    refine wpAny_bind (wpF z fun x s1 h1 => wpAny_bind (wpAny_standAt (wpAny_bind (wpAny_of_eq (hs x) (wpAny_bind (wpAny_holding (wpF h1 fun itv s2 h2 => ?_)))))))
    obtain ⟨it, fp, tn, J, H2, e, I2, T, st2, f2, W, ⟨m0, w0⟩, turn⟩ := h2
    subst e
    refine wpAny_bind (wpAny_runOwn ?_)
    rw [Around.mark_none]
    have fpo : ∀ {H' : Hp}, (∀ b ∈ fp, H' b = none) → ∀ b ∈ fp, FpOk X pins H' b := fun n b hb => ⟨n b hb, (f2 b hb).2⟩
    have loop : codeAny (model X.prog X.w) X.A (.compLoop (.ListComp elt gens scope pos) (k + 1) (.ref it) (.ref D) X.env)
        (fun r s' => match r with
          | .ok _ => ∃ H1, Inv X pins (wipe σ c.vs) H1 s' ∧ Nx H1
          | .error _ => False) s2 := by
      refine lcLoop h tl.sync (fun n s' => ∃ j H', Inv X pins (wipe σ c.vs) H' s' ∧ tn j s'.heap ∧ (∀ b ∈ fp, H' b = none) ∧ W j n H') ?_ m0 ⟨0, H2, I2.weak (wipe_length _ _) (fun j v e => (wipe_some e).1), st2, fun b hb => (f2 b hb).1, w0⟩
      rintro n s3 ⟨j, H3, I3, st3, n3, w3⟩
      rcases turn j n H3 w3 with ⟨stop, nx⟩ | ⟨go, N1, hN1, step⟩
      · refine wpF (T.done X rfl rfl rfl hc j pins s3 _ H3 nof I3 (fpo n3) st3 stop) fun r s4 ⟨hr, I4⟩ => ?_
        subst hr
        exact ⟨H3, I4, nx⟩
      · refine wpF (T.item X rfl rfl rfl hc j pins s3 _ H3 nof I3 (fpo n3) st3 go) fun r s4 ⟨u, hr, h4⟩ => ?_
        subst hr
        refine wpF h4 fun _ s5 ⟨x5, H5, I5, r5, y5, st5, n5⟩ => ?_
        have I5' := I5.pinned (fpo n5) (T.obj _ _ st5)
        have zg := hg.run _ s5 _ H5 x5 u _ I5' r5 (step x5 H5 y5)
        rw [hx] at zg
        refine wpF zg fun _ s6 ⟨σ6, H6, I6, hw6, q6⟩ => ?_
        have zt := ht.run _ s6 σ6 H6 _ I6 q6
        rw [hx] at zt
        refine wpF zt fun b s7 ⟨H7, I7, q7⟩ => ?_
        have fin : ∀ {σ9 : L2.St} {s' : Shared} {H' : Hp}, Inv X (pins ++ pinsAt fp s5.heap) σ9 H' s' → (wipe σ c.vs).length = σ9.length → (∀ (i : Nat) v, (wipe σ c.vs)[i]? = some (some v) → σ9[i]? = some (some v)) → N1 H' →
            ∃ m, m < n ∧ ∃ j H', Inv X pins (wipe σ c.vs) H' s' ∧ tn j s'.heap ∧ (∀ b ∈ fp, H' b = none) ∧ W j m H' := fun {σ9 s' H'} I' hl hk nx => by
          obtain ⟨m1, hm, w1⟩ := hN1 H' nx
          have pin : ∀ b ∈ fp, ∀ o, s5.heap.get? b = some o → s'.heap.get? b = some o ∧ H' b = none := fun b hb o e =>
            have z := I'.pin (b, o) (List.mem_append_right _ (List.mem_append_right _ (mem_pinsAt hb e)))
            ⟨z.1, z.2.1⟩
          refine ⟨m1, hm, j + 1, H', I'.unpinned.weak hl hk, T.keep _ _ _ st5 fun b hb o e => (pin b hb o e).1, fun b hb => ?_, w1⟩
          obtain ⟨o, e, _⟩ := T.obj _ _ st5 b hb
          exact (pin b hb o e).2
        have hl6 : (wipe σ c.vs).length = σ6.length := by rw [← hw6, wipe_length]
        cases b with
        | false =>
          simp only [Bool.false_eq_true, if_false] at q7 ⊢
          exact fin I7 hl6 (fun i v e => by rw [← hw6] at e; exact (wipe_some e).1) q7
        | true =>
          simp only [if_true] at q7 ⊢
          refine wpF (ih _ s7 σ6 H7 N1 I7 q7) fun _ s8 ⟨H8, I8, nx8⟩ => ?_
          exact fin I8 (hl6.trans (behind_len σ6 cs).symm) (fun i v e => behind_some hv hw6 e) nx8
    refine codeAny_mono (lcStart h loop (T.self X.A 0 _ _ _ st2 loop)) fun r s' hr => ?_
    cases r with
    | ok f => exact wpAny_pure hr
    | error e => exact hr.elim
end
end Cs
namespace Cs
open PySem PySem.Spec PyProof.Rows L2
def tLcN (wi : TI) (g : TG) (tt : TT) (cs : List Cl) (te : TE) (vs : List Nat) : TE := fun σ H Q => wi σ H fun J H1 => ∀ D, H1 D = none → ∃ W : Nat → Nat → Hp → Prop, (∃ m, W 0 m (upd H1 D (.lst []))) ∧ ∀ j m H2, W j m H2 →
  (J.stop j H2 ∧ Q (.ref D) H2) ∨ (J.go j H2 ∧ ∃ N1 : Hp → Prop, (∀ H3, N1 H3 → ∃ m1, m1 < m ∧ W (j + 1) m1 H3) ∧
    ∀ x H3, J.yld j H2 x H3 → g x (wipe σ vs) H3 fun σ1 H4 => wipe σ1 vs = wipe σ vs ∧ tt σ1 H4 fun b H5 => if b = true then tIn te D cs σ1 H5 N1 else N1 H5)
section
variable {X : Cx}
theorem lcN_core {pins : List (Addr × Obj)} {s : Shared} {σ : L2.St} {H : Hp} {Q : VK} {elt tg iter : Expr} {ifs : List Expr} {gs : List Comprehension} {scope : Scope} {own : List (Str × Nat)} {pos pos' : Pos} {wi : TI} {g : TG} {tt : TT} {cs : List Cl} {te : TE} {use : Option (Value → Sem Unit)} {Qf : Value → Shared → Prop}
    (hc : X.calm = true) (hN : X.N.Nodup) (I : Inv X pins σ H s) (hi : PI X tg iter wi) (ok : BlkOk X.N X.env.scope scope own)
    (hg : ∀ s H C cl fp, PG (X.blk s H scope (compEnvC scope cl C X.env) fp) tg g) (ht : ∀ s H C cl fp, PTs (X.blk s H scope (compEnvC scope cl C X.env) fp) ifs tt)
    (hcl : ∀ s H C cl fp, PCl (X.blk s H scope (compEnvC scope cl C X.env) fp) elt (⟨tg, iter, ifs, 0⟩ :: gs) te 0 cs) (hv : ∀ c1 ∈ cs.head?, ∀ i ∈ c1.vs, i ∈ own.map (·.2)) (hs : ∀ x, foldedSetIterable iter X.env x = pure x)
    (h : tLcN wi g tt cs te (own.map (·.2)) σ H Q)
    (hRR : ∀ D C s' m H', Inv X pins σ H' s' → Q (.ref D) H' → s'.heap.Ns C m → FpOk X pins H' C → compPost (model X.prog X.w) X.A X.xe use Qf (.ref D) C (.ok .next) s') :
    wpAny (model X.prog X.w) X.A (comprehension (.ListComp elt (⟨tg, iter, ifs, 0⟩ :: gs) scope pos) scope X.env pos' (newList []) false (eval iter X.env) use) Qf X.xe s := by
  have captured : ∀ y ∈ scope.names, y.2 = .free → ∃ c, X.env.cells.lookup y.1 = some c := fun y hy e =>
    (ok.free y hy e).elim (fun k => I.ok.has _ (.inl k)) fun k => I.ok.has _ (.inr k)
  refine wpAny_comprehension_free (use := use) rfl hs (closure_ok captured) ok.kind (fun y hy e => by rw [ok.uniq y hy, e])
    (thn (hi.run pins s σ H _ I h) fun xv s1 hx => thn hx fun itv s2 h2 => ?_)
  obtain ⟨it, fp, tn, J, H2, e, I2, T, st2, f2, q⟩ := h2
  subst e
  refine wpAny_newObj_type (newEnv_comp ?_) (by show 0 ≤ sizeLine; decide)
  generalize hD : s2.heap.objs.size = D
  obtain ⟨W, ⟨m0, w0⟩, turn⟩ := q D (I2.hok.fresh (Nat.le_of_eq hD))
  generalize hs3 : ({ s2 with heap := s2.heap.push { cls := .type "list", data := .seq ([] : List Value).toArray } } : Shared) = s3
  have I3 : Inv X pins σ (upd H2 D (.lst [])) s3 := by
    rw [← hs3]
    refine I2.laid (t' := s2.toks) (fun b o e => Heap.get?_push_of_some _ e) (Nat.le_of_eq hD) ⟨Nat.zero_le _, [], 0, .nil, ?_⟩
    rw [← hD]
    exact Heap.get?_push_size _ rfl
  have h3 : s3.heap = s2.heap.push { cls := .type "list", data := .seq ([] : List Value).toArray } := by rw [← hs3]
  have below : ∀ b ∈ fp, b < s2.heap.objs.size := fun b hb => (T.obj _ _ st2 b hb).elim fun _ e => Heap.lt_size e.1
  have f3 : ∀ b ∈ fp, FpOk X pins (upd H2 D (.lst [])) b ∧ b < s3.heap.objs.size := fun b hb => by
    refine ⟨⟨?_, (f2 b hb).2⟩, by rw [h3, Heap.size_push]; exact Nat.lt_succ_of_lt (below b hb)⟩
    rw [upd_ne (by rw [← hD]; exact Nat.ne_of_lt (below b hb))]
    exact (f2 b hb).1
  have st3 : tn 0 s3.heap := T.keep _ _ _ st2 fun b _ o e => by rw [h3]; exact Heap.get?_push_of_some _ e
  have I4 := block_start I3 ok hN f3
  have pg := hg s3 (upd H2 D (.lst [])) s3.heap.objs.size (cellsFrom (s3.heap.objs.size + 1) scope.names (cloFrom X.env.cells scope.names [])) fp
  have pt := ht s3 (upd H2 D (.lst [])) s3.heap.objs.size (cellsFrom (s3.heap.objs.size + 1) scope.names (cloFrom X.env.cells scope.names [])) fp
  have pc := hcl s3 (upd H2 D (.lst [])) s3.heap.objs.size (cellsFrom (s3.heap.objs.size + 1) scope.names (cloFrom X.env.cells scope.names [])) fp
  have nfp : ∀ b ∈ fp, (upd H2 D (.lst [])) b = none := fun b hb => (f3 b hb).1.1
  have goal : codeAny (model X.prog X.w) X.A (.compStart (.ListComp elt (⟨tg, iter, ifs, 0⟩ :: gs) scope pos) 0 (.ref it) (.ref D) (compEnvC scope (cellsFrom (s3.heap.objs.size + 1) scope.names (cloFrom X.env.cells scope.names [])) s3.heap.objs.size X.env)) (compPost (model X.prog X.w) X.A X.xe use Qf (.ref D) s3.heap.objs.size)
      { s3 with heap := pushCells (s3.heap.push { cls := .type "dict", data := .dict #[] }) scope.names } := by
    generalize hce : compEnvC scope (cellsFrom (s3.heap.objs.size + 1) scope.names (cloFrom X.env.cells scope.names [])) s3.heap.objs.size X.env = ce at I4 pg pt pc ⊢
    have cL : ce.locals = s3.heap.objs.size := by subst hce; rfl
    generalize hH3 : upd H2 D (.lst []) = H3 at I3 I4 pg pt pc w0 nfp f3
    generalize hs4 : ({ s3 with heap := pushCells (s3.heap.push { cls := .type "dict", data := .dict #[] }) scope.names } : Shared) = s4 at I4 ⊢
    have st4 : tn 0 s4.heap := T.keep _ _ _ st3 fun b _ o e => by rw [← hs4]; exact pushCells_keeps _ _ _ _ (Heap.get?_push_of_some _ e)
    have fpo : ∀ {σ' : L2.St} {H' : Hp} {s' : Shared}, Inv (X.blk s3 H3 scope ce fp) [] σ' H' s' → (∀ b ∈ fp, H' b = none) → ∀ b ∈ fp, FpOk (X.blk s3 H3 scope ce fp) [] H' b := fun {σ' H' s'} I' hn b hb =>
      ⟨hn b hb, (I'.ok.exf b hb).1, I'.ok.exfs b hb, .inl hb, fun x c e => (I'.ok.exf b hb).2 x c e, fun p hp => absurd (show p ∈ ([] : List (Addr × Obj)) ++ [] from hp) (by simp)⟩
    have loop : codeAny (model X.prog X.w) X.A (.compLoop (.ListComp elt (⟨tg, iter, ifs, 0⟩ :: gs) scope pos) 0 (.ref it) (.ref D) ce) (compPost (model X.prog X.w) X.A X.xe use Qf (.ref D) s3.heap.objs.size) s4 := by
      refine lcLoop (gens := ⟨tg, iter, ifs, 0⟩ :: gs) rfl pc.sync (fun n s' => ∃ i H', Inv (X.blk s3 H3 scope ce fp) [] (wipe σ (own.map (·.2))) H' s' ∧ tn i s'.heap ∧ (∀ b ∈ fp, H' b = none) ∧ W i n H') ?_ m0 ⟨0, H3, I4, st4, nfp, w0⟩
      rintro n s5 ⟨i, H5, I5, st5, n5, w5⟩
      rcases turn i n H5 w5 with ⟨stop, qq⟩ | ⟨go, N1, hN1, step⟩
      · refine wpF (T.done (X.blk s3 H3 scope ce fp) rfl rfl rfl hc i [] s5 _ H5 nof I5 (fpo I5 n5) st5 stop) fun r s6 ⟨hr, I6⟩ => ?_
        subst hr
        have I7 : Inv X pins σ H5 s6 := I3.call' (ch := fp) I6.os I6.base I6.hok I6.bare fun b hb =>
          have z := (f3 b hb).1.2
          ⟨z.2.2.1, z.1, z.2.2.2.1, z.2.2.2.2⟩
        have nC : H5 s3.heap.objs.size = none := cL ▸ (show H5 ce.locals = none from I6.free)
        obtain ⟨m, hn, _⟩ := I6.loc
        exact hRR D s3.heap.objs.size s6 m H5 I7 qq (cL ▸ (show s6.heap.Ns ce.locals m from hn)) (I3.fpOk (Nat.le_refl _) nC)
      · refine wpF (T.item (X.blk s3 H3 scope ce fp) rfl rfl rfl hc i [] s5 _ H5 nof I5 (fpo I5 n5) st5 go) fun r s6 ⟨u, hr, h6⟩ => ?_
        subst hr
        refine wpF h6 fun _ s7 ⟨x7, H7, I7, r7, y7, st7, n7⟩ => ?_
        have I7' := I7.pinned (fpo I7 n7) (T.obj _ _ st7)
        refine wpF (pg.run _ s7 _ H7 x7 u _ I7' r7 (step x7 H7 y7)) fun _ s8 ⟨σ8, H8, I8, hw8, q8⟩ => ?_
        refine wpF (pt.run _ s8 σ8 H8 _ I8 q8) fun b s9 ⟨H9, I9, q9⟩ => ?_
        have fin : ∀ {σ9 : L2.St} {s' : Shared} {H' : Hp}, Inv (X.blk s3 H3 scope ce fp) ([] ++ pinsAt fp s7.heap) σ9 H' s' → (wipe σ (own.map (·.2))).length = σ9.length → (∀ (j : Nat) v, (wipe σ (own.map (·.2)))[j]? = some (some v) → σ9[j]? = some (some v)) → N1 H' →
            ∃ m, m < n ∧ ∃ i H', Inv (X.blk s3 H3 scope ce fp) [] (wipe σ (own.map (·.2))) H' s' ∧ tn i s'.heap ∧ (∀ b ∈ fp, H' b = none) ∧ W i m H' := fun {σ9 s' H'} I' hl hk nx => by
          obtain ⟨m1, hm, w1⟩ := hN1 H' nx
          have pin : ∀ b ∈ fp, ∀ o, s7.heap.get? b = some o → s'.heap.get? b = some o ∧ H' b = none := fun b hb o e =>
            have z := I'.pin (b, o) (List.mem_append_right _ (List.mem_append_right _ (mem_pinsAt hb e)))
            ⟨z.1, z.2.1⟩
          refine ⟨m1, hm, i + 1, H', (I'.unpinned (pins := [])).weak hl hk, T.keep _ _ _ st7 fun b hb o e => (pin b hb o e).1, fun b hb => ?_, w1⟩
          obtain ⟨o, e, _⟩ := T.obj _ _ st7 b hb
          exact (pin b hb o e).2
        have hl8 : (wipe σ (own.map (·.2))).length = σ8.length := by rw [← hw8, wipe_length]
        cases b with
        | false =>
          simp only [Bool.false_eq_true, if_false] at q9 ⊢
          exact fin I9 hl8 (fun j v e => by rw [← hw8] at e; exact (wipe_some e).1) q9
        | true =>
          simp only [if_true] at q9 ⊢
          refine wpF (body_ok (X := X.blk s3 H3 scope ce fp) hc rfl pc _ s9 σ8 H9 N1 I9 q9) fun _ s10 ⟨H10, I10, nx⟩ => ?_
          exact fin I10 (hl8.trans (behind_len σ8 cs).symm) (fun j v e => behind_some (c := ⟨wi, g, tt, own.map (·.2)⟩) hv hw8 e) nx
    exact codeAny_compStart_list loop (T.self X.A 0 _ _ _ st4 loop)
  exact goal
/-- [elt for .. for .. for ..], any number of clauses, as a value -/
theorem pe_lcN {elt tg iter : Expr} {ifs : List Expr} {gs : List Comprehension} {scope : Scope} {own : List (Str × Nat)} {pos : Pos} {wi : TI} {g : TG} {tt : TT} {cs : List Cl} {te : TE} (hc : X.calm = true) (hN : X.N.Nodup) (hi : PI X tg iter wi) (ok : BlkOk X.N X.env.scope scope own)
    (hg : ∀ s H C cl fp, PG (X.blk s H scope (compEnvC scope cl C X.env) fp) tg g) (ht : ∀ s H C cl fp, PTs (X.blk s H scope (compEnvC scope cl C X.env) fp) ifs tt)
    (hcl : ∀ s H C cl fp, PCl (X.blk s H scope (compEnvC scope cl C X.env) fp) elt (⟨tg, iter, ifs, 0⟩ :: gs) te 0 cs) (hv : ∀ c1 ∈ cs.head?, ∀ i ∈ c1.vs, i ∈ own.map (·.2)) (hs : ∀ x, foldedSetIterable iter X.env x = pure x := by intro _; rfl) :
    PE X (.ListComp elt (⟨tg, iter, ifs, 0⟩ :: gs) scope pos) (tLcN wi g tt cs te (own.map (·.2))) := by
  refine ⟨fun pins s σ H Q I h => ?_⟩
  rw [eval_ListComp]
  refine lcN_core hc hN I hi ok hg ht hcl hv hs h fun D C s' m H' I' q hn f => ⟨m, hn, fun h'' sb => ?_⟩
  obtain ⟨f0, f1, f2, f3, f4, f5⟩ := f
  exact ⟨.ref D, H', I'.turned (t' := s'.toks) (fun b o hb e => (sb.2 b hb).trans e) f0 f1 f3 f4 f5, rfl, q⟩
end
end Cs
namespace Cs
open PySem PySem.Spec PyProof.Rows L2
section
variable {prog : Program} {w : World} {K : Type} [DecidableEq K] {knd : KeyKind prog w K} {A : Around} {E : Value → Shared → Prop} {s : Shared}
theorem dictPut_ok {d : Addr} {kvs : List (K × Value)} {k : K} {key v : Value} {Q : Unit → Shared → Prop} (hkey : knd.is k key = true) (hm : s.heap.DictOf knd d kvs)
    (hQ : ∀ h', h'.DictOf knd d (stored kvs k v) → Heap.SameBut d s.heap h' → Q () { s with heap := h' }) (hsz : kvs.length ≤ sizeLine) :
    wpAny (model prog w) A (dictPut d (knd.hash k) key v) Q E s := by
  obtain ⟨o, es, ep, ho, hc, hd, hk, hp, hn⟩ := hm
  have hes : es.size ≤ sizeLine := by
    have e1 := hp.length
    rw [Array.length_toList] at e1
    omega
  have hidx : (es.findIdx? fun e => knd.is k e.key) = kvs.findIdx? fun kv => decide (kv.1 = k) := by
    rw [← hp.findIdx k]
    obtain ⟨l⟩ := es
    simp
  unfold dictPut
  refine wpAny_bind (wpAny_dictFind_of hkey ho hd hk ?_)
  cases hi : es.findIdx? fun e => knd.is k e.key with
  | some i =>
    refine wpAny_updateDict ho hd (hQ _ ⟨_, _, ep, Heap.get?_update_self _ ho (Obj.isFreed_of_dict (Obj.data_mapDict hd _)), hc.mapDict _, Obj.data_mapDict hd _, hk.modify _ _, ?_, ?_⟩ (Heap.SameBut.update ..))
    · rw [stored, if_pos (any_of_findIdx_some (hidx ▸ hi))]
      have hl : (es.toList.findIdx? fun e => knd.is k e.key) = some i := by
        rw [← hi]
        obtain ⟨l⟩ := es
        simp
      have z := hp.modify hn hl v
      obtain ⟨l⟩ := es
      simpa using z
    · rw [stored, if_pos (any_of_findIdx_some (hidx ▸ hi)), keys_map_store]
      exact hn
  | none =>
    have hnot : k ∉ kvs.map (·.1) := not_mem_of_findIdx_none (hidx ▸ hi)
    have hany : ¬ (kvs.any fun kv => decide (kv.1 = k)) = true := by
      rw [List.any_eq_true]
      rintro ⟨kv, hkv, he⟩
      exact hnot (List.mem_map.mpr ⟨kv, hkv, of_decide_eq_true he⟩)
    refine wpAny_updateDictKeys (hz := hes) ho hd (hQ _ ⟨_, _, ep + 1, Heap.get?_update_self _ ho (Obj.isFreed_of_dict (Obj.data_mapDictKeys hd _)), hc.mapDictKeys _, Obj.data_mapDictKeys hd _, hk.push hkey _, ?_, ?_⟩ (Heap.SameBut.update ..))
    · rw [stored, if_neg hany]
      have z := hp.append hkey (knd.hash k) v
      obtain ⟨l⟩ := es
      simpa using z
    · rw [stored, if_neg hany, List.map_append, List.nodup_append]
      refine ⟨hn, by simp, fun a ha b hb e => ?_⟩
      simp only [List.map_cons, List.map_nil, List.mem_singleton] at hb
      subst hb
      exact hnot (e ▸ ha)
theorem merge_ok {d o : Addr} {kvs more : List (K × Value)} {Q : Unit → Shared → Prop} (flat : ∀ k v, knd.is k v = true → ∀ a, v ≠ .ref a) (hdo : d ≠ o) (hoS : (o == sysModules) = false)
    (hd : s.heap.DictOf knd d kvs) (ho : s.heap.DictOf knd o more) (hsz : kvs.length + more.length ≤ sizeLine)
    (hQ : ∀ h', h'.DictOf knd d (merged kvs more) → h'.DictOf knd o more → Heap.SameBut d s.heap h' → Q () { s with heap := h' }) :
    wpAny (model prog w) A (mergeMapping d (.ref o) false) Q E s := by
  obtain ⟨od, esd, epd, hod, hcd, hdd, hkd, hpd, hnd⟩ := id hd
  obtain ⟨oo, eso, epo, hoo, hco, hdo', hko, hpo, hno⟩ := id ho
  have hlen : more.length = eso.size := by
    rw [← hpo.length]
    exact Array.length_toList
  unfold mergeMapping
  refine wpAny_bind (wpAny_isInstance ho.typeIs isSubtype_dict_dict ?_)
  simp only [if_true]
  refine wpAny_bind (wpAny_specialOf ho.typeIs F.slot_dict_iter.lookup (wpAny_bind (wpAny_pure ?_)))
  simp only [beq_self_eq_true, hoS, Bool.false_eq_true, if_false]
  have turns : ∀ {Q' : Unit → Shared → Prop}, (∀ s', Q () s' → Q' () s') → wpAny (model prog w) A (do
      let l ← dictEntries o
      let epoch ← dictEpoch o
      forIn (List.range l.size) PUnit.unit fun i (_ : PUnit) => (do
          let l ← dictEntries o
          match l[i]? with
            | some e => do
              holding [e.key, e.val] (dictPut d e.hash e.key e.val)
              let ep ← dictEpoch o
              if (ep != epoch) = true then do
                  (unsupported "dict.changed-during-merge" : Sem PUnit)
                  pure (ForInStep.yield PUnit.unit)
                else pure (ForInStep.yield PUnit.unit)
            | _ => do
              (unsupported "dict.changed-during-merge" : Sem PUnit)
              pure (ForInStep.yield PUnit.unit) : Sem (ForInStep PUnit))
      pure ()) Q' E s := by
    intro Q' hQ'
    refine wpAny_bind (wpAny_dictEntries hoo hdo' (wpAny_bind (wpAny_dictEpoch hoo hdo' (wpAny_bind ?_))))
    rw [List.range_eq_range']
    refine wpAny_forIn_list _ (fun rest _ s' => ∃ h' i, s' = { s with heap := h' } ∧ rest = List.range' i (eso.size - i) ∧ i ≤ eso.size ∧ h'.DictOf knd d (merged kvs (more.take i)) ∧ h'.get? o = some oo ∧ Heap.SameBut d s.heap h')
      _ ?_ ?_ _ _ ⟨s.heap, 0, rfl, by simp, Nat.zero_le _, by simpa [merged] using hd, hoo, Heap.SameBut.refl _ _⟩
    · rintro x rest b s' ⟨h', i, rfl, hr, hi, hd', hoo', hs'⟩
      have hlt : i < eso.size := by
        rcases Nat.lt_or_ge i eso.size with h | h
        · exact h
        · rw [Nat.sub_eq_zero_of_le h] at hr
          exact nomatch hr
      obtain ⟨rfl, hrest⟩ : x = i ∧ rest = List.range' (i + 1) (eso.size - (i + 1)) := by
        rw [show eso.size - i = (eso.size - (i + 1)) + 1 by omega, List.range'_succ] at hr
        injection hr with h1 h2
        exact ⟨h1, h2⟩
      refine wpAny_bind (wpAny_dictEntries hoo' hdo' ?_)
      rw [Array.getElem?_eq_getElem hlt]
      obtain ⟨⟨k, v⟩, hkv⟩ : ∃ kv, more[x]? = some kv := ⟨more[x]'(by rw [hlen]; exact hlt), List.getElem?_eq_getElem _⟩
      obtain ⟨hkey, hval⟩ := hpo.get? (e := eso[x]) (by simp [hlt]) hkv
      obtain ⟨k', hkey', hhash⟩ := hko eso[x] (Array.getElem_mem hlt)
      obtain rfl : k' = k := knd.inj _ _ _ hkey' hkey
      have hmx : (merged kvs (more.take x)).length ≤ sizeLine := by
        have e1 := merged_length_le kvs (more.take x)
        have e2 := List.length_take_le x more
        omega
      show wpAny _ _ (holding [eso[x].key, eso[x].val] (dictPut d eso[x].hash eso[x].key eso[x].val) >>= _) _ _ _
      rw [hhash, hval]
      refine wpAny_bind (wpAny_holding (dictPut_ok (s := { s with heap := h' }) hkey hd' (fun h2 hd2 hs2 => ?_) hmx))
      have hoo2 : h2.get? o = some oo := (hs2.2 o (Ne.symm hdo)).trans hoo'
      refine wpAny_bind (wpAny_dictEpoch hoo2 hdo' ?_)
      rw [if_neg (by simp)]
      exact wpAny_pure ⟨h2, x + 1, rfl, hrest, hlt, by rw [merged_take_succ kvs more x (k', v) hkv]; exact hd2, hoo2, hs'.trans hs2⟩
    · rintro b s' ⟨h', i, rfl, hr, hi, hd', hoo', hs'⟩
      have hin : i = eso.size := by
        rcases Nat.lt_or_ge i eso.size with h | h
        · rw [show eso.size - i = (eso.size - (i + 1)) + 1 by omega, List.range'_succ] at hr
          exact nomatch hr
        · omega
      rw [hin, ← hlen, List.take_length] at hd'
      exact wpAny_pure (hQ' _ (hQ h' hd' ⟨oo, eso, epo, hoo', hco, hdo', hko, hpo, hno⟩ hs'))
  refine wpAny_bind (wpAny_dictEntries hod hdd (wpAny_ite ?_))
  split
  · refine wpAny_bind (wpAny_dictEntries hoo hdo' (wpAny_bind ?_))
    rw [← Array.forIn_toList]
    refine wpAny_forIn_list _ (fun rest _ s' => s' = s ∧ ∀ e ∈ rest, e ∈ eso) _ (fun x rest b s' ⟨es, hm⟩ => ?_) (fun b s' ⟨es, _⟩ => ?_) _ _ ⟨rfl, fun e h => Array.mem_toList_iff.mp h⟩
    · subst es
      obtain ⟨k', hkey', _⟩ := hko x (hm x (List.mem_cons_self ..))
      have z := flat _ _ hkey'
      have hr : ∀ e ∈ rest, e ∈ eso := fun e h => hm e (List.mem_cons_of_mem _ h)
      cases e : x.key with
      | ref a => exact absurd e (z a)
      | _ => exact wpAny_pure ⟨rfl, hr⟩
    · subst es
      exact turns fun _ q => q
  · exact turns fun _ q => q
end
end Cs
namespace Cs
open PySem PySem.Spec PyProof.Rows L2
/-- {**e, k: v} -/
def tSplat (te tk tv : TE) : TE := fun σ H Q => ∀ p, H p = none → te σ (upd H p (.dK [])) fun x H1 => ∃ a kvs, x = .ref a ∧ a ≠ p ∧ Rd H1 a (.dK kvs) ∧ H1 p = some (.dK []) ∧ kvs.length ≤ 1000 ∧
  ∀ q, (upd H1 p (.dK kvs)) q = none → tPairs [(tk, tv)] σ (upd (upd H1 p (.dK kvs)) q (.dK [])) fun ps H3 => ∃ k y, ps = [(kV k, y)] ∧ H3 q = some (.dK []) ∧ H3 p = some (.dK kvs) ∧ p ≠ q ∧
    Q (.ref p) (upd (upd H3 q (.dK [(k, y)])) p (.dK (putK kvs k y)))
theorem mix_flat {P : Program} {w : World} : ∀ k v, (mixKind P w).is k v = true → ∀ a, v ≠ .ref a := by
  intro k v h a e
  rcases keyIs_shape (show keyIs k v = true from h) with ⟨i, t, _, q⟩ | ⟨x, t, _, q⟩ <;> (rw [q] at e; exact nomatch e)
theorem one_carries {P : Program} {w : World} {k : Key} {y : V} {ws : List (Value × Value)} (r : VV [(kV k, y)] ws) : ∃ u, Carries (mixKind P w) ws [(k, u)] ∧ RelV y u := by
  obtain ⟨rs, c, q⟩ := carries_of (P := P) (w := w) (kvs := [(k, y)]) r
  cases q with
  | @cons a b as bs h t =>
    cases t
    obtain ⟨b1, b2⟩ := b
    obtain ⟨h1, h2⟩ := h
    obtain rfl : k = b1 := h1
    exact ⟨b2, c, h2⟩
theorem KV.put {kvs : List (Key × V)} {vs : List (Key × Value)} {k : Key} {y : V} {u : Value} (r : KV kvs vs) (h : RelV y u) : KV (putK kvs k y) (stored vs k u) :=
  KV.merge (more := [(k, y)]) (rs := [(k, u)]) (.cons ⟨rfl, h⟩ .nil) r
theorem putK_le (kvs : List (Key × V)) (k : Key) (y : V) : (putK kvs k y).length ≤ kvs.length + 1 := by
  unfold putK
  split
  · rw [List.length_map]; omega
  · rw [List.length_append]; exact Nat.le_refl _
section
variable {X : Cx}
theorem display_eq (v ke ve : Expr) (env : Env) (pos : Pos) : eval (.Dict [none, some ke] [v, ve] pos) env = (do
    standAt pos
    let d ← alloc { cls := .type "dict", data := .dict #[] }
    let m ← holding [.ref d] (do let x ← eval v env; standAt pos; pure x)
    (((holding [.ref d, m] (mergeMapping d m false)).onRaise fun x => do let _ ← holding [.ref d, m, x] (runValue (.builtin "proto.let_go" {}))).tryCatch fun e => do
        if ← isInstance e (.type "AttributeError") then
          rule "dict.display.not-a-mapping"; raiseError "TypeError" s!"'{← typeNameOf m}' object is not a mapping"
        throw e).onRaise fun x => do let _ ← holding [.ref d, x] (runValue (.builtin "proto.let_go" {}))
    let sub ← holding [.ref d] (subDict (pairTrees [some ke] [ve] env pos))
    (holding [.ref d, .ref sub] (mergeMapping d (.ref sub) false)).onRaise fun x => do let _ ← holding [.ref d, x] (runValue (.builtin "proto.let_go" {}))
    pure (.ref d)) := by
  rw [arm_eval_Dict]
  unfold dictDisplay
  have e17 : ((0 + 1 : Nat) == 17) = false := rfl
  have e1 : ((1 : Nat) == 17) = false := rfl
  simp only [evalOpt, e17, e1, Bool.false_eq_true, evalEachOpt, evalEach, List.map, List.zip, List.zipWith, pairTrees, List.forIn_cons, List.forIn_nil, bind_assoc, pure_bind, List.isEmpty, if_true, if_false, List.nil_append, List.length_cons, List.length_nil]
theorem pe_splat {v ke ve : Expr} {pos : Pos} {te tk tv : TE} (he : PE X v te) (hk : PE X ke tk) (hv : PE X ve tv) : PE X (.Dict [none, some ke] [v, ve] pos) (tSplat te tk tv) := by
  refine ⟨fun pins s σ H Q I h => ?_⟩
  rw [display_eq]
  refine wpAny_bind (wpAny_standAt (wpAny_bind (wpAny_alloc ?_)))
  have n0 := I.hok.fresh (Nat.le_refl s.heap.objs.size)
  have I1 := I.laid (a := s.heap.objs.size) (o := .dK []) (h' := s.heap.push { cls := .type "dict", data := .dict #[] }) (t' := s.toks) (fun _ _ q => Heap.get?_push_of_some _ q) (Nat.le_refl _) (dk_empty s.heap I.big)
  generalize hp : s.heap.objs.size = p at n0 I1
  refine wpAny_bind (wpAny_holding (wpAny_bind (thn (he.run pins _ σ _ _ I1 (h p n0)) fun m s1 h1 => wpAny_bind (wpAny_standAt (wpAny_pure ?_)))))
  obtain ⟨x, H1, I2, rx, a, kvs, rfl, hap, ra, ep, hl, q1⟩ := h1
  obtain rfl : m = Value.ref a := rx
  obtain ⟨za, da, va, ka, dda⟩ := dk_rd I2.hok ra
  obtain ⟨zp, dp, vp, kp, ddp⟩ := dk_of I2.hok ep
  cases kp
  have hla : va.length = kvs.length := (Paired.length ka).symm
  refine wpAny_bind (wpAny_onRaise (wpAny_tryCatch (wpAny_onRaise (wpAny_holding (merge_ok mix_flat (Ne.symm hap) da ddp dda (by rw [List.length_nil, hla, sizeLine_eq]; omega) fun h2 hd2 _ hs2 => ?_)))))
  have hn : (va.map (·.1)).Nodup := by
    obtain ⟨_, _, _, _, _, _, _, _, z⟩ := dda
    exact z
  rw [merged_nil_of_nodup va hn] at hd2
  have he2 : ∃ q, h2.get? p = some q := let ⟨q, _, _, hq, _⟩ := hd2; ⟨q, hq⟩
  have I3 := d_write (t' := s1.toks) I2 (by rw [ep]; exact True.intro) hs2 he2 (dk_new (by omega) dp ka hd2)
  have n3 := I3.hok.fresh (Nat.le_refl _)
  have I4 := I3.laid (a := h2.objs.size) (o := .dK []) (h' := h2.push { cls := .type "dict", data := .dict #[] }) (t' := s1.toks) (fun _ _ q => Heap.get?_push_of_some _ q) (Nat.le_refl _) (dk_empty h2 I3.big)
  have q3 := q1 h2.objs.size n3
  refine wpAny_bind (wpAny_holding (wpAny_subDict (knd := mixKind X.prog X.w) (by show 1 ≤ 15; decide) (thn ((pps_cons hk hv pps_nil).run pins _ σ _ _ I4 q3) fun ws s5 h5 => ?_)))
  obtain ⟨ps, H5, I5, rel, k, y, rfl, eq, ep5, npq, q5⟩ := h5
  obtain ⟨u, hc, ru⟩ := one_carries (P := X.prog) (w := X.w) rel
  obtain ⟨zq, dq, vq, kq, ddq⟩ := dk_of I5.hok eq
  cases kq
  refine ⟨[(k, u)], hc, ddq, fun h6 hd6 hs6 => ?_⟩
  have hd6 : h6.DictOf (mixKind X.prog X.w) h2.objs.size [(k, u)] := hd6
  have he6 : ∃ q, h6.get? h2.objs.size = some q := let ⟨q, _, _, hq, _⟩ := hd6; ⟨q, hq⟩
  have I6 := d_write (t' := s5.toks + ws.length) I5 (by rw [eq]; exact True.intro) hs6 he6 (dk_new (kvs := [(k, y)]) (by show 1 ≤ sizeLine; rw [sizeLine_eq]; omega) dq (.cons ⟨rfl, ru⟩ .nil) hd6)
  have e7 : (upd H5 h2.objs.size (.dK [(k, y)])) p = some (.dK kvs) := by rw [upd_ne npq]; exact ep5
  obtain ⟨z7, d7, v7, k7, dd7⟩ := dk_of I6.hok e7
  have hl7 : v7.length = kvs.length := (Paired.length k7).symm
  refine wpAny_bind (wpAny_onRaise (wpAny_holding (merge_ok mix_flat npq dq dd7 hd6 (by rw [hl7, sizeLine_eq]; show kvs.length + 1 ≤ _; omega) fun h8 hd8 _ hs8 => wpAny_pure ?_)))
  have hd8 : h8.DictOf (mixKind X.prog X.w) p (stored v7 k u) := hd8
  have he8 : ∃ q, h8.get? p = some q := let ⟨q, _, _, hq, _⟩ := hd8; ⟨q, hq⟩
  have I8 := d_write (t' := s5.toks + ws.length) I6 (by rw [e7]; exact True.intro) hs8 he8 (dk_new (kvs := putK kvs k y) (by have := putK_le kvs k y; rw [sizeLine_eq]; omega) d7 (KV.put k7 ru) hd8)
  exact ⟨.ref p, _, I8, rfl, q5⟩
end
end Cs
namespace Cs
open PySem PySem.Spec PyProof.Rows L2
/-! ### set(xs) of a list of ints, to be sorted -/
abbrev bareSet (w : World) : Obj := { cls := .type "set", dict := none, data := .set #[] 0 (.fresh 0 0 (!w.params.followText "set-order")) }
section
variable {P : Program} {w : World} {A : Around} {E : Value → Shared → Prop} {s : Shared}
set_option maxHeartbeats 3200000 in
theorem set_of_list {l : Addr} {items : Array Value} (ns : List Int) {Q : Value → Shared → Prop} (hh : A.handled = none) (hl : s.heap.IsList l items) (hit : IntsAre items.toList ns) (hb : ns.length + 1 < scanBound)
    (h : ∀ (h1 : Heap) (tk c : Nat), SetR w h1 s.heap.objs.size (fun j => decide (j ∈ ns)) c → c ≤ ns.length → (∀ b o, s.heap.get? b = some o → h1.get? b = some o) → Q (.ref s.heap.objs.size) { s with heap := h1, toks := tk }) :
    wpAny (model P w) A (call (.type "set") [.ref l]) Q E s := by
  have size_eq : items.size = ns.length := (Array.length_toList (xs := items)).symm.trans (IntsAre.length hit)
  obtain ⟨c, tl, hmro⟩ := F.called_set.mro
  have hmade := F.called_set.made
  have hsub := F.called_set.sub
  refine wpAny_call (codeAny_of_tree ?_)
  show wpAny _ _ (callAny (.type "set") _) _ _ _
  refine wpAny_pure ⟨Code.quiet_builtin _ (by decide +kernel), codeAny_builtin F.entry_type_call ?_⟩
  rw [Around.under_plain (weight_type_call_type "set" [.ref l] []) rfl]
  have h1 := F.called_set.notType
  have h2 := F.called_set.canCreate
  have hct := F.typeCall_set_1 (.ref l)
  repeat (any_goals (first | assumption | wp_step))
  refine codeAny_mono (code_set_led1 (.ref l) (E := E) (Q₁ := fun obj s₁ => obj = .ref s.heap.objs.size ∧ s₁ = { s with heap := s.heap.push (bareSet w) }) ⟨rfl, rfl⟩) fun r s₁ hr => ?_
  match r, hr with
  | .error _, hr => exact hr
  | .ok (.ret obj), ⟨e1, e2⟩ =>
    subst e1 e2
    have hS : (s.heap.push (bareSet w)).get? s.heap.objs.size = some (bareSet w) := Heap.get?_push_size _ rfl
    have hT : Shared.TypeIs { s with heap := s.heap.push (bareSet w) } (.ref s.heap.objs.size) "set" := ⟨_, hS, rfl⟩
    have hli := F.called_set.init.lookup
    have hbi := F.called_set.init.bind (.ref s.heap.objs.size)
    repeat (any_goals (first | assumption | wp_step))
    refine codeAny_mono (codeAny_call_builtin (R := wants (fun r s₂ => r = .none ∧ ∃ h1 tk c, s₂ = { s with heap := h1, toks := tk } ∧ SetR w h1 s.heap.objs.size (fun j => decide (j ∈ ns)) c ∧ c ≤ ns.length ∧
        (∀ b o, s.heap.get? b = some o → h1.get? b = some o)) E) F.called_set.init.plain F.entry_set_init (check_set_init_1 hT ?_)) fun r₂ s₂ hr₂ => ?_
    · obtain ⟨⟨_, odict, _, oslots⟩, hol, rfl, nl, rfl⟩ := hl
      have below : l < s.heap.objs.size := Heap.lt_size hol
      have hol' : (s.heap.push (bareSet w)).get? l = some { cls := .type "list", dict := odict, data := .seq items nl, slots := oslots } := Heap.get?_push_of_some _ hol
      have hsls := F.sub_list_set
      have hslf := F.sub_list_frozenset
      have hne : (Value.type "list" == Value.type "dict") = false := by decide
      have hl1 : (s.heap.push (bareSet w)).IsList l items := ⟨_, hol', rfl, nl, rfl⟩
      unfold Builtin.«set.__init__» noKeywords Builtin.Frozenset.updateFrom
      generalize hPI : pyIter = PI
      wp_walk
      subst hPI
      refine wpAny_pyIter_list hl1 (wpAny_bind (wpAny_runValue ?_))
      have calm : A.in1.in1.in1.handled = none := by simp [hh]
      have sz1 : (s.heap.push (bareSet w)).objs.size = s.heap.objs.size + 1 := Heap.size_push ..
      have hneI : l ≠ (s.heap.push (bareSet w)).objs.size := by rw [sz1]; exact Nat.ne_of_lt (Nat.lt_succ_of_lt below)
      have hSf : s.heap.objs.size ∉ [(s.heap.push (bareSet w)).objs.size, l] := by
        rw [sz1]
        simp only [List.mem_cons, List.not_mem_nil, or_false, not_or]
        exact ⟨Nat.ne_of_lt (Nat.lt_succ_self _), Nat.ne_of_gt below⟩
      have hval : ∀ (i : Nat) (v : Value), items[i]? = some v → ∃ k t, ns[i]? = some k ∧ v = .int k t := fun i v hv => by
        have hi : i < ns.length := size_eq ▸ (Array.getElem?_eq_some_iff.mp hv).1
        obtain ⟨t, e⟩ := PyProof.Rows.IntsAre.int_at hit i v (by rw [Array.getElem?_toList]; exact hv)
        exact ⟨ns[i], t, List.getElem?_eq_getElem hi, by rw [e, List.getD_eq_getElem?_getD, List.getElem?_eq_getElem hi] <;> rfl⟩
      refine set_update_ints ((Walks.list calm _ l hneI items).toS) s.heap.objs.size hSf ns size_eq hb hval (items.size - 0) 0 _ (by omega) (Nat.zero_le _)
        ⟨⟨_, Heap.get?_push_size _ rfl, rfl, rfl⟩, (hl1.push _)⟩ ⟨0, Nat.le_refl 0, setR_new_at (Heap.get?_push_of_some _ hS)⟩ ?_
      intro s3 c3 hm hc3 hS3
      obtain ⟨h3, g3, d3, tk3, os3⟩ := s3
      obtain rfl : g3 = s.gens := hm.gens
      obtain rfl : d3 = s.drawn := hm.drawn
      obtain rfl : os3 = s.os := hm.os
      refine wpAny_pure (wpAny_pure ⟨rfl, h3, tk3, c3, rfl, hS3, size_eq ▸ hc3, fun b o e => ?_⟩)
      have hb0 : b < s.heap.objs.size := Heap.lt_size e
      refine hm.heap b o ?_ (Heap.get?_push_of_some _ (Heap.get?_push_of_some _ e))
      simp only [List.mem_cons, List.not_mem_nil, or_false, not_or]
      exact ⟨Nat.ne_of_lt hb0, by rw [sz1]; exact Nat.ne_of_lt (Nat.lt_succ_of_lt hb0)⟩
    · match r₂, hr₂ with
      | .error _, hr₂ => exact hr₂
      | .ok (.ret _), ⟨e, h3, tk, c, es, hS3, hc3, hk3⟩ =>
        subst e es
        repeat (any_goals (first | assumption | wp_step))
        exact h _ _ _ hS3 hc3 hk3
end
/-- set(xs) -/
def rSetL (K : PySem.W.Frag) (w : World) : List V → Hp → VK → Prop := fun xs H Q => ∃ (a : Addr) (ns : List Int), xs = [.ref a] ∧ SqL K H a (ns.map V.int) ∧ ns.length ≤ 1000 ∧
  ∀ p c, H p = none → c ≤ ns.length → Q (.ref p) (upd H p (SetO w p (fun j => decide (j ∈ ns)) c))
theorem cr_setL {X : Cx} (hc : X.calm = true) : CallR X (.type "set") (rSetL X.K X.w) := by
  intro pins s σ H xs us Q I r h
  obtain ⟨a, ns, rfl, hs, hl, q⟩ := h
  obtain ⟨its, rv, pl, hz⟩ := I.list hs
  rw [Vals.ref1 r]
  refine set_of_list ns (I.ok.hd hc) pl.isList (by simpa using ints_of_vals rv) (by unfold scanBound; omega) fun h1 tk c R hcn hk => ?_
  exact ⟨.ref _, _, I.laid (t' := tk) hk (Nat.le_refl _) (setO_new R), rfl, q _ c (I.hok.fresh (Nat.le_refl _)) hcn⟩
end Cs
namespace Cs
open PySem PySem.Spec PyProof.Rows L2
/-! ### tuples that are known to bear no dict of their own -/
abbrev tupObj (its : List Value) : Obj := { cls := .type "tuple", data := .seq its.toArray }
/-- a plain tuple of xs -/
def PlT (H : Hp) (a : Addr) (xs : List V) : Prop := ∃ o, H a = some (.frz o (.tup xs)) ∧ o.dict = none
theorem PlT.sq {K : PySem.W.Frag} {H : Hp} {a : Addr} {xs : List V} (h : PlT H a xs) : SqT K H a xs := let ⟨o, e, _⟩ := h; .inl (.inr ⟨o, e⟩)
theorem PlT.same {H H1 : Hp} {a : Addr} {xs : List V} (h : PlT H a xs) (s : ∀ b o, H b = some o → H1 b = some o) : PlT H1 a xs := let ⟨o, e, d⟩ := h; ⟨o, s _ _ e, d⟩
theorem PlT.new {H : Hp} {a : Addr} {xs : List V} {its : List Value} : PlT (upd H a (.frz (tupObj its) (.tup xs))) a xs := ⟨_, upd_same, rfl⟩
def tTupF (t : TA) : TE := fun σ H Q => t σ H fun xs H1 => xs.length ≤ sizeLine ∧ ∀ p its, H1 p = none → Q (.ref p) (upd H1 p (.frz (tupObj its) (.tup xs)))
section
variable {X : Cx}
theorem pe_tupF {es : List Expr} {t : TA} {pos : Pos} {k} (h : PA X es t) : PE X (.Tuple es k pos) (tTupF t) := by
  refine ⟨fun pins s σ H Q I hq => wpAny_Tuple_spliced (thn (h.run pos pins s σ H _ I hq) fun us s1 ⟨xs, H1, I1, r, z, q⟩ => ⟨by rw [← r.length]; exact z, ?_⟩)⟩
  refine ⟨.ref s1.heap.objs.size, _, I1.laid (t' := s1.toks) (fun b u e => Heap.get?_push_of_some _ e) (Nat.le_refl _) ?_, rfl, q _ us (I1.hok.fresh (Nat.le_refl _))⟩
  exact ⟨Heap.get?_push_size _ rfl, z, us, r, ⟨_, Heap.get?_push_size _ rfl, rfl, _, rfl⟩⟩
/-- tuple(xs) of a list -/
def rTupF (K : PySem.W.Frag) : List V → Hp → VK → Prop := fun xs H Q => ∃ p ys, xs = [.ref p] ∧ SqL K H p ys ∧ ∀ l its, H l = none → Q (.ref l) (upd H l (.frz (tupObj its) (.tup ys)))
theorem cr_tupF : CallR X (.type "tuple") (rTupF X.K) := by
  intro pins s σ H xs us Q I r h
  obtain ⟨p, ys, rfl, hq, q⟩ := h
  rw [Vals.ref1 r]
  obtain ⟨its, rv, pl, hz⟩ := I.list hq
  have hlen := rv.length
  refine call_tuple_list pl.isList (fun h1 kp => ?_) (by simp only [List.size_toArray] <;> omega)
  have I1 : Inv X pins σ H { s with heap := h1 } := I.kept (t' := s.toks) kp
  refine ⟨.ref h1.objs.size, _, I1.laid (a := h1.objs.size) (o := .frz (tupObj its) (.tup ys)) (h' := h1.push (tupObj its)) (t' := s.toks) (fun b o e => Heap.get?_push_of_some _ e) (Nat.le_refl _) ?_, rfl, q _ its (I1.hok.fresh (Nat.le_refl _))⟩
  exact ⟨Heap.get?_push_size _ rfl, hz, its, rv, IsTup.new _ _⟩
/-- dict(ps), ps a plain tuple of pairs -/
def rDictT (K : PySem.W.Frag) : List V → Hp → VK → Prop := fun xs H Q => ∃ (a : Addr) (ps : List Addr) (kvs : List (Key × V)), xs = [.ref a] ∧ PlT H a (ps.map V.ref) ∧ Paired (fun p kv => SqT K H p [kV kv.1, kv.2]) ps kvs ∧
  ∀ p, H p = none → Q (.ref p) (upd H p (.dK (mergeK [] kvs)))
theorem cr_dictT (hc : X.calm = true) : CallR X (.type "dict") (rDictT X.K) := by
  intro pins s σ H xs us Q I r h
  obtain ⟨a, ps, kvs, rfl, ⟨o, ha, hdn⟩, hp, q⟩ := h
  rw [Vals.ref1 r]
  obtain ⟨hget, hz, its, rv, o1, ho1, hcls, n, hdat⟩ := I.hok a _ ha
  obtain rfl : o = o1 := Option.some.inj (hget.symm.trans ho1)
  have ei := refs_at rv
  subst ei
  rw [List.length_map] at hz
  obtain ⟨prs, rel, hl, hpr⟩ := pairs_of I hp
  -- the pairs, their keys as values
  have hall : ∀ (j : Nat) (q : Key × Value), prs[j]? = some q → ∃ (b : Addr) (u : Value), ps[j]? = some b ∧ IsTup s.heap b #[u, q.2] ∧ keyIs q.1 u = true := hpr
  have hkey : ∀ j : Nat, ∃ u : Value, ∀ q, prs[j]? = some q → ∃ b, ps[j]? = some b ∧ IsTup s.heap b #[u, q.2] ∧ keyIs q.1 u = true := fun j => by
    cases e : prs[j]? with
    | none => exact ⟨.none, fun q e2 => nomatch e2⟩
    | some q =>
      obtain ⟨b, u, h1, h2, h3⟩ := hall j q e
      exact ⟨u, fun q2 e2 => by cases e2; exact ⟨b, h1, h2, h3⟩⟩
  obtain ⟨ku, hku⟩ := Classical.axiomOfChoice hkey
  have hp2 : ∀ (j : Nat) (k v : Value), ((List.range prs.length).map fun j => (ku j, ((prs[j]?).map (·.2)).getD .none))[j]? = some (k, v) → ∃ q, prs[j]? = some q ∧ k = ku j ∧ v = q.2 := fun j k v e => by
    rw [List.getElem?_map] at e
    by_cases hj : j < prs.length
    · rw [List.getElem?_range hj] at e
      have e := Option.some.inj e
      dsimp only at e
      rw [List.getElem?_eq_getElem hj] at e
      exact ⟨prs[j], List.getElem?_eq_getElem hj, (Prod.mk.inj e).1.symm, (Prod.mk.inj e).2.symm⟩
    · rw [List.getElem?_eq_none (by simpa using hj)] at e
      exact nomatch e
  have hlen2 : ((List.range prs.length).map fun j => (ku j, ((prs[j]?).map (·.2)).getD Value.none)).length = prs.length := by simp
  refine PySem.call_dict_pairs (knd := mixKind X.prog X.w) (kvs := prs) (PairArg.tuple a (ps.map Value.ref).toArray (fun j => ps.getD j 0) ((List.range prs.length).map fun j => (ku j, ((prs[j]?).map (·.2)).getD .none))) (I.ok.hd hc)
    ⟨⟨o, n, hget, hcls, hdn, hdat⟩, by simp [hl], fun j k v e => ?_⟩ ⟨hlen2.symm, fun j key v e => ?_⟩ (by rw [hlen2, hl]; exact hz) fun h1 tk hd1 hk => ?_
  · obtain ⟨q, e1, rfl, rfl⟩ := hp2 j k v e
    obtain ⟨b, e2, e3, _⟩ := hku j q e1
    have e4 : ps.getD j 0 = b := by rw [List.getD_eq_getElem?_getD, e2]; rfl
    dsimp only
    rw [e4]
    exact ⟨by simp [e2], .inl e3⟩
  · obtain ⟨q, e1, rfl, rfl⟩ := hp2 j key v e
    obtain ⟨_, _, _, e4⟩ := hku j q e1
    exact ⟨q.1, e1, e4⟩
  · have hm : (s.heap.objs.size == sysModules) = false := beq_eq_false_iff_ne.mpr (Nat.ne_of_gt I.big)
    have hlen : (mergeK [] kvs).length ≤ sizeLine := by
      refine Nat.le_trans (length_mergeK kvs []) ?_
      rw [List.length_nil, Nat.zero_add, rel.length, hl]
      exact hz
    exact ⟨.ref s.heap.objs.size, upd H s.heap.objs.size (.dK (mergeK [] kvs)), I.laid (t' := tk) (fun b o e => hk b o (fun z => nomatch z) e) (Nat.le_refl _) (show ObjOk X.prog X.w _ _ _ (.dK (mergeK [] kvs)) from ⟨hlen, hm, merged [] prs, KV.merge rel .nil, hd1⟩), rfl, q _ (I.hok.fresh (Nat.le_refl _))⟩
/-- x * n, a text -/
def rMulS : V → V → Hp → VK → Prop := fun x y H Q => ∃ z n, x = .str z ∧ y = .int n ∧ MulOk z n ∧ Q (.str (Txt.mul z n)) H
theorem op_mulS : OpR X (binaryOp .Mult) rMulS := by
  intro pins s σ H x y v u Q I rx ry h
  obtain ⟨z, n, rfl, rfl, ok, q⟩ := h
  obtain ⟨t, rfl⟩ := rx
  obtain ⟨t2, rfl⟩ := ry
  exact SB.mul ok fun t3 k => ⟨.str (Txt.mul z n), H, I.tok k, ⟨t3, rfl⟩, q⟩
end
end Cs
namespace Cs
open PySem PySem.Spec PyProof.Rows L2
/-! ### enumerate(t), t a tuple -/
set_option maxHeartbeats 1000000 in
theorem enumNew1 {v : Value} {o : Obj} {Hd : Heap → Prop} (B : Begins v o Hd) : Meets (Builtin.«enumerate.__new__» ⟨[.type "enumerate", v], []⟩) (fun _ R s => Hd s.heap ∧
    R (.ok (.ret (.ref (s.heap.push o).objs.size))) { s with heap := (s.heap.push o).push { cls := .type "enumerate", data := .fields #[.none, .bool false, .ref s.heap.objs.size, rawInt 0, .none, .none] } }) :=
  .of_wp fun prog w A R s h => by
    obtain ⟨hp, g, d, tk, os⟩ := s
    obtain ⟨h1, h⟩ := h
    have hsub := sub_enumerate
    have begin_ : ∀ {A' : Around} {E : Value → Shared → Prop} {Q : Value → Shared → Prop}, Q (.ref hp.objs.size) ⟨hp.push o, g, d, tk, os⟩ → wpAny (model prog w) A' (pyIter v) Q E ⟨hp, g, d, tk, os⟩ :=
      fun q => B.iter prog w _ _ ⟨hp, g, d, tk, os⟩ _ h1 q
    wp_walk using begin_
    refine wpAny_stack_any fun st => wpAny_pure ?_
    split
    · rename_i c _ _ _ _ _
      cases (c == Value.type "enumerate") <;> (wp_walk using begin_; exact ⟨_, rfl, h⟩)
    · wp_walk using begin_
      exact ⟨_, rfl, h⟩
section
variable {prog : Program} {w : World} {A : Around} {E : Value → Shared → Prop} {s : Shared}
theorem enum1_begins {v : Value} {o : Obj} {Hd : Heap → Prop} {Q : Value → Shared → Prop} (B : Begins v o Hd) (h1 : Hd s.heap)
    (h : ∀ h1 : Heap, IsEnum h1 (s.heap.objs.size + 1) s.heap.objs.size 0 .none → h1.get? s.heap.objs.size = some o →
      (∀ b o, s.heap.get? b = some o → h1.get? b = some o) → Q (.ref (s.heap.objs.size + 1)) { s with heap := h1 }) :
    wpAny (model prog w) A (call (.type "enumerate") [v]) Q E s := by
  refine callType_new F.called_enumerate (by decide) (F.typeCall_enumerate_1 _) (F.newCall_enumerate_1 _) (fun obj => F.args_object_init_2 obj _) F.entry_enumerate_new (enumNew1 B) ⟨h1, ?_⟩
  have hz : (s.heap.push o).objs.size = s.heap.objs.size + 1 := Heap.size_push ..
  have he := Heap.get?_push_size (s.heap.push o) (o := { cls := .type "enumerate", data := .fields #[.none, .bool false, .ref s.heap.objs.size, rawInt 0, .none, .none] }) rfl
  show _ ∧ _
  rw [hz] at he ⊢
  exact ⟨⟨_, he, rfl⟩, h _ he (Heap.get?_push_of_some _ (Heap.get?_push_size _ B.free)) fun b o x => Heap.get?_push_of_some _ (Heap.get?_push_of_some _ x)⟩
end
/-- the tuple at a, each item in a new pair with its number -/
def IteT (K : PySem.W.Frag) (a : Addr) : It :=
  ⟨fun i H => ∃ (xs : List V) (x : V), SqT K H a xs ∧ xs[i]? = some x,
   fun i H v H1 => ∃ T x, v = .ref T ∧ H T = none ∧ H1 = upd H T (.tup [.int (i : Nat), x]) ∧ ∀ xs, SqT K H a xs → xs[i]? = some x,
   fun i H => ∃ xs : List V, SqT K H a xs ∧ xs.length ≤ i⟩
theorem turn_enumT {P : Program} {w : World} {K : PySem.W.Frag} {elts : List Expr} {kk : Nat} {tpos : Pos} {a e it : Addr} (ne : e ≠ it) (nea : e ≠ a) (nia : it ≠ a) :
    Turn P w K (.Tuple elts kk tpos) (IteT K a) [e, it] e (fun i h => (∃ old, IsEnum h e it (0 + (i : Int)) old) ∧ h.IsTupleIter it a i) where
  mem := by simp
  obj := fun i h st b hb => by
    obtain ⟨⟨old, he⟩, o, ho, hc, hd⟩ := st
    rcases (show b = e ∨ b = it by simpa using hb) with z | z
    · subst z
      exact ⟨_, he, fun v q => nomatch q⟩
    · subst z
      exact ⟨o, ho, fun v q => by rw [hd] at q; cases q⟩
  keep := fun i h h' st k => let ⟨⟨old, he⟩, hi⟩ := st; ⟨⟨old, k e (by simp) _ he⟩, hi.at fun o q => k it (by simp) o q⟩
  item := by
    intro X hP hw hK hc i pins s σ H E I hf st hg
    subst hP hw hK
    obtain ⟨xs, x, hq, hx⟩ := hg
    obtain ⟨its, rv, p, hz⟩ := I.tuple hq
    obtain ⟨u, hu, ru⟩ := rv.get hx
    have hi : i < its.toArray.size := by
      have z := (List.getElem?_eq_some_iff.mp hu).1
      simpa using z
    have G := GoesN.enumFrom (prog := X.prog) (w := X.w) (A := X.A) (elts := elts) (x1 := kk) (pos := tpos) 0 (Draws.tuple (prog := X.prog) (w := X.w) (A := X.A.in1) (I.ok.hd hc) it a (Ne.symm nia) its.toArray) e ne (by simp [ne, nea]) (by simp)
    refine wpAny_mono (G.goes i s (fun v s2 => ∃ x H', Inv X pins σ H' s2 ∧ RelV x v ∧ (IteT X.K a).yld i H x H' ∧ ((∃ old, IsEnum s2.heap e it (0 + ((i + 1 : Nat) : Int)) old) ∧ s2.heap.IsTupleIter it a (i + 1)) ∧ ∀ b ∈ [e, it], H' b = none) E hi ⟨st.1, st.2, p⟩ ?_)
      (fun r s1 ⟨v, hr, h1⟩ => ⟨v, hr, wpAny_mono h1 (fun _ s2 q => q) fun _ _ q => q⟩) fun _ _ q => q
    rintro v h2 tk ⟨T, t, y, rfl, hT, hy, tT⟩ st2 hk htk
    obtain rfl : y = u := by
      have e1 : its[i]? = some y := by simpa using hy
      exact Option.some.inj (e1.symm.trans hu)
    have fT : H T = none := I.hok.fresh hT
    have I1 : Inv X pins σ (upd H T (.tup [.int (i : Nat), x])) { s with heap := h2, toks := tk } :=
      I.turnedNew (ch := [e, it]) hk hf hT ⟨by show 2 ≤ sizeLine; decide, [.int (0 + (i : Int)) t, y], .cons ⟨t, by rw [Int.zero_add]⟩ (.cons ru .nil), by
        obtain ⟨o, h1, h2, n, h3⟩ := tT
        exact ⟨o, h1, h2, n, h3⟩⟩
    refine ⟨.ref T, _, I1, rfl, ⟨T, x, rfl, fT, rfl, fun ys hys => by rw [I.tuple_inj hys hq]; exact hx⟩, ⟨st2.1, st2.2.1⟩, fun b hb => ?_⟩
    have lt : b < s.heap.objs.size := by
      obtain ⟨⟨old, he⟩, o, ho, _⟩ := st
      rcases (show b = e ∨ b = it by simpa using hb) with z | z
      · rw [z]; exact Heap.lt_size he
      · rw [z]; exact Heap.lt_size ho
    rw [upd_ne (Nat.ne_of_lt (Nat.lt_of_lt_of_le lt hT))]
    exact (hf b hb).1
  done := by
    intro X hP hw hK hc i pins s σ H E I hf st hg
    subst hP hw hK
    obtain ⟨xs, hq, hx⟩ := hg
    obtain ⟨its, rv, p, hz⟩ := I.tuple hq
    obtain ⟨f0, f1, f2, f3, f4, f5⟩ := hf it (by simp)
    have hl := rv.length
    obtain ⟨⟨old, he⟩, hit⟩ := st
    have none_ : its.toArray[i]? = none := by simp; omega
    have D : Draws X.prog X.w X.A.in1 it [it, a] i (fun _ _ => False) (fun j h => j = i ∧ h.IsTupleIter it a j ∧ h.IsTuple a its.toArray) :=
      { live := fun _ _ st => let ⟨o, ho, _⟩ := st.2.1; ⟨o, ho⟩
        frame := fun _ _ _ st hk => ⟨st.1, st.2.1.at fun o e => hk it (by simp) o e, st.2.2.at fun o e => hk a (by simp) o e⟩
        item := fun j s Q E hj st _ => absurd st.1 (Nat.ne_of_lt hj)
        done := fun s Q E st hE => wpAny_nextOf_tuple_end (I.ok.hd hc) st.2.1 st.2.2 none_ hE }
    exact wpAny_pyNext_enum_endD D he ⟨rfl, hit, p⟩ fun h' eb => ⟨rfl, I.turned (t' := s.toks) (fun b o hb q => eb b o hb q) f0 f1 f3 f4 f5⟩
  self := fun A i s Q E st h => let ⟨⟨_, he⟩, _⟩ := st; wpAny_pyIter_enum he h
def iEnumT (K : PySem.W.Frag) (ta : TA) : TI := fun σ H R => ta σ H fun vs H1 => ∃ a xs, vs = [.ref a] ∧ SqT K H1 a xs ∧ R (IteT K a) H1
theorem pi_enumT {X : Cx} {e : Expr} {ta : TA} {p pos tpos : Pos} {elts : List Expr} {kk : Nat} (hg : Gl X "enumerate") (hm : X.mg "enumerate" = none) (ha : PA X [e] ta) (hs : starEach [e] X.env = [(false, eval e X.env)] := by rfl) :
    PI X (.Tuple elts kk tpos) (.Call (.Name "enumerate" p) [e] [] pos) (iEnumT X.K ta) := by
  refine ⟨fun pins s σ H R I h => ?_⟩
  refine Call_ (ld_blt I hg hm boot_enumerate (PyProof.Rows.callWith_type1 (thn (ha.run pos pins s σ H _ I h) fun us s1 ⟨vs, H1, I1, r1, q1⟩ => ?_) hs rfl))
  obtain ⟨a, xs, rfl, hq, q⟩ := q1
  cases r1 with
  | cons r rr =>
    cases rr
    cases r
    obtain ⟨its, rv, pt, hz⟩ := I1.tuple hq
    have la : a < s1.heap.objs.size := let ⟨o, ho, _⟩ := pt; Heap.lt_size ho
    refine enum1_begins (begins_tuple a its.toArray) pt fun h1 he hit hk => wpAny_pyIter_enum he ?_
    have I2 : Inv X pins σ H1 { s1 with heap := h1 } := I1.kept (t' := s1.toks) hk
    refine ⟨s1.heap.objs.size + 1, [s1.heap.objs.size + 1, s1.heap.objs.size], _, _, H1, rfl, I2, turn_enumT (Nat.succ_ne_self _) (Nat.ne_of_gt (Nat.lt_succ_of_lt la)) (Nat.ne_of_gt la), ⟨⟨.none, he⟩, ⟨_, hit, rfl, rfl⟩⟩, fun b hb => ?_, q⟩
    have hle : s1.heap.objs.size ≤ b := by
      rcases (show b = s1.heap.objs.size + 1 ∨ b = s1.heap.objs.size by simpa using hb) with z | z
      · rw [z]; exact Nat.le_succ _
      · rw [z]; exact Nat.le_refl _
    exact I1.fpOk hle (I1.hok.fresh hle)
end Cs
namespace Cs
open PySem PySem.Spec PyProof.Rows L2
/-! ### TABLE.get(text), a dict of the module -/
def tKGet (K : PySem.W.Frag) (d : Addr) (td ty : TE) : TE := fun σ H Q => td σ H fun x H1 => x = .ref d ∧ ty σ H1 fun y H2 => ∃ (z : Str) (r : Option Value) (v : V), y = .str z ∧ PySem.W.nsIn K d z = some r ∧ RelV v (r.getD .none) ∧ Q v H2
theorem pe_kget {X : Cx} {o e : Expr} {apos cpos : Pos} {td ty : TE} {d : Addr} {es : Array DictEntry} {n : Nat} (D : KDict X.K X.w d es n) (ho : PE X o td) (he : PE X e ty) (m : M1 X o "get" apos e cpos) :
    PE X (.Call (.Attribute o "get" apos) [e] [] cpos) (tKGet X.K d td ty) := by
  refine ⟨fun pins s σ H Q I h => ?_⟩
  refine wpAny_Call_method m.base m.few m.line PySem.F.plainAttrs_dict PySem.F.slot_dict_get PySem.F.type_dict_get (thn (ho.run pins s σ H _ I h) fun u s1 ⟨x, H1, I1, rx, ex, q1⟩ => ?_)
  subst ex
  obtain rfl : u = Value.ref d := rx
  have hm := PySem.W.mapOf_K (prog := X.prog) (w := X.w) I1.kIn D.at_ D.lit
  refine ⟨hm.typeIs, fun b q => ?_, ?_⟩
  · cases q
    obtain ⟨ob, _, _, h1, h2, _⟩ := hm
    exact ⟨ob, h1, h2.2.1⟩
  rw [m.trees]
  refine Calls.callWith_builtin rfl (Calls.evalArgs_plain (Calls.spliced_cons (thn (he.run pins s1 σ H1 _ I1 q1) fun iv s2 ⟨y, H2, I2, ry, z, r, v, ey, hr, rv, q2⟩ => Calls.spliced_nil ?_)))
  subst ey
  obtain ⟨t, rfl⟩ := ry
  have hm2 := PySem.W.mapOf_K (prog := X.prog) (w := X.w) I2.kIn D.at_ D.lit
  refine call_meetsIn PySem.F.slot_dict_get hm2.typeIs PySem.F.entry_dict_get (PySem.F.args_dict_get_2 _ _) (meets_dict_get (strKind X.prog X.w) d (strKind_is X.prog X.w z t) D.low) ⟨_, hm2, ?_⟩
  rw [PySem.W.find_K D.at_ hr]
  exact ⟨v, H2, I2.tok _, rv, q2⟩
end Cs
namespace Cs
open PySem PySem.Spec PyProof.Rows L2
/-! ### zip(t, l), t a tuple and l a list -/
def ItM (K : PySem.W.Frag) (a b : Addr) (xs ys : List V) : It :=
  ⟨fun i H => SqT K H a xs ∧ SqL K H b ys ∧ i < min xs.length ys.length,
   fun i H v H1 => ∃ T x y, v = .ref T ∧ H T = none ∧ H1 = upd H T (.tup [x, y]) ∧ xs[i]? = some x ∧ ys[i]? = some y,
   fun i H => SqT K H a xs ∧ SqL K H b ys ∧ i = min xs.length ys.length⟩
theorem sub4 {z TI TO i1 i2 c : Addr} (m : c ∈ [z, TO, i1, i2]) : c ∈ [z, TI, TO, i1, i2] := by
  simp only [List.mem_cons, List.not_mem_nil, or_false] at m ⊢
  rcases m with m | m | m | m <;> simp [m]
theorem turn_zipM {P : Program} {w : World} {K : PySem.W.Frag} {elts : List Expr} {kk : Nat} {tpos : Pos} {a b z TI TO i1 i2 : Addr} {xs ys : List V} (S : ZipSep2 z TI TO i1 i2 [i1, a] [i2, b]) (n1 : i1 ≠ a) (n2 : i2 ≠ b) :
    Turn P w K (.Tuple elts kk tpos) (ItM K a b xs ys) [z, TI, TO, i1, i2] z (fun i h => IsZip h z TI TO .none ∧ IsTupOf2 h TI (.ref i1) (.ref i2) ∧ (∃ x y, IsTupOf2 h TO x y) ∧ h.IsTupleIter i1 a i ∧ h.IsListIter i2 b i) where
  mem := by simp
  obj := fun i h st c hc => by
    obtain ⟨hz, hTI, ⟨x, y, hTO⟩, ⟨o1, e1, _, d1⟩, ⟨o2, e2, _, d2⟩⟩ := st
    rcases (show c = z ∨ c = TI ∨ c = TO ∨ c = i1 ∨ c = i2 by simpa using hc) with q | q | q | q | q <;> subst q
    · exact ⟨_, hz, fun v q => nomatch q⟩
    · exact ⟨_, hTI, fun v q => nomatch q⟩
    · exact ⟨_, hTO, fun v q => nomatch q⟩
    · exact ⟨o1, e1, fun v q => by rw [d1] at q; cases q⟩
    · exact ⟨o2, e2, fun v q => by rw [d2] at q; cases q⟩
  keep := fun i h h' st k => by
    obtain ⟨hz, hTI, ⟨x, y, hTO⟩, h1, h2⟩ := st
    exact ⟨k z (by simp) _ hz, k TI (by simp) _ hTI, ⟨x, y, k TO (by simp) _ hTO⟩, h1.at fun o q => k i1 (by simp) o q, h2.at fun o q => k i2 (by simp) o q⟩
  item := by
    intro X hP hw hK hc i pins s σ H E I hf st hg
    subst hP hw hK
    obtain ⟨hqx, hqy, hlt⟩ := hg
    obtain ⟨its, rv, p, _⟩ := I.tuple hqx
    obtain ⟨its2, rv2, p2, _⟩ := I.list hqy
    have l1 : its.toArray.size = xs.length := by rw [List.size_toArray, ← rv.length]
    have l2 : its2.toArray.size = ys.length := by rw [List.size_toArray, ← rv2.length]
    have G := GoesN.zip2 (prog := X.prog) (w := X.w) (A := X.A) (elts := elts) (x1 := kk) (pos := tpos) S (Draws.tuple (prog := X.prog) (w := X.w) (A := X.A.in1) (I.ok.hd hc) i1 a (Ne.symm n1) its.toArray) (Draws.list (prog := X.prog) (w := X.w) (A := X.A.in1) (I.ok.hd hc) i2 b (Ne.symm n2) its2.toArray)
    refine wpAny_mono (G.goes i s (fun v s2 => ∃ x H', Inv X pins σ H' s2 ∧ RelV x v ∧ (ItM X.K a b xs ys).yld i H x H' ∧ (IsZip s2.heap z TI TO .none ∧ IsTupOf2 s2.heap TI (.ref i1) (.ref i2) ∧ (∃ x y, IsTupOf2 s2.heap TO x y) ∧ s2.heap.IsTupleIter i1 a (i + 1) ∧ s2.heap.IsListIter i2 b (i + 1)) ∧ ∀ c ∈ [z, TI, TO, i1, i2], H' c = none) E (by rw [l1, l2]; exact hlt)
        ⟨st.1, st.2.1, st.2.2.1, ⟨st.2.2.2.1, p⟩, ⟨st.2.2.2.2, p2.isList⟩⟩ ?_)
      (fun r s1 ⟨v, hr, h1⟩ => ⟨v, hr, wpAny_mono h1 (fun _ s2 q => q) fun _ _ q => q⟩) fun _ _ q => q
    rintro v h2 tk ⟨T, u1, u2, rfl, hT, hx, hy, tT⟩ st2 hk htk
    obtain ⟨x, ex, rx⟩ : ∃ x, xs[i]? = some x ∧ RelV x u1 := by
      have hi : i < xs.length := by omega
      obtain ⟨u, e1, e2⟩ := rv.get (List.getElem?_eq_getElem hi)
      have e3 : its[i]? = some u1 := by simpa using hx
      rw [e1] at e3
      cases e3
      exact ⟨_, List.getElem?_eq_getElem hi, e2⟩
    obtain ⟨y, ey, ry⟩ : ∃ y, ys[i]? = some y ∧ RelV y u2 := by
      have hi : i < ys.length := by omega
      obtain ⟨u, e1, e2⟩ := rv2.get (List.getElem?_eq_getElem hi)
      have e3 : its2[i]? = some u2 := by simpa using hy
      rw [e1] at e3
      cases e3
      exact ⟨_, List.getElem?_eq_getElem hi, e2⟩
    have lt : ∀ c ∈ [z, TI, TO, i1, i2], c < s.heap.objs.size := fun c hc => by
      obtain ⟨hz, hTI, ⟨x, y, hTO⟩, ⟨o1, e1, _, _⟩, ⟨o2, e2, _, _⟩⟩ := st
      rcases (show c = z ∨ c = TI ∨ c = TO ∨ c = i1 ∨ c = i2 by simpa using hc) with q | q | q | q | q <;> subst q
      · exact Heap.lt_size hz
      · exact Heap.lt_size hTI
      · exact Heap.lt_size hTO
      · exact Heap.lt_size e1
      · exact Heap.lt_size e2
    have hk2 : ∀ c o, c ∉ [z, TI, TO, i1, i2] → s.heap.get? c = some o → h2.get? c = some o := fun c o hc e => hk c o (fun m => hc (sub4 m)) e
    have I1 : Inv X pins σ (upd H T (.tup [x, y])) { s with heap := h2, toks := tk } :=
      I.turnedNew (ch := [z, TI, TO, i1, i2]) hk2 hf hT ⟨by show 2 ≤ sizeLine; decide, [u1, u2], .cons rx (.cons ry .nil), by
        obtain ⟨o, h1, h2, n, h3⟩ := tT
        exact ⟨o, h1, h2, n, h3⟩⟩
    refine ⟨.ref T, _, I1, rfl, ⟨T, x, y, rfl, I.hok.fresh hT, rfl, ex, ey⟩, ⟨st2.1, st2.2.1, st2.2.2.1, st2.2.2.2.1.1, st2.2.2.2.2.1⟩, fun c hc => ?_⟩
    rw [upd_ne (Nat.ne_of_lt (Nat.lt_of_lt_of_le (lt c hc) hT))]
    exact (hf c hc).1
  done := by
    intro X hP hw hK hc i pins s σ H E I hf st hg
    subst hP hw hK
    obtain ⟨hqx, hqy, rfl⟩ := hg
    obtain ⟨its, rv, p, _⟩ := I.tuple hqx
    obtain ⟨its2, rv2, p2, _⟩ := I.list hqy
    have l1 : its.toArray.size = xs.length := by rw [List.size_toArray, ← rv.length]
    have l2 : its2.toArray.size = ys.length := by rw [List.size_toArray, ← rv2.length]
    have G := GoesN.zip2 (prog := X.prog) (w := X.w) (A := X.A) (elts := elts) (x1 := kk) (pos := tpos) S (Draws.tuple (prog := X.prog) (w := X.w) (A := X.A.in1) (I.ok.hd hc) i1 a (Ne.symm n1) its.toArray) (Draws.list (prog := X.prog) (w := X.w) (A := X.A.in1) (I.ok.hd hc) i2 b (Ne.symm n2) its2.toArray)
    refine G.stops s (fun s1 => Inv X pins σ H s1) E ?_ fun h1 tk hk htk => ?_
    · rw [l1, l2]
      exact ⟨st.1, st.2.1, st.2.2.1, ⟨st.2.2.2.1, p⟩, ⟨st.2.2.2.2, p2.isList⟩⟩
    · exact I.turnedL (t' := tk) (ch := [z, TI, TO, i1, i2]) (fun c o hc e => hk c o (fun m => hc (sub4 m)) e) hf
  self := fun A i s Q E st h => wpAny_pyIter_zip st.1 h
def iZipM (K : PySem.W.Frag) (ta : TA) : TI := fun σ H R => ta σ H fun vs H1 => ∃ a b xs ys, vs = [.ref a, .ref b] ∧ SqT K H1 a xs ∧ SqL K H1 b ys ∧ R (ItM K a b xs ys) H1
theorem pi_zipM {X : Cx} {e e2 : Expr} {ta : TA} {p pos tpos : Pos} {elts : List Expr} {kk : Nat} (hg : Gl X "zip") (hm : X.mg "zip" = none) (ha : PA X [e, e2] ta)
    (hs : starEach [e, e2] X.env = (false, eval e X.env) :: starEach [e2] X.env := by rfl) (hpl : (backTo pos (starEach [e2] X.env)).any (·.1) = false := by rfl) :
    PI X (.Tuple elts kk tpos) (.Call (.Name "zip" p) [e, e2] [] pos) (iZipM X.K ta) := by
  refine ⟨fun pins s σ H R I h => ?_⟩
  refine Call_ (ld_blt I hg hm PyProof.Rows.boot_zip (PyProof.Rows.callWith_type1 (thn (ha.run pos pins s σ H _ I h) fun us s1 ⟨vs, H1, I1, r1, q1⟩ => ?_) hs hpl))
  obtain ⟨a, b, xs, ys, rfl, hqx, hqy, q⟩ := q1
  obtain ⟨u1, u2, rfl, ru1, ru2⟩ := vals2 r1
  obtain rfl : u1 = Value.ref a := ru1
  obtain rfl : u2 = Value.ref b := ru2
  obtain ⟨its, rv, p1, _⟩ := I1.tuple hqx
  obtain ⟨its2, rv2, p2, _⟩ := I1.list hqy
  have la : a < s1.heap.objs.size := let ⟨o, ho, _⟩ := p1; Heap.lt_size ho
  have lb : b < s1.heap.objs.size := p2.lt
  refine zip_begins2 (begins_tuple a its.toArray) (begins_list b its2.toArray) p1 p2.isList fun h1 hz hTI hTO g1 g2 _ hk => wpAny_pyIter_zip hz ?_
  have I2 : Inv X pins σ H1 { s1 with heap := h1 } := I1.kept (t' := s1.toks) hk
  refine ⟨s1.heap.objs.size + 4, [s1.heap.objs.size + 4, s1.heap.objs.size + 2, s1.heap.objs.size + 3, s1.heap.objs.size, s1.heap.objs.size + 1], _, _, H1, rfl, I2,
    turn_zipM (xs := xs) (ys := ys) (zip_sep2 (N := s1.heap.objs.size) (fp1 := [a]) (fp2 := [b]) (fun c hc => by rw [List.mem_singleton.mp hc]; exact la) fun c hc => by rw [List.mem_singleton.mp hc]; exact lb) (Nat.ne_of_gt la) (Nat.ne_of_gt (Nat.lt_succ_of_lt lb)),
    ⟨hz, hTI, ⟨_, _, hTO⟩, ⟨_, g1, rfl, rfl⟩, ⟨_, g2, rfl, rfl⟩⟩, fun c hc => ?_, q⟩
  have hle : s1.heap.objs.size ≤ c := by
    rcases (show c = s1.heap.objs.size + 4 ∨ c = s1.heap.objs.size + 2 ∨ c = s1.heap.objs.size + 3 ∨ c = s1.heap.objs.size ∨ c = s1.heap.objs.size + 1 by simpa using hc) with z | z | z | z | z <;> rw [z]
    · exact Nat.le_add_right _ _
    · exact Nat.le_add_right _ _
    · exact Nat.le_add_right _ _
    · exact Nat.le_refl _
    · exact Nat.le_add_right _ _
  exact I1.fpOk hle (I1.hok.fresh hle)
end Cs
/-! match e: case ["word", a, _, b]: .. over a tuple -/
namespace Cs
open PySem PySem.Spec PyProof.Rows L2
/-- a case: its word ahead, the places of the names behind it (none: _), its suite -/
structure MC where
  word : Str
  names : List (Option Nat)
  t : TS
def bindAll : List (Option Nat) → List V → L2.St → L2.St
  | some i :: is, v :: vs, σ => bindAll is vs (σ.set i (some v))
  | none :: is, _ :: vs, σ => bindAll is vs σ
  | _, _, σ => σ
def tCases (d : TS) : List MC → List V → TS
  | [], _ => d
  | c :: cs, xs => fun D σ H =>
    (∃ vs, xs = .str c.word :: vs ∧ vs.length = c.names.length ∧ c.t D (bindAll c.names vs σ) H) ∨
    ((xs.length ≠ c.names.length + 1 ∨ ∃ y vs, xs = .str y :: vs ∧ y ≠ c.word) ∧ tCases d cs xs D σ H)
def tMatch (K : PySem.W.Frag) (te : TE) (cs : List MC) (d : TS) : TS := fun D σ H => te σ H fun x H1 => ∃ a xs, x = .ref a ∧ SqT K H1 a xs ∧ tCases d cs xs D σ H1
section
variable {X : Cx}
inductive NmOk (X : Cx) : List Pattern → List (Option Nat) → Prop
  | nil : NmOk X [] []
  | wild {ps : List Pattern} {is : List (Option Nat)} {p : Pos} : NmOk X ps is → NmOk X (.MatchAs none none p :: ps) (none :: is)
  | name {ps : List Pattern} {is : List (Option Nat)} {p : Pos} {x : Str} {i : Nat} : X.N[i]? = some x → Loc X.env.scope x → (X.fn x = true ∨ X.env.scope.names.lookup x = some .local) → NmOk X ps is → NmOk X (.MatchAs none (some x) p :: ps) (some i :: is)
inductive CasesOk (X : Cx) : List MatchCase → List MC → TS → Prop
  | nil : CasesOk X [] [] tNext
  | dflt {p : Pos} {body : List Stmt} {t : TS} : PSs X body t → CasesOk X [⟨.MatchAs none none p, none, body⟩] [] t
  | cons {x : Str} {j p1 p2 p3} {ps : List Pattern} {is : List (Option Nat)} {body : List Stmt} {t d : TS} {cs : List MatchCase} {ms : List MC} :
      NmOk X ps is → PSs X body t → CasesOk X cs ms d → CasesOk X (⟨.MatchSequence (.MatchValue (.Constant (.str x) j p1) p2 :: ps) p3, none, body⟩ :: cs) (⟨x, is, t⟩ :: ms) d
/-- what the names are bound to -/
def bsOf : List Pattern → List Value → List (Str × Value)
  | .MatchAs none nm _ :: ps, v :: vs => (nm.map (·, v)).toList ++ bsOf ps vs
  | _, _ => []
theorem NmOk.len {ps : List Pattern} {is : List (Option Nat)} (h : NmOk X ps is) : ps.length = is.length := by
  induction h with
  | nil => rfl
  | wild _ ih => simp [ih]
  | name _ _ _ _ ih => simp [ih]
theorem NmOk.nostar {ps : List Pattern} {is : List (Option Nat)} (h : NmOk X ps is) : ps.findIdx? (·.isStar) = none := by
  induction h with
  | nil => rfl
  | wild _ ih => rw [List.findIdx?_cons, ih]; rfl
  | name _ _ _ _ ih => rw [List.findIdx?_cons, ih]; rfl
theorem NmOk.each {M : Model} {A : Around} {E : Value → Shared → Prop} {env : Env} {ps : List Pattern} {is : List (Option Nat)} (h : NmOk X ps is) : ∀ {us : List Value} {s : Shared} {Q : Option (List (Str × Value)) → Shared → Prop}, us.length = ps.length → Q (some (bsOf ps us)) s →
    wpAny M A (matchEach ps env us) Q E s := by
  induction h with
  | nil => intro us s Q _ q; exact wpAny_matchEach_nil q
  | wild _ ih =>
    intro us s Q e q
    cases us with
    | nil => cases e
    | cons u us => exact wpAny_matchEach_cons (wpAny_matchPattern_Capture (ih (Nat.succ.inj e) q))
  | name _ _ _ _ ih =>
    intro us s Q e q
    cases us with
    | nil => cases e
    | cons u us => exact wpAny_matchEach_cons (wpAny_matchPattern_Capture (ih (Nat.succ.inj e) q))
theorem NmOk.binds (hN : X.N.Nodup) {pins : List (Addr × Obj)} {H : Hp} {ps : List Pattern} {is : List (Option Nat)} (h : NmOk X ps is) : ∀ {vs : List V} {us : List Value} {σ : L2.St} {s : Shared} {Q : Unit → Shared → Prop}, Vals vs us → vs.length = is.length → Inv X pins σ H s →
    (∀ s', Inv X pins (bindAll is vs σ) H s' → Q () s') →
    wpAny (model X.prog X.w) X.A (assignInOrder ((bsOf ps us).map fun (n, _) => bindName X.env n) ((bsOf ps us).map (·.2))) Q X.xe s := by
  induction h with
  | nil => intro vs us σ s Q r e I q; exact assignInOrder_nil (q s (by cases vs <;> first | exact I | cases e))
  | wild _ ih =>
    intro vs us σ s Q r e I q
    cases r with
    | nil => cases e
    | cons r rr => exact ih rr (Nat.succ.inj e) I q
  | @name ps is p x i hi hl hf _ ih =>
    intro vs us σ s Q r e I q
    cases r with
    | nil => cases e
    | @cons v u vr ur r rr =>
      show wpAny _ _ (assignInOrder (bindName X.env x :: ((bsOf ps ur).map fun (n, _) => bindName X.env n)) (u :: (bsOf ps ur).map (·.2))) _ _ _
      refine assignInOrder_cons (wpAny_bindName (store_ok I hN hi hl r (fun s' I' => ?_) hf))
      exact ih rr (Nat.succ.inj e) I' q
theorem cases_run (hc : X.calm = true) (hN : X.N.Nodup) {a : Addr} {xs : List V} {D : Ends} {cs : List MatchCase} {ms : List MC} {d : TS} (h : CasesOk X cs ms d) : ∀ {first : Bool} {pins : List (Addr × Obj)} {σ : L2.St} {H : Hp} {s : Shared}, Inv X pins σ H s → SqT X.K H a xs →
    tCases d ms xs D σ H → wpAny (model X.prog X.w) X.A (matchCases cs X.env (.ref a) first) (SP X pins D) X.xe s := by
  induction h with
  | nil => intro first pins σ H s I hq q; exact wpAny_matchCases_nil ⟨σ, H, I, q⟩
  | dflt hb => intro first pins σ H s I hq q; exact wpAny_matchCases_cons (wpAny_matchPattern_Capture (assignInOrder_nil (hb.run pins s σ H D I q)))
  | @cons x j p1 p2 p3 ps is body t d cs ms hn hb hcs ih =>
    intro first pins σ H s I hq q
    obtain ⟨its, rv, ht, hz⟩ := I.tuple hq
    have hlen : its.toArray.size = xs.length := by simp [rv.length]
    have hfit : (its.toArray.size : Int) < 2 ^ 63 := by
      rw [hlen]
      have := hz
      rw [sizeLine_eq] at this
      omega
    have nost : (Pattern.MatchValue (.Constant (.str x) j p1) p2 :: ps).findIdx? (·.isStar) = none := by
      rw [List.findIdx?_cons, hn.nostar]
      rfl
    have nowild : ((Pattern.MatchValue (.Constant (.str x) j p1) p2 :: ps).all fun p => p.isWildcard || (p.isStar && p.names.isEmpty)) = false := by
      rw [List.all_cons]
      rfl
    refine wpAny_matchCases_cons ?_
    by_cases hl : xs.length = is.length + 1
    · -- the tuple is opened
      have hsz : its.toArray.size = (Pattern.MatchValue (.Constant (.str x) j p1) p2 :: ps).length := by rw [hlen, hl, List.length_cons, hn.len]
      refine matchSeq_tuple_hit ht hfit hsz ?_ nost nowild
      rw [← hsz]
      refine unpackItems_tuple (I.ok.hd hc) ht fun h' hx => ?_
      have I1 : Inv X pins σ H { s with heap := h', toks := s.toks + 1 + 1 } := I.kept (t' := s.toks + 1 + 1) fun b o e => hx b o (Nat.ne_of_lt (Heap.lt_size e)) e
      show wpAny _ _ (matchEach _ _ its) _ _ _
      -- the word
      obtain ⟨v0, vs, rfl⟩ : ∃ v0 vs, xs = v0 :: vs := by
        cases xs with
        | nil => cases hl
        | cons v0 vs => exact ⟨v0, vs, rfl⟩
      cases rv with
      | @cons _ u0 _ us r0 rr =>
        refine wpAny_matchEach_cons (wpAny_matchPattern_Value (Calls.Constant_str ?_))
        have hw : ∃ y, v0 = .str y := by
          rcases q with ⟨vs', e, _⟩ | ⟨e | ⟨y, vs', e, _⟩, _⟩
          · cases e; exact ⟨_, rfl⟩
          · exact absurd hl e
          · cases e; exact ⟨_, rfl⟩
        obtain ⟨y, rfl⟩ := hw
        obtain ⟨tk, rfl⟩ := r0
        refine eq_str (wpAny_truthy_bool ?_)
        have I2 := I1.tok ({ s with heap := h', toks := s.toks + 1 + 1 } : Shared).toks.succ
        by_cases hy : y = x
        · subst hy
          rw [show (y == y) = true from beq_self_eq_true y]
          refine hn.each (by rw [← Vals.length rr]; have := hn.len; simp at hl; omega) ?_
          show wpAny _ _ (assignInOrder _ _) _ _ _
          rcases q with ⟨vs', e, e2, q⟩ | ⟨e | ⟨y', vs', e, ne⟩, _⟩
          · cases e
            refine hn.binds hN rr e2 I2 fun s' I' => ?_
            exact hb.run pins s' _ H D I' q
          · exact absurd hl e
          · cases e; exact absurd rfl ne
        · rw [show (y == x) = false from beq_eq_false_iff_ne.mpr hy]
          rcases q with ⟨vs', e, _⟩ | ⟨_, q⟩
          · cases e; exact absurd rfl hy
          · exact ih I2 hq q
    · have hsz : its.toArray.size ≠ (Pattern.MatchValue (.Constant (.str x) j p1) p2 :: ps).length := by rw [hlen, List.length_cons, hn.len]; exact hl
      refine matchSeq_tuple_miss ht hfit hsz ?_ nost nowild
      rcases q with ⟨vs, rfl, e, _⟩ | ⟨_, q⟩
      · exact absurd (by rw [List.length_cons, e]) hl
      · exact ih (I.tok _) hq q
theorem ps_match {e : Expr} {cs : List MatchCase} {pos : Pos} {te : TE} {ms : List MC} {d : TS} (hc : X.calm = true) (hN : X.N.Nodup) (he : PE X e te) (h : CasesOk X cs ms d) : PS X (.Match e cs pos) (tMatch X.K te ms d) := by
  refine ⟨fun pins s σ H D I q => ?_⟩
  refine wpAny_Match (thn (he.run pins s σ H _ I q) fun v s1 ⟨x, H1, I1, r1, q1⟩ => ?_)
  obtain ⟨a, xs, rfl, hq, q1⟩ := q1
  cases r1
  exact cases_run hc hN h I1 hq q1
end
end Cs
/-! dict(zip(l, t)), l a list and t a tuple -/
namespace Cs
open PySem PySem.Spec PyProof.Rows L2
section
variable {prog : Program} {w : World} {A : Around} {E : Value → Shared → Prop} {s : Shared} {z TI TO T i1 i2 : Addr} {fp1 fp2 : List Addr} {n1 n2 i : Nat} {P1 P2 : Nat → Value → Prop} {St1 St2 : Nat → Heap → Prop} {f : Bool} {oT : Obj}
/-- the next pair while the last one is still out -/
theorem heldPair_item {Q : Option Value → Shared → Prop} (S : ZipSep2 z TI TO i1 i2 fp1 fp2) (D1 : Draws prog w A.in1 i1 fp1 n1 P1 St1) (D2 : Draws prog w A.in1 i2 fp2 n2 P2 St2)
    (hz : IsZipHeld s.heap z TI TO T f) (hT : s.heap.get? T = some oT) (hTI : IsTupOf2 s.heap TI (.ref i1) (.ref i2)) (st1 : St1 i s.heap) (st2 : St2 i s.heap) (lt1 : i < n1) (lt2 : i < n2)
    (hQ : ∀ x1 x2 h' tk, P1 i x1 → P2 i x2 → IsZipHeld h' z TI TO T true → St1 (i + 1) h' → St2 (i + 1) h' → IsTupOf2 h' s.heap.objs.size x1 x2 →
      (∀ c o, c ≠ z → c ≠ i1 → c ≠ i2 → s.heap.get? c = some o → h'.get? c = some o) → Q (some (.ref s.heap.objs.size)) { s with heap := h', toks := tk }) :
    wpAny (model prog w) A (pyNext (.ref z)) Q E s := by
  obtain ⟨hp, g, d, tk0, os⟩ := s
  have ty : Shared.TypeIs ⟨hp, g, d, tk0, os⟩ (.ref z) "zip" := ⟨_, hz, rfl⟩
  unfold pyNext
  refine wpAny_bind (wpAny_attempt (wpAny_callSpecial?_slot (name := Str.ofString "__next__") ty F.slot_zip_next (wpAny_call_entry F.slot_zip_next ty F.entry_zip_next ?_ (F.args_zip_next_1 _))))
  show wpAny _ _ (field (.ref z) 2 >>= _) _ _ _
  refine wpAny_bind (wpAny_field hz rfl (x := .bool false) rfl ?_)
  show wpAny _ _ (field (.ref z) 3 >>= _) _ _ _
  refine wpAny_bind (wpAny_field hz rfl (x := .ref TI) rfl (wpAny_bind (wpAny_seqItems hTI rfl ?_)))
  refine wpAny_bind (wpAny_tupleHeld_zip hz hT fun g0 hz0 s0 => ?_)
  simp only [Bool.false_eq_true, if_false]
  refine wpAny_bind ?_
  rw [← Array.forIn_toList]
  simp only [List.forIn_cons, List.forIn_nil]
  refine wpAny_bind (wpAny_bind (wpAny_holding ?_))
  refine wpAny_bind (D1.item i _ _ _ lt1 (D1.over st1 s0 S.zf1) fun x1 p1 t1 hx1 sn1 q1 => wpAny_pure (wpAny_pure ?_))
  replace q1 : Heap.SameBut i1 g0 p1 := q1
  refine wpAny_bind (wpAny_bind (wpAny_holding ?_))
  refine wpAny_bind (D2.item i ⟨p1, g, d, t1, os⟩ _ _ lt2 (D2.over (D2.over st2 s0 S.zf2) q1 S.sep1_2) fun x2 p2 t2 hx2 sn2 q2 => wpAny_pure (wpAny_pure (wpAny_pure ?_)))
  replace q2 : Heap.SameBut i2 p1 p2 := q2
  refine wpAny_bind (m := newTuple [x1, x2]) (wpAny_newTuple (wpAny_pure ⟨_, rfl, ?_⟩))
  have sz : p2.objs.size = hp.objs.size := by rw [q2.1, q1.1, s0.1]
  have kp : ∀ c o, c ≠ z → c ≠ i1 → c ≠ i2 → hp.get? c = some o → p2.get? c = some o := fun c o a b c2 e => q2.extBut _ _ c2 (q1.extBut _ _ b (s0.extBut _ _ a e))
  have up : ∀ c o, p2.get? c = some o → (p2.push { cls := .type "tuple", data := .seq #[x1, x2] }).get? c = some o := fun c o e => Heap.get?_push_of_some _ e
  have hp3 : IsTupOf2 (p2.push { cls := .type "tuple", data := .seq #[x1, x2] }) p2.objs.size x1 x2 := Heap.get?_push_size _ rfl
  have zz : IsZipHeld p2 z TI TO T true := q2.extBut _ _ S.zi2 (q1.extBut _ _ S.zi1 hz0)
  refine wpAny_pure ?_
  show Q (some (.ref p2.objs.size)) _
  rw [sz] at hp3 ⊢
  exact hQ x1 x2 _ t2 hx1 hx2 (up _ _ zz) (D1.frame _ _ _ (D1.over sn1 q2 S.sep2_1) fun b _ o e => up b o e) (D2.frame _ _ _ sn2 fun b _ o e => up b o e) hp3 fun c o a b c2 e => up c o (kp c o a b c2 e)
/-- no pair is left while the last one is still out -/
theorem heldPair_end {Q : Option Value → Shared → Prop} (S : ZipSep2 z TI TO i1 i2 fp1 fp2) (D1 : Draws prog w A.in1 i1 fp1 n1 P1 St1) (D2 : Draws prog w A.in1 i2 fp2 n2 P2 St2)
    (hz : IsZipHeld s.heap z TI TO T f) (hT : s.heap.get? T = some oT) (hTI : IsTupOf2 s.heap TI (.ref i1) (.ref i2)) (st1 : St1 i s.heap) (st2 : St2 i s.heap) (e1 : i = n1) (e2 : i = n2)
    (hQ : ∀ h', (∀ c o, c ≠ z → c ≠ i1 → c ≠ i2 → s.heap.get? c = some o → h'.get? c = some o) → Q none { s with heap := h' }) :
    wpAny (model prog w) A (pyNext (.ref z)) Q E s := by
  obtain ⟨hp, g, d, tk0, os⟩ := s
  have ty : Shared.TypeIs ⟨hp, g, d, tk0, os⟩ (.ref z) "zip" := ⟨_, hz, rfl⟩
  unfold pyNext
  refine wpAny_bind (wpAny_attempt (wpAny_callSpecial?_slot (name := Str.ofString "__next__") ty F.slot_zip_next (wpAny_call_entry F.slot_zip_next ty F.entry_zip_next ?_ (F.args_zip_next_1 _))))
  show wpAny _ _ (field (.ref z) 2 >>= _) _ _ _
  refine wpAny_bind (wpAny_field hz rfl (x := .bool false) rfl ?_)
  show wpAny _ _ (field (.ref z) 3 >>= _) _ _ _
  refine wpAny_bind (wpAny_field hz rfl (x := .ref TI) rfl (wpAny_bind (wpAny_seqItems hTI rfl ?_)))
  refine wpAny_bind (wpAny_tupleHeld_zip hz hT fun g0 hz0 s0 => ?_)
  simp only [Bool.false_eq_true, if_false]
  refine wpAny_bind ?_
  rw [← Array.forIn_toList]
  simp only [List.forIn_cons, List.forIn_nil]
  refine wpAny_bind (wpAny_bind (wpAny_holding ?_))
  subst e1
  refine wpAny_bind (D1.done ⟨g0, g, d, tk0, os⟩ _ _ (D1.over st1 s0 S.zf1) fun p e q he => ?_)
  obtain ⟨o, ho, hc⟩ := he
  refine wpAny_bind (wpAny_isInstance (T := "StopIteration") (b := true) ⟨o, ho, hc⟩ isSubtype_stop (wpAny_pure (hQ _ fun c o2 a b _ e3 => ?_)))
  exact q _ _ b (s0.extBut _ _ a e3)
end
section
variable {prog : Program} {w : World}
/-- what dict() draws of zip over a list and a tuple of one length -/
theorem zipLT_arg (z TI TO i1 i2 l t : Addr) (S : ZipSep2 z TI TO i1 i2 [i1, l] [i2, t]) (n1 : l ≠ i1) (n2 : t ≠ i2) (lz : TI ≠ l) (tz : TI ≠ t) (xs ys : Array Value) (hsz : xs.size = ys.size) :
    PairArg prog w "zip" z [z, TI, TO, i1, i2, l, t] [z, TO, i1, i2] xs.size (fun i k v => xs[i]? = some k ∧ ys[i]? = some v)
      (fun h => IsZip h z TI TO .none ∧ IsTupOf2 h TI (.ref i1) (.ref i2) ∧ (∃ a b, IsTupOf2 h TO a b) ∧ (h.IsListIter i1 l 0 ∧ h.IsList l xs) ∧ (h.IsTupleIter i2 t 0 ∧ h.IsTuple t ys)) where
  type := fun s ok => ⟨_, ok.1, rfl⟩
  notDict := by decide
  keep := fun h h' ⟨a, b, ⟨c, d, e⟩, ⟨f1, f2⟩, g1, g2⟩ hk => ⟨hk _ _ a, hk _ _ b, ⟨c, d, hk _ _ e⟩, ⟨f1.at fun o q => hk _ o q, f2.at fun o q => hk _ o q⟩, g1.at fun o q => hk _ o q, g2.at fun o q => hk _ o q⟩
  there := fun h ⟨a, b, ⟨c, d, e⟩, ⟨⟨o1, f1, _⟩, ⟨o2, f2, _⟩⟩, ⟨o3, g1, _⟩, ⟨o4, g2, _⟩⟩ q hq => by
    simp only [List.mem_cons, List.not_mem_nil, or_false] at hq
    rcases hq with rfl | rfl | rfl | rfl | rfl | rfl | rfl
    · exact ⟨_, a⟩
    · exact ⟨_, b⟩
    · exact ⟨_, e⟩
    · exact ⟨_, f1⟩
    · exact ⟨_, g1⟩
    · exact ⟨_, f2⟩
    · exact ⟨_, g2⟩
  sub := fun b hb => by
    simp only [List.mem_cons, List.not_mem_nil, or_false] at hb ⊢
    rcases hb with rfl | rfl | rfl | rfl <;> simp
  noKeys := fun A s Q E hA ok h => getAttrOr_miss_zip ok.1 rfl rfl rfl zip_no_keys (by decide +kernel) hA h
  iter := fun A s d Q E hA ⟨hz, hTI, ⟨a, b, hTO⟩, st1, st2⟩ hd hdf h => by
    simp only [List.mem_cons, List.not_mem_nil, or_false, not_or] at hdf
    obtain ⟨dz, dTI, dTO, di1, di2, dl, dt⟩ := hdf
    have D1 := Draws.list (prog := prog) (w := w) (A := A.in1) hA i1 l n1 xs
    have D2 := Draws.tuple (prog := prog) (w := w) (A := A.in1) hA i2 t n2 ys
    refine wpAny_pyIter_zip hz (h z [z, TO, i1, i2] (fun i h => IsTupOf2 h TI (.ref i1) (.ref i2) ∧ (h.IsListIter i1 l i ∧ h.IsList l xs) ∧ (h.IsTupleIter i2 t i ∧ h.IsTuple t ys) ∧
      ((IsZip h z TI TO .none ∧ ∃ a b, IsTupOf2 h TO a b) ∨ ∃ T f oT, IsZipHeld h z TI TO T f ∧ h.get? T = some oT ∧ T ≠ z ∧ T ≠ i1 ∧ T ≠ i2 ∧ T ≠ d)) s.heap s.toks ?_ ⟨hTI, st1, st2, .inl ⟨hz, a, b, hTO⟩⟩ (fun _ _ e => e) fun b hb => .inl hb)
    refine { off := ?_, frame := ?_, item := ?_, done := ?_ }
    · intro hm
      simp only [List.mem_cons, List.not_mem_nil, or_false] at hm
      rcases hm with e | e | e | e
      · exact dz e
      · exact dTO e
      · exact di1 e
      · exact di2 e
    · rintro i h1 h2 ⟨q1, q2, q3, q4⟩ hk
      refine ⟨hk _ _ (Ne.symm dTI) q1, D1.frame _ _ _ q2 fun c hc o e => hk c o (fun e2 => ?_) e, D2.frame _ _ _ q3 fun c hc o e => hk c o (fun e2 => ?_) e, ?_⟩
      · simp only [List.mem_cons, List.not_mem_nil, or_false] at hc
        rcases hc with e3 | e3
        · exact di1 (e2.symm.trans e3)
        · exact dl (e2.symm.trans e3)
      · simp only [List.mem_cons, List.not_mem_nil, or_false] at hc
        rcases hc with e3 | e3
        · exact di2 (e2.symm.trans e3)
        · exact dt (e2.symm.trans e3)
      · rcases q4 with ⟨q, a, b, q'⟩ | ⟨T, f, oT, q, q', r1, r2, r3, r4⟩
        · exact .inl ⟨hk _ _ (Ne.symm dz) q, a, b, hk _ _ (Ne.symm dTO) q'⟩
        · exact .inr ⟨T, f, oT, hk _ _ (Ne.symm dz) q, hk _ _ r4 q', r1, r2, r3, r4⟩
    · rintro i s1 Q1 E1 hi ⟨q1, q2, q3, q4⟩ hds hQ
      have hi2 : i < ys.size := hsz ▸ hi
      have old : ∀ {c o}, s1.heap.get? c = some o → s1.heap.objs.size ≠ c := fun e => Nat.ne_of_gt (Heap.lt_size e)
      have o1 : s1.heap.objs.size ≠ i1 := let ⟨_, e⟩ := D1.live _ _ q2; old e
      have o2 : s1.heap.objs.size ≠ i2 := let ⟨_, e⟩ := D2.live _ _ q3; old e
      have four : ∀ {c : Addr}, c ∉ [z, TO, i1, i2] → c ≠ z ∧ c ≠ TO ∧ c ≠ i1 ∧ c ≠ i2 := fun hc => by
        simpa only [List.mem_cons, List.not_mem_nil, or_false, not_or] using hc
      rcases q4 with ⟨hz, a, b, hTO⟩ | ⟨T, f, oT, hz, hT, r1, r2, r3, r4⟩
      · refine wpAny_pyNext_zipD2_item S D1 D2 hz q1 hTO q2 q3 hi hi2 fun x1 x2 h' tk p1 p2 z1 z2 m1 m2 tp _ kp => ?_
        exact hQ s1.heap.objs.size x1 x2 h' tk ⟨p1, p2⟩ (.inl ⟨_, tp, rfl, _, rfl⟩) ⟨kp _ _ S.TIz S.TITO S.TIi1 S.TIi2 q1, m1, m2, .inr ⟨s1.heap.objs.size, false, _, z1, tp, old hz, o1, o2, Nat.ne_of_gt hds⟩⟩
          fun c o hc e => kp c o (four hc).1 (four hc).2.1 (four hc).2.2.1 (four hc).2.2.2 e
      · refine heldPair_item S D1 D2 hz hT q1 q2 q3 hi hi2 fun x1 x2 h' tk p1 p2 z1 m1 m2 tp kp => ?_
        exact hQ s1.heap.objs.size x1 x2 h' tk ⟨p1, p2⟩ (.inl ⟨_, tp, rfl, _, rfl⟩) ⟨kp _ _ S.TIz S.TIi1 S.TIi2 q1, m1, m2, .inr ⟨T, true, oT, z1, kp _ _ r1 r2 r3 hT, r1, r2, r3, r4⟩⟩
          fun c o hc e => kp c o (four hc).1 (four hc).2.2.1 (four hc).2.2.2 e
    · rintro s1 Q1 E1 ⟨q1, q2, q3, q4⟩ hQ
      have four : ∀ {c : Addr}, c ∉ [z, TO, i1, i2] → c ≠ z ∧ c ≠ TO ∧ c ≠ i1 ∧ c ≠ i2 := fun hc => by
        simpa only [List.mem_cons, List.not_mem_nil, or_false, not_or] using hc
      rcases q4 with ⟨hz, a, b, hTO⟩ | ⟨T, f, oT, hz, hT, r1, r2, r3, r4⟩
      · exact wpAny_pyNext_zipD2_end S D1 D2 hz q1 hTO q2 q3 (Nat.le_refl _) (Nat.le_of_eq hsz) (.inl rfl) fun h' tk kp => hQ h' tk fun c o hc e => kp c o (four hc).1 (four hc).2.1 (four hc).2.2.1 (four hc).2.2.2 e
      · exact heldPair_end S D1 D2 hz hT q1 q2 q3 rfl hsz fun h' kp => hQ h' s1.toks fun c o hc e => kp c o (four hc).1 (four hc).2.2.1 (four hc).2.2.2 e
end
/-- dict(zip(l, t)) -/
def tDictZip (K : PySem.W.Frag) (ta : TA) : TE := fun σ H Q => ta σ H fun vs H1 => ∃ (a b : Addr) (kvs : List (Key × V)), vs = [.ref a, .ref b] ∧ SqL K H1 a (kvs.map fun p => kV p.1) ∧ SqT K H1 b (kvs.map (·.2)) ∧
  ∀ p, H1 p = none → Q (.ref p) (upd H1 p (.dK (mergeK [] kvs)))
theorem vals_keys : ∀ {kvs : List (Key × V)} {us ws : List Value}, Vals (kvs.map fun p => kV p.1) us → Vals (kvs.map (·.2)) ws → ∃ prs : List (Key × Value), KV kvs prs ∧ prs.length = us.length ∧ (∀ (j : Nat) k v, us[j]? = some k → ws[j]? = some v → ∃ q, prs[j]? = some (q, v) ∧ keyIs q k = true)
  | [], _, _, .nil, .nil => ⟨[], .nil, rfl, fun j k v e => by simp at e⟩
  | (k, v) :: kvs, u :: us, x :: ws, .cons r1 rr, .cons r2 rs => by
    obtain ⟨prs, h1, h2, h3⟩ := vals_keys rr rs
    refine ⟨(k, x) :: prs, .cons ⟨rfl, r2⟩ h1, by simp [h2], fun j k' v' e1 e2 => ?_⟩
    cases j with
    | zero =>
      cases e1; cases e2
      refine ⟨k, rfl, ?_⟩
      cases k with
      | inl n => obtain ⟨t, rfl⟩ := (r1 : ∃ t, u = .int n t); exact keyIs_int n t
      | inr y => obtain ⟨t, rfl⟩ := (r1 : ∃ t, u = .str y t); exact keyIs_str y t
    | succ j => exact h3 j k' v' e1 e2
theorem pe_dictZip {X : Cx} {e e2 : Expr} {ta : TA} {p p2 pos pos2 : Pos} (hc : X.calm = true) (hg : Gl X "dict") (hm : X.mg "dict" = none) (hg2 : Gl X "zip") (hm2 : X.mg "zip" = none) (ha : PA X [e, e2] ta)
    (hs : starEach [e, e2] X.env = (false, eval e X.env) :: starEach [e2] X.env := by rfl) (hpl : (backTo pos2 (starEach [e2] X.env)).any (·.1) = false := by rfl)
    (hs2 : starEach [.Call (.Name "zip" p2) [e, e2] [] pos2] X.env = [(false, eval (.Call (.Name "zip" p2) [e, e2] [] pos2) X.env)] := by rfl) :
    PE X (.Call (.Name "dict" p) [.Call (.Name "zip" p2) [e, e2] [] pos2] [] pos) (tDictZip X.K ta) := by
  refine ⟨fun pins s σ H Q I h => ?_⟩
  refine wpAny_Call_Name_kw (ld_blt I hg hm (u := .type "dict") (by decide +kernel) ?_)
  refine PyProof.Rows.callWith_type1 ?_ hs2
  rw [hs2]
  refine Calls.spliced_cons (Call_ (ld_blt I hg2 hm2 PyProof.Rows.boot_zip (PyProof.Rows.callWith_type1 (thn (ha.run pos2 pins s σ H _ I h) fun us s1 ⟨vs, H1, I1, r1, q1⟩ => ?_) hs hpl)))
  obtain ⟨a, b, kvs, rfl, hqx, hqy, q⟩ := q1
  obtain ⟨u1, u2, rfl, ru1, ru2⟩ := vals2 r1
  obtain rfl : u1 = Value.ref a := ru1
  obtain rfl : u2 = Value.ref b := ru2
  obtain ⟨its, rv, p1, z1⟩ := I1.list hqx
  obtain ⟨its2, rv2, p2, _⟩ := I1.tuple hqy
  have la : a < s1.heap.objs.size := p1.lt
  have lb : b < s1.heap.objs.size := let ⟨o, ho, _⟩ := p2; Heap.lt_size ho
  have hl1 : its.length = kvs.length := by have := rv.length; simp at this; exact this.symm
  have hl2 : its2.length = kvs.length := by have := rv2.length; simp at this; exact this.symm
  refine zip_begins2 (begins_list a its.toArray) (begins_tuple b its2.toArray) p1.isList p2 fun h1 hz hTI hTO g1 g2 hsz hk => Calls.spliced_nil ?_
  obtain ⟨prs, rel, lp, hp⟩ := vals_keys rv rv2
  have S := zip_sep2 (N := s1.heap.objs.size) (fp1 := [a]) (fp2 := [b]) (fun c hc => by rw [List.mem_singleton.mp hc]; exact la) fun c hc => by rw [List.mem_singleton.mp hc]; exact lb
  have t1 : h1.IsList a its.toArray := p1.isList.at fun o e => hk a o e
  have t2 : h1.IsTuple b its2.toArray := by
    obtain ⟨o, e1, e2, n, e3⟩ := p2
    exact ⟨o, hk _ _ e1, e2, n, e3⟩
  refine PySem.call_dict_pairs (knd := mixKind X.prog X.w) (kvs := prs) (zipLT_arg (s1.heap.objs.size + 4) (s1.heap.objs.size + 2) (s1.heap.objs.size + 3) s1.heap.objs.size (s1.heap.objs.size + 1) a b S (Nat.ne_of_lt la) (Nat.ne_of_lt (Nat.lt_succ_of_lt lb)) (Nat.ne_of_gt (Nat.lt_add_right 2 la)) (Nat.ne_of_gt (Nat.lt_add_right 2 lb)) its.toArray its2.toArray (by simp [hl1, hl2])) (I1.ok.hd hc)
    ⟨hz, hTI, ⟨_, _, hTO⟩, ⟨⟨_, g1, rfl, rfl⟩, t1⟩, ⟨_, g2, rfl, rfl⟩, t2⟩ ⟨by simp [lp], fun j key v e => ?_⟩ (by simp only [List.size_toArray]; rw [← rv.length]; exact z1) fun h2 tk hd2 hk2 => ?_
  · obtain ⟨e1, e2⟩ := e
    obtain ⟨q, e3, e4⟩ := hp j key v (by simpa using e1) (by simpa using e2)
    exact ⟨q, e3, e4⟩
  · have hle : s1.heap.objs.size ≤ h1.objs.size := by rw [hsz]; omega
    have hm : (h1.objs.size == sysModules) = false := beq_eq_false_iff_ne.mpr (Nat.ne_of_gt (Nat.lt_of_lt_of_le I1.big hle))
    have hlen : (mergeK [] kvs).length ≤ sizeLine := by
      refine Nat.le_trans (length_mergeK kvs []) ?_
      rw [List.length_nil, Nat.zero_add]
      simpa using z1
    refine ⟨.ref h1.objs.size, upd H1 h1.objs.size (.dK (mergeK [] kvs)), I1.laid (t' := tk) (fun c o e => hk2 c o (fun m => ?_) (hk c o e)) hle (show ObjOk X.prog X.w _ _ _ (.dK (mergeK [] kvs)) from ⟨hlen, hm, merged [] prs, KV.merge rel .nil, hd2⟩), rfl, q _ (I1.hok.fresh hle)⟩
    have lc := Heap.lt_size e
    simp only [List.mem_cons, List.not_mem_nil, or_false] at m
    rcases m with z | z | z | z <;> rw [z] at lc <;> exact absurd lc (Nat.not_lt.mpr (by first | exact Nat.le_refl _ | exact Nat.le_add_right _ _))
end Cs
namespace Cs
open PySem PySem.Spec L2
/-! ## data that stays -/
theorem same_upd {H : Hp} {p : Addr} {o : HO} (h : H p = none) : Same H (upd H p o) := fun b x e => by
  rw [upd_ne (ne_of_none e h)]
  exact e
theorem Same.tup {K : PySem.W.Frag} {H H1 : Hp} {a : Addr} {xs : List V} (s : Same H H1) (h : SqT K H a xs) : SqT K H1 a xs := by
  rcases h with (h | ⟨o, h⟩) | h
  · exact .inl (.inl (s _ _ h))
  · exact .inl (.inr ⟨o, s _ _ h⟩)
  · exact .inr h
mutual
theorem Dp.same {K : PySem.W.Frag} {H H1 : Hp} (s : Same H H1) : ∀ {v : V} {d : PyData}, Dp K H v d → Dp K H1 v d
  | _, _, .non => .non
  | _, _, .bl b => .bl b
  | _, _, .int i => .int i
  | _, _, .str x => .str x
  | _, _, .lst h t => .lst (s.seq h) (DpAll.same s t)
  | _, _, .tup h t => .tup (Same.tup s h) (DpAll.same s t)
theorem DpAll.same {K : PySem.W.Frag} {H H1 : Hp} (s : Same H H1) : ∀ {vs : List V} {ds : List PyData}, DpAll K H vs ds → DpAll K H1 vs ds
  | _, _, .nil => .nil
  | _, _, .cons h t => .cons (Dp.same s h) (DpAll.same s t)
end
/-! ### what never changes: tuples, numbers, texts -/
/-- what stands for ever -/
def Imm : HO → Prop
  | .tup _ => True
  | .frz _ _ => True
  | _ => False
def SameI (H H1 : Hp) : Prop := ∀ b o, Imm o → H b = some o → H1 b = some o
theorem SameI.refl (H : Hp) : SameI H H := fun _ _ _ h => h
theorem SameI.trans {H H1 H2 : Hp} (a : SameI H H1) (b : SameI H1 H2) : SameI H H2 := fun c o i h => b c o i (a c o i h)
theorem sameI_of {H H1 : Hp} (s : Same H H1) : SameI H H1 := fun b o _ h => s b o h
theorem sameI_upd {H : Hp} {p : Addr} {o u : HO} (h : H p = some u) (n : ¬ Imm u) : SameI H (upd H p o) := fun b x i e => by
  rw [upd_ne fun z => ?_]
  · exact e
  · rw [z, h] at e
    cases e
    exact n i
theorem SameI.tup {K : PySem.W.Frag} {H H1 : Hp} {a : Addr} {xs : List V} (s : SameI H H1) (h : SqT K H a xs) : SqT K H1 a xs := by
  rcases h with (h | ⟨o, h⟩) | h
  · exact .inl (.inl (s _ _ True.intro h))
  · exact .inl (.inr ⟨o, s _ _ True.intro h⟩)
  · exact .inr h
theorem SameI.pl {H H1 : Hp} {a : Addr} {xs : List V} (s : SameI H H1) (h : PlT H a xs) : PlT H1 a xs := let ⟨o, e, d⟩ := h; ⟨o, s _ _ True.intro e, d⟩
mutual
/-- data of tuples -/
inductive Im (K : PySem.W.Frag) (H : Hp) : V → PyData → Prop
  | non : Im K H .non .none
  | bl (b : Bool) : Im K H (.bl b) (.bool b)
  | int (i : Int) : Im K H (.int i) (.int i)
  | str (x : Str) : Im K H (.str x) (.str x)
  | tup {a : Addr} {xs : List V} {ds : List PyData} : SqT K H a xs → ImAll K H xs ds → Im K H (.ref a) (.tuple ds)
inductive ImAll (K : PySem.W.Frag) (H : Hp) : List V → List PyData → Prop
  | nil : ImAll K H [] []
  | cons {v : V} {vs : List V} {d : PyData} {ds : List PyData} : Im K H v d → ImAll K H vs ds → ImAll K H (v :: vs) (d :: ds)
end
mutual
theorem Im.same {K : PySem.W.Frag} {H H1 : Hp} (s : SameI H H1) : ∀ {v : V} {d : PyData}, Im K H v d → Im K H1 v d
  | _, _, .non => .non
  | _, _, .bl b => .bl b
  | _, _, .int i => .int i
  | _, _, .str x => .str x
  | _, _, .tup h t => .tup (s.tup h) (ImAll.same s t)
theorem ImAll.same {K : PySem.W.Frag} {H H1 : Hp} (s : SameI H H1) : ∀ {vs : List V} {ds : List PyData}, ImAll K H vs ds → ImAll K H1 vs ds
  | _, _, .nil => .nil
  | _, _, .cons h t => .cons (Im.same s h) (ImAll.same s t)
end
mutual
theorem Im.dp {K : PySem.W.Frag} {H : Hp} : ∀ {v : V} {d : PyData}, Im K H v d → Dp K H v d
  | _, _, .non => .non
  | _, _, .bl b => .bl b
  | _, _, .int i => .int i
  | _, _, .str x => .str x
  | _, _, .tup h t => .tup h (ImAll.dp t)
theorem ImAll.dp {K : PySem.W.Frag} {H : Hp} : ∀ {vs : List V} {ds : List PyData}, ImAll K H vs ds → DpAll K H vs ds
  | _, _, .nil => .nil
  | _, _, .cons h t => .cons (Im.dp h) (ImAll.dp t)
end
theorem im_tup {K : PySem.W.Frag} {H : Hp} {v : V} {ds : List PyData} (h : Im K H v (.tuple ds)) : ∃ a xs, v = .ref a ∧ SqT K H a xs ∧ ImAll K H xs ds := by
  cases h with
  | tup h t => exact ⟨_, _, rfl, h, t⟩
theorem im_str {K : PySem.W.Frag} {H : Hp} {v : V} {x : Str} (h : Im K H v (.str x)) : v = .str x := by cases h; rfl
theorem im_int {K : PySem.W.Frag} {H : Hp} {v : V} {x : Int} (h : Im K H v (.int x)) : v = .int x := by cases h; rfl
theorem all0 {K : PySem.W.Frag} {H : Hp} {xs : List V} (h : ImAll K H xs []) : xs = [] := by cases h; rfl
theorem all_cons {K : PySem.W.Frag} {H : Hp} {xs : List V} {d : PyData} {ds : List PyData} (h : ImAll K H xs (d :: ds)) : ∃ v vs, xs = v :: vs ∧ Im K H v d ∧ ImAll K H vs ds := by
  cases h with
  | cons h t => exact ⟨_, _, rfl, h, t⟩
theorem ImAll.append {K : PySem.W.Frag} {H : Hp} : ∀ {xs ys : List V} {ds es : List PyData}, ImAll K H xs ds → ImAll K H ys es → ImAll K H (xs ++ ys) (ds ++ es)
  | _, _, _, _, .nil, h => h
  | _, _, _, _, .cons h t, q => .cons h (ImAll.append t q)
theorem ImAll.length {K : PySem.W.Frag} {H : Hp} : ∀ {xs : List V} {ds : List PyData}, ImAll K H xs ds → xs.length = ds.length
  | _, _, .nil => rfl
  | _, _, .cons _ t => congrArg Nat.succ (ImAll.length t)
theorem ImAll.get {K : PySem.W.Frag} {H : Hp} : ∀ {xs : List V} {ds : List PyData} {i : Nat} {x : V}, ImAll K H xs ds → xs[i]? = some x → ∃ d, ds[i]? = some d ∧ Im K H x d
  | _, _, 0, _, .cons h _, e => by cases e; exact ⟨_, rfl, h⟩
  | _, _, i + 1, _, .cons _ t, e => ImAll.get (i := i) t e
  | _, _, _, _, .nil, e => by simp at e
theorem ImAll.of {K : PySem.W.Frag} {H : Hp} : ∀ {xs : List V} {ds : List PyData}, xs.length = ds.length → (∀ (i : Nat) x d, xs[i]? = some x → ds[i]? = some d → Im K H x d) → ImAll K H xs ds
  | [], [], _, _ => .nil
  | [], _ :: _, e, _ => nomatch e
  | _ :: _, [], e, _ => nomatch e
  | x :: xs, d :: ds, e, h => .cons (h 0 x d rfl rfl) (ImAll.of (Nat.succ.inj e) fun i x d e1 e2 => h (i + 1) x d e1 e2)
theorem itd {p A B : Prop} [Decidable p] (h : p) (a : A) : if decide p = true then A else B := by rw [if_pos (decide_eq_true h)]; exact a
theorem itn {p A B : Prop} [Decidable p] (h : ¬ p) (b : B) : if decide p = true then A else B := by rw [if_neg (by rw [decide_eq_false h]; exact Bool.false_ne_true)]; exact b
theorem itnd {p A B : Prop} [Decidable p] (h : p) (b : B) : if (!decide p) = true then A else B := by rw [decide_eq_true h]; exact iteF b
theorem itnn {p A B : Prop} [Decidable p] (h : ¬ p) (a : A) : if (!decide p) = true then A else B := by rw [decide_eq_false h]; exact iteT a
theorem small {n : Nat} (h : n ≤ 1000000) : n ≤ sizeLine := by rw [sizeLine_eq]; omega
theorem smaller {n : Nat} (h : n ≤ 1000000) : n < sizeLine := by rw [sizeLine_eq]; omega
/-- [te for target in ..]: each element's value told by E, which stands as long as what never changes -/
theorem lc_data {J : It} {n : Nat} {G : Hp → Prop} {Y : Nat → Hp → V → Hp → Prop} (w : Walk J n G Y) {g : TG} {te : TE} {vs : List Nat} {σ : L2.St} {H1 : Hp} {D : Addr} {Qd : Hp → Prop} (E : Nat → V → Hp → Prop)
    (hst : ∀ i v H H2, SameI H H2 → E i v H → E i v H2) (hD : H1 D = none) (hG : ∀ H, Same H1 H → G H) (hn : n ≤ 1000000)
    (hs : ∀ i x H H2 (k : V → Hp → Prop), i < n → Same H1 H → Y i H x H2 → (∀ y H4, Same H H4 → E i y H4 → k y H4) → g x (wipe σ vs) H2 fun σ2 H3 => wipe σ2 vs = wipe σ vs ∧ te σ2 H3 k)
    (hd : ∀ H acc, Same H1 H → H D = some (.lst acc) → acc.length = n → (∀ (i : Nat) y, acc[i]? = some y → E i y H) → Qd H) :
    ∃ W : Nat → Nat → Hp → Prop, (∃ m, W 0 m (upd H1 D (.lst []))) ∧ ∀ i m H, W i m H →
      (J.stop i H ∧ Qd H) ∨ (J.go i H ∧ ∃ Nx : Hp → Prop, (∀ H', Nx H' → ∃ m', m' < m ∧ W (i + 1) m' H') ∧ ∀ x H', J.yld i H x H' → g x (wipe σ vs) H' fun σ2 H2 => wipe σ2 vs = wipe σ vs ∧ tYes σ2 H2 fun b H3 =>
        if b = true then te σ2 H3 fun y H4 => ∃ acc, H4 D = some (.lst acc) ∧ acc.length < sizeLine ∧ Nx (upd H4 D (.lst (acc ++ [y]))) else Nx H3) := by
  refine ⟨fun i m H => m = n - i ∧ i ≤ n ∧ Same H1 H ∧ ∃ acc, H D = some (.lst acc) ∧ acc.length = i ∧ ∀ (j : Nat) y, acc[j]? = some y → E j y H, ⟨n, by simp, Nat.zero_le _, same_upd hD, [], upd_same, rfl, fun j y e => by simp at e⟩, ?_⟩
  rintro i m H ⟨rfl, hi, s1, acc, e1, hl, hE⟩
  by_cases hlt : i < n
  · refine .inr ⟨w.goes i H hlt (hG H s1), fun H' => Same H1 H' ∧ ∃ acc, H' D = some (.lst acc) ∧ acc.length = i + 1 ∧ ∀ (j : Nat) y, acc[j]? = some y → E j y H', fun H' p => ⟨n - (i + 1), by omega, rfl, hlt, p⟩, fun x H' y => ?_⟩
    have z := hs i x H H' (fun y H4 => ∃ acc, H4 D = some (.lst acc) ∧ acc.length < sizeLine ∧ (Same H1 (upd H4 D (.lst (acc ++ [y]))) ∧ ∃ a2, (upd H4 D (.lst (acc ++ [y]))) D = some (.lst a2) ∧ a2.length = i + 1 ∧ ∀ (j : Nat) z, a2[j]? = some z → E j z (upd H4 D (.lst (acc ++ [y])))))
      hlt s1 (w.yields i H x H' hlt (hG H s1) y) (fun y H4 s4 hy => ?_)
    · exact z
    · have e4 : H4 D = some (.lst acc) := s4 _ _ e1
      have si : SameI H4 (upd H4 D (.lst (acc ++ [y]))) := sameI_upd e4 id
      refine ⟨acc, e4, smaller (by omega), fun b o e => ?_, acc ++ [y], upd_same, by rw [List.length_append, hl]; rfl, fun j z hz => ?_⟩
      · rw [upd_ne (ne_of_none e hD)]
        exact s4 _ _ (s1 _ _ e)
      · rcases Nat.lt_or_ge j acc.length with hj | hj
        · rw [List.getElem?_append_left hj] at hz
          exact hst _ _ _ _ si (hst _ _ _ _ (sameI_of s4) (hE j z hz))
        · rw [List.getElem?_append_right hj] at hz
          have e0 : j - acc.length = 0 := by
            rcases Nat.eq_zero_or_pos (j - acc.length) with h | h
            · exact h
            · rw [List.getElem?_eq_none (by show 1 ≤ _; exact h)] at hz
              cases hz
          rw [e0] at hz
          cases hz
          have ej : j = i := by omega
          rw [ej]
          exact hst _ _ _ _ si hy
  · have e : i = n := by omega
    subst e
    exact .inl ⟨w.stops H (hG H s1), hd H acc s1 e1 hl hE⟩
theorem tyx_tup {K : PySem.W.Frag} {H : Hp} {a : Addr} {xs : List V} (h : SqT K H a xs) : TyX K H (.ref a) (.type "tuple") := by
  rcases h with (h | ⟨o, h⟩) | ⟨o, its, n, h, c, _⟩
  · exact .base (.tup h)
  · exact .fTuple h
  · exact .kTuple h c
theorem tyx_lst {K : PySem.W.Frag} {H : Hp} {a : Addr} {xs : List V} (h : SqL K H a xs) : TyX K H (.ref a) (.type "list") := by
  rcases h with (h | ⟨o, h⟩) | ⟨o, its, n, h, c, _⟩
  · exact .base (.lst h)
  · exact .base (.frz h)
  · exact .kList h c
theorem kv {K : PySem.W.Frag} {a b : String} {r : Bool} (h : kitB a b = some r) : PySem.W.kitOne K (.type a) (.type b) = some r := kit_ty h
abbrev rLen (K : PySem.W.Frag) : List V → Hp → VK → Prop := fun xs H Q => ∃ x n, xs = [x] ∧ LenV K x H n ∧ Q (.int (n : Nat)) H
theorem pi_or {X : Cx} {tg e : Expr} {w1 w2 : TI} (h1 : PI X tg e w1) (h2 : PI X tg e w2) : PI X tg e (fun σ H R => w1 σ H R ∨ w2 σ H R) :=
  ⟨fun pins s σ H R I h => h.elim (h1.run pins s σ H R I) (h2.run pins s σ H R I)⟩
abbrev iZipX (K : PySem.W.Frag) (ta : TA) : TI := fun σ H R => RZ.iZipA K ta σ H R ∨ iZipM K ta σ H R
/-! ## programs as data -/
inductive Kd where
  | num | lst
  deriving DecidableEq
def Kd.s : Kd → Str
  | .num => "number"
  | .lst => "list"
abbrev Kd.v (k : Kd) : V := .str k.s
inductive Ms where
  | zero | of (x : Str) | len (x : Str)
inductive Dd where
  | num (n : Int) | sum (x : Str) (n : Int) | len (l : Str) | nil | put (x l : Str) | head (l : Str) | tail (l : Str) | at_ (l x : Str) | ask | call (f : Nat) (xs : List Str)
inductive Tr where
  | let_ (x : Str) (d : Dd) (t : Tr) | if_ (a b : Ms) (n : Int) (t u : Tr) | claim (a b : Ms) (n : Int) (t : Tr) | tell (x : Str)
def Ms.d : Ms → PyData
  | .zero => .tuple []
  | .of x => .tuple [.str "of", .str x]
  | .len x => .tuple [.str "len", .str x]
def Dd.d : Dd → PyData
  | .num n => .tuple [.str "num", .int n]
  | .sum x n => .tuple [.str "sum", .str x, .int n]
  | .len l => .tuple [.str "len", .str l]
  | .nil => .tuple [.str "nil"]
  | .put x l => .tuple [.str "put", .str x, .str l]
  | .head l => .tuple [.str "head", .str l]
  | .tail l => .tuple [.str "tail", .str l]
  | .at_ l x => .tuple [.str "at", .str l, .str x]
  | .ask => .tuple [.str "ask"]
  | .call f xs => .tuple [.str "call", .int f, .tuple (xs.map .str)]
def Tr.d : Tr → PyData
  | .let_ x d t => .tuple [.str "let", .str x, d.d, t.d]
  | .if_ a b n t u => .tuple [.str "if", a.d, b.d, .int n, t.d, u.d]
  | .claim a b n t => .tuple [.str "claim", a.d, b.d, .int n, t.d]
  | .tell x => .tuple [.str "tell", .str x]
abbrev Nm := List (Str × Kd)
structure Fn where
  ps : Nm
  kd : Kd
  tr : Tr
/-- a pair (name, kind) -/
def PrAt (K : PySem.W.Frag) (H : Hp) (a : Addr) (p : Str × Kd) : Prop := SqT K H a [.str p.1, p.2.v]
def FnAt (K : PySem.W.Frag) (H : Hp) (v : V) (f : Fn) : Prop := ∃ a p tv qs, v = .ref a ∧ SqT K H a [.ref p, f.kd.v, tv] ∧ PlT H p (qs.map V.ref) ∧ Paired (PrAt K H) qs f.ps ∧ Im K H tv f.tr.d
def PgAt (K : PySem.W.Frag) (H : Hp) (v : V) (fs : List Fn) : Prop := ∃ a vs, v = .ref a ∧ SqT K H a vs ∧ Paired (FnAt K H) vs fs
theorem PrAt.same {K : PySem.W.Frag} {H H1 : Hp} (s : SameI H H1) {a : Addr} {p : Str × Kd} (h : PrAt K H a p) : PrAt K H1 a p := s.tup h
theorem FnAt.same {K : PySem.W.Frag} {H H1 : Hp} (s : SameI H H1) {v : V} {f : Fn} : FnAt K H v f → FnAt K H1 v f
  | ⟨a, p, tv, qs, e, h1, h2, h3, h4⟩ => ⟨a, p, tv, qs, e, s.tup h1, s.pl h2, Paired.mapP h3 fun _ _ q => q.same s, Im.same s h4⟩
theorem PgAt.same {K : PySem.W.Frag} {H H1 : Hp} (s : SameI H H1) {v : V} {fs : List Fn} : PgAt K H v fs → PgAt K H1 v fs
  | ⟨a, vs, e, h1, h2⟩ => ⟨a, vs, e, s.tup h1, Paired.mapP h2 fun _ _ q => q.same s⟩
theorem paired_get {α β : Type} {R : α → β → Prop} : ∀ {l : List α} {m : List β} {i : Nat} {x : α}, Paired R l m → l[i]? = some x → ∃ y, m[i]? = some y ∧ R x y
  | _, _, 0, _, .cons h _, e => by cases e; exact ⟨_, rfl, h⟩
  | _, _, i + 1, _, .cons _ t, e => paired_get (i := i) t e
  | _, _, _, _, .nil, e => by simp at e
theorem paired_get' {α β : Type} {R : α → β → Prop} : ∀ {l : List α} {m : List β} {i : Nat} {y : β}, Paired R l m → m[i]? = some y → ∃ x, l[i]? = some x ∧ R x y
  | _, _, 0, _, .cons h _, e => by cases e; exact ⟨_, rfl, h⟩
  | _, _, i + 1, _, .cons _ t, e => paired_get' (i := i) t e
  | _, _, _, _, .nil, e => by simp at e
/-! ## what can be a program -/
def look (ns : Nm) (x : Str) : Option Kd := (ns.find? fun p => decide (p.1 = x)).map (·.2)
def near (n : Int) : Prop := -99 ≤ n ∧ n ≤ 99
instance (n : Int) : Decidable (near n) := by unfold near; infer_instance
/-- the signs of a name -/
def sign (c : Nat) : Prop := 97 ≤ c ∧ c ≤ 122
def okName (x : Str) : Prop := 1 ≤ x.length ∧ x.length ≤ 8 ∧ ∀ c ∈ x.cps.toList, sign c
def Ms.ok (ns : Nm) : Ms → Prop
  | .zero => True
  | .of x => look ns x = some .num
  | .len x => look ns x = some .lst
abbrev Hd := List (List Kd × Kd)
/-- a deed that can be, with the kind that it tells -/
def Dd.ok (hs : Hd) (ns : Nm) : Dd → Kd → Prop
  | .num n, k => near n ∧ k = .num
  | .sum x n, k => look ns x = some .num ∧ near n ∧ k = .num
  | .len l, k => look ns l = some .lst ∧ k = .num
  | .nil, k => k = .lst
  | .put x l, k => look ns x = some .num ∧ look ns l = some .lst ∧ k = .lst
  | .head l, k => look ns l = some .lst ∧ k = .num
  | .tail l, k => look ns l = some .lst ∧ k = .lst
  | .at_ l x, k => look ns l = some .lst ∧ look ns x = some .num ∧ k = .num
  | .ask, k => k = .num
  | .call f xs, k => 1 ≤ f ∧ ∃ h, hs[f]? = some h ∧ Paired (fun x kd => look ns x = some kd) xs h.1 ∧ k = h.2
def Tr.ok (hs : Hd) (k : Kd) : Nm → Tr → Prop
  | ns, .let_ x d t => okName x ∧ look ns x = none ∧ ∃ kd, d.ok hs ns kd ∧ Tr.ok hs k (ns ++ [(x, kd)]) t
  | ns, .if_ a b n t u => a.ok ns ∧ b.ok ns ∧ near n ∧ Tr.ok hs k ns t ∧ Tr.ok hs k ns u
  | ns, .claim a b n t => a.ok ns ∧ b.ok ns ∧ near n ∧ Tr.ok hs k ns t
  | ns, .tell x => look ns x = some k
def Tr.size : Tr → Nat
  | .let_ _ _ t => t.size + 1
  | .if_ _ _ _ t u => t.size + u.size + 1
  | .claim _ _ _ t => t.size + 1
  | .tell _ => 1
def Tr.deep : Tr → Nat
  | .let_ _ _ t => t.deep + 1
  | .if_ _ _ _ t u => max t.deep u.deep + 1
  | .claim _ _ _ t => t.deep + 1
  | .tell _ => 1
def Fn.hd (f : Fn) : List Kd × Kd := (f.ps.map (·.2), f.kd)
def Fn.ok (hs : Hd) (f : Fn) : Prop := f.ps.length ≤ 4 ∧ (∀ p ∈ f.ps, okName p.1) ∧ (f.ps.map (·.1)).Nodup ∧ f.tr.ok hs f.kd f.ps ∧ f.tr.size ≤ 60 ∧ f.tr.deep ≤ 20
def okPg (fs : List Fn) : Prop := 1 ≤ fs.length ∧ fs.length ≤ 6 ∧ ∀ f ∈ fs, f.ok (fs.map Fn.hd)
/-- the dict of names -/
abbrev nmK (ns : Nm) : List (Key × V) := ns.map fun p => (.inr p.1, p.2.v)
theorem nmK_val (ns : Nm) (x : Str) : valV (nmK ns) (.inr x) = (look ns x).map Kd.v := by
  induction ns with
  | nil => rfl
  | cons p r ih =>
    by_cases e : p.1 = x
    · have e2 : (Sum.inr p.1 : Key) = Sum.inr x := by rw [e]
      show valV ((.inr p.1, p.2.v) :: nmK r) (.inr x) = _
      rw [valV_pos e2]
      unfold look
      rw [List.find?_cons, decide_eq_true e]
      rfl
    · have e2 : ¬ (Sum.inr p.1 : Key) = Sum.inr x := fun z => e (Sum.inr.inj z)
      show valV ((.inr p.1, p.2.v) :: nmK r) (.inr x) = _
      rw [valV_neg e2, ih]
      unfold look
      rw [List.find?_cons, decide_eq_false e]
theorem Kd.v_inj {a b : Kd} (h : a.s = b.s) : a = b := by
  cases a <;> cases b <;> first | rfl | (exfalso; revert h; decide +kernel)
theorem putK_new {kvs : List (Key × V)} {k : Key} {v : V} (h : valV kvs k = none) : putK kvs k v = kvs ++ [(k, v)] := by
  unfold putK
  have e := valV_any k kvs
  rw [h] at e
  rw [if_neg (by rw [e]; decide)]
theorem nmK_put {ns : Nm} {x : Str} {kd : Kd} (h : look ns x = none) : putK (nmK ns) (.inr x) kd.v = nmK (ns ++ [(x, kd)]) := by
  rw [putK_new (by rw [nmK_val, h]; rfl)]
  unfold nmK
  rw [List.map_append]
  rfl
end Cs
namespace Cs
open PySem PySem.Spec L2
/-! ## all but one stays -/
def SameX (l : Addr) (H H1 : Hp) : Prop := ∀ b o, b ≠ l → H b = some o → H1 b = some o
theorem SameX.refl (l : Addr) (H : Hp) : SameX l H H := fun _ _ _ h => h
theorem SameX.trans {l : Addr} {H H1 H2 : Hp} (a : SameX l H H1) (b : SameX l H1 H2) : SameX l H H2 := fun c o n h => b c o n (a c o n h)
theorem sameX_of {l : Addr} {H H1 : Hp} (s : Same H H1) : SameX l H H1 := fun b o _ h => s b o h
theorem sameX_upd {l : Addr} {H : Hp} {o : HO} : SameX l H (upd H l o) := fun b x n h => by rw [upd_ne n]; exact h
theorem SameX.i {l : Addr} {H H1 : Hp} {o : HO} (s : SameX l H H1) (h : H l = some o) (n : ¬ Imm o) : SameI H H1 := fun b x i e => s b x (fun z => by
  rw [z, h] at e
  cases e
  exact n i) e
theorem SameX.same {l : Addr} {H H1 H2 : Hp} (a : Same H H1) (s : SameX l H1 H2) (n : H l = none) : Same H H2 := fun b o h => s b o (ne_of_none h n) (a b o h)
theorem paired_append {α β : Type} {R : α → β → Prop} : ∀ {l1 l2 : List α} {m1 m2 : List β}, Paired R l1 m1 → Paired R l2 m2 → Paired R (l1 ++ l2) (m1 ++ m2)
  | _, _, _, _, .nil, h => h
  | _, _, _, _, .cons h t, q => .cons h (paired_append t q)
theorem paired_reverse {α β : Type} {R : α → β → Prop} : ∀ {l : List α} {m : List β}, Paired R l m → Paired R l.reverse m.reverse
  | _, _, .nil => .nil
  | _, _, .cons h t => by
    rw [List.reverse_cons, List.reverse_cons]
    exact paired_append (paired_reverse t) (.cons h .nil)
theorem paired_last {α β : Type} {R : α → β → Prop} : ∀ {l : List α} {x : α} {m : List β}, Paired R (l ++ [x]) m → ∃ m1 y, m = m1 ++ [y] ∧ Paired R l m1 ∧ R x y
  | [], _, _, .cons h .nil => ⟨[], _, rfl, .nil, h⟩
  | _ :: l, x, _, .cons h t => by
    obtain ⟨m1, y, rfl, h1, h2⟩ := paired_last (l := l) t
    exact ⟨_ :: m1, y, rfl, .cons h h1, h2⟩
/-- a walk by what holds between the turns -/
theorem walk_by {J : It} {n : Nat} {G : Hp → Prop} {Y : Nat → Hp → V → Hp → Prop} (w : Walk J n G Y) {H0 : Hp} {Done : Hp → Prop} {Step : V → Hp → (Hp → Prop) → Prop} (Pv : Nat → Hp → Prop) (h0 : Pv 0 H0) (hG : ∀ i H, i ≤ n → Pv i H → G H)
    (hs : ∀ i x H H2, i < n → Pv i H → Y i H x H2 → Step x H2 (Pv (i + 1))) (hd : ∀ H, Pv n H → Done H) :
    ∃ W : Nat → Nat → Hp → Prop, (∃ m, W 0 m H0) ∧ ∀ j m H2, W j m H2 → (J.stop j H2 ∧ Done H2) ∨ (J.go j H2 ∧ ∃ N1 : Hp → Prop, (∀ H3, N1 H3 → ∃ m1, m1 < m ∧ W (j + 1) m1 H3) ∧ ∀ x H3, J.yld j H2 x H3 → Step x H3 N1) := by
  refine ⟨fun i m H => m = n - i ∧ i ≤ n ∧ Pv i H, ⟨n, by simp, Nat.zero_le _, h0⟩, ?_⟩
  rintro i m H ⟨rfl, hi, p⟩
  have q := hG i H hi p
  by_cases hlt : i < n
  · exact .inr ⟨w.goes i H hlt q, Pv (i + 1), fun H3 p3 => ⟨n - (i + 1), by omega, rfl, hlt, p3⟩, fun x H3 y => hs i x H H3 hlt p (w.yields i H x H3 hlt q y)⟩
  · obtain rfl : i = n := by omega
    exact .inl ⟨w.stops H q, hd H p⟩
def Scal : PyData → Prop
  | .none => True
  | .bool _ => True
  | .int _ => True
  | .str _ => True
  | _ => False
inductive Sized : Nat → PyData → Prop
  | sc {n : Nat} {d : PyData} : Scal d → Sized n d
  | tup {n : Nat} {ds : List PyData} : ds.length ≤ 1000000 → (∀ d ∈ ds, Sized n d) → Sized (n + 1) (.tuple ds)
  | lst {n : Nat} {ds : List PyData} : ds.length ≤ 1000000 → (∀ d ∈ ds, Sized n d) → Sized (n + 1) (.list ds)
theorem Sized.up {n : Nat} {d : PyData} (h : Sized n d) : Sized (n + 1) d := by
  induction h with
  | sc h => exact .sc h
  | tup h _ ih => exact .tup h ih
  | lst h _ ih => exact .lst h ih
theorem kany {K : PySem.W.Frag} {a b c : String} {r1 r2 : Bool} (h1 : kitB a b = some r1) (h2 : kitB a c = some r2) : PySem.W.kitAny K (.type a) [.type b, .type c] = some (r1 || r2) := by
  cases r1 <;> cases r2 <;> simp [PySem.W.kitAny, kit_ty h1, kit_ty h2]
def Sq (K : PySem.W.Frag) (b : Bool) (H : Hp) (a : Addr) (xs : List V) : Prop := match b with
  | true => SqL K H a xs
  | false => SqT K H a xs
def seqTy (b : Bool) : String := if b then "list" else "tuple"
theorem Sq.same {K : PySem.W.Frag} {b : Bool} {H H1 : Hp} (s : Same H H1) {a : Addr} {xs : List V} (h : Sq K b H a xs) : Sq K b H1 a xs := by
  cases b
  · exact Same.tup s h
  · exact s.seq h
theorem Sq.ty {K : PySem.W.Frag} {b : Bool} {H : Hp} {a : Addr} {xs : List V} (h : Sq K b H a xs) : TyX K H (.ref a) (.type (seqTy b)) := by
  cases b
  · exact tyx_tup h
  · exact tyx_lst h
theorem Sq.len {K : PySem.W.Frag} {b : Bool} {H : Hp} {a : Addr} {xs : List V} (h : Sq K b H a xs) : LenV K (.ref a) H xs.length := by
  cases b
  · exact .inr ⟨_, h, rfl⟩
  · exact .inl ⟨_, h, rfl⟩
theorem Sq.ix {K : PySem.W.Frag} {b : Bool} {H : Hp} {a : Addr} {xs : List V} {i : Nat} {x : V} {Q : VK} (h : Sq K b H a xs) (e : xs[i]? = some x) (q : Q x H) : rIx K (.ref a) (.int (i : Nat)) H Q := by
  cases b
  · exact .inr (.inl ⟨_, _, _, _, rfl, rfl, h, atI_nat e, q⟩)
  · exact .inl ⟨_, _, _, _, rfl, rfl, h, atI_nat e, q⟩
theorem DpAll.get {K : PySem.W.Frag} {H : Hp} : ∀ {xs : List V} {ds : List PyData} {i : Nat} {x : V}, DpAll K H xs ds → xs[i]? = some x → ∃ d, ds[i]? = some d ∧ Dp K H x d
  | _, _, 0, _, .cons h _, e => by cases e; exact ⟨_, rfl, h⟩
  | _, _, i + 1, _, .cons _ t, e => DpAll.get (i := i) t e
  | _, _, _, _, .nil, e => by simp at e
section
variable {K : PySem.W.Frag}
def Jt (K : PySem.W.Frag) (b : Bool) (a : Addr) : It := match b with
  | true => Itl K a
  | false => Itt K a
theorem walk_sq {b : Bool} {a : Addr} {xs : List V} : Walk (Jt K b a) xs.length (fun H => Sq K b H a xs) (YAt xs) := by
  cases b
  · exact walk_tup
  · exact walk_list
theorem iseq {b : Bool} {i : Nat} {σ : L2.St} {H : Hp} {a : Addr} {xs : List V} {R : It → Hp → Prop} (hσ : σ[i]? = some (some (.ref a))) (h : Sq K b H a xs) (r : R (Jt K b a) H) : iList K (tVar i) σ H R ∨ iTup K (tVar i) σ H R := by
  cases b
  · exact .inr ⟨_, hσ, a, rfl, ⟨_, h⟩, r⟩
  · exact .inl ⟨_, hσ, a, rfl, ⟨_, h⟩, r⟩
theorem yes_in {te : TE} {D : Addr} {cs : List Cl} {σ : L2.St} {H : Hp} {Nx : Hp → Prop} (h : tIn te D cs σ H Nx) : tYes σ H fun b H5 => if b = true then tIn te D cs σ H5 Nx else Nx H5 := by
  show (if true = true then tIn te D cs σ H Nx else Nx H)
  rw [if_pos rfl]; exact h
/-- where drawing stands -/
def Dw (K : PySem.W.Frag) (B H : Hp) (st : Addr) : Prop := ∃ (sc : Addr) (ns : List Int) (i mx r : Int), H st = some (.lst [.ref sc, .int i, .int mx, .int r]) ∧ SqL K B sc (ns.map V.int) ∧ 0 ≤ i ∧ 0 ≤ mx ∧ mx < 2147483647 ∧ 0 ≤ r
theorem Dw.upd {B H : Hp} {st p : Addr} {o : HO} (h : Dw K B H st) (n : p ≠ st) : Dw K B (L2.upd H p o) st := by
  obtain ⟨sc, ns, i, mx, r, e, q⟩ := h
  exact ⟨sc, ns, i, mx, r, by rw [upd_ne (fun z => n z.symm)]; exact e, q⟩
theorem Dw.step {B H H1 : Hp} {st : Addr} (h : Dw K B H st) (s : Same H H1) : Dw K B H1 st := by
  obtain ⟨sc, ns, i, mx, r, e, q⟩ := h
  exact ⟨sc, ns, i, mx, r, s _ _ e, q⟩
theorem Dw.ne {B H : Hp} {st p : Addr} (h : Dw K B H st) (n : H p = none) : p ≠ st := by
  obtain ⟨sc, ns, i, mx, r, e, q⟩ := h
  intro z
  rw [z, e] at n
  cases n
theorem Dw.i {B H H1 : Hp} {st : Addr} (h : Dw K B H st) (s : SameX st H H1) : SameI H H1 := by
  obtain ⟨sc, ns, i, mx, r, e, q⟩ := h
  exact s.i e id
/-- a fresh one, all else but l as before -/
theorem SameX.new {l p : Addr} {H H1 : Hp} {o : HO} (s : SameX l H H1) (n : H1 p = none) : SameX l H (L2.upd H1 p o) := s.trans (sameX_of (same_upd n))
/-- what wasn't there may change -/
theorem SameX.old {l p : Addr} {H H1 : Hp} {o : HO} (s : SameX l H H1) (n : H p = none) : SameX l H (L2.upd H1 p o) := fun b x hb e => by
  rw [upd_ne (ne_of_none e n)]
  exact s b x hb e
theorem Same.old {p : Addr} {H H1 : Hp} {o : HO} (s : Same H H1) (n : H p = none) : Same H (L2.upd H1 p o) := fun b x e => by
  rw [upd_ne (ne_of_none e n)]
  exact s b x e
theorem yes_te {te : TE} {σ : L2.St} {H : Hp} {Qv : VK} {Nx : Hp → Prop} (h : te σ H Qv) : tYes σ H fun b H3 => if b = true then te σ H3 Qv else Nx H3 := by
  show (if true = true then te σ H Qv else Nx H)
  rw [if_pos rfl]; exact h
end
/-- as lc_data; what is told may be changed, too -/
theorem lc_new {J : It} {n : Nat} {G : Hp → Prop} {Y : Nat → Hp → V → Hp → Prop} (w : Walk J n G Y) {g : TG} {te : TE} {vs : List Nat} {σ : L2.St} {H1 : Hp} {D : Addr} {Qd : Hp → Prop} (E : Nat → V → Hp → Prop)
    (hst : ∀ i v H H2 acc, H D = some (.lst acc) → SameX D H H2 → E i v H → E i v H2) (hD : H1 D = none) (hG : ∀ H, Same H1 H → G H) (hn : n ≤ 1000000)
    (hs : ∀ i x H H2 (k : V → Hp → Prop), i < n → Same H1 H → (∃ acc, H D = some (.lst acc)) → Y i H x H2 → (∀ y H4, Same H H4 → E i y H4 → k y H4) → g x (wipe σ vs) H2 fun σ2 H3 => wipe σ2 vs = wipe σ vs ∧ te σ2 H3 k)
    (hd : ∀ H acc, Same H1 H → H D = some (.lst acc) → acc.length = n → (∀ (i : Nat) y, acc[i]? = some y → E i y H) → Qd H) :
    ∃ W : Nat → Nat → Hp → Prop, (∃ m, W 0 m (upd H1 D (.lst []))) ∧ ∀ i m H, W i m H →
      (J.stop i H ∧ Qd H) ∨ (J.go i H ∧ ∃ Nx : Hp → Prop, (∀ H', Nx H' → ∃ m', m' < m ∧ W (i + 1) m' H') ∧ ∀ x H', J.yld i H x H' → g x (wipe σ vs) H' fun σ2 H2 => wipe σ2 vs = wipe σ vs ∧ tYes σ2 H2 fun b H3 =>
        if b = true then te σ2 H3 fun y H4 => ∃ acc, H4 D = some (.lst acc) ∧ acc.length < sizeLine ∧ Nx (upd H4 D (.lst (acc ++ [y]))) else Nx H3) := by
  refine ⟨fun i m H => m = n - i ∧ i ≤ n ∧ Same H1 H ∧ ∃ acc, H D = some (.lst acc) ∧ acc.length = i ∧ ∀ (j : Nat) y, acc[j]? = some y → E j y H, ⟨n, by simp, Nat.zero_le _, same_upd hD, [], upd_same, rfl, fun j y e => by simp at e⟩, ?_⟩
  rintro i m H ⟨rfl, hi, s1, acc, e1, hl, hE⟩
  by_cases hlt : i < n
  · refine .inr ⟨w.goes i H hlt (hG H s1), fun H' => Same H1 H' ∧ ∃ acc, H' D = some (.lst acc) ∧ acc.length = i + 1 ∧ ∀ (j : Nat) y, acc[j]? = some y → E j y H', fun H' p => ⟨n - (i + 1), by omega, rfl, hlt, p⟩, fun x H' y => ?_⟩
    have z := hs i x H H' (fun y H4 => ∃ acc, H4 D = some (.lst acc) ∧ acc.length < sizeLine ∧ (Same H1 (upd H4 D (.lst (acc ++ [y]))) ∧ ∃ a2, (upd H4 D (.lst (acc ++ [y]))) D = some (.lst a2) ∧ a2.length = i + 1 ∧ ∀ (j : Nat) z, a2[j]? = some z → E j z (upd H4 D (.lst (acc ++ [y])))))
      hlt s1 ⟨acc, e1⟩ (w.yields i H x H' hlt (hG H s1) y) (fun y H4 s4 hy => ?_)
    · exact z
    · have e4 : H4 D = some (.lst acc) := s4 _ _ e1
      have si : SameX D H4 (upd H4 D (.lst (acc ++ [y]))) := sameX_upd
      refine ⟨acc, e4, smaller (by omega), fun b o e => ?_, acc ++ [y], upd_same, by rw [List.length_append, hl]; rfl, fun j z hz => ?_⟩
      · rw [upd_ne (ne_of_none e hD)]
        exact s4 _ _ (s1 _ _ e)
      · rcases Nat.lt_or_ge j acc.length with hj | hj
        · rw [List.getElem?_append_left hj] at hz
          exact hst _ _ _ _ _ e4 si (hst _ _ _ _ _ e1 (sameX_of s4) (hE j z hz))
        · rw [List.getElem?_append_right hj] at hz
          have e0 : j - acc.length = 0 := by
            rcases Nat.eq_zero_or_pos (j - acc.length) with h | h
            · exact h
            · rw [List.getElem?_eq_none (by show 1 ≤ _; exact h)] at hz
              cases hz
          rw [e0] at hz
          cases hz
          have ej : j = i := by omega
          rw [ej]
          exact hst _ _ _ _ _ e4 si hy
  · have e : i = n := by omega
    subst e
    exact .inl ⟨w.stops H (hG H s1), hd H acc s1 e1 hl hE⟩
theorem refs_of {β : Type} {R : Addr → β → Prop} : ∀ {acc : List V} {l : List β}, acc.length = l.length → (∀ (i : Nat) y, acc[i]? = some y → ∃ p x, y = .ref p ∧ l[i]? = some x ∧ R p x) → ∃ qs : List Addr, acc = qs.map V.ref ∧ Paired R qs l
  | [], [], _, _ => ⟨[], rfl, .nil⟩
  | [], _ :: _, e, _ => nomatch e
  | _ :: _, [], e, _ => nomatch e
  | y :: acc, x :: l, e, h => by
    obtain ⟨p, x1, rfl, e1, r⟩ := h 0 y rfl
    cases e1
    obtain ⟨qs, rfl, rs⟩ := refs_of (acc := acc) (l := l) (Nat.succ.inj e) fun i y hy => h (i + 1) y hy
    exact ⟨p :: qs, rfl, .cons r rs⟩
end Cs
namespace Cs
open PySem PySem.Spec L2
def topS (i : Nat) : Stmt := PySem.Challenge.pw_claimsieve_k29_whole_runs_cut_short.main.body.getD i (.Pass ⟨0, 0, 0, 0⟩)
abbrev s_w_start : Stmt := topS 53
abbrev N_w_start : List Str := ["_law_script", "_law_mixed", "_law_cell"]
abbrev P_w_start : List Str := ["_law_script"]
theorem sc_w_start : FnScope N_w_start P_w_start (defScope s_w_start) := ⟨rfl, rfl, rfl, by decide +kernel, rfl, by decide +kernel, by decide +kernel⟩
abbrev s_w_drawn : Stmt := topS 54
abbrev N_w_drawn : List Str := ["_law_state", "_law_many", "_law_found", "_law_cell"]
abbrev P_w_drawn : List Str := ["_law_state", "_law_many"]
theorem sc_w_drawn : FnScope N_w_drawn P_w_drawn (defScope s_w_drawn) := ⟨rfl, rfl, rfl, by decide +kernel, rfl, by decide +kernel, by decide +kernel⟩
abbrev s_w_of : Stmt := topS 56
abbrev N_w_of : List Str := ["_law_known", "_law_kind", "_law_name", "_law_sort"]
abbrev P_w_of : List Str := ["_law_known", "_law_kind"]
theorem sc_w_of : FnScope N_w_of P_w_of (defScope s_w_of) := ⟨rfl, rfl, rfl, by decide +kernel, rfl, by decide +kernel, by decide +kernel⟩
abbrev s_w_measure : Stmt := topS 57
abbrev N_w_measure : List Str := ["_law_state", "_law_known", "_law_some", "_law_name"]
abbrev P_w_measure : List Str := ["_law_state", "_law_known"]
theorem sc_w_measure : FnScope N_w_measure P_w_measure (defScope s_w_measure) := ⟨rfl, rfl, rfl, by decide +kernel, rfl, by decide +kernel, by decide +kernel⟩
abbrev s_w_deed : Stmt := topS 58
abbrev N_w_deed : List Str := ["_law_state", "_law_heads", "_law_known", "_law_those", "_law_lists", "_law_n", "_law_some", "_law_name", "_law_items", "_law_number", "_law_names", "_law_kind"]
abbrev P_w_deed : List Str := ["_law_state", "_law_heads", "_law_known"]
theorem sc_w_deed : FnScope N_w_deed P_w_deed (defScope s_w_deed) := ⟨rfl, rfl, rfl, by decide +kernel, rfl, by decide +kernel, by decide +kernel⟩
abbrev s_w_tree : Stmt := topS 59
abbrev N_w_tree : List Str := ["_law_state", "_law_heads", "_law_kind", "_law_known", "_law_deep", "_law_some", "_law_name", "_law_way", "_law_deed_here", "_law_sort", "_law_head", "_law_trees", "_law_k"]
abbrev P_w_tree : List Str := ["_law_state", "_law_heads", "_law_kind", "_law_known", "_law_deep"]
theorem sc_w_tree : FnScope N_w_tree P_w_tree (defScope s_w_tree) := ⟨rfl, rfl, rfl, by decide +kernel, rfl, by decide +kernel, by decide +kernel⟩
abbrev s_w_program : Stmt := topS 60
abbrev N_w_program : List Str := ["_law_state", "_law_many", "_law_deep", "_law_heads", "_law_number", "_law_kinds", "_law_params", "_law_k", "_law_head"]
abbrev P_w_program : List Str := ["_law_state", "_law_many", "_law_deep"]
theorem sc_w_program : FnScope N_w_program P_w_program (defScope s_w_program) := ⟨rfl, rfl, rfl, by decide +kernel, rfl, by decide +kernel, by decide +kernel⟩
abbrev s_w_args : Stmt := topS 62
abbrev N_w_args : List Str := ["_law_state", "_law_program_here", "_law_found", "_law_name", "_law_kind", "_law_items", "_law_k"]
abbrev P_w_args : List Str := ["_law_state", "_law_program_here"]
theorem sc_w_args : FnScope N_w_args P_w_args (defScope s_w_args) := ⟨rfl, rfl, rfl, by decide +kernel, rfl, by decide +kernel, by decide +kernel⟩
abbrev s_w_answers : Stmt := topS 63
abbrev N_w_answers : List Str := ["_law_state", "_law_k"]
abbrev P_w_answers : List Str := ["_law_state"]
theorem sc_w_answers : FnScope N_w_answers P_w_answers (defScope s_w_answers) := ⟨rfl, rfl, rfl, by decide +kernel, rfl, by decide +kernel, by decide +kernel⟩
abbrev s_w_loops : Stmt := topS 61
abbrev N_w_loops : List Str := ["_law_state", "_law_n", "_law_m", "_law_down", "_law_range_of", "_law_go", "_law_begun", "_law_over", "_law_copy", "_law_copies", "_law_least", "_law_leasts"]
abbrev P_w_loops : List Str := ["_law_state"]
theorem sc_w_loops : FnScope N_w_loops P_w_loops (defScope s_w_loops) := ⟨rfl, rfl, rfl, by decide +kernel, rfl, by decide +kernel, by decide +kernel⟩
abbrev s_w_same : Stmt := topS 55
abbrev N_w_same : List Str := ["_law_found", "_law_due", "_law_alike", "_law_k"]
abbrev P_w_same : List Str := ["_law_found", "_law_due"]
theorem sc_w_same : FnScope N_w_same P_w_same (defScope s_w_same) := ⟨rfl, rfl, rfl, by decide +kernel, rfl, by decide +kernel, by decide +kernel⟩
abbrev s_has_word : Stmt := topS 19
abbrev N_has_word : List Str := ["row"]
abbrev P_has_word : List Str := ["row"]
theorem sc_has_word : FnScope N_has_word P_has_word (defScope s_has_word) := ⟨rfl, rfl, rfl, by decide +kernel, rfl, by decide +kernel, by decide +kernel⟩
abbrev s_is_row : Stmt := topS 18
abbrev N_is_row : List Str := ["row", "many"]
abbrev P_is_row : List Str := ["row", "many"]
theorem sc_is_row : FnScope N_is_row P_is_row (defScope s_is_row) := ⟨rfl, rfl, rfl, by decide +kernel, rfl, by decide +kernel, by decide +kernel⟩
abbrev s_is_whole : Stmt := topS 16
abbrev N_is_whole : List Str := ["n"]
abbrev P_is_whole : List Str := ["n"]
theorem sc_is_whole : FnScope N_is_whole P_is_whole (defScope s_is_whole) := ⟨rfl, rfl, rfl, by decide +kernel, rfl, by decide +kernel, by decide +kernel⟩
abbrev s_is_between : Stmt := topS 17
abbrev N_is_between : List Str := ["n", "low", "high"]
abbrev P_is_between : List Str := ["n", "low", "high"]
theorem sc_is_between : FnScope N_is_between P_is_between (defScope s_is_between) := ⟨rfl, rfl, rfl, by decide +kernel, rfl, by decide +kernel, by decide +kernel⟩
abbrev s_is_near : Stmt := topS 28
abbrev N_is_near : List Str := ["n"]
abbrev P_is_near : List Str := ["n"]
theorem sc_is_near : FnScope N_is_near P_is_near (defScope s_is_near) := ⟨rfl, rfl, rfl, by decide +kernel, rfl, by decide +kernel, by decide +kernel⟩
abbrev s_stands : Stmt := topS 30
abbrev N_stands : List Str := ["name", "kind", "names"]
abbrev P_stands : List Str := ["name", "kind", "names"]
theorem sc_stands : FnScope N_stands P_stands (defScope s_stands) := ⟨rfl, rfl, rfl, by decide +kernel, rfl, by decide +kernel, by decide +kernel⟩
abbrev s_all_fit : Stmt := topS 34
abbrev N_all_fit : List Str := ["parts", "wants", "names", "part", "want"]
abbrev P_all_fit : List Str := ["parts", "wants", "names"]
theorem sc_all_fit : FnScope N_all_fit P_all_fit (defScope s_all_fit) := ⟨rfl, rfl, rfl, by decide +kernel, rfl, by decide +kernel, by decide +kernel⟩
abbrev s_kinds_ahead : Stmt := topS 33
abbrev N_kinds_ahead : List Str := ["function", "_", "kind"]
abbrev P_kinds_ahead : List Str := ["function"]
theorem sc_kinds_ahead : FnScope N_kinds_ahead P_kinds_ahead (defScope s_kinds_ahead) := ⟨rfl, rfl, rfl, by decide +kernel, rfl, by decide +kernel, by decide +kernel⟩
abbrev s_call_kind : Stmt := topS 32
abbrev N_call_kind : List Str := ["program", "deed", "names", "called"]
abbrev P_call_kind : List Str := ["program", "deed", "names"]
theorem sc_call_kind : FnScope N_call_kind P_call_kind (defScope s_call_kind) := ⟨rfl, rfl, rfl, by decide +kernel, rfl, by decide +kernel, by decide +kernel⟩
abbrev s_deed_kind : Stmt := topS 31
abbrev N_deed_kind : List Str := ["program", "deed", "names", "wants", "kind"]
abbrev P_deed_kind : List Str := ["program", "deed", "names"]
theorem sc_deed_kind : FnScope N_deed_kind P_deed_kind (defScope s_deed_kind) := ⟨rfl, rfl, rfl, by decide +kernel, rfl, by decide +kernel, by decide +kernel⟩
abbrev s_is_name : Stmt := topS 20
abbrev N_is_name : List Str := ["word", "sign"]
abbrev P_is_name : List Str := ["word"]
theorem sc_is_name : FnScope N_is_name P_is_name (defScope s_is_name) := ⟨rfl, rfl, rfl, by decide +kernel, rfl, by decide +kernel, by decide +kernel⟩
abbrev s_within_let : Stmt := topS 26
abbrev N_within_let : List Str := ["program", "tree", "names", "name", "deed", "inner", "kind"]
abbrev P_within_let : List Str := ["program", "tree", "names"]
theorem sc_within_let : FnScope N_within_let P_within_let (defScope s_within_let) := ⟨rfl, rfl, rfl, by decide +kernel, rfl, by decide +kernel, by decide +kernel⟩
abbrev s_is_measure : Stmt := topS 29
abbrev N_is_measure : List Str := ["measure", "names"]
abbrev P_is_measure : List Str := ["measure", "names"]
theorem sc_is_measure : FnScope N_is_measure P_is_measure (defScope s_is_measure) := ⟨rfl, rfl, rfl, by decide +kernel, rfl, by decide +kernel, by decide +kernel⟩
abbrev s_is_compared : Stmt := topS 27
abbrev N_is_compared : List Str := ["tree", "names", "_", "first", "second", "n"]
abbrev P_is_compared : List Str := ["tree", "names"]
theorem sc_is_compared : FnScope N_is_compared P_is_compared (defScope s_is_compared) := ⟨rfl, rfl, rfl, by decide +kernel, rfl, by decide +kernel, by decide +kernel⟩
abbrev s_trees_within : Stmt := topS 25
abbrev N_trees_within : List Str := ["program", "kind", "tree", "names", "inner"]
abbrev P_trees_within : List Str := ["program", "kind", "tree", "names"]
theorem sc_trees_within : FnScope N_trees_within P_trees_within (defScope s_trees_within) := ⟨rfl, rfl, rfl, by decide +kernel, rfl, by decide +kernel, by decide +kernel⟩
abbrev s_check_trees : Stmt := topS 24
abbrev N_check_trees : List Str := ["program", "number", "params", "kind", "outermost", "waiting", "place", "tree", "depth", "names", "within", "inner", "standing"]
abbrev P_check_trees : List Str := ["program", "number"]
theorem sc_check_trees : FnScope N_check_trees P_check_trees (defScope s_check_trees) := ⟨rfl, rfl, rfl, by decide +kernel, rfl, by decide +kernel, by decide +kernel⟩
abbrev s_is_param : Stmt := topS 23
abbrev N_is_param : List Str := ["param"]
abbrev P_is_param : List Str := ["param"]
theorem sc_is_param : FnScope N_is_param P_is_param (defScope s_is_param) := ⟨rfl, rfl, rfl, by decide +kernel, rfl, by decide +kernel, by decide +kernel⟩
abbrev s_is_headed : Stmt := topS 22
abbrev N_is_headed : List Str := ["function", "params", "kind", "_", "param"]
abbrev P_is_headed : List Str := ["function"]
theorem sc_is_headed : FnScope N_is_headed P_is_headed (defScope s_is_headed) := ⟨rfl, rfl, rfl, by decide +kernel, rfl, by decide +kernel, by decide +kernel⟩
abbrev s_check_program : Stmt := topS 21
abbrev N_check_program : List Str := ["program", "number", "function"]
abbrev P_check_program : List Str := ["program"]
theorem sc_check_program : FnScope N_check_program P_check_program (defScope s_check_program) := ⟨rfl, rfl, rfl, by decide +kernel, rfl, by decide +kernel, by decide +kernel⟩
abbrev s_is_handed_number : Stmt := topS 44
abbrev N_is_handed_number : List Str := ["n"]
abbrev P_is_handed_number : List Str := ["n"]
theorem sc_is_handed_number : FnScope N_is_handed_number P_is_handed_number (defScope s_is_handed_number) := ⟨rfl, rfl, rfl, by decide +kernel, rfl, by decide +kernel, by decide +kernel⟩
abbrev s_can_be_handed : Stmt := topS 45
abbrev N_can_be_handed : List Str := ["worth", "kind", "item"]
abbrev P_can_be_handed : List Str := ["worth", "kind"]
theorem sc_can_be_handed : FnScope N_can_be_handed P_can_be_handed (defScope s_can_be_handed) := ⟨rfl, rfl, rfl, by decide +kernel, rfl, by decide +kernel, by decide +kernel⟩
abbrev s_check_args : Stmt := topS 42
abbrev N_check_args : List Str := ["params", "args", "_", "kind", "worth"]
abbrev P_check_args : List Str := ["params", "args"]
theorem sc_check_args : FnScope N_check_args P_check_args (defScope s_check_args) := ⟨rfl, rfl, rfl, by decide +kernel, rfl, by decide +kernel, by decide +kernel⟩
abbrev s_check_answers : Stmt := topS 43
abbrev N_check_answers : List Str := ["answers", "answer"]
abbrev P_check_answers : List Str := ["answers"]
theorem sc_check_answers : FnScope N_check_answers P_check_answers (defScope s_check_answers) := ⟨rfl, rfl, rfl, by decide +kernel, rfl, by decide +kernel, by decide +kernel⟩
abbrev s_numbered : Stmt := topS 35
abbrev N_numbered : List Str := ["outermost", "trees", "others", "waiting", "tree", "owner", "place"]
abbrev P_numbered : List Str := ["outermost"]
theorem sc_numbered : FnScope N_numbered P_numbered (defScope s_numbered) := ⟨rfl, rfl, rfl, by decide +kernel, rfl, by decide +kernel, by decide +kernel⟩
abbrev s_measured : Stmt := topS 49
abbrev N_measured : List Str := ["measure", "worths", "worth"]
abbrev P_measured : List Str := ["measure", "worths"]
theorem sc_measured : FnScope N_measured P_measured (defScope s_measured) := ⟨rfl, rfl, rfl, by decide +kernel, rfl, by decide +kernel, by decide +kernel⟩
abbrev s_is_so : Stmt := topS 48
abbrev N_is_so : List Str := ["tree", "worths", "_", "first", "second", "n"]
abbrev P_is_so : List Str := ["tree", "worths"]
theorem sc_is_so : FnScope N_is_so P_is_so (defScope s_is_so) := ⟨rfl, rfl, rfl, by decide +kernel, rfl, by decide +kernel, by decide +kernel⟩
abbrev s_fault_of : Stmt := topS 50
abbrev N_fault_of : List Str := ["deed", "worths"]
abbrev P_fault_of : List Str := ["deed", "worths"]
theorem sc_fault_of : FnScope N_fault_of P_fault_of (defScope s_fault_of) := ⟨rfl, rfl, rfl, by decide +kernel, rfl, by decide +kernel, by decide +kernel⟩
abbrev s_worth_of : Stmt := topS 51
abbrev N_worth_of : List Str := ["deed", "worths", "n", "name", "rest", "at"]
abbrev P_worth_of : List Str := ["deed", "worths"]
theorem sc_worth_of : FnScope N_worth_of P_worth_of (defScope s_worth_of) := ⟨rfl, rfl, rfl, by decide +kernel, rfl, by decide +kernel, by decide +kernel⟩
abbrev s_run : Stmt := topS 41
abbrev N_run : List Str := ["program", "args", "answers", "most", "going", "end"]
abbrev P_run : List Str := ["program", "args", "answers", "most"]
theorem sc_run : FnScope N_run P_run (defScope s_run) := ⟨rfl, rfl, rfl, by decide +kernel, rfl, by decide +kernel, by decide +kernel⟩
abbrev s_w_led : Stmt := topS 64
abbrev N_w_led : List Str := ["_law_thing", "_law_where", "_law_names", "_law_part"]
abbrev P_w_led : List Str := ["_law_thing", "_law_where", "_law_names"]
theorem sc_w_led : FnScope N_w_led P_w_led (defScope s_w_led) := ⟨rfl, rfl, rfl, by decide +kernel, rfl, by decide +kernel, by decide +kernel⟩
abbrev s_law : Stmt := topS 65
abbrev N_law : List Str := ["_law_script", "_law_state", "_law_turn", "_law_program_here", "_law_args_here", "_law_answers_here", "_law_found", "_law_calls", "_law_many", "_law_cause", "_law_some", "_law_heads", "_law_left", "_law_order", "_law_where", "_law_letters", "_law_names", "_law_other", "_law_old", "_law_params", "_law_told", "_law_rows", "_law_due", "_law_one", "_law_k", "_law_name", "_law_kind"]
abbrev P_law : List Str := ["_law_script"]
theorem sc_law : FnScope N_law P_law (defScope s_law) := ⟨rfl, rfl, rfl, by decide +kernel, rfl, by decide +kernel, by decide +kernel⟩
abbrev s_Run_init : Stmt := inClass (topS 47) 0
abbrev N_Run_init : List Str := ["self", "program", "answers", "most", "function", "name", "_"]
abbrev P_Run_init : List Str := ["self", "program", "answers", "most"]
theorem sc_Run_init : FnScope N_Run_init P_Run_init (defScope s_Run_init) := ⟨rfl, rfl, rfl, by decide +kernel, rfl, by decide +kernel, by decide +kernel⟩
abbrev s_Call_init : Stmt := inClass (topS 46) 0
abbrev N_Call_init : List Str := ["self", "row", "function", "worths"]
abbrev P_Call_init : List Str := ["self", "row", "function", "worths"]
theorem sc_Call_init : FnScope N_Call_init P_Call_init (defScope s_Call_init) := ⟨rfl, rfl, rfl, by decide +kernel, rfl, by decide +kernel, by decide +kernel⟩
abbrev s_Run_begin : Stmt := inClass (topS 47) 3
abbrev N_Run_begin : List Str := ["self", "function", "handed", "worths"]
abbrev P_Run_begin : List Str := ["self", "function", "handed"]
theorem sc_Run_begin : FnScope N_Run_begin P_Run_begin (defScope s_Run_begin) := ⟨rfl, rfl, rfl, by decide +kernel, rfl, by decide +kernel, by decide +kernel⟩
abbrev s_Run_bind : Stmt := inClass (topS 47) 8
abbrev N_Run_bind : List Str := ["self", "call", "name", "worth"]
abbrev P_Run_bind : List Str := ["self", "call", "name", "worth"]
theorem sc_Run_bind : FnScope N_Run_bind P_Run_bind (defScope s_Run_bind) := ⟨rfl, rfl, rfl, by decide +kernel, rfl, by decide +kernel, by decide +kernel⟩
abbrev s_Run_tell : Stmt := inClass (topS 47) 5
abbrev N_Run_tell : List Str := ["self", "worth", "ended", "caller", "trees", "_"]
abbrev P_Run_tell : List Str := ["self", "worth"]
theorem sc_Run_tell : FnScope N_Run_tell P_Run_tell (defScope s_Run_tell) := ⟨rfl, rfl, rfl, by decide +kernel, rfl, by decide +kernel, by decide +kernel⟩
abbrev s_Run_let_call : Stmt := inClass (topS 47) 7
abbrev N_Run_let_call : List Str := ["self", "call", "deed", "name"]
abbrev P_Run_let_call : List Str := ["self", "call", "deed"]
theorem sc_Run_let_call : FnScope N_Run_let_call P_Run_let_call (defScope s_Run_let_call) := ⟨rfl, rfl, rfl, by decide +kernel, rfl, by decide +kernel, by decide +kernel⟩
abbrev s_Run_next_answer : Stmt := inClass (topS 47) 9
abbrev N_Run_next_answer : List Str := ["self"]
abbrev P_Run_next_answer : List Str := ["self"]
theorem sc_Run_next_answer : FnScope N_Run_next_answer P_Run_next_answer (defScope s_Run_next_answer) := ⟨rfl, rfl, rfl, by decide +kernel, rfl, by decide +kernel, by decide +kernel⟩
abbrev s_Run_let : Stmt := inClass (topS 47) 6
abbrev N_Run_let : List Str := ["self", "call", "name", "deed", "word"]
abbrev P_Run_let : List Str := ["self", "call", "name", "deed"]
theorem sc_Run_let : FnScope N_Run_let P_Run_let (defScope s_Run_let) := ⟨rfl, rfl, rfl, by decide +kernel, rfl, by decide +kernel, by decide +kernel⟩
abbrev s_Run_step : Stmt := inClass (topS 47) 4
abbrev N_Run_step : List Str := ["self", "call", "trees", "others", "tree"]
abbrev P_Run_step : List Str := ["self"]
theorem sc_Run_step : FnScope N_Run_step P_Run_step (defScope s_Run_step) := ⟨rfl, rfl, rfl, by decide +kernel, rfl, by decide +kernel, by decide +kernel⟩
abbrev s_Run_go : Stmt := inClass (topS 47) 1
abbrev N_Run_go : List Str := ["self", "handed", "end"]
abbrev P_Run_go : List Str := ["self", "handed"]
theorem sc_Run_go : FnScope N_Run_go P_Run_go (defScope s_Run_go) := ⟨rfl, rfl, rfl, by decide +kernel, rfl, by decide +kernel, by decide +kernel⟩
abbrev s_Run_told_calls : Stmt := inClass (topS 47) 2
abbrev N_Run_told_calls : List Str := ["self", "row", "function", "handed"]
abbrev P_Run_told_calls : List Str := ["self"]
theorem sc_Run_told_calls : FnScope N_Run_told_calls P_Run_told_calls (defScope s_Run_told_calls) := ⟨rfl, rfl, rfl, by decide +kernel, rfl, by decide +kernel, by decide +kernel⟩
structure Adr where
  f_w_start : Addr
  fd_w_start : FuncData
  f_w_drawn : Addr
  fd_w_drawn : FuncData
  f_w_of : Addr
  fd_w_of : FuncData
  f_w_measure : Addr
  fd_w_measure : FuncData
  f_w_deed : Addr
  fd_w_deed : FuncData
  f_w_tree : Addr
  fd_w_tree : FuncData
  f_w_program : Addr
  fd_w_program : FuncData
  f_w_args : Addr
  fd_w_args : FuncData
  f_w_answers : Addr
  fd_w_answers : FuncData
  f_w_loops : Addr
  fd_w_loops : FuncData
  f_w_same : Addr
  fd_w_same : FuncData
  f_has_word : Addr
  fd_has_word : FuncData
  f_is_row : Addr
  fd_is_row : FuncData
  f_is_whole : Addr
  fd_is_whole : FuncData
  f_is_between : Addr
  fd_is_between : FuncData
  f_is_near : Addr
  fd_is_near : FuncData
  f_stands : Addr
  fd_stands : FuncData
  f_all_fit : Addr
  fd_all_fit : FuncData
  f_kinds_ahead : Addr
  fd_kinds_ahead : FuncData
  f_call_kind : Addr
  fd_call_kind : FuncData
  f_deed_kind : Addr
  fd_deed_kind : FuncData
  f_is_name : Addr
  fd_is_name : FuncData
  f_within_let : Addr
  fd_within_let : FuncData
  f_is_measure : Addr
  fd_is_measure : FuncData
  f_is_compared : Addr
  fd_is_compared : FuncData
  f_trees_within : Addr
  fd_trees_within : FuncData
  f_check_trees : Addr
  fd_check_trees : FuncData
  f_is_param : Addr
  fd_is_param : FuncData
  f_is_headed : Addr
  fd_is_headed : FuncData
  f_check_program : Addr
  fd_check_program : FuncData
  f_is_handed_number : Addr
  fd_is_handed_number : FuncData
  f_can_be_handed : Addr
  fd_can_be_handed : FuncData
  f_check_args : Addr
  fd_check_args : FuncData
  f_check_answers : Addr
  fd_check_answers : FuncData
  f_numbered : Addr
  fd_numbered : FuncData
  f_measured : Addr
  fd_measured : FuncData
  f_is_so : Addr
  fd_is_so : FuncData
  f_fault_of : Addr
  fd_fault_of : FuncData
  f_worth_of : Addr
  fd_worth_of : FuncData
  f_run : Addr
  fd_run : FuncData
  f_w_led : Addr
  fd_w_led : FuncData
  f_law : Addr
  fd_law : FuncData
  a_DEEDS : Addr
  e_DEEDS : Array DictEntry
  m_DEEDS : Nat
  a_DEEDS_num : Addr
  a_DEEDS_num_0 : Addr
  a_DEEDS_sum : Addr
  a_DEEDS_sum_0 : Addr
  a_DEEDS_len : Addr
  a_DEEDS_len_0 : Addr
  a_DEEDS_nil : Addr
  a_DEEDS_nil_0 : Addr
  a_DEEDS_put : Addr
  a_DEEDS_put_0 : Addr
  a_DEEDS_head : Addr
  a_DEEDS_head_0 : Addr
  a_DEEDS_tail : Addr
  a_DEEDS_tail_0 : Addr
  a_DEEDS_at : Addr
  a_DEEDS_at_0 : Addr
  a_DEEDS_ask : Addr
  a_DEEDS_ask_0 : Addr
  t_FARTHEST : Tok
  t_FARTHEST_HANDED : Tok
  t_HIGHEST_MOST : Tok
  a_KINDS : Addr
  a_MEASURES : Addr
  e_MEASURES : Array DictEntry
  m_MEASURES : Nat
  t_MOST_DEPTH : Tok
  t_MOST_FUNCTIONS : Tok
  t_MOST_ITEMS : Tok
  t_MOST_PARAMS : Tok
  t_MOST_SIGNS : Tok
  t_MOST_TREES : Tok
  a_TREES : Addr
  e_TREES : Array DictEntry
  m_TREES : Nat
  C_Call : Addr
  C_Run : Addr
  f_Run_init : Addr
  fd_Run_init : FuncData
  f_Call_init : Addr
  fd_Call_init : FuncData
  f_Run_begin : Addr
  fd_Run_begin : FuncData
  f_Run_bind : Addr
  fd_Run_bind : FuncData
  f_Run_tell : Addr
  fd_Run_tell : FuncData
  f_Run_let_call : Addr
  fd_Run_let_call : FuncData
  f_Run_next_answer : Addr
  fd_Run_next_answer : FuncData
  f_Run_let : Addr
  fd_Run_let : FuncData
  f_Run_step : Addr
  fd_Run_step : FuncData
  f_Run_go : Addr
  fd_Run_go : FuncData
  f_Run_told_calls : Addr
  fd_Run_told_calls : FuncData
structure Tx (K : PySem.W.Frag) (w : World) (mg : Str → Option Value) (A : Adr) : Prop where
  F_w_start : Fun K "_law_start" "_law_start" s_w_start A.f_w_start A.fd_w_start
  b_w_start : Binds K A.fd_w_start P_w_start []
  g_w_start : mg "_law_start" = some (.ref A.f_w_start)
  F_w_drawn : Fun K "_law_drawn" "_law_drawn" s_w_drawn A.f_w_drawn A.fd_w_drawn
  b_w_drawn : Binds K A.fd_w_drawn P_w_drawn []
  g_w_drawn : mg "_law_drawn" = some (.ref A.f_w_drawn)
  F_w_of : Fun K "_law_of" "_law_of" s_w_of A.f_w_of A.fd_w_of
  b_w_of : Binds K A.fd_w_of P_w_of []
  g_w_of : mg "_law_of" = some (.ref A.f_w_of)
  F_w_measure : Fun K "_law_measure" "_law_measure" s_w_measure A.f_w_measure A.fd_w_measure
  b_w_measure : Binds K A.fd_w_measure P_w_measure []
  g_w_measure : mg "_law_measure" = some (.ref A.f_w_measure)
  F_w_deed : Fun K "_law_deed" "_law_deed" s_w_deed A.f_w_deed A.fd_w_deed
  b_w_deed : Binds K A.fd_w_deed P_w_deed []
  g_w_deed : mg "_law_deed" = some (.ref A.f_w_deed)
  F_w_tree : Fun K "_law_tree" "_law_tree" s_w_tree A.f_w_tree A.fd_w_tree
  b_w_tree : Binds K A.fd_w_tree P_w_tree []
  g_w_tree : mg "_law_tree" = some (.ref A.f_w_tree)
  F_w_program : Fun K "_law_program" "_law_program" s_w_program A.f_w_program A.fd_w_program
  b_w_program : Binds K A.fd_w_program P_w_program []
  g_w_program : mg "_law_program" = some (.ref A.f_w_program)
  F_w_args : Fun K "_law_args" "_law_args" s_w_args A.f_w_args A.fd_w_args
  b_w_args : Binds K A.fd_w_args P_w_args []
  g_w_args : mg "_law_args" = some (.ref A.f_w_args)
  F_w_answers : Fun K "_law_answers" "_law_answers" s_w_answers A.f_w_answers A.fd_w_answers
  b_w_answers : Binds K A.fd_w_answers P_w_answers []
  g_w_answers : mg "_law_answers" = some (.ref A.f_w_answers)
  F_w_loops : Fun K "_law_loops" "_law_loops" s_w_loops A.f_w_loops A.fd_w_loops
  b_w_loops : Binds K A.fd_w_loops P_w_loops []
  g_w_loops : mg "_law_loops" = some (.ref A.f_w_loops)
  F_w_same : Fun K "_law_same" "_law_same" s_w_same A.f_w_same A.fd_w_same
  b_w_same : Binds K A.fd_w_same P_w_same []
  g_w_same : mg "_law_same" = some (.ref A.f_w_same)
  F_has_word : Fun K "has_word" "has_word" s_has_word A.f_has_word A.fd_has_word
  b_has_word : Binds K A.fd_has_word P_has_word []
  g_has_word : mg "has_word" = some (.ref A.f_has_word)
  F_is_row : Fun K "is_row" "is_row" s_is_row A.f_is_row A.fd_is_row
  b_is_row : Binds K A.fd_is_row P_is_row []
  g_is_row : mg "is_row" = some (.ref A.f_is_row)
  F_is_whole : Fun K "is_whole" "is_whole" s_is_whole A.f_is_whole A.fd_is_whole
  b_is_whole : Binds K A.fd_is_whole P_is_whole []
  g_is_whole : mg "is_whole" = some (.ref A.f_is_whole)
  F_is_between : Fun K "is_between" "is_between" s_is_between A.f_is_between A.fd_is_between
  b_is_between : Binds K A.fd_is_between P_is_between []
  g_is_between : mg "is_between" = some (.ref A.f_is_between)
  F_is_near : Fun K "is_near" "is_near" s_is_near A.f_is_near A.fd_is_near
  b_is_near : Binds K A.fd_is_near P_is_near []
  g_is_near : mg "is_near" = some (.ref A.f_is_near)
  F_stands : Fun K "stands" "stands" s_stands A.f_stands A.fd_stands
  b_stands : Binds K A.fd_stands P_stands []
  g_stands : mg "stands" = some (.ref A.f_stands)
  F_all_fit : Fun K "all_fit" "all_fit" s_all_fit A.f_all_fit A.fd_all_fit
  b_all_fit : Binds K A.fd_all_fit P_all_fit []
  g_all_fit : mg "all_fit" = some (.ref A.f_all_fit)
  F_kinds_ahead : Fun K "kinds_ahead" "kinds_ahead" s_kinds_ahead A.f_kinds_ahead A.fd_kinds_ahead
  b_kinds_ahead : Binds K A.fd_kinds_ahead P_kinds_ahead []
  g_kinds_ahead : mg "kinds_ahead" = some (.ref A.f_kinds_ahead)
  F_call_kind : Fun K "call_kind" "call_kind" s_call_kind A.f_call_kind A.fd_call_kind
  b_call_kind : Binds K A.fd_call_kind P_call_kind []
  g_call_kind : mg "call_kind" = some (.ref A.f_call_kind)
  F_deed_kind : Fun K "deed_kind" "deed_kind" s_deed_kind A.f_deed_kind A.fd_deed_kind
  b_deed_kind : Binds K A.fd_deed_kind P_deed_kind []
  g_deed_kind : mg "deed_kind" = some (.ref A.f_deed_kind)
  F_is_name : Fun K "is_name" "is_name" s_is_name A.f_is_name A.fd_is_name
  b_is_name : Binds K A.fd_is_name P_is_name []
  g_is_name : mg "is_name" = some (.ref A.f_is_name)
  F_within_let : Fun K "within_let" "within_let" s_within_let A.f_within_let A.fd_within_let
  b_within_let : Binds K A.fd_within_let P_within_let []
  g_within_let : mg "within_let" = some (.ref A.f_within_let)
  F_is_measure : Fun K "is_measure" "is_measure" s_is_measure A.f_is_measure A.fd_is_measure
  b_is_measure : Binds K A.fd_is_measure P_is_measure []
  g_is_measure : mg "is_measure" = some (.ref A.f_is_measure)
  F_is_compared : Fun K "is_compared" "is_compared" s_is_compared A.f_is_compared A.fd_is_compared
  b_is_compared : Binds K A.fd_is_compared P_is_compared []
  g_is_compared : mg "is_compared" = some (.ref A.f_is_compared)
  F_trees_within : Fun K "trees_within" "trees_within" s_trees_within A.f_trees_within A.fd_trees_within
  b_trees_within : Binds K A.fd_trees_within P_trees_within []
  g_trees_within : mg "trees_within" = some (.ref A.f_trees_within)
  F_check_trees : Fun K "check_trees" "check_trees" s_check_trees A.f_check_trees A.fd_check_trees
  b_check_trees : Binds K A.fd_check_trees P_check_trees []
  g_check_trees : mg "check_trees" = some (.ref A.f_check_trees)
  F_is_param : Fun K "is_param" "is_param" s_is_param A.f_is_param A.fd_is_param
  b_is_param : Binds K A.fd_is_param P_is_param []
  g_is_param : mg "is_param" = some (.ref A.f_is_param)
  F_is_headed : Fun K "is_headed" "is_headed" s_is_headed A.f_is_headed A.fd_is_headed
  b_is_headed : Binds K A.fd_is_headed P_is_headed []
  g_is_headed : mg "is_headed" = some (.ref A.f_is_headed)
  F_check_program : Fun K "check_program" "check_program" s_check_program A.f_check_program A.fd_check_program
  b_check_program : Binds K A.fd_check_program P_check_program []
  g_check_program : mg "check_program" = some (.ref A.f_check_program)
  F_is_handed_number : Fun K "is_handed_number" "is_handed_number" s_is_handed_number A.f_is_handed_number A.fd_is_handed_number
  b_is_handed_number : Binds K A.fd_is_handed_number P_is_handed_number []
  g_is_handed_number : mg "is_handed_number" = some (.ref A.f_is_handed_number)
  F_can_be_handed : Fun K "can_be_handed" "can_be_handed" s_can_be_handed A.f_can_be_handed A.fd_can_be_handed
  b_can_be_handed : Binds K A.fd_can_be_handed P_can_be_handed []
  g_can_be_handed : mg "can_be_handed" = some (.ref A.f_can_be_handed)
  F_check_args : Fun K "check_args" "check_args" s_check_args A.f_check_args A.fd_check_args
  b_check_args : Binds K A.fd_check_args P_check_args []
  g_check_args : mg "check_args" = some (.ref A.f_check_args)
  F_check_answers : Fun K "check_answers" "check_answers" s_check_answers A.f_check_answers A.fd_check_answers
  b_check_answers : Binds K A.fd_check_answers P_check_answers []
  g_check_answers : mg "check_answers" = some (.ref A.f_check_answers)
  F_numbered : Fun K "numbered" "numbered" s_numbered A.f_numbered A.fd_numbered
  b_numbered : Binds K A.fd_numbered P_numbered []
  g_numbered : mg "numbered" = some (.ref A.f_numbered)
  F_measured : Fun K "measured" "measured" s_measured A.f_measured A.fd_measured
  b_measured : Binds K A.fd_measured P_measured []
  g_measured : mg "measured" = some (.ref A.f_measured)
  F_is_so : Fun K "is_so" "is_so" s_is_so A.f_is_so A.fd_is_so
  b_is_so : Binds K A.fd_is_so P_is_so []
  g_is_so : mg "is_so" = some (.ref A.f_is_so)
  F_fault_of : Fun K "fault_of" "fault_of" s_fault_of A.f_fault_of A.fd_fault_of
  b_fault_of : Binds K A.fd_fault_of P_fault_of []
  g_fault_of : mg "fault_of" = some (.ref A.f_fault_of)
  F_worth_of : Fun K "worth_of" "worth_of" s_worth_of A.f_worth_of A.fd_worth_of
  b_worth_of : Binds K A.fd_worth_of P_worth_of []
  g_worth_of : mg "worth_of" = some (.ref A.f_worth_of)
  F_run : FunD K "run" "run" (defArgs s_run) (defBody s_run) (defScope s_run) [] [("most", .int 100)] A.f_run A.fd_run
  g_run : mg "run" = some (.ref A.f_run)
  F_w_led : Fun K "_law_led" "_law_led" s_w_led A.f_w_led A.fd_w_led
  b_w_led : Binds K A.fd_w_led P_w_led []
  g_w_led : mg "_law_led" = some (.ref A.f_w_led)
  F_law : Fun K "law" "law" s_law A.f_law A.fd_law
  b_law : Binds K A.fd_law P_law []
  g_law : mg "law" = some (.ref A.f_law)
  n_all : mg "all" = none
  n_bool : mg "bool" = none
  n_dict : mg "dict" = none
  n_enumerate : mg "enumerate" = none
  n_int : mg "int" = none
  n_isinstance : mg "isinstance" = none
  n_len : mg "len" = none
  n_list : mg "list" = none
  n_max : mg "max" = none
  n_range : mg "range" = none
  n_reversed : mg "reversed" = none
  n_str : mg "str" = none
  n_tuple : mg "tuple" = none
  n_zip : mg "zip" = none
  c_DEEDS : mg "DEEDS" = some (.ref A.a_DEEDS)
  d_DEEDS : KDict K w A.a_DEEDS A.e_DEEDS A.m_DEEDS
  q_DEEDS_num_0 : ∀ H, SqT K H A.a_DEEDS_num_0 [.str "n"]
  q_DEEDS_num : ∀ H, SqT K H A.a_DEEDS_num [.ref A.a_DEEDS_num_0, .str "number"]
  y_DEEDS_num : KDct K w A.a_DEEDS "num" (.ref A.a_DEEDS_num)
  q_DEEDS_sum_0 : ∀ H, SqT K H A.a_DEEDS_sum_0 [.str "number", .str "n"]
  q_DEEDS_sum : ∀ H, SqT K H A.a_DEEDS_sum [.ref A.a_DEEDS_sum_0, .str "number"]
  y_DEEDS_sum : KDct K w A.a_DEEDS "sum" (.ref A.a_DEEDS_sum)
  q_DEEDS_len_0 : ∀ H, SqT K H A.a_DEEDS_len_0 [.str "list"]
  q_DEEDS_len : ∀ H, SqT K H A.a_DEEDS_len [.ref A.a_DEEDS_len_0, .str "number"]
  y_DEEDS_len : KDct K w A.a_DEEDS "len" (.ref A.a_DEEDS_len)
  q_DEEDS_nil_0 : ∀ H, SqT K H A.a_DEEDS_nil_0 []
  q_DEEDS_nil : ∀ H, SqT K H A.a_DEEDS_nil [.ref A.a_DEEDS_nil_0, .str "list"]
  y_DEEDS_nil : KDct K w A.a_DEEDS "nil" (.ref A.a_DEEDS_nil)
  q_DEEDS_put_0 : ∀ H, SqT K H A.a_DEEDS_put_0 [.str "number", .str "list"]
  q_DEEDS_put : ∀ H, SqT K H A.a_DEEDS_put [.ref A.a_DEEDS_put_0, .str "list"]
  y_DEEDS_put : KDct K w A.a_DEEDS "put" (.ref A.a_DEEDS_put)
  q_DEEDS_head_0 : ∀ H, SqT K H A.a_DEEDS_head_0 [.str "list"]
  q_DEEDS_head : ∀ H, SqT K H A.a_DEEDS_head [.ref A.a_DEEDS_head_0, .str "number"]
  y_DEEDS_head : KDct K w A.a_DEEDS "head" (.ref A.a_DEEDS_head)
  q_DEEDS_tail_0 : ∀ H, SqT K H A.a_DEEDS_tail_0 [.str "list"]
  q_DEEDS_tail : ∀ H, SqT K H A.a_DEEDS_tail [.ref A.a_DEEDS_tail_0, .str "list"]
  y_DEEDS_tail : KDct K w A.a_DEEDS "tail" (.ref A.a_DEEDS_tail)
  q_DEEDS_at_0 : ∀ H, SqT K H A.a_DEEDS_at_0 [.str "list", .str "number"]
  q_DEEDS_at : ∀ H, SqT K H A.a_DEEDS_at [.ref A.a_DEEDS_at_0, .str "number"]
  y_DEEDS_at : KDct K w A.a_DEEDS "at" (.ref A.a_DEEDS_at)
  q_DEEDS_ask_0 : ∀ H, SqT K H A.a_DEEDS_ask_0 []
  q_DEEDS_ask : ∀ H, SqT K H A.a_DEEDS_ask [.ref A.a_DEEDS_ask_0, .str "number"]
  y_DEEDS_ask : KDct K w A.a_DEEDS "ask" (.ref A.a_DEEDS_ask)
  c_FARTHEST : mg "FARTHEST" = some (.int 99 A.t_FARTHEST)
  c_FARTHEST_HANDED : mg "FARTHEST_HANDED" = some (.int 1000000 A.t_FARTHEST_HANDED)
  c_HIGHEST_MOST : mg "HIGHEST_MOST" = some (.int 300 A.t_HIGHEST_MOST)
  c_KINDS : mg "KINDS" = some (.ref A.a_KINDS)
  q_KINDS : ∀ H, SqT K H A.a_KINDS [.str "number", .str "list"]
  c_MEASURES : mg "MEASURES" = some (.ref A.a_MEASURES)
  d_MEASURES : KDict K w A.a_MEASURES A.e_MEASURES A.m_MEASURES
  y_MEASURES_of : KDct K w A.a_MEASURES "of" (.str "number")
  y_MEASURES_len : KDct K w A.a_MEASURES "len" (.str "list")
  c_MOST_DEPTH : mg "MOST_DEPTH" = some (.int 20 A.t_MOST_DEPTH)
  c_MOST_FUNCTIONS : mg "MOST_FUNCTIONS" = some (.int 6 A.t_MOST_FUNCTIONS)
  c_MOST_ITEMS : mg "MOST_ITEMS" = some (.int 40 A.t_MOST_ITEMS)
  c_MOST_PARAMS : mg "MOST_PARAMS" = some (.int 4 A.t_MOST_PARAMS)
  c_MOST_SIGNS : mg "MOST_SIGNS" = some (.int 8 A.t_MOST_SIGNS)
  c_MOST_TREES : mg "MOST_TREES" = some (.int 60 A.t_MOST_TREES)
  c_TREES : mg "TREES" = some (.ref A.a_TREES)
  d_TREES : KDict K w A.a_TREES A.e_TREES A.m_TREES
  y_TREES_let : KDct K w A.a_TREES "let" (.int 4)
  y_TREES_if : KDct K w A.a_TREES "if" (.int 6)
  y_TREES_claim : KDct K w A.a_TREES "claim" (.int 5)
  y_TREES_tell : KDct K w A.a_TREES "tell" (.int 2)
  cl_Call : Cls K A.C_Call
  g_Call : mg "Call" = some (.ref A.C_Call)
  a_Call_row : NoAttr K A.C_Call "row"
  a_Call_function : NoAttr K A.C_Call "function"
  a_Call_place : NoAttr K A.C_Call "place"
  a_Call_worths : NoAttr K A.C_Call "worths"
  cl_Run : Cls K A.C_Run
  g_Run : mg "Run" = some (.ref A.C_Run)
  a_Run_names : NoAttr K A.C_Run "names"
  a_Run_trees : NoAttr K A.C_Run "trees"
  a_Run_answers : NoAttr K A.C_Run "answers"
  a_Run_asked : NoAttr K A.C_Run "asked"
  a_Run_most : NoAttr K A.C_Run "most"
  a_Run_begun : NoAttr K A.C_Run "begun"
  a_Run_told : NoAttr K A.C_Run "told"
  a_Run_open_calls : NoAttr K A.C_Run "open_calls"
  F_Run_init : Fun K "__init__" "Run.__init__" s_Run_init A.f_Run_init A.fd_Run_init
  b_Run_init : Binds K A.fd_Run_init P_Run_init []
  M_Run : Mk K A.C_Run A.f_Run_init
  F_Call_init : Fun K "__init__" "Call.__init__" s_Call_init A.f_Call_init A.fd_Call_init
  b_Call_init : Binds K A.fd_Call_init P_Call_init []
  M_Call : Mk K A.C_Call A.f_Call_init
  F_Run_begin : Fun K "begin" "Run.begin" s_Run_begin A.f_Run_begin A.fd_Run_begin
  b_Run_begin : Binds K A.fd_Run_begin P_Run_begin []
  m_Run_begin : Meth K A.C_Run "begin" A.f_Run_begin
  F_Run_bind : Fun K "bind" "Run.bind" s_Run_bind A.f_Run_bind A.fd_Run_bind
  b_Run_bind : Binds K A.fd_Run_bind P_Run_bind []
  m_Run_bind : Meth K A.C_Run "bind" A.f_Run_bind
  F_Run_tell : Fun K "tell" "Run.tell" s_Run_tell A.f_Run_tell A.fd_Run_tell
  b_Run_tell : Binds K A.fd_Run_tell P_Run_tell []
  m_Run_tell : Meth K A.C_Run "tell" A.f_Run_tell
  F_Run_let_call : Fun K "let_call" "Run.let_call" s_Run_let_call A.f_Run_let_call A.fd_Run_let_call
  b_Run_let_call : Binds K A.fd_Run_let_call P_Run_let_call []
  m_Run_let_call : Meth K A.C_Run "let_call" A.f_Run_let_call
  F_Run_next_answer : Fun K "next_answer" "Run.next_answer" s_Run_next_answer A.f_Run_next_answer A.fd_Run_next_answer
  b_Run_next_answer : Binds K A.fd_Run_next_answer P_Run_next_answer []
  m_Run_next_answer : Meth K A.C_Run "next_answer" A.f_Run_next_answer
  F_Run_let : Fun K "let" "Run.let" s_Run_let A.f_Run_let A.fd_Run_let
  b_Run_let : Binds K A.fd_Run_let P_Run_let []
  m_Run_let : Meth K A.C_Run "let" A.f_Run_let
  F_Run_step : Fun K "step" "Run.step" s_Run_step A.f_Run_step A.fd_Run_step
  b_Run_step : Binds K A.fd_Run_step P_Run_step []
  m_Run_step : Meth K A.C_Run "step" A.f_Run_step
  F_Run_go : Fun K "go" "Run.go" s_Run_go A.f_Run_go A.fd_Run_go
  b_Run_go : Binds K A.fd_Run_go P_Run_go []
  m_Run_go : Meth K A.C_Run "go" A.f_Run_go
  F_Run_told_calls : Fun K "told_calls" "Run.told_calls" s_Run_told_calls A.f_Run_told_calls A.fd_Run_told_calls
  b_Run_told_calls : Binds K A.fd_Run_told_calls P_Run_told_calls []
  m_Run_told_calls : Meth K A.C_Run "told_calls" A.f_Run_told_calls
end Cs
namespace Cs
open PySem PySem.Spec L2
section
variable {P : Program} {w : World} {K : PySem.W.Frag} {mg : Str → Option Value} {base : Heap} {A : Adr}
def spWhole : Sp := fun vs H Q _ => ∃ n : Int, vs = [.int n] ∧ Q (.bl true) H
theorem ok_is_whole (T : Tx K w mg A) : FnOk P w K mg base CX0 1 A.f_is_whole A.fd_is_whole P_is_whole spWhole := by
  refine T.F_is_whole.ok sc_is_whole (fun vs H Q E h => ?_) (fun cdv AA outer s H vs Q E hr h => ?_)
  · obtain ⟨n, rfl, _⟩ := h
    rfl
  · obtain ⟨n, rfl, q⟩ := h
    refine ⟨_, (pss_one (ps_ret (pe_and (pe_callB call_isi (by rfl) T.n_isinstance (by decide +kernel) (pa_cons (pv 0) (pa_cons (pe_bltn (v := .ty "int") (u := .type "int") (by rfl) T.n_int (by decide +kernel) rfl) pa_nil))) (pe_one (pe_not (pe_callB call_isi (by rfl) T.n_isinstance (by decide +kernel) (pa_cons (pv 0) (pa_cons (pe_bltn (v := .ty "bool") (u := .type "bool") (by rfl) T.n_bool (by decide +kernel) rfl) pa_nil)))))))), ?_⟩
    refine ⟨_, rfl, _, _, _, _, true, rfl, .ty "int", .base (.int n), kv (by decide +kernel), true, rfl, ?_⟩
    rw [if_pos rfl]
    refine ⟨_, rfl, _, _, _, _, false, rfl, .ty "bool", .base (.int n), kv (by decide +kernel), false, rfl, ?_⟩
    exact q
def spBetween : Sp := fun vs H Q _ => ∃ n a b : Int, vs = [.int n, .int a, .int b] ∧ Q (.bl (decide (a ≤ n ∧ n ≤ b))) H
theorem ok_is_between (T : Tx K w mg A) : FnOk P w K mg base CX0 2 A.f_is_between A.fd_is_between P_is_between spBetween := by
  have G_is_whole := ok_is_whole (P := P) (base := base) T
  refine T.F_is_between.ok sc_is_between (fun vs H Q E h => ?_) (fun cdv AA outer s H vs Q E hr h => ?_)
  · obtain ⟨n, a, b, rfl, _⟩ := h
    rfl
  · obtain ⟨n, a, b, rfl, q⟩ := h
    refine ⟨_, (pss_one (ps_ret (pe_and (pe_call G_is_whole (hr.mono (by decide)) (by rfl) T.g_is_whole T.F_is_whole.kp T.b_is_whole .nil pass0 (pa_cons (pv 0) pa_nil)) (pe_one (pe_chain op_le op_le (pv 1) (pv 0) (pv 2)))))), ?_⟩
    refine ⟨_, rfl, n, rfl, true, rfl, ?_⟩
    rw [if_pos rfl]
    refine ⟨_, rfl, _, rfl, _, _, rfl, rfl, _, rfl, ?_⟩
    by_cases h1 : a ≤ n
    · rw [if_pos (decide_eq_true h1)]
      refine ⟨_, rfl, _, _, rfl, rfl, ?_⟩
      by_cases h2 : n ≤ b
      · rw [decide_eq_true (show a ≤ n ∧ n ≤ b from ⟨h1, h2⟩)] at q
        show Q (.bl (decide (n ≤ b))) H
        rw [decide_eq_true h2]
        exact q
      · rw [decide_eq_false (show ¬ (a ≤ n ∧ n ≤ b) from fun z => h2 z.2)] at q
        show Q (.bl (decide (n ≤ b))) H
        rw [decide_eq_false h2]
        exact q
    · rw [if_neg (by rw [decide_eq_false h1]; exact Bool.false_ne_true)]
      rw [decide_eq_false (show ¬ (a ≤ n ∧ n ≤ b) from fun z => h1 z.1)] at q
      exact q
def spNear : Sp := fun vs H Q _ => ∃ n : Int, vs = [.int n] ∧ near n ∧ Q (.bl true) H
theorem ok_is_near (T : Tx K w mg A) : FnOk P w K mg base CX0 3 A.f_is_near A.fd_is_near P_is_near spNear := by
  have G_is_between := ok_is_between (P := P) (base := base) T
  refine T.F_is_near.ok sc_is_near (fun vs H Q E h => ?_) (fun cdv AA outer s H vs Q E hr h => ?_)
  · obtain ⟨n, rfl, _⟩ := h
    rfl
  · obtain ⟨n, rfl, hn, q⟩ := h
    refine ⟨_, (pss_one (ps_ret (pe_call G_is_between (hr.mono (by decide)) (by rfl) T.g_is_between T.F_is_between.kp T.b_is_between .nil pass0 (pa_cons (pv 0) (pa_cons (pe_un un_neg (pe_glob (v := .int 99) rfl T.c_FARTHEST ⟨_, rfl⟩)) (pa_cons (pe_glob (v := .int 99) rfl T.c_FARTHEST ⟨_, rfl⟩) pa_nil)))))), ?_⟩
    refine ⟨_, rfl, 99, rfl, n, -99, 99, rfl, ?_⟩
    rw [decide_eq_true (show (-99 : Int) ≤ n ∧ n ≤ 99 from hn)]
    exact q
def spRow (K : PySem.W.Frag) : Sp := fun vs H Q _ => ∃ (a : Addr) (xs : List V) (m : Int), vs = [.ref a, .int m] ∧ SqT K H a xs ∧ Q (.bl (decide ((xs.length : Int) = m))) H
theorem ok_is_row (T : Tx K w mg A) : FnOk P w K mg base CX0 1 A.f_is_row A.fd_is_row P_is_row (spRow K) := by
  refine T.F_is_row.ok sc_is_row (fun vs H Q E h => ?_) (fun cdv AA outer s H vs Q E hr h => ?_)
  · obtain ⟨a, xs, m, rfl, _⟩ := h
    rfl
  · obtain ⟨a, xs, m, rfl, hx, q⟩ := h
    refine ⟨_, (pss_one (ps_ret (pe_and (pe_callB call_isi (by rfl) T.n_isinstance (by decide +kernel) (pa_cons (pv 0) (pa_cons (pe_bltn (v := .ty "tuple") (u := .type "tuple") (by rfl) T.n_tuple (by decide +kernel) rfl) pa_nil))) (pe_one (pe_cmpR op_eq (pe_callB call_len (by rfl) T.n_len (by decide +kernel) (pa_cons (pv 0) pa_nil)) (pv 1) (nomark _)))))), ?_⟩
    refine ⟨_, rfl, _, _, _, _, true, rfl, .ty "tuple", tyx_tup hx, kv (by decide +kernel), true, rfl, ?_⟩
    rw [if_pos rfl]
    refine ⟨_, rfl, _, xs.length, rfl, .inr ⟨xs, hx, rfl⟩, _, rfl, rfl, ?_⟩
    have e : decide (V.int (xs.length : Nat) = V.int m) = decide ((xs.length : Int) = m) := decide_eq_decide.mpr ⟨fun z => V.int.inj z, fun z => by rw [z]⟩
    rw [← e] at q
    exact q
def spWord (K : PySem.W.Frag) : Sp := fun vs H Q _ => ∃ (a : Addr) (x : Str) (xs : List V), vs = [.ref a] ∧ SqT K H a (.str x :: xs) ∧ Q (.bl true) H
theorem ok_has_word (T : Tx K w mg A) : FnOk P w K mg base CX0 1 A.f_has_word A.fd_has_word P_has_word (spWord K) := by
  refine T.F_has_word.ok sc_has_word (fun vs H Q E h => ?_) (fun cdv AA outer s H vs Q E hr h => ?_)
  · obtain ⟨a, x, xs, rfl, _⟩ := h
    rfl
  · obtain ⟨a, x, xs, rfl, hx, q⟩ := h
    refine ⟨_, (pss_one (ps_ret (pe_and (pe_callB call_isi (by rfl) T.n_isinstance (by decide +kernel) (pa_cons (pv 0) (pa_cons (pe_bltn (v := .ty "tuple") (u := .type "tuple") (by rfl) T.n_tuple (by decide +kernel) rfl) pa_nil))) (pe_and (pe_cmpR op_gt (pe_callB call_len (by rfl) T.n_len (by decide +kernel) (pa_cons (pv 0) pa_nil)) pe_int (nomark _)) (pe_one (pe_callB call_isi (by rfl) T.n_isinstance (by decide +kernel) (pa_cons (pe_ix ix_tup (pv 0) pe_int (fun _ _ => rfl)) (pa_cons (pe_bltn (v := .ty "str") (u := .type "str") (by rfl) T.n_str (by decide +kernel) rfl) pa_nil)))))))), ?_⟩
    refine ⟨_, rfl, _, _, _, _, true, rfl, .ty "tuple", tyx_tup hx, kv (by decide +kernel), true, rfl, ?_⟩
    rw [if_pos rfl]
    refine ⟨_, rfl, _, (xs.length + 1 : Nat), rfl, .inr ⟨_, hx, rfl⟩, _, _, rfl, rfl, true, ?_, ?_⟩
    · show V.bl (decide ((0 : Int) < ((xs.length + 1 : Nat) : Int))) = _
      rw [decide_eq_true (by omega)]
    rw [if_pos rfl]
    refine ⟨_, rfl, _, _, _, _, rfl, rfl, hx, atI_nat (j := 0) rfl, _, _, _, _, true, rfl, .ty "str", .base (.str x), kv (by decide +kernel), q⟩
end
end Cs
namespace Cs
open PySem PySem.Spec L2
section
variable {P : Program} {w : World} {K : PySem.W.Frag} {mg : Str → Option Value} {base : Heap} {A : Adr}
def spName : Sp := fun vs H Q _ => ∃ x : Str, vs = [.str x] ∧ okName x ∧ ∀ H1, Same H H1 → Q (.bl true) H1
theorem ok_is_name (T : Tx K w mg A) : FnOk P w K mg base CX0 1 A.f_is_name A.fd_is_name P_is_name spName := by
  refine T.F_is_name.ok sc_is_name (fun vs H Q E h => ?_) (fun cdv AA outer s H vs Q E hr h => ?_)
  · obtain ⟨x, rfl, _⟩ := h
    rfl
  · obtain ⟨x, rfl, ⟨h1, h2, h3⟩, q⟩ := h
    refine ⟨_, (pss_cons (ps_if (PW.pt (pw_or (pt_not (pt_val (pe_callB call_isi (by rfl) T.n_isinstance (by decide +kernel) (pa_cons (pv 0) (pa_cons (pe_bltn (v := .ty "str") (u := .type "str") (by rfl) T.n_str (by decide +kernel) rfl) pa_nil))))) (pw_or1 (pt_not (pt_chain op_le op_le pe_int (pe_callB call_len (by rfl) T.n_len (by decide +kernel) (pa_cons (pv 0) pa_nil)) (pe_glob (v := .int 8) rfl T.c_MOST_SIGNS ⟨_, rfl⟩))))))
  (pss_one (ps_ret pe_bl))
  pss_nil)
  (pss_one (ps_ret (pe_callB (cr_all rfl) (by rfl) T.n_all (by decide +kernel) (pa_cons (pe_lc (own := [("sign", 1)]) (g := (gName 1)) (tt := tYes) (te := _) rfl sc_is_name.nd (pi_str (pv 0)) (blkOk_by (N := N_is_name) (sc := defScope s_is_name) (by decide +kernel)) (fun _ _ _ _ _ => (pg_name (i := 1) sc_is_name.nd rfl (.inl rfl))) (fun _ _ _ _ _ => pts_nil) (fun _ _ _ _ _ => (pe_chain op_le_str op_le_str pe_str (pv 1) pe_str))) pa_nil))))), ?_⟩
    refine ⟨_, rfl, _, _, _, _, true, rfl, .ty "str", .base (.str x), kv (by decide +kernel), true, rfl, iteF ⟨_, rfl, _, x.length, rfl, ⟨small (by omega), rfl⟩, _, _, rfl, rfl, _, rfl, itd (by omega) ⟨_, _, rfl, rfl, _, rfl, itnd (by omega) ?_⟩⟩⟩
    refine ⟨_, rfl, x, rfl, fun D hD => lc_data (walk_str (z := x)) (fun _ y _ => y = .bl true) (fun _ _ _ _ _ e => e) hD (fun _ _ => trivial) (show x.length ≤ _ by omega) ?_ ?_⟩
    · rintro i y H1 H2 k hi s1 ⟨rfl, c, hc, rfl⟩ hk
      have hs : sign c := h3 c (List.mem_of_getElem? (by rw [Array.getElem?_toList]; exact hc))
      refine ⟨rfl, _, rfl, _, _, rfl, rfl, true, ?_, iteT ⟨_, _, rfl, rfl, hk _ _ (Same.refl _) ?_⟩⟩
      · show V.bl (!decide ([c] < [97])) = _
        rw [decide_eq_false (by intro z; have := hs.1; cases z <;> first | omega | contradiction)]
        rfl
      · show V.bl (!decide ([122] < [c])) = _
        rw [decide_eq_false (by intro z; have := hs.2; cases z <;> first | omega | contradiction)]
        rfl
    · rintro H1 acc s1 e1 hl hE
      refine ⟨D, List.replicate acc.length true, rfl, ?_, ?_⟩
      · refine .inl (.inl ?_)
        rw [e1]
        congr 2
        refine List.ext_getElem? fun j => ?_
        rw [List.getElem?_map, List.getElem?_replicate]
        cases hz : acc[j]? with
        | none =>
          rw [if_neg (by have := List.getElem?_eq_none_iff.mp hz; omega)]
          rfl
        | some y =>
          rw [if_pos (List.getElem?_eq_some_iff.mp hz).1, hE j y hz]
          rfl
      · have e : (List.replicate acc.length true).all id = true := by simp
        rw [e]
        exact q _ s1
def spStands (ns : Nm) : Sp := fun vs H Q _ => ∃ (x : Str) (kd : Kd) (d : Addr), vs = [.str x, kd.v, .ref d] ∧ H d = some (.dK (nmK ns)) ∧ look ns x = some kd ∧ Q (.bl true) H
theorem ok_stands (T : Tx K w mg A) (ns : Nm) : FnOk P w K mg base CX0 1 A.f_stands A.fd_stands P_stands (spStands ns) := by
  refine T.F_stands.ok sc_stands (fun vs H Q E h => ?_) (fun cdv AA outer s H vs Q E hr h => ?_)
  · obtain ⟨x, kd, d, rfl, _⟩ := h
    rfl
  · obtain ⟨x, kd, d, rfl, hd, hl, q⟩ := h
    refine ⟨_, (pss_one (ps_ret (pe_and (pe_callB call_isi (by rfl) T.n_isinstance (by decide +kernel) (pa_cons (pv 0) (pa_cons (pe_bltn (v := .ty "str") (u := .type "str") (by rfl) T.n_str (by decide +kernel) rfl) pa_nil))) (pe_one (pe_cmpR op_eq (pe_dget1 (hu_of hr) (pv 2) (pv 0) ⟨rfl, rfl, rfl, rfl⟩) (pv 1) (nomark _)))))), ?_⟩
    refine ⟨_, rfl, _, _, _, _, true, rfl, .ty "str", .base (.str x), kv (by decide +kernel), true, rfl, ?_⟩
    rw [if_pos rfl]
    refine ⟨_, rfl, d, rfl, .inl ⟨_, .inl hd⟩, _, rfl, _, DGet.k (k := .inr x) hd, _, rfl, ?_⟩
    rw [nmK_val, hl]
    refine ⟨rfl, ?_⟩
    show Q (.bl (decide (kd.v = kd.v))) H
    rw [decide_eq_true rfl]
    exact q
def spAhead (K : PySem.W.Frag) : Sp := fun vs H Q _ => ∃ (v : V) (f : Fn), vs = [v] ∧ FnAt K H v f ∧ f.ps.length ≤ 1000 ∧ ∀ H1 p, Same H H1 → H p = none → H1 p = some (.lst (f.ps.map fun x => x.2.v)) → Q (.ref p) H1
theorem ok_kinds_ahead (T : Tx K w mg A) : FnOk P w K mg base CX0 1 A.f_kinds_ahead A.fd_kinds_ahead P_kinds_ahead (spAhead K) := by
  refine T.F_kinds_ahead.ok sc_kinds_ahead (fun vs H Q E h => ?_) (fun cdv AA outer s H vs Q E hr h => ?_)
  · obtain ⟨v, f, rfl, _⟩ := h
    rfl
  · obtain ⟨v, f, rfl, ⟨a, p, tv, qs, rfl, ha, hp, hq, ht⟩, hlen, q⟩ := h
    refine ⟨_, (pss_one (ps_ret (pe_lc (own := [("_", 1), ("kind", 2)]) (g := (gTup K 2 (gCons (gName 1) (gCons (gName 2) gNil)))) (tt := tYes) (te := (tVar 2)) rfl sc_kinds_ahead.nd (pi_tup (pe_ix ix_tup (pv 0) pe_int (fun _ _ => rfl))) (blkOk_by (N := N_kinds_ahead) (sc := defScope s_kinds_ahead) (by decide +kernel)) (fun _ _ _ _ _ => (pg_tup (by rfl) (pgs_cons (pg_name (i := 1) sc_kinds_ahead.nd rfl (.inl rfl)) (pgs_cons (pg_name (i := 2) sc_kinds_ahead.nd rfl (.inl rfl)) pgs_nil)))) (fun _ _ _ _ _ => pts_nil) (fun _ _ _ _ _ => (pv 2))))), ?_⟩
    refine ⟨_, rfl, _, _, _, _, rfl, rfl, ha, atI_nat (j := 0) rfl, p, rfl, ⟨_, hp.sq⟩, fun D hD => ?_⟩
    refine lc_data (walk_tup (K := K) (a := p) (xs := qs.map V.ref)) (fun i y _ => ∃ x, f.ps[i]? = some x ∧ y = x.2.v) (fun _ _ _ _ _ e => e) hD (fun H1 s1 => Same.tup s1 hp.sq) (by rw [List.length_map, Paired.length hq]; omega) ?_ ?_
    · rintro i x H1 H2 k hi s1 ⟨rfl, hx⟩ hk
      rw [List.getElem?_map] at hx
      obtain ⟨t, ht2, rfl⟩ := Option.map_eq_some_iff.mp hx
      obtain ⟨pr, hpr, hat⟩ := paired_get hq ht2
      exact ⟨t, _, rfl, Same.tup s1 hat, rfl, _, _, rfl, _, _, rfl, rfl, rfl, _, rfl, hk _ _ (Same.refl _) ⟨pr, hpr, rfl⟩⟩
    · rintro H1 acc s1 e1 hl hE
      refine q H1 D s1 hD ?_
      rw [e1]
      congr 2
      refine List.ext_getElem? fun j => ?_
      rw [List.getElem?_map]
      cases hz : acc[j]? with
      | none =>
        have h1 := List.getElem?_eq_none_iff.mp hz
        rw [List.length_map, Paired.length hq] at hl
        rw [List.getElem?_eq_none (by omega)]
        rfl
      | some y =>
        obtain ⟨x, h1, rfl⟩ := hE j y hz
        rw [h1]
        rfl
end
end Cs
namespace Cs
open PySem PySem.Spec L2
/-- what a deed's part is to be -/
inductive Nd where
  | n | k (kd : Kd)
def Nd.s : Nd → Str
  | .n => "n"
  | .k kd => kd.s
def fits (ns : Nm) : V → Nd → Prop
  | .int i, .n => near i
  | .str x, .k kd => look ns x = some kd
  | _, _ => False
theorem kd_not_n (kd : Kd) : ¬ kd.s = ("n" : Str) := by cases kd <;> decide +kernel
section
variable {P : Program} {w : World} {K : PySem.W.Frag} {mg : Str → Option Value} {base : Heap} {A : Adr}
/-- a list of truths -/
theorem trues {H1 : Hp} {D : Addr} {acc : List V} (e1 : H1 D = some (.lst acc)) (h : ∀ (i : Nat) y, acc[i]? = some y → y = .bl true) : SqL K H1 D ((List.replicate acc.length true).map V.bl) := by
  refine .inl (.inl ?_)
  rw [e1]
  congr 2
  refine List.ext_getElem? fun j => ?_
  rw [List.getElem?_map, List.getElem?_replicate]
  cases hz : acc[j]? with
  | none =>
    rw [if_neg (by have := List.getElem?_eq_none_iff.mp hz; omega)]
    rfl
  | some y =>
    rw [if_pos (List.getElem?_eq_some_iff.mp hz).1, h j y hz]
    rfl
theorem trues_all (n : Nat) : (List.replicate n true).all id = true := by simp
def spFit (K : PySem.W.Frag) (ns : Nm) : Sp := fun vs H Q _ => ∃ (p a d : Addr) (parts : List V) (nds : List Nd), vs = [.ref p, .ref a, .ref d] ∧ SqT K H p parts ∧ (SqT K H a (nds.map fun x => .str x.s) ∨ SqL K H a (nds.map fun x => .str x.s)) ∧
  H d = some (.dK (nmK ns)) ∧ Paired (fits ns) parts nds ∧ parts.length ≤ 1000 ∧ ∀ H1, Same H H1 → Q (.bl true) H1
theorem ok_all_fit (T : Tx K w mg A) (ns : Nm) : FnOk P w K mg base CX0 4 A.f_all_fit A.fd_all_fit P_all_fit (spFit K ns) := by
  have G_is_near := ok_is_near (P := P) (base := base) T
  have G_stands := ok_stands (P := P) (base := base) T ns
  refine T.F_all_fit.ok sc_all_fit (fun vs H Q E h => ?_) (fun cdv AA outer s H vs Q E hr h => ?_)
  · obtain ⟨p, a, d, parts, nds, rfl, _⟩ := h
    rfl
  · obtain ⟨p, a, d, parts, nds, rfl, hp, ha, hd, hf, hlen, q⟩ := h
    have hl := Paired.length hf
    refine ⟨_, (pss_cons (ps_if (pt_cmpR op_ne (pe_callB call_len (by rfl) T.n_len (by decide +kernel) (pa_cons (pv 0) pa_nil)) (pe_callB call_len (by rfl) T.n_len (by decide +kernel) (pa_cons (pv 1) pa_nil)) (nomark _))
  (pss_one (ps_ret pe_bl))
  pss_nil)
  (pss_one (ps_ret (pe_callB (cr_all rfl) (by rfl) T.n_all (by decide +kernel) (pa_cons (pe_lc (own := [("part", 3), ("want", 4)]) (g := (gTup K 2 (gCons (gName 3) (gCons (gName 4) gNil)))) (tt := tYes) (te := _) rfl sc_all_fit.nd (pi_or (RZ.pi_zipA (by rfl) T.n_zip (pa_cons (pv 0) (pa_cons (pv 1) pa_nil))) (pi_zipM (by rfl) T.n_zip (pa_cons (pv 0) (pa_cons (pv 1) pa_nil)))) (blkOk_by (N := N_all_fit) (sc := defScope s_all_fit) (by decide +kernel)) (fun _ _ _ _ _ => (pg_tup (by rfl) (pgs_cons (pg_name (i := 3) sc_all_fit.nd rfl (.inl rfl)) (pgs_cons (pg_name (i := 4) sc_all_fit.nd rfl (.inl rfl)) pgs_nil)))) (fun _ _ _ _ _ => pts_nil) (fun _ _ _ _ _ => (pe_ifExp (pt_cmpR op_eq (pv 4) pe_str (nomark _)) (pe_call G_is_near (hr.mono (by decide)) (by rfl) T.g_is_near T.F_is_near.kp T.b_is_near .nil pass0 (pa_cons (pv 3) pa_nil)) (pe_call G_stands (hr.mono (by decide)) (by rfl) T.g_stands T.F_stands.kp T.b_stands .nil pass0 (pa_cons (pv 3) (pa_cons (pv 4) (pa_cons (pv 2) pa_nil))))))) pa_nil))))), ?_⟩
    refine ⟨_, rfl, _, parts.length, rfl, .inr ⟨_, hp, rfl⟩, _, rfl, _, parts.length, rfl, ?_, rfl, _, rfl, ?_⟩
    · rcases ha with ha | ha
      · exact .inr ⟨_, ha, by rw [List.length_map]; exact hl⟩
      · exact .inl ⟨_, ha, by rw [List.length_map]; exact hl⟩
    refine itnd rfl ?_
    -- one turn, whatever is walked
    have turn : ∀ (i : Nat) (x : V) (H1 H2 : Hp) (k : V → Hp → Prop), Same H H1 → (∃ T x' y', x = .ref T ∧ H1 T = none ∧ H2 = upd H1 T (.tup [x', y']) ∧ parts[i]? = some x' ∧ (nds.map fun x => V.str x.s)[i]? = some y') → (∀ y H4, Same H1 H4 → y = V.bl true → k y H4) →
        gTup K 2 (gCons (gName 3) (gCons (gName 4) gNil)) x (wipe (L2.start N_all_fit [.ref p, .ref a, .ref d]) [3, 4]) H2 fun σ2 H3 => wipe σ2 [3, 4] = wipe (L2.start N_all_fit [.ref p, .ref a, .ref d]) [3, 4] ∧
          tIf (tTest (tOp rEq (tVar 4) (tC (.str "n")))) (tCall spNear [] (fun _ _ _ => False) (tCons (tVar 3) tNil)) (tCall (spStands ns) [] (fun _ _ _ => False) (tCons (tVar 3) (tCons (tVar 4) (tCons (tVar 2) tNil)))) σ2 H3 k := by
      rintro i x H1 H2 k s1 ⟨T, x', y', rfl, hT, rfl, hx, hy⟩ hk
      rw [List.getElem?_map] at hy
      obtain ⟨nd, hnd, rfl⟩ := Option.map_eq_some_iff.mp hy
      obtain ⟨nd', hnd', hfit⟩ := paired_get hf hx
      rw [hnd] at hnd'
      cases hnd'
      refine ⟨T, [x', .str nd.s], rfl, .inl (.inl upd_same), rfl, x', _, rfl, .str nd.s, _, rfl, rfl, rfl, _, rfl, rfl, _, rfl, ?_⟩
      cases nd with
      | n =>
        cases x' <;> first | exact hfit.elim | skip
        refine itd (p := V.str Nd.n.s = V.str "n") rfl ⟨_, rfl, _, rfl, hfit, hk _ _ (same_upd hT) rfl⟩
      | k kd =>
        cases x' <;> first | exact hfit.elim | skip
        refine itn (p := V.str (Nd.k kd).s = V.str "n") (fun z => kd_not_n kd (V.str.inj z)) ⟨_, rfl, _, rfl, .ref d, rfl, _, kd, d, rfl, ?_, hfit, hk _ _ (same_upd hT) rfl⟩
        exact same_upd hT _ _ (s1 _ _ hd)
    have fin : ∀ (D : Addr) (H1 : Hp) (acc : List V), Same H H1 → H1 D = some (.lst acc) → (∀ (i : Nat) y, acc[i]? = some y → y = .bl true) → ∃ (a : Addr) (bs : List Bool), [V.ref D] = [V.ref a] ∧ SqL K H1 a (bs.map V.bl) ∧ Q (.bl (bs.all id)) H1 := fun D H1 acc s1 e1 hE => by
      refine ⟨D, List.replicate acc.length true, rfl, trues e1 hE, ?_⟩
      rw [trues_all]
      exact q _ s1
    rcases ha with ha | ha
    · refine .inl ⟨_, rfl, _, rfl, p, a, _, _, rfl, .inr ⟨hp, ha, fun D hD => ?_⟩⟩
      refine lc_data (n := parts.length) (G := fun H1 => Same H H1) (Y := fun i H v H' => ∃ T x' y', v = .ref T ∧ H T = none ∧ H' = upd H T (.tup [x', y']) ∧ parts[i]? = some x' ∧ (nds.map fun x => V.str x.s)[i]? = some y') ⟨?_, ?_, ?_⟩
        (fun _ y _ => y = .bl true) (fun _ _ _ _ _ e => e) hD (fun _ s1 => s1) (by omega) (fun i x H1 H2 k hi s1 hy hk => turn i x H1 H2 k s1 hy hk) (fun H1 acc s1 e1 _ hE => fin D H1 acc s1 e1 hE)
      · intro i H1 hi s1
        exact ⟨parts, _, _, _, Same.tup s1 hp, Same.tup s1 ha, List.getElem?_eq_getElem hi, List.getElem?_eq_getElem (by rw [List.length_map]; omega)⟩
      · intro H1 s1
        exact ⟨parts, _, Same.tup s1 hp, Same.tup s1 ha, .inl (Nat.le_refl _)⟩
      · rintro i H1 v H2 hi s1 ⟨T, x, y, rfl, hT, rfl, f1, f2⟩
        exact ⟨T, x, y, rfl, hT, rfl, f1 _ (Same.tup s1 hp), f2 _ (Same.tup s1 ha)⟩
    · refine .inr ⟨_, rfl, _, rfl, p, a, _, _, rfl, hp, ha, fun D hD => ?_⟩
      refine lc_data (n := parts.length) (G := fun H1 => Same H H1) (Y := fun i H v H' => ∃ T x' y', v = .ref T ∧ H T = none ∧ H' = upd H T (.tup [x', y']) ∧ parts[i]? = some x' ∧ (nds.map fun x => V.str x.s)[i]? = some y') ⟨?_, ?_, ?_⟩
        (fun _ y _ => y = .bl true) (fun _ _ _ _ _ e => e) hD (fun _ s1 => s1) (by omega) (fun i x H1 H2 k hi s1 hy hk => turn i x H1 H2 k s1 hy hk) (fun H1 acc s1 e1 _ hE => fin D H1 acc s1 e1 hE)
      · intro i H1 hi s1
        exact ⟨Same.tup s1 hp, s1.seq ha, by rw [List.length_map]; omega⟩
      · intro H1 s1
        exact ⟨Same.tup s1 hp, s1.seq ha, by rw [List.length_map]; omega⟩
      · rintro i H1 v H2 hi s1 y
        exact y
end
end Cs
namespace Cs
open PySem PySem.Spec L2
section
variable {P : Program} {w : World} {K : PySem.W.Frag} {mg : Str → Option Value} {base : Heap} {A : Adr}
theorem fits_map {ns : Nm} : ∀ {xs : List Str} {ks : List Kd}, Paired (fun x kd => look ns x = some kd) xs ks → Paired (fits ns) (xs.map V.str) (ks.map Nd.k)
  | _, _, .nil => .nil
  | _, _, .cons h t => .cons h (fits_map t)
theorem imAll_strs {H : Hp} : ∀ {vs : List V} {xs : List Str}, ImAll K H vs (xs.map .str) → vs = xs.map V.str
  | _, [], h => all0 h
  | _, x :: xs, h => by
    obtain ⟨v, r, rfl, h1, h2⟩ := all_cons h
    rw [im_str h1, imAll_strs h2]
    rfl
/-- all that deed_kind and the like are told -/
structure Ctx (K : PySem.W.Frag) (H : Hp) (pgv : V) (fs : List Fn) (d : Addr) (ns : Nm) : Prop where
  pg : PgAt K H pgv fs
  okl : fs.length ≤ 6
  few : ∀ f ∈ fs, f.ps.length ≤ 4
  nm : H d = some (.dK (nmK ns))
theorem Ctx.same {H H1 : Hp} {pgv : V} {fs : List Fn} {d : Addr} {ns : Nm} (c : Ctx K H pgv fs d ns) (s : Same H H1) : Ctx K H1 pgv fs d ns := ⟨c.pg.same (sameI_of s), c.okl, c.few, s _ _ c.nm⟩
def spDeed (K : PySem.W.Frag) (fs : List Fn) (ns : Nm) (dd : Dd) : Sp := fun vs H Q _ => ∃ (pgv dv : V) (d : Addr) (kd : Kd), vs = [pgv, dv, .ref d] ∧ Ctx K H pgv fs d ns ∧ Im K H dv dd.d ∧ dd.ok (fs.map Fn.hd) ns kd ∧ ∀ H1, Same H H1 → Q kd.v H1
theorem ok_call_kind (T : Tx K w mg A) (fs : List Fn) (ns : Nm) (f : Nat) (xs : List Str) : FnOk P w K mg base CX0 5 A.f_call_kind A.fd_call_kind P_call_kind (spDeed K fs ns (.call f xs)) := by
  have G_is_row := ok_is_row (P := P) (base := base) T
  have G_is_between := ok_is_between (P := P) (base := base) T
  have G_all_fit := ok_all_fit (P := P) (base := base) T ns
  have G_kinds_ahead := ok_kinds_ahead (P := P) (base := base) T
  refine T.F_call_kind.ok sc_call_kind (fun vs H Q E h => ?_) (fun cdv AA outer s H vs Q E hr h => ?_)
  · obtain ⟨pgv, dv, d, kd, rfl, _⟩ := h
    rfl
  · obtain ⟨pgv, dv, d, kd, rfl, C, hd, ⟨h1, h, hh, hf, rfl⟩, q⟩ := h
    obtain ⟨da, dxs, rfl, hdt, hall⟩ := im_tup hd
    obtain ⟨v0, r0, rfl, i0, hall⟩ := all_cons hall
    obtain ⟨v1, r1, rfl, i1, hall⟩ := all_cons hall
    obtain ⟨v2, r2, rfl, i2, hall⟩ := all_cons hall
    obtain rfl := all0 hall
    obtain rfl := im_str i0
    obtain rfl := im_int i1
    obtain ⟨na, nxs, rfl, hnt, hnall⟩ := im_tup i2
    obtain rfl := imAll_strs hnall
    obtain ⟨pa, pvs, rfl, hpt, hpall⟩ := C.pg
    have hlp := Paired.length hpall
    rw [List.getElem?_map] at hh
    obtain ⟨fn, hfn, rfl⟩ := Option.map_eq_some_iff.mp hh
    have hlt : f < fs.length := (List.getElem?_eq_some_iff.mp hfn).1
    obtain ⟨fv, hfv, hfat⟩ := paired_get' hpall hfn
    obtain ⟨fa, fp, ftv, fqs, rfl, hft, hfpl, hfps, hftr⟩ := id hfat
    have few := C.few fn (List.mem_of_getElem? hfn)
    refine ⟨_, (pss_cons (ps_if (PW.pt (pw_or (pt_not (pt_val (pe_call G_is_row (hr.mono (by decide)) (by rfl) T.g_is_row T.F_is_row.kp T.b_is_row .nil pass0 (pa_cons (pv 1) (pa_cons pe_int pa_nil))))) (pw_or1 (pt_not (pt_val (pe_call G_is_between (hr.mono (by decide)) (by rfl) T.g_is_between T.F_is_between.kp T.b_is_between .nil pass0 (pa_cons (pe_ix ix_tup (pv 1) pe_int (fun _ _ => rfl)) (pa_cons pe_int (pa_cons (pe_op op_sub (pe_callB call_len (by rfl) T.n_len (by decide +kernel) (pa_cons (pv 0) pa_nil)) pe_int) pa_nil)))))))))
  (pss_one (ps_ret pe_non))
  pss_nil)
  (pss_cons (ps_set (i := 3) sc_call_kind.nd rfl (.inl rfl) (pe_ix ix_tup (pv 0) (pe_ix ix_tup (pv 1) pe_int (fun _ _ => rfl)) (fun _ _ => rfl)))
  (pss_cons (ps_if (PW.pt (pw_or (pt_not (pt_val (pe_callB call_isi (by rfl) T.n_isinstance (by decide +kernel) (pa_cons (pe_ix ix_tup (pv 1) pe_int (fun _ _ => rfl)) (pa_cons (pe_bltn (v := .ty "tuple") (u := .type "tuple") (by rfl) T.n_tuple (by decide +kernel) rfl) pa_nil))))) (pw_or1 (pt_not (pt_val (pe_call G_all_fit (hr.mono (by decide)) (by rfl) T.g_all_fit T.F_all_fit.kp T.b_all_fit .nil pass0 (pa_cons (pe_ix ix_tup (pv 1) pe_int (fun _ _ => rfl)) (pa_cons (pe_call G_kinds_ahead (hr.mono (by decide)) (by rfl) T.g_kinds_ahead T.F_kinds_ahead.kp T.b_kinds_ahead .nil pass0 (pa_cons (pv 3) pa_nil)) (pa_cons (pv 2) pa_nil)))))))))
  (pss_one (ps_ret pe_non))
  pss_nil)
  (pss_one (ps_ret (pe_ix ix_tup (pv 3) pe_int (fun _ _ => rfl))))))), ?_⟩
    refine ⟨_, rfl, da, _, 3, rfl, hdt, _, rfl, iteF ⟨_, rfl, _, _, _, _, rfl, rfl, hdt, atI_nat (j := 1) rfl, .ref pa, rfl, _, pvs.length, rfl, .inr ⟨_, hpt, rfl⟩, _, _, rfl, rfl, (f : Int), 1, (pvs.length : Int) - 1, rfl, _, rfl, ?_⟩⟩
    rw [decide_eq_true (show (1 : Int) ≤ (f : Int) ∧ (f : Int) ≤ (pvs.length : Int) - 1 by omega)]
    refine iteF ?_
    refine ⟨_, rfl, _, rfl, _, _, _, _, rfl, rfl, hdt, atI_nat (j := 1) rfl, _, _, _, _, rfl, rfl, hpt, atI_nat hfv, ?_⟩
    refine ⟨_, rfl, _, _, _, _, rfl, rfl, hdt, atI_nat (j := 2) rfl, _, _, _, _, true, rfl, .ty "tuple", tyx_tup hnt, kv (by decide +kernel), true, rfl, iteF ?_⟩
    refine ⟨_, rfl, _, _, _, _, rfl, rfl, hdt, atI_nat (j := 2) rfl, .ref fa, rfl, .ref fa, fn, rfl, hfat, by omega, fun H1 l s1 nl el => ?_⟩
    have C1 := C.same s1
    refine ⟨_, rfl, na, l, d, xs.map V.str, fn.hd.1.map Nd.k, rfl, Same.tup s1 hnt, .inr (.inl (.inl ?_)), C1.nm, fits_map hf, ?_, fun H2 s2 => ⟨_, rfl, iteF ?_⟩⟩
    · rw [el]
      show _ = some (HO.lst (((fn.ps.map (·.2)).map Nd.k).map fun x => V.str x.s))
      rw [List.map_map, List.map_map]
      rfl
    · have e := Paired.length hf
      rw [List.length_map, e]
      show (fn.ps.map (·.2)).length ≤ 1000
      rw [List.length_map]
      omega
    · exact ⟨_, rfl, _, _, _, _, rfl, rfl, Same.tup s2 (Same.tup s1 hft), atI_nat (j := 1) rfl, q _ (s1.trans s2)⟩
end
end Cs
namespace Cs
open PySem PySem.Spec L2
section
variable {P : Program} {w : World} {K : PySem.W.Frag} {mg : Str → Option Value} {base : Heap} {A : Adr}
theorem im2 {H : Hp} {vs : List V} {d1 d2 : PyData} (h : ImAll K H vs [d1, d2]) : ∃ v1 v2, vs = [v1, v2] ∧ Im K H v1 d1 ∧ Im K H v2 d2 := by
  obtain ⟨v1, r1, rfl, h1, h⟩ := all_cons h
  obtain ⟨v2, r2, rfl, h2, h⟩ := all_cons h
  obtain rfl := all0 h
  exact ⟨v1, v2, rfl, h1, h2⟩
theorem im1 {H : Hp} {vs : List V} {d1 : PyData} (h : ImAll K H vs [d1]) : ∃ v1, vs = [v1] ∧ Im K H v1 d1 := by
  obtain ⟨v1, r1, rfl, h1, h⟩ := all_cons h
  obtain rfl := all0 h
  exact ⟨v1, rfl, h1⟩
/-- the row of the table for a deed that is no call -/
theorem deed_row (T : Tx K w mg A) {hs : Hd} {ns : Nm} {dd : Dd} {kd : Kd} (h : dd.ok hs ns kd) (hc : ∀ f xs, dd ≠ .call f xs) :
    ∃ (z : Str) (ds : List PyData) (nds : List Nd) (ea wa : Addr), dd.d = .tuple (.str z :: ds) ∧ z ≠ "call" ∧ KDct K w A.a_DEEDS z (.ref ea) ∧ (∀ H, SqT K H ea [.ref wa, kd.v]) ∧ (∀ H, SqT K H wa (nds.map fun x => .str x.s)) ∧ nds.length ≤ 2 ∧
      ∀ H vs, ImAll K H vs ds → Paired (fits ns) vs nds := by
  cases dd with
  | num n =>
    obtain ⟨h1, rfl⟩ := h
    refine ⟨_, _, [.n], _, _, rfl, by decide +kernel, T.y_DEEDS_num, T.q_DEEDS_num, T.q_DEEDS_num_0, by decide, fun H vs hv => ?_⟩
    obtain ⟨v1, rfl, i1⟩ := im1 hv
    obtain rfl := im_int i1
    exact .cons h1 .nil
  | sum x n =>
    obtain ⟨h1, h2, rfl⟩ := h
    refine ⟨_, _, [.k .num, .n], _, _, rfl, by decide +kernel, T.y_DEEDS_sum, T.q_DEEDS_sum, T.q_DEEDS_sum_0, by decide, fun H vs hv => ?_⟩
    obtain ⟨v1, v2, rfl, i1, i2⟩ := im2 hv
    obtain rfl := im_str i1
    obtain rfl := im_int i2
    exact .cons h1 (.cons h2 .nil)
  | len l =>
    obtain ⟨h1, rfl⟩ := h
    refine ⟨_, _, [.k .lst], _, _, rfl, by decide +kernel, T.y_DEEDS_len, T.q_DEEDS_len, T.q_DEEDS_len_0, by decide, fun H vs hv => ?_⟩
    obtain ⟨v1, rfl, i1⟩ := im1 hv
    obtain rfl := im_str i1
    exact .cons h1 .nil
  | nil =>
    obtain rfl := h
    refine ⟨_, _, [], _, _, rfl, by decide +kernel, T.y_DEEDS_nil, T.q_DEEDS_nil, T.q_DEEDS_nil_0, by decide, fun H vs hv => ?_⟩
    obtain rfl := all0 hv
    exact .nil
  | put x l =>
    obtain ⟨h1, h2, rfl⟩ := h
    refine ⟨_, _, [.k .num, .k .lst], _, _, rfl, by decide +kernel, T.y_DEEDS_put, T.q_DEEDS_put, T.q_DEEDS_put_0, by decide, fun H vs hv => ?_⟩
    obtain ⟨v1, v2, rfl, i1, i2⟩ := im2 hv
    obtain rfl := im_str i1
    obtain rfl := im_str i2
    exact .cons h1 (.cons h2 .nil)
  | head l =>
    obtain ⟨h1, rfl⟩ := h
    refine ⟨_, _, [.k .lst], _, _, rfl, by decide +kernel, T.y_DEEDS_head, T.q_DEEDS_head, T.q_DEEDS_head_0, by decide, fun H vs hv => ?_⟩
    obtain ⟨v1, rfl, i1⟩ := im1 hv
    obtain rfl := im_str i1
    exact .cons h1 .nil
  | tail l =>
    obtain ⟨h1, rfl⟩ := h
    refine ⟨_, _, [.k .lst], _, _, rfl, by decide +kernel, T.y_DEEDS_tail, T.q_DEEDS_tail, T.q_DEEDS_tail_0, by decide, fun H vs hv => ?_⟩
    obtain ⟨v1, rfl, i1⟩ := im1 hv
    obtain rfl := im_str i1
    exact .cons h1 .nil
  | at_ l x =>
    obtain ⟨h1, h2, rfl⟩ := h
    refine ⟨_, _, [.k .lst, .k .num], _, _, rfl, by decide +kernel, T.y_DEEDS_at, T.q_DEEDS_at, T.q_DEEDS_at_0, by decide, fun H vs hv => ?_⟩
    obtain ⟨v1, v2, rfl, i1, i2⟩ := im2 hv
    obtain rfl := im_str i1
    obtain rfl := im_str i2
    exact .cons h1 (.cons h2 .nil)
  | ask =>
    obtain rfl := h
    refine ⟨_, _, [], _, _, rfl, by decide +kernel, T.y_DEEDS_ask, T.q_DEEDS_ask, T.q_DEEDS_ask_0, by decide, fun H vs hv => ?_⟩
    obtain rfl := all0 hv
    exact .nil
  | call f xs => exact absurd rfl (hc f xs)
theorem ok_deed_kind (T : Tx K w mg A) (fs : List Fn) (ns : Nm) (dd : Dd) : FnOk P w K mg base CX0 6 A.f_deed_kind A.fd_deed_kind P_deed_kind (spDeed K fs ns dd) := by
  have G_has_word := ok_has_word (P := P) (base := base) T
  have G_all_fit := ok_all_fit (P := P) (base := base) T ns
  have G_call_kind : FnOk P w K mg base CX0 5 A.f_call_kind A.fd_call_kind P_call_kind (fun vs H Q E => ∃ f xs, dd = .call f xs ∧ spDeed K fs ns (.call f xs) vs H Q E) :=
    ⟨fun vs H Q E ⟨f, xs, _, h⟩ => (ok_call_kind (P := P) (base := base) T fs ns f xs).len vs H Q E h, fun AA outer s H args us vs Q E hr he hb hv ⟨f, xs, _, h⟩ => (ok_call_kind (P := P) (base := base) T fs ns f xs).run AA outer s H args us vs Q E hr he hb hv h⟩
  refine T.F_deed_kind.ok sc_deed_kind (fun vs H Q E h => ?_) (fun cdv AA outer s H vs Q E hr h => ?_)
  · obtain ⟨pgv, dv, d, kd, rfl, _⟩ := h
    rfl
  · obtain ⟨pgv, dv, d, kd, rfl, C, hd, hok, q⟩ := h
    refine ⟨_, (pss_cons (ps_if (pt_not (pt_val (pe_call G_has_word (hr.mono (by decide)) (by rfl) T.g_has_word T.F_has_word.kp T.b_has_word .nil pass0 (pa_cons (pv 1) pa_nil))))
  (pss_one (ps_ret pe_non))
  pss_nil)
  (pss_cons (ps_if (pt_cmpR op_eq (pe_ix ix_tup (pv 1) pe_int (fun _ _ => rfl)) pe_str (nomark _))
  (pss_one (ps_ret (pe_call G_call_kind (hr.mono (by decide)) (by rfl) T.g_call_kind T.F_call_kind.kp T.b_call_kind .nil pass0 (pa_cons (pv 0) (pa_cons (pv 1) (pa_cons (pv 2) pa_nil))))))
  pss_nil)
  (pss_cons (ps_if (pt_cmpR (op_notIn_kd T.d_DEEDS) (pe_ix ix_tup (pv 1) pe_int (fun _ _ => rfl)) (pe_glob (v := .ref A.a_DEEDS) rfl T.c_DEEDS rfl) (by rfl))
  (pss_one (ps_ret pe_non))
  pss_nil)
  (pss_cons (ps_asg (pe_ix ix_kdict (pe_glob (v := .ref A.a_DEEDS) rfl T.c_DEEDS rfl) (pe_ix ix_tup (pv 1) pe_int (fun _ _ => rfl)) (fun _ _ => rfl)) (pg_tup (by rfl) (pgs_cons (pg_name (i := 3) sc_deed_kind.nd rfl (.inl rfl)) (pgs_cons (pg_name (i := 4) sc_deed_kind.nd rfl (.inl rfl)) pgs_nil))))
  (pss_one (ps_ret (pe_ifExp (pt_val (pe_call G_all_fit (hr.mono (by decide)) (by rfl) T.g_all_fit T.F_all_fit.kp T.b_all_fit .nil pass0 (pa_cons (pe_slice sl_tup (pv 1) (po_some pe_int) po_none) (pa_cons (pv 3) (pa_cons (pv 2) pa_nil))))) (pv 4) pe_non))))))), ?_⟩
    by_cases hc : ∃ f xs, dd = .call f xs
    · obtain ⟨f, xs, rfl⟩ := hc
      obtain ⟨da, dxs, rfl, hdt, hall⟩ := im_tup hd
      obtain ⟨v0, r0, rfl, i0, _⟩ := all_cons hall
      obtain rfl := im_str i0
      refine ⟨_, rfl, da, _, _, rfl, hdt, _, rfl, iteF ?_⟩
      refine ⟨_, rfl, _, _, _, _, rfl, rfl, hdt, atI_nat (j := 0) rfl, rfl, _, rfl, itd (p := V.str "call" = V.str "call") rfl ?_⟩
      exact ⟨_, rfl, _, rfl, _, rfl, f, xs, rfl, pgv, _, d, kd, rfl, C, hd, hok, fun H1 s1 => q H1 s1⟩
    · obtain ⟨z, ds, nds, ea, wa, ed, hz, hk, he, hw, hl2, hf⟩ := deed_row T hok (fun f xs e => hc ⟨f, xs, e⟩)
      rw [ed] at hd
      obtain ⟨da, dxs, rfl, hdt, hall⟩ := im_tup hd
      obtain ⟨v0, r0, rfl, i0, hal2⟩ := all_cons hall
      obtain rfl := im_str i0
      have hfit := hf H r0 hal2
      refine ⟨_, rfl, da, _, _, rfl, hdt, _, rfl, iteF ?_⟩
      refine ⟨_, rfl, _, _, _, _, rfl, rfl, hdt, atI_nat (j := 0) rfl, rfl, _, rfl, itn (p := V.str z = V.str "call") (fun e => hz (V.str.inj e)) ?_⟩
      obtain ⟨es, n, u, k1, k2, k3, k4⟩ := id hk
      refine ⟨_, rfl, _, _, _, _, rfl, rfl, hdt, atI_nat (j := 0) rfl, z, _, rfl, rfl, k3, _, rfl, iteF ?_⟩
      refine ⟨_, rfl, _, _, _, _, rfl, rfl, hdt, atI_nat (j := 0) rfl, _, z, _, rfl, rfl, hk, ea, _, rfl, he _, rfl, .ref wa, _, rfl, kd.v, _, rfl, rfl, ?_⟩
      refine ⟨_, rfl, 1, rfl, da, _, rfl, hdt, ?_, fun p hp => ?_⟩
      · rintro ⟨e1, _⟩
        rw [show HT.sIx (V.str z :: r0).length 0 (some 1) = min 1 (V.str z :: r0).length from HT.sIx_nat _ 0 1] at e1
        rw [List.length_cons] at e1
        omega
      · have ec : cutV (V.str z :: r0) (some 1) none = r0 := by
          unfold cutV
          rw [show HT.sIx (V.str z :: r0).length 0 (some 1) = min 1 (V.str z :: r0).length from HT.sIx_nat _ 0 1, HT.sIx_none, List.length_cons, Nat.min_eq_left (by omega)]
          show List.take (r0.length + 1 - 1) r0 = r0
          rw [Nat.add_sub_cancel]
          exact List.take_length
        rw [ec]
        have s1 : Same H (upd H p (.tup r0)) := same_upd hp
        refine ⟨_, rfl, _, rfl, p, wa, d, r0, nds, rfl, .inl (.inl upd_same), .inl (hw _), s1 _ _ C.nm, hfit, ?_, fun H1 s2 => ⟨true, rfl, iteT ⟨_, rfl, q _ (s1.trans s2)⟩⟩⟩
        have := Paired.length hfit
        omega
end
end Cs
namespace Cs
open PySem PySem.Spec L2
section
variable {P : Program} {w : World} {K : PySem.W.Frag} {mg : Str → Option Value} {base : Heap} {A : Adr}
theorem cut1 (z : V) (r : List V) : cutV (z :: r) (some 1) none = r := by
  unfold cutV
  rw [show HT.sIx (z :: r).length 0 (some 1) = min 1 (z :: r).length from HT.sIx_nat _ 0 1, HT.sIx_none, List.length_cons, Nat.min_eq_left (by omega)]
  show List.take (r.length + 1 - 1) r = r
  rw [Nat.add_sub_cancel]
  exact List.take_length
theorem cut1_not (z : V) (r : List V) : ¬ (HT.sIx (z :: r).length 0 (some 1) = 0 ∧ HT.sIx (z :: r).length (z :: r).length none = (z :: r).length) := by
  rintro ⟨e1, _⟩
  rw [show HT.sIx (z :: r).length 0 (some 1) = min 1 (z :: r).length from HT.sIx_nat _ 0 1, List.length_cons] at e1
  omega
theorem cutTo (n : Nat) (xs ys : List V) (h : xs.length = n) : cutV (xs ++ ys) none (some (n : Int)) = xs := by
  unfold cutV
  rw [HT.sIx_none, show HT.sIx (xs ++ ys).length (xs ++ ys).length (some (n : Int)) = min n (xs ++ ys).length from HT.sIx_nat _ _ n, List.length_append, h, Nat.min_eq_left (by omega)]
  show List.take (n - 0) (xs ++ ys) = xs
  rw [Nat.sub_zero, ← h]
  simp
theorem cutFrom (n : Nat) (xs ys : List V) (h : xs.length = n) : cutV (xs ++ ys) (some (n : Int)) none = ys := by
  unfold cutV
  rw [HT.sIx_none, show HT.sIx (xs ++ ys).length 0 (some (n : Int)) = min n (xs ++ ys).length from HT.sIx_nat _ _ n, List.length_append, h, Nat.min_eq_left (by omega)]
  rw [← h, List.drop_left, Nat.add_sub_cancel_left]
  exact List.take_length
theorem sIx4 (xs : List V) (d : Nat) (n : Nat) : HT.sIx xs.length d (some (n : Int)) = min n xs.length := HT.sIx_nat _ _ n
def spMeasure (K : PySem.W.Frag) (ns : Nm) (m : Ms) : Sp := fun vs H Q _ => ∃ (mv : V) (d : Addr), vs = [mv, .ref d] ∧ Im K H mv m.d ∧ H d = some (.dK (nmK ns)) ∧ m.ok ns ∧ Q (.bl true) H
theorem ok_is_measure (T : Tx K w mg A) (ns : Nm) (m : Ms) : FnOk P w K mg base CX0 2 A.f_is_measure A.fd_is_measure P_is_measure (spMeasure K ns m) := by
  have G_is_row := ok_is_row (P := P) (base := base) T
  have G_has_word := ok_has_word (P := P) (base := base) T
  have G_stands := ok_stands (P := P) (base := base) T ns
  refine T.F_is_measure.ok sc_is_measure (fun vs H Q E h => ?_) (fun cdv AA outer s H vs Q E hr h => ?_)
  · obtain ⟨mv, d, rfl, _⟩ := h
    rfl
  · obtain ⟨mv, d, rfl, hm, hd, hok, q⟩ := h
    refine ⟨_, (pss_cons (ps_if (pt_val (pe_call G_is_row (hr.mono (by decide)) (by rfl) T.g_is_row T.F_is_row.kp T.b_is_row .nil pass0 (pa_cons (pv 0) (pa_cons pe_int pa_nil))))
  (pss_one (ps_ret pe_bl))
  pss_nil)
  (pss_cons (ps_if (PW.pt (pw_or (pt_not (pt_val (pe_call G_is_row (hr.mono (by decide)) (by rfl) T.g_is_row T.F_is_row.kp T.b_is_row .nil pass0 (pa_cons (pv 0) (pa_cons pe_int pa_nil))))) (pw_or (pt_not (pt_val (pe_call G_has_word (hr.mono (by decide)) (by rfl) T.g_has_word T.F_has_word.kp T.b_has_word .nil pass0 (pa_cons (pv 0) pa_nil)))) (pw_or1 (pt_cmpR (op_notIn_kd T.d_MEASURES) (pe_ix ix_tup (pv 0) pe_int (fun _ _ => rfl)) (pe_glob (v := .ref A.a_MEASURES) rfl T.c_MEASURES rfl) (by rfl))))))
  (pss_one (ps_ret pe_bl))
  pss_nil)
  (pss_one (ps_ret (pe_call G_stands (hr.mono (by decide)) (by rfl) T.g_stands T.F_stands.kp T.b_stands .nil pass0 (pa_cons (pe_ix ix_tup (pv 0) pe_int (fun _ _ => rfl)) (pa_cons (pe_ix ix_kdict (pe_glob (v := .ref A.a_MEASURES) rfl T.c_MEASURES rfl) (pe_ix ix_tup (pv 0) pe_int (fun _ _ => rfl)) (fun _ _ => rfl)) (pa_cons (pv 1) pa_nil)))))))), ?_⟩
    cases m with
    | zero =>
      obtain ⟨a, xs, rfl, ha, hall⟩ := im_tup hm
      obtain rfl := all0 hall
      exact ⟨_, rfl, a, _, 0, rfl, ha, _, rfl, iteT q⟩
    | of x =>
      obtain ⟨a, xs, rfl, ha, hall⟩ := im_tup hm
      obtain ⟨v1, v2, rfl, i1, i2⟩ := im2 hall
      obtain rfl := im_str i1
      obtain rfl := im_str i2
      have hk := T.y_MEASURES_of
      obtain ⟨es, n, u, k1, k2, k3, k4⟩ := id hk
      refine ⟨_, rfl, a, _, 0, rfl, ha, _, rfl, iteF ?_⟩
      refine ⟨_, rfl, a, _, 2, rfl, ha, _, rfl, iteF ⟨_, rfl, a, _, _, rfl, ha, _, rfl, iteF ⟨_, rfl, _, _, _, _, rfl, rfl, ha, atI_nat (j := 0) rfl, _, _, rfl, rfl, k3, _, rfl, iteF ?_⟩⟩⟩
      exact ⟨_, rfl, _, _, _, _, rfl, rfl, ha, atI_nat (j := 1) rfl, _, rfl, _, _, _, _, rfl, rfl, ha, atI_nat (j := 0) rfl, _, _, _, rfl, rfl, hk, _, rfl, x, .num, d, rfl, hd, hok, q⟩
    | len x =>
      obtain ⟨a, xs, rfl, ha, hall⟩ := im_tup hm
      obtain ⟨v1, v2, rfl, i1, i2⟩ := im2 hall
      obtain rfl := im_str i1
      obtain rfl := im_str i2
      have hk := T.y_MEASURES_len
      obtain ⟨es, n, u, k1, k2, k3, k4⟩ := id hk
      refine ⟨_, rfl, a, _, 0, rfl, ha, _, rfl, iteF ?_⟩
      refine ⟨_, rfl, a, _, 2, rfl, ha, _, rfl, iteF ⟨_, rfl, a, _, _, rfl, ha, _, rfl, iteF ⟨_, rfl, _, _, _, _, rfl, rfl, ha, atI_nat (j := 0) rfl, _, _, rfl, rfl, k3, _, rfl, iteF ?_⟩⟩⟩
      exact ⟨_, rfl, _, _, _, _, rfl, rfl, ha, atI_nat (j := 1) rfl, _, rfl, _, _, _, _, rfl, rfl, ha, atI_nat (j := 0) rfl, _, _, _, rfl, rfl, hk, _, rfl, x, .lst, d, rfl, hd, hok, q⟩
def spCompared (K : PySem.W.Frag) (ns : Nm) (a b : Ms) : Sp := fun vs H Q _ => ∃ (ta d : Addr) (w0 v1 v2 : V) (n : Int) (more : List V), vs = [.ref ta, .ref d] ∧ SqT K H ta ([w0, v1, v2, .int n] ++ more) ∧ more ≠ [] ∧ Im K H v1 a.d ∧ Im K H v2 b.d ∧ near n ∧ H d = some (.dK (nmK ns)) ∧ a.ok ns ∧ b.ok ns ∧
  ∀ H1, Same H H1 → Q (.bl true) H1
theorem ok_is_compared (T : Tx K w mg A) (ns : Nm) (a b : Ms) : FnOk P w K mg base CX0 4 A.f_is_compared A.fd_is_compared P_is_compared (spCompared K ns a b) := by
  have G_is_measure : FnOk P w K mg base CX0 2 A.f_is_measure A.fd_is_measure P_is_measure (fun vs H Q E => ∃ m, spMeasure K ns m vs H Q E) :=
    ⟨fun vs H Q E ⟨m, h⟩ => (ok_is_measure (P := P) (base := base) T ns m).len vs H Q E h, fun AA outer s H args us vs Q E hr he hb hv ⟨m, h⟩ => (ok_is_measure (P := P) (base := base) T ns m).run AA outer s H args us vs Q E hr he hb hv h⟩
  have G_is_near := ok_is_near (P := P) (base := base) T
  refine T.F_is_compared.ok sc_is_compared (fun vs H Q E h => ?_) (fun cdv AA outer s H vs Q E hr h => ?_)
  · obtain ⟨ta, d, w0, v1, v2, n, more, rfl, _⟩ := h
    rfl
  · obtain ⟨ta, d, w0, v1, v2, n, more, rfl, ha, hmore, i1, i2, hn, hd, o1, o2, q⟩ := h
    refine ⟨_, (pss_cons (ps_asg (pe_slice sl_tup (pv 0) po_none (po_some pe_int)) (pg_tup (by rfl) (pgs_cons (pg_name (i := 2) sc_is_compared.nd rfl (.inl rfl)) (pgs_cons (pg_name (i := 3) sc_is_compared.nd rfl (.inl rfl)) (pgs_cons (pg_name (i := 4) sc_is_compared.nd rfl (.inl rfl)) (pgs_cons (pg_name (i := 5) sc_is_compared.nd rfl (.inl rfl)) pgs_nil))))))
  (pss_one (ps_ret (pe_and (pe_call G_is_measure (hr.mono (by decide)) (by rfl) T.g_is_measure T.F_is_measure.kp T.b_is_measure .nil pass0 (pa_cons (pv 3) (pa_cons (pv 1) pa_nil))) (pe_and (pe_call G_is_measure (hr.mono (by decide)) (by rfl) T.g_is_measure T.F_is_measure.kp T.b_is_measure .nil pass0 (pa_cons (pv 4) (pa_cons (pv 1) pa_nil))) (pe_one (pe_call G_is_near (hr.mono (by decide)) (by rfl) T.g_is_near T.F_is_near.kp T.b_is_near .nil pass0 (pa_cons (pv 5) pa_nil)))))))), ?_⟩
    refine ⟨_, rfl, 4, rfl, ta, _, rfl, ha, ?_, fun p hp => ?_⟩
    · rintro ⟨_, e2⟩
      have e3 : HT.sIx ([w0, v1, v2, V.int n] ++ more).length ([w0, v1, v2, V.int n] ++ more).length (some 4) = min 4 ([w0, v1, v2, V.int n] ++ more).length := HT.sIx_nat _ _ 4
      rw [e3] at e2
      cases more with
      | nil => exact hmore rfl
      | cons x r =>
        rw [List.length_append, List.length_cons] at e2
        simp only [List.length_cons, List.length_nil] at e2
        omega
    · have ec : cutV ([w0, v1, v2, .int n] ++ more) none (some 4) = [w0, v1, v2, .int n] := cutTo 4 _ _ rfl
      have s1 : Same H (upd H p (.tup (cutV ([w0, v1, v2, .int n] ++ more) none (some 4)))) := same_upd hp
      rw [ec] at s1 ⊢
      refine ⟨p, _, rfl, .inl (.inl upd_same), rfl, _, _, rfl, _, _, rfl, _, _, rfl, _, _, rfl, rfl, ?_⟩
      exact ⟨_, rfl, _, rfl, a, v1, d, rfl, i1.same (sameI_of s1), s1 _ _ hd, o1, true, rfl, iteT ⟨_, rfl, _, rfl, b, v2, d, rfl, i2.same (sameI_of s1), s1 _ _ hd, o2, true, rfl, iteT ⟨_, rfl, n, rfl, hn, q _ s1⟩⟩⟩
end
end Cs
namespace Cs
open PySem PySem.Spec L2
section
variable {P : Program} {w : World} {K : PySem.W.Frag} {mg : Str → Option Value} {base : Heap} {A : Adr}
/-- a tree within, with the names that stand there -/
def KidAt (K : PySem.W.Frag) (H : Hp) (v : V) (q : Tr × Nm) : Prop := ∃ a tv d, v = .ref a ∧ SqT K H a [tv, .ref d] ∧ Im K H tv q.1.d ∧ H d = some (.dK (nmK q.2))
theorem KidAt.same {H H1 : Hp} (s : Same H H1) {v : V} {q : Tr × Nm} : KidAt K H v q → KidAt K H1 v q
  | ⟨a, tv, d, e, h1, h2, h3⟩ => ⟨a, tv, d, e, Same.tup s h1, h2.same (sameI_of s), s _ _ h3⟩
/-- what stands just within a tree -/
def Kids (hs : Hd) (kd : Kd) (ns : Nm) (t : Tr) (ks : List (Tr × Nm)) : Prop :=
  (∀ q ∈ ks, Tr.ok hs kd q.2 q.1 ∧ q.1.deep + 1 ≤ t.deep ∧ q.2.length ≤ ns.length + 1) ∧ (ks.map fun q => q.1.size).sum + 1 = t.size ∧ ks.length ≤ 2
def spWithin (K : PySem.W.Frag) (fs : List Fn) (ns : Nm) (kd : Kd) (t : Tr) : Hp → (V → Hp → Prop) → Prop := fun H Q =>
  ∀ H1 l acc ks, Same H H1 → H l = none → H1 l = some (.lst acc) → Paired (KidAt K H1) acc ks → Kids (fs.map Fn.hd) kd ns t ks → Q (.ref l) H1
def spLet (K : PySem.W.Frag) (fs : List Fn) (ns : Nm) (kd : Kd) (x : Str) (dd : Dd) (t : Tr) : Sp := fun vs H Q _ => ∃ (pgv tv : V) (d : Addr), vs = [pgv, tv, .ref d] ∧ Ctx K H pgv fs d ns ∧ Im K H tv (Tr.let_ x dd t).d ∧ Tr.ok (fs.map Fn.hd) kd ns (.let_ x dd t) ∧ ns.length ≤ 100 ∧
  spWithin K fs ns kd (.let_ x dd t) H Q
theorem ok_within_let (T : Tx K w mg A) (fs : List Fn) (ns : Nm) (kd : Kd) (x : Str) (dd : Dd) (t : Tr) : FnOk P w K mg base CX0 7 A.f_within_let A.fd_within_let P_within_let (spLet K fs ns kd x dd t) := by
  have G_is_name := ok_is_name (P := P) (base := base) T
  have G_deed_kind := ok_deed_kind (P := P) (base := base) T fs ns dd
  refine T.F_within_let.ok sc_within_let (fun vs H Q E h => ?_) (fun cdv AA outer s H vs Q E hr h => ?_)
  · obtain ⟨pgv, tv, d, rfl, _⟩ := h
    rfl
  · obtain ⟨pgv, tv, d, rfl, C, ht, ⟨hx, hlk, k, hdd, hin⟩, hns, q⟩ := h
    obtain ⟨ta, xs, rfl, hta, hall⟩ := im_tup ht
    obtain ⟨v0, r0, rfl, i0, hall⟩ := all_cons hall
    obtain ⟨v1, r1, rfl, i1, hall⟩ := all_cons hall
    obtain ⟨v2, r2, rfl, i2, hall⟩ := all_cons hall
    obtain ⟨v3, r3, rfl, i3, hall⟩ := all_cons hall
    obtain rfl := all0 hall
    obtain rfl := im_str i0
    obtain rfl := im_str i1
    refine ⟨_, (pss_cons (ps_asg (pe_slice sl_tup (pv 1) (po_some pe_int) po_none) (pg_tup (by rfl) (pgs_cons (pg_name (i := 3) sc_within_let.nd rfl (.inl rfl)) (pgs_cons (pg_name (i := 4) sc_within_let.nd rfl (.inl rfl)) (pgs_cons (pg_name (i := 5) sc_within_let.nd rfl (.inl rfl)) pgs_nil)))))
  (pss_cons (ps_if (PW.pt (pw_or (pt_not (pt_val (pe_call G_is_name (hr.mono (by decide)) (by rfl) T.g_is_name T.F_is_name.kp T.b_is_name .nil pass0 (pa_cons (pv 3) pa_nil)))) (pw_or1 (pt_cmp (pc_din (hu_of hr) (pv 3) (pv 2))))))
  (pss_one (ps_ret pe_non))
  pss_nil)
  (pss_cons (ps_set (i := 6) sc_within_let.nd rfl (.inl rfl) (pe_call G_deed_kind (hr.mono (by decide)) (by rfl) T.g_deed_kind T.F_deed_kind.kp T.b_deed_kind .nil pass0 (pa_cons (pv 0) (pa_cons (pv 4) (pa_cons (pv 2) pa_nil)))))
  (pss_cons (ps_if (pt_cmpR op_isN (pv 6) pe_non (nomark _))
  (pss_one (ps_ret pe_non))
  pss_nil)
  (pss_one (ps_ret (pe_lst (pa_cons (pe_tup (pa_cons (pv 5) (pa_cons (pe_splat (pv 2) (pv 3) (pv 6)) pa_nil))) pa_nil)))))))), ?_⟩
    refine ⟨_, rfl, 1, rfl, ta, _, rfl, hta, cut1_not _ _, fun p hp => ?_⟩
    have s1 : Same H (upd H p (.tup (cutV [.str "let", .str x, v2, v3] (some 1) none))) := same_upd hp
    rw [show cutV [.str "let", .str x, v2, v3] (some 1) none = [.str x, v2, v3] from cut1 _ _] at s1 ⊢
    refine ⟨p, _, rfl, .inl (.inl upd_same), rfl, _, _, rfl, _, _, rfl, _, _, rfl, rfl, ?_⟩
    refine ⟨_, rfl, x, rfl, hx, fun H2 s2 => ⟨true, rfl, iteF ?_⟩⟩
    have C2 := C.same (s1.trans s2)
    refine ⟨_, rfl, _, rfl, d, _, rfl, DGet.k (k := .inr x) C2.nm, _, rfl, ?_⟩
    rw [nmK_val, hlk]
    refine iteF ?_
    refine ⟨pgv, rfl, v2, rfl, _, rfl, pgv, v2, d, k, rfl, C2, i2.same (sameI_of (s1.trans s2)), hdd, fun H3 s3 => ?_⟩
    have C3 := C2.same s3
    refine ⟨_, rfl, rfl, _, rfl, ?_⟩
    refine itn (p := k.v = V.non) (fun z => nomatch z) ?_
    -- the answer
    refine ⟨v3, rfl, fun e he => ⟨_, rfl, d, nmK ns, rfl, ne_of_none C3.nm he, .inl ?_, upd_same, ?_, fun q2 hq2 => ⟨_, rfl, _, rfl, .inr x, k.v, rfl, upd_same, ?_, ?_, ?_⟩⟩⟩
    · rw [upd_ne (ne_of_none C3.nm he)]
      exact C3.nm
    · rw [List.length_map]
      omega
    · rw [upd_ne fun z => ?_, upd_same]
      rw [← z, upd_same] at hq2
      cases hq2
    · intro z
      rw [← z, upd_same] at hq2
      cases hq2
    · have neq : q2 ≠ e := fun z => by
        rw [z, upd_same] at hq2
        cases hq2
      rw [upd_ne neq, upd_ne neq] at hq2
      rw [nmK_put hlk]
      have s4 : Same H3 (upd (upd (upd (upd (upd H3 e (.dK [])) e (.dK (nmK ns))) q2 (.dK [])) q2 (.dK [(.inr x, k.v)])) e (.dK (nmK (ns ++ [(x, k)])))) := fun b o eb => by
        have h1 := ne_of_none eb he
        have h2 := ne_of_none eb hq2
        rw [upd_ne h1, upd_ne h2, upd_ne h2, upd_ne h1, upd_ne h1]
        exact eb
      generalize hH4 : upd (upd (upd (upd (upd H3 e (.dK [])) e (.dK (nmK ns))) q2 (.dK [])) q2 (.dK [(.inr x, k.v)])) e (.dK (nmK (ns ++ [(x, k)]))) = H4 at s4 ⊢
      have e4 : H4 e = some (.dK (nmK (ns ++ [(x, k)]))) := by rw [← hH4]; exact upd_same
      refine ⟨by show 2 ≤ sizeLine; decide, fun t1 ht1 => ⟨by show 1 ≤ sizeLine; decide, fun l hl => ?_⟩⟩
      have s5 : Same H4 (upd H4 t1 (.tup [v3, .ref e])) := same_upd ht1
      have s6 : Same (upd H4 t1 (.tup [v3, .ref e])) (upd (upd H4 t1 (.tup [v3, .ref e])) l (.lst [.ref t1])) := same_upd hl
      have sA := s1.trans (s2.trans (s3.trans (s4.trans (s5.trans s6))))
      refine q _ l [.ref t1] [(t, ns ++ [(x, k)])] sA ?_ upd_same (.cons ⟨t1, v3, e, rfl, .inl (.inl (s6 _ _ upd_same)), i3.same (sameI_of sA), s6 _ _ (s5 _ _ e4)⟩ .nil) ⟨?_, ?_, Nat.le_succ 1⟩
      · exact (s1.trans (s2.trans (s3.trans (s4.trans s5)))).free hl
      · intro q hq
        rw [List.mem_singleton.mp hq]
        exact ⟨hin, Nat.le_refl _, by rw [List.length_append]; exact Nat.le_refl _⟩
      · show t.size + 0 + 1 = t.size + 1
        omega
def spTrees (K : PySem.W.Frag) (fs : List Fn) (ns : Nm) (kd : Kd) (t : Tr) : Sp := fun vs H Q _ => ∃ (pgv tv : V) (d : Addr), vs = [pgv, kd.v, tv, .ref d] ∧ Ctx K H pgv fs d ns ∧ Im K H tv t.d ∧ Tr.ok (fs.map Fn.hd) kd ns t ∧ ns.length ≤ 100 ∧ spWithin K fs ns kd t H Q
theorem kids_at {H : Hp} {d : Addr} {ns : Nm} (hd : H d = some (.dK (nmK ns))) : ∀ {acc ivs : List V} {ts : List Tr}, ImAll K H ivs (ts.map Tr.d) → acc.length = ivs.length → (∀ (i : Nat) y, acc[i]? = some y → ∃ T iv, y = .ref T ∧ ivs[i]? = some iv ∧ SqT K H T [iv, .ref d]) →
    Paired (KidAt K H) acc (ts.map fun t => (t, ns))
  | [], [], [], _, _, _ => .nil
  | [], _ :: _, _, _, e, _ => nomatch e
  | _ :: _, [], _, _, e, _ => nomatch e
  | _, [], t :: ts, h, _, _ => by cases h
  | _, iv :: ivs, [], h, _, _ => by cases h
  | y :: acc, iv :: ivs, t :: ts, h, e, hy => by
    cases h with
    | cons h1 h2 =>
      obtain ⟨T, iv', rfl, e1, e2⟩ := hy 0 y rfl
      cases e1
      exact .cons ⟨T, iv, d, rfl, e2, h1, hd⟩ (kids_at hd h2 (Nat.succ.inj e) fun i y ey => hy (i + 1) y ey)
theorem ok_trees_within (T : Tx K w mg A) (fs : List Fn) (ns : Nm) (kd : Kd) (t : Tr) : FnOk P w K mg base CX0 8 A.f_trees_within A.fd_trees_within P_trees_within (spTrees K fs ns kd t) := by
  have G_has_word := ok_has_word (P := P) (base := base) T
  have G_stands := ok_stands (P := P) (base := base) T ns
  have G_within_let : FnOk P w K mg base CX0 7 A.f_within_let A.fd_within_let P_within_let (fun vs H Q E => ∃ x dd t, spLet K fs ns kd x dd t vs H Q E) :=
    ⟨fun vs H Q E ⟨x, dd, t, h⟩ => (ok_within_let (P := P) (base := base) T fs ns kd x dd t).len vs H Q E h, fun AA outer s H args us vs Q E hr he hb hv ⟨x, dd, t, h⟩ => (ok_within_let (P := P) (base := base) T fs ns kd x dd t).run AA outer s H args us vs Q E hr he hb hv h⟩
  have G_is_compared : FnOk P w K mg base CX0 4 A.f_is_compared A.fd_is_compared P_is_compared (fun vs H Q E => ∃ a b, spCompared K ns a b vs H Q E) :=
    ⟨fun vs H Q E ⟨a, b, h⟩ => (ok_is_compared (P := P) (base := base) T ns a b).len vs H Q E h, fun AA outer s H args us vs Q E hr he hb hv ⟨a, b, h⟩ => (ok_is_compared (P := P) (base := base) T ns a b).run AA outer s H args us vs Q E hr he hb hv h⟩
  refine T.F_trees_within.ok sc_trees_within (fun vs H Q E h => ?_) (fun cdv AA outer s H vs Q E hr h => ?_)
  · obtain ⟨pgv, tv, d, rfl, _⟩ := h
    rfl
  · obtain ⟨pgv, tv, d, rfl, C, ht, hok, hns, q⟩ := h
    refine ⟨_, (pss_cons (ps_if (PW.pt (pw_or (pt_not (pt_val (pe_call G_has_word (hr.mono (by decide)) (by rfl) T.g_has_word T.F_has_word.kp T.b_has_word .nil pass0 (pa_cons (pv 2) pa_nil)))) (pw_or1 (pt_cmpR op_ne (pe_callB call_len (by rfl) T.n_len (by decide +kernel) (pa_cons (pv 2) pa_nil)) (pe_kget T.d_TREES (pe_glob (v := .ref A.a_TREES) rfl T.c_TREES rfl) (pe_ix ix_tup (pv 2) pe_int (fun _ _ => rfl)) ⟨rfl, rfl, rfl, rfl⟩) (nomark _)))))
  (pss_one (ps_ret pe_non))
  pss_nil)
  (pss_cons (ps_if (pt_cmpR op_eq (pe_ix ix_tup (pv 2) pe_int (fun _ _ => rfl)) pe_str (nomark _))
  (pss_one (ps_ret (pe_ifExp (pt_val (pe_call G_stands (hr.mono (by decide)) (by rfl) T.g_stands T.F_stands.kp T.b_stands .nil pass0 (pa_cons (pe_ix ix_tup (pv 2) pe_int (fun _ _ => rfl)) (pa_cons (pv 1) (pa_cons (pv 3) pa_nil))))) (pe_lst pa_nil) pe_non)))
  pss_nil)
  (pss_cons (ps_if (pt_cmpR op_eq (pe_ix ix_tup (pv 2) pe_int (fun _ _ => rfl)) pe_str (nomark _))
  (pss_one (ps_ret (pe_call G_within_let (hr.mono (by decide)) (by rfl) T.g_within_let T.F_within_let.kp T.b_within_let .nil pass0 (pa_cons (pv 0) (pa_cons (pv 2) (pa_cons (pv 3) pa_nil))))))
  pss_nil)
  (pss_cons (ps_if (pt_not (pt_val (pe_call G_is_compared (hr.mono (by decide)) (by rfl) T.g_is_compared T.F_is_compared.kp T.b_is_compared .nil pass0 (pa_cons (pv 2) (pa_cons (pv 3) pa_nil)))))
  (pss_one (ps_ret pe_non))
  pss_nil)
  (pss_one (ps_ret (pe_lc (own := [("inner", 4)]) (g := (gName 4)) (tt := tYes) (te := _) rfl sc_trees_within.nd (pi_tup (pe_slice sl_tup (pv 2) (po_some pe_int) po_none)) (blkOk_by (N := N_trees_within) (sc := defScope s_trees_within) (by decide +kernel)) (fun _ _ _ _ _ => (pg_name (i := 4) sc_trees_within.nd rfl (.inl rfl))) (fun _ _ _ _ _ => pts_nil) (fun _ _ _ _ _ => (pe_tup (pa_cons (pv 4) (pa_cons (pv 3) pa_nil))))))))))), ?_⟩
    -- the trees behind an if or a claim
    have last : ∀ (z : Str) (a b : Ms) (v1 v2 : V) (n : Int) (ta : Addr) (more : List V) (ts : List Tr), SqT K H ta ([.str z, v1, v2, .int n] ++ more) → more ≠ [] → ImAll K H more (ts.map Tr.d) → Im K H v1 a.d → Im K H v2 b.d → near n → a.ok ns → b.ok ns → more.length ≤ 2 →
        Kids (fs.map Fn.hd) kd ns t (ts.map fun t => (t, ns)) →
        tIfS (tNot (tB (tCall (fun vs H Q E => ∃ a b, spCompared K ns a b vs H Q E) [] (fun _ _ _ => False) (tCons (tVar 2) (tCons (tVar 3) tNil))))) (tRet (tC .non)) tNext
          { nx := tRet (tLc (iTup K (tSl (rSlT K) (tVar 2) (tPart (tC (.int 4))) tNoPart)) (gName 4) tYes (tTup (tCons (tVar 4) (tCons (tVar 3) tNil))) [4]) { nx := fun _ H1 => Q .non H1, rt := Q }, rt := Q } (L2.start N_trees_within [pgv, kd.v, .ref ta, .ref d]) H := by
      intro z a b v1 v2 n ta more ts hta hm hma i1 i2 hn o1 o2 hml hk
      refine ⟨_, rfl, _, rfl, a, b, ta, d, _, v1, v2, n, more, rfl, hta, hm, i1, i2, hn, C.nm, o1, o2, fun H1 s1 => ⟨true, rfl, iteF ?_⟩⟩
      refine ⟨_, rfl, 4, rfl, ta, _, rfl, Same.tup s1 hta, ?_, fun p hp => ?_⟩
      · rintro ⟨e1, _⟩
        have e3 : HT.sIx ([.str z, v1, v2, V.int n] ++ more).length 0 (some 4) = min 4 ([.str z, v1, v2, V.int n] ++ more).length := HT.sIx_nat _ _ 4
        rw [e3, List.length_append] at e1
        simp only [List.length_cons, List.length_nil] at e1
        omega
      · have ec : cutV ([.str z, v1, v2, .int n] ++ more) (some 4) none = more := cutFrom 4 _ _ rfl
        have s2 : Same H1 (upd H1 p (.tup (cutV ([.str z, v1, v2, .int n] ++ more) (some 4) none))) := same_upd hp
        rw [ec] at s2 ⊢
        refine ⟨p, rfl, ⟨more, .inl (.inl upd_same)⟩, fun D hD => ?_⟩
        have sq : SqT K (upd H1 p (.tup more)) p more := .inl (.inl upd_same)
        refine lc_data (walk_tup (K := K) (a := p) (xs := more)) (fun i y H => ∃ T iv, y = .ref T ∧ more[i]? = some iv ∧ SqT K H T [iv, .ref d]) (fun i v H H2 si ⟨T, iv, e, e1, e2⟩ => ⟨T, iv, e, e1, si.tup e2⟩) hD (fun H3 s3 => Same.tup s3 sq) (by omega) ?_ ?_
        · rintro i x H3 H4 k hi s3 ⟨rfl, hx⟩ hk2
          exact ⟨rfl, _, rfl, _, rfl, by show 2 ≤ sizeLine; decide, fun T hT => hk2 _ _ (same_upd hT) ⟨T, x, rfl, hx, .inl (.inl upd_same)⟩⟩
        · rintro H3 acc s3 e3 hl hE
          have sA := (s1.trans s2).trans s3
          exact q H3 D acc _ sA ((s1.trans s2).free hD) e3 (kids_at (sA _ _ C.nm) (hma.same (sameI_of sA)) hl hE) hk
    cases t with
    | tell x =>
      obtain ⟨ta, xs, rfl, hta, hall⟩ := im_tup ht
      obtain ⟨v0, v1, rfl, i0, i1⟩ := im2 hall
      obtain rfl := im_str i0
      obtain rfl := im_str i1
      obtain ⟨es, n, u, k1, k2, k3, k4⟩ := T.y_TREES_tell
      refine ⟨_, rfl, ta, _, _, rfl, hta, true, rfl, iteF ⟨_, rfl, _, 2, rfl, .inr ⟨_, hta, rfl⟩, rfl, _, rfl, _, _, _, _, rfl, rfl, hta, atI_nat (j := 0) rfl, _, _, _, rfl, k3, k4, rfl, _, rfl, itnd rfl ?_⟩⟩
      refine ⟨_, rfl, _, _, _, _, rfl, rfl, hta, atI_nat (j := 0) rfl, rfl, _, rfl, itd (p := V.str "tell" = V.str "tell") rfl ?_⟩
      refine ⟨_, rfl, _, _, _, _, rfl, rfl, hta, atI_nat (j := 1) rfl, _, rfl, _, rfl, x, kd, d, rfl, C.nm, hok, true, rfl, iteT ⟨Nat.zero_le _, fun l hl => ?_⟩⟩
      exact q _ l [] [] (same_upd hl) hl upd_same .nil ⟨fun q hq => (by cases hq), rfl, Nat.zero_le _⟩
    | let_ x dd t =>
      obtain ⟨ta, xs, rfl, hta, hall⟩ := im_tup ht
      obtain ⟨v0, r0, rfl, i0, hal2⟩ := all_cons hall
      obtain rfl := im_str i0
      have hl0 : r0.length = 3 := ImAll.length hal2
      obtain ⟨es, n, u, k1, k2, k3, k4⟩ := T.y_TREES_let
      refine ⟨_, rfl, ta, _, _, rfl, hta, true, rfl, iteF ⟨_, rfl, _, 4, rfl, .inr ⟨_, hta, by rw [List.length_cons, hl0]⟩, rfl, _, rfl, _, _, _, _, rfl, rfl, hta, atI_nat (j := 0) rfl, _, _, _, rfl, k3, k4, rfl, _, rfl, itnd rfl ?_⟩⟩
      refine ⟨_, rfl, _, _, _, _, rfl, rfl, hta, atI_nat (j := 0) rfl, rfl, _, rfl, itn (p := V.str "let" = V.str "tell") (by decide +kernel) ?_⟩
      refine ⟨_, rfl, _, _, _, _, rfl, rfl, hta, atI_nat (j := 0) rfl, rfl, _, rfl, itd (p := V.str "let" = V.str "let") rfl ?_⟩
      exact ⟨_, rfl, _, rfl, _, rfl, x, dd, t, pgv, _, d, rfl, C, ht, hok, hns, q⟩
    | claim a b n t =>
      obtain ⟨ta, xs, rfl, hta, hall⟩ := im_tup ht
      obtain ⟨v0, r0, rfl, i0, hall⟩ := all_cons hall
      obtain ⟨v1, r1, rfl, i1, hall⟩ := all_cons hall
      obtain ⟨v2, r2, rfl, i2, hall⟩ := all_cons hall
      obtain ⟨v3, r3, rfl, i3, hall⟩ := all_cons hall
      obtain ⟨v4, rfl, i4⟩ := im1 hall
      obtain rfl := im_str i0
      obtain rfl := im_int i3
      obtain ⟨o1, o2, hn, hin⟩ := hok
      obtain ⟨es, n1, u, k1, k2, k3, k4⟩ := T.y_TREES_claim
      refine ⟨_, rfl, ta, _, _, rfl, hta, true, rfl, iteF ⟨_, rfl, _, 5, rfl, .inr ⟨_, hta, rfl⟩, rfl, _, rfl, _, _, _, _, rfl, rfl, hta, atI_nat (j := 0) rfl, _, _, _, rfl, k3, k4, rfl, _, rfl, itnd rfl ?_⟩⟩
      refine ⟨_, rfl, _, _, _, _, rfl, rfl, hta, atI_nat (j := 0) rfl, rfl, _, rfl, itn (p := V.str "claim" = V.str "tell") (by decide +kernel) ?_⟩
      refine ⟨_, rfl, _, _, _, _, rfl, rfl, hta, atI_nat (j := 0) rfl, rfl, _, rfl, itn (p := V.str "claim" = V.str "let") (by decide +kernel) ?_⟩
      exact last "claim" a b v1 v2 n ta [v4] [t] hta (fun z => nomatch z) (.cons i4 .nil) i1 i2 hn o1 o2 (Nat.le_succ 1) ⟨fun q hq => (by rw [List.mem_singleton.mp hq]; exact ⟨hin, Nat.le_refl _, Nat.le_succ _⟩), (by show t.size + 0 + 1 = t.size + 1; omega), Nat.le_succ 1⟩
    | if_ a b n t u =>
      obtain ⟨ta, xs, rfl, hta, hall⟩ := im_tup ht
      obtain ⟨v0, r0, rfl, i0, hall⟩ := all_cons hall
      obtain ⟨v1, r1, rfl, i1, hall⟩ := all_cons hall
      obtain ⟨v2, r2, rfl, i2, hall⟩ := all_cons hall
      obtain ⟨v3, r3, rfl, i3, hall⟩ := all_cons hall
      obtain ⟨v4, v5, rfl, i4, i5⟩ := im2 hall
      obtain rfl := im_str i0
      obtain rfl := im_int i3
      obtain ⟨o1, o2, hn, h4, h5⟩ := hok
      obtain ⟨es, n1, w1, k1, k2, k3, k4⟩ := T.y_TREES_if
      refine ⟨_, rfl, ta, _, _, rfl, hta, true, rfl, iteF ⟨_, rfl, _, 6, rfl, .inr ⟨_, hta, rfl⟩, rfl, _, rfl, _, _, _, _, rfl, rfl, hta, atI_nat (j := 0) rfl, _, _, _, rfl, k3, k4, rfl, _, rfl, itnd rfl ?_⟩⟩
      refine ⟨_, rfl, _, _, _, _, rfl, rfl, hta, atI_nat (j := 0) rfl, rfl, _, rfl, itn (p := V.str "if" = V.str "tell") (by decide +kernel) ?_⟩
      refine ⟨_, rfl, _, _, _, _, rfl, rfl, hta, atI_nat (j := 0) rfl, rfl, _, rfl, itn (p := V.str "if" = V.str "let") (by decide +kernel) ?_⟩
      refine last "if" a b v1 v2 n ta [v4, v5] [t, u] hta (fun z => nomatch z) (.cons i4 (.cons i5 .nil)) i1 i2 hn o1 o2 (Nat.le_refl 2) ⟨fun q hq => ?_, (by show t.size + (u.size + 0) + 1 = t.size + u.size + 1; omega), Nat.le_refl 2⟩
      rcases List.mem_cons.mp hq with z | z
      · rw [z]
        exact ⟨h4, Nat.succ_le_succ (Nat.le_max_left _ _), Nat.le_succ _⟩
      · rw [List.mem_singleton.mp z]
        exact ⟨h5, Nat.succ_le_succ (Nat.le_max_right _ _), Nat.le_succ _⟩
end
end Cs
namespace Cs
open PySem PySem.Spec L2
/-- a tree that waits: its depth, the names there -/
def StAt (K : PySem.W.Frag) (H : Hp) (v : V) (q : Tr × Nat × Nm) : Prop := ∃ a tv d, v = .ref a ∧ SqT K H a [tv, .int (q.2.1 : Nat), .ref d] ∧ Im K H tv q.1.d ∧ H d = some (.dK (nmK q.2.2))
theorem StAt.step {K : PySem.W.Frag} {l : Addr} {H H1 : Hp} {xs : List V} (s : SameX l H H1) (h : H l = some (.lst xs)) {v : V} {q : Tr × Nat × Nm} : StAt K H v q → StAt K H1 v q
  | ⟨a, tv, d, e, h1, h2, h3⟩ => ⟨a, tv, d, e, (s.i h id).tup h1, h2.same (s.i h id), s _ _ (ne_of h3 h (by intro z; cases z)) h3⟩
theorem StAt.all {K : PySem.W.Frag} {l : Addr} {H H1 : Hp} {xs : List V} (s : SameX l H H1) (h : H l = some (.lst xs)) {vs : List V} {qs : List (Tr × Nat × Nm)} (p : Paired (StAt K H) vs qs) : Paired (StAt K H1) vs qs := Paired.mapP p fun _ _ z => z.step s h
abbrev weight (st : List (Tr × Nat × Nm)) : Nat := (st.map fun q => q.1.size).sum
theorem weight_append (a b : List (Tr × Nat × Nm)) : weight (a ++ b) = weight a + weight b := by
  unfold weight
  rw [List.map_append, List.sum_append_nat]
theorem size_pos (t : Tr) : 1 ≤ t.size := by cases t <;> simp [Tr.size]
theorem len_weight : ∀ st : List (Tr × Nat × Nm), st.length ≤ weight st
  | [] => Nat.le_refl _
  | q :: r => by
    have h := len_weight r
    have := size_pos q.1
    show r.length + 1 ≤ q.1.size + weight r
    omega
theorem deep_pos (t : Tr) : 1 ≤ t.deep := by cases t <;> simp [Tr.deep]
section
variable {P : Program} {w : World} {K : PySem.W.Frag} {mg : Str → Option Value} {base : Heap} {A : Adr}
def spChTrees (K : PySem.W.Frag) (fs : List Fn) (i : Nat) (fn : Fn) : Sp := fun vs H Q _ => ∃ (pgv : V), vs = [pgv, .int (i : Nat)] ∧ PgAt K H pgv fs ∧ okPg fs ∧ fs[i]? = some fn ∧ ∀ H1, Same H H1 → Q .non H1
theorem mergeK_nodup : ∀ (kvs acc : List (Key × V)), (acc ++ kvs).map (·.1) |>.Nodup → mergeK acc kvs = acc ++ kvs
  | [], acc, _ => (List.append_nil acc).symm
  | (k, v) :: r, acc, h => by
    show mergeK (putK acc k v) r = _
    have hn : valV acc k = none := by
      cases e : valV acc k with
      | none => rfl
      | some u =>
        have z := valV_any k acc
        rw [e] at z
        obtain ⟨x, hx, ex⟩ := List.any_eq_true.mp z
        rw [List.map_append, List.map_cons, List.nodup_append] at h
        exact absurd (of_decide_eq_true ex) (h.2.2 x.1 (List.mem_map.mpr ⟨x, hx, rfl⟩) k (List.mem_cons_self ..))
    rw [putK_new hn, mergeK_nodup r (acc ++ [(k, v)]) (by rw [List.append_assoc]; exact h), List.append_assoc]
    rfl
theorem nmK_merge {ns : Nm} (h : (ns.map (·.1)).Nodup) : mergeK [] (nmK ns) = nmK ns := by
  have z := mergeK_nodup (nmK ns) [] (by
    show ((nmK ns).map (·.1)).Nodup
    unfold nmK
    rw [List.map_map]
    show (ns.map fun p => (Sum.inr p.1 : Key)).Nodup
    have e : (ns.map fun p => (Sum.inr p.1 : Key)) = (ns.map (·.1)).map Sum.inr := by rw [List.map_map]; rfl
    rw [e]
    exact List.pairwise_map.mpr (h.imp fun n z => n (Sum.inr.inj z)))
  exact z
theorem pairs_pr {H : Hp} : ∀ {qs : List Addr} {ps : Nm}, Paired (PrAt K H) qs ps → Paired (fun p (kv : Key × V) => SqT K H p [kV kv.1, kv.2]) qs (nmK ps)
  | _, _, .nil => .nil
  | _, _, .cons h t => .cons h (pairs_pr t)
theorem ok_check_trees (T : Tx K w mg A) (fs : List Fn) (i : Nat) (fn : Fn) : FnOk P w K mg base CX0 9 A.f_check_trees A.fd_check_trees P_check_trees (spChTrees K fs i fn) := by
  have G_trees_within : FnOk P w K mg base CX0 8 A.f_trees_within A.fd_trees_within P_trees_within (fun vs H Q E => ∃ ns t, spTrees K fs ns fn.kd t vs H Q E) :=
    ⟨fun vs H Q E ⟨ns, t, h⟩ => (ok_trees_within (P := P) (base := base) T fs ns fn.kd t).len vs H Q E h, fun AA outer s H args us vs Q E hr he hb hv ⟨ns, t, h⟩ => (ok_trees_within (P := P) (base := base) T fs ns fn.kd t).run AA outer s H args us vs Q E hr he hb hv h⟩
  refine T.F_check_trees.ok sc_check_trees (fun vs H Q E h => ?_) (fun cdv AA outer s H vs Q E hr h => ?_)
  · obtain ⟨pgv, rfl, _⟩ := h
    rfl
  · obtain ⟨pgv, rfl, hpg, hok, hfn, q⟩ := h
    obtain ⟨pa, pvs, rfl, hpt, hpall⟩ := id hpg
    obtain ⟨fv, hfv, hfat⟩ := paired_get' hpall hfn
    obtain ⟨fa, fp, ftv, fqs, rfl, hft, hfpl, hfps, hftr⟩ := hfat
    obtain ⟨k1, k2, kall⟩ := id hok
    obtain ⟨f1, f2, f3, f4, f5, f6⟩ := kall fn (List.mem_of_getElem? hfn)
    refine ⟨_, (pss_cons (ps_asg (pe_ix ix_tup (pv 0) (pv 1) (fun _ _ => rfl)) (pg_tup (by rfl) (pgs_cons (pg_name (i := 2) sc_check_trees.nd rfl (.inl rfl)) (pgs_cons (pg_name (i := 3) sc_check_trees.nd rfl (.inl rfl)) (pgs_cons (pg_name (i := 4) sc_check_trees.nd rfl (.inl rfl)) pgs_nil)))))
  (pss_cons (ps_set (i := 5) sc_check_trees.nd rfl (.inl rfl) (pe_lst (pa_cons (pe_tup (pa_cons (pv 4) (pa_cons pe_int (pa_cons (pe_callTy (cr_dictT rfl) (by rfl) T.n_dict (by decide +kernel) (pa_cons (pv 2) pa_nil)) pa_nil)))) pa_nil)))
  (pss_cons (ps_set (i := 6) sc_check_trees.nd rfl (.inl rfl) pe_int)
  (pss_one (ps_while PassesOwn.never (pt_truth (pv 5) (by intro _; rfl))
  (pss_cons (ps_asg (pe_bm0 PySem.F.plainAttrs_list PySem.F.slot_list_pop PySem.F.type_list_pop mt_pop (pv 5)) (pg_tup (by rfl) (pgs_cons (pg_name (i := 7) sc_check_trees.nd rfl (.inl rfl)) (pgs_cons (pg_name (i := 8) sc_check_trees.nd rfl (.inl rfl)) (pgs_cons (pg_name (i := 9) sc_check_trees.nd rfl (.inl rfl)) pgs_nil)))))
  (pss_cons (ps_if (PW.pt (pw_or (pt_cmpR op_ge (pv 6) (pe_glob (v := .int 60) rfl T.c_MOST_TREES ⟨_, rfl⟩) (nomark _)) (pw_or1 (pt_cmpR op_gt (pv 8) (pe_glob (v := .int 20) rfl T.c_MOST_DEPTH ⟨_, rfl⟩) (nomark _)))))
  pss_never
  pss_nil)
  (pss_cons (ps_set (i := 10) sc_check_trees.nd rfl (.inl rfl) (pe_call G_trees_within (hr.mono (by decide)) (by rfl) T.g_trees_within T.F_trees_within.kp T.b_trees_within .nil pass0 (pa_cons (pv 0) (pa_cons (pv 3) (pa_cons (pv 7) (pa_cons (pv 9) pa_nil))))))
  (pss_cons (ps_if (pt_cmpR op_isN (pv 10) pe_non (nomark _))
  pss_never
  pss_nil)
  (pss_cons (ps_for PassesOwn.never rfl (pi_reversed (by rfl) T.n_reversed (pa_cons (pv 10) pa_nil)) (pg_tup (by rfl) (pgs_cons (pg_name (i := 11) sc_check_trees.nd rfl (.inl rfl)) (pgs_cons (pg_name (i := 12) sc_check_trees.nd rfl (.inl rfl)) pgs_nil)))
  (pss_one (ps_expr (pe_bm PySem.F.plainAttrs_list PySem.F.slot_list_append PySem.F.type_list_append mt_append (pv 5) (pa_cons (pe_tup (pa_cons (pv 11) (pa_cons (pe_op op_add (pv 8) pe_int) (pa_cons (pv 12) pa_nil)))) pa_nil)))))
  (pss_one (ps_aug (i := 6) sc_check_trees.nd rfl (.inl rfl) pe_int ip_add)))))))))))), ?_⟩
    refine ⟨_, rfl, _, rfl, _, _, _, _, rfl, rfl, hpt, atI_nat hfv, fa, _, rfl, hft, rfl, _, _, rfl, _, _, rfl, _, _, rfl, rfl, ?_⟩
    refine ⟨_, rfl, _, rfl, fp, fqs, nmK fn.ps, rfl, hfpl, pairs_pr hfps, fun d hd => ?_⟩
    rw [nmK_merge f3]
    have s1 : Same H (upd H d (.dK (nmK fn.ps))) := same_upd hd
    refine ⟨by show 3 ≤ sizeLine; decide, fun t0 ht0 => ⟨by show 1 ≤ sizeLine; decide, fun wl hwl => ?_⟩⟩
    have s2 : Same (upd H d (.dK (nmK fn.ps))) (upd (upd H d (.dK (nmK fn.ps))) t0 (.tup [ftv, .int 1, .ref d])) := same_upd ht0
    have s3 : Same (upd (upd H d (.dK (nmK fn.ps))) t0 (.tup [ftv, .int 1, .ref d])) (upd (upd (upd H d (.dK (nmK fn.ps))) t0 (.tup [ftv, .int 1, .ref d])) wl (.lst [.ref t0])) := same_upd hwl
    have nwl : H wl = none := (s1.trans s2).free hwl
    refine ⟨fun m σ H1 => ∃ vs st place y7 y8 y9 y10 y11 y12, σ = [some (.ref pa), some (.int (i : Nat)), some (.ref fp), some fn.kd.v, some ftv, some (.ref wl), some (.int (place : Nat)), y7, y8, y9, y10, y11, y12] ∧
        Same H H1 ∧ H1 wl = some (.lst vs) ∧ Paired (StAt K H1) vs st ∧ (∀ q ∈ st, Tr.ok (fs.map Fn.hd) fn.kd q.2.2 q.1 ∧ 1 ≤ q.2.1 ∧ q.2.1 + q.1.deep ≤ 21 ∧ q.2.2.length ≤ q.2.1 + 4) ∧ place + weight st ≤ 60 ∧ m = weight st,
      ⟨_, [.ref t0], [(fn.tr, 1, fn.ps)], 0, none, none, none, none, none, none, rfl, s1.trans (s2.trans s3), upd_same, .cons ⟨t0, ftv, d, rfl, .inl (.inl (s3 _ _ upd_same)), hftr.same (sameI_of (s1.trans (s2.trans s3))), s3 _ _ (s2 _ _ upd_same)⟩ .nil, ?_, ?_, rfl⟩, ?_⟩
    · intro q hq
      rw [List.mem_singleton.mp hq]
      exact ⟨f4, Nat.le_refl _, by show 1 + fn.tr.deep ≤ 21; omega, by show fn.ps.length ≤ 1 + 4; omega⟩
    · show 0 + (fn.tr.size + 0) ≤ 60
      omega
    rintro m σ H1 ⟨vs, st, place, y7, y8, y9, y10, y11, y12, rfl, sH, ewl, hst, hall, hpl, rfl⟩
    refine ⟨_, rfl, _, .inl ⟨vs, SqL.of ewl, rfl⟩, ?_⟩
    rcases List.eq_nil_or_concat vs with rfl | ⟨vs1, v, rfl⟩
    · exact iteF (q H1 sH)
    rw [List.concat_eq_append] at *
    obtain ⟨st1, ⟨t, dep, ns⟩, rfl, hst1, a, tv, d1, rfl, hat, htv, hd1⟩ := paired_last hst
    have hne : (!(vs1 ++ [V.ref a]).isEmpty) = true := by cases vs1 <;> rfl
    rw [hne]
    obtain ⟨o1, o2, o3, o4⟩ := hall (t, dep, ns) (List.mem_append_right _ (List.mem_singleton.mpr rfl))
    have o2 : 1 ≤ dep := o2
    have o3 : dep + t.deep ≤ 21 := o3
    have o4 : ns.length ≤ dep + 4 := o4
    have hw : weight (st1 ++ [(t, dep, ns)]) = weight st1 + t.size := by
      rw [weight_append]
      rfl
    have hsz := size_pos t
    have hdp := deep_pos t
    rw [hw] at hpl ⊢
    refine iteT ?_
    -- tree, depth, names = waiting.pop()
    have x1 : SameX wl H1 (upd H1 wl (.lst vs1)) := sameX_upd
    have sH1 : Same H (upd H1 wl (.lst vs1)) := x1.same sH nwl
    refine ⟨fun σ' H' => ∃ m', m' < weight st1 + t.size ∧ ∃ vs st place y7 y8 y9 y10 y11 y12, σ' = [some (.ref pa), some (.int (i : Nat)), some (.ref fp), some fn.kd.v, some ftv, some (.ref wl), some (.int (place : Nat)), y7, y8, y9, y10, y11, y12] ∧
        Same H H' ∧ H' wl = some (.lst vs) ∧ Paired (StAt K H') vs st ∧ (∀ q ∈ st, Tr.ok (fs.map Fn.hd) fn.kd q.2.2 q.1 ∧ 1 ≤ q.2.1 ∧ q.2.1 + q.1.deep ≤ 21 ∧ q.2.2.length ≤ q.2.1 + 4) ∧ place + weight st ≤ 60 ∧ m' = weight st, fun σ' H' z => z, ?_⟩
    refine ⟨_, rfl, .inl ⟨rfl, _, SqL.of ewl⟩, wl, _, .ref a, rfl, rfl, ewl, by simp, ?_⟩
    rw [List.dropLast_concat]
    have hat1 : SqT K (upd H1 wl (.lst vs1)) a [tv, .int (dep : Nat), .ref d1] := (x1.i ewl id).tup hat
    refine ⟨a, _, rfl, hat1, rfl, _, _, rfl, _, _, rfl, _, _, rfl, rfl, ?_⟩
    -- if place >= MOST_TREES or depth > MOST_DEPTH
    refine ⟨_, rfl, _, _, rfl, rfl, _, rfl, itn (show ¬ (60 : Int) ≤ (place : Int) by omega) ⟨_, rfl, _, _, rfl, rfl, _, rfl, itn (show ¬ (20 : Int) < (dep : Int) by omega) ?_⟩⟩
    -- within = trees_within(program, kind, tree, names)
    have C1 : Ctx K (upd H1 wl (.lst vs1)) (.ref pa) fs d1 ns := ⟨hpg.same (sameI_of sH1), k2, fun f hf => (kall f hf).1, x1 _ _ (ne_of hd1 ewl (by intro z; cases z)) hd1⟩
    refine ⟨_, rfl, _, rfl, _, rfl, _, rfl, ns, t, .ref pa, tv, d1, rfl, C1, htv.same (x1.i ewl id), o1, by omega, fun H3 l acc ks s3 nl el hks hk => ?_⟩
    obtain ⟨kid1, kid2, kid3⟩ := hk
    refine ⟨_, rfl, rfl, _, rfl, itn (p := V.ref l = V.non) (fun z => nomatch z) ?_⟩
    -- for inner, standing in reversed(within)
    have nlw : l ≠ wl := fun z => by
      rw [z, upd_same] at nl
      cases nl
    have ewl3 : H3 wl = some (.lst vs1) := s3 _ _ upd_same
    have st3 : Paired (StAt K H3) vs1 st1 := StAt.all (sameX_of s3) upd_same (StAt.all x1 ewl hst1)
    have sH3 : Same H H3 := sH1.trans s3
    have hks2 := paired_reverse hks
    have hlk := Paired.length hks
    refine ⟨_, rfl, l, acc, rfl, SqL.of el, for_it (walk_rev (K := K) (a := l) (xs := acc)) (fun j σ' H' => ∃ us y11 y12, σ' = [some (.ref pa), some (.int (i : Nat)), some (.ref fp), some fn.kd.v, some ftv, some (.ref wl), some (.int (place : Nat)), some tv, some (.int (dep : Nat)), some (.ref d1), some (.ref l), y11, y12] ∧
        SameX wl H3 H' ∧ H' wl = some (.lst (vs1 ++ us)) ∧ Paired (StAt K H') us ((ks.reverse.take j).map fun q => (q.1, dep + 1, q.2)))
      ⟨[], y11, y12, rfl, SameX.refl _ _, by rw [List.append_nil]; exact ewl3, .nil⟩ (fun j σ' H' _ ⟨us, z11, z12, _, xx, _⟩ => SqL.of (xx _ _ nlw el)) ?_ ?_⟩
    · rintro j x σ' H5 H4 hj ⟨us, z11, z12, rfl, xx, e4, hus⟩ ⟨rfl, hx⟩
      have hx2 : acc.reverse[j]? = some x := by
        rw [List.getElem?_reverse hj]
        exact hx
      obtain ⟨kq, hkq, ka, ktv, kd1, rfl, hka, hktv, hkd⟩ := paired_get hks2 hx2
      have xi := xx.i ewl3 id
      refine ⟨ka, _, rfl, xi.tup hka, rfl, _, _, rfl, _, _, rfl, rfl, ?_⟩
      refine ⟨_, rfl, .inl ⟨rfl, _, SqL.of e4⟩, _, rfl, _, rfl, _, _, rfl, rfl, _, rfl, by show 3 ≤ sizeLine; decide, fun nt hnt => ?_⟩
      have nne : wl ≠ nt := ne_of_none e4 hnt
      have e6 : (upd H4 nt (.tup [ktv, .int ((dep : Nat) + 1), .ref kd1])) wl = some (.lst (vs1 ++ us)) := by rw [upd_ne nne]; exact e4
      have s6 : Same H4 (upd H4 nt (.tup [ktv, .int ((dep : Nat) + 1), .ref kd1])) := same_upd hnt
      refine ⟨wl, _, _, rfl, rfl, e6, ?_, ?_⟩
      · have l1 := Paired.length hus
        have l2 := Paired.length hst1
        have l3 : weight st1 ≤ 60 := by omega
        rw [List.length_append, l1, List.length_map, List.length_take]
        have l4 : vs1.length ≤ weight st1 := by
          rw [l2]
          exact len_weight st1
        exact smaller (by omega)
      · have x7 : SameX wl (upd H4 nt (.tup [ktv, .int ((dep : Nat) + 1), .ref kd1])) (upd (upd H4 nt (.tup [ktv, .int ((dep : Nat) + 1), .ref kd1])) wl (.lst ((vs1 ++ us) ++ [.ref nt]))) := sameX_upd
        have x8 : SameX wl H4 (upd (upd H4 nt (.tup [ktv, .int ((dep : Nat) + 1), .ref kd1])) wl (.lst ((vs1 ++ us) ++ [.ref nt]))) := (sameX_of s6).trans x7
        refine ⟨us ++ [.ref nt], _, _, rfl, xx.trans x8, by rw [upd_same, List.append_assoc], ?_⟩
        rw [List.take_add_one, hkq, List.map_append]
        refine paired_append (StAt.all x8 e4 hus) (.cons ⟨nt, ktv, kd1, rfl, (x7.i e6 id).tup (.inl (.inl upd_same)), hktv.same (xi.trans (x8.i e4 id)), (xx.trans x8) _ _ (ne_of hkd ewl3 (by intro z; cases z)) hkd⟩ .nil)
    · rintro σ' H4 ⟨us, z11, z12, rfl, xx, e4, hus⟩
      have etake : ks.reverse.take acc.length = ks.reverse := List.take_of_length_le (by rw [List.length_reverse, hlk]; exact Nat.le_refl _)
      rw [etake] at hus
      have hwk : weight (ks.reverse.map fun q => (q.1, dep + 1, q.2)) + 1 = t.size := by
        rw [← kid2]
        unfold weight
        rw [List.map_map, List.map_reverse, List.sum_reverse]
        rfl
      -- place += 1
      refine ⟨_, rfl, _, _, rfl, rfl, ?_⟩
      refine ⟨_, ?_, vs1 ++ us, st1 ++ (ks.reverse.map fun q => (q.1, dep + 1, q.2)), place + 1, _, _, _, _, _, _, rfl, xx.same sH3 nwl, e4, paired_append (StAt.all xx ewl3 st3) hus, ?_, ?_, rfl⟩
      · rw [weight_append]
        omega
      · intro q hq
        rcases List.mem_append.mp hq with hq | hq
        · exact hall q (List.mem_append_left _ hq)
        · obtain ⟨kq, hkq, rfl⟩ := List.mem_map.mp hq
          obtain ⟨g1, g2, g3⟩ := kid1 kq (List.mem_reverse.mp hkq)
          exact ⟨g1, by show 1 ≤ dep + 1; omega, by show dep + 1 + kq.1.deep ≤ 21; omega, by show kq.2.length ≤ dep + 1 + 4; omega⟩
      · rw [weight_append]
        omega
end
end Cs
namespace Cs
open PySem PySem.Spec L2
theorem walk_enumT {K : PySem.W.Frag} {a : Addr} {xs : List V} : Walk (IteT K a) xs.length (fun H => SqT K H a xs) (YPair (fun i => some (.int (i : Nat))) (fun i => xs[i]?)) :=
  ⟨fun i H hi h => ⟨xs, xs[i], h, List.getElem?_eq_getElem hi⟩, fun H h => ⟨xs, h, Nat.le_refl _⟩, fun i H x H' hi h ⟨T, y, e, hT, eH, f⟩ => ⟨T, _, y, e, hT, eH, rfl, f _ h⟩⟩
section
variable {P : Program} {w : World} {K : PySem.W.Frag} {mg : Str → Option Value} {base : Heap} {A : Adr}
theorem kinds_in (kd : Kd) : inV kd.v [.str "number", .str "list"] = true := by cases kd <;> decide +kernel
def spParam (K : PySem.W.Frag) : Sp := fun vs H Q _ => ∃ (a : Addr) (p : Str × Kd), vs = [.ref a] ∧ PrAt K H a p ∧ okName p.1 ∧ ∀ H1, Same H H1 → Q (.bl true) H1
theorem ok_is_param (T : Tx K w mg A) : FnOk P w K mg base CX0 2 A.f_is_param A.fd_is_param P_is_param (spParam K) := by
  have G_is_row := ok_is_row (P := P) (base := base) T
  have G_is_name := ok_is_name (P := P) (base := base) T
  refine T.F_is_param.ok sc_is_param (fun vs H Q E h => ?_) (fun cdv AA outer s H vs Q E hr h => ?_)
  · obtain ⟨a, p, rfl, _⟩ := h
    rfl
  · obtain ⟨a, p, rfl, ha, hn, q⟩ := h
    have ha : SqT K H a [.str p.1, p.2.v] := ha
    refine ⟨_, (pss_one (ps_ret (pe_and (pe_call G_is_row (hr.mono (by decide)) (by rfl) T.g_is_row T.F_is_row.kp T.b_is_row .nil pass0 (pa_cons (pv 0) (pa_cons pe_int pa_nil))) (pe_and (pe_call G_is_name (hr.mono (by decide)) (by rfl) T.g_is_name T.F_is_name.kp T.b_is_name .nil pass0 (pa_cons (pe_ix ix_tup (pv 0) pe_int (fun _ _ => rfl)) pa_nil)) (pe_one (pe_cmpR op_in_seq (pe_ix ix_tup (pv 0) pe_int (fun _ _ => rfl)) (pe_glob (v := .ref A.a_KINDS) rfl T.c_KINDS rfl) (by rfl))))))), ?_⟩
    refine ⟨_, rfl, a, _, 2, rfl, ha, true, rfl, iteT ⟨_, rfl, _, _, _, _, rfl, rfl, ha, atI_nat (j := 0) rfl, p.1, rfl, hn, fun H1 s1 => ⟨true, rfl, iteT ⟨_, rfl, _, _, _, _, rfl, rfl, Same.tup s1 ha, atI_nat (j := 1) rfl, _, _, rfl, .inr (T.q_KINDS _), rfl, rfl, ?_⟩⟩⟩⟩
    show Q (.bl (inV p.2.v [.str "number", .str "list"])) H1
    rw [kinds_in]
    exact q _ s1
def spHeaded (K : PySem.W.Frag) : Sp := fun vs H Q _ => ∃ (v : V) (fn : Fn), vs = [v] ∧ FnAt K H v fn ∧ fn.ps.length ≤ 4 ∧ (∀ p ∈ fn.ps, okName p.1) ∧ (fn.ps.map (·.1)).Nodup ∧ ∀ H1, Same H H1 → Q (.bl true) H1
theorem ok_is_headed (T : Tx K w mg A) : FnOk P w K mg base CX0 3 A.f_is_headed A.fd_is_headed P_is_headed (spHeaded K) := by
  have G_is_row := ok_is_row (P := P) (base := base) T
  have G_is_param := ok_is_param (P := P) (base := base) T
  refine T.F_is_headed.ok sc_is_headed (fun vs H Q E h => ?_) (fun cdv AA outer s H vs Q E hr h => ?_)
  · obtain ⟨v, fn, rfl, _⟩ := h
    rfl
  · obtain ⟨v, fn, rfl, ⟨fa, fp, ftv, fqs, rfl, hft, hfpl, hfps, hftr⟩, h4, hn, hnd, q⟩ := h
    have hl := Paired.length hfps
    refine ⟨_, (pss_cons (ps_if (pt_not (pt_val (pe_call G_is_row (hr.mono (by decide)) (by rfl) T.g_is_row T.F_is_row.kp T.b_is_row .nil pass0 (pa_cons (pv 0) (pa_cons pe_int pa_nil)))))
  (pss_one (ps_ret pe_bl))
  pss_nil)
  (pss_cons (ps_asg (pv 0) (pg_tup (by rfl) (pgs_cons (pg_name (i := 1) sc_is_headed.nd rfl (.inl rfl)) (pgs_cons (pg_name (i := 2) sc_is_headed.nd rfl (.inl rfl)) (pgs_cons (pg_name (i := 3) sc_is_headed.nd rfl (.inl rfl)) pgs_nil)))))
  (pss_cons (ps_if (PW.pt (pw_or (pt_not (pt_val (pe_callB call_isi (by rfl) T.n_isinstance (by decide +kernel) (pa_cons (pv 1) (pa_cons (pe_bltn (v := .ty "tuple") (u := .type "tuple") (by rfl) T.n_tuple (by decide +kernel) rfl) pa_nil))))) (pw_or1 (pt_cmpR op_gt (pe_callB call_len (by rfl) T.n_len (by decide +kernel) (pa_cons (pv 1) pa_nil)) (pe_glob (v := .int 4) rfl T.c_MOST_PARAMS ⟨_, rfl⟩) (nomark _)))))
  (pss_one (ps_ret pe_bl))
  pss_nil)
  (pss_cons (ps_if (pt_not (pt_val (pe_callB (cr_all rfl) (by rfl) T.n_all (by decide +kernel) (pa_cons (pe_lc (own := [("param", 4)]) (g := (gName 4)) (tt := tYes) (te := _) rfl sc_is_headed.nd (pi_tup (pv 1)) (blkOk_by (N := N_is_headed) (sc := defScope s_is_headed) (by decide +kernel)) (fun _ _ _ _ _ => (pg_name (i := 4) sc_is_headed.nd rfl (.inl rfl))) (fun _ _ _ _ _ => pts_nil) (fun _ _ _ _ _ => (pe_call G_is_param (hr.mono (by decide)) (by rfl) T.g_is_param T.F_is_param.kp T.b_is_param .nil pass0 (pa_cons (pv 4) pa_nil)))) pa_nil))))
  (pss_one (ps_ret pe_bl))
  pss_nil)
  (pss_one (ps_ret (pe_and (pe_cmpR op_eq (pe_callB call_lenD (by rfl) T.n_len (by decide +kernel) (pa_cons (pe_callTy (cr_dictT rfl) (by rfl) T.n_dict (by decide +kernel) (pa_cons (pv 1) pa_nil)) pa_nil)) (pe_callB call_len (by rfl) T.n_len (by decide +kernel) (pa_cons (pv 1) pa_nil)) (nomark _)) (pe_one (pe_cmpR op_in_seq (pv 2) (pe_glob (v := .ref A.a_KINDS) rfl T.c_KINDS rfl) (by rfl)))))))))), ?_⟩
    refine ⟨_, rfl, fa, _, 3, rfl, hft, true, rfl, iteF ?_⟩
    refine ⟨_, rfl, fa, _, rfl, hft, rfl, _, _, rfl, _, _, rfl, _, _, rfl, rfl, ?_⟩
    refine ⟨_, rfl, _, _, _, _, true, rfl, .ty "tuple", tyx_tup hfpl.sq, kv (by decide +kernel), true, rfl, iteF ⟨_, rfl, _, fn.ps.length, rfl, .inr ⟨_, hfpl.sq, by rw [List.length_map, hl]⟩, _, _, rfl, rfl, _, rfl, itn (by omega) ?_⟩⟩
    refine ⟨_, rfl, fp, rfl, ⟨_, hfpl.sq⟩, fun D hD => ?_⟩
    refine lc_data (walk_tup (K := K) (a := fp) (xs := fqs.map V.ref)) (fun _ y _ => y = .bl true) (fun _ _ _ _ _ e => e) hD (fun H1 s1 => Same.tup s1 hfpl.sq) (by rw [List.length_map]; omega) ?_ ?_
    · rintro i x H1 H2 k hi s1 ⟨rfl, hx⟩ hk
      rw [List.getElem?_map] at hx
      obtain ⟨t, ht, rfl⟩ := Option.map_eq_some_iff.mp hx
      obtain ⟨pr, hpr, hat⟩ := paired_get hfps ht
      exact ⟨rfl, _, rfl, t, pr, rfl, hat.same (sameI_of s1), hn pr (List.mem_of_getElem? hpr), fun H3 s3 => hk _ _ s3 rfl⟩
    · rintro H1 acc s1 e1 hla hE
      refine ⟨D, List.replicate acc.length true, rfl, trues e1 hE, true, ?_, iteF ?_⟩
      · rw [trues_all]
      refine ⟨_, rfl, fp, fqs, nmK fn.ps, rfl, hfpl.same s1, ?_, fun d hd => ?_⟩
      · exact pairs_pr (Paired.mapP hfps fun _ _ z => z.same (sameI_of s1))
      have s2 : Same H1 (upd H1 d (.dK (mergeK [] (nmK fn.ps)))) := same_upd hd
      rw [nmK_merge hnd] at s2 ⊢
      refine ⟨d, nmK fn.ps, rfl, upd_same, _, rfl, _, fn.ps.length, rfl, .inr ⟨_, (hfpl.same (s1.trans s2)).sq, by rw [List.length_map, hl]⟩, rfl, true, ?_, iteT ⟨_, rfl, _, _, rfl, .inr (T.q_KINDS _), rfl, rfl, ?_⟩⟩
      · rw [List.length_map, decide_eq_true rfl]
      · show Q (.bl (inV fn.kd.v [.str "number", .str "list"])) _
        rw [kinds_in]
        exact q _ (s1.trans s2)
def spProgram (K : PySem.W.Frag) : Sp := fun vs H Q _ => ∃ (pgv : V) (fs : List Fn), vs = [pgv] ∧ PgAt K H pgv fs ∧ okPg fs ∧ ∀ H1, Same H H1 → Q .non H1
theorem ok_check_program (T : Tx K w mg A) : FnOk P w K mg base CX0 10 A.f_check_program A.fd_check_program P_check_program (spProgram K) := by
  have G_is_headed := ok_is_headed (P := P) (base := base) T
  have G_check_trees : FnOk P w K mg base CX0 9 A.f_check_trees A.fd_check_trees P_check_trees (fun vs H Q E => ∃ fs i fn, spChTrees K fs i fn vs H Q E) :=
    ⟨fun vs H Q E ⟨fs, i, fn, h⟩ => (ok_check_trees (P := P) (base := base) T fs i fn).len vs H Q E h, fun AA outer s H args us vs Q E hr he hb hv ⟨fs, i, fn, h⟩ => (ok_check_trees (P := P) (base := base) T fs i fn).run AA outer s H args us vs Q E hr he hb hv h⟩
  refine T.F_check_program.ok sc_check_program (fun vs H Q E h => ?_) (fun cdv AA outer s H vs Q E hr h => ?_)
  · obtain ⟨pgv, fs, rfl, _⟩ := h
    rfl
  · obtain ⟨pgv, fs, rfl, hpg, hok, q⟩ := h
    obtain ⟨pa, pvs, rfl, hpt, hpall⟩ := id hpg
    obtain ⟨k1, k2, kall⟩ := id hok
    have hl := Paired.length hpall
    refine ⟨_, (pss_cons (ps_if (PW.pt (pw_or (pt_not (pt_val (pe_callB call_isi (by rfl) T.n_isinstance (by decide +kernel) (pa_cons (pv 0) (pa_cons (pe_bltn (v := .ty "tuple") (u := .type "tuple") (by rfl) T.n_tuple (by decide +kernel) rfl) pa_nil))))) (pw_or1 (pt_cmpR op_eq (pe_callB call_len (by rfl) T.n_len (by decide +kernel) (pa_cons (pv 0) pa_nil)) pe_int (nomark _)))))
  pss_never
  pss_nil)
  (pss_cons (ps_for PassesOwn.never rfl (pi_enumT (by rfl) T.n_enumerate (pa_cons (pv 0) pa_nil)) (pg_tup (by rfl) (pgs_cons (pg_name (i := 1) sc_check_program.nd rfl (.inl rfl)) (pgs_cons (pg_name (i := 2) sc_check_program.nd rfl (.inl rfl)) pgs_nil)))
  (pss_one (ps_if (PW.pt (pw_or (pt_cmpR op_ge (pv 1) (pe_glob (v := .int 6) rfl T.c_MOST_FUNCTIONS ⟨_, rfl⟩) (nomark _)) (pw_or1 (pt_not (pt_val (pe_call G_is_headed (hr.mono (by decide)) (by rfl) T.g_is_headed T.F_is_headed.kp T.b_is_headed .nil pass0 (pa_cons (pv 2) pa_nil)))))))
  pss_never
  pss_nil)))
  (pss_one (ps_for PassesOwn.never rfl (pi_range1 (by rfl) T.n_range (pa_cons (pe_callB call_len (by rfl) T.n_len (by decide +kernel) (pa_cons (pv 0) pa_nil)) pa_nil)) (pg_name (i := 1) sc_check_program.nd rfl (.inl rfl))
  (pss_one (ps_expr (pe_call G_check_trees (hr.mono (by decide)) (by rfl) T.g_check_trees T.F_check_trees.kp T.b_check_trees .nil pass0 (pa_cons (pv 0) (pa_cons (pv 1) pa_nil))))))))), ?_⟩
    refine ⟨_, rfl, _, _, _, _, true, rfl, .ty "tuple", tyx_tup hpt, kv (by decide +kernel), true, rfl, iteF ⟨_, rfl, _, pvs.length, rfl, .inr ⟨_, hpt, rfl⟩, rfl, _, rfl, itn (p := V.int (pvs.length : Nat) = V.int 0) (fun z => by have := V.int.inj z; omega) ?_⟩⟩
    refine ⟨_, rfl, pa, pvs, rfl, hpt, for_it walk_enumT (fun i σ H1 => ∃ y1 y2, σ = [some (.ref pa), y1, y2] ∧ Same H H1) ⟨none, none, rfl, Same.refl _⟩ (fun i σ H1 _ ⟨_, _, _, s1⟩ => Same.tup s1 hpt) ?_ ?_⟩
    · rintro i x σ H2 H1 hi ⟨y1, y2, rfl, s1⟩ ⟨T1, u1, u2, rfl, hT, rfl, e1, e2⟩
      cases e1
      obtain ⟨fn, hfn, hat⟩ := paired_get hpall e2
      obtain ⟨f1, f2, f3, f4, f5, f6⟩ := kall fn (List.mem_of_getElem? hfn)
      have s2 : Same H2 (upd H2 T1 (.tup [.int (i : Nat), u2])) := same_upd hT
      refine ⟨T1, _, rfl, .inl (.inl upd_same), rfl, _, _, rfl, _, _, rfl, rfl, ?_⟩
      refine ⟨_, rfl, _, _, rfl, rfl, _, rfl, itn (show ¬ (6 : Int) ≤ (i : Int) by omega) ⟨_, rfl, u2, fn, rfl, hat.same (sameI_of (s1.trans s2)), f1, f2, f3, fun H3 s3 => ⟨true, rfl, iteF ⟨_, _, rfl, (s1.trans s2).trans s3⟩⟩⟩⟩
    · rintro σ H1 ⟨y1, y2, rfl, s1⟩
      refine ⟨_, rfl, _, pvs.length, rfl, .inr ⟨_, Same.tup s1 hpt, rfl⟩, _, rfl, by omega, by omega, ?_⟩
      refine for_it (walk_range (lo := 0) (n := ((pvs.length : Int)).toNat)) (fun i σ H1 => ∃ y1 y2, σ = [some (.ref pa), y1, y2] ∧ Same H H1) ⟨_, _, rfl, s1⟩ (fun _ _ _ _ _ => trivial) ?_ ?_
      · rintro i x σ H3 H2 hi ⟨z1, z2, rfl, s2⟩ ⟨rfl, rfl⟩
        have hi2 : i < fs.length := by omega
        have e0 : (0 : Int) + (i : Nat) = (i : Nat) := by omega
        refine ⟨_, rfl, _, rfl, fs, i, fs[i], .ref pa, by show [V.ref pa, V.int (0 + (i : Nat))] = _; rw [e0], hpg.same (sameI_of s2), hok, List.getElem?_eq_getElem hi2, fun H3 s3 => ⟨_, _, rfl, s2.trans s3⟩⟩
      · rintro σ H2 ⟨z1, z2, rfl, s2⟩
        exact q _ s2
end
end Cs
namespace Cs
open PySem PySem.Spec L2
section
variable {P : Program} {w : World} {K : PySem.W.Frag} {mg : Str → Option Value} {base : Heap} {A : Adr}
def spStart (K : PySem.W.Frag) : Sp := fun vs H Q _ => ∃ (a : Addr) (ns : List Int), vs = [.ref a] ∧ SqL K H a (ns.map V.int) ∧ ns.length ≤ 1000 ∧ ∀ H1 p, Same H H1 → H p = none → Dw K H H1 p → Q (.ref p) H1
theorem ok_w_start (T : Tx K w mg A) : FnOk P w K mg base CX0 1 A.f_w_start A.fd_w_start P_w_start (spStart K) := by
  refine T.F_w_start.ok sc_w_start (fun vs H Q E h => ?_) (fun cdv AA outer s H vs Q E hr h => ?_)
  · obtain ⟨a, ns, rfl, _⟩ := h
    rfl
  · obtain ⟨a, ns, rfl, ha, hn, q⟩ := h
    refine ⟨_, (pss_cons (ps_set (i := 1) sc_w_start.nd rfl (.inl rfl) pe_int)
  (pss_cons (ps_for PassesOwn.never rfl (pi_list (pv 0)) (pg_name (i := 2) sc_w_start.nd rfl (.inl rfl))
  (pss_one (ps_set (i := 1) sc_w_start.nd rfl (.inl rfl) (pe_op op_modN (pe_op op_add (pe_op op_add (pe_op op_mul (pv 1) pe_int) (pv 2)) pe_int) pe_int))))
  (pss_one (ps_ret (pe_lst (pa_cons (pv 0) (pa_cons pe_int (pa_cons (pv 1) (pa_cons pe_int pa_nil))))))))), ?_⟩
    refine ⟨_, rfl, a, rfl, ⟨_, ha⟩, for_it (walk_list (K := K) (a := a) (xs := ns.map V.int)) (fun i σ H1 => ∃ m y2, σ = [some (.ref a), some (.int m), y2] ∧ 0 ≤ m ∧ m < 2147483647 ∧ H1 = H)
      ⟨1, none, rfl, by decide, by decide, rfl⟩ (fun i σ H1 _ ⟨_, _, _, _, _, e⟩ => by rw [e]; exact ha) ?_ ?_⟩
    · rintro i x σ H2 H1 hi ⟨m, y2, rfl, m0, m1, rfl⟩ ⟨rfl, hx⟩
      rw [List.getElem?_map] at hx
      obtain ⟨n, hn2, rfl⟩ := Option.map_eq_some_iff.mp hx
      refine ⟨_, rfl, _, _, rfl, rfl, .inl ⟨by omega, by omega⟩, _, rfl, _, _, rfl, rfl, _, _, rfl, rfl, _, _, rfl, rfl, by show (2147483647 : Int) ≠ 0; decide, ?_⟩
      exact ⟨_, _, rfl, Int.fmod_nonneg_of_pos _ (by decide), Int.fmod_lt_of_pos _ (by decide), rfl⟩
    · rintro σ H2 ⟨m, y2, rfl, m0, m1, rfl⟩
      refine ⟨_, rfl, _, rfl, by show 4 ≤ sizeLine; decide, fun p hp => ?_⟩
      have s1 := same_upd (o := .lst [.ref a, .int 0, .int m, .int 0]) hp
      exact q _ p s1 hp ⟨a, ns, 0, m, 0, upd_same, ha, Int.le_refl _, m0, m1, Int.le_refl _⟩
def spDrawn (K : PySem.W.Frag) : Sp := fun vs H Q _ => ∃ (B : Hp) (st : Addr) (m : Int), vs = [.ref st, .int m] ∧ Same B H ∧ B st = none ∧ Dw K B H st ∧ 1 ≤ m ∧ m ≤ 1000000 ∧ ∀ H1 d, 0 ≤ d → d < m → SameX st H H1 → Dw K B H1 st → Q (.int d) H1
theorem ok_w_drawn (T : Tx K w mg A) : FnOk P w K mg base CX0 1 A.f_w_drawn A.fd_w_drawn P_w_drawn (spDrawn K) := by
  refine T.F_w_drawn.ok sc_w_drawn (fun vs H Q E h => ?_) (fun cdv AA outer s H vs Q E hr h => ?_)
  · obtain ⟨B, a, ns, rfl, _⟩ := h
    rfl
  · obtain ⟨B, st, m, rfl, sB, nB, ⟨sc, ns, i, mx, r, e, hB, i0, m0, m1, r0⟩, h1, h2, q⟩ := h
    have hsc : ∀ H3, SameX st H H3 → SqL K H3 sc (ns.map V.int) := fun H3 x => (SameX.same sB x nB).seq hB
    refine ⟨_, (pss_cons (ps_if (pt_cmpR op_gt (pe_ix ix_list (pv 0) pe_int (fun _ _ => rfl)) pe_int (nomark _))
  (pss_cons (ps_set (i := 2) sc_w_drawn.nd rfl (.inl rfl) (pe_op op_modN (pe_ix ix_list (pv 0) pe_int (fun _ _ => rfl)) (pv 1)))
  (pss_cons (ps_asg (pe_op op_fdivN (pe_ix ix_list (pv 0) pe_int (fun _ _ => rfl)) (pv 1)) (pg_sub (pv 0) pe_int set_list))
  (pss_one (ps_ret (pv 2)))))
  pss_nil)
  (pss_cons (ps_asg (pe_op op_add (pe_ix ix_list (pv 0) pe_int (fun _ _ => rfl)) pe_int) (pg_sub (pv 0) pe_int set_list))
  (pss_cons (ps_if (pt_cmpR op_le (pe_ix ix_list (pv 0) pe_int (fun _ _ => rfl)) (pe_callB call_len (by rfl) T.n_len (by decide +kernel) (pa_cons (pe_ix ix_list (pv 0) pe_int (fun _ _ => rfl)) pa_nil)) (nomark _))
  (pss_cons (ps_set (i := 3) sc_w_drawn.nd rfl (.inl rfl) (pe_ix ix_list (pe_ix ix_list (pv 0) pe_int (fun _ _ => rfl)) (pe_op op_sub (pe_ix ix_list (pv 0) pe_int (fun _ _ => rfl)) pe_int) (fun _ _ => rfl)))
  (pss_cons (ps_asg (pe_ifExp (pt_cmpR op_ge (pv 3) (pe_op op_pow pe_int pe_int) (nomark _)) (pe_op op_fdivN (pv 3) (pv 1)) pe_int) (pg_sub (pv 0) pe_int set_list))
  (pss_one (ps_ret (pe_op op_modN (pv 3) (pv 1))))))
  pss_nil)
  (pss_cons (ps_asg (pe_op op_modN (pe_op op_add (pe_op op_mul (pe_ix ix_list (pv 0) pe_int (fun _ _ => rfl)) pe_int) pe_int) pe_int) (pg_sub (pv 0) pe_int set_list))
  (pss_one (ps_ret (pe_op op_modN (pe_op op_fdivN (pe_ix ix_list (pv 0) pe_int (fun _ _ => rfl)) pe_int) (pv 1)))))))), ?_⟩
    have hst : ∀ {H' : Hp} {xs : List V}, H' st = some (.lst xs) → SqL K H' st xs := fun z => SqL.of z
    have hm : m ≠ 0 := by omega
    have hma : m.natAbs < 1073741824 := by omega
    refine ⟨_, rfl, _, _, _, _, rfl, rfl, SqL.of e, atI_nat (j := 3) rfl, _, _, rfl, rfl, _, rfl, ite2 (fun hp => ?_) (fun hp => ?_)⟩
    · have hr0 : 0 < r := of_decide_eq_true hp
      refine ⟨_, rfl, _, _, _, _, rfl, rfl, SqL.of e, atI_nat (j := 3) rfl, _, rfl, _, _, rfl, rfl, hm, ?_⟩
      refine ⟨_, rfl, _, _, _, _, rfl, rfl, SqL.of e, atI_nat (j := 3) rfl, _, rfl, _, _, rfl, rfl, ⟨hm, hma⟩, _, rfl, st, _, 3, 3, rfl, rfl, e, rfl, ?_⟩
      refine ⟨_, rfl, q _ _ (Int.fmod_nonneg_of_pos _ (by omega)) (Int.fmod_lt_of_pos _ (by omega)) sameX_upd ⟨sc, ns, i, mx, r.fdiv m, upd_same, hB, i0, m0, m1, Int.fdiv_nonneg r0 (by omega)⟩⟩
    · refine ⟨_, rfl, _, _, _, _, rfl, rfl, SqL.of e, atI_nat (j := 1) rfl, _, _, rfl, rfl, _, rfl, st, _, 1, 1, rfl, rfl, e, rfl, ?_⟩
      generalize hH1 : upd H st (.lst ([V.ref sc, .int i, .int mx, .int r].set 1 (.int (i + 1)))) = H1
      have e1 : H1 st = some (.lst [.ref sc, .int (i + 1), .int mx, .int r]) := by rw [← hH1]; exact upd_same
      have x1 : SameX st H H1 := by rw [← hH1]; exact sameX_upd
      have hsc1 : SqL K H1 sc (ns.map V.int) := hsc H1 x1
      refine ⟨_, rfl, _, _, _, _, rfl, rfl, SqL.of e1, atI_nat (j := 1) rfl, _, rfl, _, _, _, _, rfl, rfl, SqL.of e1, atI_nat (j := 0) rfl, _, ns.length, rfl, .inl ⟨_, hsc1, (List.length_map _).symm⟩, _, _, rfl, rfl, _, rfl, ite2 (fun hp2 => ?_) (fun hp2 => ?_)⟩
      · have hlt : i + 1 ≤ ns.length := of_decide_eq_true hp2
        obtain ⟨j, rfl⟩ := Int.eq_ofNat_of_zero_le i0
        have hj : j < ns.length := by omega
        have hget : (ns.map V.int)[j]? = some (.int ns[j]) := by rw [List.getElem?_map, List.getElem?_eq_getElem hj]; rfl
        have hat : atI (ns.map V.int) (((j : Nat) : Int) + 1 - 1) = some (.int ns[j]) := by rw [Int.add_sub_cancel]; exact atI_nat hget
        refine ⟨_, rfl, _, _, _, _, rfl, rfl, SqL.of e1, atI_nat (j := 0) rfl, _, rfl, _, _, _, _, rfl, rfl, SqL.of e1, atI_nat (j := 1) rfl, _, _, rfl, rfl, _, _, _, _, rfl, rfl, hsc1, hat, ?_⟩
        refine ⟨_, rfl, _, _, rfl, rfl, ⟨by decide, by decide, by decide⟩, _, _, rfl, rfl, _, rfl, ?_⟩
        have fin : ∀ r1 : Int, 0 ≤ r1 → Q (.int (ns[j].fmod m)) (upd H1 st (.lst [.ref sc, .int ((j : Nat) + 1), .int mx, .int r1])) := fun r1 hr1 =>
          q _ _ (Int.fmod_nonneg_of_pos _ (by omega)) (Int.fmod_lt_of_pos _ (by omega)) (x1.trans sameX_upd) ⟨sc, ns, _, mx, r1, upd_same, hB, by omega, m0, m1, hr1⟩
        refine ite2 (fun hp3 => ?_) (fun hp3 => ?_)
        · have h18 : (10 : Int) ^ 18 ≤ ns[j] := of_decide_eq_true hp3
          refine ⟨_, rfl, _, rfl, _, _, rfl, rfl, ⟨hm, hma⟩, _, rfl, st, _, 3, 3, rfl, rfl, e1, rfl, _, rfl, _, rfl, _, _, rfl, rfl, hm, ?_⟩
          exact fin _ (Int.fdiv_nonneg (by omega) (by omega))
        · refine ⟨_, rfl, st, _, 3, 3, rfl, rfl, e1, rfl, _, rfl, _, rfl, _, _, rfl, rfl, hm, ?_⟩
          exact fin _ (Int.le_refl _)
      · refine ⟨_, rfl, _, _, _, _, rfl, rfl, SqL.of e1, atI_nat (j := 2) rfl, _, _, rfl, rfl, .inl ⟨by omega, by omega⟩, _, _, rfl, rfl, _, _, rfl, rfl, by show (2147483647 : Int) ≠ 0; decide, _, rfl, st, _, 2, 2, rfl, rfl, e1, rfl, ?_⟩
        refine ⟨_, rfl, _, _, _, _, rfl, rfl, SqL.of upd_same, atI_nat (j := 2) rfl, _, _, rfl, rfl, ⟨by decide, by decide⟩, _, rfl, _, _, rfl, rfl, hm, ?_⟩
        exact q _ _ (Int.fmod_nonneg_of_pos _ (by omega)) (Int.fmod_lt_of_pos _ (by omega)) (x1.trans sameX_upd) ⟨sc, ns, _, _, r, upd_same, hB, by omega, Int.fmod_nonneg_of_pos _ (by decide), Int.fmod_lt_of_pos _ (by decide), r0⟩
end
end Cs
namespace Cs
open PySem PySem.Spec L2
section
variable {P : Program} {w : World} {K : PySem.W.Frag} {mg : Str → Option Value} {base : Heap} {A : Adr}
def spSame (K : PySem.W.Frag) (n : Nat) : Sp := fun vs H Q _ => ∃ (v1 v2 : V) (d : PyData), vs = [v1, v2] ∧ Dp K H v1 d ∧ Dp K H v2 d ∧ Sized n d ∧ ∀ H1, Same H H1 → Q (.bl true) H1
theorem step_w_same (T : Tx K w mg A) (n : Nat) (sp : Sp) (G_w_same : FnOk P w K mg base CX0 n A.f_w_same A.fd_w_same P_w_same sp) (hG : ∀ vs H Q E m, n = m + 1 → spSame K m vs H Q E → sp vs H Q E) :
    FnOk P w K mg base CX0 (n + 1) A.f_w_same A.fd_w_same P_w_same (spSame K n) := by
  refine T.F_w_same.ok sc_w_same (fun vs H Q E h => ?_) (fun cdv AA outer s H vs Q E hr h => ?_)
  · obtain ⟨a, b, d, rfl, _⟩ := h
    rfl
  · obtain ⟨v1, v2, d, rfl, h1, h2, hz, q⟩ := h
    refine ⟨_, (pss_cons (ps_if (pt_val (pe_callB call_isiT (by rfl) T.n_isinstance (by decide +kernel) (pa_cons (pv 1) (pa_cons (pe_tup (pa_cons (pe_bltn (v := .ty "tuple") (u := .type "tuple") (by rfl) T.n_tuple (by decide +kernel) rfl) (pa_cons (pe_bltn (v := .ty "list") (u := .type "list") (by rfl) T.n_list (by decide +kernel) rfl) pa_nil))) pa_nil))))
  (pss_cons (ps_if (PW.pt (pw_or (pt_not (pt_val (pe_callB call_isiT (by rfl) T.n_isinstance (by decide +kernel) (pa_cons (pv 0) (pa_cons (pe_tup (pa_cons (pe_bltn (v := .ty "tuple") (u := .type "tuple") (by rfl) T.n_tuple (by decide +kernel) rfl) (pa_cons (pe_bltn (v := .ty "list") (u := .type "list") (by rfl) T.n_list (by decide +kernel) rfl) pa_nil))) pa_nil))))) (pw_or1 (pt_cmpR op_ne (pe_callB call_isi (by rfl) T.n_isinstance (by decide +kernel) (pa_cons (pv 0) (pa_cons (pe_bltn (v := .ty "list") (u := .type "list") (by rfl) T.n_list (by decide +kernel) rfl) pa_nil))) (pe_callB call_isi (by rfl) T.n_isinstance (by decide +kernel) (pa_cons (pv 1) (pa_cons (pe_bltn (v := .ty "list") (u := .type "list") (by rfl) T.n_list (by decide +kernel) rfl) pa_nil))) (nomark _)))))
  (pss_one (ps_ret pe_bl))
  pss_nil)
  (pss_cons (ps_if (pt_cmpR op_ne (pe_callB call_len (by rfl) T.n_len (by decide +kernel) (pa_cons (pv 0) pa_nil)) (pe_callB call_len (by rfl) T.n_len (by decide +kernel) (pa_cons (pv 1) pa_nil)) (nomark _))
  (pss_one (ps_ret pe_bl))
  pss_nil)
  (pss_one (ps_ret (pe_cmpR (op_eqD hr.units) (pe_lc (own := [("_law_k", 3)]) (g := (gName 3)) (tt := (tNot (tB (tCall _ _ _ (tCons (tOp (rIx K) (tVar 0) (tVar 3)) (tCons (tOp (rIx K) (tVar 1) (tVar 3)) tNil)))))) (te := (tVar 3)) rfl sc_w_same.nd (pi_range1 (by rfl) T.n_range (pa_cons (pe_callB call_len (by rfl) T.n_len (by decide +kernel) (pa_cons (pv 1) pa_nil)) pa_nil)) (blkOk_by (N := N_w_same) (sc := defScope s_w_same) (by decide +kernel)) (fun _ _ _ _ _ => (pg_name (i := 3) sc_w_same.nd rfl (.inl rfl))) (fun _ _ _ _ _ => (pts_one (pt_not (pt_val (pe_call G_w_same hr (by rfl) T.g_w_same T.F_w_same.kp T.b_w_same .nil pass0 (pa_cons (pe_ix ix_seq (pv 0) (pv 3) (fun _ _ => rfl)) (pa_cons (pe_ix ix_seq (pv 1) (pv 3) (fun _ _ => rfl)) pa_nil))))))) (fun _ _ _ _ _ => (pv 3))) (pe_lst pa_nil) (nomark _))))))
  pss_nil)
  (pss_cons (ps_set (i := 2) sc_w_same.nd rfl (.inl rfl) (pe_and (pe_cmpR op_eq (pe_callB call_isi (by rfl) T.n_isinstance (by decide +kernel) (pa_cons (pv 0) (pa_cons (pe_bltn (v := .ty "bool") (u := .type "bool") (by rfl) T.n_bool (by decide +kernel) rfl) pa_nil))) (pe_callB call_isi (by rfl) T.n_isinstance (by decide +kernel) (pa_cons (pv 1) (pa_cons (pe_bltn (v := .ty "bool") (u := .type "bool") (by rfl) T.n_bool (by decide +kernel) rfl) pa_nil))) (nomark _)) (pe_one (pe_cmpR op_eq (pe_callB call_isi (by rfl) T.n_isinstance (by decide +kernel) (pa_cons (pv 0) (pa_cons (pe_bltn (v := .ty "int") (u := .type "int") (by rfl) T.n_int (by decide +kernel) rfl) pa_nil))) (pe_callB call_isi (by rfl) T.n_isinstance (by decide +kernel) (pa_cons (pv 1) (pa_cons (pe_bltn (v := .ty "int") (u := .type "int") (by rfl) T.n_int (by decide +kernel) rfl) pa_nil))) (nomark _)))))
  (pss_one (ps_ret (pe_and (pv 2) (pe_one (pe_cmpR op_eq (pv 0) (pv 1) (nomark _)))))))), ?_⟩
    have key : Scal d ∨ ∃ (m : Nat) (b : Bool) (a1 a2 : Addr) (xs1 xs2 : List V) (ds : List PyData), n = m + 1 ∧ v1 = .ref a1 ∧ v2 = .ref a2 ∧ Sq K b H a1 xs1 ∧ Sq K b H a2 xs2 ∧ DpAll K H xs1 ds ∧ DpAll K H xs2 ds ∧ ds.length ≤ 1000000 ∧ ∀ d ∈ ds, Sized m d := by
      cases hz with
      | sc h => exact .inl h
      | tup hl hds =>
        cases h1 with
        | tup q1 d1 =>
          cases h2 with
          | tup q2 d2 => exact .inr ⟨_, false, _, _, _, _, _, rfl, rfl, rfl, q1, q2, d1, d2, hl, hds⟩
      | lst hl hds =>
        cases h1 with
        | lst q1 d1 =>
          cases h2 with
          | lst q2 d2 => exact .inr ⟨_, true, _, _, _, _, _, rfl, rfl, rfl, q1, q2, d1, d2, hl, hds⟩
    rcases key with hs | ⟨m, b, a1, a2, xs1, xs2, ds, em, rfl, rfl, q1, q2, d1, d2, hl, hds⟩
    · have nt : ∃ (x : String) (c1 c2 : Bool), (∀ H, TyX K H v1 (.type x)) ∧ v2 = v1 ∧ scal v1 v1 = true ∧ kitB x "tuple" = some false ∧ kitB x "list" = some false ∧ kitB x "bool" = some c1 ∧ kitB x "int" = some c2 := by
        cases h1 with
        | non => cases h2; exact ⟨"NoneType", false, false, fun H => .base .non, rfl, rfl, by decide +kernel, by decide +kernel, by decide +kernel, by decide +kernel⟩
        | bl b => cases h2; exact ⟨"bool", true, true, fun H => .base (.bl b), rfl, rfl, by decide +kernel, by decide +kernel, by decide +kernel, by decide +kernel⟩
        | int b => cases h2; exact ⟨"int", false, true, fun H => .base (.int b), rfl, rfl, by decide +kernel, by decide +kernel, by decide +kernel, by decide +kernel⟩
        | str b => cases h2; exact ⟨"str", false, false, fun H => .base (.str b), rfl, rfl, by decide +kernel, by decide +kernel, by decide +kernel, by decide +kernel⟩
        | tup _ _ => exact hs.elim
        | lst _ _ => exact hs.elim
      obtain ⟨x, c1, c2, ty, rfl, fl, k1, k2, k3, k4⟩ := nt
      refine ⟨_, rfl, by show 2 ≤ sizeLine; decide, fun tp htp => ⟨_, tp, _, _, _, _, rfl, upd_same, .cons (.ty _) (.cons (.ty _) .nil), ty _, kany k1 k2, false, rfl, iteF ?_⟩⟩
      have s1 := same_upd (o := .tup [.ty "tuple", .ty "list"]) htp
      refine ⟨_, rfl, _, _, _, _, c1, rfl, .ty "bool", ty _, kv k3, _, rfl, _, _, _, _, c1, rfl, .ty "bool", ty _, kv k3, rfl, _, rfl, ?_⟩
      rw [if_pos (decide_eq_true rfl)]
      refine ⟨_, rfl, _, _, _, _, c2, rfl, .ty "int", ty _, kv k4, _, rfl, _, _, _, _, c2, rfl, .ty "int", ty _, kv k4, rfl, ?_⟩
      refine ⟨_, rfl, true, ?_, ?_⟩
      · show V.bl (decide (V.bl c2 = V.bl c2)) = _
        rw [decide_eq_true rfl]
      rw [if_pos rfl]
      refine ⟨_, rfl, _, rfl, fl, ?_⟩
      rw [decide_eq_true rfl]
      exact q _ s1
    · have l1 : xs1.length = ds.length := DpAll.length d1
      have l2 : xs2.length = ds.length := DpAll.length d2
      refine ⟨_, rfl, by show 2 ≤ sizeLine; decide, fun tp htp => ⟨_, tp, _, _, _, _, rfl, upd_same, .cons (.ty _) (.cons (.ty _) .nil), (q2.same (same_upd htp)).ty, kany (r1 := !b) (r2 := b) (by cases b <;> decide +kernel) (by cases b <;> decide +kernel), true, by cases b <;> rfl, iteT ?_⟩⟩
      have s1 := same_upd (o := .tup [.ty "tuple", .ty "list"]) htp
      refine ⟨_, rfl, by show 2 ≤ sizeLine; decide, fun tp2 htp2 => ⟨_, tp2, _, _, _, _, rfl, upd_same, .cons (.ty _) (.cons (.ty _) .nil), (q1.same (s1.trans (same_upd htp2))).ty, kany (r1 := !b) (r2 := b) (by cases b <;> decide +kernel) (by cases b <;> decide +kernel), true, by cases b <;> rfl, iteF ?_⟩⟩
      have s2 := s1.trans (same_upd (o := .tup [.ty "tuple", .ty "list"]) htp2)
      generalize upd (upd H tp (.tup [.ty "tuple", .ty "list"])) tp2 (.tup [.ty "tuple", .ty "list"]) = H2 at s2 ⊢
      have kl : kitB (seqTy b) "list" = some b := by cases b <;> decide +kernel
      refine ⟨_, rfl, _, _, _, _, b, rfl, .ty "list", (q1.same s2).ty, kv kl, _, rfl, _, _, _, _, b, rfl, .ty "list", (q2.same s2).ty, kv kl, rfl, _, rfl, itnd rfl ?_⟩
      refine ⟨_, rfl, _, _, rfl, (q1.same s2).len, _, rfl, _, _, rfl, (q2.same s2).len, rfl, _, rfl, itnd (by rw [l1, l2]) ?_⟩
      refine ⟨_, rfl, _, _, rfl, (q2.same s2).len, _, rfl, by omega, by omega, fun D hD => ?_⟩
      refine walk_by (walk_range (n := xs2.length)) (fun i H3 => Same H2 H3 ∧ H3 D = some (.lst [])) ⟨same_upd hD, upd_same⟩ (fun _ _ _ _ => True.intro) ?_ ?_
      · rintro i x H3 H4 hi ⟨s3, eD⟩ ⟨rfl, hx⟩
        have s3' := s2.trans s3
        have hi1 : i < xs1.length := by omega
        obtain ⟨e1, he1, f1⟩ := DpAll.get d1 (List.getElem?_eq_getElem hi1)
        obtain ⟨e2, he2, f2⟩ := DpAll.get d2 (List.getElem?_eq_getElem hi)
        rw [he1] at he2
        cases he2
        obtain rfl : x = .int (i : Nat) := by
          rw [hx]
          show V.int ((0 : Int) + ((i : Nat) : Int)) = _
          rw [Int.zero_add]
        refine ⟨rfl, _, rfl, _, rfl, (q1.same s3').ix (List.getElem?_eq_getElem hi1) ⟨_, rfl, _, rfl, (q2.same s3').ix (List.getElem?_eq_getElem hi) ?_⟩⟩
        refine hG _ _ _ _ m em ⟨_, _, e1, rfl, Dp.same s3' f1, Dp.same s3' f2, hds _ (List.mem_of_getElem? he1), fun H5 s5 => ⟨true, rfl, iteF ⟨s3.trans s5, s5 _ _ eD⟩⟩⟩
      · rintro H3 ⟨s3, eD⟩
        refine ⟨by show 0 ≤ sizeLine; decide, fun l2 hl2 => ⟨.list [], .list [], .lst (SqL.of (same_upd hl2 _ _ eD)) .nil, .lst (SqL.of upd_same) .nil, by decide +kernel, by decide +kernel, ?_⟩⟩
        exact q _ (s2.trans (s3.trans (same_upd hl2)))
theorem ok_w_same (T : Tx K w mg A) : ∀ n : Nat, FnOk P w K mg base CX0 (n + 1) A.f_w_same A.fd_w_same P_w_same (spSame K n)
  | 0 => step_w_same (P := P) (base := base) T 0 (fun _ _ _ _ => False) ⟨fun _ _ _ _ h => h.elim, fun _ _ _ _ _ _ _ _ _ _ _ _ _ h => h.elim⟩ fun _ _ _ _ _ e => nomatch e
  | n + 1 => step_w_same (P := P) (base := base) T (n + 1) (spSame K n) (ok_w_same T n) fun _ _ _ _ _ e h => by
    cases e
    exact h
end
end Cs
namespace Cs
open PySem PySem.Spec L2
/-! ## names in their order: a, b, c .. -/
instance okName_dec (x : Str) : Decidable (okName x) := by unfold okName sign; infer_instance
def lt (i : Nat) : Str := ⟨#[97 + i]⟩
theorem lt_ok : ∀ i < 26, okName (lt i) := by decide +kernel
theorem lt_len (i : Nat) : (lt i).length = 1 := rfl
/-- names of one sign -/
def Tr.one : Tr → Prop
  | .let_ x _ t => x.length = 1 ∧ t.one
  | .if_ _ _ _ t u => t.one ∧ u.one
  | .claim _ _ _ t => t.one
  | .tell _ => True
def Tr.ok1 (hs : Hd) (kd : Kd) (ns : Nm) (t : Tr) : Prop := t.ok hs kd ns ∧ t.one
def Fn.one (f : Fn) : Prop := (∀ p ∈ f.ps, p.1.length = 1) ∧ f.tr.one
theorem lt_inj {i j : Nat} (h : lt i = lt j) : i = j := by
  have h2 : (lt i).cps.toList = (lt j).cps.toList := by rw [h]
  simp [lt] at h2
  omega
theorem abc_at : ∀ i < 26, ("abcdefghijklmnopqrstuvwxyz" : Str).cps.toList[i]? = some (97 + i) := by decide +kernel
theorem abc3_at : ∀ i < 3, ("abc" : Str).cps.toList[i]? = some (97 + i) := by decide +kernel
/-- the i-th name is the i-th letter -/
def KnOk (ns : Nm) : Prop := ∀ (i : Nat) p, ns[i]? = some p → p.1 = lt i
theorem KnOk.look {ns : Nm} (h : KnOk ns) {x : Str} {kd : Kd} (hm : (x, kd) ∈ ns) : Cs.look ns x = some kd := by
  obtain ⟨i, hi, e⟩ := List.mem_iff_getElem.mp hm
  have e1 : ns[i]? = some (x, kd) := by rw [List.getElem?_eq_getElem hi, e]
  have x1 : x = lt i := h i _ e1
  unfold Cs.look
  have f : ns.find? (fun p => decide (p.1 = x)) = some (x, kd) := by
    rw [List.find?_eq_some_iff_getElem]
    refine ⟨decide_eq_true rfl, i, hi, e, fun j hj => ?_⟩
    have hj2 : j < ns.length := Nat.lt_trans hj hi
    have xj : (ns[j]).1 = lt j := h j _ (List.getElem?_eq_getElem hj2)
    rw [xj, x1]
    rw [decide_eq_false fun z => by have := lt_inj z; omega]
    rfl
  rw [f]
  rfl
theorem KnOk.fresh {ns : Nm} (h : KnOk ns) : Cs.look ns (lt ns.length) = none := by
  unfold Cs.look
  rw [Option.map_eq_none_iff, List.find?_eq_none]
  intro p hp
  obtain ⟨i, hi, e⟩ := List.mem_iff_getElem.mp hp
  have x1 : p.1 = lt i := h i _ (by rw [List.getElem?_eq_getElem hi, e])
  rw [decide_eq_true_iff, x1]
  intro z
  have := lt_inj z
  omega
theorem KnOk.snoc {ns : Nm} (h : KnOk ns) (kd : Kd) : KnOk (ns ++ [(lt ns.length, kd)]) := fun i p e => by
  rcases Nat.lt_or_ge i ns.length with hi | hi
  · rw [List.getElem?_append_left hi] at e
    exact h i p e
  · rw [List.getElem?_append_right hi] at e
    have e0 : i - ns.length = 0 := by
      rcases Nat.eq_zero_or_pos (i - ns.length) with h | h
      · exact h
      · rw [List.getElem?_eq_none (by show 1 ≤ _; exact h)] at e
        cases e
    rw [e0] at e
    cases e
    show lt ns.length = lt i
    rw [show i = ns.length by omega]
theorem itd_true {A B : Prop} {b : Bool} (a : A) (h : b = true := by rfl) : if b = true then A else B := by rw [if_pos h]; exact a
theorem itn_false {A B : Prop} {b : Bool} (x : B) (h : b = false := by rfl) : if b = true then A else B := by rw [if_neg (by rw [h]; exact Bool.false_ne_true)]; exact x
theorem look_snoc {ns : Nm} {x : Str} {kd : Kd} (h : look ns x = none) : look (ns ++ [(x, kd)]) x = some kd := by
  unfold look at *
  rw [Option.map_eq_none_iff] at h
  rw [List.find?_append, h]
  simp
/-- the names of a kind -/
def namesOf (ns : Nm) (kd : Kd) : List Str := (ns.filter fun p => decide (p.2 = kd)).map (·.1)
theorem namesOf_look {ns : Nm} (h : KnOk ns) {kd : Kd} {x : Str} (hm : x ∈ namesOf ns kd) : Cs.look ns x = some kd := by
  obtain ⟨p, hp, rfl⟩ := List.mem_map.mp hm
  obtain ⟨h1, h2⟩ := List.mem_filter.mp hp
  have e : p.2 = kd := of_decide_eq_true h2
  exact h.look (show (p.1, kd) ∈ ns by rw [← e]; exact h1)
theorem namesOf_len (ns : Nm) (kd : Kd) : (namesOf ns kd).length ≤ ns.length := by
  unfold namesOf
  rw [List.length_map]
  exact List.length_filter_le _ _
theorem namesOf_take {ns : Nm} {i : Nat} {p : Str × Kd} (kd : Kd) (h : ns[i]? = some p) : namesOf (ns.take (i + 1)) kd = namesOf (ns.take i) kd ++ if p.2 = kd then [p.1] else [] := by
  unfold namesOf
  rw [List.take_add_one, h]
  show List.map _ (List.filter _ (ns.take i ++ [p])) = _
  rw [List.filter_append, List.map_append]
  by_cases e : p.2 = kd
  · rw [List.filter_cons_of_pos (by exact decide_eq_true e), if_pos e]
    rfl
  · rw [List.filter_cons_of_neg (by rw [decide_eq_false e]; exact Bool.false_ne_true), if_neg e]
    rfl
section
variable {K : PySem.W.Frag} {H H1 : Hp}
/-- the list of (name, kind) -/
def KnAt (K : PySem.W.Frag) (H : Hp) (l : Addr) (ns : Nm) : Prop := ∃ qs : List Addr, H l = some (.lst (qs.map V.ref)) ∧ Paired (PrAt K H) qs ns
theorem KnAt.same {l : Addr} {ns : Nm} (s : Same H H1) : KnAt K H l ns → KnAt K H1 l ns
  | ⟨qs, h1, h2⟩ => ⟨qs, s _ _ h1, Paired.mapP h2 fun _ _ q => q.same (sameI_of s)⟩
/-- a list that isn't the drawing state stays -/
theorem Dw.seq {B : Hp} {st l : Addr} {xs : List V} (d : Dw K B H st) (s : SameX st H H1) (n : ∀ a i, V.int i ∉ xs ∨ V.ref a ∉ xs) (h : SqL K H l xs) : SqL K H1 l xs := by
  obtain ⟨sc, ns, i, mx, r, e, _⟩ := d
  have key : ∀ o, (o = .lst xs ∨ ∃ u, o = .frz u (.lst xs)) → H l = some o → H1 l = some o := fun o ho hl => by
    refine s l o (fun z => ?_) hl
    rw [z, e] at hl
    cases hl
    rcases ho with ho | ⟨u, ho⟩
    · injection ho with ho
      rcases n sc i with n | n
      · exact n (by rw [← ho]; simp)
      · exact n (by rw [← ho]; simp)
    · cases ho
  rcases h with (h | ⟨o, h⟩) | h
  · exact .inl (.inl (key _ (.inl rfl) h))
  · exact .inl (.inr ⟨o, key _ (.inr ⟨o, rfl⟩) h⟩)
  · exact .inr h
theorem refs_no (qs : List Addr) (a : Addr) (i : Int) : V.int i ∉ qs.map V.ref ∨ V.ref a ∉ qs.map V.ref := .inl fun h => by
  obtain ⟨_, _, e⟩ := List.mem_map.mp h
  cases e
theorem KnAt.step {B : Hp} {st l : Addr} {ns : Nm} (d : Dw K B H st) (s : SameX st H H1) : KnAt K H l ns → KnAt K H1 l ns
  | ⟨qs, h1, h2⟩ => ⟨qs, s _ _ (fun z => by
      obtain ⟨sc, ns', i, mx, r, e, _⟩ := d
      rw [z, e] at h1
      have h3 : [V.ref sc, .int i, .int mx, .int r] = qs.map V.ref := by injection (Option.some.inj h1)
      rcases refs_no qs sc i with h | h
      · exact h (by rw [← h3]; simp)
      · exact h (by rw [← h3]; simp)) h1, Paired.mapP h2 fun _ _ q => q.same (d.i s)⟩
end
end Cs
namespace Cs
open PySem PySem.Spec L2
/-! ## programs that can be, by a check -/
def Dd.chk (hs : Hd) (ns : Nm) : Dd → Option Kd
  | .num n => if near n then some .num else none
  | .sum x n => if look ns x = some .num ∧ near n then some .num else none
  | .len l => if look ns l = some .lst then some .num else none
  | .nil => some .lst
  | .put x l => if look ns x = some .num ∧ look ns l = some .lst then some .lst else none
  | .head l => if look ns l = some .lst then some .num else none
  | .tail l => if look ns l = some .lst then some .lst else none
  | .at_ l x => if look ns l = some .lst ∧ look ns x = some .num then some .num else none
  | .ask => some .num
  | .call f xs => if 1 ≤ f then (match hs[f]? with
    | some h => if xs.map (look ns) = h.1.map some then some h.2 else none
    | none => none) else none
theorem paired_of_map {ns : Nm} : ∀ {xs : List Str} {ks : List Kd}, xs.map (look ns) = ks.map some → Paired (fun x kd => look ns x = some kd) xs ks
  | [], [], _ => .nil
  | [], _ :: _, e => by cases e
  | _ :: _, [], e => by cases e
  | x :: xs, k :: ks, e => by
    rw [List.map_cons, List.map_cons] at e
    injection e with e1 e2
    exact .cons e1 (paired_of_map e2)
theorem ite_some {c : Prop} [Decidable c] {a k : Kd} (h : (if c then some a else none) = some k) : c ∧ a = k := by
  by_cases g : c
  · rw [if_pos g] at h
    cases h
    exact ⟨g, rfl⟩
  · rw [if_neg g] at h
    cases h
theorem Dd.chk_ok {hs : Hd} {ns : Nm} {d : Dd} {k : Kd} (h : d.chk hs ns = some k) : d.ok hs ns k := by
  cases d with
  | num n => obtain ⟨g, e⟩ := ite_some (c := near n) (a := .num) h; exact ⟨g, e.symm⟩
  | sum x n => obtain ⟨g, e⟩ := ite_some (c := look ns x = some .num ∧ near n) (a := .num) h; exact ⟨g.1, g.2, e.symm⟩
  | len l => obtain ⟨g, e⟩ := ite_some (c := look ns l = some .lst) (a := .num) h; exact ⟨g, e.symm⟩
  | nil => exact (Option.some.inj h).symm
  | put x l => obtain ⟨g, e⟩ := ite_some (c := look ns x = some .num ∧ look ns l = some .lst) (a := .lst) h; exact ⟨g.1, g.2, e.symm⟩
  | head l => obtain ⟨g, e⟩ := ite_some (c := look ns l = some .lst) (a := .num) h; exact ⟨g, e.symm⟩
  | tail l => obtain ⟨g, e⟩ := ite_some (c := look ns l = some .lst) (a := .lst) h; exact ⟨g, e.symm⟩
  | at_ l x => obtain ⟨g, e⟩ := ite_some (c := look ns l = some .lst ∧ look ns x = some .num) (a := .num) h; exact ⟨g.1, g.2, e.symm⟩
  | ask => exact (Option.some.inj h).symm
  | call f xs =>
    change (if 1 ≤ f then (match hs[f]? with
      | some h => if xs.map (look ns) = h.1.map some then some h.2 else none
      | none => none) else none) = some k at h
    by_cases g : 1 ≤ f
    · rw [if_pos g] at h
      cases eh : hs[f]? with
      | none => rw [eh] at h; cases h
      | some hh =>
        rw [eh] at h
        obtain ⟨e, e2⟩ := ite_some (c := xs.map (look ns) = hh.1.map some) (a := hh.2) h
        exact ⟨g, hh, eh, paired_of_map e, e2.symm⟩
    · rw [if_neg g] at h
      cases h
def Ms.chk (ns : Nm) : Ms → Bool
  | .zero => true
  | .of x => decide (look ns x = some .num)
  | .len x => decide (look ns x = some .lst)
theorem Ms.chk_ok {ns : Nm} {m : Ms} (h : m.chk ns = true) : m.ok ns := by
  cases m with
  | zero => exact True.intro
  | of x => exact of_decide_eq_true (p := look ns x = some .num) h
  | len x => exact of_decide_eq_true (p := look ns x = some .lst) h
def Tr.chk (hs : Hd) (k : Kd) : Nm → Tr → Bool
  | ns, .let_ x d t => decide (okName x) && decide (look ns x = none) && (match d.chk hs ns with
    | some kd => Tr.chk hs k (ns ++ [(x, kd)]) t
    | none => false)
  | ns, .if_ a b n t u => a.chk ns && b.chk ns && decide (near n) && Tr.chk hs k ns t && Tr.chk hs k ns u
  | ns, .claim a b n t => a.chk ns && b.chk ns && decide (near n) && Tr.chk hs k ns t
  | ns, .tell x => decide (look ns x = some k)
theorem Tr.chk_ok {hs : Hd} {k : Kd} : ∀ {t : Tr} {ns : Nm}, Tr.chk hs k ns t = true → t.ok hs k ns
  | .let_ x d t, ns, h => by
    unfold Tr.chk at h
    rw [Bool.and_eq_true, Bool.and_eq_true] at h
    obtain ⟨⟨h1, h2⟩, h3⟩ := h
    split at h3
    · rename_i kd e
      exact ⟨of_decide_eq_true h1, of_decide_eq_true h2, kd, Dd.chk_ok e, Tr.chk_ok h3⟩
    · cases h3
  | .if_ a b n t u, ns, h => by
    unfold Tr.chk at h
    rw [Bool.and_eq_true, Bool.and_eq_true, Bool.and_eq_true, Bool.and_eq_true] at h
    obtain ⟨⟨⟨⟨h1, h2⟩, h3⟩, h4⟩, h5⟩ := h
    exact ⟨Ms.chk_ok h1, Ms.chk_ok h2, of_decide_eq_true h3, Tr.chk_ok h4, Tr.chk_ok h5⟩
  | .claim a b n t, ns, h => by
    unfold Tr.chk at h
    rw [Bool.and_eq_true, Bool.and_eq_true, Bool.and_eq_true] at h
    obtain ⟨⟨⟨h1, h2⟩, h3⟩, h4⟩ := h
    exact ⟨Ms.chk_ok h1, Ms.chk_ok h2, of_decide_eq_true h3, Tr.chk_ok h4⟩
  | .tell x, ns, h => of_decide_eq_true (p := look ns x = some k) h
def Fn.chk (hs : Hd) (f : Fn) : Bool := decide (f.ps.length ≤ 4) && decide (∀ p ∈ f.ps, okName p.1) && decide ((f.ps.map (·.1)).Nodup) && f.tr.chk hs f.kd f.ps && decide (f.tr.size ≤ 60) && decide (f.tr.deep ≤ 20)
theorem Fn.chk_ok {hs : Hd} {f : Fn} (h : f.chk hs = true) : f.ok hs := by
  unfold Fn.chk at h
  simp only [Bool.and_eq_true, decide_eq_true_eq] at h
  obtain ⟨⟨⟨⟨⟨h1, h2⟩, h3⟩, h4⟩, h5⟩, h6⟩ := h
  exact ⟨h1, h2, h3, Tr.chk_ok h4, h5, h6⟩
def chkPg (fs : List Fn) : Bool := decide (1 ≤ fs.length) && decide (fs.length ≤ 6) && fs.all fun f => f.chk (fs.map Fn.hd)
theorem chkPg_ok {fs : List Fn} (h : chkPg fs = true) : okPg fs := by
  unfold chkPg at h
  simp only [Bool.and_eq_true, decide_eq_true_eq, List.all_eq_true] at h
  exact ⟨h.1.1, h.1.2, fun f hf => Fn.chk_ok (h.2 f hf)⟩
/-! ## the four loops -/
def tDown : Tr := .if_ (.of "n") .zero 0 (.let_ "e" .nil (.tell "e")) (.let_ "a" (.sum "n" (-1)) (.let_ "b" (.call 1 ["a"]) (.let_ "c" (.put "n" "b") (.tell "c"))))
def pRange : List Fn := [⟨[("n", .num)], .lst, .let_ "x" (.call 1 ["n"]) (.tell "x")⟩, ⟨[("n", .num)], .lst, tDown⟩]
def tGo (m : Int) : Tr := .if_ (.len "l") (.of "i") m (.let_ "z" (.num 0) (.tell "z")) (.let_ "x" (.at_ "l" "i") (.let_ "j" (.sum "i" 1) (.let_ "y" (.call 1 ["l", "j"]) (.tell "y"))))
def tBegun (n : Int) : Tr := .let_ "i" (.num n) (.let_ "x" (.call 1 ["l", "i"]) (.tell "x"))
def pOver (n m : Int) : List Fn := [⟨[("l", .lst)], .num, tBegun n⟩, ⟨[("l", .lst), ("i", .num)], .num, tGo m⟩]
def tCopy (n m : Int) : Tr := .if_ (.len "l") .zero m (.let_ "e" .nil (.tell "e")) (.let_ "h" (.head "l") (.let_ "t" (.tail "l") (.let_ "r" (.call 1 ["t"]) (.let_ "s" (.sum "h" n) (.let_ "o" (.put "s" "r") (.tell "o"))))))
def pCopies (n m : Int) : List Fn := [⟨[("l", .lst)], .lst, .let_ "r" (.call 1 ["l"]) (.claim (.len "r") (.len "l") 0 (.tell "r"))⟩, ⟨[("l", .lst)], .lst, tCopy n m⟩]
def tLeast (m : Int) : Tr := .if_ (.len "l") .zero 1 (.let_ "h" (.head "l") (.tell "h")) (.let_ "h" (.head "l") (.let_ "t" (.tail "l") (.let_ "r" (.call 1 ["t"]) (.if_ (.of "h") (.of "r") m (.tell "h") (.tell "r")))))
def pLeasts (m : Int) : List Fn := [⟨[("l", .lst)], .num, .if_ (.len "l") .zero 0 (.let_ "z" (.num 0) (.tell "z")) (.let_ "x" (.call 1 ["l"]) (.tell "x"))⟩, ⟨[("l", .lst)], .num, tLeast m⟩]
theorem pRange_ok : okPg pRange := chkPg_ok (by decide +kernel)
theorem three {P : Int → Prop} {n : Int} (a b : Int) (h0 : a ≤ n) (h1 : n < a + 3) (p0 : P a) (p1 : P (a + 1)) (p2 : P (a + 2)) : P n := by
  by_cases e : n = a
  · rw [e]; exact p0
  · by_cases e2 : n = a + 1
    · rw [e2]; exact p1
    · rw [show n = a + 2 by omega]; exact p2
theorem pOver_ok {n m : Int} (n0 : 0 ≤ n) (n3 : n < 0 + 3) (m0 : -1 ≤ m) (m3 : m < -1 + 3) : okPg (pOver n m) := by
  refine three (P := fun n => okPg (pOver n m)) 0 0 n0 n3 ?_ ?_ ?_ <;> refine three (P := fun m => okPg (pOver _ m)) (-1) 0 m0 m3 ?_ ?_ ?_ <;> exact chkPg_ok (by decide +kernel)
theorem pCopies_ok {n m : Int} (n0 : 0 ≤ n) (n3 : n < 0 + 3) (m0 : -1 ≤ m) (m3 : m < -1 + 3) : okPg (pCopies n m) := by
  refine three (P := fun n => okPg (pCopies n m)) 0 0 n0 n3 ?_ ?_ ?_ <;> refine three (P := fun m => okPg (pCopies _ m)) (-1) 0 m0 m3 ?_ ?_ ?_ <;> exact chkPg_ok (by decide +kernel)
theorem pLeasts_ok {m : Int} (m0 : -1 ≤ m) (m3 : m < -1 + 3) : okPg (pLeasts m) := by
  refine three (P := fun m => okPg (pLeasts m)) (-1) 0 m0 m3 ?_ ?_ ?_ <;> exact chkPg_ok (by decide +kernel)
end Cs
namespace Cs
open PySem PySem.Spec L2
section
variable {P : Program} {w : World} {K : PySem.W.Frag} {mg : Str → Option Value} {base : Heap} {A : Adr}
def spOf (K : PySem.W.Frag) : Sp := fun vs H Q _ => ∃ (l : Addr) (kd : Kd) (ns : Nm), vs = [.ref l, kd.v] ∧ KnAt K H l ns ∧ ns.length ≤ 1000 ∧ ∀ H1 p, Same H H1 → H p = none → H1 p = some (.lst ((namesOf ns kd).map V.str)) → Q (.ref p) H1
theorem ok_w_of (T : Tx K w mg A) : FnOk P w K mg base CX0 1 A.f_w_of A.fd_w_of P_w_of (spOf K) := by
  refine T.F_w_of.ok sc_w_of (fun vs H Q E h => ?_) (fun cdv AA outer s H vs Q E hr h => ?_)
  · obtain ⟨l, kd, ns, rfl, _⟩ := h
    rfl
  · obtain ⟨l, kd, ns, rfl, ⟨qs, hl, hq⟩, hn, q⟩ := h
    refine ⟨_, (pss_one (ps_ret (pe_lc (own := [("_law_name", 2), ("_law_sort", 3)]) (g := (gTup K 2 (gCons (gName 2) (gCons (gName 3) gNil)))) (tt := _) (te := (tVar 2)) rfl sc_w_of.nd (pi_list (pv 0)) (blkOk_by (N := N_w_of) (sc := defScope s_w_of) (by decide +kernel)) (fun _ _ _ _ _ => (pg_tup (by rfl) (pgs_cons (pg_name (i := 2) sc_w_of.nd rfl (.inl rfl)) (pgs_cons (pg_name (i := 3) sc_w_of.nd rfl (.inl rfl)) pgs_nil)))) (fun _ _ _ _ _ => (pts_one (pt_cmpR op_eq (pv 3) (pv 1) (nomark _)))) (fun _ _ _ _ _ => (pv 2))))), ?_⟩
    have lq : qs.length = ns.length := Paired.length hq
    have hl := SqL.of (K := K) hl
    refine ⟨_, rfl, l, rfl, ⟨_, hl⟩, fun D hD => ?_⟩
    refine walk_by (walk_list (K := K) (a := l) (xs := qs.map V.ref)) (fun i H1 => Same H H1 ∧ H1 D = some (.lst ((namesOf (ns.take i) kd).map V.str))) ⟨same_upd hD, upd_same⟩ (fun _ _ _ h => h.1.seq hl) ?_ ?_
    · rintro i x H1 H2 hi ⟨s1, e1⟩ ⟨rfl, hx⟩
      rw [List.getElem?_map] at hx
      obtain ⟨t, ht, rfl⟩ := Option.map_eq_some_iff.mp hx
      obtain ⟨p, hp, hat⟩ := paired_get hq ht
      have hlen : (namesOf (ns.take i) kd).length ≤ 1000 := by
        have h1 := namesOf_len (ns.take i) kd
        rw [List.length_take] at h1
        omega
      refine ⟨t, _, rfl, Same.tup s1 hat, rfl, _, _, rfl, _, _, rfl, rfl, rfl, _, rfl, _, rfl, rfl, _, rfl, ?_⟩
      by_cases e : p.2 = kd
      · refine itd (by rw [e]) ⟨_, rfl, _, e1, smaller (by rw [List.length_map]; omega), Same.old s1 hD, ?_⟩
        rw [upd_same, namesOf_take kd hp, if_pos e, List.map_append]
        rfl
      · refine itn (fun z => e (Kd.v_inj (V.str.inj z))) ⟨s1, ?_⟩
        rw [namesOf_take kd hp, if_neg e, List.append_nil]
        exact e1
    · rintro H1 ⟨s1, e1⟩
      rw [List.length_map, lq, List.take_length] at e1
      exact q _ D s1 hD e1
def spMeas (K : PySem.W.Frag) : Sp := fun vs H Q _ => ∃ (B : Hp) (st l : Addr) (ns : Nm), vs = [.ref st, .ref l] ∧ Same B H ∧ B st = none ∧ Dw K B H st ∧ KnAt K H l ns ∧ KnOk ns ∧ ns.length ≤ 1000 ∧
  ∀ H1 mv m, SameX st H H1 → Dw K B H1 st → Im K H1 mv (Ms.d m) → m.ok ns → Q mv H1
theorem ok_w_measure (T : Tx K w mg A) : FnOk P w K mg base CX0 2 A.f_w_measure A.fd_w_measure P_w_measure (spMeas K) := by
  have G_w_of := ok_w_of (P := P) (base := base) T
  have G_w_drawn := ok_w_drawn (P := P) (base := base) T
  refine T.F_w_measure.ok sc_w_measure (fun vs H Q E h => ?_) (fun cdv AA outer s H vs Q E hr h => ?_)
  · obtain ⟨B, st, l, ns, rfl, _⟩ := h
    rfl
  · obtain ⟨B, st, l, ns, rfl, sB, nB, dw, hkn, hok, hlen, q⟩ := h
    refine ⟨_, (pss_cons (ps_set (i := 2) sc_w_measure.nd rfl (.inl rfl) (pe_op op_cat (pe_lst (pa_cons (pe_tup pa_nil) pa_nil)) (pe_lc (own := [("_law_name", 3)]) (g := (gName 3)) (tt := tYes) (te := _) rfl sc_w_measure.nd (pi_list (pe_call G_w_of (hr.mono (by decide)) (by rfl) T.g_w_of T.F_w_of.kp T.b_w_of .nil pass0 (pa_cons (pv 1) (pa_cons pe_str pa_nil)))) (blkOk_by (N := N_w_measure) (sc := defScope s_w_measure) (by decide +kernel)) (fun _ _ _ _ _ => (pg_name (i := 3) sc_w_measure.nd rfl (.inl rfl))) (fun _ _ _ _ _ => pts_nil) (fun _ _ _ _ _ => (pe_tup (pa_cons pe_str (pa_cons (pv 3) pa_nil)))))))
  (pss_cons (ps_set (i := 2) sc_w_measure.nd rfl (.inl rfl) (pe_op op_cat (pv 2) (pe_lc (own := [("_law_name", 3)]) (g := (gName 3)) (tt := tYes) (te := _) rfl sc_w_measure.nd (pi_list (pe_call G_w_of (hr.mono (by decide)) (by rfl) T.g_w_of T.F_w_of.kp T.b_w_of .nil pass0 (pa_cons (pv 1) (pa_cons pe_str pa_nil)))) (blkOk_by (N := N_w_measure) (sc := defScope s_w_measure) (by decide +kernel)) (fun _ _ _ _ _ => (pg_name (i := 3) sc_w_measure.nd rfl (.inl rfl))) (fun _ _ _ _ _ => pts_nil) (fun _ _ _ _ _ => (pe_tup (pa_cons pe_str (pa_cons (pv 3) pa_nil)))))))
  (pss_one (ps_ret (pe_ix ix_list (pv 2) (pe_call G_w_drawn (hr.mono (by decide)) (by rfl) T.g_w_drawn T.F_w_drawn.kp T.b_w_drawn .nil pass0 (pa_cons (pv 0) (pa_cons (pe_callB call_len (by rfl) T.n_len (by decide +kernel) (pa_cons (pv 2) pa_nil)) pa_nil))) (fun _ _ => rfl)))))), ?_⟩
    refine ⟨by show 0 ≤ sizeLine; decide, fun z hz => ⟨by show 1 ≤ sizeLine; decide, fun l0 hl0 => ?_⟩⟩
    have s1 := (same_upd (o := .tup []) hz).trans (same_upd (o := .lst [.ref z]) hl0)
    have ez : upd (upd H z (.tup [])) l0 (.lst [.ref z]) z = some (.tup []) := same_upd hl0 _ _ upd_same
    have e0 : upd (upd H z (.tup [])) l0 (.lst [.ref z]) l0 = some (.lst [.ref z]) := upd_same
    generalize upd (upd H z (.tup [])) l0 (.lst [.ref z]) = H1 at s1 ez e0 ⊢
    refine ⟨_, rfl, l, .num, ns, rfl, hkn.same s1, hlen, fun H2 p2 s2 n2 e2 => ⟨p2, rfl, ⟨_, SqL.of e2⟩, fun D hD => ?_⟩⟩
    have ln1 := namesOf_len ns .num
    have ln2 := namesOf_len ns .lst
    refine lc_data (walk_list (K := K) (a := p2) (xs := (namesOf ns .num).map V.str)) (fun _ y H => ∃ m : Ms, m.ok ns ∧ Im K H y m.d) (fun _ _ _ _ si ⟨m, h1, h2⟩ => ⟨m, h1, h2.same si⟩) hD (fun H1 s1 => SqL.of (s1 _ _ e2)) (by rw [List.length_map]; omega) ?_ ?_
    · rintro i x H3 H4 k hi s3 ⟨rfl, hx⟩ hk
      rw [List.getElem?_map] at hx
      obtain ⟨nme, hnm, rfl⟩ := Option.map_eq_some_iff.mp hx
      refine ⟨rfl, _, rfl, by show 2 ≤ sizeLine; decide, fun t ht => hk _ _ (same_upd ht) ⟨.of nme, namesOf_look hok (List.mem_of_getElem? hnm), .tup (.inl (.inl upd_same)) (.cons (.str _) (.cons (.str _) .nil))⟩⟩
    · rintro H3 acc s3 e3 l3 hE3
      have s13 := s2.trans s3
      refine ⟨l0, D, _, _, rfl, rfl, s13 _ _ e0, e3, small (by rw [l3, List.length_map]; show 1 + _ ≤ _; omega), fun p3 hp3 => ?_⟩
      have s4 := same_upd (o := .lst ([.ref z] ++ acc)) hp3
      have e4 : upd H3 p3 (.lst ([.ref z] ++ acc)) p3 = some (.lst ([.ref z] ++ acc)) := upd_same
      generalize upd H3 p3 (.lst ([.ref z] ++ acc)) = H4 at s4 e4 ⊢
      have s14 := s1.trans (s13.trans s4)
      refine ⟨_, rfl, _, rfl, l, .lst, ns, rfl, hkn.same s14, hlen, fun H5 p5 s5 n5 e5 => ⟨p5, rfl, ⟨_, SqL.of e5⟩, fun D2 hD2 => ?_⟩⟩
      refine lc_data (walk_list (K := K) (a := p5) (xs := (namesOf ns .lst).map V.str)) (fun _ y H => ∃ m : Ms, m.ok ns ∧ Im K H y m.d) (fun _ _ _ _ si ⟨m, h1, h2⟩ => ⟨m, h1, h2.same si⟩) hD2 (fun H1 s1 => SqL.of (s1 _ _ e5)) (by rw [List.length_map]; omega) ?_ ?_
      · rintro i x H6 H7 k hi s6 ⟨rfl, hx⟩ hk
        rw [List.getElem?_map] at hx
        obtain ⟨nme, hnm, rfl⟩ := Option.map_eq_some_iff.mp hx
        refine ⟨rfl, _, rfl, by show 2 ≤ sizeLine; decide, fun t ht => hk _ _ (same_upd ht) ⟨.len nme, namesOf_look hok (List.mem_of_getElem? hnm), .tup (.inl (.inl upd_same)) (.cons (.str _) (.cons (.str _) .nil))⟩⟩
      · rintro H6 acc2 s6 e6 l6 hE6
        have s46 := s5.trans s6
        rw [List.length_map] at l3 l6
        refine ⟨p3, D2, _, _, rfl, rfl, s46 _ _ e4, e6, small (by rw [List.length_append, l3, l6]; show 1 + _ + _ ≤ _; omega), fun p7 hp7 => ?_⟩
        have s7 := same_upd (o := .lst (([.ref z] ++ acc) ++ acc2)) hp7
        have e7 : upd H6 p7 (.lst (([.ref z] ++ acc) ++ acc2)) p7 = some (.lst (([.ref z] ++ acc) ++ acc2)) := upd_same
        generalize upd H6 p7 (.lst (([.ref z] ++ acc) ++ acc2)) = H7 at s7 e7 ⊢
        have s17 := s14.trans (s46.trans s7)
        have all : ∀ y ∈ ([V.ref z] ++ acc) ++ acc2, ∃ m : Ms, m.ok ns ∧ Im K H7 y m.d := by
          intro y hy
          rcases List.mem_append.mp hy with h | h
          · rcases List.mem_append.mp h with h | h
            · rw [List.mem_singleton.mp h]
              exact ⟨.zero, True.intro, .tup (.inl (.inl ((s13.trans (s4.trans (s46.trans s7))) _ _ ez))) .nil⟩
            · obtain ⟨i, hi, e⟩ := List.mem_iff_getElem.mp h
              obtain ⟨m, h1, h2⟩ := hE3 i y (by rw [List.getElem?_eq_getElem hi, e])
              exact ⟨m, h1, h2.same (sameI_of (s4.trans (s46.trans s7)))⟩
          · obtain ⟨i, hi, e⟩ := List.mem_iff_getElem.mp h
            obtain ⟨m, h1, h2⟩ := hE6 i y (by rw [List.getElem?_eq_getElem hi, e])
            exact ⟨m, h1, h2.same (sameI_of s7)⟩
        have dw7 := dw.step s17
        have lall : (([V.ref z] ++ acc) ++ acc2).length = 1 + acc.length + acc2.length := by rw [List.length_append, List.length_append]; rfl
        generalize ([V.ref z] ++ acc) ++ acc2 = xs at e7 all lall ⊢
        refine ⟨_, rfl, _, rfl, _, rfl, _, xs.length, rfl, .inl ⟨_, SqL.of e7, rfl⟩, B, st, _, rfl, sB.trans s17, nB, dw7, by omega, by omega, fun H8 d d0 d1 x8 dw8 => ?_⟩
        have ne : p7 ≠ st := (dw.step (s14.trans s46)).ne hp7
        obtain ⟨j, rfl⟩ := Int.eq_ofNat_of_zero_le d0
        have hj : j < xs.length := by omega
        obtain ⟨m, m1, m2⟩ := all _ (List.getElem_mem hj)
        exact ⟨p7, xs, _, _, rfl, rfl, SqL.of (x8 _ _ ne e7), atI_nat (List.getElem?_eq_getElem hj), q _ _ m ((sameX_of s17).trans x8) dw8 (m2.same (dw7.i x8)) m1⟩
end
end Cs
namespace Cs
open PySem PySem.Spec L2
section
variable {P : Program} {w : World} {K : PySem.W.Frag} {mg : Str → Option Value} {base : Heap} {A : Adr}
/-- a deed with the kind that it tells -/
def DeedIt (K : PySem.W.Frag) (hs : Hd) (ns : Nm) (H : Hp) (y : V) : Prop := ∃ (dd : Dd) (kd : Kd) (t1 t2 : Addr) (xs : List V) (ds : List PyData), y = .ref t2 ∧ SqT K H t2 [.ref t1, kd.v] ∧ SqT K H t1 xs ∧ ImAll K H xs ds ∧ dd.d = .tuple ds ∧ dd.ok hs ns kd
theorem DeedIt.same {hs : Hd} {ns : Nm} {H H1 : Hp} {y : V} (s : SameI H H1) : DeedIt K hs ns H y → DeedIt K hs ns H1 y
  | ⟨dd, kd, t1, t2, xs, ds, e, h1, h2, h3, h4, h5⟩ => ⟨dd, kd, t1, t2, xs, ds, e, s.tup h1, s.tup h2, h3.same s, h4, h5⟩
theorem DeedIt.mk {hs : Hd} {ns : Nm} {H H1 : Hp} {t1 t2 : Addr} {xs : List V} {ds : List PyData} (dd : Dd) (kd : Kd) (s : Same H H1) (e1 : H t1 = some (.tup xs)) (e2 : H1 t2 = some (.tup [.ref t1, kd.v])) (h3 : ImAll K H xs ds) (h4 : dd.d = .tuple ds) (h5 : dd.ok hs ns kd) : DeedIt K hs ns H1 (.ref t2) :=
  ⟨dd, kd, t1, t2, xs, ds, rfl, .inl (.inl e2), .inl (.inl (s _ _ e1)), h3.same (sameI_of s), h4, h5⟩
/-- the head of a function as the law keeps it -/
def HdAt (K : PySem.W.Frag) (H : Hp) (v : V) (h : Nm × Kd) : Prop := ∃ (a p : Addr) (qs : List Addr), v = .ref a ∧ SqT K H a [.ref p, h.2.v] ∧ PlT H p (qs.map V.ref) ∧ Paired (PrAt K H) qs h.1
theorem HdAt.same {H H1 : Hp} {v : V} {h : Nm × Kd} (s : SameI H H1) : HdAt K H v h → HdAt K H1 v h
  | ⟨a, p, qs, e, h1, h2, h3⟩ => ⟨a, p, qs, e, s.tup h1, s.pl h2, Paired.mapP h3 fun _ _ q => q.same s⟩
abbrev hdsOf (hs : List (Nm × Kd)) : Hd := hs.map fun h => (h.1.map (·.2), h.2)
def HdsAt (K : PySem.W.Frag) (H : Hp) (l : Addr) (hs : List (Nm × Kd)) : Prop := ∃ vs, SqL K H l vs ∧ Paired (HdAt K H) vs hs
theorem HdsAt.same {H H1 : Hp} {l : Addr} {hs : List (Nm × Kd)} (s : Same H H1) : HdsAt K H l hs → HdsAt K H1 l hs
  | ⟨vs, h1, h2⟩ => ⟨vs, s.seq h1, Paired.mapP h2 fun _ _ q => q.same (sameI_of s)⟩
theorem hd_no {H : Hp} : ∀ {vs : List V} {hs : List (Nm × Kd)}, Paired (HdAt K H) vs hs → ∀ i : Int, V.int i ∉ vs
  | _, _, .nil, _, h => by cases h
  | _, _, .cons ⟨a, _, _, e, _⟩ t, i, h => by
    rcases List.mem_cons.mp h with h | h
    · rw [e] at h
      cases h
    · exact hd_no t i h
theorem HdsAt.step {B H H1 : Hp} {st l : Addr} {hs : List (Nm × Kd)} (d : Dw K B H st) (s : SameX st H H1) : HdsAt K H l hs → HdsAt K H1 l hs
  | ⟨vs, h1, h2⟩ => ⟨vs, d.seq s (fun _ i => .inl (hd_no h2 i)) h1, Paired.mapP h2 fun _ _ q => q.same (d.i s)⟩
theorem cut_str (l : List Str) (lo hi : Option Int) : ∃ m : List Str, cutV (l.map V.str) lo hi = m.map V.str ∧ (∀ x ∈ m, x ∈ l) ∧ m.length ≤ l.length := by
  refine ⟨(l.drop (HT.sIx (l.map V.str).length 0 lo)).take (HT.sIx (l.map V.str).length (l.map V.str).length hi - HT.sIx (l.map V.str).length 0 lo), ?_, fun x hx => List.mem_of_mem_drop (List.mem_of_mem_take hx), ?_⟩
  · unfold cutV
    rw [← List.map_drop, ← List.map_take]
  · rw [List.length_take, List.length_drop]
    omega
theorem cut_one (xs : List V) : (cutV xs none (some 1)).length ≤ 1 := by
  unfold cutV
  rw [show HT.sIx xs.length xs.length (some 1) = min 1 xs.length from HT.sIx_nat _ _ 1, List.length_take]
  omega
def spDeedW (K : PySem.W.Frag) : Sp := fun vs H Q _ => ∃ (B : Hp) (st hl l : Addr) (hs : List (Nm × Kd)) (ns : Nm), vs = [.ref st, .ref hl, .ref l] ∧ Same B H ∧ B st = none ∧ Dw K B H st ∧ HdsAt K H hl hs ∧ hs.length ≤ 10 ∧ (∀ h ∈ hs, h.1.length ≤ 10) ∧ KnAt K H l ns ∧ KnOk ns ∧ ns.length ≤ 26 ∧
  ∀ H1 y, SameX st H H1 → Dw K B H1 st → DeedIt K (hdsOf hs) ns H1 y → Q y H1
set_option maxHeartbeats 8000000 in
theorem ok_w_deed (T : Tx K w mg A) : FnOk P w K mg base CX0 2 A.f_w_deed A.fd_w_deed P_w_deed (spDeedW K) := by
  have G_w_of := ok_w_of (P := P) (base := base) T
  have G_w_drawn := ok_w_drawn (P := P) (base := base) T
  refine T.F_w_deed.ok sc_w_deed (fun vs H Q E h => ?_) (fun cdv AA outer s H vs Q E hr h => ?_)
  · obtain ⟨B, st, hl, l, hs, ns, rfl, _⟩ := h
    rfl
  · obtain ⟨B, st, hl, l, hs, ns, rfl, sB, nB, dw, hhs, lhs, lpar, hkn, hok, hlen, q⟩ := h
    refine ⟨_, (pss_cons (ps_par (i := 3) (j := 4) (by rfl) sc_w_deed.nd rfl rfl (by decide) rfl rfl (pa_cons (pe_call G_w_of (hr.mono (by decide)) (by rfl) T.g_w_of T.F_w_of.kp T.b_w_of .nil pass0 (pa_cons (pv 2) (pa_cons pe_str pa_nil))) (pa_cons (pe_call G_w_of (hr.mono (by decide)) (by rfl) T.g_w_of T.F_w_of.kp T.b_w_of .nil pass0 (pa_cons (pv 2) (pa_cons pe_str pa_nil))) pa_nil)) (by rfl))
  (pss_cons (ps_set (i := 5) sc_w_deed.nd rfl (.inl rfl) (pe_op op_sub (pe_call G_w_drawn (hr.mono (by decide)) (by rfl) T.g_w_drawn T.F_w_drawn.kp T.b_w_drawn .nil pass0 (pa_cons (pv 0) (pa_cons pe_int pa_nil))) pe_int))
  (pss_cons (ps_set (i := 6) sc_w_deed.nd rfl (.inl rfl) (pe_lst (pa_cons (pe_tup (pa_cons (pe_tup (pa_cons pe_str (pa_cons (pv 5) pa_nil))) (pa_cons pe_str pa_nil))) (pa_cons (pe_tup (pa_cons (pe_tup (pa_cons pe_str pa_nil)) (pa_cons pe_str pa_nil))) (pa_cons (pe_tup (pa_cons (pe_tup (pa_cons pe_str pa_nil)) (pa_cons pe_str pa_nil))) pa_nil)))))
  (pss_cons (ps_for PassesOwn.never rfl (pi_list (pv 3)) (pg_name (i := 7) sc_w_deed.nd rfl (.inr rfl))
  (pss_cons (ps_expr (pe_bm PySem.F.plainAttrs_list PySem.F.slot_list_append PySem.F.type_list_append mt_append (pv 6) (pa_cons (pe_tup (pa_cons (pe_tup (pa_cons pe_str (pa_cons (pv 7) (pa_cons (pv 5) pa_nil)))) (pa_cons pe_str pa_nil))) pa_nil)))
  (pss_cons (ps_set (i := 6) sc_w_deed.nd rfl (.inl rfl) (pe_op op_cat (pv 6) (pe_lc (own := [("_law_items", 8)]) (g := (gName 8)) (tt := tYes) (te := _) rfl sc_w_deed.nd (pi_list (pv 4)) (blkOk_by (N := N_w_deed) (sc := defScope s_w_deed) (by decide +kernel)) (fun _ _ _ _ _ => (pg_name (i := 8) sc_w_deed.nd rfl (.inl rfl))) (fun _ _ _ _ _ => pts_nil) (fun _ _ _ _ _ => (pe_tup (pa_cons (pe_tup (pa_cons pe_str (pa_cons (pv 7) (pa_cons (pv 8) pa_nil)))) (pa_cons pe_str pa_nil)))))))
  (pss_one (ps_set (i := 6) sc_w_deed.nd rfl (.inl rfl) (pe_op op_cat (pv 6) (pe_lc (own := [("_law_items", 8)]) (g := (gName 8)) (tt := tYes) (te := _) rfl sc_w_deed.nd (pi_list (pv 4)) (blkOk_by (N := N_w_deed) (sc := defScope s_w_deed) (by decide +kernel)) (fun _ _ _ _ _ => (pg_name (i := 8) sc_w_deed.nd rfl (.inl rfl))) (fun _ _ _ _ _ => pts_nil) (fun _ _ _ _ _ => (pe_tup (pa_cons (pe_tup (pa_cons pe_str (pa_cons (pv 8) (pa_cons (pv 7) pa_nil)))) (pa_cons pe_str pa_nil)))))))))))
  (pss_cons (ps_for PassesOwn.never rfl (pi_list (pv 4)) (pg_name (i := 8) sc_w_deed.nd rfl (.inl rfl))
  (pss_one (ps_set (i := 6) sc_w_deed.nd rfl (.inl rfl) (pe_op op_cat (pv 6) (pe_lst (pa_cons (pe_tup (pa_cons (pe_tup (pa_cons pe_str (pa_cons (pv 8) pa_nil))) (pa_cons pe_str pa_nil))) (pa_cons (pe_tup (pa_cons (pe_tup (pa_cons pe_str (pa_cons (pv 8) pa_nil))) (pa_cons pe_str pa_nil))) (pa_cons (pe_tup (pa_cons (pe_tup (pa_cons pe_str (pa_cons (pv 8) pa_nil))) (pa_cons pe_str pa_nil))) pa_nil))))))))
  (pss_cons (ps_for PassesOwn.never rfl (pi_range2 (by rfl) T.n_range (pa_cons pe_int (pa_cons (pe_callB call_len (by rfl) T.n_len (by decide +kernel) (pa_cons (pv 1) pa_nil)) pa_nil))) (pg_name (i := 9) sc_w_deed.nd rfl (.inl rfl))
  (pss_cons (ps_set (i := 10) sc_w_deed.nd rfl (.inl rfl) (pe_lst pa_nil))
  (pss_cons (ps_for PassesOwn.never rfl (pi_tup (pe_ix ix_tup (pe_ix ix_list (pv 1) (pv 9) (fun _ _ => rfl)) pe_int (fun _ _ => rfl))) (pg_tup (by rfl) (pgs_cons (pg_name (i := 7) sc_w_deed.nd rfl (.inr rfl)) (pgs_cons (pg_name (i := 11) sc_w_deed.nd rfl (.inl rfl)) pgs_nil)))
  (pss_one (ps_set (i := 10) sc_w_deed.nd rfl (.inl rfl) (pe_op op_cat (pv 10) (pe_slice sl_list (pe_slice sl_list (pe_call G_w_of (hr.mono (by decide)) (by rfl) T.g_w_of T.F_w_of.kp T.b_w_of .nil pass0 (pa_cons (pv 2) (pa_cons (pv 11) pa_nil))) (po_some (pe_op op_modN (pe_call G_w_drawn (hr.mono (by decide)) (by rfl) T.g_w_drawn T.F_w_drawn.kp T.b_w_drawn .nil pass0 (pa_cons (pv 0) (pa_cons pe_int pa_nil))) (pe_callB (call_max2 rfl) (by rfl) T.n_max (by decide +kernel) (pa_cons pe_int (pa_cons (pe_callB call_len (by rfl) T.n_len (by decide +kernel) (pa_cons (pe_call G_w_of (hr.mono (by decide)) (by rfl) T.g_w_of T.F_w_of.kp T.b_w_of .nil pass0 (pa_cons (pv 2) (pa_cons (pv 11) pa_nil))) pa_nil)) pa_nil))))) po_none) po_none (po_some pe_int))))))
  (pss_one (ps_if (pt_cmpR op_eq (pe_callB call_len (by rfl) T.n_len (by decide +kernel) (pa_cons (pv 10) pa_nil)) (pe_callB call_len (by rfl) T.n_len (by decide +kernel) (pa_cons (pe_ix ix_tup (pe_ix ix_list (pv 1) (pv 9) (fun _ _ => rfl)) pe_int (fun _ _ => rfl)) pa_nil)) (nomark _))
  (pss_one (ps_set (i := 6) sc_w_deed.nd rfl (.inl rfl) (pe_op op_cat (pv 6) (pe_op op_rep (pe_lst (pa_cons (pe_tup (pa_cons (pe_tup (pa_cons pe_str (pa_cons (pv 9) (pa_cons (pe_callTy cr_tupF (by rfl) T.n_tuple (by decide +kernel) (pa_cons (pv 10) pa_nil)) pa_nil)))) (pa_cons (pe_ix ix_tup (pe_ix ix_list (pv 1) (pv 9) (fun _ _ => rfl)) pe_int (fun _ _ => rfl)) pa_nil))) pa_nil)) pe_int))))
  pss_nil)))))
  (pss_one (ps_ret (pe_ix ix_list (pv 6) (pe_call G_w_drawn (hr.mono (by decide)) (by rfl) T.g_w_drawn T.F_w_drawn.kp T.b_w_drawn .nil pass0 (pa_cons (pv 0) (pa_cons (pe_callB call_len (by rfl) T.n_len (by decide +kernel) (pa_cons (pv 6) pa_nil)) pa_nil))) (fun _ _ => rfl)))))))))), ?_⟩

    -- those, lists
    refine ⟨_, rfl, l, .num, ns, rfl, hkn, by omega, fun H1 p1 s1 n1 e1 => ?_⟩
    refine ⟨_, rfl, l, .lst, ns, rfl, hkn.same s1, by omega, fun H2 p2 s2 n2 e2 => ?_⟩
    have ln1 := namesOf_len ns .num
    have ln2 := namesOf_len ns .lst
    have nx1 : ∀ x ∈ namesOf ns .num, look ns x = some .num := fun x hx => namesOf_look hok hx
    have nx2 : ∀ x ∈ namesOf ns .lst, look ns x = some .lst := fun x hx => namesOf_look hok hx
    generalize hN1 : namesOf ns .num = N1 at e1 ln1 nx1
    generalize hN2 : namesOf ns .lst = N2 at e2 ln2 nx2
    have s02 := s1.trans s2
    have dw2 := dw.step s02
    -- n
    refine ⟨_, _, rfl, _, rfl, B, st, 5, rfl, sB.trans s02, nB, dw2, by decide, by decide, fun H3 d d0 d5 x3 dw3 => ⟨_, _, rfl, rfl, ?_⟩⟩
    have p1st : p1 ≠ st := dw.ne n1
    have p2st : p2 ≠ st := (dw.step s1).ne n2
    have e1' : H3 p1 = some (.lst (N1.map V.str)) := x3 _ _ p1st (s2 _ _ e1)
    have e2' : H3 p2 = some (.lst (N2.map V.str)) := x3 _ _ p2st e2
    have nr : near (d - 2) := by unfold near; omega
    have sB3 : Same B H3 := SameX.same (sB.trans s02) x3 nB
    have x03 : SameX st H H3 := (sameX_of s02).trans x3
    have hkn3 := hkn.step dw x03
    have hhs3 := hhs.step dw x03
    -- some
    refine ⟨_, rfl, by show 2 ≤ sizeLine; decide, fun t1 h1 => ⟨by show 2 ≤ sizeLine; decide, fun t2 h2 => ⟨by show 1 ≤ sizeLine; decide, fun t3 h3 => ⟨by show 2 ≤ sizeLine; decide, fun t4 h4 => ⟨by show 1 ≤ sizeLine; decide, fun t5 h5 => ⟨by show 2 ≤ sizeLine; decide, fun t6 h6 => ⟨by show 3 ≤ sizeLine; decide, fun sl hsl => ?_⟩⟩⟩⟩⟩⟩⟩
    have a1 := same_upd (o := .tup [.str "num", .int (d - 2)]) h1
    have a2 := same_upd (o := .tup [.ref t1, .str "number"]) h2
    have a3 := same_upd (o := .tup [.str "nil"]) h3
    have a4 := same_upd (o := .tup [.ref t3, .str "list"]) h4
    have a5 := same_upd (o := .tup [.str "ask"]) h5
    have a6 := same_upd (o := .tup [.ref t5, .str "number"]) h6
    have a7 := same_upd (o := .lst [.ref t2, .ref t4, .ref t6]) hsl
    have y1 : DeedIt K (hdsOf hs) ns _ (.ref t2) := .mk (.num (d - 2)) .num a2 upd_same upd_same (.cons (.str _) (.cons (.int _) .nil)) rfl ⟨nr, rfl⟩
    have y2 : DeedIt K (hdsOf hs) ns _ (.ref t4) := .mk .nil .lst a4 upd_same upd_same (.cons (.str _) .nil) rfl rfl
    have y3 : DeedIt K (hdsOf hs) ns _ (.ref t6) := .mk .ask .num a6 upd_same upd_same (.cons (.str _) .nil) rfl rfl
    have sx : Same H3 _ := a1.trans (a2.trans (a3.trans (a4.trans (a5.trans (a6.trans a7)))))
    have ysx : ∀ y ∈ [V.ref t2, V.ref t4, V.ref t6], DeedIt K (hdsOf hs) ns _ y := fun y hy => by
      rcases List.mem_cons.mp hy with e | hy
      · rw [e]; exact y1.same (sameI_of (a3.trans (a4.trans (a5.trans (a6.trans a7)))))
      · rcases List.mem_cons.mp hy with e | hy
        · rw [e]; exact y2.same (sameI_of (a5.trans (a6.trans a7)))
        · rw [List.mem_singleton.mp hy]; exact y3.same (sameI_of a7)
    have nsl : H3 sl = none := (a1.trans (a2.trans (a3.trans (a4.trans (a5.trans a6))))).free hsl
    -- names
    refine ⟨_, rfl, p1, rfl, ⟨_, SqL.of (sx _ _ e1')⟩, for_it (walk_list (K := K) (a := p1) (xs := N1.map V.str)) (fun i σ H4 => ∃ sl xs y7, σ = [some (.ref st), some (.ref hl), some (.ref l), some (.ref p1), some (.ref p2), some (.int (d - 2)), some (.ref sl), y7, none, none, none, none] ∧ Same H3 H4 ∧ H3 sl = none ∧ H4 sl = some (.lst xs) ∧ (1 ≤ xs.length ∧ xs.length ≤ 3 + i * 100) ∧ ∀ y ∈ xs, DeedIt K (hdsOf hs) ns H4 y)
      ⟨sl, _, none, rfl, sx, nsl, upd_same, ⟨by simp, Nat.le_refl _⟩, ysx⟩ (fun i σ H4 _ ⟨_, _, _, _, h, _⟩ => SqL.of (h _ _ e1')) ?_ ?_⟩
    · rintro i v7 σ H4p H4 hi ⟨sl, xs, y7, rfl, s4, nsl, esl, ⟨l0, lxs⟩, hxs⟩ ⟨rfl, hv⟩
      rw [List.getElem?_map] at hv
      obtain ⟨x, hx, rfl⟩ := Option.map_eq_some_iff.mp hv
      rw [List.length_map] at hi
      have kx : look ns x = some .num := nx1 x (List.mem_of_getElem? hx)
      -- append
      refine ⟨_, rfl, .inl ⟨rfl, _, SqL.of esl⟩, _, rfl, _, rfl, by show 3 ≤ sizeLine; decide, fun t1 h1 => ⟨by show 2 ≤ sizeLine; decide, fun t2 h2 => ?_⟩⟩
      have a1 := same_upd (o := .tup [.str "sum", .str x, .int (d - 2)]) h1
      have a2 := same_upd (o := .tup [.ref t1, .str "number"]) h2
      have z1 : DeedIt K (hdsOf hs) ns _ (.ref t2) := .mk (.sum x (d - 2)) .num a2 upd_same upd_same (.cons (.str _) (.cons (.str _) (.cons (.int _) .nil))) rfl ⟨kx, nr, rfl⟩
      have a12 := a1.trans a2
      generalize upd (upd H4 t1 (.tup [.str "sum", .str x, .int (d - 2)])) t2 (.tup [.ref t1, .str "number"]) = H5 at a12 z1 ⊢
      have esl5 := a12 _ _ esl
      refine ⟨sl, xs, _, rfl, rfl, esl5, smaller (by omega), ?_⟩
      have i5 := sameI_upd (o := .lst (xs ++ [.ref t2])) esl5 id
      have s6 : Same H3 (upd H5 sl (.lst (xs ++ [.ref t2]))) := Same.old (s4.trans a12) nsl
      have e6 : upd H5 sl (.lst (xs ++ [.ref t2])) sl = some (.lst (xs ++ [.ref t2])) := upd_same
      have h6 : ∀ y ∈ xs ++ [.ref t2], DeedIt K (hdsOf hs) ns (upd H5 sl (.lst (xs ++ [.ref t2]))) y := fun y hy => by
        rcases List.mem_append.mp hy with h | h
        · exact (hxs y h).same ((sameI_of a12).trans i5)
        · rw [List.mem_singleton.mp h]; exact z1.same i5
      have l6 : (xs ++ [V.ref t2]).length ≤ 4 + i * 100 := by rw [List.length_append]; show _ + 1 ≤ _; omega
      have l6' : 1 ≤ (xs ++ [V.ref t2]).length := by rw [List.length_append]; omega
      generalize xs ++ [V.ref t2] = ys at s6 e6 h6 l6 l6' ⊢
      generalize upd H5 sl (.lst ys) = H6 at s6 e6 h6 ⊢
      -- put
      refine ⟨_, rfl, _, rfl, p2, rfl, ⟨_, SqL.of (s6 _ _ e2')⟩, fun D hD => ?_⟩
      refine lc_data (walk_list (K := K) (a := p2) (xs := N2.map V.str)) (fun _ y H => DeedIt K (hdsOf hs) ns H y) (fun _ _ _ _ si h => h.same si) hD (fun H1 s1 => SqL.of (s1 _ _ (s6 _ _ e2'))) (by rw [List.length_map]; omega) ?_ ?_
      · rintro j v8 H7p H7 k hj s7 ⟨rfl, hv8⟩ hk
        rw [List.getElem?_map] at hv8
        obtain ⟨z, hz, rfl⟩ := Option.map_eq_some_iff.mp hv8
        have kz : look ns z = some .lst := nx2 z (List.mem_of_getElem? hz)
        refine ⟨rfl, _, rfl, _, rfl, by show 3 ≤ sizeLine; decide, fun t1 h1 => ⟨by show 2 ≤ sizeLine; decide, fun t2 h2 => ?_⟩⟩
        have a1 := same_upd (o := .tup [.str "put", .str x, .str z]) h1
        have a2 := same_upd (o := .tup [.ref t1, .str "list"]) h2
        exact hk _ _ (a1.trans a2) (.mk (.put x z) .lst a2 upd_same upd_same (.cons (.str _) (.cons (.str _) (.cons (.str _) .nil))) rfl ⟨kx, kz, rfl⟩)
      rintro H7 acc s7 e7 l7 hE7
      rw [List.length_map] at l7
      refine ⟨sl, D, ys, acc, rfl, rfl, s7 _ _ e6, e7, small (by omega), fun q8 hq8 => ?_⟩
      have s8 := same_upd (o := .lst (ys ++ acc)) hq8
      have h8 : ∀ y ∈ ys ++ acc, DeedIt K (hdsOf hs) ns (upd H7 q8 (.lst (ys ++ acc))) y := fun y hy => by
        rcases List.mem_append.mp hy with h | h
        · exact (h6 y h).same (sameI_of (s7.trans s8))
        · obtain ⟨j, hj, e⟩ := List.mem_iff_getElem.mp h
          exact (hE7 j y (by rw [List.getElem?_eq_getElem hj, e])).same (sameI_of s8)
      have l8 : (ys ++ acc).length ≤ 30 + i * 100 := by rw [List.length_append]; omega
      have s38 : Same H3 (upd H7 q8 (.lst (ys ++ acc))) := s6.trans (s7.trans s8)
      have e8 : upd H7 q8 (.lst (ys ++ acc)) q8 = some (.lst (ys ++ acc)) := upd_same
      have n8 : H3 q8 = none := (s6.trans s7).free hq8
      have l8' : 1 ≤ (ys ++ acc).length := by rw [List.length_append]; omega
      generalize ys ++ acc = ws at s38 e8 h8 l8 l8' ⊢
      generalize upd H7 q8 (.lst ws) = H8 at s38 e8 h8 ⊢
      -- at
      refine ⟨_, rfl, _, rfl, p2, rfl, ⟨_, SqL.of (s38 _ _ e2')⟩, fun D hD => ?_⟩
      refine lc_data (walk_list (K := K) (a := p2) (xs := N2.map V.str)) (fun _ y H => DeedIt K (hdsOf hs) ns H y) (fun _ _ _ _ si h => h.same si) hD (fun H1 s1 => SqL.of (s1 _ _ (s38 _ _ e2'))) (by rw [List.length_map]; omega) ?_ ?_
      · rintro j v8 H9p H9 k hj s9 ⟨rfl, hv8⟩ hk
        rw [List.getElem?_map] at hv8
        obtain ⟨z, hz, rfl⟩ := Option.map_eq_some_iff.mp hv8
        have kz : look ns z = some .lst := nx2 z (List.mem_of_getElem? hz)
        refine ⟨rfl, _, rfl, _, rfl, by show 3 ≤ sizeLine; decide, fun t1 h1 => ⟨by show 2 ≤ sizeLine; decide, fun t2 h2 => ?_⟩⟩
        have a1 := same_upd (o := .tup [.str "at", .str z, .str x]) h1
        have a2 := same_upd (o := .tup [.ref t1, .str "number"]) h2
        exact hk _ _ (a1.trans a2) (.mk (.at_ z x) .num a2 upd_same upd_same (.cons (.str _) (.cons (.str _) (.cons (.str _) .nil))) rfl ⟨kz, kx, rfl⟩)
      rintro H9 acc2 s9 e9 l9 hE9
      rw [List.length_map] at l9
      refine ⟨q8, D, ws, acc2, rfl, rfl, s9 _ _ e8, e9, small (by omega), fun q10 hq10 => ?_⟩
      have s10 := same_upd (o := .lst (ws ++ acc2)) hq10
      refine ⟨q10, ws ++ acc2, _, rfl, s38.trans (s9.trans s10), (s38.trans s9).free hq10, upd_same, ⟨by rw [List.length_append]; omega, by rw [List.length_append]; omega⟩, fun y hy => ?_⟩
      rcases List.mem_append.mp hy with h | h
      · exact (h8 y h).same (sameI_of (s9.trans s10))
      · obtain ⟨j, hj, e⟩ := List.mem_iff_getElem.mp h
        exact (hE9 j y (by rw [List.getElem?_eq_getElem hj, e])).same (sameI_of s10)
    rintro σ H4 ⟨sl, xs, y7, rfl, s4, nsl, esl, ⟨l0, lxs⟩, hxs⟩
    rw [List.length_map] at lxs
    -- lists
    refine ⟨_, rfl, p2, rfl, ⟨_, SqL.of (s4 _ _ e2')⟩, for_it (walk_list (K := K) (a := p2) (xs := N2.map V.str)) (fun i σ H4 => ∃ sl xs y8, σ = [some (.ref st), some (.ref hl), some (.ref l), some (.ref p1), some (.ref p2), some (.int (d - 2)), some (.ref sl), y7, y8, none, none, none] ∧ Same H3 H4 ∧ H4 sl = some (.lst xs) ∧ (1 ≤ xs.length ∧ xs.length ≤ 3003 + i * 3) ∧ ∀ y ∈ xs, DeedIt K (hdsOf hs) ns H4 y)
      ⟨sl, xs, none, rfl, s4, esl, ⟨l0, by omega⟩, hxs⟩ (fun i σ H4 _ ⟨_, _, _, _, h, _⟩ => SqL.of (h _ _ e2')) ?_ ?_⟩
    · clear hxs lxs l0 esl nsl s4
      rintro i v8 σ H4p H4 hi ⟨sl, xs, y8, rfl, s4, esl, ⟨l0, lxs⟩, hxs⟩ ⟨rfl, hv⟩
      rw [List.getElem?_map] at hv
      obtain ⟨z, hz, rfl⟩ := Option.map_eq_some_iff.mp hv
      rw [List.length_map] at hi
      have kz : look ns z = some .lst := nx2 z (List.mem_of_getElem? hz)
      refine ⟨_, rfl, _, rfl, by show 2 ≤ sizeLine; decide, fun t1 h1 => ⟨by show 2 ≤ sizeLine; decide, fun t2 h2 => ⟨_, rfl, by show 2 ≤ sizeLine; decide, fun t3 h3 => ⟨by show 2 ≤ sizeLine; decide, fun t4 h4 => ⟨_, rfl, by show 2 ≤ sizeLine; decide, fun t5 h5 => ⟨by show 2 ≤ sizeLine; decide, fun t6 h6 => ⟨by show 3 ≤ sizeLine; decide, fun l7 hl7 => ?_⟩⟩⟩⟩⟩⟩⟩
      have a1 := same_upd (o := .tup [.str "len", .str z]) h1
      have a2 := same_upd (o := .tup [.ref t1, .str "number"]) h2
      have a3 := same_upd (o := .tup [.str "head", .str z]) h3
      have a4 := same_upd (o := .tup [.ref t3, .str "number"]) h4
      have a5 := same_upd (o := .tup [.str "tail", .str z]) h5
      have a6 := same_upd (o := .tup [.ref t5, .str "list"]) h6
      have a7 := same_upd (o := .lst [.ref t2, .ref t4, .ref t6]) hl7
      have y1 : DeedIt K (hdsOf hs) ns _ (.ref t2) := .mk (.len z) .num a2 upd_same upd_same (.cons (.str _) (.cons (.str _) .nil)) rfl ⟨kz, rfl⟩
      have y2 : DeedIt K (hdsOf hs) ns _ (.ref t4) := .mk (.head z) .num a4 upd_same upd_same (.cons (.str _) (.cons (.str _) .nil)) rfl ⟨kz, rfl⟩
      have y3 : DeedIt K (hdsOf hs) ns _ (.ref t6) := .mk (.tail z) .lst a6 upd_same upd_same (.cons (.str _) (.cons (.str _) .nil)) rfl ⟨kz, rfl⟩
      have sx : Same H4 _ := a1.trans (a2.trans (a3.trans (a4.trans (a5.trans (a6.trans a7)))))
      refine ⟨sl, l7, xs, [.ref t2, .ref t4, .ref t6], rfl, rfl, sx _ _ esl, upd_same, small (by show xs.length + 3 ≤ _; omega), fun q8 hq8 => ?_⟩
      have s8 := same_upd (o := .lst (xs ++ [.ref t2, .ref t4, .ref t6])) hq8
      refine ⟨q8, _, _, rfl, s4.trans (sx.trans s8), upd_same, ⟨by rw [List.length_append]; omega, by rw [List.length_append]; show _ + 3 ≤ _; omega⟩, fun y hy => ?_⟩
      rcases List.mem_append.mp hy with h | hy
      · exact (hxs y h).same (sameI_of (sx.trans s8))
      · rcases List.mem_cons.mp hy with e | hy
        · rw [e]; exact y1.same (sameI_of (a3.trans (a4.trans (a5.trans (a6.trans (a7.trans s8))))))
        · rcases List.mem_cons.mp hy with e | hy
          · rw [e]; exact y2.same (sameI_of (a5.trans (a6.trans (a7.trans s8))))
          · rw [List.mem_singleton.mp hy]; exact y3.same (sameI_of (a7.trans s8))
    clear hxs lxs l0 esl nsl s4
    rintro σ H4 ⟨sl, xs, y8, rfl, s4, esl, ⟨l0, lxs⟩, hxs⟩
    rw [List.length_map] at lxs
    obtain ⟨hvs, hsq, hpd⟩ := id hhs3
    have lhv : hvs.length = hs.length := Paired.length hpd
    have slst : sl ≠ st := by
      obtain ⟨sc, ns', i', mx, r, ee, _⟩ := dw3.step s4
      intro z
      rw [z, ee] at esl
      have ex : xs = [.ref sc, .int i', .int mx, .int r] := by injection (Option.some.inj esl).symm
      obtain ⟨dd, kd, a1, a2, _, _, ez, _⟩ := hxs (.int i') (by rw [ex]; simp)
      cases ez
    -- calls
    refine ⟨_, rfl, _, _, rfl, .inl ⟨hvs, s4.seq hsq, rfl⟩, 1, (hvs.length : Nat), rfl, ⟨by decide, by decide, by omega, by omega⟩, for_it (walk_range (lo := 1) (n := (((hvs.length : Nat) : Int) - 1).toNat)) (fun i σ H5 => ∃ sl xs y7 y9 y10 y11, σ = [some (.ref st), some (.ref hl), some (.ref l), some (.ref p1), some (.ref p2), some (.int (d - 2)), some (.ref sl), y7, y8, y9, y10, y11] ∧ SameX st H3 H5 ∧ Dw K B H5 st ∧ sl ≠ st ∧ H5 sl = some (.lst xs) ∧ (1 ≤ xs.length ∧ xs.length ≤ 4000 + i * 3) ∧ ∀ y ∈ xs, DeedIt K (hdsOf hs) ns H5 y)
      ⟨sl, xs, y7, none, none, none, rfl, sameX_of s4, dw3.step s4, slst, esl, ⟨l0, by omega⟩, hxs⟩ (fun _ _ _ _ _ => True.intro) ?_ ?_⟩
    · clear hxs lxs l0 esl slst s4
      rintro i v9 σ H4p H4 hi ⟨sl, xs, y7, y9, y10, y11, rfl, x4, dw4, slst, esl, ⟨l0, lxs⟩, hxs⟩ ⟨rfl, hx9⟩
      obtain rfl : v9 = .int ((i + 1 : Nat) : Int) := by
        rw [hx9]
        show V.int ((1 : Int) + ((i : Nat) : Int)) = _
        congr 1
        omega
      have hi2 : i + 1 < hvs.length := by omega
      obtain ⟨hv, hhv⟩ : ∃ hv, hvs[i + 1]? = some hv := ⟨_, List.getElem?_eq_getElem hi2⟩
      obtain ⟨h, hh, ha, hpp, hqs, rfl, g1, g2, g3⟩ := paired_get hpd hhv
      have lph : h.1.length ≤ 10 := lpar h (List.mem_of_getElem? hh)
      have lq : hqs.length = h.1.length := Paired.length g3
      have seqH : ∀ {H' : Hp}, SameX st H3 H' → SqL K H' hl hvs := fun x => dw3.seq x (fun _ i => .inl (hd_no hpd i)) hsq
      refine ⟨by show 0 ≤ sizeLine; decide, fun nl hnl => ?_⟩
      have nlst : nl ≠ st := dw4.ne hnl
      have s5 := same_upd (o := .lst []) hnl
      have e5 : upd H4 nl (.lst []) nl = some (.lst []) := upd_same
      generalize upd H4 nl (.lst []) = H5 at s5 e5 ⊢
      have x35 : SameX st H3 H5 := x4.trans (sameX_of s5)
      have dw5 : Dw K B H5 st := dw4.step s5
      have esl5 := s5 _ _ esl
      have hxs5 : ∀ y ∈ xs, DeedIt K (hdsOf hs) ns H5 y := fun y hy => (hxs y hy).same (sameI_of s5)
      refine ⟨_, rfl, _, rfl, _, _, _, _, rfl, rfl, seqH x35, atI_nat hhv, _, _, _, _, rfl, rfl, (dw3.i x35).tup g1, atI_nat (j := 0) rfl, hpp, rfl, ⟨_, ((dw3.i x35).pl g2).sq⟩, for_it (walk_tup (K := K) (a := hpp) (xs := hqs.map V.ref)) (fun m σ H6 => ∃ y7 nl nms y11, σ = [some (.ref st), some (.ref hl), some (.ref l), some (.ref p1), some (.ref p2), some (.int (d - 2)), some (.ref sl), y7, y8, some (.int ((i + 1 : Nat) : Int)), some (.ref nl), y11] ∧
          SameX st H5 H6 ∧ Dw K B H6 st ∧ nl ≠ st ∧ H6 nl = some (.lst (nms.map V.str)) ∧ nms.length ≤ m ∧ (nms.length = m → Paired (fun x kd => look ns x = some kd) nms ((h.1.map (·.2)).take m)))
        ⟨y7, nl, [], y11, rfl, SameX.refl _ _, dw5, nlst, e5, Nat.le_refl _, fun _ => .nil⟩ (fun m σ H6 _ ⟨_, _, _, _, _, x6, _⟩ => ((dw3.i (x35.trans x6)).pl g2).sq) ?_ ?_⟩
      · clear e5 nlst hnl
        rintro m v σ H6p H6 hm ⟨y7, nl, nms, y11, rfl, x6, dw6, nlst, enl, lnm, hnm⟩ ⟨rfl, hv⟩
        rw [List.getElem?_map] at hv
        obtain ⟨t, ht, rfl⟩ := Option.map_eq_some_iff.mp hv
        obtain ⟨pr, hpr, hat⟩ := paired_get g3 ht
        have x36 := x35.trans x6
        refine ⟨t, _, rfl, (dw3.i x36).tup hat, rfl, _, _, rfl, _, _, rfl, rfl, ?_⟩
        have sB6 : Same B H6 := SameX.same sB3 x36 nB
        have hkn6 : KnAt K H6 l ns := hkn3.step dw3 x36
        refine ⟨_, rfl, _, rfl, _, rfl, l, pr.2, ns, rfl, hkn6, by omega, fun H7 p7 s7 n7 e7 => ?_⟩
        refine ⟨_, rfl, B, st, 9, rfl, sB6.trans s7, nB, dw6.step s7, by decide, by decide, fun H8 d8 d80 d89 x8 dw8 => ?_⟩
        have x68 : SameX st H6 H8 := (sameX_of s7).trans x8
        refine ⟨_, rfl, _, rfl, l, pr.2, ns, rfl, hkn6.step dw6 x68, by omega, fun H9 p9 s9 n9 e9 => ?_⟩
        refine ⟨_, _, rfl, .inl ⟨_, SqL.of e9, rfl⟩, _, _, rfl, _, _, rfl, rfl, ?_, _, rfl, ?_⟩
        · show (if ((((namesOf ns pr.2).map V.str).length : Nat) : Int) > 1 then ((((namesOf ns pr.2).map V.str).length : Nat) : Int) else (1 : Int)) ≠ 0
          split <;> omega
        have p7st : p7 ≠ st := dw6.ne n7
        have x69 : SameX st H6 H9 := x68.trans (sameX_of s9)
        have e7' : H9 p7 = some (.lst ((namesOf ns pr.2).map V.str)) := s9 _ _ (x8 _ _ p7st e7)
        obtain ⟨c1, ec1, mc1, lc1⟩ := cut_str (namesOf ns pr.2) (some (d8.fmod (if ((((namesOf ns pr.2).map V.str).length : Nat) : Int) > 1 then ((((namesOf ns pr.2).map V.str).length : Nat) : Int) else (1 : Int)))) none
        refine ⟨p7, _, rfl, SqL.of e7', fun p10 hp10 => ?_⟩
        rw [ec1]
        have s10 := same_upd (o := .lst (c1.map V.str)) hp10
        have e10 : upd H9 p10 (.lst (c1.map V.str)) p10 = some (.lst (c1.map V.str)) := upd_same
        generalize upd H9 p10 (.lst (c1.map V.str)) = H10 at s10 e10 ⊢
        refine ⟨1, rfl, p10, _, rfl, SqL.of e10, fun p11 hp11 => ?_⟩
        obtain ⟨c2, ec2, mc2, lc2⟩ := cut_str c1 none (some 1)
        have one : c2.length ≤ 1 := by
          have h1 := cut_one (c1.map V.str)
          rw [ec2, List.length_map] at h1
          exact h1
        rw [ec2]
        have s11 := same_upd (o := .lst (c2.map V.str)) hp11
        have e11 : upd H10 p11 (.lst (c2.map V.str)) p11 = some (.lst (c2.map V.str)) := upd_same
        generalize upd H10 p11 (.lst (c2.map V.str)) = H11 at s11 e11 ⊢
        have x611 : SameX st H6 H11 := x69.trans (sameX_of (s10.trans s11))
        have lm10 : m < 10 := by rw [List.length_map] at hm; omega
        refine ⟨nl, p11, nms.map V.str, c2.map V.str, rfl, rfl, x611 _ _ nlst enl, e11, small (by rw [List.length_map, List.length_map]; omega), fun p12 hp12 => ?_⟩
        have s12 := same_upd (o := .lst (nms.map V.str ++ c2.map V.str)) hp12
        have dw11 : Dw K B H11 st := (dw8.step s9).step (s10.trans s11)
        refine ⟨_, p12, nms ++ c2, _, rfl, x6.trans (x611.trans (sameX_of s12)), dw11.step s12, dw11.ne hp12, by rw [upd_same, List.map_append], by rw [List.length_append]; omega, fun hlen2 => ?_⟩
        rw [List.length_append] at hlen2
        have hpk : (h.1.map (·.2))[m]? = some pr.2 := by rw [List.getElem?_map, hpr]; rfl
        rw [List.take_add_one, hpk]
        match c2, one, hlen2, mc2 with
        | [], _, hl2, _ => exact absurd hl2 (by show ¬ nms.length + 0 = m + 1; omega)
        | [x2], _, hl2, mc => exact paired_append (hnm (by have : nms.length + 1 = m + 1 := hl2; omega)) (.cons (namesOf_look hok (mc1 x2 (mc x2 (List.mem_singleton.mpr rfl)))) .nil)
      · rintro σ H6 ⟨y7, nl, nms, y11, rfl, x6, dw6, nlst, enl, lnm, hnm⟩
        rw [List.length_map, lq] at lnm hnm
        have x36 := x35.trans x6
        have esl6 : H6 sl = some (.lst xs) := x6 _ _ slst esl5
        have hxs6 : ∀ y ∈ xs, DeedIt K (hdsOf hs) ns H6 y := fun y hy => (hxs5 y hy).same (dw5.i x6)
        refine ⟨_, rfl, _, _, rfl, .inl ⟨_, SqL.of enl, rfl⟩, _, rfl, _, rfl, _, _, _, _, rfl, rfl, seqH x36, atI_nat hhv, _, _, _, _, rfl, rfl, (dw3.i x36).tup g1, atI_nat (j := 0) rfl, _, _, rfl, .inr ⟨_, ((dw3.i x36).pl g2).sq, rfl⟩, rfl, _, rfl, ite2 (fun hp => ?_) (fun hp => ?_)⟩
        · have eln : nms.length = h.1.length := by
            have := V.int.inj (of_decide_eq_true hp)
            rw [List.length_map, List.length_map, lq] at this
            omega
          have hpr := hnm eln
          rw [List.take_of_length_le (by rw [List.length_map]; exact Nat.le_refl _)] at hpr
          refine ⟨_, rfl, _, rfl, _, rfl, nl, _, rfl, SqL.of enl, fun t1 its1 h1 => ⟨by show 3 ≤ sizeLine; decide, fun t2 h2 => ?_⟩⟩
          have a1 := same_upd (o := .frz (tupObj its1) (.tup (nms.map V.str))) h1
          have a2 := same_upd (o := .tup [.str "call", .int ((i + 1 : Nat) : Int), .ref t1]) h2
          have i1 : Im K (upd H6 t1 (.frz (tupObj its1) (.tup (nms.map V.str)))) (.ref t1) (.tuple (nms.map .str)) := .tup (.inl (.inr ⟨_, upd_same⟩)) (ImAll.of (by rw [List.length_map, List.length_map]) fun j x d e1 e2 => by
            rw [List.getElem?_map] at e1 e2
            obtain ⟨z, hz, rfl⟩ := Option.map_eq_some_iff.mp e1
            rw [hz] at e2
            cases e2
            exact .str z)
          have a12 := a1.trans a2
          have e2 : upd (upd H6 t1 (.frz (tupObj its1) (.tup (nms.map V.str)))) t2 (.tup [.str "call", .int ((i + 1 : Nat) : Int), .ref t1]) t2 = some (.tup [.str "call", .int ((i + 1 : Nat) : Int), .ref t1]) := upd_same
          have i2 := i1.same (sameI_of a2)
          generalize upd (upd H6 t1 (.frz (tupObj its1) (.tup (nms.map V.str)))) t2 (.tup [.str "call", .int ((i + 1 : Nat) : Int), .ref t1]) = H7 at a12 e2 i2 ⊢
          have x37 : SameX st H3 H7 := x36.trans (sameX_of a12)
          refine ⟨_, rfl, _, rfl, _, _, _, _, rfl, rfl, seqH x37, atI_nat hhv, _, _, _, _, rfl, rfl, (dw3.i x37).tup g1, atI_nat (j := 1) rfl, by show 2 ≤ sizeLine; decide, fun t3 h3 => ⟨by show 1 ≤ sizeLine; decide, fun l4 h4 => ⟨l4, 3, _, rfl, rfl, upd_same, by decide, by decide, by show 3 ≤ sizeLine; decide, fun l5 h5 => ?_⟩⟩⟩
          have a3 := same_upd (o := .tup [.ref t2, h.2.v]) h3
          have a4 := same_upd (o := .lst [.ref t3]) h4
          have a5 := same_upd (o := .lst (List.replicate (3 : Int).toNat [V.ref t3]).flatten) h5
          have z3 : DeedIt K (hdsOf hs) ns _ (.ref t3) := .mk (.call (i + 1) nms) h.2 a3 e2 upd_same (.cons (.str _) (.cons (.int _) (.cons i2 .nil))) rfl ⟨by omega, (h.1.map (·.2), h.2), by rw [List.getElem?_map, hh]; rfl, hpr, rfl⟩
          have a75 := a3.trans (a4.trans a5)
          have a65 := a12.trans a75
          refine ⟨sl, l5, xs, _, rfl, rfl, a65 _ _ esl6, upd_same, small (by show xs.length + 3 ≤ _; omega), fun q6 h6 => ?_⟩
          have a6 := same_upd (o := .lst (xs ++ (List.replicate (3 : Int).toNat [V.ref t3]).flatten)) h6
          have dw7 := dw6.step a65
          refine ⟨q6, _, _, _, _, _, rfl, x36.trans (sameX_of (a65.trans a6)), dw7.step a6, dw7.ne h6, upd_same, ⟨by rw [List.length_append]; omega, by rw [List.length_append]; show xs.length + 3 ≤ _; omega⟩, fun y hy => ?_⟩
          rcases List.mem_append.mp hy with hh2 | hh2
          · exact (hxs6 y hh2).same (sameI_of (a65.trans a6))
          · have : y = .ref t3 := by
              rcases List.mem_cons.mp (show y ∈ [V.ref t3, V.ref t3, V.ref t3] from hh2) with e | h
              · exact e
              · rcases List.mem_cons.mp h with e | h
                · exact e
                · exact List.mem_singleton.mp h
            rw [this]
            exact z3.same (sameI_of (a4.trans (a5.trans a6)))
        · exact ⟨sl, xs, _, _, _, _, rfl, x36, dw6, slst, esl6, ⟨l0, by omega⟩, hxs6⟩
    clear hxs lxs l0 esl slst s4
    rintro σ H4 ⟨sl, xs, y7, y9, y10, y11, rfl, x4, dw4, slst, esl, ⟨l0, lxs⟩, hxs⟩
    have lx : xs.length ≤ 1000000 := by omega
    refine ⟨_, rfl, _, rfl, _, rfl, _, xs.length, rfl, .inl ⟨_, SqL.of esl, rfl⟩, B, st, _, rfl, SameX.same sB3 x4 nB, nB, dw4, by omega, by omega, fun H5 k k0 k1 x5 dw5 => ?_⟩
    obtain ⟨j, rfl⟩ := Int.eq_ofNat_of_zero_le k0
    have hj : j < xs.length := by omega
    exact ⟨sl, xs, _, _, rfl, rfl, SqL.of (x5 _ _ slst esl), atI_nat (List.getElem?_eq_getElem hj), q _ _ (x03.trans (x4.trans x5)) dw5 ((hxs _ (List.getElem_mem hj)).same (dw4.i x5))⟩
end
end Cs
namespace Cs
open PySem PySem.Spec L2
/-- how many trees a drawn tree has at most -/
def tsz : Nat → Nat
  | 0 => 2
  | 1 => 5
  | n + 2 => 1 + tsz (n + 1) + tsz n
theorem tsz_two : ∀ n : Nat, 2 ≤ tsz n
  | 0 => Nat.le_refl _
  | 1 => by decide
  | n + 2 => by show 2 ≤ 1 + tsz (n + 1) + tsz n; have := tsz_two n; omega
theorem tsz_up : ∀ n : Nat, tsz n + 1 ≤ tsz (n + 1)
  | 0 => by decide
  | 1 => by decide
  | n + 2 => by show tsz (n + 2) + 1 ≤ 1 + tsz (n + 2) + tsz (n + 1); have := tsz_two (n + 1); omega
/-- with two trees within -/
theorem tsz_if (n : Nat) (h : 1 ≤ n) : 1 + tsz (n - 1) + tsz (n - 2) ≤ tsz n := by
  match n, h with
  | 1, _ => decide
  | n + 2, _ => exact Nat.le_refl _
theorem strs_depth : ∀ l : List Str, PyData.depthAll (l.map PyData.str) ≤ 1
  | [] => by simp [PyData.depthAll]
  | x :: r => by
    have := strs_depth r
    simp only [List.map_cons, PyData.depthAll, PyData.depth]
    omega
theorem strs_lay : ∀ l : List Str, (∀ x ∈ l, PyData.strOk x = true) → PyData.canLayAll0 (l.map PyData.str) = true
  | [], _ => rfl
  | x :: r, h => by
    have := strs_lay r fun y hy => h y (List.mem_cons_of_mem _ hy)
    have h0 := h x (List.mem_cons_self ..)
    simp [PyData.canLayAll0, PyData.canLay0, this, h0]
theorem lt_strOk : ∀ i < 26, PyData.strOk (lt i) = true := by decide +kernel
theorem names_strOk {ns : Nm} (h : KnOk ns) (hl : ns.length ≤ 26) (kd : Kd) : ∀ x ∈ namesOf ns kd, PyData.strOk x = true := fun x hx => by
  obtain ⟨p, hp, rfl⟩ := List.mem_map.mp hx
  obtain ⟨i, hi, e⟩ := List.mem_iff_getElem.mp (List.mem_filter.mp hp).1
  rw [h i p (by rw [List.getElem?_eq_getElem hi, e])]
  exact lt_strOk i (by omega)
theorem strs_shaped (l : List Str) (h : ∀ x ∈ l, PyData.strOk x = true) : SeqAt.shaped (.list (l.map PyData.str)) = true := by
  unfold SeqAt.shaped
  have h1 := strs_depth l
  have h2 := strs_lay l h
  simp [PyData.canLay0, PyData.depth, h2]
  omega
section
variable {P : Program} {w : World} {K : PySem.W.Frag} {mg : Str → Option Value} {base : Heap} {A : Adr}
theorem strs_dp {H : Hp} {l : Addr} {xs : List Str} (h : H l = some (.lst (xs.map V.str))) : Dp K H (.ref l) (.list (xs.map PyData.str)) := by
  refine .lst (SqL.of h) ?_
  clear h
  induction xs with
  | nil => exact .nil
  | cons x r ih => exact .cons (.str x) ih
theorem gen_heap {H6 H' : Hp} {th : Addr} {o : HO} {v1 v2 : V} {d1 d2 : PyData} {G : Hp → Prop} (h : ∀ H7, Same H6 H7 → H7 th = some o → Im K H7 v1 d1 → Im K H7 v2 d2 → G H7) (sh : Same H6 H') (eh : H' th = some o) (i1 : Im K H' v1 d1) (i2 : Im K H' v2 d2) : G H' := h H' sh eh i1 i2
def spTreeW (K : PySem.W.Frag) (n : Nat) : Sp := fun vs H Q _ => ∃ (B : Hp) (st hl l : Addr) (kd : Kd) (hs : List (Nm × Kd)) (ns : Nm) (deep : Int), vs = [.ref st, .ref hl, kd.v, .ref l, .int deep] ∧ deep.toNat ≤ n ∧ n ≤ 10 ∧ -10 ≤ deep ∧ Same B H ∧ B st = none ∧ Dw K B H st ∧ HdsAt K H hl hs ∧ hs.length ≤ 10 ∧ (∀ h ∈ hs, h.1.length ≤ 10) ∧
  KnAt K H l ns ∧ KnOk ns ∧ ns.length + deep.toNat ≤ 20 ∧
  ∀ H1 y t, SameX st H H1 → Dw K B H1 st → Im K H1 y (Tr.d t) → Tr.ok1 (hdsOf hs) kd ns t → t.size ≤ tsz deep.toNat → t.deep ≤ deep.toNat + 2 → Q y H1
set_option maxHeartbeats 8000000 in
theorem step_w_tree (T : Tx K w mg A) (n : Nat) (sp : Sp) (G_w_tree : FnOk P w K mg base CX0 (n + 2) A.f_w_tree A.fd_w_tree P_w_tree sp) (hG : ∀ vs H Q E m, n = m + 1 → spTreeW K m vs H Q E → sp vs H Q E) :
    FnOk P w K mg base CX0 (n + 3) A.f_w_tree A.fd_w_tree P_w_tree (spTreeW K n) := by
  have G_w_of := ok_w_of (P := P) (base := base) T
  have G_w_drawn := ok_w_drawn (P := P) (base := base) T
  have G_w_deed := ok_w_deed (P := P) (base := base) T
  have G_w_measure := ok_w_measure (P := P) (base := base) T
  refine T.F_w_tree.ok sc_w_tree (fun vs H Q E h => ?_) (fun cdv AA outer s H vs Q E hr h => ?_)
  · obtain ⟨B, st, hl, l, kd, hs, ns, deep, rfl, _⟩ := h
    rfl
  · obtain ⟨B, st, hl, l, kd, hs, ns, deep, rfl, hdn, hn10, hdm, sB, nB, dw, hhs, lhs, lpar, hkn, hok, hlen, q⟩ := h
    refine ⟨_, (pss_cons (ps_set (i := 5) sc_w_tree.nd rfl (.inl rfl) (pe_call G_w_of (hr.mono (by omega)) (by rfl) T.g_w_of T.F_w_of.kp T.b_w_of .nil pass0 (pa_cons (pv 3) (pa_cons (pv 2) pa_nil))))
  (pss_cons (ps_set (i := 6) sc_w_tree.nd rfl (.inl rfl) (pe_ix ix_str pe_str (pe_callB call_len (by rfl) T.n_len (by decide +kernel) (pa_cons (pv 3) pa_nil)) (fun _ _ => rfl)))
  (pss_cons (ps_if (PW.pt (pw_and (pt_cmpR op_le (pv 4) pe_int (nomark _)) (pw_and1 (pt_cmpR (op_eqD hr.units) (pv 5) (pe_lst pa_nil) (nomark _)))))
  (pss_one (ps_ret (pe_tup (pa_cons pe_str (pa_cons (pv 6) (pa_cons (pe_ifExp (pt_cmpR op_eq (pv 2) pe_str (nomark _)) (pe_tup (pa_cons pe_str (pa_cons pe_int pa_nil))) (pe_tup (pa_cons pe_str pa_nil))) (pa_cons (pe_tup (pa_cons pe_str (pa_cons (pv 6) pa_nil))) pa_nil)))))))
  pss_nil)
  (pss_cons (ps_if (PW.pt (pw_or (pt_cmpR op_le (pv 4) pe_int (nomark _)) (pw_or1 (PW.pt (pw_and (pt_cmpR (op_neD hr.units) (pv 5) (pe_lst pa_nil) (nomark _)) (pw_and1 (pt_cmpR op_eq (pe_call G_w_drawn (hr.mono (by omega)) (by rfl) T.g_w_drawn T.F_w_drawn.kp T.b_w_drawn .nil pass0 (pa_cons (pv 0) (pa_cons pe_int pa_nil))) pe_int (nomark _))))))))
  (pss_one (ps_ret (pe_tup (pa_cons pe_str (pa_cons (pe_ix ix_list (pv 5) (pe_call G_w_drawn (hr.mono (by omega)) (by rfl) T.g_w_drawn T.F_w_drawn.kp T.b_w_drawn .nil pass0 (pa_cons (pv 0) (pa_cons (pe_callB call_len (by rfl) T.n_len (by decide +kernel) (pa_cons (pv 5) pa_nil)) pa_nil))) (fun _ _ => rfl)) pa_nil)))))
  pss_nil)
  (pss_cons (ps_set (i := 7) sc_w_tree.nd rfl (.inl rfl) (pe_call G_w_drawn (hr.mono (by omega)) (by rfl) T.g_w_drawn T.F_w_drawn.kp T.b_w_drawn .nil pass0 (pa_cons (pv 0) (pa_cons pe_int pa_nil))))
  (pss_cons (ps_if (pt_cmpR op_lt (pv 7) pe_int (nomark _))
  (pss_cons (ps_asg (pe_call G_w_deed (hr.mono (by omega)) (by rfl) T.g_w_deed T.F_w_deed.kp T.b_w_deed .nil pass0 (pa_cons (pv 0) (pa_cons (pv 1) (pa_cons (pv 3) pa_nil)))) (pg_tup (by rfl) (pgs_cons (pg_name (i := 8) sc_w_tree.nd rfl (.inl rfl)) (pgs_cons (pg_name (i := 9) sc_w_tree.nd rfl (.inl rfl)) pgs_nil))))
  (pss_one (ps_ret (pe_tup (pa_cons pe_str (pa_cons (pv 6) (pa_cons (pv 8) (pa_cons (pe_call G_w_tree (hr.mono (by omega)) (by rfl) T.g_w_tree T.F_w_tree.kp T.b_w_tree .nil pass0 (pa_cons (pv 0) (pa_cons (pv 1) (pa_cons (pv 2) (pa_cons (pe_op op_cat (pv 3) (pe_lst (pa_cons (pe_tup (pa_cons (pv 6) (pa_cons (pv 9) pa_nil))) pa_nil))) (pa_cons (pe_op op_sub (pv 4) pe_int) pa_nil)))))) pa_nil))))))))
  pss_nil)
  (pss_cons (ps_set (i := 10) sc_w_tree.nd rfl (.inl rfl) (pe_tup (pa_cons (pe_ix ix_list (pe_lst (pa_cons pe_str (pa_cons pe_str pa_nil))) (pe_op op_sub (pv 7) pe_int) (fun _ _ => rfl)) (pa_cons (pe_call G_w_measure (hr.mono (by omega)) (by rfl) T.g_w_measure T.F_w_measure.kp T.b_w_measure .nil pass0 (pa_cons (pv 0) (pa_cons (pv 3) pa_nil))) (pa_cons (pe_call G_w_measure (hr.mono (by omega)) (by rfl) T.g_w_measure T.F_w_measure.kp T.b_w_measure .nil pass0 (pa_cons (pv 0) (pa_cons (pv 3) pa_nil))) (pa_cons (pe_op op_sub (pe_call G_w_drawn (hr.mono (by omega)) (by rfl) T.g_w_drawn T.F_w_drawn.kp T.b_w_drawn .nil pass0 (pa_cons (pv 0) (pa_cons pe_int pa_nil))) pe_int) pa_nil))))))
  (pss_cons (ps_setLc (i := 11) (own := [("_law_k", 12)]) (g := (gName 12)) (tt := tYes) (te := _) rfl sc_w_tree.nd rfl rfl (sw_true rfl rfl rfl (by decide +kernel)) (pi_range1 (by rfl) T.n_range (pa_cons (pe_op op_sub pe_int (pv 7)) pa_nil)) (blkOk_by (N := N_w_tree) (sc := defScope s_w_tree) (by decide +kernel)) (fun _ _ _ _ _ => (pg_name (i := 12) sc_w_tree.nd rfl (.inl rfl))) (fun _ _ _ _ _ => pts_nil) (fun _ _ _ _ _ => (pe_call G_w_tree (hr.mono (by omega)) (by rfl) T.g_w_tree T.F_w_tree.kp T.b_w_tree .nil pass0 (pa_cons (pv 0) (pa_cons (pv 1) (pa_cons (pv 2) (pa_cons (pv 3) (pa_cons (pe_op op_sub (pe_op op_sub (pv 4) pe_int) (pv 12)) pa_nil))))))))
  (pss_one (ps_ret (pe_op op_catT (pv 10) (pe_callTy cr_tupF (by rfl) T.n_tuple (by decide +kernel) (pa_cons (pv 11) pa_nil))))))))))))), ?_⟩
    refine ⟨_, rfl, _, rfl, l, kd, ns, rfl, hkn, by omega, fun H0 p5 s0 n5 e5 => ?_⟩
    have p5st : p5 ≠ st := dw.ne n5
    have nx : ∀ x ∈ namesOf ns kd, look ns x = some kd := fun x hx => namesOf_look hok hx
    have lnm := namesOf_len ns kd
    have hkn0 : KnAt K H0 l ns := hkn.same s0
    have dw0 : Dw K B H0 st := dw.step s0
    have hhs0 := hhs.same s0
    have sB0 : Same B H0 := sB.trans s0
    obtain ⟨qs, eqs, hqs⟩ := id hkn0
    have lqs : qs.length = ns.length := Paired.length hqs
    refine ⟨_, rfl, _, _, rfl, .inl ⟨_, SqL.of eqs, rfl⟩, _, _, _, rfl, rfl, by decide +kernel, atI_nat (by rw [List.length_map, lqs]; exact abc_at ns.length (by omega)), ?_⟩
    have nmok : okName (lt ns.length) := lt_ok _ (by omega)
    have nmfr := hok.fresh
    have t2 := tsz_two deep.toNat
    by_cases hdeep : deep ≤ 0
    · have e0 : deep.toNat = 0 := by omega
      refine ⟨_, rfl, _, _, rfl, rfl, _, rfl, itd hdeep ⟨_, rfl, by show 0 ≤ sizeLine; decide, fun l2 hl2 => ?_⟩⟩
      have sl2 := same_upd (o := .lst []) hl2
      have eL := sl2 _ _ e5
      have el2 : upd H0 l2 (.lst []) l2 = some (.lst []) := upd_same
      generalize upd H0 l2 (.lst []) = HL at sl2 eL el2 ⊢
      refine ⟨.list ((namesOf ns kd).map PyData.str), .list [], strs_dp eL, .lst (SqL.of el2) .nil, strs_shaped _ (names_strOk hok (by omega) kd), by decide +kernel, _, rfl, ?_⟩
      have xL : SameX st H0 HL := sameX_of sl2
      have dwL : Dw K B HL st := dw0.step sl2
      generalize namesOf ns kd = N at eL nx lnm ⊢
      cases N with
      | nil =>
        have q3 : ∀ (td : Addr) (H3 : Hp) (dd : Dd), Same HL H3 → Im K H3 (.ref td) dd.d → dd.ok (hdsOf hs) ns kd → ∀ t4 t5, H3 t4 = none → upd H3 t4 (.tup [.str "tell", .str (lt ns.length)]) t5 = none →
            Q (.ref t5) (upd (upd H3 t4 (.tup [.str "tell", .str (lt ns.length)])) t5 (.tup [.str "let", .str (lt ns.length), .ref td, .ref t4])) := fun td H3 dd s3 i3 ok3 t4 t5 h4 h5 => by
          have s4 := same_upd (o := .tup [.str "tell", .str (lt ns.length)]) h4
          have s5 := same_upd (o := .tup [.str "let", .str (lt ns.length), .ref td, .ref t4]) h5
          have i4 : Im K (upd H3 t4 (.tup [.str "tell", .str (lt ns.length)])) (.ref t4) (.tuple [.str "tell", .str (lt ns.length)]) := .tup (.inl (.inl upd_same)) (.cons (.str _) (.cons (.str _) .nil))
          have sA := sl2.trans (s3.trans (s4.trans s5))
          exact q _ _ (.let_ (lt ns.length) dd (.tell (lt ns.length))) (sameX_of (s0.trans sA)) (dw0.step sA) (.tup (.inl (.inl upd_same)) (.cons (.str _) (.cons (.str _) (.cons (i3.same (sameI_of (s4.trans s5))) (.cons (i4.same (sameI_of s5)) .nil)))))
            ⟨⟨nmok, nmfr, kd, ok3, look_snoc nmfr⟩, lt_len _, True.intro⟩ (by show 1 + 1 ≤ _; omega) (by show 1 + 1 ≤ _; omega)
        refine itd_true ?_
        refine ⟨_, rfl, _, rfl, rfl, _, rfl, ?_⟩
        cases kd with
        | num =>
          refine itd (p := Kd.num.v = V.str "number") rfl ⟨by show 2 ≤ sizeLine; decide, fun td htd => ⟨_, rfl, by show 2 ≤ sizeLine; decide, fun t4 h4 => ⟨by show 4 ≤ sizeLine; decide, fun t5 h5 => ?_⟩⟩⟩
          exact q3 td _ (.num 1) (same_upd htd) (.tup (.inl (.inl upd_same)) (.cons (.str _) (.cons (.int _) .nil))) ⟨by unfold near; decide, rfl⟩ t4 t5 h4 h5
        | lst =>
          refine itn (p := Kd.lst.v = V.str "number") (by decide +kernel) ⟨by show 1 ≤ sizeLine; decide, fun td htd => ⟨_, rfl, by show 2 ≤ sizeLine; decide, fun t4 h4 => ⟨by show 4 ≤ sizeLine; decide, fun t5 h5 => ?_⟩⟩⟩
          exact q3 td _ .nil (same_upd htd) (.tup (.inl (.inl upd_same)) (.cons (.str _) .nil)) rfl t4 t5 h4 h5
      | cons x0 r0 =>
        refine itn_false ?_
        refine ⟨_, rfl, _, _, rfl, rfl, _, rfl, itd hdeep ?_⟩
        · refine iteT ?_
          have lN : 1 ≤ (x0 :: r0).length := by simp
          refine ⟨_, rfl, _, rfl, _, rfl, _, (x0 :: r0).length, rfl, .inl ⟨_, SqL.of eL, (List.length_map _).symm⟩, B, st, _, rfl, SameX.same sB0 xL nB, nB, dwL, by omega, by omega, fun HT k k0 k1 xT dwT => ?_⟩
          obtain ⟨j, rfl⟩ := Int.eq_ofNat_of_zero_le k0
          have hj : j < (x0 :: r0).length := by omega
          refine ⟨p5, _, _, _, rfl, rfl, SqL.of (xT _ _ p5st eL), atI_nat (by rw [List.getElem?_map, List.getElem?_eq_getElem hj]; rfl), by show 2 ≤ sizeLine; decide, fun tt htt => ?_⟩
          have sT := same_upd (o := .tup [.str "tell", .str (x0 :: r0)[j]]) htt
          exact q _ _ (.tell (x0 :: r0)[j]) ((sameX_of s0).trans (xL.trans (xT.trans (sameX_of sT)))) (dwT.step sT) (.tup (.inl (.inl upd_same)) (.cons (.str _) (.cons (.str _) .nil))) ⟨nx _ (List.getElem_mem hj), True.intro⟩ (by show 1 ≤ _; omega) (by show 1 ≤ _; omega)
    · refine ⟨_, rfl, _, _, rfl, rfl, _, rfl, itn hdeep (iteF ?_)⟩
      refine ⟨_, rfl, _, _, rfl, rfl, _, rfl, itn hdeep ⟨_, rfl, by show 0 ≤ sizeLine; decide, fun l2 hl2 => ?_⟩⟩
      have sl2 := same_upd (o := .lst []) hl2
      have eL := sl2 _ _ e5
      have el2 : upd H0 l2 (.lst []) l2 = some (.lst []) := upd_same
      generalize upd H0 l2 (.lst []) = HL at sl2 eL el2 ⊢
      refine ⟨.list ((namesOf ns kd).map PyData.str), .list [], strs_dp eL, .lst (SqL.of el2) .nil, strs_shaped _ (names_strOk hok (by omega) kd), by decide +kernel, _, rfl, ?_⟩
      have xL : SameX st H0 HL := sameX_of sl2
      have dwL : Dw K B HL st := dw0.step sl2
      generalize namesOf ns kd = N at eL nx lnm ⊢
      cases N with
      | nil =>
        refine iteF (iteF ?_)
        have x1 := xL
        have dw1 := dwL
        generalize HL = H1 at x1 dw1 ⊢
        refine ⟨_, rfl, B, st, 6, rfl, SameX.same sB0 x1 nB, nB, dw1, by decide, by decide, fun H2 wy w0 w6 x2 dw2 => ?_⟩
        have x12 := x1.trans x2
        have hkn2 := hkn0.step dw0 x12
        have hhs2 := hhs0.step dw0 x12
        have sB2 := SameX.same sB0 x12 nB
        have d1 : 1 ≤ deep.toNat := by omega
        refine ⟨_, rfl, _, _, rfl, rfl, _, rfl, ite2 (fun hw => ?_) (fun hw => ?_)⟩
        · refine ⟨_, rfl, _, rfl, _, rfl, B, st, hl, l, hs, ns, rfl, sB2, nB, dw2, hhs2, lhs, lpar, hkn2, hok, by omega, fun H3 y x3 dw3 ⟨dd, kd2, t1, t2, xs, ds, ey, q1, q2, q3, q4, q5⟩ => ?_⟩
          subst ey
          refine ⟨t2, _, rfl, q1, rfl, _, _, rfl, _, _, rfl, rfl, ?_⟩
          have x13 := x12.trans x3
          obtain ⟨qs3, eq3, hq3⟩ := hkn0.step dw0 x13
          have lq3 : qs3.length = ns.length := Paired.length hq3
          refine ⟨_, rfl, _, rfl, _, rfl, _, rfl, _, rfl, _, rfl, _, rfl, _, rfl, by show 2 ≤ sizeLine; decide, fun tp htp => ⟨by show 1 ≤ sizeLine; decide, fun l1 hl1 => ?_⟩⟩
          have sp1 := same_upd (o := .tup [.str (lt ns.length), kd2.v]) htp
          have sp2 := same_upd (o := .lst [.ref tp]) hl1
          refine ⟨l, l1, qs3.map V.ref, [.ref tp], rfl, rfl, sp2 _ _ (sp1 _ _ eq3), upd_same, small (by rw [List.length_map]; show qs3.length + 1 ≤ _; omega), fun l3 hl3 => ?_⟩
          have sp3 := same_upd (o := .lst (qs3.map V.ref ++ [.ref tp])) hl3
          have sp := sp1.trans (sp2.trans sp3)
          have kn4 : KnAt K _ l3 (ns ++ [(lt ns.length, kd2)]) := ⟨qs3 ++ [tp], by rw [List.map_append]; exact upd_same, paired_append (Paired.mapP hq3 fun _ _ q => q.same (sameI_of sp)) (.cons (show PrAt K _ tp (lt ns.length, kd2) from .inl (.inl ((sp2.trans sp3) _ _ upd_same))) .nil)⟩
          have hhs4 := (hhs0.step dw0 x13).same sp
          have dw4 := dw3.step sp
          have sB4 := (SameX.same sB0 x13 nB).trans sp
          have q1' := (sameI_of sp).tup q1
          have q2' := (sameI_of sp).tup q2
          have q3' := q3.same (sameI_of sp)
          refine ⟨_, rfl, _, _, rfl, rfl, hG _ _ _ _ (n - 1) (by omega) ⟨B, st, hl, l3, kd, hs, ns ++ [(lt ns.length, kd2)], deep - 1, rfl, by omega, by omega, by omega, sB4, nB, dw4, hhs4, lhs, lpar, kn4, hok.snoc kd2, by rw [List.length_append]; show ns.length + 1 + _ ≤ _; omega, fun H5 y5 t5 x5 dw5 i5 ok5 sz5 dp5 => ⟨by show 4 ≤ sizeLine; decide, fun t6 ht6 => ?_⟩⟩⟩
          have s6 := same_upd (o := .tup [.str "let", .str (lt ns.length), .ref t1, y5]) ht6
          have e1 : (deep - 1).toNat = deep.toNat - 1 := by omega
          rw [e1] at sz5 dp5
          have up := tsz_up (deep.toNat - 1)
          rw [Nat.sub_add_cancel d1] at up
          have idd : Im K H5 (.ref t1) dd.d := by rw [q4]; exact (Im.tup q2' q3').same (dw4.i x5)
          exact q _ _ (.let_ (lt ns.length) dd t5) ((sameX_of s0).trans (x13.trans ((sameX_of sp).trans (x5.trans (sameX_of s6))))) (dw5.step s6)
            (.tup (.inl (.inl upd_same)) (.cons (.str _) (.cons (.str _) (.cons (idd.same (sameI_of s6)) (.cons (i5.same (sameI_of s6)) .nil))))) ⟨⟨nmok, nmfr, kd2, q5, ok5.1⟩, lt_len _, ok5.2⟩ (by show t5.size + 1 ≤ _; omega) (by show t5.deep + 1 ≤ _; omega)
        · have w4 : 4 ≤ wy := by have : ¬ wy < 4 := fun z => hw (decide_eq_true z); omega
          refine ⟨by show 2 ≤ sizeLine; decide, fun L hL => ?_⟩
          have sL := same_upd (o := .lst [.str "if", .str "claim"]) hL
          have eLL : upd H2 L (.lst [.str "if", .str "claim"]) L = some (.lst [.str "if", .str "claim"]) := upd_same
          generalize upd H2 L (.lst [.str "if", .str "claim"]) = H3 at sL eLL ⊢
          have x13 := x12.trans (sameX_of sL)
          have dw3 := dw2.step sL
          have hw : ∃ wd : Str, atI [V.str "if", V.str "claim"] (wy - 4) = some (.str wd) ∧ ((wy = 4 ∧ wd = "if") ∨ (wy = 5 ∧ wd = "claim")) := by
            by_cases e : wy = 4
            · subst e
              exact ⟨_, rfl, .inl ⟨rfl, rfl⟩⟩
            · obtain rfl : wy = 5 := by omega
              exact ⟨_, rfl, .inr ⟨rfl, rfl⟩⟩
          obtain ⟨wd, hwd, hwy⟩ := hw
          refine ⟨_, rfl, _, _, rfl, rfl, L, _, _, _, rfl, rfl, SqL.of eLL, hwd, ?_⟩
          refine ⟨_, rfl, _, rfl, B, st, l, ns, rfl, SameX.same sB0 x13 nB, nB, dw3, hkn0.step dw0 x13, hok, by omega, fun H4 v1 m1 x4 dw4 i1 ok1 => ?_⟩
          have x14 := x13.trans x4
          refine ⟨_, rfl, _, rfl, B, st, l, ns, rfl, SameX.same sB0 x14 nB, nB, dw4, hkn0.step dw0 x14, hok, by omega, fun H5 v2 m2 x5 dw5 i2 ok2 => ?_⟩
          have x15 := x14.trans x5
          refine ⟨_, rfl, B, st, 5, rfl, SameX.same sB0 x15 nB, nB, dw5, by decide, by decide, fun H6 d d0 d5 x6 dw6 => ⟨_, _, rfl, rfl, by show 4 ≤ sizeLine; decide, fun th hth => ?_⟩⟩
          have nr : near (d - 2) := by unfold near; omega
          have sh := same_upd (o := .tup [.str wd, v1, v2, .int (d - 2)]) hth
          have eh : upd H6 th (.tup [.str wd, v1, v2, .int (d - 2)]) th = some (.tup [.str wd, v1, v2, .int (d - 2)]) := upd_same
          have i1' : Im K (upd H6 th (.tup [.str wd, v1, v2, .int (d - 2)])) v1 m1.d := ((i1.same (dw4.i x5)).same (dw5.i x6)).same (sameI_of sh)
          have i2' : Im K (upd H6 th (.tup [.str wd, v1, v2, .int (d - 2)])) v2 m2.d := (i2.same (dw5.i x6)).same (sameI_of sh)
          refine gen_heap (H' := upd H6 th (.tup [.str wd, v1, v2, .int (d - 2)])) (fun H7 sh eh i1' i2' => ?_) sh eh i1' i2'
          have x17 := x15.trans (x6.trans (sameX_of sh))
          have dw7 := dw6.step sh
          refine ⟨_, rfl, _, _, rfl, rfl, _, rfl, by omega, by omega, fun D hD => ?_⟩
          have dst : D ≠ st := dw7.ne hD
          refine walk_by (walk_range (n := (6 - wy).toNat)) (fun k H8 => SameX st H7 H8 ∧ Dw K B H8 st ∧ ∃ acc, H8 D = some (.lst acc) ∧ acc.length = k ∧ ∀ (j : Nat) y, acc[j]? = some y → ∃ t : Tr, Im K H8 y t.d ∧ t.ok1 (hdsOf hs) kd ns ∧ t.size ≤ tsz (deep.toNat - 1 - j) ∧ t.deep ≤ deep.toNat + 1)
            ⟨(SameX.refl _ _).new hD, dw7.upd dst, [], upd_same, rfl, fun j y e => by simp at e⟩ (fun _ _ _ _ => True.intro) ?_ ?_
          · rintro k vk H8 H8p hk ⟨x8, dw8, acc, eD, lacc, hacc⟩ ⟨rfl, hvk⟩
            obtain rfl : vk = .int (k : Nat) := by
              rw [hvk]
              show V.int ((0 : Int) + ((k : Nat) : Int)) = _
              rw [Int.zero_add]
            have x18 := x17.trans x8
            refine ⟨rfl, yes_te ⟨_, rfl, _, rfl, _, rfl, _, rfl, _, rfl, _, _, rfl, rfl, _, rfl, _, _, rfl, rfl, hG _ _ _ _ (n - 1) (by omega) ⟨B, st, hl, l, kd, hs, ns, deep - 1 - (k : Nat), rfl, by omega, by omega, by omega, SameX.same sB0 x18 nB, nB, dw8, hhs0.step dw0 x18, lhs, lpar, hkn0.step dw0 x18, hok, by omega, fun H9 y9 t9 x9 dw9 i9 ok9 sz9 dp9 => ?_⟩⟩⟩
            have e9 : H9 D = some (.lst acc) := x9 _ _ dst eD
            have si := sameI_upd (o := .lst (acc ++ [y9])) e9 id
            have ek : (deep - 1 - ((k : Nat) : Int)).toNat = deep.toNat - 1 - k := by omega
            rw [ek] at sz9 dp9
            refine ⟨acc, e9, smaller (by omega), (x8.trans x9).old hD, dw9.upd dst, acc ++ [y9], upd_same, by rw [List.length_append, lacc]; rfl, fun j y hy => ?_⟩
            rcases Nat.lt_or_ge j acc.length with hj | hj
            · rw [List.getElem?_append_left hj] at hy
              obtain ⟨t, h1, h2⟩ := hacc j y hy
              exact ⟨t, (h1.same (dw8.i x9)).same si, h2⟩
            · rw [List.getElem?_append_right hj] at hy
              have e0 : j - acc.length = 0 := by
                rcases Nat.eq_zero_or_pos (j - acc.length) with h | h
                · exact h
                · rw [List.getElem?_eq_none (by show 1 ≤ _; exact h)] at hy
                  cases hy
              rw [e0] at hy
              cases hy
              have ej : j = k := by omega
              rw [ej]
              exact ⟨t9, i9.same si, ok9, sz9, by omega⟩
          · rintro H8 ⟨x8, dw8, acc, eD, lacc, hacc⟩
            have x18 := x17.trans x8
            have i1'' := i1'.same (dw7.i x8)
            have i2'' := i2'.same (dw7.i x8)
            have hth7 : SqT K H7 th _ := .inl (.inl eh)
            have hth8 := (dw7.i x8).tup hth7
            refine ⟨_, rfl, _, rfl, D, _, rfl, SqL.of eD, fun t8 its8 ht8 => ?_⟩
            have s8 := same_upd (o := .frz (tupObj its8) (.tup acc)) ht8
            have e8 : SqT K (upd H8 t8 (.frz (tupObj its8) (.tup acc))) t8 acc := .inl (.inr ⟨_, upd_same⟩)
            refine ⟨th, t8, _, acc, rfl, rfl, Same.tup s8 hth8, e8, List.cons_ne_nil _ _, small (by show 4 + acc.length ≤ _; omega), fun e => ?_, fun _ p hp => ?_⟩
            · rw [e] at lacc
              have : (0 : Nat) = (6 - wy).toNat := lacc
              omega
            have s9 := same_upd (o := .tup ([.str wd, v1, v2, .int (d - 2)] ++ acc)) hp
            have s89 := s8.trans s9
            have up := tsz_if deep.toNat d1
            have fin : SameX st H (upd (upd H8 t8 (.frz (tupObj its8) (.tup acc))) p (.tup ([.str wd, v1, v2, .int (d - 2)] ++ acc))) := (sameX_of s0).trans (x18.trans (sameX_of s89))
            have dwf := dw8.step s89
            rcases hwy with ⟨e4, rfl⟩ | ⟨e5, rfl⟩
            · have l2 : acc.length = 2 := by rw [lacc, e4]; rfl
              obtain ⟨y0, y1, rfl⟩ : ∃ y0 y1, acc = [y0, y1] := by
                match acc, l2 with
                | [y0, y1], _ => exact ⟨y0, y1, rfl⟩
              obtain ⟨ta, a1, a2, a3, a4⟩ := hacc 0 y0 rfl
              obtain ⟨tb, b1, b2, b3, b4⟩ := hacc 1 y1 rfl
              refine q _ _ (.if_ m1 m2 (d - 2) ta tb) fin dwf ?_ ⟨⟨ok1, ok2, nr, a2.1, b2.1⟩, a2.2, b2.2⟩ ?_ ?_
              · exact .tup (.inl (.inl upd_same)) (.cons (.str _) (.cons (i1''.same (sameI_of s89)) (.cons (i2''.same (sameI_of s89)) (.cons (.int _) (.cons (a1.same (sameI_of s89)) (.cons (b1.same (sameI_of s89)) .nil))))))
              · show ta.size + tb.size + 1 ≤ _
                have h1 : deep.toNat - 1 - 0 = deep.toNat - 1 := rfl
                have h2 : deep.toNat - 1 - 1 = deep.toNat - 2 := by omega
                rw [h1] at a3
                rw [h2] at b3
                omega
              · show max ta.deep tb.deep + 1 ≤ _
                omega
            · have l1 : acc.length = 1 := by rw [lacc, e5]; rfl
              obtain ⟨y0, rfl⟩ : ∃ y0, acc = [y0] := by
                match acc, l1 with
                | [y0], _ => exact ⟨y0, rfl⟩
              obtain ⟨ta, a1, a2, a3, a4⟩ := hacc 0 y0 rfl
              refine q _ _ (.claim m1 m2 (d - 2) ta) fin dwf ?_ ⟨⟨ok1, ok2, nr, a2.1⟩, a2.2⟩ ?_ ?_
              · exact .tup (.inl (.inl upd_same)) (.cons (.str _) (.cons (i1''.same (sameI_of s89)) (.cons (i2''.same (sameI_of s89)) (.cons (.int _) (.cons (a1.same (sameI_of s89)) .nil)))))
              · show ta.size + 1 ≤ _
                have h1 : deep.toNat - 1 - 0 = deep.toNat - 1 := rfl
                rw [h1] at a3
                omega
              · show ta.deep + 1 ≤ _
                omega
      | cons x0 r0 =>
        refine iteT ⟨_, rfl, B, st, 5, rfl, SameX.same sB0 xL nB, nB, dwL, by decide, by decide, fun HK dk dk0 dk5 xk dwK => ⟨rfl, _, rfl, ite2 (fun hk => ?_) (fun hk => ?_)⟩⟩
        · replace eL := xk _ _ p5st eL
          replace xL := xL.trans xk
          replace dwL := dwK
          have lN : 1 ≤ (x0 :: r0).length := by simp
          refine ⟨_, rfl, _, rfl, _, rfl, _, (x0 :: r0).length, rfl, .inl ⟨_, SqL.of eL, (List.length_map _).symm⟩, B, st, _, rfl, SameX.same sB0 xL nB, nB, dwL, by omega, by omega, fun HT k k0 k1 xT dwT => ?_⟩
          obtain ⟨j, rfl⟩ := Int.eq_ofNat_of_zero_le k0
          have hj : j < (x0 :: r0).length := by omega
          refine ⟨p5, _, _, _, rfl, rfl, SqL.of (xT _ _ p5st eL), atI_nat (by rw [List.getElem?_map, List.getElem?_eq_getElem hj]; rfl), by show 2 ≤ sizeLine; decide, fun tt htt => ?_⟩
          have sT := same_upd (o := .tup [.str "tell", .str (x0 :: r0)[j]]) htt
          exact q _ _ (.tell (x0 :: r0)[j]) ((sameX_of s0).trans (xL.trans (xT.trans (sameX_of sT)))) (dwT.step sT) (.tup (.inl (.inl upd_same)) (.cons (.str _) (.cons (.str _) .nil))) ⟨nx _ (List.getElem_mem hj), True.intro⟩ (by show 1 ≤ _; omega) (by show 1 ≤ _; omega)
        · have x1 := xL.trans xk
          have dw1 := dwK
          generalize HK = H1 at x1 dw1 ⊢
          refine ⟨_, rfl, B, st, 6, rfl, SameX.same sB0 x1 nB, nB, dw1, by decide, by decide, fun H2 wy w0 w6 x2 dw2 => ?_⟩
          have x12 := x1.trans x2
          have hkn2 := hkn0.step dw0 x12
          have hhs2 := hhs0.step dw0 x12
          have sB2 := SameX.same sB0 x12 nB
          have d1 : 1 ≤ deep.toNat := by omega
          refine ⟨_, rfl, _, _, rfl, rfl, _, rfl, ite2 (fun hw => ?_) (fun hw => ?_)⟩
          · refine ⟨_, rfl, _, rfl, _, rfl, B, st, hl, l, hs, ns, rfl, sB2, nB, dw2, hhs2, lhs, lpar, hkn2, hok, by omega, fun H3 y x3 dw3 ⟨dd, kd2, t1, t2, xs, ds, ey, q1, q2, q3, q4, q5⟩ => ?_⟩
            subst ey
            refine ⟨t2, _, rfl, q1, rfl, _, _, rfl, _, _, rfl, rfl, ?_⟩
            have x13 := x12.trans x3
            obtain ⟨qs3, eq3, hq3⟩ := hkn0.step dw0 x13
            have lq3 : qs3.length = ns.length := Paired.length hq3
            refine ⟨_, rfl, _, rfl, _, rfl, _, rfl, _, rfl, _, rfl, _, rfl, _, rfl, by show 2 ≤ sizeLine; decide, fun tp htp => ⟨by show 1 ≤ sizeLine; decide, fun l1 hl1 => ?_⟩⟩
            have sp1 := same_upd (o := .tup [.str (lt ns.length), kd2.v]) htp
            have sp2 := same_upd (o := .lst [.ref tp]) hl1
            refine ⟨l, l1, qs3.map V.ref, [.ref tp], rfl, rfl, sp2 _ _ (sp1 _ _ eq3), upd_same, small (by rw [List.length_map]; show qs3.length + 1 ≤ _; omega), fun l3 hl3 => ?_⟩
            have sp3 := same_upd (o := .lst (qs3.map V.ref ++ [.ref tp])) hl3
            have sp := sp1.trans (sp2.trans sp3)
            have kn4 : KnAt K _ l3 (ns ++ [(lt ns.length, kd2)]) := ⟨qs3 ++ [tp], by rw [List.map_append]; exact upd_same, paired_append (Paired.mapP hq3 fun _ _ q => q.same (sameI_of sp)) (.cons (show PrAt K _ tp (lt ns.length, kd2) from .inl (.inl ((sp2.trans sp3) _ _ upd_same))) .nil)⟩
            have hhs4 := (hhs0.step dw0 x13).same sp
            have dw4 := dw3.step sp
            have sB4 := (SameX.same sB0 x13 nB).trans sp
            have q1' := (sameI_of sp).tup q1
            have q2' := (sameI_of sp).tup q2
            have q3' := q3.same (sameI_of sp)
            refine ⟨_, rfl, _, _, rfl, rfl, hG _ _ _ _ (n - 1) (by omega) ⟨B, st, hl, l3, kd, hs, ns ++ [(lt ns.length, kd2)], deep - 1, rfl, by omega, by omega, by omega, sB4, nB, dw4, hhs4, lhs, lpar, kn4, hok.snoc kd2, by rw [List.length_append]; show ns.length + 1 + _ ≤ _; omega, fun H5 y5 t5 x5 dw5 i5 ok5 sz5 dp5 => ⟨by show 4 ≤ sizeLine; decide, fun t6 ht6 => ?_⟩⟩⟩
            have s6 := same_upd (o := .tup [.str "let", .str (lt ns.length), .ref t1, y5]) ht6
            have e1 : (deep - 1).toNat = deep.toNat - 1 := by omega
            rw [e1] at sz5 dp5
            have up := tsz_up (deep.toNat - 1)
            rw [Nat.sub_add_cancel d1] at up
            have idd : Im K H5 (.ref t1) dd.d := by rw [q4]; exact (Im.tup q2' q3').same (dw4.i x5)
            exact q _ _ (.let_ (lt ns.length) dd t5) ((sameX_of s0).trans (x13.trans ((sameX_of sp).trans (x5.trans (sameX_of s6))))) (dw5.step s6)
              (.tup (.inl (.inl upd_same)) (.cons (.str _) (.cons (.str _) (.cons (idd.same (sameI_of s6)) (.cons (i5.same (sameI_of s6)) .nil))))) ⟨⟨nmok, nmfr, kd2, q5, ok5.1⟩, lt_len _, ok5.2⟩ (by show t5.size + 1 ≤ _; omega) (by show t5.deep + 1 ≤ _; omega)
          · have w4 : 4 ≤ wy := by have : ¬ wy < 4 := fun z => hw (decide_eq_true z); omega
            refine ⟨by show 2 ≤ sizeLine; decide, fun L hL => ?_⟩
            have sL := same_upd (o := .lst [.str "if", .str "claim"]) hL
            have eLL : upd H2 L (.lst [.str "if", .str "claim"]) L = some (.lst [.str "if", .str "claim"]) := upd_same
            generalize upd H2 L (.lst [.str "if", .str "claim"]) = H3 at sL eLL ⊢
            have x13 := x12.trans (sameX_of sL)
            have dw3 := dw2.step sL
            have hw : ∃ wd : Str, atI [V.str "if", V.str "claim"] (wy - 4) = some (.str wd) ∧ ((wy = 4 ∧ wd = "if") ∨ (wy = 5 ∧ wd = "claim")) := by
              by_cases e : wy = 4
              · subst e
                exact ⟨_, rfl, .inl ⟨rfl, rfl⟩⟩
              · obtain rfl : wy = 5 := by omega
                exact ⟨_, rfl, .inr ⟨rfl, rfl⟩⟩
            obtain ⟨wd, hwd, hwy⟩ := hw
            refine ⟨_, rfl, _, _, rfl, rfl, L, _, _, _, rfl, rfl, SqL.of eLL, hwd, ?_⟩
            refine ⟨_, rfl, _, rfl, B, st, l, ns, rfl, SameX.same sB0 x13 nB, nB, dw3, hkn0.step dw0 x13, hok, by omega, fun H4 v1 m1 x4 dw4 i1 ok1 => ?_⟩
            have x14 := x13.trans x4
            refine ⟨_, rfl, _, rfl, B, st, l, ns, rfl, SameX.same sB0 x14 nB, nB, dw4, hkn0.step dw0 x14, hok, by omega, fun H5 v2 m2 x5 dw5 i2 ok2 => ?_⟩
            have x15 := x14.trans x5
            refine ⟨_, rfl, B, st, 5, rfl, SameX.same sB0 x15 nB, nB, dw5, by decide, by decide, fun H6 d d0 d5 x6 dw6 => ⟨_, _, rfl, rfl, by show 4 ≤ sizeLine; decide, fun th hth => ?_⟩⟩
            have nr : near (d - 2) := by unfold near; omega
            have sh := same_upd (o := .tup [.str wd, v1, v2, .int (d - 2)]) hth
            have eh : upd H6 th (.tup [.str wd, v1, v2, .int (d - 2)]) th = some (.tup [.str wd, v1, v2, .int (d - 2)]) := upd_same
            have i1' : Im K (upd H6 th (.tup [.str wd, v1, v2, .int (d - 2)])) v1 m1.d := ((i1.same (dw4.i x5)).same (dw5.i x6)).same (sameI_of sh)
            have i2' : Im K (upd H6 th (.tup [.str wd, v1, v2, .int (d - 2)])) v2 m2.d := (i2.same (dw5.i x6)).same (sameI_of sh)
            refine gen_heap (H' := upd H6 th (.tup [.str wd, v1, v2, .int (d - 2)])) (fun H7 sh eh i1' i2' => ?_) sh eh i1' i2'
            have x17 := x15.trans (x6.trans (sameX_of sh))
            have dw7 := dw6.step sh
            refine ⟨_, rfl, _, _, rfl, rfl, _, rfl, by omega, by omega, fun D hD => ?_⟩
            have dst : D ≠ st := dw7.ne hD
            refine walk_by (walk_range (n := (6 - wy).toNat)) (fun k H8 => SameX st H7 H8 ∧ Dw K B H8 st ∧ ∃ acc, H8 D = some (.lst acc) ∧ acc.length = k ∧ ∀ (j : Nat) y, acc[j]? = some y → ∃ t : Tr, Im K H8 y t.d ∧ t.ok1 (hdsOf hs) kd ns ∧ t.size ≤ tsz (deep.toNat - 1 - j) ∧ t.deep ≤ deep.toNat + 1)
              ⟨(SameX.refl _ _).new hD, dw7.upd dst, [], upd_same, rfl, fun j y e => by simp at e⟩ (fun _ _ _ _ => True.intro) ?_ ?_
            · rintro k vk H8 H8p hk ⟨x8, dw8, acc, eD, lacc, hacc⟩ ⟨rfl, hvk⟩
              obtain rfl : vk = .int (k : Nat) := by
                rw [hvk]
                show V.int ((0 : Int) + ((k : Nat) : Int)) = _
                rw [Int.zero_add]
              have x18 := x17.trans x8
              refine ⟨rfl, yes_te ⟨_, rfl, _, rfl, _, rfl, _, rfl, _, rfl, _, _, rfl, rfl, _, rfl, _, _, rfl, rfl, hG _ _ _ _ (n - 1) (by omega) ⟨B, st, hl, l, kd, hs, ns, deep - 1 - (k : Nat), rfl, by omega, by omega, by omega, SameX.same sB0 x18 nB, nB, dw8, hhs0.step dw0 x18, lhs, lpar, hkn0.step dw0 x18, hok, by omega, fun H9 y9 t9 x9 dw9 i9 ok9 sz9 dp9 => ?_⟩⟩⟩
              have e9 : H9 D = some (.lst acc) := x9 _ _ dst eD
              have si := sameI_upd (o := .lst (acc ++ [y9])) e9 id
              have ek : (deep - 1 - ((k : Nat) : Int)).toNat = deep.toNat - 1 - k := by omega
              rw [ek] at sz9 dp9
              refine ⟨acc, e9, smaller (by omega), (x8.trans x9).old hD, dw9.upd dst, acc ++ [y9], upd_same, by rw [List.length_append, lacc]; rfl, fun j y hy => ?_⟩
              rcases Nat.lt_or_ge j acc.length with hj | hj
              · rw [List.getElem?_append_left hj] at hy
                obtain ⟨t, h1, h2⟩ := hacc j y hy
                exact ⟨t, (h1.same (dw8.i x9)).same si, h2⟩
              · rw [List.getElem?_append_right hj] at hy
                have e0 : j - acc.length = 0 := by
                  rcases Nat.eq_zero_or_pos (j - acc.length) with h | h
                  · exact h
                  · rw [List.getElem?_eq_none (by show 1 ≤ _; exact h)] at hy
                    cases hy
                rw [e0] at hy
                cases hy
                have ej : j = k := by omega
                rw [ej]
                exact ⟨t9, i9.same si, ok9, sz9, by omega⟩
            · rintro H8 ⟨x8, dw8, acc, eD, lacc, hacc⟩
              have x18 := x17.trans x8
              have i1'' := i1'.same (dw7.i x8)
              have i2'' := i2'.same (dw7.i x8)
              have hth7 : SqT K H7 th _ := .inl (.inl eh)
              have hth8 := (dw7.i x8).tup hth7
              refine ⟨_, rfl, _, rfl, D, _, rfl, SqL.of eD, fun t8 its8 ht8 => ?_⟩
              have s8 := same_upd (o := .frz (tupObj its8) (.tup acc)) ht8
              have e8 : SqT K (upd H8 t8 (.frz (tupObj its8) (.tup acc))) t8 acc := .inl (.inr ⟨_, upd_same⟩)
              refine ⟨th, t8, _, acc, rfl, rfl, Same.tup s8 hth8, e8, List.cons_ne_nil _ _, small (by show 4 + acc.length ≤ _; omega), fun e => ?_, fun _ p hp => ?_⟩
              · rw [e] at lacc
                have : (0 : Nat) = (6 - wy).toNat := lacc
                omega
              have s9 := same_upd (o := .tup ([.str wd, v1, v2, .int (d - 2)] ++ acc)) hp
              have s89 := s8.trans s9
              have up := tsz_if deep.toNat d1
              have fin : SameX st H (upd (upd H8 t8 (.frz (tupObj its8) (.tup acc))) p (.tup ([.str wd, v1, v2, .int (d - 2)] ++ acc))) := (sameX_of s0).trans (x18.trans (sameX_of s89))
              have dwf := dw8.step s89
              rcases hwy with ⟨e4, rfl⟩ | ⟨e5, rfl⟩
              · have l2 : acc.length = 2 := by rw [lacc, e4]; rfl
                obtain ⟨y0, y1, rfl⟩ : ∃ y0 y1, acc = [y0, y1] := by
                  match acc, l2 with
                  | [y0, y1], _ => exact ⟨y0, y1, rfl⟩
                obtain ⟨ta, a1, a2, a3, a4⟩ := hacc 0 y0 rfl
                obtain ⟨tb, b1, b2, b3, b4⟩ := hacc 1 y1 rfl
                refine q _ _ (.if_ m1 m2 (d - 2) ta tb) fin dwf ?_ ⟨⟨ok1, ok2, nr, a2.1, b2.1⟩, a2.2, b2.2⟩ ?_ ?_
                · exact .tup (.inl (.inl upd_same)) (.cons (.str _) (.cons (i1''.same (sameI_of s89)) (.cons (i2''.same (sameI_of s89)) (.cons (.int _) (.cons (a1.same (sameI_of s89)) (.cons (b1.same (sameI_of s89)) .nil))))))
                · show ta.size + tb.size + 1 ≤ _
                  have h1 : deep.toNat - 1 - 0 = deep.toNat - 1 := rfl
                  have h2 : deep.toNat - 1 - 1 = deep.toNat - 2 := by omega
                  rw [h1] at a3
                  rw [h2] at b3
                  omega
                · show max ta.deep tb.deep + 1 ≤ _
                  omega
              · have l1 : acc.length = 1 := by rw [lacc, e5]; rfl
                obtain ⟨y0, rfl⟩ : ∃ y0, acc = [y0] := by
                  match acc, l1 with
                  | [y0], _ => exact ⟨y0, rfl⟩
                obtain ⟨ta, a1, a2, a3, a4⟩ := hacc 0 y0 rfl
                refine q _ _ (.claim m1 m2 (d - 2) ta) fin dwf ?_ ⟨⟨ok1, ok2, nr, a2.1⟩, a2.2⟩ ?_ ?_
                · exact .tup (.inl (.inl upd_same)) (.cons (.str _) (.cons (i1''.same (sameI_of s89)) (.cons (i2''.same (sameI_of s89)) (.cons (.int _) (.cons (a1.same (sameI_of s89)) .nil)))))
                · show ta.size + 1 ≤ _
                  have h1 : deep.toNat - 1 - 0 = deep.toNat - 1 := rfl
                  rw [h1] at a3
                  omega
                · show ta.deep + 1 ≤ _
                  omega
theorem ok_w_tree (T : Tx K w mg A) : ∀ n : Nat, FnOk P w K mg base CX0 (n + 3) A.f_w_tree A.fd_w_tree P_w_tree (spTreeW K n)
  | 0 => step_w_tree (P := P) (base := base) T 0 (fun _ _ _ _ => False) ⟨fun _ _ _ _ h => h.elim, fun _ _ _ _ _ _ _ _ _ _ _ _ _ h => h.elim⟩ fun _ _ _ _ _ e => nomatch e
  | n + 1 => step_w_tree (P := P) (base := base) T (n + 1) (spTreeW K n) (ok_w_tree T n) fun _ _ _ _ _ e h => by
    cases e
    exact h
end
end Cs
namespace Cs
open PySem PySem.Spec L2
abbrev rListOf (K : PySem.W.Frag) : List V → Hp → VK → Prop := fun xs H Q => ∃ p ys, xs = [.ref p] ∧ (SqL K H p ys ∨ SqT K H p ys) ∧ ∀ l, H l = none → Q (.ref l) (upd H l (.lst ys))
def kdOf (d : Int) : Kd := if d = 0 then .num else .lst
theorem kd_at {d : Int} (h0 : 0 ≤ d) (h2 : d < 2) : atI [V.str "number", V.str "list"] d = some (kdOf d).v := by
  by_cases h : d = 0
  · subst h
    rfl
  · obtain rfl : d = 1 := by omega
    rfl
def mkL (ks : List Kd) : Nm := ks.mapIdx fun k kd => (lt k, kd)
theorem mkL_len (ks : List Kd) : (mkL ks).length = ks.length := List.length_mapIdx
theorem mkL_at {ks : List Kd} {k : Nat} {kd : Kd} (h : ks[k]? = some kd) : (mkL ks)[k]? = some (lt k, kd) := by
  unfold mkL
  rw [List.getElem?_mapIdx, h]
  rfl
theorem mkL_ok (ks : List Kd) : KnOk (mkL ks) := fun i p h => by
  unfold mkL at h
  rw [List.getElem?_mapIdx] at h
  obtain ⟨kd, _, rfl⟩ := Option.map_eq_some_iff.mp h
  rfl
theorem KnOk.names {ns : Nm} (h : KnOk ns) (hl : ns.length ≤ 26) : (∀ p ∈ ns, okName p.1) ∧ (ns.map (·.1)).Nodup := by
  refine ⟨fun p hp => ?_, ?_⟩
  · obtain ⟨i, hi, e⟩ := List.mem_iff_getElem.mp hp
    rw [h i p (by rw [List.getElem?_eq_getElem hi, e])]
    exact lt_ok i (by omega)
  · rw [List.nodup_iff_pairwise_ne, List.pairwise_iff_getElem]
    intro i j hi hj hij
    rw [List.getElem_map, List.getElem_map]
    rw [List.length_map] at hi hj
    rw [h i _ (List.getElem?_eq_getElem hi), h j _ (List.getElem?_eq_getElem hj)]
    intro z
    have := lt_inj z
    omega
section
variable {P : Program} {w : World} {K : PySem.W.Frag} {mg : Str → Option Value} {base : Heap} {A : Adr}
theorem fns_of {H : Hp} {hs : List (Nm × Kd)} {R : Fn → Prop} : ∀ (acc : List V) (l : List (Nm × Kd)), acc.length = l.length → (∀ (i : Nat) y, acc[i]? = some y → ∃ h t, l[i]? = some h ∧ FnAt K H y ⟨h.1, h.2, t⟩ ∧ R ⟨h.1, h.2, t⟩) →
    ∃ fs : List Fn, Paired (FnAt K H) acc fs ∧ fs.map (fun f => (f.ps, f.kd)) = l ∧ ∀ f ∈ fs, R f
  | [], [], _, _ => ⟨[], .nil, rfl, fun _ h => by cases h⟩
  | [], _ :: _, e, _ => nomatch e
  | _ :: _, [], e, _ => nomatch e
  | y :: acc, x :: l, e, h => by
    obtain ⟨h1, t, e1, f1, f2⟩ := h 0 y rfl
    cases e1
    obtain ⟨fs, g1, g2, g3⟩ := fns_of (hs := hs) (R := R) acc l (Nat.succ.inj e) fun i y hy => h (i + 1) y hy
    refine ⟨⟨x.1, x.2, t⟩ :: fs, .cons f1 g1, by rw [List.map_cons, g2], fun f hf => ?_⟩
    rcases List.mem_cons.mp hf with e | hf
    · rw [e]; exact f2
    · exact g3 f hf
/-- the heads that are drawn -/
def HdOk (h : Nm × Kd) : Prop := KnOk h.1 ∧ h.1.length ≤ 2
def spProgW (K : PySem.W.Frag) : Sp := fun vs H Q _ => ∃ (B : Hp) (st : Addr) (many deep : Int), vs = [.ref st, .int many, .int deep] ∧ 1 ≤ many ∧ many ≤ 6 ∧ 0 ≤ deep ∧ deep ≤ 5 ∧ Same B H ∧ B st = none ∧ Dw K B H st ∧
  ∀ H1 v fs, SameX st H H1 → Dw K B H1 st → PgAt K H1 v fs → okPg fs → (fs.length : Int) ≤ many → (∀ f ∈ fs, f.ps.length ≤ 2) → (∀ f ∈ fs, f.one) → Q v H1
set_option maxHeartbeats 8000000 in
theorem ok_w_program (T : Tx K w mg A) : FnOk P w K mg base CX0 9 A.f_w_program A.fd_w_program P_w_program (spProgW K) := by
  have G_w_drawn := ok_w_drawn (P := P) (base := base) T
  have G_w_tree := ok_w_tree (P := P) (base := base) T 5
  refine T.F_w_program.ok sc_w_program (fun vs H Q E h => ?_) (fun cdv AA outer s H vs Q E hr h => ?_)
  · obtain ⟨B, st, many, deep, rfl, _⟩ := h
    rfl
  · obtain ⟨B, st, many, deep, rfl, m1, m6, dp0, dp5, sB, nB, dw, q⟩ := h
    refine ⟨_, (pss_cons (ps_set (i := 3) sc_w_program.nd rfl (.inr rfl) (pe_lst pa_nil))
  (pss_cons (ps_for PassesOwn.never rfl (pi_range1 (by rfl) T.n_range (pa_cons (pe_op op_add pe_int (pe_call G_w_drawn (hr.mono (by decide)) (by rfl) T.g_w_drawn T.F_w_drawn.kp T.b_w_drawn .nil pass0 (pa_cons (pv 0) (pa_cons (pv 1) pa_nil)))) pa_nil)) (pg_name (i := 4) sc_w_program.nd rfl (.inl rfl))
  (pss_cons (ps_set (i := 5) sc_w_program.nd rfl (.inr rfl) (pe_lc (own := [("_law_k", 7)]) (g := (gName 7)) (tt := tYes) (te := (tOp (rIxL K) _ _)) rfl sc_w_program.nd (pi_range1 (by rfl) T.n_range (pa_cons (pe_call G_w_drawn (hr.mono (by decide)) (by rfl) T.g_w_drawn T.F_w_drawn.kp T.b_w_drawn .nil pass0 (pa_cons (pv 0) (pa_cons pe_int pa_nil))) pa_nil)) (blkOk_by (N := N_w_program) (sc := defScope s_w_program) (by decide +kernel)) (fun _ _ _ _ _ => (pg_name (i := 7) sc_w_program.nd rfl (.inl rfl))) (fun _ _ _ _ _ => pts_nil) (fun _ _ _ _ _ => (pe_ix ix_list (pe_lst (pa_cons pe_str (pa_cons pe_str pa_nil))) (pe_call G_w_drawn (hr.mono (by decide)) (by rfl) T.g_w_drawn T.F_w_drawn.kp T.b_w_drawn .nil pass0 (pa_cons (pv 0) (pa_cons pe_int pa_nil))) (fun _ _ => rfl)))))
  (pss_cons (ps_set (i := 6) sc_w_program.nd rfl (.inl rfl) (pe_callTy cr_tupF (by rfl) T.n_tuple (by decide +kernel) (pa_cons (pe_lc (own := [("_law_k", 7)]) (g := (gName 7)) (tt := tYes) (te := (tTup (tCons (tOp rIxS _ (tVar 7)) (tCons (tOp (rIxL K) (tVar 5) (tVar 7)) tNil)))) rfl sc_w_program.nd (pi_range1 (by rfl) T.n_range (pa_cons (pe_callB call_len (by rfl) T.n_len (by decide +kernel) (pa_cons (pv 5) pa_nil)) pa_nil)) (blkOk_by (N := N_w_program) (sc := defScope s_w_program) (by decide +kernel)) (fun _ _ _ _ _ => (pg_name (i := 7) sc_w_program.nd rfl (.inl rfl))) (fun _ _ _ _ _ => pts_nil) (fun _ _ _ _ _ => (pe_tup (pa_cons (pe_ix ix_str pe_str (pv 7) (fun _ _ => rfl)) (pa_cons (pe_ix ix_list (pv 5) (pv 7) (fun _ _ => rfl)) pa_nil))))) pa_nil)))
  (pss_one (ps_expr (pe_bm PySem.F.plainAttrs_list PySem.F.slot_list_append PySem.F.type_list_append mt_append (pv 3) (pa_cons (pe_tup (pa_cons (pv 6) (pa_cons (pe_ix ix_list (pe_lst (pa_cons pe_str (pa_cons pe_str pa_nil))) (pe_call G_w_drawn (hr.mono (by decide)) (by rfl) T.g_w_drawn T.F_w_drawn.kp T.b_w_drawn .nil pass0 (pa_cons (pv 0) (pa_cons pe_int pa_nil))) (fun _ _ => rfl)) pa_nil))) pa_nil)))))))
  (pss_one (ps_ret (pe_callTy cr_tupF (by rfl) T.n_tuple (by decide +kernel) (pa_cons (pe_lc (own := [("_law_head", 8)]) (g := (gName 8)) (tt := tYes) (te := (tOp (rCatT K) (tVar 8) (tTup (tCons (tCall _ _ _ (tCons (tVar 0) (tCons (tVar 3) (tCons (tOp (rIxT K) (tVar 8) _) (tCons (tCB (rListOf K) (tCons (tOp (rIxT K) (tVar 8) _) tNil)) (tCons (tVar 2) tNil)))))) tNil)))) rfl sc_w_program.nd (pi_list (pv 3)) (blkOk_by (N := N_w_program) (sc := defScope s_w_program) (by decide +kernel)) (fun _ _ _ _ _ => (pg_name (i := 8) sc_w_program.nd rfl (.inl rfl))) (fun _ _ _ _ _ => pts_nil) (fun _ _ _ _ _ => (pe_op op_catT (pv 8) (pe_tup (pa_cons (pe_call G_w_tree (hr.mono (by decide)) (by rfl) T.g_w_tree T.F_w_tree.kp T.b_w_tree .nil pass0 (pa_cons (pv 0) (pa_cons (pv 3) (pa_cons (pe_ix ix_tup (pv 8) pe_int (fun _ _ => rfl)) (pa_cons (pe_callTy call_list_of (by rfl) T.n_list (by decide +kernel) (pa_cons (pe_ix ix_tup (pv 8) pe_int (fun _ _ => rfl)) pa_nil)) (pa_cons (pv 2) pa_nil)))))) pa_nil))))) pa_nil)))))), ?_⟩
    refine ⟨by show 0 ≤ sizeLine; decide, fun hl hhl => ?_⟩
    have hlst : hl ≠ st := dw.ne hhl
    have sA := same_upd (o := .lst []) hhl
    have eA : upd H hl (.lst []) hl = some (.lst []) := upd_same
    generalize upd H hl (.lst []) = HA at sA eA ⊢
    refine ⟨_, rfl, _, rfl, B, st, many, rfl, sB.trans sA, nB, dw.step sA, by omega, by omega, fun H1 d d0 d1 x1 dw1 => ⟨_, _, rfl, rfl, _, rfl, by omega, by omega, ?_⟩⟩
    have x01 : SameX st H H1 := (sameX_of sA).trans x1
    refine for_it (walk_range (n := (1 + d).toNat)) (fun i σ H2 => ∃ y4 y5 y6 vs hs, σ = [some (.ref st), some (.int many), some (.int deep), some (.ref hl), y4, y5, y6, none, none] ∧ SameX st H H2 ∧ Dw K B H2 st ∧ H2 hl = some (.lst vs) ∧ Paired (HdAt K H2) vs hs ∧ hs.length = i ∧ ∀ h ∈ hs, HdOk h)
      ⟨none, none, none, [], [], rfl, x01, dw1, x1 _ _ hlst eA, .nil, rfl, fun _ h => by cases h⟩ (fun _ _ _ _ _ => True.intro) ?_ ?_
    · rintro i v4 σ H2p H2 hi ⟨y4, y5, y6, hvs, hs, rfl, x2, dw2, ehl, hp, lhs, hok⟩ ⟨rfl, -⟩
      have sB2 := SameX.same sB x2 nB
      refine ⟨_, rfl, B, st, 3, rfl, sB2, nB, dw2, by decide, by decide, fun H3 k k0 k3 x3 dw3 => ⟨_, rfl, by omega, by omega, fun D hD => ?_⟩⟩
      have dst : D ≠ st := dw3.ne hD
      have x03 := x2.trans x3
      have sB3 := SameX.same sB x03 nB
      have ehl3 : H3 hl = some (.lst hvs) := x3 _ _ hlst ehl
      have hp3 : Paired (HdAt K H3) hvs hs := Paired.mapP hp fun _ _ q => q.same (dw2.i x3)
      refine walk_by (walk_range (n := k.toNat)) (fun j H6 => SameX st H3 H6 ∧ Dw K B H6 st ∧ ∃ ks : List Kd, H6 D = some (.lst (ks.map Kd.v)) ∧ ks.length = j)
        ⟨(SameX.refl _ _).new hD, dw3.upd dst, [], upd_same, rfl⟩ (fun _ _ _ _ => True.intro) ?_ ?_
      · rintro j vj H6 H6p hj ⟨x6, dw6, ks, e6, lks⟩ ⟨rfl, -⟩
        refine ⟨rfl, yes_te ⟨by show 2 ≤ sizeLine; decide, fun L hL => ⟨_, rfl, B, st, 2, rfl, SameX.same sB3 (x6.new hL) nB, nB, dw6.upd (dw6.ne hL), by decide, by decide, fun H7 d7 d70 d72 x7 dw7 => ?_⟩⟩⟩
        have lL : L ≠ st := dw6.ne hL
        have eL : H7 L = some (.lst [.str "number", .str "list"]) := x7 _ _ lL upd_same
        have e7 : H7 D = some (.lst (ks.map Kd.v)) := x7 _ _ dst (same_upd hL _ _ e6)
        refine ⟨L, _, d7, (kdOf d7).v, rfl, rfl, SqL.of eL, kd_at d70 d72, _, e7, smaller (by rw [List.length_map]; omega), ?_⟩
        refine ⟨((x6.new hL).trans x7).old hD, dw7.upd dst, ks ++ [kdOf d7], ?_, by rw [List.length_append, lks]; rfl⟩
        rw [upd_same, List.map_append]
        rfl
      · rintro H6 ⟨x6, dw6, ks, e6, lks⟩
        have lk2 : ks.length ≤ 2 := by omega
        have x06 := x03.trans x6
        have ehl6 : H6 hl = some (.lst hvs) := x6 _ _ hlst ehl3
        have hp6 : Paired (HdAt K H6) hvs hs := Paired.mapP hp3 fun _ _ q => q.same (dw3.i x6)
        refine ⟨_, rfl, _, _, rfl, .inl ⟨_, SqL.of e6, (List.length_map _).symm⟩, (ks.length : Nat), rfl, by omega, by omega, fun D2 hD2 => ?_⟩
        refine lc_data (walk_range (n := ks.length)) (fun i y H => ∃ p kd, y = .ref p ∧ ks[i]? = some kd ∧ PrAt K H p (lt i, kd)) (fun i v H H2 si ⟨p, kd, h1, h2, h3⟩ => ⟨p, kd, h1, h2, h3.same si⟩) hD2 (fun _ _ => True.intro) (by omega) ?_ ?_
        · rintro i x8 H8 H8' k8 hi s8 ⟨rfl, hx8⟩ hk
          obtain rfl : x8 = .int (i : Nat) := by
            rw [hx8]
            show V.int ((0 : Int) + ((i : Nat) : Int)) = _
            rw [Int.zero_add]
          obtain ⟨ki, hki⟩ : ∃ ki, ks[i]? = some ki := ⟨_, List.getElem?_eq_getElem hi⟩
          refine ⟨rfl, _, rfl, _, _, _, rfl, rfl, by decide +kernel, atI_nat (abc3_at i (by omega)), _, rfl, _, rfl, _, _, _, _, rfl, rfl, SqL.of (s8 _ _ e6), atI_nat (j := i) (by rw [List.getElem?_map, hki]; rfl), by show 2 ≤ sizeLine; decide, fun t2 ht2 => ?_⟩
          exact hk _ _ (same_upd ht2) ⟨t2, ki, rfl, hki, .inl (.inl upd_same)⟩
        · rintro H8 acc s8 e8 l8 hE8
          obtain ⟨qs, rfl, hqs⟩ : ∃ qs : List Addr, acc = qs.map V.ref ∧ Paired (PrAt K H8) qs (mkL ks) := by
            refine refs_of (by rw [mkL_len]; exact l8) fun i y hy => ?_
            obtain ⟨p, ki, h1, h2, h3⟩ := hE8 i y hy
            exact ⟨p, _, h1, mkL_at h2, h3⟩
          refine ⟨D2, _, rfl, SqL.of e8, fun pa its hpa => ?_⟩
          have s9 := same_upd (o := .frz (tupObj its) (.tup (qs.map V.ref))) hpa
          have hpl9 : PlT (upd H8 pa (.frz (tupObj its) (.tup (qs.map V.ref)))) pa (qs.map V.ref) := PlT.new
          generalize upd H8 pa (.frz (tupObj its) (.tup (qs.map V.ref))) = H9 at s9 hpl9 ⊢
          have hqs9 : Paired (PrAt K H9) qs (mkL ks) := Paired.mapP hqs fun _ _ q => q.same (sameI_of s9)
          have s69 : Same H6 H9 := s8.trans s9
          have ehl9 := s69 _ _ ehl6
          have x09 := x06.trans (sameX_of s69)
          have dw9 := dw6.step s69
          refine ⟨_, rfl, .inl ⟨rfl, _, SqL.of ehl9⟩, _, rfl, by show 2 ≤ sizeLine; decide, fun L hL => ⟨_, rfl, B, st, 2, rfl, SameX.same sB (x09.new hL) nB, nB, dw9.upd (dw9.ne hL), by decide, by decide, fun H10 d10 d100 d102 x10 dw10 => ?_⟩⟩
          have lL : L ≠ st := dw9.ne hL
          have eL : H10 L = some (.lst [.str "number", .str "list"]) := x10 _ _ lL upd_same
          refine ⟨L, _, d10, (kdOf d10).v, rfl, rfl, SqL.of eL, kd_at d100 d102, by show 2 ≤ sizeLine; decide, fun t3 ht3 => ?_⟩
          have x910 : SameX st H9 H10 := ((SameX.refl _ _).new hL).trans x10
          have s11 := same_upd (o := .tup [.ref pa, (kdOf d10).v]) ht3
          have e11 : upd H10 t3 (.tup [.ref pa, (kdOf d10).v]) t3 = some (.tup [.ref pa, (kdOf d10).v]) := upd_same
          generalize upd H10 t3 (.tup [.ref pa, (kdOf d10).v]) = H11 at s11 e11 ⊢
          have x911 : SameX st H9 H11 := x910.trans (sameX_of s11)
          have i911 := dw9.i x911
          have ehl11 := x911 _ _ hlst ehl9
          have dw11 := dw10.step s11
          have lv : hvs.length = hs.length := Paired.length hp6
          refine ⟨hl, hvs, _, rfl, rfl, ehl11, smaller (by omega), ?_⟩
          have si := sameI_upd (o := .lst (hvs ++ [.ref t3])) ehl11 id
          refine ⟨_, _, _, hvs ++ [.ref t3], hs ++ [(mkL ks, kdOf d10)], rfl, ?_, dw11.upd hlst, upd_same, ?_, by rw [List.length_append, lhs]; rfl, fun h hh => ?_⟩
          · exact (x09.trans x911).old hhl
          · refine paired_append (Paired.mapP hp6 fun _ _ q => q.same (((sameI_of s69).trans i911).trans si)) (.cons ⟨t3, pa, qs, rfl, si.tup (.inl (.inl e11)), (i911.trans si).pl hpl9, Paired.mapP hqs9 fun _ _ q => q.same (i911.trans si)⟩ .nil)
          · rcases List.mem_append.mp hh with h1 | h1
            · exact hok h h1
            · rw [List.mem_singleton.mp h1]
              exact ⟨mkL_ok ks, by rw [show (mkL ks, kdOf d10).1 = mkL ks from rfl, mkL_len]; exact lk2⟩
    · rintro σ H2 ⟨y4, y5, y6, hvs, hs, rfl, x2, dw2, ehl, hp, lhs, hok⟩
      have lv : hvs.length = hs.length := Paired.length hp
      have sB2 := SameX.same sB x2 nB
      have lh10 : hs.length ≤ 10 := by omega
      have hp10 : ∀ h ∈ hs, h.1.length ≤ 10 := fun h hh => Nat.le_trans (hok h hh).2 (by decide)
      refine ⟨_, rfl, hl, rfl, ⟨_, SqL.of ehl⟩, fun D hD => ?_⟩
      have dst : D ≠ st := dw2.ne hD
      refine walk_by (walk_list (K := K) (a := hl) (xs := hvs)) (fun j H6 => SameX st H2 H6 ∧ Dw K B H6 st ∧ ∃ acc, H6 D = some (.lst acc) ∧ acc.length = j ∧ ∀ (i : Nat) y, acc[i]? = some y → ∃ h t, hs[i]? = some h ∧ FnAt K H6 y ⟨h.1, h.2, t⟩ ∧ t.ok1 (hdsOf hs) h.2 h.1 ∧ t.size ≤ 60 ∧ t.deep ≤ 20)
        ⟨(SameX.refl _ _).new hD, dw2.upd dst, [], upd_same, rfl, fun i y e => by simp at e⟩ (fun _ _ _ h => SqL.of (h.1 _ _ hlst ehl)) ?_ ?_
      · rintro j v8 H6p H6 hj ⟨x6, dw6, acc, eD, lacc, hacc⟩ ⟨rfl, hv⟩
        obtain ⟨h, hh, a, p, qs, rfl, g1, g2, g3⟩ := paired_get hp hv
        obtain ⟨kok, kl⟩ := hok h (List.mem_of_getElem? hh)
        have x06 := x2.trans x6
        have g1' := (dw2.i x6).tup g1
        have g2' := (dw2.i x6).pl g2
        have g3' : Paired (PrAt K H6) qs h.1 := Paired.mapP g3 fun _ _ q => q.same (dw2.i x6)
        refine ⟨rfl, yes_te ⟨_, rfl, _, rfl, _, rfl, _, rfl, _, _, _, _, rfl, rfl, g1', atI_nat (j := 1) rfl, _, rfl, _, _, _, _, rfl, rfl, g1', atI_nat (j := 0) rfl, p, _, rfl, .inr g2'.sq, fun l7 hl7 => ⟨_, rfl, ?_⟩⟩⟩
        have s7 := same_upd (o := .lst (qs.map V.ref)) hl7
        have e7 : upd H6 l7 (.lst (qs.map V.ref)) l7 = some (.lst (qs.map V.ref)) := upd_same
        generalize upd H6 l7 (.lst (qs.map V.ref)) = H7 at s7 e7 ⊢
        have x07 := x06.trans (sameX_of s7)
        have dw7 := dw6.step s7
        refine ⟨B, st, hl, l7, h.2, hs, h.1, deep, rfl, by omega, by decide, by omega, SameX.same sB x07 nB, nB, dw7, ⟨hvs, SqL.of (s7 _ _ (x6 _ _ hlst ehl)), Paired.mapP hp fun _ _ q => q.same ((dw2.i x6).trans (sameI_of s7))⟩, lh10, hp10, ⟨qs, e7, Paired.mapP g3' fun _ _ q => q.same (sameI_of s7)⟩, kok, by omega, fun H8 y8 t8 x8 dw8 i8 ok8 sz8 dp8 => ?_⟩
        refine ⟨by show 1 ≤ sizeLine; decide, fun t9 ht9 => ?_⟩
        have s9 := same_upd (o := .tup [y8]) ht9
        have i69 := ((sameI_of s7).trans (dw7.i x8)).trans (sameI_of s9)
        refine ⟨a, t9, _, [y8], rfl, rfl, i69.tup g1', .inl (.inl upd_same), List.cons_ne_nil _ _, by show 3 ≤ sizeLine; decide, (fun e => by cases e), fun _ t10 ht10 => ?_⟩
        have s10 := same_upd (o := .tup ([.ref p, h.2.v] ++ [y8])) ht10
        have e10 : upd (upd H8 t9 (.tup [y8])) t10 (.tup ([.ref p, h.2.v] ++ [y8])) t10 = some (.tup [.ref p, h.2.v, y8]) := upd_same
        have x610 : SameX st H6 (upd (upd H8 t9 (.tup [y8])) t10 (.tup ([.ref p, h.2.v] ++ [y8]))) := (sameX_of s7).trans (x8.trans (sameX_of (s9.trans s10)))
        have dw10 := dw8.step (s9.trans s10)
        have i8' := i8.same (sameI_of (s9.trans s10))
        generalize upd (upd H8 t9 (.tup [y8])) t10 (.tup ([.ref p, h.2.v] ++ [y8])) = H10 at x610 e10 dw10 i8' ⊢
        have i610 := dw6.i x610
        have eD10 := x610 _ _ dst eD
        have si := sameI_upd (o := .lst (acc ++ [.ref t10])) eD10 id
        have sz38 : tsz deep.toNat ≤ 60 := by
          have : deep.toNat ≤ 5 := by omega
          match deep.toNat, this with
          | 0, _ => decide
          | 1, _ => decide
          | 2, _ => decide
          | 3, _ => decide
          | 4, _ => decide
          | 5, _ => decide
        have fn10 : FnAt K (upd H10 D (.lst (acc ++ [.ref t10]))) (.ref t10) ⟨h.1, h.2, t8⟩ := ⟨t10, p, y8, qs, rfl, si.tup (.inl (.inl e10)), (i610.trans si).pl g2', Paired.mapP g3' fun _ _ q => q.same (i610.trans si), i8'.same si⟩
        refine ⟨acc, eD10, smaller (by omega), (x6.trans x610).old hD, dw10.upd dst, acc ++ [.ref t10], upd_same, by rw [List.length_append, lacc]; rfl, fun i y hy => ?_⟩
        rcases Nat.lt_or_ge i acc.length with hi | hi
        · rw [List.getElem?_append_left hi] at hy
          obtain ⟨h1, t1, e1, f1, f2⟩ := hacc i y hy
          exact ⟨h1, t1, e1, f1.same (i610.trans si), f2⟩
        · rw [List.getElem?_append_right hi] at hy
          have e0 : i - acc.length = 0 := by
            rcases Nat.eq_zero_or_pos (i - acc.length) with h | h
            · exact h
            · rw [List.getElem?_eq_none (by show 1 ≤ _; exact h)] at hy
              cases hy
          rw [e0] at hy
          cases hy
          have ei : i = j := by omega
          rw [ei]
          exact ⟨h, t8, hh, fn10, ok8, by omega, by omega⟩
      · rintro H6 ⟨x6, dw6, acc, eD, lacc, hacc⟩
        refine ⟨D, acc, rfl, SqL.of eD, fun tt its htt => ?_⟩
        have s7 := same_upd (o := .frz (tupObj its) (.tup acc)) htt
        obtain ⟨fs, hfs, ehs, hfok⟩ : ∃ fs : List Fn, Paired (FnAt K H6) acc fs ∧ fs.map (fun f => (f.ps, f.kd)) = hs ∧ ∀ f ∈ fs, f.tr.ok1 (hdsOf hs) f.kd f.ps ∧ f.tr.size ≤ 60 ∧ f.tr.deep ≤ 20 := by
          have := fns_of (hs := hs) (R := fun f => f.tr.ok1 (hdsOf hs) f.kd f.ps ∧ f.tr.size ≤ 60 ∧ f.tr.deep ≤ 20) acc hs (by rw [lacc]; exact lv) fun i y hy => by
            obtain ⟨h, t, e1, f1, f2⟩ := hacc i y hy
            exact ⟨h, t, e1, f1, f2⟩
          exact this
        have lfs : fs.length = hs.length := by rw [← ehs, List.length_map]
        have ehd : fs.map Fn.hd = hdsOf hs := by
          rw [← ehs]
          show _ = (fs.map fun f => (f.ps, f.kd)).map _
          rw [List.map_map]
          rfl
        have pok : ∀ f ∈ fs, HdOk (f.ps, f.kd) := fun f hf => hok _ (by rw [← ehs]; exact List.mem_map.mpr ⟨f, hf, rfl⟩)
        have lpos : 1 ≤ hs.length := by omega
        refine q _ _ fs (x2.trans (x6.trans (sameX_of s7))) (dw6.step s7) ⟨tt, acc, rfl, .inl (.inr ⟨_, upd_same⟩), Paired.mapP hfs fun _ _ q => q.same (sameI_of s7)⟩ ⟨by omega, by omega, fun f hf => ?_⟩ (by omega) (fun f hf => (pok f hf).2) (fun f hf => ⟨fun p hp => ?_, (hfok f hf).1.2⟩)
        rotate_left
        · obtain ⟨i, hi, e⟩ := List.mem_iff_getElem.mp hp
          rw [(pok f hf).1 i p (by rw [List.getElem?_eq_getElem hi, e])]
          exact lt_len i
        obtain ⟨k1, k2⟩ := pok f hf
        obtain ⟨n1, n2⟩ := KnOk.names k1 (Nat.le_trans k2 (by decide))
        obtain ⟨o1, o2, o3⟩ := hfok f hf
        rw [ehd]
        exact ⟨Nat.le_trans k2 (by decide), n1, n2, o1.1, o2, o3⟩
end
end Cs
namespace Cs
open PySem PySem.Spec L2
section
variable {P : Program} {w : World} {K : PySem.W.Frag} {mg : Str → Option Value} {base : Heap} {A : Adr}
def spAnswersW (K : PySem.W.Frag) : Sp := fun vs H Q _ => ∃ (B : Hp) (st : Addr), vs = [.ref st] ∧ Same B H ∧ B st = none ∧ Dw K B H st ∧
  ∀ H1 p (zs : List Int), SameX st H H1 → Dw K B H1 st → H p = none → p ≠ st → H1 p = some (.lst (zs.map V.int)) → zs.length ≤ 3 → (∀ z ∈ zs, -2 ≤ z ∧ z ≤ 4) → Q (.ref p) H1
theorem ok_w_answers (T : Tx K w mg A) : FnOk P w K mg base CX0 2 A.f_w_answers A.fd_w_answers P_w_answers (spAnswersW K) := by
  have G_w_drawn := ok_w_drawn (P := P) (base := base) T
  refine T.F_w_answers.ok sc_w_answers (fun vs H Q E h => ?_) (fun cdv AA outer s H vs Q E hr h => ?_)
  · obtain ⟨B, st, rfl, _⟩ := h
    rfl
  · obtain ⟨B, st, rfl, sB, nB, dw, q⟩ := h
    refine ⟨_, (pss_one (ps_ret (pe_lc (own := [("_law_k", 1)]) (g := (gName 1)) (tt := tYes) (te := _) rfl sc_w_answers.nd (pi_range1 (by rfl) T.n_range (pa_cons (pe_call G_w_drawn (hr.mono (by decide)) (by rfl) T.g_w_drawn T.F_w_drawn.kp T.b_w_drawn .nil pass0 (pa_cons (pv 0) (pa_cons pe_int pa_nil))) pa_nil)) (blkOk_by (N := N_w_answers) (sc := defScope s_w_answers) (by decide +kernel)) (fun _ _ _ _ _ => (pg_name (i := 1) sc_w_answers.nd rfl (.inl rfl))) (fun _ _ _ _ _ => pts_nil) (fun _ _ _ _ _ => (pe_op op_sub (pe_call G_w_drawn (hr.mono (by decide)) (by rfl) T.g_w_drawn T.F_w_drawn.kp T.b_w_drawn .nil pass0 (pa_cons (pv 0) (pa_cons pe_int pa_nil))) pe_int))))), ?_⟩
    refine ⟨_, rfl, B, st, 4, rfl, sB, nB, dw, by decide, by decide, fun H5 d5 d50 d54 x5 dw5 => ⟨_, rfl, by omega, by omega, fun D1 hD1 => ?_⟩⟩
    have s5 : Same B H5 := SameX.same sB x5 nB
    have d1st : D1 ≠ st := dw5.ne hD1
    have nD1 : H D1 = none := by
      cases e : H D1 with
      | none => rfl
      | some o => rw [x5 _ _ d1st e] at hD1; cases hD1
    refine walk_by (walk_range (n := d5.toNat)) (fun k H6 => SameX st H5 H6 ∧ Dw K B H6 st ∧ ∃ zs : List Int, H6 D1 = some (.lst (zs.map V.int)) ∧ zs.length = k ∧ ∀ z ∈ zs, -2 ≤ z ∧ z ≤ 4)
      ⟨(SameX.refl _ _).new hD1, dw5.upd d1st, [], upd_same, rfl, fun _ h => by cases h⟩ (fun _ _ _ _ => True.intro) ?_ ?_
    · rintro k v6 H6 H6' hk ⟨x6, dw6, zs, e6, lzs, hzs⟩ ⟨rfl, -⟩
      refine ⟨rfl, yes_te ⟨_, rfl, B, st, 7, rfl, SameX.same s5 x6 nB, nB, dw6, by decide, by decide, fun H7 d7 d70 d77 x7 dw7 => ?_⟩⟩
      refine ⟨_, _, rfl, rfl, _, x7 _ _ d1st e6, smaller (by rw [List.length_map]; omega), (x6.trans x7).old hD1, dw7.upd d1st, zs ++ [d7 - 2], ?_, by rw [List.length_append, lzs]; rfl, fun z hz => ?_⟩
      · rw [upd_same, List.map_append]
        rfl
      · rcases List.mem_append.mp hz with h | h
        · exact hzs z h
        · rw [List.mem_singleton.mp h]
          omega
    · rintro H6 ⟨x6, dw6, zs, e6, lzs, hzs⟩
      exact q _ D1 zs (x5.trans x6) dw6 nD1 d1st e6 (by omega) hzs
end
end Cs
namespace Cs
open PySem PySem.Spec L2
section
variable {P : Program} {w : World} {K : PySem.W.Frag} {mg : Str → Option Value} {base : Heap} {A : Adr}
/-- te tells data d, whatever comes to stand beside -/
def Ts (K : PySem.W.Frag) (te : TE) (σ : L2.St) (H : Hp) (d : PyData) : Prop := ∀ H0, Same H H0 → ∀ Q : VK, (∀ v H1, Same H0 H1 → Im K H1 v d → Q v H1) → te σ H0 Q
def TsA (K : PySem.W.Frag) (ta : TA) (σ : L2.St) (H : Hp) (ds : List PyData) : Prop := ∀ H0, Same H H0 → ∀ Q : List V → Hp → Prop, (∀ vs H1, Same H0 H1 → ImAll K H1 vs ds → Q vs H1) → ta σ H0 Q
theorem ts_str {σ : L2.St} {H : Hp} {x : Str} : Ts K (tC (.str x)) σ H (.str x) := fun _ _ Q h => h _ _ (Same.refl _) (.str x)
theorem ts_int {σ : L2.St} {H : Hp} {x : Int} : Ts K (tC (.int x)) σ H (.int x) := fun _ _ Q h => h _ _ (Same.refl _) (.int x)
theorem ts_var {σ : L2.St} {H : Hp} {i : Nat} {v : V} {d : PyData} (e : σ[i]? = some (some v)) (i1 : Im K H v d) : Ts K (tVar i) σ H d := fun _ s Q h => ⟨v, e, h _ _ (Same.refl _) (i1.same (sameI_of s))⟩
theorem ts_sub {σ : L2.St} {H : Hp} {x y : Int} : Ts K (tOp (rI0 fun i j => .int (i - j)) (tC (.int x)) (tC (.int y))) σ H (.int (x - y)) := fun _ _ Q h => ⟨x, y, rfl, rfl, h _ _ (Same.refl _) (.int _)⟩
theorem tsA_nil {σ : L2.St} {H : Hp} : TsA K tNil σ H [] := fun _ _ Q h => h _ _ (Same.refl _) .nil
theorem tsA_cons {σ : L2.St} {H : Hp} {te : TE} {ta : TA} {d : PyData} {ds : List PyData} (h1 : Ts K te σ H d) (h2 : TsA K ta σ H ds) : TsA K (tCons te ta) σ H (d :: ds) := fun H0 s Q h =>
  h1 H0 s _ fun v H1 s1 i1 => h2 H1 (s.trans s1) _ fun vs H2 s2 i2 => h _ _ (s1.trans s2) (.cons (i1.same (sameI_of s2)) i2)
theorem ts_tup {σ : L2.St} {H : Hp} {ta : TA} {ds : List PyData} (h1 : TsA K ta σ H ds) (hl : ds.length ≤ 1000000) : Ts K (tTup ta) σ H (.tuple ds) := fun H0 s Q h =>
  h1 H0 s _ fun vs H1 s1 i1 => ⟨small (by rw [ImAll.length i1]; exact hl), fun p hp => h _ _ (s1.trans (same_upd hp)) (.tup (.inl (.inl upd_same)) (i1.same (sameI_of (same_upd hp))))⟩
theorem ts_use {te : TE} {σ : L2.St} {H : Hp} {d : PyData} {Q : VK} (h1 : Ts K te σ H d) (h : ∀ v H1, Same H H1 → Im K H1 v d → Q v H1) : te σ H Q := h1 H (Same.refl _) Q h
/-- a function with one param -/
theorem fn1 {σ : L2.St} {H : Hp} {Q : VK} {x : Str} {kd k : Kd} {tt : TE} {t : Tr} (ht : Ts K tt σ H t.d) (h : ∀ v H1, Same H H1 → FnAt K H1 v ⟨[(x, kd)], k, t⟩ → Q v H1) :
    tTup (tCons (tTupF (tCons (tTup (tCons (tC (.str x)) (tCons (tC kd.v) tNil))) tNil)) (tCons (tC k.v) (tCons tt tNil))) σ H Q := by
  refine ⟨by show 2 ≤ sizeLine; decide, fun a ha => ⟨by show 1 ≤ sizeLine; decide, fun p its hp => ?_⟩⟩
  have s1 := same_upd (o := .tup [.str x, kd.v]) ha
  have s2 := same_upd (o := .frz (tupObj its) (.tup [.ref a])) hp
  refine ht _ (s1.trans s2) _ fun v H1 s3 i3 => ⟨by show 3 ≤ sizeLine; decide, fun f hf => ?_⟩
  have s4 := same_upd (o := .tup [.ref p, k.v, v]) hf
  exact h _ _ (s1.trans (s2.trans (s3.trans s4))) ⟨f, p, v, [a], rfl, .inl (.inl upd_same), (sameI_of (s3.trans s4)).pl PlT.new, .cons (show PrAt K _ a (x, kd) from .inl (.inl ((s2.trans (s3.trans s4)) _ _ upd_same))) .nil, i3.same (sameI_of s4)⟩
theorem fn2 {σ : L2.St} {H : Hp} {Q : VK} {x y : Str} {kx ky k : Kd} {tt : TE} {t : Tr} (ht : Ts K tt σ H t.d) (h : ∀ v H1, Same H H1 → FnAt K H1 v ⟨[(x, kx), (y, ky)], k, t⟩ → Q v H1) :
    tTup (tCons (tTupF (tCons (tTup (tCons (tC (.str x)) (tCons (tC kx.v) tNil))) (tCons (tTup (tCons (tC (.str y)) (tCons (tC ky.v) tNil))) tNil))) (tCons (tC k.v) (tCons tt tNil))) σ H Q := by
  refine ⟨by show 2 ≤ sizeLine; decide, fun a ha => ⟨by show 2 ≤ sizeLine; decide, fun b hb => ⟨by show 2 ≤ sizeLine; decide, fun p its hp => ?_⟩⟩⟩
  have s1 := same_upd (o := .tup [.str x, kx.v]) ha
  have s1' := same_upd (o := .tup [.str y, ky.v]) hb
  have s2 := same_upd (o := .frz (tupObj its) (.tup [.ref a, .ref b])) hp
  refine ht _ (s1.trans (s1'.trans s2)) _ fun v H1 s3 i3 => ⟨by show 3 ≤ sizeLine; decide, fun f hf => ?_⟩
  have s4 := same_upd (o := .tup [.ref p, k.v, v]) hf
  exact h _ _ (s1.trans (s1'.trans (s2.trans (s3.trans s4)))) ⟨f, p, v, [a, b], rfl, .inl (.inl upd_same), (sameI_of (s3.trans s4)).pl PlT.new, .cons (show PrAt K _ a (x, kx) from .inl (.inl ((s1'.trans (s2.trans (s3.trans s4))) _ _ upd_same))) (.cons (show PrAt K _ b (y, ky) from .inl (.inl ((s2.trans (s3.trans s4)) _ _ upd_same))) .nil), i3.same (sameI_of s4)⟩
/-- a program of one function, in a tuple -/
theorem pg1 {σ : L2.St} {H : Hp} {Q : VK} {tf : TE} {f : Fn} (hf : ∀ Q : VK, (∀ v H1, Same H H1 → FnAt K H1 v f → Q v H1) → tf σ H Q) (h : ∀ p v H1, Same H H1 → H1 p = some (.tup [v]) → FnAt K H1 v f → Q (.ref p) H1) : tTup (tCons tf tNil) σ H Q :=
  hf _ fun v H1 s1 f1 => ⟨by show 1 ≤ sizeLine; decide, fun p hp => h p v _ (s1.trans (same_upd hp)) upd_same (f1.same (sameI_of (same_upd hp)))⟩
theorem pg_two {σ : L2.St} {H : Hp} {Q : VK} {i : Nat} {tf : TE} {p : Addr} {v : V} {f g : Fn} (hσ : σ[i]? = some (some (.ref p))) (e : H p = some (.tup [v])) (hf : FnAt K H v f) (hg : ∀ Q : VK, (∀ v H1, Same H H1 → FnAt K H1 v g → Q v H1) → tf σ H Q) (h : ∀ x H1, Same H H1 → PgAt K H1 x [f, g] → Q x H1) :
    tOp (rCatT K) (tVar i) (tTup (tCons tf tNil)) σ H Q := ⟨_, hσ, pg1 hg fun p2 v2 H1 s1 e1 f1 => ⟨p, p2, _, _, rfl, rfl, .inl (.inl (s1 _ _ e)), .inl (.inl e1), List.cons_ne_nil _ _, by show 2 ≤ sizeLine; decide, (fun e => by cases e), fun _ p3 hp3 => by
    have s2 := same_upd (o := .tup ([v] ++ [v2])) hp3
    exact h _ _ (s1.trans s2) ⟨p3, [v, v2], rfl, .inl (.inl upd_same), .cons (hf.same (sameI_of (s1.trans s2))) (.cons (f1.same (sameI_of s2)) .nil)⟩⟩⟩
theorem seq_at {te : TE} {i : Nat} {r : TS} {D : Ends} {σ : L2.St} {H : Hp} {σ' : V → L2.St} (e : ∀ v, σ.set i (some v) = σ' v) (h : te σ H fun v H1 => r D (σ' v) H1) : tSeq (tAsg te (gName i)) r D σ H := by
  have g : (fun v H1 => r D (σ' v) H1) = fun v H1 => r D (σ.set i (some v)) H1 := by
    funext v H1
    rw [e]
  rw [g] at h
  exact h
def Tr.oneB : Tr → Bool
  | .let_ x _ t => decide (x.length = 1) && t.oneB
  | .if_ _ _ _ t u => t.oneB && u.oneB
  | .claim _ _ _ t => t.oneB
  | .tell _ => true
theorem Tr.oneB_ok : ∀ {t : Tr}, t.oneB = true → t.one
  | .let_ x _ t, h => by
    have h : (decide (x.length = 1) && t.oneB) = true := h
    rw [Bool.and_eq_true] at h
    exact ⟨of_decide_eq_true h.1, Tr.oneB_ok h.2⟩
  | .if_ _ _ _ t u, h => by
    have h : (t.oneB && u.oneB) = true := h
    rw [Bool.and_eq_true] at h
    exact ⟨Tr.oneB_ok h.1, Tr.oneB_ok h.2⟩
  | .claim _ _ _ t, h => Tr.oneB_ok (t := t) h
  | .tell _, _ => True.intro
theorem one_all {fs : List Fn} (h : (fs.all fun f => (f.ps.all fun p => decide (p.1.length = 1)) && f.tr.oneB) = true) : ∀ f ∈ fs, f.one := fun f hf => by
  have := List.all_eq_true.mp h f hf
  rw [Bool.and_eq_true] at this
  exact ⟨fun p hp => of_decide_eq_true (List.all_eq_true.mp this.1 p hp), Tr.oneB_ok this.2⟩
theorem one_range : ∀ f ∈ pRange, f.one := one_all (by rfl)
theorem one_over (n m : Int) : ∀ f ∈ pOver n m, f.one := one_all (by rfl)
theorem one_copies (n m : Int) : ∀ f ∈ pCopies n m, f.one := one_all (by rfl)
theorem one_leasts (m : Int) : ∀ f ∈ pLeasts m, f.one := one_all (by rfl)
def spLoopsW (K : PySem.W.Frag) : Sp := fun vs H Q _ => ∃ (B : Hp) (st : Addr), vs = [.ref st] ∧ Same B H ∧ B st = none ∧ Dw K B H st ∧
  ∀ H1 v fs, SameX st H H1 → Dw K B H1 st → PgAt K H1 v fs → okPg fs → fs.length = 2 → (∀ f ∈ fs, f.ps.length ≤ 2) → (∀ f ∈ fs, f.one) → (∃ f0 x k, fs[0]? = some f0 ∧ f0.ps = [(x, k)]) → Q v H1
set_option maxHeartbeats 8000000 in
theorem ok_w_loops (T : Tx K w mg A) : FnOk P w K mg base CX0 2 A.f_w_loops A.fd_w_loops P_w_loops (spLoopsW K) := by
  have G_w_drawn := ok_w_drawn (P := P) (base := base) T
  refine T.F_w_loops.ok sc_w_loops (fun vs H Q E h => ?_) (fun cdv AA outer s H vs Q E hr h => ?_)
  · obtain ⟨B, st, rfl, _⟩ := h
    rfl
  · obtain ⟨B, st, rfl, sB, nB, dw, q⟩ := h
    refine ⟨_, (pss_cons (ps_par (i := 1) (j := 2) (by rfl) sc_w_loops.nd rfl rfl (by decide) rfl rfl (pa_cons (pe_call G_w_drawn (hr.mono (by decide)) (by rfl) T.g_w_drawn T.F_w_drawn.kp T.b_w_drawn .nil pass0 (pa_cons (pv 0) (pa_cons pe_int pa_nil))) (pa_cons (pe_op op_sub (pe_call G_w_drawn (hr.mono (by decide)) (by rfl) T.g_w_drawn T.F_w_drawn.kp T.b_w_drawn .nil pass0 (pa_cons (pv 0) (pa_cons pe_int pa_nil))) pe_int) pa_nil)) (by rfl))
  (pss_cons (ps_set (i := 3) sc_w_loops.nd rfl (.inl rfl) (pe_tup (pa_cons pe_str (pa_cons (pe_tup (pa_cons pe_str (pa_cons pe_str pa_nil))) (pa_cons (pe_tup pa_nil) (pa_cons pe_int (pa_cons (pe_tup (pa_cons pe_str (pa_cons pe_str (pa_cons (pe_tup (pa_cons pe_str pa_nil)) (pa_cons (pe_tup (pa_cons pe_str (pa_cons pe_str pa_nil))) pa_nil))))) (pa_cons (pe_tup (pa_cons pe_str (pa_cons pe_str (pa_cons (pe_tup (pa_cons pe_str (pa_cons pe_str (pa_cons (pe_op op_sub pe_int pe_int) pa_nil)))) (pa_cons (pe_tup (pa_cons pe_str (pa_cons pe_str (pa_cons (pe_tup (pa_cons pe_str (pa_cons pe_int (pa_cons (pe_tup (pa_cons pe_str pa_nil)) pa_nil)))) (pa_cons (pe_tup (pa_cons pe_str (pa_cons pe_str (pa_cons (pe_tup (pa_cons pe_str (pa_cons pe_str (pa_cons pe_str pa_nil)))) (pa_cons (pe_tup (pa_cons pe_str (pa_cons pe_str pa_nil))) pa_nil))))) pa_nil))))) pa_nil))))) pa_nil))))))))
  (pss_cons (ps_set (i := 4) sc_w_loops.nd rfl (.inl rfl) (pe_tup (pa_cons (pe_tup (pa_cons (pe_tupF (pa_cons (pe_tup (pa_cons pe_str (pa_cons pe_str pa_nil))) pa_nil)) (pa_cons pe_str (pa_cons (pe_tup (pa_cons pe_str (pa_cons pe_str (pa_cons (pe_tup (pa_cons pe_str (pa_cons pe_int (pa_cons (pe_tup (pa_cons pe_str pa_nil)) pa_nil)))) (pa_cons (pe_tup (pa_cons pe_str (pa_cons pe_str pa_nil))) pa_nil))))) pa_nil)))) pa_nil)))
  (pss_cons (ps_set (i := 4) sc_w_loops.nd rfl (.inl rfl) (pe_op op_catT (pv 4) (pe_tup (pa_cons (pe_tup (pa_cons (pe_tupF (pa_cons (pe_tup (pa_cons pe_str (pa_cons pe_str pa_nil))) pa_nil)) (pa_cons pe_str (pa_cons (pv 3) pa_nil)))) pa_nil))))
  (pss_cons (ps_set (i := 5) sc_w_loops.nd rfl (.inl rfl) (pe_tup (pa_cons pe_str (pa_cons (pe_tup (pa_cons pe_str (pa_cons pe_str pa_nil))) (pa_cons (pe_tup (pa_cons pe_str (pa_cons pe_str pa_nil))) (pa_cons (pv 2) (pa_cons (pe_tup (pa_cons pe_str (pa_cons pe_str (pa_cons (pe_tup (pa_cons pe_str (pa_cons pe_int pa_nil))) (pa_cons (pe_tup (pa_cons pe_str (pa_cons pe_str pa_nil))) pa_nil))))) (pa_cons (pe_tup (pa_cons pe_str (pa_cons pe_str (pa_cons (pe_tup (pa_cons pe_str (pa_cons pe_str (pa_cons pe_str pa_nil)))) (pa_cons (pe_tup (pa_cons pe_str (pa_cons pe_str (pa_cons (pe_tup (pa_cons pe_str (pa_cons pe_str (pa_cons pe_int pa_nil)))) (pa_cons (pe_tup (pa_cons pe_str (pa_cons pe_str (pa_cons (pe_tup (pa_cons pe_str (pa_cons pe_int (pa_cons (pe_tup (pa_cons pe_str (pa_cons pe_str pa_nil))) pa_nil)))) (pa_cons (pe_tup (pa_cons pe_str (pa_cons pe_str pa_nil))) pa_nil))))) pa_nil))))) pa_nil))))) pa_nil))))))))
  (pss_cons (ps_set (i := 6) sc_w_loops.nd rfl (.inl rfl) (pe_tup (pa_cons pe_str (pa_cons pe_str (pa_cons (pe_tup (pa_cons pe_str (pa_cons (pv 1) pa_nil))) (pa_cons (pe_tup (pa_cons pe_str (pa_cons pe_str (pa_cons (pe_tup (pa_cons pe_str (pa_cons pe_int (pa_cons (pe_tup (pa_cons pe_str (pa_cons pe_str pa_nil))) pa_nil)))) (pa_cons (pe_tup (pa_cons pe_str (pa_cons pe_str pa_nil))) pa_nil))))) pa_nil))))))
  (pss_cons (ps_set (i := 7) sc_w_loops.nd rfl (.inl rfl) (pe_tup (pa_cons (pe_tup (pa_cons (pe_tupF (pa_cons (pe_tup (pa_cons pe_str (pa_cons pe_str pa_nil))) pa_nil)) (pa_cons pe_str (pa_cons (pv 6) pa_nil)))) pa_nil)))
  (pss_cons (ps_set (i := 7) sc_w_loops.nd rfl (.inl rfl) (pe_op op_catT (pv 7) (pe_tup (pa_cons (pe_tup (pa_cons (pe_tupF (pa_cons (pe_tup (pa_cons pe_str (pa_cons pe_str pa_nil))) (pa_cons (pe_tup (pa_cons pe_str (pa_cons pe_str pa_nil))) pa_nil))) (pa_cons pe_str (pa_cons (pv 5) pa_nil)))) pa_nil))))
  (pss_cons (ps_set (i := 8) sc_w_loops.nd rfl (.inl rfl) (pe_tup (pa_cons pe_str (pa_cons (pe_tup (pa_cons pe_str (pa_cons pe_str pa_nil))) (pa_cons (pe_tup pa_nil) (pa_cons (pv 2) (pa_cons (pe_tup (pa_cons pe_str (pa_cons pe_str (pa_cons (pe_tup (pa_cons pe_str pa_nil)) (pa_cons (pe_tup (pa_cons pe_str (pa_cons pe_str pa_nil))) pa_nil))))) (pa_cons (pe_tup (pa_cons pe_str (pa_cons pe_str (pa_cons (pe_tup (pa_cons pe_str (pa_cons pe_str pa_nil))) (pa_cons (pe_tup (pa_cons pe_str (pa_cons pe_str (pa_cons (pe_tup (pa_cons pe_str (pa_cons pe_str pa_nil))) (pa_cons (pe_tup (pa_cons pe_str (pa_cons pe_str (pa_cons (pe_tup (pa_cons pe_str (pa_cons pe_int (pa_cons (pe_tup (pa_cons pe_str pa_nil)) pa_nil)))) (pa_cons (pe_tup (pa_cons pe_str (pa_cons pe_str (pa_cons (pe_tup (pa_cons pe_str (pa_cons pe_str (pa_cons (pv 1) pa_nil)))) (pa_cons (pe_tup (pa_cons pe_str (pa_cons pe_str (pa_cons (pe_tup (pa_cons pe_str (pa_cons pe_str (pa_cons pe_str pa_nil)))) (pa_cons (pe_tup (pa_cons pe_str (pa_cons pe_str pa_nil))) pa_nil))))) pa_nil))))) pa_nil))))) pa_nil))))) pa_nil))))) pa_nil))))))))
  (pss_cons (ps_set (i := 9) sc_w_loops.nd rfl (.inl rfl) (pe_tup (pa_cons (pe_tup (pa_cons (pe_tupF (pa_cons (pe_tup (pa_cons pe_str (pa_cons pe_str pa_nil))) pa_nil)) (pa_cons pe_str (pa_cons (pe_tup (pa_cons pe_str (pa_cons pe_str (pa_cons (pe_tup (pa_cons pe_str (pa_cons pe_int (pa_cons (pe_tup (pa_cons pe_str pa_nil)) pa_nil)))) (pa_cons (pe_tup (pa_cons pe_str (pa_cons (pe_tup (pa_cons pe_str (pa_cons pe_str pa_nil))) (pa_cons (pe_tup (pa_cons pe_str (pa_cons pe_str pa_nil))) (pa_cons pe_int (pa_cons (pe_tup (pa_cons pe_str (pa_cons pe_str pa_nil))) pa_nil)))))) pa_nil))))) pa_nil)))) pa_nil)))
  (pss_cons (ps_set (i := 9) sc_w_loops.nd rfl (.inl rfl) (pe_op op_catT (pv 9) (pe_tup (pa_cons (pe_tup (pa_cons (pe_tupF (pa_cons (pe_tup (pa_cons pe_str (pa_cons pe_str pa_nil))) pa_nil)) (pa_cons pe_str (pa_cons (pv 8) pa_nil)))) pa_nil))))
  (pss_cons (ps_set (i := 10) sc_w_loops.nd rfl (.inl rfl) (pe_tup (pa_cons pe_str (pa_cons (pe_tup (pa_cons pe_str (pa_cons pe_str pa_nil))) (pa_cons (pe_tup pa_nil) (pa_cons pe_int (pa_cons (pe_tup (pa_cons pe_str (pa_cons pe_str (pa_cons (pe_tup (pa_cons pe_str (pa_cons pe_str pa_nil))) (pa_cons (pe_tup (pa_cons pe_str (pa_cons pe_str pa_nil))) pa_nil))))) (pa_cons (pe_tup (pa_cons pe_str (pa_cons pe_str (pa_cons (pe_tup (pa_cons pe_str (pa_cons pe_str pa_nil))) (pa_cons (pe_tup (pa_cons pe_str (pa_cons pe_str (pa_cons (pe_tup (pa_cons pe_str (pa_cons pe_str pa_nil))) (pa_cons (pe_tup (pa_cons pe_str (pa_cons pe_str (pa_cons (pe_tup (pa_cons pe_str (pa_cons pe_int (pa_cons (pe_tup (pa_cons pe_str pa_nil)) pa_nil)))) (pa_cons (pe_tup (pa_cons pe_str (pa_cons (pe_tup (pa_cons pe_str (pa_cons pe_str pa_nil))) (pa_cons (pe_tup (pa_cons pe_str (pa_cons pe_str pa_nil))) (pa_cons (pv 2) (pa_cons (pe_tup (pa_cons pe_str (pa_cons pe_str pa_nil))) (pa_cons (pe_tup (pa_cons pe_str (pa_cons pe_str pa_nil))) pa_nil))))))) pa_nil))))) pa_nil))))) pa_nil))))) pa_nil))))))))
  (pss_cons (ps_set (i := 11) sc_w_loops.nd rfl (.inl rfl) (pe_tup (pa_cons (pe_tup (pa_cons (pe_tupF (pa_cons (pe_tup (pa_cons pe_str (pa_cons pe_str pa_nil))) pa_nil)) (pa_cons pe_str (pa_cons (pe_tup (pa_cons pe_str (pa_cons (pe_tup (pa_cons pe_str (pa_cons pe_str pa_nil))) (pa_cons (pe_tup pa_nil) (pa_cons pe_int (pa_cons (pe_tup (pa_cons pe_str (pa_cons pe_str (pa_cons (pe_tup (pa_cons pe_str (pa_cons pe_int pa_nil))) (pa_cons (pe_tup (pa_cons pe_str (pa_cons pe_str pa_nil))) pa_nil))))) (pa_cons (pe_tup (pa_cons pe_str (pa_cons pe_str (pa_cons (pe_tup (pa_cons pe_str (pa_cons pe_int (pa_cons (pe_tup (pa_cons pe_str pa_nil)) pa_nil)))) (pa_cons (pe_tup (pa_cons pe_str (pa_cons pe_str pa_nil))) pa_nil))))) pa_nil))))))) pa_nil)))) pa_nil)))
  (pss_cons (ps_set (i := 11) sc_w_loops.nd rfl (.inl rfl) (pe_op op_catT (pv 11) (pe_tup (pa_cons (pe_tup (pa_cons (pe_tupF (pa_cons (pe_tup (pa_cons pe_str (pa_cons pe_str pa_nil))) pa_nil)) (pa_cons pe_str (pa_cons (pv 10) pa_nil)))) pa_nil))))
  (pss_one (ps_ret (pe_ix ix_list (pe_lst (pa_cons (pv 4) (pa_cons (pv 7) (pa_cons (pv 9) (pa_cons (pv 11) pa_nil))))) (pe_call G_w_drawn (hr.mono (by decide)) (by rfl) T.g_w_drawn T.F_w_drawn.kp T.b_w_drawn .nil pass0 (pa_cons (pv 0) (pa_cons pe_int pa_nil))) (fun _ _ => rfl)))))))))))))))))), ?_⟩
    refine ⟨_, rfl, B, st, 3, rfl, sB, nB, dw, by decide, by decide, fun H1 n n0 n3 x1 dw1 => ?_⟩
    have sB1 := SameX.same sB x1 nB
    refine ⟨_, rfl, B, st, 3, rfl, sB1, nB, dw1, by decide, by decide, fun H2 m m0 m3 x2 dw2 => ⟨_, _, rfl, rfl, _, _, rfl, ?_⟩⟩
    have x12 := x1.trans x2
    have n3' : n < 0 + 3 := by omega
    have a0 : -1 ≤ m - 1 := by omega
    have a3 : m - 1 < -1 + 3 := by omega
    dsimp only
    refine seq_at (σ' := fun v => [some (.ref st), some (.int n), some (.int (m - 1)), some v, none, none, none, none, none, none, none, none]) (fun _ => rfl) ?_
    refine ts_use (K := K) (d := tDown.d) (by (repeat' (first | exact ts_str | exact ts_int | exact ts_sub | exact tsA_nil | refine ts_tup ?_ (by simp) | refine tsA_cons ?_ ?_ | exact ts_var rfl (.int _) | exact ts_var rfl (by assumption)))) (fun v3 H3 s3 i3 => ?_)
    refine seq_at (σ' := fun v => [some (.ref st), some (.int n), some (.int (m - 1)), some v3, some v, none, none, none, none, none, none, none]) (fun _ => rfl) ?_
    refine pg1 (K := K) (f := ⟨[("n", .num)], .lst, .let_ "x" (.call 1 ["n"]) (.tell "x")⟩) (fun Q h => fn1 (K := K) (by (repeat' (first | exact ts_str | exact ts_int | exact ts_sub | exact tsA_nil | refine ts_tup ?_ (by simp) | refine tsA_cons ?_ ?_ | exact ts_var rfl (.int _) | exact ts_var rfl (by assumption)))) h) (fun p4 v4 H4 s4 e4 f4 => ?_)
    have i3' := i3.same (sameI_of s4)
    refine seq_at (σ' := fun v => [some (.ref st), some (.int n), some (.int (m - 1)), some v3, some v, none, none, none, none, none, none, none]) (fun _ => rfl) ?_
    refine pg_two (K := K) rfl e4 f4 (fun Q h => fn1 (kd := .num) (k := .lst) (t := tDown) (ts_var rfl i3') h) (fun x4 H5 s5 g4 => ?_)
    refine seq_at (σ' := fun v => [some (.ref st), some (.int n), some (.int (m - 1)), some v3, some x4, some v, none, none, none, none, none, none]) (fun _ => rfl) ?_
    refine ts_use (K := K) (d := (tGo (m - 1)).d) (by (repeat' (first | exact ts_str | exact ts_int | exact ts_sub | exact tsA_nil | refine ts_tup ?_ (by simp) | refine tsA_cons ?_ ?_ | exact ts_var rfl (.int _) | exact ts_var rfl (by assumption)))) (fun v5 H6 s6 i5 => ?_)
    refine seq_at (σ' := fun v => [some (.ref st), some (.int n), some (.int (m - 1)), some v3, some x4, some v5, some v, none, none, none, none, none]) (fun _ => rfl) ?_
    refine ts_use (K := K) (d := (tBegun n).d) (by (repeat' (first | exact ts_str | exact ts_int | exact ts_sub | exact tsA_nil | refine ts_tup ?_ (by simp) | refine tsA_cons ?_ ?_ | exact ts_var rfl (.int _) | exact ts_var rfl (by assumption)))) (fun v6 H7 s7 i6 => ?_)
    refine seq_at (σ' := fun v => [some (.ref st), some (.int n), some (.int (m - 1)), some v3, some x4, some v5, some v6, some v, none, none, none, none]) (fun _ => rfl) ?_
    refine pg1 (K := K) (f := ⟨[("l", .lst)], .num, tBegun n⟩) (fun Q h => fn1 (ts_var rfl i6) h) (fun p7 v7 H8 s8 e7 f7 => ?_)
    have i5' := i5.same (sameI_of (s7.trans s8))
    refine seq_at (σ' := fun v => [some (.ref st), some (.int n), some (.int (m - 1)), some v3, some x4, some v5, some v6, some v, none, none, none, none]) (fun _ => rfl) ?_
    refine pg_two (K := K) rfl e7 f7 (fun Q h => fn2 (kx := .lst) (ky := .num) (k := .num) (t := tGo (m - 1)) (ts_var rfl i5') h) (fun x7 H9 s9 g7 => ?_)
    refine seq_at (σ' := fun v => [some (.ref st), some (.int n), some (.int (m - 1)), some v3, some x4, some v5, some v6, some x7, some v, none, none, none]) (fun _ => rfl) ?_
    refine ts_use (K := K) (d := (tCopy n (m - 1)).d) (by (repeat' (first | exact ts_str | exact ts_int | exact ts_sub | exact tsA_nil | refine ts_tup ?_ (by simp) | refine tsA_cons ?_ ?_ | exact ts_var rfl (.int _) | exact ts_var rfl (by assumption)))) (fun v8 H10 s10 i8 => ?_)
    refine seq_at (σ' := fun v => [some (.ref st), some (.int n), some (.int (m - 1)), some v3, some x4, some v5, some v6, some x7, some v8, some v, none, none]) (fun _ => rfl) ?_
    refine pg1 (K := K) (f := ⟨[("l", .lst)], .lst, .let_ "r" (.call 1 ["l"]) (.claim (.len "r") (.len "l") 0 (.tell "r"))⟩) (fun Q h => fn1 (K := K) (by (repeat' (first | exact ts_str | exact ts_int | exact ts_sub | exact tsA_nil | refine ts_tup ?_ (by simp) | refine tsA_cons ?_ ?_ | exact ts_var rfl (.int _) | exact ts_var rfl (by assumption)))) h) (fun p9 v9 H11 s11 e9 f9 => ?_)
    have i8' := i8.same (sameI_of s11)
    refine seq_at (σ' := fun v => [some (.ref st), some (.int n), some (.int (m - 1)), some v3, some x4, some v5, some v6, some x7, some v8, some v, none, none]) (fun _ => rfl) ?_
    refine pg_two (K := K) rfl e9 f9 (fun Q h => fn1 (kd := .lst) (k := .lst) (t := tCopy n (m - 1)) (ts_var rfl i8') h) (fun x9 H12 s12 g9 => ?_)
    refine seq_at (σ' := fun v => [some (.ref st), some (.int n), some (.int (m - 1)), some v3, some x4, some v5, some v6, some x7, some v8, some x9, some v, none]) (fun _ => rfl) ?_
    refine ts_use (K := K) (d := (tLeast (m - 1)).d) (by (repeat' (first | exact ts_str | exact ts_int | exact ts_sub | exact tsA_nil | refine ts_tup ?_ (by simp) | refine tsA_cons ?_ ?_ | exact ts_var rfl (.int _) | exact ts_var rfl (by assumption)))) (fun v10 H13 s13 i10 => ?_)
    refine seq_at (σ' := fun v => [some (.ref st), some (.int n), some (.int (m - 1)), some v3, some x4, some v5, some v6, some x7, some v8, some x9, some v10, some v]) (fun _ => rfl) ?_
    refine pg1 (K := K) (f := ⟨[("l", .lst)], .num, .if_ (.len "l") .zero 0 (.let_ "z" (.num 0) (.tell "z")) (.let_ "x" (.call 1 ["l"]) (.tell "x"))⟩) (fun Q h => fn1 (K := K) (by (repeat' (first | exact ts_str | exact ts_int | exact ts_sub | exact tsA_nil | refine ts_tup ?_ (by simp) | refine tsA_cons ?_ ?_ | exact ts_var rfl (.int _) | exact ts_var rfl (by assumption)))) h) (fun p11 v11 H14 s14 e11 f11 => ?_)
    have i10' := i10.same (sameI_of s14)
    refine seq_at (σ' := fun v => [some (.ref st), some (.int n), some (.int (m - 1)), some v3, some x4, some v5, some v6, some x7, some v8, some x9, some v10, some v]) (fun _ => rfl) ?_
    refine pg_two (K := K) rfl e11 f11 (fun Q h => fn1 (kd := .lst) (k := .num) (t := tLeast (m - 1)) (ts_var rfl i10') h) (fun x11 H15 s15 g11 => ?_)
    have t9 : Same H9 H15 := s10.trans (s11.trans (s12.trans (s13.trans (s14.trans s15))))
    have t5 : Same H5 H15 := s6.trans (s7.trans (s8.trans (s9.trans t9)))
    have t12 : Same H12 H15 := s13.trans (s14.trans s15)
    have t2 : Same H2 H15 := s3.trans (s4.trans (s5.trans t5))
    refine ⟨_, rfl, _, rfl, _, rfl, _, rfl, by show 4 ≤ sizeLine; decide, fun L hL => ?_⟩
    have sL := same_upd (o := .lst [x4, x7, x9, x11]) hL
    have eL : upd H15 L (.lst [x4, x7, x9, x11]) L = some (.lst [x4, x7, x9, x11]) := upd_same
    have lst : L ≠ st := (dw2.step t2).ne hL
    generalize upd H15 L (.lst [x4, x7, x9, x11]) = H16 at sL eL ⊢
    have x16 : SameX st H H16 := x12.trans (sameX_of (t2.trans sL))
    have dw16 := (dw2.step t2).step sL
    refine ⟨_, rfl, B, st, 4, rfl, SameX.same sB x16 nB, nB, dw16, by decide, by decide, fun H17 k k0 k4 x17 dw17 => ?_⟩
    have xf := x16.trans x17
    have eL17 := x17 _ _ lst eL
    have sI := dw16.i x17
    by_cases e0 : k = 0
    · subst e0
      exact ⟨L, _, 0, x4, rfl, rfl, SqL.of eL17, rfl, q _ _ pRange xf dw17 (g4.same ((sameI_of (t5.trans sL)).trans sI)) pRange_ok rfl (by decide) one_range ⟨_, _, _, rfl, rfl⟩⟩
    by_cases e1 : k = 1
    · subst e1
      exact ⟨L, _, 1, x7, rfl, rfl, SqL.of eL17, rfl, q _ _ (pOver n (m - 1)) xf dw17 (g7.same ((sameI_of (t9.trans sL)).trans sI)) (pOver_ok n0 n3' a0 a3) rfl (by simp [pOver]) (one_over n (m - 1)) ⟨_, _, _, rfl, rfl⟩⟩
    by_cases e2 : k = 2
    · subst e2
      exact ⟨L, _, 2, x9, rfl, rfl, SqL.of eL17, rfl, q _ _ (pCopies n (m - 1)) xf dw17 (g9.same ((sameI_of (t12.trans sL)).trans sI)) (pCopies_ok n0 n3' a0 a3) rfl (by simp [pCopies]) (one_copies n (m - 1)) ⟨_, _, _, rfl, rfl⟩⟩
    · obtain rfl : k = 3 := by omega
      exact ⟨L, _, 3, x11, rfl, rfl, SqL.of eL17, rfl, q _ _ (pLeasts (m - 1)) xf dw17 (g11.same ((sameI_of sL).trans sI)) (pLeasts_ok a0 a3) rfl (by simp [pLeasts]) (one_leasts (m - 1)) ⟨_, _, _, rfl, rfl⟩⟩
end
end Cs
namespace Cs
open PySem PySem.Spec L2
/-! ## runs, plainly -/
inductive Wt where
  | n (i : Int) | l (xs : List Int)
def Wt.d : Wt → PyData
  | .n i => .int i
  | .l xs => .tuple (xs.map .int)
def Wt.kd : Wt → Kd
  | .n _ => .num
  | .l _ => .lst
def Wt.i : Wt → Int
  | .n i => i
  | .l _ => 0
def Wt.xs : Wt → List Int
  | .n _ => []
  | .l xs => xs
theorem Wt.of_num {w : Wt} (h : w.kd = .num) : w = .n w.i := by cases w with | n i => rfl | l xs => cases h
theorem Wt.of_lst {w : Wt} (h : w.kd = .lst) : w = .l w.xs := by cases w with | n i => cases h | l xs => rfl
abbrev Ev := List (Str × Wt)
def eget (e : Ev) (x : Str) : Option Wt := (e.find? fun p => decide (p.1 = x)).map (·.2)
def egetD (e : Ev) (x : Str) : Wt := (eget e x).getD (.n 0)
def nsOf (e : Ev) : Nm := e.map fun p => (p.1, p.2.kd)
theorem look_nsOf (x : Str) : ∀ e : Ev, look (nsOf e) x = (eget e x).map Wt.kd
  | [] => rfl
  | (y, w) :: r => by
    have ih := look_nsOf x r
    unfold look nsOf eget at *
    rw [List.map_cons, List.find?_cons, List.find?_cons]
    by_cases h : y = x
    · simp [h]
    · simp only [h, decide_false] at *
      exact ih
theorem eget_of {e : Ev} {x : Str} {k : Kd} (h : look (nsOf e) x = some k) : eget e x = some (egetD e x) ∧ (egetD e x).kd = k := by
  rw [look_nsOf] at h
  obtain ⟨w, e1, e2⟩ := Option.map_eq_some_iff.mp h
  unfold egetD
  rw [e1]
  exact ⟨rfl, e2⟩
theorem eget_append (e : Ev) (x y : Str) (w : Wt) : eget (e ++ [(y, w)]) x = (eget e x).or (if y = x then some w else none) := by
  unfold eget
  rw [List.find?_append]
  cases h : e.find? fun p => decide (p.1 = x) with
  | some p => rfl
  | none =>
    rw [List.find?_cons]
    by_cases h2 : y = x
    · simp [h2]
    · simp [h2]
theorem nsOf_append (e : Ev) (y : Str) (w : Wt) : nsOf (e ++ [(y, w)]) = nsOf e ++ [(y, w.kd)] := by
  unfold nsOf
  rw [List.map_append]
  rfl
/-! ### trees by their numbers -/
def Tr.pre : Tr → List Tr
  | .let_ x d u => .let_ x d u :: u.pre
  | .if_ a b n u v => .if_ a b n u v :: (u.pre ++ v.pre)
  | .claim a b n u => .claim a b n u :: u.pre
  | .tell x => [.tell x]
theorem Tr.pre_len : ∀ t : Tr, t.pre.length = t.size
  | .let_ x d u => by show u.pre.length + 1 = u.size + 1; rw [u.pre_len]
  | .if_ a b n u v => by show (u.pre ++ v.pre).length + 1 = u.size + v.size + 1; rw [List.length_append, u.pre_len, v.pre_len]
  | .claim a b n u => by show u.pre.length + 1 = u.size + 1; rw [u.pre_len]
  | .tell x => rfl
theorem Tr.pre0 (t : Tr) : t.pre[0]? = some t := by cases t <;> rfl
/-- a tree's trees stand in a row -/
theorem Tr.pre_sub {s r : Tr} {j : Nat} (hr : s.pre[j]? = some r) : ∀ {t : Tr} {k : Nat}, t.pre[k]? = some s → t.pre[k + j]? = some r
  | t, 0, h => by
    rw [t.pre0] at h
    cases h
    rw [Nat.zero_add]
    exact hr
  | .let_ x d u, k + 1, h => by
    have := pre_sub hr (t := u) (k := k) h
    rw [Nat.add_right_comm]
    exact this
  | .claim a b n u, k + 1, h => by
    have := pre_sub hr (t := u) (k := k) h
    rw [Nat.add_right_comm]
    exact this
  | .tell x, k + 1, h => by cases h
  | .if_ a b n u v, k + 1, h => by
    rw [Nat.add_right_comm]
    change (u.pre ++ v.pre)[k]? = some s at h
    show (u.pre ++ v.pre)[k + j]? = some r
    rcases Nat.lt_or_ge k u.pre.length with hk | hk
    · rw [List.getElem?_append_left hk] at h
      have q := pre_sub hr (t := u) (k := k) h
      rw [List.getElem?_append_left (List.getElem?_eq_some_iff.mp q).1]
      exact q
    · rw [List.getElem?_append_right hk] at h
      have q := pre_sub hr (t := v) (k := k - u.pre.length) h
      rw [List.getElem?_append_right (by omega), show k + j - u.pre.length = k - u.pre.length + j by omega]
      exact q
theorem pre_let {t u : Tr} {x : Str} {d : Dd} {k : Nat} (h : t.pre[k]? = some (.let_ x d u)) : t.pre[k + 1]? = some u := Tr.pre_sub (s := .let_ x d u) (j := 1) (by show u.pre[0]? = some u; exact u.pre0) h
theorem pre_claim {t u : Tr} {a b : Ms} {n : Int} {k : Nat} (h : t.pre[k]? = some (.claim a b n u)) : t.pre[k + 1]? = some u := Tr.pre_sub (s := .claim a b n u) (j := 1) (by show u.pre[0]? = some u; exact u.pre0) h
theorem pre_then {t u v : Tr} {a b : Ms} {n : Int} {k : Nat} (h : t.pre[k]? = some (.if_ a b n u v)) : t.pre[k + 1]? = some u := Tr.pre_sub (s := .if_ a b n u v) (j := 1) (by
  show (u.pre ++ v.pre)[0]? = some u
  rw [List.getElem?_append_left (by rw [u.pre_len]; exact size_pos u)]
  exact u.pre0) h
theorem pre_else {t u v : Tr} {a b : Ms} {n : Int} {k : Nat} (h : t.pre[k]? = some (.if_ a b n u v)) : t.pre[k + 1 + u.size]? = some v := by
  rw [Nat.add_assoc]
  refine Tr.pre_sub (s := .if_ a b n u v) (j := 1 + u.size) ?_ h
  rw [Nat.add_comm]
  show (u.pre ++ v.pre)[u.size]? = some v
  rw [List.getElem?_append_right (by rw [u.pre_len]; exact Nat.le_refl _), u.pre_len, Nat.sub_self]
  exact v.pre0
/-- the numbers of ifs with those of their other trees -/
def oths : Tr → Nat → List (Nat × Nat)
  | .let_ _ _ u, k => oths u (k + 1)
  | .if_ _ _ _ u v, k => oths u (k + 1) ++ (k, k + 1 + u.size) :: oths v (k + 1 + u.size)
  | .claim _ _ _ u, k => oths u (k + 1)
  | .tell _, _ => []
theorem oths_in : ∀ (t : Tr) (k : Nat) (p : Nat × Nat), p ∈ oths t k → k ≤ p.1 ∧ p.1 < k + t.size
  | .let_ _ _ u, k, p, h => by
    have := oths_in u (k + 1) p h
    show k ≤ p.1 ∧ p.1 < k + (u.size + 1)
    omega
  | .claim _ _ _ u, k, p, h => by
    have := oths_in u (k + 1) p h
    show k ≤ p.1 ∧ p.1 < k + (u.size + 1)
    omega
  | .tell _, k, p, h => by cases h
  | .if_ _ _ _ u v, k, p, h => by
    show k ≤ p.1 ∧ p.1 < k + (u.size + v.size + 1)
    rcases List.mem_append.mp h with h | h
    · have := oths_in u (k + 1) p h
      omega
    · rcases List.mem_cons.mp h with h | h
      · rw [h]
        show k ≤ k ∧ k < _
        omega
      · have := oths_in v (k + 1 + u.size) p h
        omega
theorem oths_nodup : ∀ (t : Tr) (k : Nat), ((oths t k).map (·.1)).Nodup
  | .let_ _ _ u, k => oths_nodup u (k + 1)
  | .claim _ _ _ u, k => oths_nodup u (k + 1)
  | .tell _, k => List.nodup_nil
  | .if_ _ _ _ u v, k => by
    show ((oths u (k + 1) ++ (k, k + 1 + u.size) :: oths v (k + 1 + u.size)).map (·.1)).Nodup
    rw [List.map_append, List.map_cons, List.nodup_append]
    refine ⟨oths_nodup u _, List.nodup_cons.mpr ⟨fun h => ?_, oths_nodup v _⟩, fun a ha b hb => ?_⟩
    · obtain ⟨p, hp, e⟩ := List.mem_map.mp h
      have := oths_in v _ p hp
      omega
    · obtain ⟨p, hp, rfl⟩ := List.mem_map.mp ha
      have h1 := oths_in u _ p hp
      rcases List.mem_cons.mp hb with h | h
      · omega
      · obtain ⟨q, hq, rfl⟩ := List.mem_map.mp h
        have h2 := oths_in v _ q hq
        omega
theorem oths_mem {a b : Ms} {n : Int} {u v : Tr} : ∀ {t : Tr} {k j : Nat}, t.pre[j]? = some (.if_ a b n u v) → (k + j, k + j + 1 + u.size) ∈ oths t k
  | .let_ _ _ w, k, 0, h => by cases h
  | .claim _ _ _ w, k, 0, h => by cases h
  | .tell _, k, 0, h => by cases h
  | .if_ _ _ _ w z, k, 0, h => by
    cases h
    exact List.mem_append_right _ (List.mem_cons_self ..)
  | .let_ _ _ w, k, j + 1, h => by
    have := oths_mem (t := w) (k := k + 1) (j := j) h
    rw [show k + (j + 1) = k + 1 + j by omega]
    exact this
  | .claim _ _ _ w, k, j + 1, h => by
    have := oths_mem (t := w) (k := k + 1) (j := j) h
    rw [show k + (j + 1) = k + 1 + j by omega]
    exact this
  | .tell _, k, j + 1, h => by cases h
  | .if_ _ _ _ w z, k, j + 1, h => by
    change (w.pre ++ z.pre)[j]? = _ at h
    rcases Nat.lt_or_ge j w.pre.length with hk | hk
    · rw [List.getElem?_append_left hk] at h
      have := oths_mem (t := w) (k := k + 1) (j := j) h
      rw [show k + (j + 1) = k + 1 + j by omega]
      exact List.mem_append_left _ this
    · rw [List.getElem?_append_right hk] at h
      have := oths_mem (t := z) (k := k + 1 + w.size) (j := j - w.pre.length) h
      rw [w.pre_len] at this hk
      rw [show k + (j + 1) = k + 1 + w.size + (j - w.size) by omega]
      exact List.mem_append_right _ (List.mem_cons_of_mem _ this)
/-! ### the machine -/
structure Fr where
  row : Nat
  fn : Nat
  place : Nat
  ev : Ev
structure Mc where
  asked : Nat
  begun : List (Nat × List Wt)
  told : List (Nat × Wt)
  stk : List Fr
inductive Ends2 where
  | told (w : Wt) | fault (word : Str) (f p : Nat) | long
def Ends2.d : Ends2 → PyData
  | .told w => .tuple [.str "told", w.d]
  | .fault x f p => .tuple [.str "fault", .str x, .int (f : Nat), .int (p : Nat)]
  | .long => .tuple [.str "long"]
def Ms.val (e : Ev) : Ms → Int
  | .zero => 0
  | .of x => (egetD e x).i
  | .len x => ((egetD e x).xs.length : Nat)
def Dd.bad (e : Ev) : Dd → Option Str
  | .head l => if (egetD e l).xs = [] then some "empty" else none
  | .tail l => if (egetD e l).xs = [] then some "empty" else none
  | .at_ l x => if 0 ≤ (egetD e x).i ∧ (egetD e x).i < ((egetD e l).xs.length : Nat) then none else some "beyond"
  | _ => none
def Dd.val (e : Ev) : Dd → Wt
  | .num n => .n n
  | .sum x n => .n ((egetD e x).i + n)
  | .len l => .n ((egetD e l).xs.length : Nat)
  | .nil => .l []
  | .put x l => .l ((egetD e x).i :: (egetD e l).xs)
  | .head l => .n ((egetD e l).xs.headD 0)
  | .tail l => .l (egetD e l).xs.tail
  | .at_ l x => .n ((egetD e l).xs.getD (egetD e x).i.toNat 0)
  | _ => .n 0
def treeAt (fs : List Fn) (c : Fr) : Option Tr := fs[c.fn]?.bind fun f => f.tr.pre[c.place]?
def Fr.bnd (c : Fr) (x : Str) (w : Wt) : Fr := { c with place := c.place + 1, ev := c.ev ++ [(x, w)] }
def Fr.to (c : Fr) (p : Nat) : Fr := { c with place := p }
def namesAt (fs : List Fn) (f : Nat) : List Str := (fs[f]?.map fun f => f.ps.map (·.1)).getD []
def Mc.begin (fs : List Fn) (m : Mc) (f : Nat) (ws : List Wt) : Mc := { m with begun := m.begun ++ [(f, ws)], stk := ⟨m.begun.length, f, 0, (namesAt fs f).zip ws⟩ :: m.stk }
def stepLet (fs : List Fn) (ans : List Int) (most : Nat) (m : Mc) (c : Fr) (r : List Fr) (x : Str) : Dd → Mc × Option Ends2
  | .call f xs => if m.begun.length = most then (m, some .long) else (m.begin fs f (xs.map (egetD c.ev)), none)
  | .ask => ({ m with asked := if m.asked = ans.length then m.asked else m.asked + 1, stk := c.bnd x (.n (ans.getD m.asked 0)) :: r }, none)
  | d => match d.bad c.ev with
    | some w => (m, some (.fault w c.fn c.place))
    | none => ({ m with stk := c.bnd x (d.val c.ev) :: r }, none)
def stepTell (fs : List Fn) (m : Mc) (c : Fr) (w : Wt) : List Fr → Mc × Option Ends2
  | [] => ({ m with told := m.told ++ [(c.row, w)], stk := [] }, some (.told w))
  | c2 :: r => match treeAt fs c2 with
    | some (.let_ y _ _) => ({ m with told := m.told ++ [(c.row, w)], stk := c2.bnd y w :: r }, none)
    | _ => (m, none)
def stepF (fs : List Fn) (ans : List Int) (most : Nat) (m : Mc) : Mc × Option Ends2 :=
  match m.stk with
  | [] => (m, none)
  | c :: r => match treeAt fs c with
    | none => (m, none)
    | some (.tell x) => stepTell fs m c (egetD c.ev x) r
    | some (.let_ x d _) => stepLet fs ans most m c r x d
    | some (.if_ a b n u _) => ({ m with stk := c.to (if a.val c.ev - b.val c.ev ≤ n then c.place + 1 else c.place + 1 + u.size) :: r }, none)
    | some (.claim a b n _) => if a.val c.ev - b.val c.ev ≤ n then ({ m with stk := c.to (c.place + 1) :: r }, none) else (m, some (.fault "claim" c.fn c.place))
inductive Runs (fs : List Fn) (ans : List Int) (most : Nat) : Mc → Ends2 → Mc → Prop
  | last {m m1 : Mc} {e : Ends2} : stepF fs ans most m = (m1, some e) → Runs fs ans most m e m1
  | more {m m1 m2 : Mc} {e : Ends2} : stepF fs ans most m = (m1, none) → Runs fs ans most m1 e m2 → Runs fs ans most m e m2
def mc0 (fs : List Fn) (ws : List Wt) : Mc := Mc.begin fs ⟨0, [], [], []⟩ 0 ws
def callsOf (m : Mc) : List (Nat × List Wt × Option Wt) := (List.range m.begun.length).map fun i => ((m.begun.getD i (0, [])).1, (m.begun.getD i (0, [])).2, m.told.lookup i)
def callD (c : Nat × List Wt × Option Wt) : PyData := .tuple [.int (c.1 : Nat), .tuple (c.2.1.map Wt.d), match c.2.2 with | some w => w.d | none => .none]
/-! ### what a machine keeps -/
structure FrOk (fs : List Fn) (c : Fr) (f : Fn) (t : Tr) : Prop where
  fn : fs[c.fn]? = some f
  at_ : f.tr.pre[c.place]? = some t
  ok : t.ok (fs.map Fn.hd) f.kd (nsOf c.ev)
  few : c.ev.length ≤ c.place + 4
theorem FrOk.tree {fs : List Fn} {c : Fr} {f : Fn} {t : Tr} (h : FrOk fs c f t) : treeAt fs c = some t := by
  unfold treeAt
  rw [h.fn]
  exact h.at_
/-- callers that wait for a worth of a kind -/
inductive Waits (fs : List Fn) : Kd → List Fr → Prop
  | nil {k : Kd} : Waits fs k []
  | cons {k : Kd} {c : Fr} {r : List Fr} {f : Fn} {x : Str} {g : Nat} {xs : List Str} {t : Tr} : FrOk fs c f (.let_ x (.call g xs) t) → (Dd.call g xs).ok (fs.map Fn.hd) (nsOf c.ev) k → look (nsOf c.ev) x = none → Tr.ok (fs.map Fn.hd) f.kd (nsOf c.ev ++ [(x, k)]) t → Waits fs f.kd r → Waits fs k (c :: r)
structure Good (fs : List Fn) (ans : List Int) (most : Nat) (m : Mc) (c : Fr) (r : List Fr) (f : Fn) (t : Tr) : Prop where
  stk : m.stk = c :: r
  top : FrOk fs c f t
  rest : Waits fs f.kd r
  rows : ((m.stk.map Fr.row) ++ (m.told.map (·.1))).Nodup
  low : ∀ i ∈ (m.stk.map Fr.row) ++ (m.told.map (·.1)), i < m.begun.length
  many : m.begun.length ≤ most
  asked : m.asked ≤ ans.length
abbrev GoodM (fs : List Fn) (ans : List Int) (most : Nat) (m : Mc) : Prop := ∃ c r f t, Good fs ans most m c r f t
theorem FrOk.bnd {fs : List Fn} {c : Fr} {f : Fn} {x : Str} {d : Dd} {t : Tr} {w : Wt} (h : FrOk fs c f (.let_ x d t)) (hd : d.ok (fs.map Fn.hd) (nsOf c.ev) w.kd) : FrOk fs (c.bnd x w) f t :=
  ⟨h.fn, pre_let h.at_, by
    obtain ⟨_, _, kd, h1, h2⟩ := h.ok
    have e : kd = w.kd := by
      cases d with
      | call g xs =>
        obtain ⟨_, hh, e1, _, e2⟩ := h1
        obtain ⟨_, hh2, e3, _, e4⟩ := hd
        rw [e1] at e3
        cases e3
        exact e2.trans e4.symm
      | num n => exact h1.2.trans hd.2.symm
      | sum x n => exact h1.2.2.trans hd.2.2.symm
      | len l => exact h1.2.trans hd.2.symm
      | nil => exact (show kd = .lst from h1).trans (show w.kd = .lst from hd).symm
      | put x l => exact h1.2.2.trans hd.2.2.symm
      | head l => exact h1.2.trans hd.2.symm
      | tail l => exact h1.2.trans hd.2.symm
      | at_ l x => exact h1.2.2.trans hd.2.2.symm
      | ask => exact (show kd = .num from h1).trans (show w.kd = .num from hd).symm
    show t.ok _ _ (nsOf (c.ev ++ [(x, w)]))
    rw [nsOf_append, ← e]
    exact h2, by
    have := h.few
    show (c.ev ++ [(x, w)]).length ≤ c.place + 1 + 4
    rw [List.length_append, List.length_singleton]
    omega⟩
theorem Dd.val_kd {hs : Hd} {e : Ev} {d : Dd} {k : Kd} (h : d.ok hs (nsOf e) k) (h1 : ∀ g xs, d ≠ .call g xs) (h2 : d ≠ .ask) : (d.val e).kd = k := by
  cases d with
  | call g xs => exact absurd rfl (h1 g xs)
  | ask => exact absurd rfl h2
  | num n => exact h.2.symm
  | sum x n => exact h.2.2.symm
  | len l => exact h.2.symm
  | nil => exact (show k = .lst from h).symm
  | put x l => exact h.2.2.symm
  | head l => exact h.2.symm
  | tail l => exact h.2.symm
  | at_ l x => exact h.2.2.symm
end Cs
namespace Cs
open PySem PySem.Spec L2
/-! ## the trees of a function in a row -/
def owV : Option Nat → V
  | none => .non
  | some p => .int (p : Nat)
def WaAt (K : PySem.W.Frag) (H : Hp) (v : V) (q : Tr × Option Nat) : Prop := ∃ a tv, v = .ref a ∧ SqT K H a [tv, owV q.2] ∧ Im K H tv q.1.d
theorem WaAt.i {K : PySem.W.Frag} {H H1 : Hp} (s : SameI H H1) {v : V} {q : Tr × Option Nat} : WaAt K H v q → WaAt K H1 v q
  | ⟨a, tv, e, h1, h2⟩ => ⟨a, tv, e, s.tup h1, h2.same s⟩
def restO : List (Tr × Option Nat) → Nat → List (Nat × Nat)
  | [], _ => []
  | (t, ow) :: r, k => (ow.map fun p => (p, k)).toList ++ oths t k ++ restO r (k + t.size)
theorem oths_len : ∀ (t : Tr) (k : Nat), (oths t k).length ≤ t.size
  | .let_ _ _ u, k => Nat.le_succ_of_le (oths_len u (k + 1))
  | .claim _ _ _ u, k => Nat.le_succ_of_le (oths_len u (k + 1))
  | .tell _, k => Nat.zero_le _
  | .if_ _ _ _ u v, k => by
    have h1 := oths_len u (k + 1)
    have h2 := oths_len v (k + 1 + u.size)
    show (oths u (k + 1) ++ (k, k + 1 + u.size) :: oths v (k + 1 + u.size)).length ≤ u.size + v.size + 1
    rw [List.length_append, List.length_cons]
    omega
abbrev preW (st : List (Tr × Option Nat)) : List Tr := st.reverse.flatMap fun q => q.1.pre
theorem preW_len : ∀ st : List (Tr × Option Nat), st.length ≤ (preW st).length
  | [] => Nat.zero_le _
  | q :: r => by
    have ih := preW_len r
    have h := size_pos q.1
    rw [← q.1.pre_len] at h
    simp only [preW, List.reverse_cons, List.flatMap_append, List.length_append, List.flatMap_cons, List.flatMap_nil, List.append_nil, List.length_cons] at *
    omega
abbrev othK (O : List (Nat × Nat)) : List (Key × V) := O.map fun q => (.inl (q.1 : Nat), .int (q.2 : Nat))
theorem othK_none {O : List (Nat × Nat)} {p : Nat} (h : p ∉ O.map (·.1)) : valV (othK O) (.inl (p : Nat)) = none := by
  induction O with
  | nil => rfl
  | cons q r ih =>
    rw [List.map_cons, List.mem_cons, not_or] at h
    show valV ((.inl (q.1 : Int), .int (q.2 : Nat)) :: othK r) _ = none
    rw [valV_neg (fun z => h.1 (Int.ofNat.inj (Sum.inl.inj z)).symm)]
    exact ih h.2
theorem othK_get {O : List (Nat × Nat)} {p k : Nat} (h : (p, k) ∈ O) (n : (O.map (·.1)).Nodup) : valV (othK O) (.inl (p : Nat)) = some (.int (k : Nat)) := by
  induction O with
  | nil => cases h
  | cons q r ih =>
    rw [List.map_cons, List.nodup_cons] at n
    show valV ((.inl (q.1 : Int), .int (q.2 : Nat)) :: othK r) _ = _
    rcases List.mem_cons.mp h with e | e
    · rw [← e]
      exact valV_pos rfl
    · rw [valV_neg (fun z => n.1 (by rw [Int.ofNat.inj (Sum.inl.inj z)]; exact List.mem_map.mpr ⟨_, e, rfl⟩))]
      exact ih e n.2
theorem othK_put {O r : List (Nat × Nat)} {p k : Nat} {t : Tr} {j : Nat} (e : O ++ ((p, k) :: r) = oths t j) : putK (othK O) (.inl (p : Nat)) (.int (k : Nat)) = othK (O ++ [(p, k)]) := by
  rw [putK_new (othK_none ?_)]
  · unfold othK
    rw [List.map_append]
    rfl
  · have n := oths_nodup t j
    rw [← e, List.map_append, List.nodup_append] at n
    exact fun h => n.2.2 p h p (by rw [List.map_cons]; exact List.mem_cons_self ..) rfl
structure NumAt (K : PySem.W.Frag) (H H3 : Hp) (tl od wl : Addr) (xs : List V) (ds : List Tr) (vs : List V) (st : List (Tr × Option Nat)) (uv : V) (u t : Tr) (O : List (Nat × Nat)) : Prop where
  sH : Same H H3
  etl : H3 tl = some (.lst xs)
  hxs : ImAll K H3 xs (ds.map Tr.d)
  eod : H3 od = some (.dK (othK O))
  ewl : H3 wl = some (.lst vs)
  hst : Paired (WaAt K H3) vs st
  huv : Im K H3 uv u.d
  oth : O ++ (oths u (ds.length - 1) ++ restO st.reverse (ds.length - 1 + u.size)) = oths t 0
section
variable {P : Program} {w : World} {K : PySem.W.Frag} {mg : Str → Option Value} {base : Heap} {A : Adr}
def spNumbered (K : PySem.W.Frag) (t : Tr) : Sp := fun vs H Q _ => ∃ tv, vs = [tv] ∧ Im K H tv t.d ∧ t.size ≤ 60 ∧
  ∀ H1 p tl od xs, Same H H1 → H tl = none → H od = none → H p = none → SqT K H1 p [.ref tl, .ref od] → H1 tl = some (.lst xs) → ImAll K H1 xs (t.pre.map Tr.d) → H1 od = some (.dK (othK (oths t 0))) → Q (.ref p) H1
theorem ok_numbered (T : Tx K w mg A) (t : Tr) : FnOk P w K mg base CX0 1 A.f_numbered A.fd_numbered P_numbered (spNumbered K t) := by
  refine T.F_numbered.ok sc_numbered (fun vs H Q E h => ?_) (fun cdv AA outer s H vs Q E hr h => ?_)
  · obtain ⟨tv, rfl, _⟩ := h
    rfl
  · obtain ⟨tv, rfl, htv, hsz, q⟩ := h
    refine ⟨_, (pss_cons (ps_set (i := 1) sc_numbered.nd rfl (.inl rfl) (pe_lst pa_nil))
  (pss_cons (ps_set (i := 2) sc_numbered.nd rfl (.inl rfl) pe_dnewK)
  (pss_cons (ps_set (i := 3) sc_numbered.nd rfl (.inl rfl) (pe_lst (pa_cons (pe_tup (pa_cons (pv 0) (pa_cons pe_non pa_nil))) pa_nil)))
  (pss_cons (ps_while PassesOwn.never (pt_truth (pv 3) (by intro _; rfl))
  (pss_cons (ps_asg (pe_bm0 PySem.F.plainAttrs_list PySem.F.slot_list_pop PySem.F.type_list_pop mt_pop (pv 3)) (pg_tup (by rfl) (pgs_cons (pg_name (i := 4) sc_numbered.nd rfl (.inl rfl)) (pgs_cons (pg_name (i := 5) sc_numbered.nd rfl (.inl rfl)) pgs_nil))))
  (pss_cons (ps_set (i := 6) sc_numbered.nd rfl (.inl rfl) (pe_callB call_len (by rfl) T.n_len (by decide +kernel) (pa_cons (pv 1) pa_nil)))
  (pss_cons (ps_expr (pe_bm PySem.F.plainAttrs_list PySem.F.slot_list_append PySem.F.type_list_append mt_append (pv 1) (pa_cons (pv 4) pa_nil)))
  (pss_cons (ps_if (pt_cmpR op_notN (pv 5) pe_non (nomark _))
  (pss_one (ps_dput (hu_of hr) (pv 2) (pv 5) (pv 6) rfl))
  pss_nil)
  (pss_one (ps_if (pt_cmpR op_eq (pe_ix ix_tup (pv 4) pe_int (fun _ _ => rfl)) pe_str (nomark _))
  (pss_cons (ps_expr (pe_bm PySem.F.plainAttrs_list PySem.F.slot_list_append PySem.F.type_list_append mt_append (pv 3) (pa_cons (pe_tup (pa_cons (pe_ix ix_tup (pv 4) pe_int (fun _ _ => rfl)) (pa_cons (pv 6) pa_nil))) pa_nil)))
  (pss_one (ps_expr (pe_bm PySem.F.plainAttrs_list PySem.F.slot_list_append PySem.F.type_list_append mt_append (pv 3) (pa_cons (pe_tup (pa_cons (pe_ix ix_tup (pv 4) pe_int (fun _ _ => rfl)) (pa_cons pe_non pa_nil))) pa_nil)))))
  (pss_one (ps_if (pt_cmpR op_ne (pe_ix ix_tup (pv 4) pe_int (fun _ _ => rfl)) pe_str (nomark _))
  (pss_one (ps_expr (pe_bm PySem.F.plainAttrs_list PySem.F.slot_list_append PySem.F.type_list_append mt_append (pv 3) (pa_cons (pe_tup (pa_cons (pe_ix ix_tup (pv 4) (pe_un un_neg pe_int) (fun _ _ => rfl)) (pa_cons pe_non pa_nil))) pa_nil))))
  pss_nil)))))))))
  (pss_one (ps_ret (pe_tup (pa_cons (pv 1) (pa_cons (pv 2) pa_nil))))))))), ?_⟩
    refine ⟨by show 0 ≤ sizeLine; exact Nat.zero_le _, fun tl htl => ?_⟩
    intro od hod
    refine ⟨_, rfl, by show 2 ≤ sizeLine; decide, fun p0 hp0 => ⟨by show 1 ≤ sizeLine; decide, fun wl hwl => ?_⟩⟩
    have s1 : Same H (upd H tl (.lst [])) := same_upd htl
    have s2 := same_upd (o := .dK []) hod
    have s3 := same_upd (o := .tup [tv, .non]) hp0
    have s4 := same_upd (o := .lst [.ref p0]) hwl
    have nod : H od = none := s1.free hod
    have nwl : H wl = none := (s1.trans (s2.trans s3)).free hwl
    have d1 : tl ≠ od := fun z => by rw [← z, upd_same] at hod; cases hod
    have d2 : tl ≠ wl := fun z => by
      rw [← z, s3 _ _ (s2 _ _ upd_same)] at hwl
      cases hwl
    have d3 : od ≠ wl := fun z => by
      rw [← z, s3 _ _ upd_same] at hwl
      cases hwl
    generalize hH0 : upd (upd (upd (upd H tl (.lst [])) od (.dK [])) p0 (.tup [tv, .non])) wl (.lst [.ref p0]) = H0 at *
    have sH0 : Same H H0 := s1.trans (s2.trans (s3.trans s4))
    have etl : H0 tl = some (.lst []) := s4 _ _ (s3 _ _ (s2 _ _ upd_same))
    have eod : H0 od = some (.dK []) := s4 _ _ (s3 _ _ upd_same)
    have ewl : H0 wl = some (.lst [.ref p0]) := by rw [← hH0]; exact upd_same
    have ep0 : SqT K H0 p0 [tv, .non] := .inl (.inl (s4 _ _ upd_same))
    refine ⟨fun m σ H1 => ∃ xs ds O vs st y4 y5 y6, σ = [some tv, some (.ref tl), some (.ref od), some (.ref wl), y4, y5, y6] ∧ Same H H1 ∧ H1 tl = some (.lst xs) ∧ ImAll K H1 xs (ds.map Tr.d) ∧ H1 od = some (.dK (othK O)) ∧
        H1 wl = some (.lst vs) ∧ Paired (WaAt K H1) vs st ∧ ds ++ preW st = t.pre ∧ O ++ restO st.reverse ds.length = oths t 0 ∧ m = t.size - ds.length,
      ⟨_, [], [], [], [.ref p0], [(t, none)], none, none, none, rfl, sH0, etl, .nil, eod, ewl, .cons ⟨p0, tv, rfl, ep0, htv.same (sameI_of sH0)⟩ .nil, by simp [preW], by simp [restO], rfl⟩, ?_⟩
    rintro m σ H1 ⟨xs, ds, O, vs, st, y4, y5, y6, rfl, sH, etl, hxs, eod, ewl, hst, hpre, hoth, rfl⟩
    refine ⟨_, rfl, _, .inl ⟨vs, SqL.of ewl, rfl⟩, ?_⟩
    rcases List.eq_nil_or_concat vs with rfl | ⟨vs1, v, rfl⟩
    · refine iteF ?_
      cases hst
      refine ⟨_, rfl, _, rfl, by show 2 ≤ sizeLine; decide, fun p hp => ?_⟩
      have s5 := same_upd (o := .tup [.ref tl, .ref od]) hp
      have e1 : ds = t.pre := by simpa [preW] using hpre
      have e2 : O = oths t 0 := by simpa [restO] using hoth
      subst e1 e2
      exact q _ p tl od xs (sH.trans s5) htl nod (sH.free hp) (.inl (.inl upd_same)) (s5 _ _ etl) (hxs.same (sameI_of s5)) (s5 _ _ eod)
    rw [List.concat_eq_append] at *
    obtain ⟨st1, ⟨u, ow⟩, rfl, hst1, a, uv, rfl, hat, huv⟩ := paired_last hst
    have hne : (!(vs1 ++ [V.ref a]).isEmpty) = true := by cases vs1 <;> rfl
    rw [hne]
    have hlen : ds.length + (preW (st1 ++ [(u, ow)])).length = t.size := by rw [← t.pre_len, ← hpre, List.length_append]
    have hpw : preW (st1 ++ [(u, ow)]) = u.pre ++ preW st1 := by simp [preW]
    have hro : restO (st1 ++ [(u, ow)]).reverse ds.length = (ow.map fun p => (p, ds.length)).toList ++ oths u ds.length ++ restO st1.reverse (ds.length + u.size) := by
      rw [List.reverse_append]
      rfl
    rw [hpw] at hpre hlen
    rw [hro] at hoth
    have hup := u.pre_len
    have hus := size_pos u
    rw [List.length_append] at hlen
    refine iteT ⟨fun σ' H' => ∃ m', m' < t.size - ds.length ∧ ∃ xs ds O vs st y4 y5 y6, σ' = [some tv, some (.ref tl), some (.ref od), some (.ref wl), y4, y5, y6] ∧ Same H H' ∧ H' tl = some (.lst xs) ∧ ImAll K H' xs (ds.map Tr.d) ∧ H' od = some (.dK (othK O)) ∧
        H' wl = some (.lst vs) ∧ Paired (WaAt K H') vs st ∧ ds ++ preW st = t.pre ∧ O ++ restO st.reverse ds.length = oths t 0 ∧ m' = t.size - ds.length, fun σ' H' z => z, ?_⟩
    -- tree, owner = waiting.pop()
    refine ⟨_, rfl, .inl ⟨rfl, _, SqL.of ewl⟩, wl, _, .ref a, rfl, rfl, ewl, by simp, ?_⟩
    rw [List.dropLast_concat]
    have i1 : SameI H1 (upd H1 wl (.lst vs1)) := sameI_upd ewl id
    have hat1 := i1.tup hat
    refine ⟨a, _, rfl, hat1, rfl, _, _, rfl, _, _, rfl, rfl, ?_⟩
    -- place = len(trees); trees.append(tree)
    have etl1 : (upd H1 wl (.lst vs1)) tl = some (.lst xs) := by rw [upd_ne d2]; exact etl
    have hxl : xs.length = ds.length := by rw [hxs.length, List.length_map]
    refine ⟨_, rfl, _, _, rfl, .inl ⟨_, SqL.of etl1, rfl⟩, ?_⟩
    refine ⟨_, rfl, .inl ⟨rfl, _, SqL.of etl1⟩, _, rfl, tl, _, _, rfl, rfl, etl1, smaller (by omega), ?_⟩
    have i2 : SameI (upd H1 wl (.lst vs1)) (upd (upd H1 wl (.lst vs1)) tl (.lst (xs ++ [uv]))) := sameI_upd etl1 id
    have sH2 : Same H (upd (upd H1 wl (.lst vs1)) tl (.lst (xs ++ [uv]))) := Same.old (Same.old sH nwl) htl
    have ewl2 : (upd (upd H1 wl (.lst vs1)) tl (.lst (xs ++ [uv]))) wl = some (.lst vs1) := by rw [upd_ne (Ne.symm d2)]; exact upd_same
    have eod2 : (upd (upd H1 wl (.lst vs1)) tl (.lst (xs ++ [uv]))) od = some (.dK (othK O)) := by rw [upd_ne (Ne.symm d1), upd_ne d3]; exact eod
    have etl2 : (upd (upd H1 wl (.lst vs1)) tl (.lst (xs ++ [uv]))) tl = some (.lst (xs ++ [uv])) := upd_same
    have i12 := i1.trans i2
    generalize upd (upd H1 wl (.lst vs1)) tl (.lst (xs ++ [uv])) = H2 at *
    have hst2 : Paired (WaAt K H2) vs1 st1 := Paired.mapP hst1 fun _ _ z => z.i i12
    have huv2 : Im K H2 uv u.d := huv.same i12
    have hxs2 : ImAll K H2 (xs ++ [uv]) ((ds ++ [u]).map Tr.d) := by
      rw [List.map_append]
      exact (hxs.same i12).append (.cons huv2 .nil)
    have hl1 : (ds ++ [u]).length - 1 = ds.length := by simp
    have hl : ∀ z : Tr, (ds ++ [z]).length = ds.length + 1 := fun z => by simp
    have hvl : vs1.length ≤ (preW st1).length := by
      rw [Paired.length hst1]
      exact preW_len st1
    -- if owner is not None: others[owner] = place
    cases ow
    case' none =>
      refine ⟨_, rfl, rfl, _, rfl, itnd (p := V.non = V.non) rfl ?_⟩
      have F : ∃ O3, NumAt K H H2 tl od wl (xs ++ [uv]) (ds ++ [u]) vs1 st1 uv u t O3 := ⟨O, sH2, etl2, hxs2, eod2, ewl2, hst2, huv2, by rw [hl1]; exact hoth⟩
      revert F
      generalize owV none = y5
      generalize H2 = H3
    case' some p =>
      refine ⟨_, rfl, rfl, _, rfl, itnn (p := V.int (p : Nat) = V.non) (fun z => nomatch z) ?_⟩
      refine ⟨_, rfl, _, rfl, _, rfl, od, _, rfl, DPut.k (k := .inl (p : Nat)) eod2 (smaller ?_), ?_⟩
      · have := oths_len t 0
        rw [← hoth, List.length_append] at this
        rw [List.length_map]
        omega
      rw [hxl, othK_put (by show O ++ (p, ds.length) :: _ = oths t 0; exact hoth)]
      have F : ∃ O3, NumAt K H (upd H2 od (.dK (othK (O ++ [(p, ds.length)])))) tl od wl (xs ++ [uv]) (ds ++ [u]) vs1 st1 uv u t O3 := by
        have i3 : SameI H2 (upd H2 od (.dK (othK (O ++ [(p, ds.length)])))) := sameI_upd eod2 id
        refine ⟨O ++ [(p, ds.length)], Same.old sH2 nod, by rw [upd_ne d1]; exact etl2, hxs2.same i3, upd_same, by rw [upd_ne (Ne.symm d3)]; exact ewl2, Paired.mapP hst2 fun _ _ z => z.i i3, huv2.same i3, ?_⟩
        rw [hl1, List.append_assoc]
        exact hoth
      rw [← hxl] at F ⊢
      revert F
      generalize owV (some p) = y5
      generalize upd H2 od (.dK (othK (O ++ [(p, xs.length)]))) = H3
    all_goals
      rintro ⟨O3, sH3, etl3, hxs3, eod3, ewl3, hst3, huv3, hO3⟩
      rw [hl1] at hO3
      have i3 : ∀ {p : Addr} {o : HO}, H3 p = none → SameI H3 (upd H3 p o) := fun hp => sameI_of (same_upd hp)
      -- two more to go through, one more, none
      cases u with
      | if_ a b n u v =>
        obtain ⟨ua, us, rfl, hua, hall⟩ := im_tup huv3
        obtain ⟨v0, us, rfl, j0, hall⟩ := all_cons hall
        obtain ⟨v1, us, rfl, j1, hall⟩ := all_cons hall
        obtain ⟨v2, us, rfl, j2, hall⟩ := all_cons hall
        obtain ⟨v3, us, rfl, j3, hall⟩ := all_cons hall
        obtain ⟨v4, us, rfl, j4, hall⟩ := all_cons hall
        obtain ⟨v5, us, rfl, j5, hall⟩ := all_cons hall
        obtain rfl := all0 hall
        obtain rfl := im_str j0
        refine ⟨_, rfl, _, _, _, _, rfl, rfl, hua, atI_nat (j := 0) rfl, rfl, _, rfl, itd (p := V.str "if" = V.str "if") rfl ?_⟩
        refine ⟨_, rfl, .inl ⟨rfl, _, SqL.of ewl3⟩, _, rfl, _, _, _, _, rfl, rfl, hua, atI_nat (j := 5) rfl, _, rfl, by show 2 ≤ sizeLine; decide, fun p5 hp5 => ?_⟩
        have k5 := same_upd (o := .tup [v5, .int (xs.length : Nat)]) hp5
        have ewl5 := k5 _ _ ewl3
        refine ⟨wl, _, _, rfl, rfl, ewl5, smaller (by omega), ?_⟩
        have i6 := sameI_upd (o := .lst (vs1 ++ [.ref p5])) ewl5 id
        have eq5 : SqT K (upd (upd H3 p5 (.tup [v5, .int (xs.length : Nat)])) wl (.lst (vs1 ++ [.ref p5]))) p5 [v5, .int (xs.length : Nat)] := i6.tup (.inl (.inl upd_same))
        have i56 := (sameI_of k5).trans i6
        have sH6 : Same H (upd (upd H3 p5 (.tup [v5, .int (xs.length : Nat)])) wl (.lst (vs1 ++ [.ref p5]))) := Same.old (sH3.trans k5) nwl
        have etl6 : (upd (upd H3 p5 (.tup [v5, .int (xs.length : Nat)])) wl (.lst (vs1 ++ [.ref p5]))) tl = some (.lst (xs ++ [.ref ua])) := by rw [upd_ne d2]; exact k5 _ _ etl3
        have eod6 : (upd (upd H3 p5 (.tup [v5, .int (xs.length : Nat)])) wl (.lst (vs1 ++ [.ref p5]))) od = some (.dK (othK O3)) := by rw [upd_ne d3]; exact k5 _ _ eod3
        have ewl6 : (upd (upd H3 p5 (.tup [v5, .int (xs.length : Nat)])) wl (.lst (vs1 ++ [.ref p5]))) wl = some (.lst (vs1 ++ [.ref p5])) := upd_same
        generalize upd (upd H3 p5 (.tup [v5, .int (xs.length : Nat)])) wl (.lst (vs1 ++ [.ref p5])) = H6 at *
        refine ⟨_, rfl, .inl ⟨rfl, _, SqL.of ewl6⟩, _, rfl, _, _, _, _, rfl, rfl, i56.tup hua, atI_nat (j := 4) rfl, by show 2 ≤ sizeLine; decide, fun p4 hp4 => ?_⟩
        have k4 := same_upd (o := .tup [v4, .non]) hp4
        have ewl4 := k4 _ _ ewl6
        refine ⟨wl, _, _, rfl, rfl, ewl4, smaller (by rw [List.length_append, List.length_singleton]; omega), ?_⟩
        have i5 := sameI_upd (o := .lst (vs1 ++ [.ref p5] ++ [.ref p4])) ewl4 id
        have iB := (sameI_of k4).trans i5
        have iA := i56.trans iB
        exact ⟨_, by rw [hl]; omega, _, ds ++ [.if_ a b n u v], O3, _, st1 ++ [(v, some xs.length)] ++ [(u, none)], _, _, _, rfl, Same.old (sH6.trans k4) nwl, by rw [upd_ne d2]; exact k4 _ _ etl6, hxs3.same iA, by rw [upd_ne d3]; exact k4 _ _ eod6, upd_same,
          paired_append (paired_append (Paired.mapP hst3 fun _ _ z => z.i iA) (.cons ⟨p5, v5, rfl, iB.tup eq5, j5.same iA⟩ .nil)) (.cons ⟨p4, v4, rfl, i5.tup (.inl (.inl upd_same)), j4.same iA⟩ .nil),
          by rw [List.append_assoc, ← hpre]; simp [preW, Tr.pre], by rw [hl, List.reverse_append, List.reverse_append, ← hO3, hxl]; simp [restO, oths, Tr.size, Nat.add_assoc, Nat.add_comm, Nat.add_left_comm], rfl⟩
      | let_ x d u =>
        obtain ⟨ua, us, rfl, hua, hall⟩ := im_tup huv3
        obtain ⟨v0, us, rfl, j0, hall⟩ := all_cons hall
        obtain ⟨v1, us, rfl, j1, hall⟩ := all_cons hall
        obtain ⟨v2, us, rfl, j2, hall⟩ := all_cons hall
        obtain ⟨v3, us, rfl, j3, hall⟩ := all_cons hall
        obtain rfl := all0 hall
        obtain rfl := im_str j0
        refine ⟨_, rfl, _, _, _, _, rfl, rfl, hua, atI_nat (j := 0) rfl, rfl, _, rfl, itn (p := V.str "let" = V.str "if") (by decide +kernel) ?_⟩
        refine ⟨_, rfl, _, _, _, _, rfl, rfl, hua, atI_nat (j := 0) rfl, rfl, _, rfl, itnn (p := V.str "let" = V.str "tell") (by decide +kernel) ?_⟩
        refine ⟨_, rfl, .inl ⟨rfl, _, SqL.of ewl3⟩, _, rfl, _, rfl, _, _, _, _, rfl, rfl, hua, rfl, by show 2 ≤ sizeLine; decide, fun p4 hp4 => ?_⟩
        have k4 := same_upd (o := .tup [v3, .non]) hp4
        have ewl4 := k4 _ _ ewl3
        refine ⟨wl, _, _, rfl, rfl, ewl4, smaller (by omega), ?_⟩
        have i5 := sameI_upd (o := .lst (vs1 ++ [.ref p4])) ewl4 id
        have iA := (sameI_of k4).trans i5
        exact ⟨_, by rw [hl]; omega, _, ds ++ [.let_ x d u], O3, _, st1 ++ [(u, none)], _, _, _, rfl, Same.old (sH3.trans k4) nwl, by rw [upd_ne d2]; exact k4 _ _ etl3, hxs3.same iA, by rw [upd_ne d3]; exact k4 _ _ eod3, upd_same,
          paired_append (Paired.mapP hst3 fun _ _ z => z.i iA) (.cons ⟨p4, v3, rfl, i5.tup (.inl (.inl upd_same)), j3.same iA⟩ .nil),
          by rw [List.append_assoc, ← hpre]; simp [preW, Tr.pre], by rw [hl, List.reverse_append, ← hO3]; simp [restO, oths, Tr.size, Nat.add_assoc, Nat.add_comm, Nat.add_left_comm], rfl⟩
      | claim a b n u =>
        obtain ⟨ua, us, rfl, hua, hall⟩ := im_tup huv3
        obtain ⟨v0, us, rfl, j0, hall⟩ := all_cons hall
        obtain ⟨v1, us, rfl, j1, hall⟩ := all_cons hall
        obtain ⟨v2, us, rfl, j2, hall⟩ := all_cons hall
        obtain ⟨v3, us, rfl, j3, hall⟩ := all_cons hall
        obtain ⟨v4, us, rfl, j4, hall⟩ := all_cons hall
        obtain rfl := all0 hall
        obtain rfl := im_str j0
        refine ⟨_, rfl, _, _, _, _, rfl, rfl, hua, atI_nat (j := 0) rfl, rfl, _, rfl, itn (p := V.str "claim" = V.str "if") (by decide +kernel) ?_⟩
        refine ⟨_, rfl, _, _, _, _, rfl, rfl, hua, atI_nat (j := 0) rfl, rfl, _, rfl, itnn (p := V.str "claim" = V.str "tell") (by decide +kernel) ?_⟩
        refine ⟨_, rfl, .inl ⟨rfl, _, SqL.of ewl3⟩, _, rfl, _, rfl, _, _, _, _, rfl, rfl, hua, rfl, by show 2 ≤ sizeLine; decide, fun p4 hp4 => ?_⟩
        have k4 := same_upd (o := .tup [v4, .non]) hp4
        have ewl4 := k4 _ _ ewl3
        refine ⟨wl, _, _, rfl, rfl, ewl4, smaller (by omega), ?_⟩
        have i5 := sameI_upd (o := .lst (vs1 ++ [.ref p4])) ewl4 id
        have iA := (sameI_of k4).trans i5
        exact ⟨_, by rw [hl]; omega, _, ds ++ [.claim a b n u], O3, _, st1 ++ [(u, none)], _, _, _, rfl, Same.old (sH3.trans k4) nwl, by rw [upd_ne d2]; exact k4 _ _ etl3, hxs3.same iA, by rw [upd_ne d3]; exact k4 _ _ eod3, upd_same,
          paired_append (Paired.mapP hst3 fun _ _ z => z.i iA) (.cons ⟨p4, v4, rfl, i5.tup (.inl (.inl upd_same)), j4.same iA⟩ .nil),
          by rw [List.append_assoc, ← hpre]; simp [preW, Tr.pre], by rw [hl, List.reverse_append, ← hO3]; simp [restO, oths, Tr.size, Nat.add_assoc, Nat.add_comm, Nat.add_left_comm], rfl⟩
      | tell x =>
        obtain ⟨ua, us, rfl, hua, hall⟩ := im_tup huv3
        obtain ⟨v0, us, rfl, j0, hall⟩ := all_cons hall
        obtain ⟨v1, us, rfl, j1, hall⟩ := all_cons hall
        obtain rfl := all0 hall
        obtain rfl := im_str j0
        refine ⟨_, rfl, _, _, _, _, rfl, rfl, hua, atI_nat (j := 0) rfl, rfl, _, rfl, itn (p := V.str "tell" = V.str "if") (by decide +kernel) ?_⟩
        refine ⟨_, rfl, _, _, _, _, rfl, rfl, hua, atI_nat (j := 0) rfl, rfl, _, rfl, itnd (p := V.str "tell" = V.str "tell") rfl ?_⟩
        exact ⟨_, by rw [hl]; omega, _, ds ++ [.tell x], O3, _, st1, _, _, _, rfl, sH3, etl3, hxs3, eod3, ewl3, hst3, by rw [← hpre]; simp [preW, Tr.pre], by rw [hl, ← hO3]; simp [restO, oths, Tr.size], rfl⟩
end
end Cs
namespace Cs
open PySem PySem.Spec L2
/-! ## what names stand for -/
def EnvK (K : PySem.W.Frag) (H : Hp) (kvs : List (Key × V)) (e : Ev) : Prop := Paired (fun (kv : Key × V) (p : Str × Wt) => kv.1 = .inr p.1 ∧ Im K H kv.2 p.2.d) kvs e
theorem EnvK.i {K : PySem.W.Frag} {H H1 : Hp} (s : SameI H H1) {kvs : List (Key × V)} {e : Ev} (h : EnvK K H kvs e) : EnvK K H1 kvs e := Paired.mapP h fun _ _ z => ⟨z.1, z.2.same s⟩
theorem EnvK.none {K : PySem.W.Frag} {H : Hp} {x : Str} : ∀ {kvs : List (Key × V)} {e : Ev}, EnvK K H kvs e → eget e x = none → valV kvs (.inr x) = none
  | _, _, .nil, _ => rfl
  | (k, v) :: kvs, (y, w) :: e, .cons h t, n => by
    obtain ⟨rfl, _⟩ := (show k = .inr y ∧ _ from h)
    by_cases g : y = x
    · unfold eget at n
      rw [List.find?_cons, decide_eq_true g] at n
      cases n
    · rw [valV_neg (fun z => g (Sum.inr.inj z))]
      refine EnvK.none t ?_
      unfold eget at n ⊢
      rw [List.find?_cons, decide_eq_false g] at n
      exact n
theorem EnvK.get {K : PySem.W.Frag} {H : Hp} {x : Str} {w : Wt} : ∀ {kvs : List (Key × V)} {e : Ev}, EnvK K H kvs e → eget e x = some w → ∃ v, valV kvs (.inr x) = some v ∧ Im K H v w.d
  | _, _, .nil, n => by cases n
  | (k, v) :: kvs, (y, u) :: e, .cons h t, n => by
    obtain ⟨rfl, hv⟩ := (show k = .inr y ∧ Im K H v u.d from h)
    by_cases g : y = x
    · unfold eget at n
      rw [List.find?_cons, decide_eq_true g] at n
      cases n
      exact ⟨v, valV_pos (by rw [g]), hv⟩
    · rw [valV_neg (fun z => g (Sum.inr.inj z))]
      refine EnvK.get t ?_
      unfold eget at n ⊢
      rw [List.find?_cons, decide_eq_false g] at n
      exact n
theorem EnvK.put {K : PySem.W.Frag} {H : Hp} {kvs : List (Key × V)} {e : Ev} {x : Str} {v : V} {w : Wt} (h : EnvK K H kvs e) (n : eget e x = Option.none) (hv : Im K H v w.d) : EnvK K H (putK kvs (.inr x) v) (e ++ [(x, w)]) := by
  rw [putK_new (h.none n)]
  exact paired_append h (.cons ⟨rfl, hv⟩ .nil)
theorem dget_at {H : Hp} {d : Addr} {kvs : List (Key × V)} {x : Str} {v : V} (hd : H d = some (.dK kvs)) (e : valV kvs (.inr x) = some v) : DGet H d (.str x) (some v) := by
  have := DGet.k (k := .inr x) hd
  rw [e] at this
  exact this
theorem dget_in {H : Hp} {d : Addr} {kvs : List (Key × V)} {x : Nat} {v : V} (hd : H d = some (.dK kvs)) (e : valV kvs (.inl (x : Nat)) = some v) : DGet H d (.int (x : Nat)) (some v) := by
  have := DGet.k (k := .inl (x : Nat)) hd
  rw [e] at this
  exact this
theorem all_ints {K : PySem.W.Frag} {H : Hp} : ∀ {vs : List V} {xs : List Int}, ImAll K H vs (xs.map .int) → vs = xs.map V.int
  | _, [], h => by cases h; rfl
  | _, x :: xs, h => by
    cases h with
    | cons h1 h2 => rw [im_int h1, all_ints h2]; rfl
theorem ints_all {K : PySem.W.Frag} {H : Hp} : ∀ xs : List Int, ImAll K H (xs.map V.int) (xs.map .int)
  | [] => .nil
  | x :: xs => .cons (.int x) (ints_all xs)
theorem im_l {K : PySem.W.Frag} {H : Hp} {v : V} {w : Wt} (h : Im K H v w.d) (k : w.kd = .lst) : ∃ a, v = .ref a ∧ SqT K H a (w.xs.map V.int) := by
  rw [Wt.of_lst k] at h
  obtain ⟨a, vs, e, h1, h2⟩ := im_tup h
  rw [all_ints h2] at h1
  exact ⟨a, e, h1⟩
theorem im_n {K : PySem.W.Frag} {H : Hp} {v : V} {w : Wt} (h : Im K H v w.d) (k : w.kd = .num) : v = .int w.i := by
  rw [Wt.of_num k] at h
  exact im_int h
/-- what stands behind a name -/
theorem EnvK.num {K : PySem.W.Frag} {H : Hp} {kvs : List (Key × V)} {e : Ev} {x : Str} (h : EnvK K H kvs e) (k : look (nsOf e) x = some .num) : valV kvs (.inr x) = some (.int (egetD e x).i) := by
  obtain ⟨e1, e2⟩ := eget_of k
  obtain ⟨v, e3, e4⟩ := h.get e1
  rw [e3, im_n e4 e2]
theorem EnvK.lst {K : PySem.W.Frag} {H : Hp} {kvs : List (Key × V)} {e : Ev} {x : Str} (h : EnvK K H kvs e) (k : look (nsOf e) x = some .lst) : ∃ a, valV kvs (.inr x) = some (.ref a) ∧ SqT K H a ((egetD e x).xs.map V.int) := by
  obtain ⟨e1, e2⟩ := eget_of k
  obtain ⟨v, e3, e4⟩ := h.get e1
  obtain ⟨a, rfl, e5⟩ := im_l e4 e2
  exact ⟨a, e3, e5⟩
section
variable {P : Program} {w : World} {K : PySem.W.Frag} {mg : Str → Option Value} {base : Heap} {A : Adr}
def spMeasured (K : PySem.W.Frag) : Sp := fun vs H Q _ => ∃ (e : Ev) (a : Ms) (mv : V) (d : Addr) (kvs : List (Key × V)), vs = [mv, .ref d] ∧ Im K H mv a.d ∧ H d = some (.dK kvs) ∧ EnvK K H kvs e ∧ a.ok (nsOf e) ∧ Q (.int (a.val e)) H
theorem ok_measured (T : Tx K w mg A) : FnOk P w K mg base CX0 1 A.f_measured A.fd_measured P_measured (spMeasured K) := by
  refine T.F_measured.ok sc_measured (fun vs H Q E h => ?_) (fun cdv AA outer s H vs Q E hr h => ?_)
  · obtain ⟨e, a, mv, d, kvs, rfl, _⟩ := h
    rfl
  · obtain ⟨e, a, mv, d, kvs, rfl, hm, hd, hE, hok, q⟩ := h
    refine ⟨_, (pss_cons (ps_if (pt_cmpR op_eq (pe_callB call_len (by rfl) T.n_len (by decide +kernel) (pa_cons (pv 0) pa_nil)) pe_int (nomark _))
  (pss_one (ps_ret pe_int))
  pss_nil)
  (pss_cons (ps_set (i := 2) sc_measured.nd rfl (.inl rfl) (pe_dget (hu_of hr) (pv 1) (pe_ix ix_tup (pv 0) pe_int (fun _ _ => rfl)) (fun _ _ => rfl)))
  (pss_one (ps_ret (pe_ifExp (pt_cmpR op_eq (pe_ix ix_tup (pv 0) pe_int (fun _ _ => rfl)) pe_str (nomark _)) (pv 2) (pe_callB call_len (by rfl) T.n_len (by decide +kernel) (pa_cons (pv 2) pa_nil))))))), ?_⟩
    cases a with
    | zero =>
      obtain ⟨ta, xs, rfl, hta, hall⟩ := im_tup hm
      obtain rfl := all0 hall
      exact ⟨_, rfl, _, 0, rfl, .inr ⟨_, hta, rfl⟩, rfl, _, rfl, itd (p := V.int 0 = V.int 0) rfl q⟩
    | of x =>
      obtain ⟨ta, xs, rfl, hta, hall⟩ := im_tup hm
      obtain ⟨v0, v1, rfl, i0, i1⟩ := im2 hall
      obtain rfl := im_str i0
      obtain rfl := im_str i1
      refine ⟨_, rfl, _, 2, rfl, .inr ⟨_, hta, rfl⟩, rfl, _, rfl, itn (p := V.int (2 : Nat) = V.int 0) (by decide +kernel) ?_⟩
      refine ⟨_, rfl, _, rfl, _, _, _, _, rfl, rfl, hta, atI_nat (j := 1) rfl, d, _, rfl, dget_at hd (hE.num hok), ?_⟩
      exact ⟨_, rfl, _, _, _, _, rfl, rfl, hta, atI_nat (j := 0) rfl, rfl, _, rfl, itd (p := V.str "of" = V.str "of") rfl ⟨_, rfl, q⟩⟩
    | len x =>
      obtain ⟨ta, xs, rfl, hta, hall⟩ := im_tup hm
      obtain ⟨v0, v1, rfl, i0, i1⟩ := im2 hall
      obtain rfl := im_str i0
      obtain rfl := im_str i1
      obtain ⟨la, e1, e2⟩ := hE.lst hok
      refine ⟨_, rfl, _, 2, rfl, .inr ⟨_, hta, rfl⟩, rfl, _, rfl, itn (p := V.int (2 : Nat) = V.int 0) (by decide +kernel) ?_⟩
      refine ⟨_, rfl, _, rfl, _, _, _, _, rfl, rfl, hta, atI_nat (j := 1) rfl, d, _, rfl, dget_at hd e1, ?_⟩
      exact ⟨_, rfl, _, _, _, _, rfl, rfl, hta, atI_nat (j := 0) rfl, rfl, _, rfl, itn (p := V.str "len" = V.str "of") (by decide +kernel) ⟨_, rfl, _, _, rfl, .inr ⟨_, e2, (List.length_map _).symm⟩, q⟩⟩
/-- an if's, a claim's first parts -/
def spIsSo (K : PySem.W.Frag) : Sp := fun vs H Q _ => ∃ (e : Ev) (z : Str) (a b : Ms) (n : Int) (ta d : Addr) (v1 v2 : V) (more : List V) (kvs : List (Key × V)), vs = [.ref ta, .ref d] ∧ SqT K H ta ([.str z, v1, v2, .int n] ++ more) ∧ more ≠ [] ∧ Im K H v1 a.d ∧ Im K H v2 b.d ∧ H d = some (.dK kvs) ∧ EnvK K H kvs e ∧ a.ok (nsOf e) ∧ b.ok (nsOf e) ∧
  ∀ H1, Same H H1 → Q (.bl (decide (a.val e - b.val e ≤ n))) H1
theorem ok_is_so (T : Tx K w mg A) : FnOk P w K mg base CX0 2 A.f_is_so A.fd_is_so P_is_so (spIsSo K) := by
  have G_measured := ok_measured (P := P) (base := base) T
  refine T.F_is_so.ok sc_is_so (fun vs H Q E h => ?_) (fun cdv AA outer s H vs Q E hr h => ?_)
  · obtain ⟨e, z, a, b, n, ta, d, v1, v2, more, kvs, rfl, _⟩ := h
    rfl
  · obtain ⟨e, z, a, b, n, ta, d, v1, v2, more, kvs, rfl, hta, hm, i1, i2, hd, hE, o1, o2, q⟩ := h
    refine ⟨_, (pss_cons (ps_asg (pe_slice sl_tup (pv 0) po_none (po_some pe_int)) (pg_tup (by rfl) (pgs_cons (pg_name (i := 2) sc_is_so.nd rfl (.inl rfl)) (pgs_cons (pg_name (i := 3) sc_is_so.nd rfl (.inl rfl)) (pgs_cons (pg_name (i := 4) sc_is_so.nd rfl (.inl rfl)) (pgs_cons (pg_name (i := 5) sc_is_so.nd rfl (.inl rfl)) pgs_nil))))))
  (pss_one (ps_ret (pe_cmpR op_le (pe_op op_sub (pe_call G_measured (hr.mono (by decide)) (by rfl) T.g_measured T.F_measured.kp T.b_measured .nil pass0 (pa_cons (pv 3) (pa_cons (pv 1) pa_nil))) (pe_call G_measured (hr.mono (by decide)) (by rfl) T.g_measured T.F_measured.kp T.b_measured .nil pass0 (pa_cons (pv 4) (pa_cons (pv 1) pa_nil)))) (pv 5) (nomark _))))), ?_⟩
    refine ⟨_, rfl, 4, rfl, ta, _, rfl, hta, ?_, fun p hp => ?_⟩
    · rintro ⟨_, e2⟩
      have e3 : HT.sIx ([.str z, v1, v2, V.int n] ++ more).length ([.str z, v1, v2, V.int n] ++ more).length (some 4) = min 4 ([.str z, v1, v2, V.int n] ++ more).length := HT.sIx_nat _ _ 4
      rw [e3, List.length_append] at e2
      have := List.length_pos_iff.mpr hm
      simp only [List.length_cons, List.length_nil] at e2
      omega
    · have ec : cutV ([.str z, v1, v2, .int n] ++ more) none (some 4) = [.str z, v1, v2, .int n] := cutTo 4 _ _ rfl
      have s1 : Same H (upd H p (.tup (cutV ([.str z, v1, v2, .int n] ++ more) none (some 4)))) := same_upd hp
      rw [ec] at s1 ⊢
      refine ⟨p, _, rfl, .inl (.inl upd_same), rfl, _, _, rfl, _, _, rfl, _, _, rfl, _, _, rfl, rfl, ?_⟩
      have hE1 := hE.i (sameI_of s1)
      exact ⟨_, rfl, _, rfl, e, a, v1, d, kvs, rfl, i1.same (sameI_of s1), s1 _ _ hd, hE1, o1, _, rfl, _, rfl, e, b, v2, d, kvs, rfl, i2.same (sameI_of s1), s1 _ _ hd, hE1, o2, _, _, rfl, rfl, _, rfl, _, _, rfl, rfl, q _ s1⟩
theorem im3 {K : PySem.W.Frag} {H : Hp} {xs : List V} {a b c : PyData} (h : ImAll K H xs [a, b, c]) : ∃ u v z, xs = [u, v, z] ∧ Im K H u a ∧ Im K H v b ∧ Im K H z c := by
  obtain ⟨u, r, rfl, h1, h⟩ := all_cons h
  obtain ⟨v, z, rfl, h2, h3⟩ := im2 h
  exact ⟨u, v, z, rfl, h1, h2, h3⟩
def spFault (K : PySem.W.Frag) : Sp := fun vs H Q _ => ∃ (e : Ev) (hs : Hd) (k : Kd) (dd : Dd) (dv : V) (d : Addr) (kvs : List (Key × V)), vs = [dv, .ref d] ∧ Im K H dv dd.d ∧ H d = some (.dK kvs) ∧ EnvK K H kvs e ∧ dd.ok hs (nsOf e) k ∧ (∀ g xs, dd ≠ .call g xs) ∧ dd ≠ .ask ∧
  ∀ H1, Same H H1 → Q (match dd.bad e with | some x => .str x | none => .non) H1
theorem ok_fault_of (T : Tx K w mg A) : FnOk P w K mg base CX0 1 A.f_fault_of A.fd_fault_of P_fault_of (spFault K) := by
  refine T.F_fault_of.ok sc_fault_of (fun vs H Q E h => ?_) (fun cdv AA outer s H vs Q E hr h => ?_)
  · obtain ⟨e, hs, k, dd, dv, d, kvs, rfl, _⟩ := h
    rfl
  · obtain ⟨e, hs, k, dd, dv, d, kvs, rfl, hdv, hd, hE, hok, nc, na, q⟩ := h
    refine ⟨_, (pss_cons (ps_if (PW.pt (pw_and (pt_cmpR op_in_seq (pe_ix ix_tup (pv 0) pe_int (fun _ _ => rfl)) (pe_tup (pa_cons pe_str (pa_cons pe_str pa_nil))) (by rfl)) (pw_and1 (pt_cmpR op_eq (pe_callB call_len (by rfl) T.n_len (by decide +kernel) (pa_cons (pe_dget (hu_of hr) (pv 1) (pe_ix ix_tup (pv 0) pe_int (fun _ _ => rfl)) (fun _ _ => rfl)) pa_nil)) pe_int (nomark _)))))
  (pss_one (ps_ret pe_str))
  pss_nil)
  (pss_cons (ps_if (PW.pt (pw_and (pt_cmpR op_eq (pe_ix ix_tup (pv 0) pe_int (fun _ _ => rfl)) pe_str (nomark _)) (pw_and1 (pt_not (pt_chain op_le op_lt pe_int (pe_dget (hu_of hr) (pv 1) (pe_ix ix_tup (pv 0) pe_int (fun _ _ => rfl)) (fun _ _ => rfl)) (pe_callB call_len (by rfl) T.n_len (by decide +kernel) (pa_cons (pe_dget (hu_of hr) (pv 1) (pe_ix ix_tup (pv 0) pe_int (fun _ _ => rfl)) (fun _ _ => rfl)) pa_nil)))))))
  (pss_one (ps_ret pe_str))
  pss_nil)
  (pss_one (ps_ret pe_non)))), ?_⟩
    cases dd with
    | call g xs => exact absurd rfl (nc g xs)
    | ask => exact absurd rfl na
    | head l =>
      obtain ⟨ta, xs, rfl, hta, hall⟩ := im_tup hdv
      obtain ⟨v0, v1, rfl, i0, i1⟩ := im2 hall
      obtain rfl := im_str i0
      obtain rfl := im_str i1
      refine ⟨_, rfl, _, _, _, _, rfl, rfl, hta, atI_nat (j := 0) rfl, by show 2 ≤ sizeLine; decide, fun p hp => ?_⟩
      have s1 := same_upd (o := .tup [.str "head", .str "tail"]) hp
      have hta1 := Same.tup s1 hta
      refine ⟨_, _, rfl, .inr (.inl (.inl upd_same)), rfl, rfl, true, congrArg V.bl (by decide +kernel), iteT ?_⟩
      obtain ⟨la, e1, e2⟩ := (hE.i (sameI_of s1)).lst hok.1
      refine ⟨_, rfl, _, rfl, _, _, _, _, rfl, rfl, hta1, atI_nat (j := 1) rfl, d, _, rfl, dget_at (s1 _ _ hd) e1, _, _, rfl, .inr ⟨_, e2, (List.length_map _).symm⟩, rfl, _, rfl, ?_⟩
      have q1 := q _ s1
      change Q (match (if (egetD e l).xs = [] then some ("empty" : Str) else none) with | some x => .str x | none => .non) _ at q1
      by_cases hz : (egetD e l).xs = []
      · rw [if_pos hz] at q1
        rw [hz]
        exact itd (p := V.int (0 : Nat) = V.int 0) rfl q1
      · rw [if_neg hz] at q1
        refine itn (p := V.int ((egetD e l).xs.length : Nat) = V.int 0) (fun z => hz (List.length_eq_zero_iff.mp (Int.ofNat.inj (V.int.inj z)))) ?_
        refine ⟨_, rfl, _, _, _, _, rfl, rfl, hta1, atI_nat (j := 0) rfl, rfl, _, rfl, itn (p := V.str "head" = V.str "at") (by decide +kernel) q1⟩
    | tail l =>
      obtain ⟨ta, xs, rfl, hta, hall⟩ := im_tup hdv
      obtain ⟨v0, v1, rfl, i0, i1⟩ := im2 hall
      obtain rfl := im_str i0
      obtain rfl := im_str i1
      refine ⟨_, rfl, _, _, _, _, rfl, rfl, hta, atI_nat (j := 0) rfl, by show 2 ≤ sizeLine; decide, fun p hp => ?_⟩
      have s1 := same_upd (o := .tup [.str "head", .str "tail"]) hp
      have hta1 := Same.tup s1 hta
      refine ⟨_, _, rfl, .inr (.inl (.inl upd_same)), rfl, rfl, true, congrArg V.bl (by decide +kernel), iteT ?_⟩
      obtain ⟨la, e1, e2⟩ := (hE.i (sameI_of s1)).lst hok.1
      refine ⟨_, rfl, _, rfl, _, _, _, _, rfl, rfl, hta1, atI_nat (j := 1) rfl, d, _, rfl, dget_at (s1 _ _ hd) e1, _, _, rfl, .inr ⟨_, e2, (List.length_map _).symm⟩, rfl, _, rfl, ?_⟩
      have q1 := q _ s1
      change Q (match (if (egetD e l).xs = [] then some ("empty" : Str) else none) with | some x => .str x | none => .non) _ at q1
      by_cases hz : (egetD e l).xs = []
      · rw [if_pos hz] at q1
        rw [hz]
        exact itd (p := V.int (0 : Nat) = V.int 0) rfl q1
      · rw [if_neg hz] at q1
        refine itn (p := V.int ((egetD e l).xs.length : Nat) = V.int 0) (fun z => hz (List.length_eq_zero_iff.mp (Int.ofNat.inj (V.int.inj z)))) ?_
        refine ⟨_, rfl, _, _, _, _, rfl, rfl, hta1, atI_nat (j := 0) rfl, rfl, _, rfl, itn (p := V.str "tail" = V.str "at") (by decide +kernel) q1⟩
    | num n =>
      obtain ⟨ta, xs, rfl, hta, hall⟩ := im_tup hdv
      obtain ⟨v0, vr, rfl, i0, hall⟩ := all_cons hall
      obtain rfl := im_str i0
      refine ⟨_, rfl, _, _, _, _, rfl, rfl, hta, atI_nat (j := 0) rfl, by show 2 ≤ sizeLine; decide, fun p hp => ?_⟩
      have s1 := same_upd (o := .tup [.str "head", .str "tail"]) hp
      refine ⟨_, _, rfl, .inr (.inl (.inl upd_same)), rfl, rfl, false, congrArg V.bl (by decide +kernel), iteF ?_⟩
      exact ⟨_, rfl, _, _, _, _, rfl, rfl, Same.tup s1 hta, atI_nat (j := 0) rfl, rfl, _, rfl, itn (p := V.str "num" = V.str "at") (by decide +kernel) (q _ s1)⟩
    | sum x n =>
      obtain ⟨ta, xs, rfl, hta, hall⟩ := im_tup hdv
      obtain ⟨v0, vr, rfl, i0, hall⟩ := all_cons hall
      obtain rfl := im_str i0
      refine ⟨_, rfl, _, _, _, _, rfl, rfl, hta, atI_nat (j := 0) rfl, by show 2 ≤ sizeLine; decide, fun p hp => ?_⟩
      have s1 := same_upd (o := .tup [.str "head", .str "tail"]) hp
      refine ⟨_, _, rfl, .inr (.inl (.inl upd_same)), rfl, rfl, false, congrArg V.bl (by decide +kernel), iteF ?_⟩
      exact ⟨_, rfl, _, _, _, _, rfl, rfl, Same.tup s1 hta, atI_nat (j := 0) rfl, rfl, _, rfl, itn (p := V.str "sum" = V.str "at") (by decide +kernel) (q _ s1)⟩
    | len l =>
      obtain ⟨ta, xs, rfl, hta, hall⟩ := im_tup hdv
      obtain ⟨v0, vr, rfl, i0, hall⟩ := all_cons hall
      obtain rfl := im_str i0
      refine ⟨_, rfl, _, _, _, _, rfl, rfl, hta, atI_nat (j := 0) rfl, by show 2 ≤ sizeLine; decide, fun p hp => ?_⟩
      have s1 := same_upd (o := .tup [.str "head", .str "tail"]) hp
      refine ⟨_, _, rfl, .inr (.inl (.inl upd_same)), rfl, rfl, false, congrArg V.bl (by decide +kernel), iteF ?_⟩
      exact ⟨_, rfl, _, _, _, _, rfl, rfl, Same.tup s1 hta, atI_nat (j := 0) rfl, rfl, _, rfl, itn (p := V.str "len" = V.str "at") (by decide +kernel) (q _ s1)⟩
    | nil =>
      obtain ⟨ta, xs, rfl, hta, hall⟩ := im_tup hdv
      obtain ⟨v0, vr, rfl, i0, hall⟩ := all_cons hall
      obtain rfl := im_str i0
      refine ⟨_, rfl, _, _, _, _, rfl, rfl, hta, atI_nat (j := 0) rfl, by show 2 ≤ sizeLine; decide, fun p hp => ?_⟩
      have s1 := same_upd (o := .tup [.str "head", .str "tail"]) hp
      refine ⟨_, _, rfl, .inr (.inl (.inl upd_same)), rfl, rfl, false, congrArg V.bl (by decide +kernel), iteF ?_⟩
      exact ⟨_, rfl, _, _, _, _, rfl, rfl, Same.tup s1 hta, atI_nat (j := 0) rfl, rfl, _, rfl, itn (p := V.str "nil" = V.str "at") (by decide +kernel) (q _ s1)⟩
    | put x l =>
      obtain ⟨ta, xs, rfl, hta, hall⟩ := im_tup hdv
      obtain ⟨v0, vr, rfl, i0, hall⟩ := all_cons hall
      obtain rfl := im_str i0
      refine ⟨_, rfl, _, _, _, _, rfl, rfl, hta, atI_nat (j := 0) rfl, by show 2 ≤ sizeLine; decide, fun p hp => ?_⟩
      have s1 := same_upd (o := .tup [.str "head", .str "tail"]) hp
      refine ⟨_, _, rfl, .inr (.inl (.inl upd_same)), rfl, rfl, false, congrArg V.bl (by decide +kernel), iteF ?_⟩
      exact ⟨_, rfl, _, _, _, _, rfl, rfl, Same.tup s1 hta, atI_nat (j := 0) rfl, rfl, _, rfl, itn (p := V.str "put" = V.str "at") (by decide +kernel) (q _ s1)⟩
    | at_ l x =>
      obtain ⟨ta, xs, rfl, hta, hall⟩ := im_tup hdv
      obtain ⟨v0, v1, v2, rfl, i0, i1, i2⟩ := im3 hall
      obtain rfl := im_str i0
      obtain rfl := im_str i1
      obtain rfl := im_str i2
      refine ⟨_, rfl, _, _, _, _, rfl, rfl, hta, atI_nat (j := 0) rfl, by show 2 ≤ sizeLine; decide, fun p hp => ?_⟩
      have s1 := same_upd (o := .tup [.str "head", .str "tail"]) hp
      have hta1 := Same.tup s1 hta
      have hd1 := s1 _ _ hd
      have hE1 := hE.i (sameI_of s1)
      refine ⟨_, _, rfl, .inr (.inl (.inl upd_same)), rfl, rfl, false, congrArg V.bl (by decide +kernel), iteF ?_⟩
      obtain ⟨la, e1, e2⟩ := hE1.lst hok.1
      have q1 := q _ s1
      change Q (match (if 0 ≤ (egetD e x).i ∧ (egetD e x).i < ((egetD e l).xs.length : Nat) then none else some ("beyond" : Str)) with | some x => .str x | none => .non) _ at q1
      refine ⟨_, rfl, _, _, _, _, rfl, rfl, hta1, atI_nat (j := 0) rfl, rfl, _, rfl, itd (p := V.str "at" = V.str "at") rfl ?_⟩
      refine ⟨_, rfl, _, rfl, _, _, _, _, rfl, rfl, hta1, atI_nat (j := 2) rfl, d, _, rfl, dget_at hd1 (hE1.num hok.2.1), _, _, rfl, rfl, _, rfl, ?_⟩
      by_cases h0 : 0 ≤ (egetD e x).i
      · rw [decide_eq_true h0]
        refine iteT ⟨_, rfl, _, rfl, _, _, _, _, rfl, rfl, hta1, atI_nat (j := 1) rfl, d, _, rfl, dget_at hd1 e1, _, _, rfl, .inr ⟨_, e2, (List.length_map _).symm⟩, _, _, rfl, rfl, _, rfl, ?_⟩
        by_cases h1 : (egetD e x).i < ((egetD e l).xs.length : Nat)
        · rw [if_pos ⟨h0, h1⟩] at q1
          rw [decide_eq_true h1]
          exact iteF q1
        · rw [if_neg (fun z => h1 z.2)] at q1
          rw [decide_eq_false h1]
          exact iteT q1
      · rw [if_neg (fun z => h0 z.1)] at q1
        rw [decide_eq_false h0]
        exact iteF ⟨_, rfl, iteT q1⟩
end
end Cs
namespace Cs
open PySem PySem.Spec L2
section
variable {P : Program} {w : World} {K : PySem.W.Frag} {mg : Str → Option Value} {base : Heap} {A : Adr}
theorem cs_hit {d : TS} {c : MC} {cs : List MC} {vs : List V} {D : Ends} {σ : L2.St} {H : Hp} (hl : vs.length = c.names.length) (h : c.t D (bindAll c.names vs σ) H) : tCases d (c :: cs) (.str c.word :: vs) D σ H := .inl ⟨_, rfl, hl, h⟩
theorem cs_miss {d : TS} {wd : Str} {is : List (Option Nat)} {t : TS} {cs : List MC} {vs : List V} {x : Str} {D : Ends} {σ : L2.St} {H : Hp} (hl : x ≠ wd) (h : tCases d cs (.str x :: vs) D σ H) : tCases d (⟨wd, is, t⟩ :: cs) (.str x :: vs) D σ H := .inr ⟨.inr ⟨_, _, rfl, hl⟩, h⟩
def spWorth (K : PySem.W.Frag) : Sp := fun vs H Q _ => ∃ (e : Ev) (hs : Hd) (k : Kd) (dd : Dd) (dv : V) (d : Addr) (kvs : List (Key × V)), vs = [dv, .ref d] ∧ Im K H dv dd.d ∧ H d = some (.dK kvs) ∧ EnvK K H kvs e ∧ dd.ok hs (nsOf e) k ∧ (∀ g xs, dd ≠ .call g xs) ∧ dd ≠ .ask ∧ dd.bad e = none ∧
  (∀ l, (egetD e l).xs.length ≤ 900000) ∧ ∀ H1 v, Same H H1 → Im K H1 v (dd.val e).d → Q v H1
theorem headD_get {l : List Int} (h : l ≠ []) : (l.map V.int)[0]? = some (.int (l.headD 0)) := by
  cases l with
  | nil => exact absurd rfl h
  | cons a r => rfl
theorem ok_worth_of (T : Tx K w mg A) : FnOk P w K mg base CX0 1 A.f_worth_of A.fd_worth_of P_worth_of (spWorth K) := by
  refine T.F_worth_of.ok sc_worth_of (fun vs H Q E h => ?_) (fun cdv AA outer s H vs Q E hr h => ?_)
  · obtain ⟨e, hs, k, dd, dv, d, kvs, rfl, _⟩ := h
    rfl
  · obtain ⟨e, hs, k, dd, dv, d, kvs, rfl, hdv, hd, hE, hok, nc, na, hb, hsm, q⟩ := h
    refine ⟨_, (pss_one (ps_match rfl sc_worth_of.nd (pv 0) (.cons (.name (i := 2) rfl (.inl rfl) (.inl rfl) .nil) (pss_one (ps_ret (pv 2)))
  (.cons (.name (i := 3) rfl (.inl rfl) (.inl rfl) (.name (i := 2) rfl (.inl rfl) (.inl rfl) .nil)) (pss_one (ps_ret (pe_op op_add (pe_dget (hu_of hr) (pv 1) (pv 3) (fun _ _ => rfl)) (pv 2))))
  (.cons (.name (i := 3) rfl (.inl rfl) (.inl rfl) .nil) (pss_one (ps_ret (pe_callB call_len (by rfl) T.n_len (by decide +kernel) (pa_cons (pe_dget (hu_of hr) (pv 1) (pv 3) (fun _ _ => rfl)) pa_nil))))
  (.cons .nil (pss_one (ps_ret (pe_tup pa_nil)))
  (.cons (.name (i := 3) rfl (.inl rfl) (.inl rfl) (.name (i := 4) rfl (.inl rfl) (.inl rfl) .nil)) (pss_one (ps_ret (pe_tup (pa_cons (pe_dget (hu_of hr) (pv 1) (pv 3) (fun _ _ => rfl)) (StX.pa_star (pe_dget (hu_of hr) (pv 1) (pv 4) (fun _ _ => rfl)) pa_nil)))))
  (.cons (.name (i := 3) rfl (.inl rfl) (.inl rfl) .nil) (pss_one (ps_ret (pe_ix ix_tup (pe_dget (hu_of hr) (pv 1) (pv 3) (fun _ _ => rfl)) pe_int (fun _ _ => rfl))))
  (.cons (.name (i := 3) rfl (.inl rfl) (.inl rfl) .nil) (pss_one (ps_ret (pe_slice sl_tup (pe_dget (hu_of hr) (pv 1) (pv 3) (fun _ _ => rfl)) (po_some pe_int) po_none)))
  (.cons (.name (i := 3) rfl (.inl rfl) (.inl rfl) (.name (i := 5) rfl (.inl rfl) (.inl rfl) .nil)) (pss_one (ps_ret (pe_ix ix_tup (pe_dget (hu_of hr) (pv 1) (pv 3) (fun _ _ => rfl)) (pe_dget (hu_of hr) (pv 1) (pv 5) (fun _ _ => rfl)) (fun _ _ => rfl))))
  .nil)))))))))), ?_⟩
    cases dd with
    | call g xs => exact absurd rfl (nc g xs)
    | ask => exact absurd rfl na
    | num n =>
      obtain ⟨ta, xs, rfl, hta, hall⟩ := im_tup hdv
      obtain ⟨v0, v1, rfl, i0, i1⟩ := im2 hall
      obtain rfl := im_str i0
      obtain rfl := im_int i1
      exact ⟨_, rfl, ta, _, rfl, hta, cs_hit rfl ⟨_, rfl, q _ _ (Same.refl _) (.int n)⟩⟩
    | sum x n =>
      obtain ⟨ta, xs, rfl, hta, hall⟩ := im_tup hdv
      obtain ⟨v0, v1, v2, rfl, i0, i1, i2⟩ := im3 hall
      obtain rfl := im_str i0
      obtain rfl := im_str i1
      obtain rfl := im_int i2
      refine ⟨_, rfl, ta, _, rfl, hta, cs_miss (by decide +kernel) (cs_hit rfl ?_)⟩
      exact ⟨_, rfl, _, rfl, d, _, rfl, dget_at hd (hE.num hok.1), _, rfl, _, _, rfl, rfl, q _ _ (Same.refl _) (.int _)⟩
    | len l =>
      obtain ⟨ta, xs, rfl, hta, hall⟩ := im_tup hdv
      obtain ⟨v0, v1, rfl, i0, i1⟩ := im2 hall
      obtain rfl := im_str i0
      obtain rfl := im_str i1
      obtain ⟨la, e1, e2⟩ := hE.lst hok.1
      refine ⟨_, rfl, ta, _, rfl, hta, cs_miss (by decide +kernel) (cs_miss (by decide +kernel) (cs_hit rfl ?_))⟩
      exact ⟨_, rfl, _, rfl, d, _, rfl, dget_at hd e1, _, _, rfl, .inr ⟨_, e2, (List.length_map _).symm⟩, q _ _ (Same.refl _) (.int _)⟩
    | nil =>
      obtain ⟨ta, xs, rfl, hta, hall⟩ := im_tup hdv
      obtain ⟨v0, r, rfl, i0, hall⟩ := all_cons hall
      obtain rfl := all0 hall
      obtain rfl := im_str i0
      refine ⟨_, rfl, ta, _, rfl, hta, cs_miss (by decide +kernel) (cs_miss (by decide +kernel) (cs_miss (by decide +kernel) (cs_hit rfl ?_)))⟩
      exact ⟨Nat.zero_le _, fun p hp => q _ _ (same_upd hp) (.tup (.inl (.inl upd_same)) .nil)⟩
    | put x l =>
      obtain ⟨ta, xs, rfl, hta, hall⟩ := im_tup hdv
      obtain ⟨v0, v1, v2, rfl, i0, i1, i2⟩ := im3 hall
      obtain rfl := im_str i0
      obtain rfl := im_str i1
      obtain rfl := im_str i2
      obtain ⟨la, e1, e2⟩ := hE.lst hok.2.1
      refine ⟨_, rfl, ta, _, rfl, hta, cs_miss (by decide +kernel) (cs_miss (by decide +kernel) (cs_miss (by decide +kernel) (cs_miss (by decide +kernel) (cs_hit rfl ?_))))⟩
      have hl := hsm l
      refine ⟨_, rfl, _, rfl, d, _, rfl, dget_at hd (hE.num hok.1), _, rfl, _, rfl, d, _, rfl, dget_at hd e1, la, _, rfl, .inl e2, small (by simp; omega), fun p hp => q _ _ (same_upd hp) ?_⟩
      refine .tup (.inl (.inl upd_same)) ?_
      rw [List.append_nil]
      exact ints_all ((egetD e x).i :: (egetD e l).xs)
    | head l =>
      obtain ⟨ta, xs, rfl, hta, hall⟩ := im_tup hdv
      obtain ⟨v0, v1, rfl, i0, i1⟩ := im2 hall
      obtain rfl := im_str i0
      obtain rfl := im_str i1
      obtain ⟨la, e1, e2⟩ := hE.lst hok.1
      have hne : (egetD e l).xs ≠ [] := fun z => by
        change (if (egetD e l).xs = [] then some ("empty" : Str) else none) = none at hb
        rw [if_pos z] at hb
        cases hb
      refine ⟨_, rfl, ta, _, rfl, hta, cs_miss (by decide +kernel) (cs_miss (by decide +kernel) (cs_miss (by decide +kernel) (cs_miss (by decide +kernel) (cs_miss (by decide +kernel) (cs_hit rfl ?_)))))⟩
      exact ⟨_, rfl, _, rfl, d, _, rfl, dget_at hd e1, _, _, _, _, rfl, rfl, e2, atI_nat (j := 0) (headD_get hne), q _ _ (Same.refl _) (.int _)⟩
    | tail l =>
      obtain ⟨ta, xs, rfl, hta, hall⟩ := im_tup hdv
      obtain ⟨v0, v1, rfl, i0, i1⟩ := im2 hall
      obtain rfl := im_str i0
      obtain rfl := im_str i1
      obtain ⟨la, e1, e2⟩ := hE.lst hok.1
      refine ⟨_, rfl, ta, _, rfl, hta, cs_miss (by decide +kernel) (cs_miss (by decide +kernel) (cs_miss (by decide +kernel) (cs_miss (by decide +kernel) (cs_miss (by decide +kernel) (cs_miss (by decide +kernel) (cs_hit rfl ?_))))))⟩
      cases hz : (egetD e l).xs with
      | nil =>
        change (if (egetD e l).xs = [] then some ("empty" : Str) else none) = none at hb
        rw [if_pos hz] at hb
        cases hb
      | cons a r =>
        rw [hz] at e2
        refine ⟨_, rfl, _, rfl, d, _, rfl, dget_at hd e1, 1, rfl, la, _, rfl, e2, cut1_not _ _, fun p hp => q _ _ (same_upd hp) ?_⟩
        refine .tup (.inl (.inl upd_same)) ?_
        rw [hz]
        show ImAll _ _ (cutV (.int a :: r.map V.int) (some 1) none) (r.map .int)
        rw [cut1]
        exact ints_all r
    | at_ l x =>
      obtain ⟨ta, xs, rfl, hta, hall⟩ := im_tup hdv
      obtain ⟨v0, v1, v2, rfl, i0, i1, i2⟩ := im3 hall
      obtain rfl := im_str i0
      obtain rfl := im_str i1
      obtain rfl := im_str i2
      obtain ⟨la, e1, e2⟩ := hE.lst hok.1
      change (if 0 ≤ (egetD e x).i ∧ (egetD e x).i < ((egetD e l).xs.length : Nat) then none else some ("beyond" : Str)) = none at hb
      by_cases h : 0 ≤ (egetD e x).i ∧ (egetD e x).i < ((egetD e l).xs.length : Nat)
      · obtain ⟨j, hj⟩ := Int.eq_ofNat_of_zero_le h.1
        refine ⟨_, rfl, ta, _, rfl, hta, cs_miss (by decide +kernel) (cs_miss (by decide +kernel) (cs_miss (by decide +kernel) (cs_miss (by decide +kernel) (cs_miss (by decide +kernel) (cs_miss (by decide +kernel) (cs_miss (by decide +kernel) (cs_hit rfl ?_)))))))⟩
        have hlt : j < (egetD e l).xs.length := by have := h.2; omega
        refine ⟨_, rfl, _, rfl, d, _, rfl, dget_at hd e1, _, rfl, _, rfl, d, _, rfl, dget_at hd (hE.num hok.2.1), _, _, _, _, rfl, rfl, e2, by rw [hj]; exact atI_nat (j := j) (by rw [List.getElem?_map, List.getElem?_eq_getElem hlt]; rfl), q _ _ (Same.refl _) ?_⟩
        show Im _ _ _ (.int ((egetD e l).xs.getD (egetD e x).i.toNat 0))
        rw [hj, Int.toNat_natCast, List.getD_eq_getElem?_getD, List.getElem?_eq_getElem hlt]
        exact .int _
      · rw [if_neg h] at hb
        cases hb
end
end Cs
namespace Cs
open PySem PySem.Spec L2
/-! ## objects of runs -/
theorem look_eq {g : Str} {x : V} {r : List (Str × V)} : List.lookup g ((g, x) :: r) = some x := by simp [List.lookup]
theorem look_ne {g k : Str} {x : V} {r : List (Str × V)} (h : g ≠ k) : List.lookup g ((k, x) :: r) = List.lookup g r := by
  have e : (g == k) = false := beq_eq_false_iff_ne.mpr h
  simp [List.lookup, e]
theorem look_no {m : Str} : ∀ {fs : List (Str × V)}, m ∉ fs.map (·.1) → List.lookup m fs = none
  | [], _ => rfl
  | (k, x) :: r, h => by
    rw [List.map_cons, List.mem_cons, not_or] at h
    rw [look_ne h.1]
    exact look_no h.2
theorem fput_eq {f : Str} {v x : V} {r : List (Str × V)} : putF f v ((f, x) :: r) = (f, v) :: r := by
  show (if f = f then (f, v) :: r else _) = _
  rw [if_pos rfl]
theorem fput_ne {f k : Str} {v x : V} {r : List (Str × V)} (h : k ≠ f) : putF f v ((k, x) :: r) = (k, x) :: putF f v r := by
  show (if k = f then (k, v) :: r else _) = _
  rw [if_neg h]
theorem fput_new {f : Str} {v : V} : ∀ {fs : List (Str × V)} {ks : List Str}, fs.map (·.1) = ks → f ∉ ks → putF f v fs = fs ++ [(f, v)]
  | [], _, _, _ => rfl
  | (k, x) :: r, _, rfl, h => by
    rw [List.map_cons, List.mem_cons, not_or] at h
    rw [fput_ne (Ne.symm h.1), fput_new rfl h.2]
    rfl
theorem sql_ins {K : PySem.W.Frag} {H : Hp} {p a C dx : Addr} {fs : List (Str × V)} {o : HO} {xs : List V} (hp : H p = some (.ins C dx fs)) (h : SqL K H a xs) : SqL K (upd H p o) a xs := by
  rcases h with (h | ⟨q, h⟩) | h
  · exact .inl (.inl (by rw [upd_ne (ne_of h hp (by intro z; cases z))]; exact h))
  · exact .inl (.inr ⟨q, by rw [upd_ne (ne_of h hp (by intro z; cases z))]; exact h⟩)
  · exact .inr h
def callF (row fn place : Nat) (d : Addr) : List (Str × V) := [("row", .int (row : Nat)), ("function", .int (fn : Nat)), ("place", .int (place : Nat)), ("worths", .ref d)]
section
variable {r f p q : Nat} {d : Addr}
theorem callF_row : (callF r f p d).lookup ("row" : Str) = some (.int (r : Nat)) := look_eq
theorem callF_fn : (callF r f p d).lookup ("function" : Str) = some (.int (f : Nat)) := (look_ne (by decide +kernel)).trans look_eq
theorem callF_place : (callF r f p d).lookup ("place" : Str) = some (.int (p : Nat)) := (look_ne (by decide +kernel)).trans ((look_ne (by decide +kernel)).trans look_eq)
theorem callF_worths : (callF r f p d).lookup ("worths" : Str) = some (.ref d) := (look_ne (by decide +kernel)).trans ((look_ne (by decide +kernel)).trans ((look_ne (by decide +kernel)).trans look_eq))
theorem callF_put : putF "place" (.int (q : Nat)) (callF r f p d) = callF r f q d := by
  unfold callF
  rw [fput_ne (by decide +kernel), fput_ne (by decide +kernel), fput_eq]
theorem callF_made : putF "worths" (.ref d) (putF "place" (.int 0) (putF "function" (.int (f : Nat)) (putF "row" (.int (r : Nat)) []))) = callF r f 0 d := by
  rw [fput_new (f := "row") (ks := []) rfl (by decide +kernel), fput_new (f := "function") (ks := ["row"]) rfl (by decide +kernel), fput_new (f := "place") (ks := ["row", "function"]) rfl (by decide +kernel), fput_new (f := "worths") (ks := ["row", "function", "place"]) rfl (by decide +kernel)]
  rfl
end
def runF (n t a : Addr) (k most : Nat) (b td o : Addr) : List (Str × V) := [("names", .ref n), ("trees", .ref t), ("answers", .ref a), ("asked", .int (k : Nat)), ("most", .int (most : Nat)), ("begun", .ref b), ("told", .ref td), ("open_calls", .ref o)]
section
variable {n t a b td o : Addr} {k j most : Nat}
theorem runF_names : (runF n t a k most b td o).lookup ("names" : Str) = some (.ref n) := look_eq
theorem runF_trees : (runF n t a k most b td o).lookup ("trees" : Str) = some (.ref t) := (look_ne (by decide +kernel)).trans look_eq
theorem runF_answers : (runF n t a k most b td o).lookup ("answers" : Str) = some (.ref a) := (look_ne (by decide +kernel)).trans ((look_ne (by decide +kernel)).trans look_eq)
theorem runF_asked : (runF n t a k most b td o).lookup ("asked" : Str) = some (.int (k : Nat)) := (look_ne (by decide +kernel)).trans ((look_ne (by decide +kernel)).trans ((look_ne (by decide +kernel)).trans look_eq))
theorem runF_most : (runF n t a k most b td o).lookup ("most" : Str) = some (.int (most : Nat)) := (look_ne (by decide +kernel)).trans ((look_ne (by decide +kernel)).trans ((look_ne (by decide +kernel)).trans ((look_ne (by decide +kernel)).trans look_eq)))
theorem runF_begun : (runF n t a k most b td o).lookup ("begun" : Str) = some (.ref b) := (look_ne (by decide +kernel)).trans ((look_ne (by decide +kernel)).trans ((look_ne (by decide +kernel)).trans ((look_ne (by decide +kernel)).trans ((look_ne (by decide +kernel)).trans look_eq))))
theorem runF_told : (runF n t a k most b td o).lookup ("told" : Str) = some (.ref td) := (look_ne (by decide +kernel)).trans ((look_ne (by decide +kernel)).trans ((look_ne (by decide +kernel)).trans ((look_ne (by decide +kernel)).trans ((look_ne (by decide +kernel)).trans ((look_ne (by decide +kernel)).trans look_eq)))))
theorem runF_open : (runF n t a k most b td o).lookup ("open_calls" : Str) = some (.ref o) := (look_ne (by decide +kernel)).trans ((look_ne (by decide +kernel)).trans ((look_ne (by decide +kernel)).trans ((look_ne (by decide +kernel)).trans ((look_ne (by decide +kernel)).trans ((look_ne (by decide +kernel)).trans ((look_ne (by decide +kernel)).trans look_eq))))))
theorem runF_put : putF "asked" (.int (j : Nat)) (runF n t a k most b td o) = runF n t a j most b td o := by
  unfold runF
  rw [fput_ne (by decide +kernel), fput_ne (by decide +kernel), fput_ne (by decide +kernel), fput_eq]
theorem runF_no {m : Str} (h : m ∉ (["names", "trees", "answers", "asked", "most", "begun", "told", "open_calls"] : List Str)) : (runF n t a k most b td o).lookup m = none := look_no h
theorem runF_made : putF "open_calls" (.ref o) (putF "told" (.ref td) (putF "begun" (.ref b) (putF "most" (.int (most : Nat)) (putF "asked" (.int 0) (putF "answers" (.ref a) (putF "trees" (.ref t) (putF "names" (.ref n) []))))))) = runF n t a 0 most b td o := by
  rw [fput_new (f := "names") (ks := []) rfl (by decide +kernel), fput_new (f := "trees") (ks := ["names"]) rfl (by decide +kernel), fput_new (f := "answers") (ks := ["names", "trees"]) rfl (by decide +kernel),
    fput_new (f := "asked") (ks := ["names", "trees", "answers"]) rfl (by decide +kernel), fput_new (f := "most") (ks := ["names", "trees", "answers", "asked"]) rfl (by decide +kernel),
    fput_new (f := "begun") (ks := ["names", "trees", "answers", "asked", "most"]) rfl (by decide +kernel), fput_new (f := "told") (ks := ["names", "trees", "answers", "asked", "most", "begun"]) rfl (by decide +kernel),
    fput_new (f := "open_calls") (ks := ["names", "trees", "answers", "asked", "most", "begun", "told"]) rfl (by decide +kernel)]
  rfl
end
section
variable {P : Program} {w : World} {K : PySem.W.Frag} {mg : Str → Option Value} {base : Heap} {A : Adr}
/-- all but some stays -/
def But (L : List Addr) (H H1 : Hp) : Prop := ∀ b o, b ∉ L → H b = some o → H1 b = some o
def spCallInit (A : Adr) : Sp := fun vs H Q _ => ∃ (p dx d : Addr) (row fn : Nat), vs = [.ref p, .int (row : Nat), .int (fn : Nat), .ref d] ∧ H p = some (.ins A.C_Call dx []) ∧ ∀ H1, H1 p = some (.ins A.C_Call dx (callF row fn 0 d)) → But [p] H H1 → Q .non H1
theorem ok_Call_init (T : Tx K w mg A) : FnOk P w K mg base CX0 1 A.f_Call_init A.fd_Call_init P_Call_init (spCallInit A) := by
  refine T.F_Call_init.ok sc_Call_init (fun vs H Q E h => ?_) (fun cdv AA outer s H vs Q E hr h => ?_)
  · obtain ⟨p, dx, d, row, fn, rfl, _⟩ := h
    rfl
  · obtain ⟨p, dx, d, row, fn, rfl, hp, q⟩ := h
    refine ⟨_, (pss_cons (ps_fld (pv 0) (pv 1) rfl)
  (pss_cons (ps_fld (pv 0) (pv 2) rfl)
  (pss_cons (ps_fld (pv 0) pe_int rfl)
  (pss_one (ps_fld (pv 0) (pv 3) rfl))))), ?_⟩
    refine ⟨_, rfl, _, rfl, p, _, dx, _, rfl, hp, T.cl_Call, T.a_Call_row, by show 0 < 1000; decide, ?_⟩
    refine ⟨_, rfl, _, rfl, p, _, dx, _, rfl, upd_same, T.cl_Call, T.a_Call_function, by show 1 < 1000; decide, ?_⟩
    refine ⟨_, rfl, p, _, dx, _, rfl, upd_same, T.cl_Call, T.a_Call_place, ?_, ?_⟩
    · rw [fput_new (f := "row") (ks := []) rfl (by decide +kernel), fput_new (f := "function") (ks := ["row"]) rfl (by decide +kernel)]
      show 2 < 1000
      decide
    refine ⟨_, rfl, _, rfl, p, _, dx, _, rfl, upd_same, T.cl_Call, T.a_Call_worths, ?_, ?_⟩
    · rw [fput_new (f := "row") (ks := []) rfl (by decide +kernel), fput_new (f := "function") (ks := ["row"]) rfl (by decide +kernel), fput_new (f := "place") (ks := ["row", "function"]) rfl (by decide +kernel)]
      show 3 < 1000
      decide
    refine q _ ?_ fun b o hb e => ?_
    · rw [upd_same, callF_made]
    · have hb := fun z => hb (List.mem_singleton.mpr z)
      rw [upd_ne hb, upd_ne hb, upd_ne hb, upd_ne hb]
      exact e
def spBind (A : Adr) : Sp := fun vs H Q _ => ∃ (p c d dxc : Addr) (row fn place : Nat) (x : Str) (v : V) (kvs : List (Key × V)), vs = [.ref p, .ref c, .str x, v] ∧ H c = some (.ins A.C_Call dxc (callF row fn place d)) ∧ H d = some (.dK kvs) ∧ kvs.length ≤ 1000 ∧
  ∀ H1, H1 c = some (.ins A.C_Call dxc (callF row fn (place + 1) d)) → H1 d = some (.dK (putK kvs (.inr x) v)) → But [c, d] H H1 → Q .non H1
theorem ok_Run_bind (T : Tx K w mg A) : FnOk P w K mg base CX0 1 A.f_Run_bind A.fd_Run_bind P_Run_bind (spBind A) := by
  refine T.F_Run_bind.ok sc_Run_bind (fun vs H Q E h => ?_) (fun cdv AA outer s H vs Q E hr h => ?_)
  · obtain ⟨p, c, d, dxc, row, fn, place, x, v, kvs, rfl, _⟩ := h
    rfl
  · obtain ⟨p, c, d, dxc, row, fn, place, x, v, kvs, rfl, hc, hd, hl, q⟩ := h
    refine ⟨_, (pss_cons (ps_dput (hu_of hr) (pe_fld (pv 1) rfl) (pv 2) (pv 3) rfl)
  (pss_one (ps_fldaug (pv 1) pe_int in_add))), ?_⟩
    have ncd : c ≠ d := ne_of hc hd (by intro z; cases z)
    refine ⟨_, rfl, _, rfl, c, _, dxc, _, _, rfl, hc, T.cl_Call, T.a_Call_worths, callF_worths, _, rfl, d, _, rfl, DPut.k (k := .inr x) hd (smaller (by omega)), ?_⟩
    have hc1 : (upd H d (.dK (putK kvs (.inr x) v))) c = some (.ins A.C_Call dxc (callF row fn place d)) := by rw [upd_ne ncd]; exact hc
    refine ⟨_, rfl, c, _, dxc, _, _, rfl, hc1, T.cl_Call, T.a_Call_place, callF_place, _, _, rfl, rfl, dxc, _, hc1, by show 4 < 1000; decide, ?_⟩
    refine q _ ?_ ?_ fun b o hb e => ?_
    · rw [upd_same, show ((place : Nat) : Int) + 1 = ((place + 1 : Nat) : Int) from rfl, callF_put]
    · rw [upd_ne (Ne.symm ncd), upd_same]
    · simp only [List.mem_cons, List.not_mem_nil, or_false, not_or] at hb
      rw [upd_ne hb.1, upd_ne hb.2]
      exact e
def spNext (K : PySem.W.Frag) (A : Adr) : Sp := fun vs H Q _ => ∃ (p dx n t a b td o : Addr) (k most : Nat) (ans : List Int), vs = [.ref p] ∧ H p = some (.ins A.C_Run dx (runF n t a k most b td o)) ∧ SqL K H a (ans.map V.int) ∧ k ≤ ans.length ∧
  ∀ H1, H1 p = some (.ins A.C_Run dx (runF n t a (if k = ans.length then k else k + 1) most b td o)) → But [p] H H1 → Q (.int (ans.getD k 0)) H1
theorem ok_Run_next_answer (T : Tx K w mg A) : FnOk P w K mg base CX0 1 A.f_Run_next_answer A.fd_Run_next_answer P_Run_next_answer (spNext K A) := by
  refine T.F_Run_next_answer.ok sc_Run_next_answer (fun vs H Q E h => ?_) (fun cdv AA outer s H vs Q E hr h => ?_)
  · obtain ⟨p, dx, n, t, a, b, td, o, k, most, ans, rfl, _⟩ := h
    rfl
  · obtain ⟨p, dx, n, t, a, b, td, o, k, most, ans, rfl, hp, ha, hk, q⟩ := h
    refine ⟨_, (pss_cons (ps_if (pt_cmpR op_eq (pe_fld (pv 0) rfl) (pe_callB call_len (by rfl) T.n_len (by decide +kernel) (pa_cons (pe_fld (pv 0) rfl) pa_nil)) (nomark _))
  (pss_one (ps_ret pe_int))
  pss_nil)
  (pss_cons (ps_fldaug (pv 0) pe_int in_add)
  (pss_one (ps_ret (pe_ix ix_list (pe_fld (pv 0) rfl) (pe_op op_sub (pe_fld (pv 0) rfl) pe_int) (fun _ _ => rfl)))))), ?_⟩
    refine ⟨_, rfl, p, _, dx, _, _, rfl, hp, T.cl_Run, T.a_Run_asked, runF_asked, _, rfl, p, _, dx, _, _, rfl, hp, T.cl_Run, T.a_Run_answers, runF_answers, _, _, rfl, .inl ⟨_, ha, (List.length_map _).symm⟩, rfl, _, rfl, ?_⟩
    by_cases e : k = ans.length
    · rw [if_pos e] at q
      rw [e] at q ⊢
      rw [List.getD_eq_getElem?_getD, List.getElem?_eq_none (Nat.le_refl _)] at q
      exact itd (p := V.int (ans.length : Nat) = V.int (ans.length : Nat)) rfl (q H (by rw [e] at hp; exact hp) fun _ _ _ z => z)
    · rw [if_neg e] at q
      refine itn (p := V.int (k : Nat) = V.int (ans.length : Nat)) (fun z => e (Int.ofNat.inj (V.int.inj z))) ?_
      refine ⟨_, rfl, p, _, dx, _, _, rfl, hp, T.cl_Run, T.a_Run_asked, runF_asked, _, _, rfl, rfl, dx, _, hp, by show 8 < 1000; decide, ?_⟩
      rw [show ((k : Nat) : Int) + 1 = ((k + 1 : Nat) : Int) from rfl, runF_put]
      have hp1 : (upd H p (.ins A.C_Run dx (runF n t a (k + 1) most b td o))) p = some (.ins A.C_Run dx (runF n t a (k + 1) most b td o)) := upd_same
      have ha1 : SqL K (upd H p (.ins A.C_Run dx (runF n t a (k + 1) most b td o))) a (ans.map V.int) := sql_ins hp ha
      have hlt : k < ans.length := Nat.lt_of_le_of_ne hk e
      refine ⟨_, rfl, p, _, dx, _, _, rfl, hp1, T.cl_Run, T.a_Run_answers, runF_answers, _, rfl, p, _, dx, _, _, rfl, hp1, T.cl_Run, T.a_Run_asked, runF_asked, _, _, rfl, rfl, _, _, _, _, rfl, rfl, ha1, ?_, q _ hp1 fun b o hb z => ?_⟩
      · rw [show ((k + 1 : Nat) : Int) - 1 = (k : Nat) by omega, List.getD_eq_getElem?_getD, List.getElem?_eq_getElem hlt]
        exact atI_nat (j := k) (by rw [List.getElem?_map, List.getElem?_eq_getElem hlt]; rfl)
      · rw [upd_ne (fun y => hb (List.mem_singleton.mpr y))]
        exact z
end
end Cs
namespace Cs
open PySem PySem.Spec L2
/-! ## where a run stands -/
structure RA where
  p : Addr
  dx : Addr
  n : Addr
  t : Addr
  a : Addr
  b : Addr
  td : Addr
  o : Addr
abbrev fadr (as : List (Addr × Addr)) : List Addr := as.flatMap fun a => [a.1, a.2]
abbrev ladr (R : RA) (as : List (Addr × Addr)) : List Addr := R.p :: R.b :: R.td :: R.o :: fadr as
def FrAt (K : PySem.W.Frag) (CC : Addr) (H : Hp) (a : Addr × Addr) (c : Fr) : Prop := (∃ dx, H a.1 = some (.ins CC dx (callF c.row c.fn c.place a.2))) ∧ ∃ kvs, H a.2 = some (.dK kvs) ∧ EnvK K H kvs c.ev
def BgAt (K : PySem.W.Frag) (H : Hp) (v : V) (q : Nat × List Wt) : Prop := ∃ a h vs, v = .ref a ∧ SqT K H a [.int (q.1 : Nat), .ref h] ∧ SqT K H h vs ∧ ImAll K H vs (q.2.map Wt.d)
def TdAt (K : PySem.W.Frag) (H : Hp) (kv : Key × V) (q : Nat × Wt) : Prop := kv.1 = .inl (q.1 : Nat) ∧ Im K H kv.2 q.2.d
/-- what never changes of a run -/
structure StatAt (K : PySem.W.Frag) (B : Hp) (R : RA) (fs : List Fn) (ans : List Int) : Prop where
  names : ∃ nvs, SqL K B R.n nvs ∧ Paired (fun v (f : Fn) => ∃ q, v = .ref q ∧ SqL K B q (f.ps.map fun p => .str p.1)) nvs fs
  trees : ∃ tvs, SqL K B R.t tvs ∧ Paired (fun v (f : Fn) => ∃ q tl od xs, v = .ref q ∧ SqT K B q [.ref tl, .ref od] ∧ SqL K B tl xs ∧ ImAll K B xs (f.tr.pre.map Tr.d) ∧ B od = some (.dK (othK (oths f.tr 0)))) tvs fs
  ans : SqL K B R.a (ans.map V.int)
structure RunAt (K : PySem.W.Frag) (A : Adr) (H : Hp) (R : RA) (as : List (Addr × Addr)) (most : Nat) (m : Mc) : Prop where
  obj : H R.p = some (.ins A.C_Run R.dx (runF R.n R.t R.a m.asked most R.b R.td R.o))
  beg : ∃ bs, H R.b = some (.lst bs) ∧ Paired (BgAt K H) bs m.begun
  tld : ∃ kvs, H R.td = some (.dK kvs) ∧ Paired (TdAt K H) kvs m.told
  opn : H R.o = some (.lst (as.map fun a => V.ref a.1).reverse)
  frs : Paired (FrAt K A.C_Call H) as m.stk
  nd : (ladr R as).Nodup
structure RunIn (K : PySem.W.Frag) (A : Adr) (B H : Hp) (R : RA) (as : List (Addr × Addr)) (fs : List Fn) (ans : List Int) (most : Nat) (m : Mc) : Prop where
  st : StatAt K B R fs ans
  same : Same B H
  dyn : RunAt K A H R as most m
  new : ∀ x ∈ ladr R as, B x = none
theorem but_i {L : List Addr} {H H1 : Hp} (h : But L H H1) (n : ∀ x ∈ L, ∀ o, H x = some o → ¬ Imm o) : SameI H H1 := fun b o i e => h b o (fun z => n b z o e i) e
theorem but_same {L : List Addr} {B H H1 : Hp} (s : Same B H) (h : But L H H1) (n : ∀ x ∈ L, B x = none) : Same B H1 := fun b o e => h b o (fun z => by rw [n b z] at e; cases e) (s b o e)
theorem frs_but {K : PySem.W.Frag} {CC : Addr} {L : List Addr} {H H1 : Hp} (h : But L H H1) (i : SameI H H1) : ∀ {as : List (Addr × Addr)} {st : List Fr}, (∀ x ∈ fadr as, x ∉ L) → Paired (FrAt K CC H) as st → Paired (FrAt K CC H1) as st
  | _, _, _, .nil => .nil
  | a :: as, c :: st, n, .cons ⟨⟨dx, h1⟩, kvs, h2, h3⟩ t => by
    have n1 : a.1 ∉ L := n _ (by simp [fadr])
    have n2 : a.2 ∉ L := n _ (by simp [fadr])
    exact .cons ⟨⟨dx, h _ _ n1 h1⟩, kvs, h _ _ n2 h2, h3.i i⟩ (frs_but h i (fun x hx => n x (by simp [fadr] at hx ⊢; right; right; exact hx)) t)
theorem BgAt.i {K : PySem.W.Frag} {H H1 : Hp} (s : SameI H H1) {v : V} {q : Nat × List Wt} : BgAt K H v q → BgAt K H1 v q
  | ⟨a, h, vs, e, h1, h2, h3⟩ => ⟨a, h, vs, e, s.tup h1, s.tup h2, h3.same s⟩
theorem TdAt.i {K : PySem.W.Frag} {H H1 : Hp} (s : SameI H H1) {v : Key × V} {q : Nat × Wt} : TdAt K H v q → TdAt K H1 v q
  | ⟨h1, h2⟩ => ⟨h1, h2.same s⟩
section
variable {K : PySem.W.Frag} {A : Adr} {B H H1 : Hp} {R : RA} {as : List (Addr × Addr)} {fs : List Fn} {ans : List Int} {most : Nat} {m : Mc}
theorem RunAt.up (h : RunAt K A H R as most m) (s : Same H H1) : RunAt K A H1 R as most m := by
  obtain ⟨h1, ⟨bs, h2, h3⟩, ⟨kvs, h4, h5⟩, h6, h7, h8⟩ := h
  have i := sameI_of s
  exact ⟨s _ _ h1, ⟨bs, s _ _ h2, Paired.mapP h3 fun _ _ z => z.i i⟩, ⟨kvs, s _ _ h4, Paired.mapP h5 fun _ _ z => z.i i⟩, s _ _ h6, frs_but (L := []) (fun b o _ e => s b o e) i (fun _ _ z => nomatch z) h7, h8⟩
theorem RunIn.up (h : RunIn K A B H R as fs ans most m) (s : Same H H1) : RunIn K A B H1 R as fs ans most m := ⟨h.st, h.same.trans s, h.dyn.up s, h.new⟩
/-- nothing of a run is a tuple -/
theorem RunAt.mut (h : RunAt K A H R as most m) : ∀ x ∈ ladr R as, ∀ o, H x = some o → ¬ Imm o := by
  obtain ⟨h1, ⟨bs, h2, h3⟩, ⟨kvs, h4, h5⟩, h6, h7, h8⟩ := h
  have fr : ∀ {as : List (Addr × Addr)} {st : List Fr}, Paired (FrAt K A.C_Call H) as st → ∀ x ∈ fadr as, ∀ o, H x = some o → ¬ Imm o := by
    intro as st hp
    induction hp with
    | nil => intro x hx; cases hx
    | cons h t ih =>
      obtain ⟨⟨dx, e1⟩, kvs, e2, _⟩ := h
      intro x hx o e
      simp only [fadr, List.flatMap_cons, List.mem_append, List.mem_cons, List.not_mem_nil, or_false] at hx
      rcases hx with (hx | hx) | hx
      · rw [hx, e1] at e; cases e; exact id
      · rw [hx, e2] at e; cases e; exact id
      · exact ih x hx o e
  intro x hx o e
  simp only [ladr, List.mem_cons] at hx
  rcases hx with hx | hx | hx | hx | hx
  · rw [hx, h1] at e; cases e; exact id
  · rw [hx, h2] at e; cases e; exact id
  · rw [hx, h4] at e; cases e; exact id
  · rw [hx, h6] at e; cases e; exact id
  · exact fr h7 x hx o e
theorem RunAt.there (h : RunAt K A H R as most m) : ∀ x ∈ ladr R as, ∃ o, H x = some o := by
  obtain ⟨h1, ⟨bs, h2, h3⟩, ⟨kvs, h4, h5⟩, h6, h7, h8⟩ := h
  have fr : ∀ {as : List (Addr × Addr)} {st : List Fr}, Paired (FrAt K A.C_Call H) as st → ∀ x ∈ fadr as, ∃ o, H x = some o := by
    intro as st hp
    induction hp with
    | nil => intro x hx; cases hx
    | cons h t ih =>
      obtain ⟨⟨dx, e1⟩, kvs, e2, _⟩ := h
      intro x hx
      simp only [fadr, List.flatMap_cons, List.mem_append, List.mem_cons, List.not_mem_nil, or_false] at hx
      rcases hx with (hx | hx) | hx
      · exact ⟨_, by rw [hx]; exact e1⟩
      · exact ⟨_, by rw [hx]; exact e2⟩
      · exact ih x hx
  intro x hx
  simp only [ladr, List.mem_cons] at hx
  rcases hx with hx | hx | hx | hx | hx
  · exact ⟨_, by rw [hx]; exact h1⟩
  · exact ⟨_, by rw [hx]; exact h2⟩
  · exact ⟨_, by rw [hx]; exact h4⟩
  · exact ⟨_, by rw [hx]; exact h6⟩
  · exact fr h7 x hx
theorem RunAt.fresh (h : RunAt K A H R as most m) {x : Addr} (n : H x = none) : x ∉ ladr R as := fun z => by
  obtain ⟨o, e⟩ := h.there x z
  rw [e] at n
  cases n
end
end Cs
namespace Cs
open PySem PySem.Spec L2
section
variable {P : Program} {w : World} {K : PySem.W.Frag} {mg : Str → Option Value} {base : Heap} {A : Adr}
theorem SqL.up {H H1 : Hp} (s : Same H H1) {a : Addr} {xs : List V} (h : SqL K H a xs) : SqL K H1 a xs := s.seq h
theorem zip_keys {H : Hp} : ∀ {ns : List Str} {vs : List V} {ws : List Wt}, ns.length = vs.length → ImAll K H vs (ws.map Wt.d) → ∃ kvs : List (Key × V), kvs.map (fun p => kV p.1) = ns.map V.str ∧ kvs.map (·.2) = vs ∧ kvs.map (·.1) = ns.map Sum.inr ∧ EnvK K H kvs (ns.zip ws)
  | [], [], [], _, _ => ⟨[], rfl, rfl, rfl, .nil⟩
  | [], [], _ :: _, _, h => by cases h
  | n :: ns, v :: vs, [], _, h => by cases h
  | n :: ns, v :: vs, w :: ws, e, h => by
    cases h with
    | cons h1 h2 =>
      obtain ⟨kvs, e1, e2, e3, e4⟩ := zip_keys (ns := ns) (Nat.succ.inj e) h2
      exact ⟨(.inr n, v) :: kvs, by rw [List.map_cons, e1]; rfl, by rw [List.map_cons, e2], by rw [List.map_cons, e3]; rfl, .cons ⟨rfl, h1⟩ e4⟩
def spBegin (K : PySem.W.Frag) (A : Adr) : Sp := fun vs H Q _ => ∃ (B : Hp) (R : RA) (as : List (Addr × Addr)) (fs : List Fn) (ans : List Int) (most : Nat) (m : Mc) (f : Nat) (fn : Fn) (h : Addr) (hvs : List V) (ws : List Wt),
  vs = [.ref R.p, .int (f : Nat), .ref h] ∧ RunIn K A B H R as fs ans most m ∧ SqT K H h hvs ∧ ImAll K H hvs (ws.map Wt.d) ∧ fs[f]? = some fn ∧ ws.length = fn.ps.length ∧ (fn.ps.map (·.1)).Nodup ∧ m.begun.length ≤ 1000 ∧ as.length ≤ 1000 ∧
  ∀ H1 c d, RunIn K A B H1 R ((c, d) :: as) fs ans most (m.begin fs f ws) → SameI H H1 → Q .non H1
theorem ok_Run_begin (T : Tx K w mg A) : FnOk P w K mg base CX0 3 A.f_Run_begin A.fd_Run_begin P_Run_begin (spBegin K A) := by
  have G_Call_init := ok_Call_init (P := P) (base := base) T
  refine T.F_Run_begin.ok sc_Run_begin (fun vs H Q E h => ?_) (fun cdv AA outer s H vs Q E hr h => ?_)
  · obtain ⟨B, R, as, fs, ans, most, m, f, fn, h, hvs, ws, rfl, _⟩ := h
    rfl
  · obtain ⟨B, R, as, fs, ans, most, m, f, fn, h, hvs, ws, rfl, hI, hh, hws, hfn, hl, hnd, hb1, ha1, q⟩ := h
    refine ⟨_, (pss_cons (ps_set (i := 3) sc_Run_begin.nd rfl (.inl rfl) (pe_dictZip rfl (by rfl) T.n_dict (by rfl) T.n_zip (pa_cons (pe_ix ix_list (pe_fld (pv 0) rfl) (pv 1) (fun _ _ => rfl)) (pa_cons (pv 2) pa_nil))))
  (pss_cons (ps_expr (pe_bm PySem.F.plainAttrs_list PySem.F.slot_list_append PySem.F.type_list_append mt_append (pe_fld (pv 0) rfl) (pa_cons (pe_make T.M_Call G_Call_init (hr.mono (by decide)) (by rfl) T.g_Call T.b_Call_init .nil pass0 (pa_cons (pe_callB call_len (by rfl) T.n_len (by decide +kernel) (pa_cons (pe_fld (pv 0) rfl) pa_nil)) (pa_cons (pv 1) (pa_cons (pv 3) pa_nil)))) pa_nil)))
  (pss_one (ps_expr (pe_bm PySem.F.plainAttrs_list PySem.F.slot_list_append PySem.F.type_list_append mt_append (pe_fld (pv 0) rfl) (pa_cons (pe_tup (pa_cons (pv 1) (pa_cons (pv 2) pa_nil))) pa_nil)))))), ?_⟩
    obtain ⟨nvs, n1, n2⟩ := hI.st.names
    obtain ⟨nv, n3, nq, rfl, n4⟩ := paired_get' n2 hfn
    have hlh : (fn.ps.map (·.1)).length = hvs.length := by rw [hws.length, List.length_map, List.length_map, hl]
    obtain ⟨kvs, k1, k2, k3, k4⟩ := zip_keys hlh hws
    have k1' : SqL K H nq (kvs.map fun p => kV p.1) := by
      rw [k1, List.map_map]
      exact hI.same.seq n4
    have hmk : mergeK [] kvs = kvs := mergeK_nodup kvs [] (by
      show (kvs.map (·.1)).Nodup
      rw [k3]
      exact List.pairwise_map.mpr (hnd.imp fun n z => n (Sum.inr.inj z)))
    have hD := hI.dyn
    refine ⟨_, rfl, R.p, _, R.dx, _, _, rfl, hD.obj, T.cl_Run, T.a_Run_names, runF_names, _, rfl, _, _, _, _, rfl, rfl, hI.same.seq n1, atI_nat n3, _, rfl, nq, h, kvs, rfl, k1', by rw [k2]; exact hh, fun d hd => ?_⟩
    rw [hmk]
    have s1 := same_upd (o := .dK kvs) hd
    have D1 := hD.up s1
    have ed1 : (upd H d (.dK kvs)) d = some (.dK kvs) := upd_same
    have hd' := hd
    generalize hH1 : upd H d (.dK kvs) = H1 at *
    obtain ⟨bs, b1, b2⟩ := D1.beg
    have hbl : bs.length = m.begun.length := Paired.length b2
    refine ⟨_, rfl, R.p, _, R.dx, _, _, rfl, D1.obj, T.cl_Run, T.a_Run_open_calls, runF_open, .inl ⟨rfl, _, SqL.of D1.opn⟩, ?_⟩
    refine ⟨_, rfl, R.p, _, R.dx, _, _, rfl, D1.obj, T.cl_Run, T.a_Run_begun, runF_begun, _, _, rfl, .inl ⟨_, SqL.of b1, rfl⟩, _, rfl, _, rfl, ?_⟩
    intro c dc hc hdc ndc
    refine ⟨c, dc, d, bs.length, f, rfl, upd_same, fun H2 ec2 bu => ⟨rfl, ?_⟩⟩
    have s2 : Same H1 H2 := fun b o e => bu b o (fun z => by rw [List.mem_singleton.mp z] at e; rw [e] at hc; cases hc) (by
      rw [upd_ne (ne_of_none e hc), upd_ne (ne_of_none e hdc)]
      exact e)
    have D2 := D1.up s2
    have ed2 := s2 _ _ ed1
    refine ⟨R.o, _, _, rfl, rfl, D2.opn, smaller (by rw [List.length_reverse, List.length_map]; omega), ?_⟩
    obtain ⟨bs2, b3, b4⟩ := D2.beg
    have hbl2 : bs2.length = m.begun.length := Paired.length b4
    have nd := D2.nd
    simp only [ladr, List.nodup_cons, List.mem_cons, not_or] at nd
    obtain ⟨⟨npb, nptd, npo, npf⟩, ⟨nbtd, nbo, nbf⟩, ⟨ntdo, ntdf⟩, nof, nff⟩ := nd
    have x3 : But [R.o] H2 (upd H2 R.o (.lst ((as.map fun a => V.ref a.1).reverse ++ [.ref c]))) := fun b o hb e => by
      rw [upd_ne (fun z => hb (List.mem_singleton.mpr z))]
      exact e
    have eo3 : (upd H2 R.o (.lst ((as.map fun a => V.ref a.1).reverse ++ [.ref c]))) R.o = some (.lst ((as.map fun a => V.ref a.1).reverse ++ [.ref c])) := upd_same
    generalize upd H2 R.o (.lst ((as.map fun a => V.ref a.1).reverse ++ [.ref c])) = H3 at *
    have i3 : SameI H2 H3 := but_i x3 fun x hx o e => by
      rw [List.mem_singleton.mp hx, D2.opn] at e
      cases e
      exact id
    have ob3 : H3 R.p = _ := x3 _ _ (by simp [npo]) D2.obj
    have eb3 : H3 R.b = _ := x3 _ _ (by simp [nbo]) b3
    -- self.begun.append((function, handed))
    refine ⟨_, rfl, R.p, _, R.dx, _, _, rfl, ob3, T.cl_Run, T.a_Run_begun, runF_begun, .inl ⟨rfl, _, SqL.of eb3⟩, _, rfl, _, rfl, by show 2 ≤ sizeLine; decide, fun g hg => ?_⟩
    have s4 := same_upd (o := .tup [.int (f : Nat), .ref h]) hg
    have eb4 := s4 _ _ eb3
    refine ⟨R.b, _, _, rfl, rfl, eb4, smaller (by omega), ?_⟩
    have x5 : But [R.b] (upd H3 g (.tup [.int (f : Nat), .ref h])) (upd (upd H3 g (.tup [.int (f : Nat), .ref h])) R.b (.lst (bs2 ++ [.ref g]))) := fun b o hb e => by
      rw [upd_ne (fun z => hb (List.mem_singleton.mpr z))]
      exact e
    have eg4 : (upd H3 g (.tup [.int (f : Nat), .ref h])) g = some (.tup [.int (f : Nat), .ref h]) := upd_same
    have eb5 : (upd (upd H3 g (.tup [.int (f : Nat), .ref h])) R.b (.lst (bs2 ++ [.ref g]))) R.b = some (.lst (bs2 ++ [.ref g])) := upd_same
    generalize upd H3 g (.tup [.int (f : Nat), .ref h]) = H4 at *
    generalize upd H4 R.b (.lst (bs2 ++ [.ref g])) = H5 at *
    have i5 : SameI H4 H5 := but_i x5 fun x hx o e => by
      rw [List.mem_singleton.mp hx, eb4] at e
      cases e
      exact id
    have iA : SameI H H2 := (sameI_of s1).trans (sameI_of s2)
    have iB : SameI H2 H5 := i3.trans ((sameI_of s4).trans i5)
    have bt : But [R.o, R.b] H2 H5 := fun b o hb e => by
      simp only [List.mem_cons, List.not_mem_nil, or_false, not_or] at hb
      exact x5 _ _ (by simp [hb.2]) (s4 _ _ (x3 _ _ (by simp [hb.1]) e))
    have cL : c ∉ ladr R as := D1.fresh hc
    have dL : d ∉ ladr R as := hD.fresh hd'
    have ncd : c ≠ d := fun z => by rw [z, ed1] at hc; cases hc
    have nB : ∀ x ∈ [R.o, R.b], B x = none := fun x hx => by
      simp only [List.mem_cons, List.not_mem_nil, or_false] at hx
      rcases hx with z | z <;> rw [z]
      · exact hI.new _ (by simp [ladr])
      · exact hI.new _ (by simp [ladr])
    have sB : Same B H5 := but_same (hI.same.trans (s1.trans s2)) bt nB
    have cO : c ∉ [R.o, R.b] := fun z => by
      simp only [List.mem_cons, List.not_mem_nil, or_false] at z
      rcases z with z | z <;> exact cL (by simp [ladr, z])
    have dO : d ∉ [R.o, R.b] := fun z => by
      simp only [List.mem_cons, List.not_mem_nil, or_false] at z
      rcases z with z | z <;> exact dL (by simp [ladr, z])
    simp only [ladr, List.mem_cons, not_or] at cL dL
    obtain ⟨kt, t1, t2⟩ := D2.tld
    refine q H5 c d ⟨hI.st, sB, ⟨?_, ?_, ?_, ?_, ?_, ?_⟩, ?_⟩ (iA.trans iB)
    · exact bt _ _ (by simp [npo, npb]) D2.obj
    · exact ⟨_, eb5, paired_append (Paired.mapP b4 fun _ _ z => z.i iB) (.cons ⟨g, h, hvs, rfl, i5.tup (.inl (.inl eg4)), (iA.trans iB).tup hh, hws.same (iA.trans iB)⟩ .nil)⟩
    · exact ⟨kt, bt _ _ (by simp [ntdo, Ne.symm nbtd]) t1, Paired.mapP t2 fun _ _ z => z.i iB⟩
    · rw [List.map_cons, List.reverse_cons]
      exact x5 _ _ (by simp [Ne.symm nbo]) (s4 _ _ eo3)
    · refine .cons ⟨⟨dc, ?_⟩, kvs, ?_, ?_⟩ ?_
      · rw [hbl] at ec2
        exact bt _ _ cO ec2
      · exact bt _ _ dO ed2
      · show EnvK K H5 kvs ((namesAt fs f).zip ws)
        unfold namesAt
        rw [hfn]
        exact k4.i (iA.trans iB)
      · refine frs_but bt iB (fun x hx z => ?_) D2.frs
        simp only [List.mem_cons, List.not_mem_nil, or_false] at z
        rcases z with z | z
        · exact nof (z ▸ hx)
        · exact nbf (z ▸ hx)
    · simp only [ladr, fadr, List.flatMap_cons, List.cons_append, List.nil_append, List.nodup_cons, List.mem_cons, not_or]
      exact ⟨⟨npb, nptd, npo, Ne.symm cL.1, Ne.symm dL.1, npf⟩, ⟨nbtd, nbo, Ne.symm cL.2.1, Ne.symm dL.2.1, nbf⟩, ⟨ntdo, Ne.symm cL.2.2.1, Ne.symm dL.2.2.1, ntdf⟩, ⟨Ne.symm cL.2.2.2.1, Ne.symm dL.2.2.2.1, nof⟩, ⟨ncd, cL.2.2.2.2⟩, dL.2.2.2.2, nff⟩
    · intro x hx
      simp only [ladr, fadr, List.flatMap_cons, List.cons_append, List.nil_append, List.mem_cons] at hx
      rcases hx with hx | hx | hx | hx | hx | hx | hx
      · exact hI.new x (by simp [ladr, hx])
      · exact hI.new x (by simp [ladr, hx])
      · exact hI.new x (by simp [ladr, hx])
      · exact hI.new x (by simp [ladr, hx])
      · rw [hx]
        exact (hI.same.trans s1).free hc
      · rw [hx]
        exact hI.same.free hd'
      · exact hI.new x (by simp [ladr, fadr, hx])
end
end Cs
namespace Cs
open PySem PySem.Spec L2
section
variable {P : Program} {w : World} {K : PySem.W.Frag} {mg : Str → Option Value} {base : Heap} {A : Adr}
def Post (K : PySem.W.Frag) (A : Adr) (B H : Hp) (R : RA) (fs : List Fn) (ans : List Int) (most : Nat) (res : Mc × Option Ends2) (Q : VK) : Prop :=
  ∀ H1 as1 v, RunIn K A B H1 R as1 fs ans most res.1 → SameI H H1 → (match res.2 with | none => v = .non | some e => Im K H1 v e.d) → Q v H1
theorem names_get {K : PySem.W.Frag} {H : Hp} {kvs : List (Key × V)} {e : Ev} (hE : EnvK K H kvs e) : ∀ {xs : List Str} {ks : List Kd}, Paired (fun x kd => look (nsOf e) x = some kd) xs ks → ∀ (i : Nat) (x : Str), xs[i]? = some x → ∃ v, valV kvs (.inr x) = some v ∧ Im K H v (egetD e x).d
  | _, _, .nil, i, x, h => by simp at h
  | y :: xs, k :: ks, .cons h t, 0, x, e1 => by
    cases e1
    obtain ⟨e2, _⟩ := eget_of h
    exact hE.get e2
  | y :: xs, k :: ks, .cons h t, i + 1, x, e1 => names_get hE t i x e1
def spLetCall (K : PySem.W.Frag) (A : Adr) : Sp := fun vs H Q _ => ∃ (B : Hp) (R : RA) (c d : Addr) (as : List (Addr × Addr)) (fs : List Fn) (ans : List Int) (most : Nat) (m : Mc) (cl : Fr) (r : List Fr) (ta xt : Addr) (x : Str) (g : Nat) (xs : List Str) (fn : Fn),
  vs = [.ref R.p, .ref c, .ref ta] ∧ RunIn K A B H R ((c, d) :: as) fs ans most m ∧ m.stk = cl :: r ∧ SqT K H ta [.str "call", .int (g : Nat), .ref xt] ∧ SqT K H xt (xs.map V.str) ∧ fs[g]? = some fn ∧ Paired (fun x kd => look (nsOf cl.ev) x = some kd) xs (fn.ps.map (·.2)) ∧ (fn.ps.map (·.1)).Nodup ∧ xs.length ≤ 100 ∧
  m.begun.length ≤ 900 ∧ as.length ≤ 900 ∧ Post K A B H R fs ans most (stepLet fs ans most m cl r x (.call g xs)) Q
theorem ok_Run_let_call (T : Tx K w mg A) : FnOk P w K mg base CX0 4 A.f_Run_let_call A.fd_Run_let_call P_Run_let_call (spLetCall K A) := by
  have G_Run_begin := ok_Run_begin (P := P) (base := base) T
  refine T.F_Run_let_call.ok sc_Run_let_call (fun vs H Q E h => ?_) (fun cdv AA outer s H vs Q E hr h => ?_)
  · obtain ⟨B, R, c, d, as, fs, ans, most, m, cl, r, ta, xt, x, g, xs, fn, rfl, _⟩ := h
    rfl
  · obtain ⟨B, R, c, d, as, fs, ans, most, m, cl, r, ta, xt, x, g, xs, fn, rfl, hI, hst, hta, hxt, hfn, hxs, hnd, hxl, hb1, ha1, q⟩ := h
    refine ⟨_, (pss_cons (ps_if (pt_cmpR op_eq (pe_callB call_len (by rfl) T.n_len (by decide +kernel) (pa_cons (pe_fld (pv 0) rfl) pa_nil)) (pe_fld (pv 0) rfl) (nomark _))
  (pss_one (ps_ret (pe_tup (pa_cons pe_str pa_nil))))
  pss_nil)
  (pss_cons (ps_expr (pe_meth (pv 0) T.cl_Run T.m_Run_begin G_Run_begin (hr.mono (by decide)) T.b_Run_begin .nil pass0 (pa_cons (pe_ix ix_tup (pv 2) pe_int (fun _ _ => rfl)) (pa_cons (pe_callTy cr_tupF (by rfl) T.n_tuple (by decide +kernel) (pa_cons (pe_lc (own := [("name", 3)]) (g := (gName 3)) (tt := tYes) (te := (tDGet (tFld K (tVar 1) "worths") (tVar 3))) rfl sc_Run_let_call.nd (pi_tup (pe_ix ix_tup (pv 2) pe_int (fun _ _ => rfl))) (blkOk_by (N := N_Run_let_call) (sc := defScope s_Run_let_call) (by decide +kernel)) (fun _ _ _ _ _ => (pg_name (i := 3) sc_Run_let_call.nd rfl (.inl rfl))) (fun _ _ _ _ _ => pts_nil) (fun _ _ _ _ _ => (pe_dget (hu_of hr) (pe_fld (pv 1) rfl) (pv 3) (fun _ _ => rfl)))) pa_nil)) pa_nil))))
  (pss_one (ps_ret pe_non)))), ?_⟩
    have D := hI.dyn
    obtain ⟨bs, b1, b2⟩ := D.beg
    have hbl : bs.length = m.begun.length := Paired.length b2
    have hfr := D.frs
    rw [hst] at hfr
    obtain ⟨⟨⟨dc, hc⟩, kvs, hd, hE⟩, hfr'⟩ : FrAt K A.C_Call H (c, d) cl ∧ Paired (FrAt K A.C_Call H) as r := by cases hfr with | cons a b => exact ⟨a, b⟩
    have hc : H c = some (.ins A.C_Call dc (callF cl.row cl.fn cl.place d)) := hc
    have hd : H d = some (.dK kvs) := hd
    refine ⟨_, rfl, R.p, _, R.dx, _, _, rfl, D.obj, T.cl_Run, T.a_Run_begun, runF_begun, _, _, rfl, .inl ⟨_, SqL.of b1, rfl⟩, _, rfl, R.p, _, R.dx, _, _, rfl, D.obj, T.cl_Run, T.a_Run_most, runF_most, rfl, _, rfl, ?_⟩
    rw [hbl]
    by_cases e : m.begun.length = most
    · have er : stepLet fs ans most m cl r x (.call g xs) = (m, some .long) := if_pos e
      rw [er] at q
      rw [e]
      refine itd (p := V.int (most : Nat) = V.int (most : Nat)) rfl ⟨by show 1 ≤ sizeLine; decide, fun p hp => ?_⟩
      exact q _ _ _ (hI.up (same_upd hp)) (sameI_of (same_upd hp)) (.tup (.inl (.inl upd_same)) (.cons (.str _) .nil))
    · have er : stepLet fs ans most m cl r x (.call g xs) = (m.begin fs g (xs.map (egetD cl.ev)), none) := if_neg e
      rw [er] at q
      refine itn (p := V.int (m.begun.length : Nat) = V.int (most : Nat)) (fun z => e (Int.ofNat.inj (V.int.inj z))) ?_
      refine ⟨_, rfl, R.p, R.dx, _, rfl, D.obj, runF_no (by decide +kernel), _, rfl, _, _, _, _, rfl, rfl, hta, atI_nat (j := 1) rfl, ?_⟩
      refine ⟨_, rfl, _, _, _, _, rfl, rfl, hta, atI_nat (j := 2) rfl, xt, rfl, ⟨_, hxt⟩, fun Dl hDl => ?_⟩
      refine lc_data (walk_tup (K := K) (a := xt) (xs := xs.map V.str)) (fun i y H => ∃ x, xs[i]? = some x ∧ Im K H y (egetD cl.ev x).d) (fun i v H H2 si ⟨x, e1, e2⟩ => ⟨x, e1, e2.same si⟩) hDl (fun H3 s3 => Same.tup s3 hxt) (by rw [List.length_map]; omega) ?_ ?_
      · rintro i y H3 H4 k hi s3 ⟨rfl, hy⟩ hk
        rw [List.getElem?_map] at hy
        obtain ⟨z, hz, rfl⟩ := Option.map_eq_some_iff.mp hy
        obtain ⟨v, v1, v2⟩ := names_get hE hxs i z hz
        exact ⟨rfl, _, rfl, c, _, dc, _, _, rfl, s3 _ _ hc, T.cl_Call, T.a_Call_worths, callF_worths, _, rfl, d, _, rfl, dget_at (s3 _ _ hd) v1, hk _ _ (Same.refl _) ⟨z, hz, v2.same (sameI_of s3)⟩⟩
      · rintro H3 acc s3 e3 hl hE3
        rw [List.length_map] at hl
        refine ⟨Dl, acc, rfl, SqL.of e3, fun l its hl2 => ?_⟩
        have s4 := same_upd (o := .frz (tupObj its) (.tup acc)) hl2
        have sA := s3.trans s4
        have hws : ImAll K H3 acc ((xs.map (egetD cl.ev)).map Wt.d) := ImAll.of (by rw [List.length_map, List.length_map]; exact hl) fun i y dd h1 h2 => by
          obtain ⟨z, z1, z2⟩ := hE3 i y h1
          rw [List.getElem?_map, List.getElem?_map, z1] at h2
          cases h2
          exact z2
        refine ⟨B, R, (c, d) :: as, fs, ans, most, m, g, fn, l, acc, xs.map (egetD cl.ev), rfl, hI.up sA, .inl (.inr ⟨_, upd_same⟩), hws.same (sameI_of s4), hfn, ?_, hnd, by omega, by simp; omega, fun H5 c5 d5 h5 i5 => ?_⟩
        · rw [List.length_map, Paired.length hxs, List.length_map]
        · exact q H5 _ _ h5 ((sameI_of sA).trans i5) rfl
end
end Cs
namespace Cs
open PySem PySem.Spec L2
section
variable {K : PySem.W.Frag} {A : Adr} {B H H1 : Hp} {R : RA} {as : List (Addr × Addr)} {fs : List Fn} {ans : List Int} {most : Nat} {m : Mc}
structure Apart (R : RA) (as : List (Addr × Addr)) : Prop where
  pb : R.p ≠ R.b
  pt : R.p ≠ R.td
  po : R.p ≠ R.o
  pf : R.p ∉ fadr as
  bt : R.b ≠ R.td
  bo : R.b ≠ R.o
  bf : R.b ∉ fadr as
  to : R.td ≠ R.o
  tf : R.td ∉ fadr as
  of : R.o ∉ fadr as
  ff : (fadr as).Nodup
theorem RunAt.apart (h : RunAt K A H R as most m) : Apart R as := by
  have nd := h.nd
  simp only [ladr, List.nodup_cons, List.mem_cons, not_or] at nd
  obtain ⟨⟨npb, nptd, npo, npf⟩, ⟨nbtd, nbo, nbf⟩, ⟨ntdo, ntdf⟩, nof, nff⟩ := nd
  exact ⟨npb, nptd, npo, npf, nbtd, nbo, nbf, ntdo, ntdf, nof, nff⟩
theorem RunIn.asks (h : RunIn K A B H R as fs ans most m) {k : Nat} (e : H1 R.p = some (.ins A.C_Run R.dx (runF R.n R.t R.a k most R.b R.td R.o))) (b : But [R.p] H H1) : RunIn K A B H1 R as fs ans most { m with asked := k } ∧ SameI H H1 := by
  obtain ⟨st, sB, D, nw⟩ := h
  have ap := D.apart
  have i : SameI H H1 := but_i b fun x hx o e => by
    rw [List.mem_singleton.mp hx, D.obj] at e
    cases e
    exact id
  obtain ⟨h1, ⟨bs, h2, h3⟩, ⟨kvs, h4, h5⟩, h6, h7, h8⟩ := D
  refine ⟨⟨st, but_same sB b fun x hx => ?_, ⟨e, ⟨bs, b _ _ (by simp [Ne.symm ap.pb]) h2, Paired.mapP h3 fun _ _ z => z.i i⟩, ⟨kvs, b _ _ (by simp [Ne.symm ap.pt]) h4, Paired.mapP h5 fun _ _ z => z.i i⟩, b _ _ (by simp [Ne.symm ap.po]) h6, frs_but b i (fun x hx z => ?_) h7, h8⟩, nw⟩, i⟩
  · rw [List.mem_singleton.mp hx]
    exact nw _ (by simp [ladr])
  · rw [List.mem_singleton.mp z] at hx
    exact ap.pf hx
theorem RunIn.pop {c : Fr} {r : List Fr} {a : Addr × Addr} (h : RunIn K A B H R (a :: as) fs ans most m) (hst : m.stk = c :: r) (e : H1 R.o = some (.lst (as.map fun a => V.ref a.1).reverse)) (b : But [R.o] H H1) : RunIn K A B H1 R as fs ans most { m with stk := r } ∧ SameI H H1 := by
  obtain ⟨st, sB, D, nw⟩ := h
  have ap := D.apart
  have i : SameI H H1 := but_i b fun x hx o e => by
    rw [List.mem_singleton.mp hx, D.opn] at e
    cases e
    exact id
  obtain ⟨h1, ⟨bs, h2, h3⟩, ⟨kvs, h4, h5⟩, h6, h7, h8⟩ := D
  rw [hst] at h7
  cases h7 with
  | cons q1 q2 =>
    have nd : (ladr R as).Nodup := by
      have := ap.ff
      simp only [fadr, List.flatMap_cons, List.cons_append, List.nil_append, List.nodup_cons] at this
      simp only [ladr, List.nodup_cons, List.mem_cons, not_or]
      have f : ∀ {x : Addr}, x ∉ fadr (a :: as) → x ∉ fadr as := fun hx z => hx (by simp only [fadr, List.flatMap_cons, List.mem_append]; exact .inr z)
      exact ⟨⟨ap.pb, ap.pt, ap.po, f ap.pf⟩, ⟨ap.bt, ap.bo, f ap.bf⟩, ⟨ap.to, f ap.tf⟩, f ap.of, this.2.2⟩
    refine ⟨⟨st, but_same sB b fun x hx => ?_, ⟨b _ _ (by simp [ap.po]) h1, ⟨bs, b _ _ (by simp [ap.bo]) h2, Paired.mapP h3 fun _ _ z => z.i i⟩, ⟨kvs, b _ _ (by simp [ap.to]) h4, Paired.mapP h5 fun _ _ z => z.i i⟩, e, frs_but b i (fun x hx z => ?_) q2, nd⟩, fun x hx => nw x ?_⟩, i⟩
    · rw [List.mem_singleton.mp hx]
      exact nw _ (by simp [ladr])
    · rw [List.mem_singleton.mp z] at hx
      exact ap.of (by simp only [fadr, List.flatMap_cons, List.mem_append]; exact .inr hx)
    · simp only [ladr, fadr, List.flatMap_cons, List.mem_cons, List.mem_append, List.not_mem_nil, or_false] at hx ⊢
      rcases hx with z | z | z | z | z
      · exact .inl z
      · exact .inr (.inl z)
      · exact .inr (.inr (.inl z))
      · exact .inr (.inr (.inr (.inl z)))
      · exact .inr (.inr (.inr (.inr (.inr z))))
theorem tdk_none {H : Hp} {row : Nat} : ∀ {kvs : List (Key × V)} {tl : List (Nat × Wt)}, Paired (TdAt K H) kvs tl → row ∉ tl.map (·.1) → valV kvs (.inl (row : Nat)) = none
  | _, _, .nil, _ => rfl
  | (k, v) :: kvs, (i, w) :: tl, .cons h t, n => by
    obtain ⟨rfl, _⟩ := (show k = .inl (i : Nat) ∧ _ from h)
    rw [List.map_cons, List.mem_cons, not_or] at n
    rw [valV_neg (fun z => n.1 (Int.ofNat.inj (Sum.inl.inj z)).symm)]
    exact tdk_none t n.2
theorem tdk_get {H : Hp} {row : Nat} : ∀ {kvs : List (Key × V)} {tl : List (Nat × Wt)}, Paired (TdAt K H) kvs tl → match tl.lookup row with | some w => ∃ v, valV kvs (.inl (row : Nat)) = some v ∧ Im K H v w.d | none => valV kvs (.inl (row : Nat)) = none
  | _, _, .nil => rfl
  | (k, v) :: kvs, (i, w) :: tl, .cons h t => by
    obtain ⟨rfl, hv⟩ := (show k = .inl (i : Nat) ∧ Im K H v w.d from h)
    by_cases e : row = i
    · subst e
      rw [List.lookup_cons_self]
      exact ⟨v, valV_pos rfl, hv⟩
    · have eb : (row == i) = false := beq_eq_false_iff_ne.mpr e
      rw [List.lookup_cons, eb]
      have z := tdk_get (row := row) t
      rw [valV_neg (fun z => e (Int.ofNat.inj (Sum.inl.inj z)).symm)]
      exact z
theorem RunIn.tell (h : RunIn K A B H R as fs ans most m) {row : Nat} {v : V} {w : Wt} (hr : row ∉ m.told.map (·.1)) (hv : Im K H v w.d) (e : ∀ kvs, H R.td = some (.dK kvs) → H1 R.td = some (.dK (putK kvs (.inl (row : Nat)) v))) (b : But [R.td] H H1) : RunIn K A B H1 R as fs ans most { m with told := m.told ++ [(row, w)] } ∧ SameI H H1 := by
  obtain ⟨st, sB, D, nw⟩ := h
  have ap := D.apart
  obtain ⟨h1, ⟨bs, h2, h3⟩, ⟨kvs, h4, h5⟩, h6, h7, h8⟩ := D
  have i : SameI H H1 := but_i b fun x hx o e => by
    rw [List.mem_singleton.mp hx, h4] at e
    cases e
    exact id
  refine ⟨⟨st, but_same sB b fun x hx => ?_, ⟨b _ _ (by simp [ap.pt]) h1, ⟨bs, b _ _ (by simp [ap.bt]) h2, Paired.mapP h3 fun _ _ z => z.i i⟩, ⟨_, e _ h4, ?_⟩, b _ _ (by simp [Ne.symm ap.to]) h6, frs_but b i (fun x hx z => ?_) h7, h8⟩, nw⟩, i⟩
  · rw [List.mem_singleton.mp hx]
    exact nw _ (by simp [ladr])
  · rw [putK_new (tdk_none h5 hr)]
    exact paired_append (Paired.mapP h5 fun _ _ z => z.i i) (.cons ⟨rfl, hv.same i⟩ .nil)
  · rw [List.mem_singleton.mp z] at hx
    exact ap.tf hx
theorem RunIn.moves {cl c2 : Fr} {r : List Fr} {c d : Addr} {kv2 : List (Key × V)} (h : RunIn K A B H R ((c, d) :: as) fs ans most m) (hst : m.stk = cl :: r) (hr : c2.row = cl.row) (hf : c2.fn = cl.fn)
    (e1 : ∀ dc, H c = some (.ins A.C_Call dc (callF cl.row cl.fn cl.place d)) → H1 c = some (.ins A.C_Call dc (callF cl.row cl.fn c2.place d))) (e2 : H1 d = some (.dK kv2)) (e3 : SameI H H1 → EnvK K H1 kv2 c2.ev) (b : But [c, d] H H1) : RunIn K A B H1 R ((c, d) :: as) fs ans most { m with stk := c2 :: r } ∧ SameI H H1 := by
  obtain ⟨st, sB, D, nw⟩ := h
  have ap := D.apart
  have i : SameI H H1 := but_i b fun x hx o e => D.mut x (by
    simp only [List.mem_cons, List.not_mem_nil, or_false] at hx
    simp only [ladr, fadr, List.flatMap_cons, List.mem_cons, List.mem_append, List.not_mem_nil, or_false]
    exact .inr (.inr (.inr (.inr (.inl hx))))) o e
  obtain ⟨h1, ⟨bs, h2, h3⟩, ⟨kvs, h4, h5⟩, h6, h7, h8⟩ := D
  rw [hst] at h7
  have out : ∀ {x : Addr}, x ∉ fadr ((c, d) :: as) → x ∉ [c, d] := fun hx z => hx (by simp only [fadr, List.flatMap_cons, List.mem_append]; exact .inl z)
  cases h7 with
  | cons q1 q2 =>
    obtain ⟨⟨dc, q3⟩, _⟩ := q1
    refine ⟨⟨st, but_same sB b fun x hx => ?_, ⟨b _ _ (out ap.pf) h1, ⟨bs, b _ _ (out ap.bf) h2, Paired.mapP h3 fun _ _ z => z.i i⟩, ⟨kvs, b _ _ (out ap.tf) h4, Paired.mapP h5 fun _ _ z => z.i i⟩, b _ _ (out ap.of) h6, .cons ⟨⟨dc, ?_⟩, kv2, e2, e3 i⟩ (frs_but b i (fun x hx z => ?_) q2), h8⟩, nw⟩, i⟩
    · refine nw x ?_
      simp only [List.mem_cons, List.not_mem_nil, or_false] at hx
      simp only [ladr, fadr, List.flatMap_cons, List.mem_cons, List.mem_append, List.not_mem_nil, or_false]
      exact .inr (.inr (.inr (.inr (.inl hx))))
    · rw [hr, hf]
      exact e1 dc q3
    · have := ap.ff
      simp only [fadr, List.flatMap_cons, List.cons_append, List.nil_append, List.nodup_cons, List.mem_cons, not_or] at this
      simp only [List.mem_cons, List.not_mem_nil, or_false] at z
      rcases z with z | z
      · rw [z] at hx
        exact this.1.2 hx
      · rw [z] at hx
        exact this.2.1 hx
end
end Cs
namespace Cs
open PySem PySem.Spec L2
section
variable {P : Program} {w : World} {K : PySem.W.Frag} {mg : Str → Option Value} {base : Heap} {A : Adr}
/-- the trees of a function as they stand -/
theorem StatAt.tree {B H : Hp} {R : RA} {fs : List Fn} {ans : List Int} (h : StatAt K B R fs ans) (s : Same B H) {c : Fr} {f : Fn} {t : Tr} (e : FrOk fs c f t) : ∃ tvs q tl od xs tv, SqL K H R.t tvs ∧ tvs[c.fn]? = some (.ref q) ∧ SqT K H q [.ref tl, .ref od] ∧ SqL K H tl xs ∧ xs[c.place]? = some tv ∧ Im K H tv t.d ∧ H od = some (.dK (othK (oths f.tr 0))) := by
  obtain ⟨tvs, h1, h2⟩ := h.trees
  obtain ⟨v, h3, q, tl, od, xs, rfl, h4, h5, h6, h7⟩ := paired_get' h2 e.fn
  have e2 : (f.tr.pre.map Tr.d)[c.place]? = some t.d := by rw [List.getElem?_map, e.at_]; rfl
  have hl : c.place < xs.length := by
    rw [h6.length]
    exact (List.getElem?_eq_some_iff.mp e2).1
  obtain ⟨d, e3, e4⟩ := h6.get (List.getElem?_eq_getElem hl)
  rw [e2] at e3
  cases e3
  exact ⟨tvs, q, tl, od, xs, _, s.seq h1, h3, Same.tup s h4, s.seq h5, List.getElem?_eq_getElem hl, e4.same (sameI_of s), s _ _ h7⟩
def spTell (K : PySem.W.Frag) (A : Adr) : Sp := fun vs H Q _ => ∃ (B : Hp) (R : RA) (c d : Addr) (as : List (Addr × Addr)) (fs : List Fn) (ans : List Int) (most : Nat) (m : Mc) (cl : Fr) (r : List Fr) (v : V) (wt : Wt),
  vs = [.ref R.p, v] ∧ RunIn K A B H R ((c, d) :: as) fs ans most m ∧ m.stk = cl :: r ∧ Im K H v wt.d ∧ cl.row ∉ m.told.map (·.1) ∧ m.told.length ≤ 1000 ∧
  (∀ c2 r2, r = c2 :: r2 → ∃ f y dd t, FrOk fs c2 f (.let_ y dd t) ∧ eget c2.ev y = none ∧ c2.ev.length ≤ 900) ∧ Post K A B H R fs ans most (stepTell fs m cl wt r) Q
theorem ok_Run_tell (T : Tx K w mg A) : FnOk P w K mg base CX0 2 A.f_Run_tell A.fd_Run_tell P_Run_tell (spTell K A) := by
  have G_Run_bind := ok_Run_bind (P := P) (base := base) T
  refine T.F_Run_tell.ok sc_Run_tell (fun vs H Q E h => ?_) (fun cdv AA outer s H vs Q E hr h => ?_)
  · obtain ⟨B, R, c, d, as, fs, ans, most, m, cl, r, v, wt, rfl, _⟩ := h
    rfl
  · obtain ⟨B, R, c, d, as, fs, ans, most, m, cl, r, v, wt, rfl, hI, hst, hv, hrow, htl, hnx, q⟩ := h
    refine ⟨_, (pss_cons (ps_set (i := 2) sc_Run_tell.nd rfl (.inl rfl) (pe_bm0 PySem.F.plainAttrs_list PySem.F.slot_list_pop PySem.F.type_list_pop mt_pop (pe_fld (pv 0) rfl)))
  (pss_cons (ps_dput (hu_of hr) (pe_fld (pv 0) rfl) (pe_fld (pv 2) rfl) (pv 1) rfl)
  (pss_cons (ps_if (pt_not (pt_truth (pe_fld (pv 0) rfl) (by intro _; rfl)))
  (pss_one (ps_ret (pe_tup (pa_cons pe_str (pa_cons (pv 1) pa_nil)))))
  pss_nil)
  (pss_cons (ps_set (i := 3) sc_Run_tell.nd rfl (.inl rfl) (pe_ix ix_list (pe_fld (pv 0) rfl) (pe_un un_neg pe_int) (fun _ _ => rfl)))
  (pss_cons (ps_asg (pe_ix ix_list (pe_fld (pv 0) rfl) (pe_fld (pv 3) rfl) (fun _ _ => rfl)) (pg_tup (by rfl) (pgs_cons (pg_name (i := 4) sc_Run_tell.nd rfl (.inl rfl)) (pgs_cons (pg_name (i := 5) sc_Run_tell.nd rfl (.inl rfl)) pgs_nil))))
  (pss_cons (ps_expr (pe_meth (pv 0) T.cl_Run T.m_Run_bind G_Run_bind (hr.mono (by decide)) T.b_Run_bind .nil pass0 (pa_cons (pv 3) (pa_cons (pe_ix ix_tup (pe_ix ix_list (pv 4) (pe_fld (pv 3) rfl) (fun _ _ => rfl)) pe_int (fun _ _ => rfl)) (pa_cons (pv 1) pa_nil)))))
  (pss_one (ps_ret pe_non)))))))), ?_⟩
    have D := hI.dyn
    have ap := D.apart
    have hfr := D.frs
    rw [hst] at hfr
    obtain ⟨⟨⟨dc, hc⟩, _⟩, _⟩ : FrAt K A.C_Call H (c, d) cl ∧ Paired (FrAt K A.C_Call H) as r := by cases hfr with | cons a b => exact ⟨a, b⟩
    have hc : H c = some (.ins A.C_Call dc (callF cl.row cl.fn cl.place d)) := hc
    have hop : H R.o = some (.lst ((as.map fun a => V.ref a.1).reverse ++ [.ref c])) := by
      have := D.opn
      rw [List.map_cons, List.reverse_cons] at this
      exact this
    -- ended = self.open_calls.pop()
    refine ⟨_, rfl, R.p, _, R.dx, _, _, rfl, D.obj, T.cl_Run, T.a_Run_open_calls, runF_open, .inl ⟨rfl, _, SqL.of hop⟩, R.o, _, .ref c, rfl, rfl, hop, by simp, ?_⟩
    rw [List.dropLast_concat]
    have b1 : But [R.o] H (upd H R.o (.lst (as.map fun a => V.ref a.1).reverse)) := fun b o hb e => by
      rw [upd_ne (fun z => hb (List.mem_singleton.mpr z))]
      exact e
    have e1 : (upd H R.o (.lst (as.map fun a => V.ref a.1).reverse)) R.o = some (.lst (as.map fun a => V.ref a.1).reverse) := upd_same
    generalize upd H R.o (.lst (as.map fun a => V.ref a.1).reverse) = H1 at *
    obtain ⟨I1, i1⟩ := hI.pop hst e1 b1
    have cO : c ∉ [R.o] := fun z => by
      rw [List.mem_singleton] at z
      exact ap.of (by rw [← z]; simp [fadr])
    have hc1 := b1 _ _ cO hc
    have D1 := I1.dyn
    obtain ⟨kvs, t1, t2⟩ := D1.tld
    have hkl : kvs.length = m.told.length := Paired.length t2
    -- self.told[ended.row] = worth
    refine ⟨_, rfl, _, rfl, R.p, _, R.dx, _, _, rfl, D1.obj, T.cl_Run, T.a_Run_told, runF_told, _, rfl, c, _, dc, _, _, rfl, hc1, T.cl_Call, T.a_Call_row, callF_row, R.td, _, rfl, DPut.k (k := .inl (cl.row : Nat)) t1 (smaller (by omega)), ?_⟩
    have b2 : But [R.td] H1 (upd H1 R.td (.dK (putK kvs (.inl (cl.row : Nat)) v))) := fun b o hb e => by
      rw [upd_ne (fun z => hb (List.mem_singleton.mpr z))]
      exact e
    have e2 : (upd H1 R.td (.dK (putK kvs (.inl (cl.row : Nat)) v))) R.td = some (.dK (putK kvs (.inl (cl.row : Nat)) v)) := upd_same
    generalize upd H1 R.td (.dK (putK kvs (.inl (cl.row : Nat)) v)) = H2 at *
    obtain ⟨I2, i2⟩ := I1.tell (row := cl.row) (w := wt) hrow (hv.same i1) (fun kv2 z => by rw [t1] at z; cases z; exact e2) b2
    have D2 := I2.dyn
    have hv2 : Im K H2 v wt.d := hv.same (i1.trans i2)
    have i12 := i1.trans i2
    refine ⟨_, rfl, R.p, _, R.dx, _, _, rfl, D2.obj, T.cl_Run, T.a_Run_open_calls, runF_open, _, .inl ⟨_, SqL.of D2.opn, rfl⟩, ?_⟩
    cases r with
    | nil =>
      have e0 : as = [] := by
        have := D1.frs
        cases this
        rfl
      subst e0
      refine iteT ⟨_, rfl, by show 2 ≤ sizeLine; decide, fun p hp => ?_⟩
      have s3 := same_upd (o := .tup [.str "told", v]) hp
      exact q _ _ _ (I2.up s3) (i12.trans (sameI_of s3)) (.tup (.inl (.inl upd_same)) (.cons (.str _) (.cons (hv2.same (sameI_of s3)) .nil)))
    | cons c2 r2 =>
      have hf2 := D2.frs
      obtain ⟨⟨c2a, d2⟩, as2, rfl⟩ : ∃ a as2, as = a :: as2 := by cases hf2 with | cons => exact ⟨_, _, rfl⟩
      obtain ⟨f, y, dd, t, hok, hy, hlv⟩ := hnx c2 r2 rfl
      obtain ⟨⟨⟨dc2, hc2⟩, kv2, hd2, hE2⟩, _⟩ : FrAt K A.C_Call H2 (c2a, d2) c2 ∧ Paired (FrAt K A.C_Call H2) as2 r2 := by cases hf2 with | cons a b => exact ⟨a, b⟩
      have hc2 : H2 c2a = some (.ins A.C_Call dc2 (callF c2.row c2.fn c2.place d2)) := hc2
      have hd2 : H2 d2 = some (.dK kv2) := hd2
      have hop2 : H2 R.o = some (.lst ((as2.map fun a => V.ref a.1).reverse ++ [.ref c2a])) := by
        have := D2.opn
        rw [List.map_cons, List.reverse_cons] at this
        exact this
      have hne : (!(!(((c2a, d2) :: as2).map fun a => V.ref a.1).reverse.isEmpty)) = false := by simp
      rw [hne]
      refine iteF ?_
      obtain ⟨tvs, q1, tl, od, xs, tv, k1, k2, k3, k4, k5, k6, k7⟩ := I2.st.tree I2.same hok
      refine ⟨_, rfl, R.p, _, R.dx, _, _, rfl, D2.obj, T.cl_Run, T.a_Run_open_calls, runF_open, _, rfl, _, _, _, _, rfl, rfl, SqL.of hop2, atI_last _ _, ?_⟩
      refine ⟨_, rfl, R.p, _, R.dx, _, _, rfl, D2.obj, T.cl_Run, T.a_Run_trees, runF_trees, _, rfl, c2a, _, dc2, _, _, rfl, hc2, T.cl_Call, T.a_Call_function, callF_fn, _, _, _, _, rfl, rfl, k1, atI_nat k2, q1, _, rfl, k3, rfl, _, _, rfl, _, _, rfl, rfl, ?_⟩
      obtain ⟨ta, us, rfl, hta, hall⟩ := im_tup k6
      obtain ⟨v0, us, rfl, j0, hall⟩ := all_cons hall
      obtain ⟨v1, us, rfl, j1, hall⟩ := all_cons hall
      obtain rfl := im_str j1
      have hkv : kv2.length ≤ 1000 := by rw [Paired.length hE2]; omega
      refine ⟨_, rfl, R.p, R.dx, _, rfl, D2.obj, runF_no (by decide +kernel), _, rfl, _, rfl, _, rfl, c2a, _, dc2, _, _, rfl, hc2, T.cl_Call, T.a_Call_place, callF_place, _, _, _, _, rfl, rfl, k4, atI_nat k5, _, _, _, _, rfl, rfl, hta, atI_nat (j := 1) rfl, _, rfl, ?_⟩
      refine ⟨R.p, c2a, d2, dc2, c2.row, c2.fn, c2.place, y, v, kv2, rfl, hc2, hd2, hkv, fun H3 z1 z2 b3 => ?_⟩
      have er : stepTell fs m cl wt (c2 :: r2) = ({ m with told := m.told ++ [(cl.row, wt)], stk := c2.bnd y wt :: r2 }, none) := by
        show (match treeAt fs c2 with | some (.let_ y _ _) => _ | _ => _) = _
        rw [hok.tree]
      rw [er] at q
      obtain ⟨I3, i3⟩ := I2.moves (c2 := c2.bnd y wt) (cl := c2) (r := r2) (kv2 := putK kv2 (.inr y) v) rfl rfl rfl (fun dc3 z => by rw [hc2] at z; cases z; exact z1) z2 (fun i => (hE2.i i).put hy (hv2.same i)) b3
      exact q H3 _ _ I3 (i12.trans i3) rfl
end
end Cs
namespace Cs
open PySem PySem.Spec L2
section
variable {P : Program} {w : World} {K : PySem.W.Frag} {mg : Str → Option Value} {base : Heap} {A : Adr}
theorem all_strs {H : Hp} : ∀ {vs : List V} {xs : List Str}, ImAll K H vs (xs.map .str) → vs = xs.map V.str
  | _, [], h => by cases h; rfl
  | _, x :: xs, h => by
    cases h with
    | cons h1 h2 => rw [im_str h1, all_strs h2]; rfl
def Dd.word : Dd → Str
  | .num _ => "num"
  | .sum _ _ => "sum"
  | .len _ => "len"
  | .nil => "nil"
  | .put _ _ => "put"
  | .head _ => "head"
  | .tail _ => "tail"
  | .at_ _ _ => "at"
  | .ask => "ask"
  | .call _ _ => "call"
theorem Dd.d_word (d : Dd) : ∃ r, d.d = .tuple (.str d.word :: r) := by cases d <;> exact ⟨_, rfl⟩
theorem Dd.not_call {d : Dd} (h : ∀ g xs, d ≠ .call g xs) : d.word ≠ "call" := by
  cases d <;> first | exact absurd rfl (h _ _) | (simp only [Dd.word]; decide +kernel)
theorem Dd.not_ask {d : Dd} (h : d ≠ .ask) : d.word ≠ "ask" := by
  cases d <;> first | exact absurd rfl h | (simp only [Dd.word]; decide +kernel)
theorem pg_fn {fs : List Fn} (ok : okPg fs) {g : Nat} {fn : Fn} (h : fs[g]? = some fn) : fn.ok (fs.map Fn.hd) := ok.2.2 fn (List.mem_of_getElem? h)
def spLetR (K : PySem.W.Frag) (A : Adr) : Sp := fun vs H Q _ => ∃ (B : Hp) (R : RA) (c d : Addr) (as : List (Addr × Addr)) (fs : List Fn) (ans : List Int) (most : Nat) (m : Mc) (cl : Fr) (r : List Fr) (x : Str) (dd : Dd) (dv : V) (k : Kd),
  vs = [.ref R.p, .ref c, .str x, dv] ∧ RunIn K A B H R ((c, d) :: as) fs ans most m ∧ m.stk = cl :: r ∧ okPg fs ∧ Im K H dv dd.d ∧ dd.ok (fs.map Fn.hd) (nsOf cl.ev) k ∧ eget cl.ev x = none ∧ cl.ev.length ≤ 900 ∧ (∀ l, (egetD cl.ev l).xs.length ≤ 900000) ∧
  m.begun.length ≤ 900 ∧ as.length ≤ 900 ∧ m.asked ≤ ans.length ∧ Post K A B H R fs ans most (stepLet fs ans most m cl r x dd) Q
theorem ok_Run_let (T : Tx K w mg A) : FnOk P w K mg base CX0 5 A.f_Run_let A.fd_Run_let P_Run_let (spLetR K A) := by
  have G_Run_bind := ok_Run_bind (P := P) (base := base) T
  have G_Run_let_call := ok_Run_let_call (P := P) (base := base) T
  have G_Run_next_answer := ok_Run_next_answer (P := P) (base := base) T
  have G_fault_of := ok_fault_of (P := P) (base := base) T
  have G_worth_of := ok_worth_of (P := P) (base := base) T
  refine T.F_Run_let.ok sc_Run_let (fun vs H Q E h => ?_) (fun cdv AA outer s H vs Q E hr h => ?_)
  · obtain ⟨B, R, c, d, as, fs, ans, most, m, cl, r, x, dd, dv, k, rfl, _⟩ := h
    rfl
  · obtain ⟨B, R, c, d, as, fs, ans, most, m, cl, r, x, dd, dv, k, rfl, hI, hst, hpg, hdv, hok, hx, hlv, hsm, hb1, ha1, hk1, q⟩ := h
    refine ⟨_, (pss_cons (ps_if (pt_cmpR op_eq (pe_ix ix_tup (pv 3) pe_int (fun _ _ => rfl)) pe_str (nomark _))
  (pss_one (ps_ret (pe_meth (pv 0) T.cl_Run T.m_Run_let_call G_Run_let_call (hr.mono (by decide)) T.b_Run_let_call .nil pass0 (pa_cons (pv 1) (pa_cons (pv 3) pa_nil)))))
  pss_nil)
  (pss_cons (ps_if (pt_cmpR op_eq (pe_ix ix_tup (pv 3) pe_int (fun _ _ => rfl)) pe_str (nomark _))
  (pss_cons (ps_expr (pe_meth (pv 0) T.cl_Run T.m_Run_bind G_Run_bind (hr.mono (by decide)) T.b_Run_bind .nil pass0 (pa_cons (pv 1) (pa_cons (pv 2) (pa_cons (pe_meth0 (pv 0) T.cl_Run T.m_Run_next_answer G_Run_next_answer (hr.mono (by decide)) T.b_Run_next_answer .nil pass0) pa_nil)))))
  (pss_one (ps_ret pe_non)))
  pss_nil)
  (pss_cons (ps_set (i := 4) sc_Run_let.nd rfl (.inl rfl) (pe_call G_fault_of (hr.mono (by decide)) (by rfl) T.g_fault_of T.F_fault_of.kp T.b_fault_of .nil pass0 (pa_cons (pv 3) (pa_cons (pe_fld (pv 1) rfl) pa_nil))))
  (pss_cons (ps_if (pt_cmpR op_notN (pv 4) pe_non (nomark _))
  (pss_one (ps_ret (pe_tup (pa_cons pe_str (pa_cons (pv 4) (pa_cons (pe_fld (pv 1) rfl) (pa_cons (pe_fld (pv 1) rfl) pa_nil)))))))
  pss_nil)
  (pss_cons (ps_expr (pe_meth (pv 0) T.cl_Run T.m_Run_bind G_Run_bind (hr.mono (by decide)) T.b_Run_bind .nil pass0 (pa_cons (pv 1) (pa_cons (pv 2) (pa_cons (pe_call G_worth_of (hr.mono (by decide)) (by rfl) T.g_worth_of T.F_worth_of.kp T.b_worth_of .nil pass0 (pa_cons (pv 3) (pa_cons (pe_fld (pv 1) rfl) pa_nil))) pa_nil)))))
  (pss_one (ps_ret pe_non))))))), ?_⟩
    have D := hI.dyn
    have ap := D.apart
    have hfr := D.frs
    rw [hst] at hfr
    obtain ⟨⟨⟨dc, hc⟩, kvs, hd, hE⟩, hfr'⟩ : FrAt K A.C_Call H (c, d) cl ∧ Paired (FrAt K A.C_Call H) as r := by cases hfr with | cons a b => exact ⟨a, b⟩
    have hc : H c = some (.ins A.C_Call dc (callF cl.row cl.fn cl.place d)) := hc
    have hd : H d = some (.dK kvs) := hd
    have hkv : kvs.length ≤ 1000 := by rw [Paired.length hE]; omega
    obtain ⟨r0, ed⟩ := dd.d_word
    have hdv0 := hdv
    rw [ed] at hdv
    obtain ⟨ta, us, rfl, hta, hall⟩ := im_tup hdv
    obtain ⟨v0, us, rfl, j0, hal2⟩ := all_cons hall
    clear hall
    obtain rfl := im_str j0
    by_cases hcall : ∃ g xs, dd = .call g xs
    · obtain ⟨g, xs, rfl⟩ := hcall
      cases ed
      obtain ⟨v1, v2, rfl, j1, j2⟩ := im2 hal2
      obtain rfl := im_int j1
      obtain ⟨xt, ws, rfl, hxt, hws⟩ := im_tup j2
      obtain rfl := all_strs hws
      obtain ⟨g1, hh, e1, e2, e3⟩ := hok
      rw [List.getElem?_map] at e1
      obtain ⟨fn, e4, rfl⟩ := Option.map_eq_some_iff.mp e1
      obtain ⟨o1, o2, o3, _⟩ := pg_fn hpg e4
      refine ⟨_, rfl, _, _, _, _, rfl, rfl, hta, atI_nat (j := 0) rfl, rfl, _, rfl, itd (p := V.str "call" = V.str "call") rfl ?_⟩
      refine ⟨_, rfl, R.p, R.dx, _, rfl, D.obj, runF_no (by decide +kernel), _, rfl, _, rfl, ?_⟩
      refine ⟨B, R, c, d, as, fs, ans, most, m, cl, r, ta, xt, x, g, xs, fn, rfl, hI, hst, hta, hxt, e4, e2, o3, ?_, hb1, ha1, q⟩
      rw [Paired.length e2]
      show (fn.ps.map (·.2)).length ≤ 100
      rw [List.length_map]
      omega
    have nc : ∀ g xs, dd ≠ .call g xs := fun g xs z => hcall ⟨g, xs, z⟩
    refine ⟨_, rfl, _, _, _, _, rfl, rfl, hta, atI_nat (j := 0) rfl, rfl, _, rfl, itn (p := V.str dd.word = V.str "call") (fun z => Dd.not_call nc (V.str.inj z)) ?_⟩
    by_cases hask : dd = .ask
    · subst hask
      refine ⟨_, rfl, _, _, _, _, rfl, rfl, hta, atI_nat (j := 0) rfl, rfl, _, rfl, itd (p := V.str "ask" = V.str "ask") rfl ?_⟩
      refine ⟨_, rfl, R.p, R.dx, _, rfl, D.obj, runF_no (by decide +kernel), _, rfl, _, rfl, _, rfl, R.p, R.dx, _, rfl, D.obj, runF_no (by decide +kernel), ?_⟩
      refine ⟨R.p, R.dx, R.n, R.t, R.a, R.b, R.td, R.o, m.asked, most, ans, rfl, D.obj, hI.same.seq hI.st.ans, hk1, fun H1 e1 b1 => ?_⟩
      obtain ⟨I1, i1⟩ := hI.asks e1 b1
      have cp : c ∉ [R.p] := fun z => by
        rw [List.mem_singleton] at z
        exact ap.pf (by rw [← z]; simp [fadr])
      have dp : d ∉ [R.p] := fun z => by
        rw [List.mem_singleton] at z
        exact ap.pf (by rw [← z]; simp [fadr])
      have hc1 := b1 _ _ cp hc
      have hd1 := b1 _ _ dp hd
      refine ⟨R.p, c, d, dc, cl.row, cl.fn, cl.place, x, .int (ans.getD m.asked 0), kvs, rfl, hc1, hd1, hkv, fun H3 z1 z2 b3 => ?_⟩
      obtain ⟨I3, i3⟩ := I1.moves (c2 := cl.bnd x (.n (ans.getD m.asked 0))) (cl := cl) (r := r) (kv2 := putK kvs (.inr x) (.int (ans.getD m.asked 0))) hst rfl rfl (fun dc3 z => by rw [hc1] at z; cases z; exact z1) z2 (fun i => ((hE.i i1).i i).put hx (.int _)) b3
      exact q H3 _ _ I3 (i1.trans i3) rfl
    · refine ⟨_, rfl, _, _, _, _, rfl, rfl, hta, atI_nat (j := 0) rfl, rfl, _, rfl, itn (p := V.str dd.word = V.str "ask") (fun z => Dd.not_ask hask (V.str.inj z)) ?_⟩
      have er : stepLet fs ans most m cl r x dd = (match dd.bad cl.ev with | some wd => (m, some (.fault wd cl.fn cl.place)) | none => ({ m with stk := cl.bnd x (dd.val cl.ev) :: r }, none)) := by
        cases dd <;> first | rfl | exact absurd rfl (nc _ _) | exact absurd rfl hask
      rw [er] at q
      refine ⟨_, rfl, _, rfl, c, _, dc, _, _, rfl, hc, T.cl_Call, T.a_Call_worths, callF_worths, ?_⟩
      refine ⟨cl.ev, _, k, dd, _, d, kvs, rfl, hdv0, hd, hE, hok, nc, hask, fun H1 s1 => ?_⟩
      have I1 := hI.up s1
      have D1 := I1.dyn
      have hc1 := s1 _ _ hc
      have hd1 := s1 _ _ hd
      have i1 := sameI_of s1
      cases hbad : dd.bad cl.ev with
      | some wd =>
        rw [hbad] at q
        refine ⟨_, rfl, rfl, _, rfl, itnn (p := V.str wd = V.non) (fun z => nomatch z) ?_⟩
        refine ⟨_, rfl, _, rfl, c, _, dc, _, _, rfl, hc1, T.cl_Call, T.a_Call_function, callF_fn, _, rfl, c, _, dc, _, _, rfl, hc1, T.cl_Call, T.a_Call_place, callF_place, by show 4 ≤ sizeLine; decide, fun p hp => ?_⟩
        have s2 := same_upd (o := .tup [.str "fault", .str wd, .int (cl.fn : Nat), .int (cl.place : Nat)]) hp
        exact q _ _ _ (I1.up s2) (i1.trans (sameI_of s2)) (.tup (.inl (.inl upd_same)) (.cons (.str _) (.cons (.str _) (.cons (.int _) (.cons (.int _) .nil)))))
      | none =>
        rw [hbad] at q
        refine ⟨_, rfl, rfl, _, rfl, itnd (p := V.non = V.non) rfl ?_⟩
        refine ⟨_, rfl, R.p, R.dx, _, rfl, D1.obj, runF_no (by decide +kernel), _, rfl, _, rfl, _, rfl, _, rfl, c, _, dc, _, _, rfl, hc1, T.cl_Call, T.a_Call_worths, callF_worths, ?_⟩
        refine ⟨cl.ev, _, k, dd, _, d, kvs, rfl, hdv0.same i1, hd1, hE.i i1, hok, nc, hask, hbad, hsm, fun H2 v s2 hv => ?_⟩
        have I2 := I1.up s2
        have i2 := sameI_of s2
        refine ⟨R.p, c, d, dc, cl.row, cl.fn, cl.place, x, v, kvs, rfl, s2 _ _ hc1, s2 _ _ hd1, hkv, fun H3 z1 z2 b3 => ?_⟩
        obtain ⟨I3, i3⟩ := I2.moves (c2 := cl.bnd x (dd.val cl.ev)) (cl := cl) (r := r) (kv2 := putK kvs (.inr x) v) hst rfl rfl (fun dc3 z => by rw [s2 _ _ hc1] at z; cases z; exact z1) z2 (fun i => (((hE.i i1).i i2).i i).put hx (hv.same i)) b3
        exact q H3 _ _ I3 (i1.trans (i2.trans i3)) rfl
end
end Cs
namespace Cs
open PySem PySem.Spec L2
/-! ## a step keeps what a run keeps -/
def mu (most : Nat) (m : Mc) : Nat := (most - m.begun.length) * 100 + (m.stk.map fun c => 61 - c.place).sum
structure Fine (fs : List Fn) (ans : List Int) (most : Nat) (m : Mc) (c : Fr) (r : List Fr) (f : Fn) (t : Tr) : Prop where
  stk : m.stk = c :: r
  top : FrOk fs c f t
  rest : Waits fs f.kd r
  rows : (m.stk.map Fr.row ++ m.told.map (·.1)).Nodup
  low : ∀ i ∈ m.stk.map Fr.row ++ m.told.map (·.1), i < m.begun.length
  many : m.begun.length ≤ most
  asked : m.asked ≤ ans.length
  cnt : m.stk.length + m.told.length ≤ m.begun.length
  mub : mu most m ≤ 100000
  small : ∀ c ∈ m.stk, ∀ p ∈ c.ev, p.2.xs.length + mu most m ≤ 800000
theorem egetD_small {N : Nat} {e : Ev} (h : ∀ p ∈ e, p.2.xs.length ≤ N) (x : Str) : (egetD e x).xs.length ≤ N := by
  unfold egetD eget
  cases g : e.find? fun p => decide (p.1 = x) with
  | none => exact Nat.zero_le _
  | some p => exact h p (List.mem_of_find?_eq_some g)
theorem Dd.val_small {N : Nat} {e : Ev} (h : ∀ p ∈ e, p.2.xs.length ≤ N) (d : Dd) : (d.val e).xs.length ≤ N + 1 := by
  cases d with
  | put x l =>
    show ((egetD e l).xs.length + 1) ≤ N + 1
    exact Nat.succ_le_succ (egetD_small h l)
  | tail l =>
    show (egetD e l).xs.tail.length ≤ N + 1
    rw [List.length_tail]
    have := egetD_small h l
    omega
  | _ => exact Nat.zero_le _
theorem FrOk.low {fs : List Fn} {c : Fr} {f : Fn} {t : Tr} (h : FrOk fs c f t) (ok : okPg fs) : c.place < 60 := by
  obtain ⟨_, _, _, _, o5, _⟩ := pg_fn ok h.fn
  have := (List.getElem?_eq_some_iff.mp h.at_).1
  rw [f.tr.pre_len] at this
  omega
theorem FrOk.to {fs : List Fn} {c : Fr} {f : Fn} {t u : Tr} (h : FrOk fs c f t) {p : Nat} (hp : c.place < p) (e : f.tr.pre[p]? = some u) (ok : u.ok (fs.map Fn.hd) f.kd (nsOf c.ev)) : FrOk fs (c.to p) f u :=
  ⟨h.fn, e, ok, by have := h.few; show c.ev.length ≤ p + 4; omega⟩
theorem Waits.names {fs : List Fn} {k : Kd} {c : Fr} {r : List Fr} (h : Waits fs k (c :: r)) : ∃ f y g xs t, FrOk fs c f (.let_ y (.call g xs) t) ∧ (Dd.call g xs).ok (fs.map Fn.hd) (nsOf c.ev) k ∧ look (nsOf c.ev) y = none ∧ Waits fs f.kd r := by
  cases h with
  | cons h1 h2 h3 h4 h5 => exact ⟨_, _, _, _, _, h1, h2, h3, h5⟩
theorem look_none {e : Ev} {x : Str} (h : look (nsOf e) x = none) : eget e x = none := by
  rw [look_nsOf] at h
  exact Option.map_eq_none_iff.mp h
section
variable {fs : List Fn} {ans : List Int} {most : Nat} {m m1 : Mc} {c : Fr} {r : List Fr} {f : Fn} {t : Tr}
/-- the top frame goes on -/
theorem Fine.goes (h : Fine fs ans most m c r f t) (ok : okPg fs) {c1 : Fr} {t1 : Tr} {k : Nat} (hr : c1.row = c.row) (hf : FrOk fs c1 f t1) (hp : c.place < c1.place) (hk : k ≤ ans.length)
    (hs : ∀ p ∈ c1.ev, p ∈ c.ev ∨ ∃ N, p.2.xs.length ≤ N + 1 ∧ (N = 0 ∨ N + mu most m ≤ 800000)) : Fine fs ans most { m with asked := k, stk := c1 :: r } c1 r f t1 ∧ mu most { m with asked := k, stk := c1 :: r } < mu most m := by
  have l1 := h.top.low ok
  have hmu : mu most { m with asked := k, stk := c1 :: r } + 1 ≤ mu most m := by
    unfold mu
    rw [h.stk]
    simp only [List.map_cons, List.sum_cons]
    omega
  have em : m.stk.map Fr.row = c1.row :: r.map Fr.row := by rw [h.stk, List.map_cons, hr]
  refine ⟨⟨rfl, hf, h.rest, ?_, ?_, h.many, hk, ?_, ?_, ?_⟩, hmu⟩
  · have := h.rows
    rw [em] at this
    exact this
  · have := h.low
    rw [em] at this
    exact this
  · have := h.cnt
    rw [h.stk] at this
    exact this
  · have := h.mub
    omega
  · intro c2 h2 p hp2
    have hb := h.mub
    rcases List.mem_cons.mp h2 with e | e
    · subst e
      rcases hs p hp2 with z | ⟨N, z1, z2⟩
      · have := h.small c (by rw [h.stk]; exact List.mem_cons_self ..) p z
        omega
      · omega
    · have := h.small c2 (by rw [h.stk]; exact List.mem_cons_of_mem _ e) p hp2
      omega
theorem Fine.tells (h : Fine fs ans most m c r f t) (ok : okPg fs) {c2 : Fr} {r2 : List Fr} (e : r = c2 :: r2) {x : Str} (ht : t = .tell x) :
    ∃ (f2 : Fn) (dd : Dd) (t2 : Tr) (y : Str), treeAt fs c2 = some (.let_ y dd t2) ∧ Fine fs ans most { m with told := m.told ++ [(c.row, egetD c.ev x)], stk := c2.bnd y (egetD c.ev x) :: r2 } (c2.bnd y (egetD c.ev x)) r2 f2 t2 ∧ mu most { m with told := m.told ++ [(c.row, egetD c.ev x)], stk := c2.bnd y (egetD c.ev x) :: r2 } < mu most m := by
  subst e ht
  obtain ⟨f2, y, g, xs, t2, h1, h2, h3, h4⟩ := h.rest.names
  have l1 := h.top.low ok
  have l2 := h1.low ok
  have hw := (eget_of (show look (nsOf c.ev) x = some f.kd from h.top.ok)).2
  rw [← hw] at h2
  have hmu : mu most { m with told := m.told ++ [(c.row, egetD c.ev x)], stk := c2.bnd y (egetD c.ev x) :: r2 } + 1 ≤ mu most m := by
    unfold mu
    rw [h.stk]
    simp only [List.map_cons, List.sum_cons]
    show (most - m.begun.length) * 100 + (61 - (c2.place + 1) + _) + 1 ≤ _
    omega
  refine ⟨f2, .call g xs, t2, y, h1.tree, ⟨rfl, h1.bnd h2, h4, ?_, ?_, h.many, h.asked, ?_, ?_, ?_⟩, hmu⟩
  · have := h.rows
    rw [h.stk] at this
    simp only [List.map_cons, List.cons_append, List.nodup_cons, List.map_append, List.map_nil] at this ⊢
    obtain ⟨n1, n2, n3⟩ := this
    refine ⟨fun z => ?_, ?_⟩
    · rw [← List.append_assoc, List.mem_append, List.mem_singleton] at z
      rcases z with z | z
      · exact n2 z
      · exact n1 (by rw [← z]; exact List.mem_cons_self ..)
    · rw [← List.append_assoc, List.nodup_append]
      refine ⟨n3, by simp, fun a ha b hb z => ?_⟩
      rw [List.mem_singleton] at hb
      rw [z, hb] at ha
      exact n1 (List.mem_cons_of_mem _ ha)
  · intro i hi
    refine h.low i ?_
    rw [h.stk]
    simp only [List.map_cons, List.cons_append, List.map_append, List.map_nil, List.mem_cons, List.mem_append, List.not_mem_nil, or_false] at hi ⊢
    rcases hi with z | z | z | z
    · exact .inr (.inl z)
    · exact .inr (.inr (.inl z))
    · exact .inr (.inr (.inr z))
    · exact .inl z
  · have := h.cnt
    rw [h.stk] at this
    simp only [List.length_cons, List.length_append, List.length_nil] at this ⊢
    omega
  · have := h.mub
    omega
  · intro c3 h3 p hp
    rcases List.mem_cons.mp h3 with e | e
    · subst e
      rcases List.mem_append.mp hp with z | z
      · have := h.small c2 (by rw [h.stk]; simp) p z
        omega
      · rw [List.mem_singleton.mp z]
        have := egetD_small (N := 800000 - mu most m) (e := c.ev) (fun p hp => by
          have := h.small c (by rw [h.stk]; simp) p hp
          omega) x
        have hb := h.mub
        show (egetD c.ev x).xs.length + _ ≤ _
        omega
    · have := h.small c3 (by rw [h.stk]; simp [e]) p hp
      omega
theorem Fine.begins (h : Fine fs ans most m c r f t) (ok : okPg fs) {x : Str} {g : Nat} {xs : List Str} {t2 : Tr} (ht : t = .let_ x (.call g xs) t2) (hb : m.begun.length ≠ most) (hm : most ≤ 300) :
    ∃ c1 fn, Fine fs ans most (m.begin fs g (xs.map (egetD c.ev))) c1 (c :: r) fn fn.tr ∧ mu most (m.begin fs g (xs.map (egetD c.ev))) < mu most m := by
  subst ht
  obtain ⟨_, hln, kd, ⟨g1, hh, e1, e2, e3⟩, htr⟩ := h.top.ok
  rw [List.getElem?_map] at e1
  obtain ⟨fn, e4, rfl⟩ := Option.map_eq_some_iff.mp e1
  obtain ⟨o1, o2, o3, o4, o5, o6⟩ := pg_fn ok e4
  have e2 : Paired (fun x kd => look (nsOf c.ev) x = some kd) xs (fn.ps.map (·.2)) := e2
  have e3 : kd = fn.kd := e3
  have many := h.many
  have hns : nsOf ((fn.ps.map (·.1)).zip (xs.map (egetD c.ev))) = fn.ps := by
    have : ∀ {xs : List Str} {ps : Nm}, Paired (fun x kd => look (nsOf c.ev) x = some kd) xs (ps.map (·.2)) → nsOf ((ps.map (·.1)).zip (xs.map (egetD c.ev))) = ps := by
      intro xs ps hp
      induction ps generalizing xs with
      | nil => cases hp; rfl
      | cons p ps ih =>
        cases hp with
        | cons a b =>
          show (p.1, (egetD c.ev _).kd) :: nsOf ((ps.map (·.1)).zip (List.map (egetD c.ev) _)) = _
          rw [(eget_of a).2, ih b]
    exact this e2
  have hmu : mu most (m.begin fs g (xs.map (egetD c.ev))) + 1 ≤ mu most m := by
    unfold mu Mc.begin
    simp only [List.map_cons, List.sum_cons, List.length_append, List.length_singleton]
    omega
  have hna : namesAt fs g = fn.ps.map (·.1) := by
    unfold namesAt
    rw [e4]
    rfl
  refine ⟨⟨m.begun.length, g, 0, (namesAt fs g).zip (xs.map (egetD c.ev))⟩, fn, ⟨by show _ :: m.stk = _; rw [h.stk], ⟨e4, fn.tr.pre0, ?_, ?_⟩, ?_, ?_, ?_, ?_, h.asked, ?_, ?_, ?_⟩, hmu⟩
  · show fn.tr.ok _ _ (nsOf ((namesAt fs g).zip _))
    rw [hna, hns]
    exact o4
  · show ((namesAt fs g).zip _).length ≤ 0 + 4
    rw [hna, List.length_zip, List.length_map]
    omega
  · exact .cons h.top ⟨g1, fn.hd, by rw [List.getElem?_map, e4]; rfl, e2, rfl⟩ hln (by rw [← e3]; exact htr) h.rest
  · show ((m.begun.length :: m.stk.map Fr.row) ++ m.told.map (·.1)).Nodup
    rw [List.cons_append, List.nodup_cons]
    exact ⟨fun z => Nat.lt_irrefl _ (h.low _ z), h.rows⟩
  · intro i hi
    show i < (m.begun ++ [_]).length
    rw [List.length_append, List.length_singleton]
    rcases List.mem_cons.mp (show i ∈ m.begun.length :: (m.stk.map Fr.row ++ m.told.map (·.1)) from hi) with z | z
    · omega
    · have := h.low i z
      omega
  · show (m.begun ++ [_]).length ≤ most
    rw [List.length_append, List.length_singleton]
    omega
  · show (_ :: m.stk).length + m.told.length ≤ (m.begun ++ [_]).length
    have := h.cnt
    rw [List.length_append, List.length_singleton, List.length_cons]
    omega
  · have := h.mub
    omega
  · intro c3 h3 p hp
    rcases List.mem_cons.mp (show c3 ∈ _ :: m.stk from h3) with e | e
    · subst e
      have hp : p ∈ (namesAt fs g).zip (xs.map (egetD c.ev)) := hp
      have h5 : p.2 ∈ xs.map (egetD c.ev) := (List.of_mem_zip (a := p.1) (b := p.2) hp).2
      obtain ⟨y, _, e5⟩ := List.mem_map.mp h5
      rw [← e5]
      have := egetD_small (N := 800000 - mu most m) (e := c.ev) (fun p hp => by
        have := h.small c (by rw [h.stk]; simp) p hp
        omega) y
      have hb := h.mub
      omega
    · have := h.small c3 e p hp
      omega
end
end Cs
namespace Cs
open PySem PySem.Spec L2
section
variable {P : Program} {w : World} {K : PySem.W.Frag} {mg : Str → Option Value} {base : Heap} {A : Adr}
def stepAt (fs : List Fn) (ans : List Int) (most : Nat) (m : Mc) (c : Fr) (r : List Fr) : Tr → Mc × Option Ends2
  | .tell x => stepTell fs m c (egetD c.ev x) r
  | .let_ x d _ => stepLet fs ans most m c r x d
  | .if_ a b n u _ => ({ m with stk := c.to (if a.val c.ev - b.val c.ev ≤ n then c.place + 1 else c.place + 1 + u.size) :: r }, none)
  | .claim a b n _ => if a.val c.ev - b.val c.ev ≤ n then ({ m with stk := c.to (c.place + 1) :: r }, none) else (m, some (.fault "claim" c.fn c.place))
theorem stepF_at {fs : List Fn} {ans : List Int} {most : Nat} {m : Mc} {c : Fr} {r : List Fr} {t : Tr} (h : m.stk = c :: r) (e : treeAt fs c = some t) : stepF fs ans most m = stepAt fs ans most m c r t := by
  unfold stepF
  rw [h]
  dsimp only
  rw [e]
  cases t <;> rfl
theorem fine_step {fs : List Fn} {ans : List Int} {most : Nat} {m m1 : Mc} {c : Fr} {r : List Fr} {f : Fn} {t : Tr} (h : Fine fs ans most m c r f t) (ok : okPg fs) (hm : most ≤ 300) (e : stepF fs ans most m = (m1, none)) :
    (∃ c1 r1 f1 t1, Fine fs ans most m1 c1 r1 f1 t1) ∧ mu most m1 < mu most m := by
  rw [stepF_at h.stk h.top.tree] at e
  cases t with
  | tell x =>
    cases r with
    | nil => cases e
    | cons c2 r2 =>
      obtain ⟨f2, dd, t2, y, h1, h2, h3⟩ := h.tells ok rfl rfl
      change (match treeAt fs c2 with | some (.let_ y _ _) => _ | _ => _) = _ at e
      rw [h1] at e
      cases e
      exact ⟨⟨_, _, _, _, h2⟩, h3⟩
  | let_ x d u =>
    obtain ⟨hx, hl, k, hd, htr⟩ := h.top.ok
    have hsm : ∀ p ∈ c.ev, p.2.xs.length ≤ 800000 - mu most m := fun p hp => by
      have := h.small c (by rw [h.stk]; simp) p hp
      omega
    have hmb := h.mub
    by_cases hcall : ∃ g xs, d = .call g xs
    · obtain ⟨g, xs, rfl⟩ := hcall
      change (if m.begun.length = most then (m, some Ends2.long) else (m.begin fs g (xs.map (egetD c.ev)), none)) = _ at e
      by_cases hb : m.begun.length = most
      · rw [if_pos hb] at e
        cases e
      · rw [if_neg hb] at e
        cases e
        obtain ⟨c1, fn, h1, h2⟩ := h.begins ok rfl hb hm
        exact ⟨⟨_, _, _, _, h1⟩, h2⟩
    by_cases hask : d = .ask
    · subst hask
      cases e
      have hb : FrOk fs (c.bnd x (.n (ans.getD m.asked 0))) f u := h.top.bnd rfl
      obtain ⟨h1, h2⟩ := h.goes ok (c1 := c.bnd x (.n (ans.getD m.asked 0))) (k := if m.asked = ans.length then m.asked else m.asked + 1) rfl hb (Nat.lt_succ_self _) (by
        have := h.asked
        by_cases z : m.asked = ans.length
        · rw [if_pos z]; exact this
        · rw [if_neg z]; omega) (fun p hp => by
        rcases List.mem_append.mp hp with z | z
        · exact .inl z
        · rw [List.mem_singleton.mp z]
          exact .inr ⟨0, Nat.zero_le _, .inl rfl⟩)
      exact ⟨⟨_, _, _, _, h1⟩, h2⟩
    · have er : stepLet fs ans most m c r x d = (match d.bad c.ev with | some wd => (m, some (.fault wd c.fn c.place)) | none => ({ m with stk := c.bnd x (d.val c.ev) :: r }, none)) := by
        cases d <;> first | rfl | exact absurd rfl hask | exact absurd ⟨_, _, rfl⟩ hcall
      change stepLet fs ans most m c r x d = _ at e
      rw [er] at e
      cases hbad : d.bad c.ev with
      | some wd =>
        rw [hbad] at e
        cases e
      | none =>
        rw [hbad] at e
        cases e
        have hk := Dd.val_kd hd (fun g xs z => hcall ⟨g, xs, z⟩) hask
        obtain ⟨h1, h2⟩ := h.goes ok (c1 := c.bnd x (d.val c.ev)) (k := m.asked) rfl (h.top.bnd (by rw [hk]; exact hd)) (Nat.lt_succ_self _) h.asked (fun p hp => by
          rcases List.mem_append.mp hp with z | z
          · exact .inl z
          · rw [List.mem_singleton.mp z]
            exact .inr ⟨800000 - mu most m, Dd.val_small hsm d, .inr (by omega)⟩)
        exact ⟨⟨_, _, _, _, h1⟩, h2⟩
  | if_ a b n u v =>
    cases e
    obtain ⟨o1, o2, hn, o4, o5⟩ := h.top.ok
    by_cases z : a.val c.ev - b.val c.ev ≤ n
    · rw [if_pos z]
      obtain ⟨h1, h2⟩ := h.goes ok (c1 := c.to (c.place + 1)) (k := m.asked) rfl (h.top.to (Nat.lt_succ_self _) (pre_then h.top.at_) o4) (Nat.lt_succ_self _) h.asked fun p hp => .inl hp
      exact ⟨⟨_, _, _, _, h1⟩, h2⟩
    · rw [if_neg z]
      obtain ⟨h1, h2⟩ := h.goes ok (c1 := c.to (c.place + 1 + u.size)) (k := m.asked) rfl (h.top.to (by omega) (pre_else h.top.at_) o5) (by show c.place < c.place + 1 + u.size; omega) h.asked fun p hp => .inl hp
      exact ⟨⟨_, _, _, _, h1⟩, h2⟩
  | claim a b n u =>
    obtain ⟨o1, o2, hn, o4⟩ := h.top.ok
    change (if a.val c.ev - b.val c.ev ≤ n then _ else _) = _ at e
    by_cases z : a.val c.ev - b.val c.ev ≤ n
    · rw [if_pos z] at e
      cases e
      obtain ⟨h1, h2⟩ := h.goes ok (c1 := c.to (c.place + 1)) (k := m.asked) rfl (h.top.to (Nat.lt_succ_self _) (pre_claim h.top.at_) o4) (Nat.lt_succ_self _) h.asked fun p hp => .inl hp
      exact ⟨⟨_, _, _, _, h1⟩, h2⟩
    · rw [if_neg z] at e
      cases e
def spStep (K : PySem.W.Frag) (A : Adr) : Sp := fun vs H Q _ => ∃ (B : Hp) (R : RA) (as : List (Addr × Addr)) (fs : List Fn) (ans : List Int) (most : Nat) (m : Mc) (c : Fr) (r : List Fr) (f : Fn) (t : Tr),
  vs = [.ref R.p] ∧ RunIn K A B H R as fs ans most m ∧ okPg fs ∧ most ≤ 300 ∧ Fine fs ans most m c r f t ∧ Post K A B H R fs ans most (stepF fs ans most m) Q
theorem ok_Run_step (T : Tx K w mg A) : FnOk P w K mg base CX0 6 A.f_Run_step A.fd_Run_step P_Run_step (spStep K A) := by
  have G_Run_tell := ok_Run_tell (P := P) (base := base) T
  have G_Run_let := ok_Run_let (P := P) (base := base) T
  have G_is_so := ok_is_so (P := P) (base := base) T
  refine T.F_Run_step.ok sc_Run_step (fun vs H Q E h => ?_) (fun cdv AA outer s H vs Q E hr h => ?_)
  · obtain ⟨B, R, as, fs, ans, most, m, c, r, f, t, rfl, _⟩ := h
    rfl
  · obtain ⟨B, R, as, fs, ans, most, m, c, r, f, t, rfl, hI, hpg, hm, hF, q⟩ := h
    refine ⟨_, (pss_cons (ps_set (i := 1) sc_Run_step.nd rfl (.inl rfl) (pe_ix ix_list (pe_fld (pv 0) rfl) (pe_un un_neg pe_int) (fun _ _ => rfl)))
  (pss_cons (ps_asg (pe_ix ix_list (pe_fld (pv 0) rfl) (pe_fld (pv 1) rfl) (fun _ _ => rfl)) (pg_tup (by rfl) (pgs_cons (pg_name (i := 2) sc_Run_step.nd rfl (.inl rfl)) (pgs_cons (pg_name (i := 3) sc_Run_step.nd rfl (.inl rfl)) pgs_nil))))
  (pss_cons (ps_set (i := 4) sc_Run_step.nd rfl (.inl rfl) (pe_ix ix_list (pv 2) (pe_fld (pv 1) rfl) (fun _ _ => rfl)))
  (pss_cons (ps_if (pt_cmpR op_eq (pe_ix ix_tup (pv 4) pe_int (fun _ _ => rfl)) pe_str (nomark _))
  (pss_one (ps_ret (pe_meth (pv 0) T.cl_Run T.m_Run_tell G_Run_tell (hr.mono (by decide)) T.b_Run_tell .nil pass0 (pa_cons (pe_dget (hu_of hr) (pe_fld (pv 1) rfl) (pe_ix ix_tup (pv 4) pe_int (fun _ _ => rfl)) (fun _ _ => rfl)) pa_nil))))
  pss_nil)
  (pss_cons (ps_if (pt_cmpR op_eq (pe_ix ix_tup (pv 4) pe_int (fun _ _ => rfl)) pe_str (nomark _))
  (pss_one (ps_ret (pe_meth (pv 0) T.cl_Run T.m_Run_let G_Run_let (hr.mono (by decide)) T.b_Run_let .nil pass0 (pa_cons (pv 1) (pa_cons (pe_ix ix_tup (pv 4) pe_int (fun _ _ => rfl)) (pa_cons (pe_ix ix_tup (pv 4) pe_int (fun _ _ => rfl)) pa_nil))))))
  pss_nil)
  (pss_cons (ps_if (pt_val (pe_call G_is_so (hr.mono (by decide)) (by rfl) T.g_is_so T.F_is_so.kp T.b_is_so .nil pass0 (pa_cons (pv 4) (pa_cons (pe_fld (pv 1) rfl) pa_nil))))
  (pss_one (ps_fldaug (pv 1) pe_int in_add))
  (pss_one (ps_if (pt_cmpR op_eq (pe_ix ix_tup (pv 4) pe_int (fun _ _ => rfl)) pe_str (nomark _))
  (pss_one (ps_fld (pv 1) (pe_dget (hu_of hr) (pv 3) (pe_fld (pv 1) rfl) (fun _ _ => rfl)) rfl))
  (pss_one (ps_ret (pe_tup (pa_cons pe_str (pa_cons pe_str (pa_cons (pe_fld (pv 1) rfl) (pa_cons (pe_fld (pv 1) rfl) pa_nil))))))))))
  (pss_one (ps_ret pe_non)))))))), ?_⟩
    rw [stepF_at hF.stk hF.top.tree] at q
    have D := hI.dyn
    have ap := D.apart
    have hfr := D.frs
    rw [hF.stk] at hfr
    obtain ⟨⟨ca, d⟩, as2, rfl⟩ : ∃ a as2, as = a :: as2 := by cases hfr with | cons => exact ⟨_, _, rfl⟩
    obtain ⟨⟨⟨dc, hc⟩, kvs, hd, hE⟩, hfr2⟩ : FrAt K A.C_Call H (ca, d) c ∧ Paired (FrAt K A.C_Call H) as2 r := by cases hfr with | cons a b => exact ⟨a, b⟩
    have hc : H ca = some (.ins A.C_Call dc (callF c.row c.fn c.place d)) := hc
    have hd : H d = some (.dK kvs) := hd
    have hop : H R.o = some (.lst ((as2.map fun a => V.ref a.1).reverse ++ [.ref ca])) := by
      have := D.opn
      rw [List.map_cons, List.reverse_cons] at this
      exact this
    have low := hF.top.low hpg
    have few := hF.top.few
    have hmany := hF.many
    have hcnt := hF.cnt
    have has : as2.length ≤ 900 := by
      rw [Paired.length hfr2]
      rw [hF.stk, List.length_cons] at hcnt
      omega
    have hsm : ∀ l, (egetD c.ev l).xs.length ≤ 900000 := fun l => by
      have := egetD_small (N := 800000) (e := c.ev) (fun p hp => by
        have := hF.small c (by rw [hF.stk]; simp) p hp
        omega) l
      omega
    obtain ⟨tvs, q1, tl, od, xs, tv, k1, k2, k3, k4, k5, k6, k7⟩ := hI.st.tree hI.same hF.top
    refine ⟨_, rfl, R.p, _, R.dx, _, _, rfl, D.obj, T.cl_Run, T.a_Run_open_calls, runF_open, _, rfl, _, _, _, _, rfl, rfl, SqL.of hop, atI_last _ _, ?_⟩
    refine ⟨_, rfl, R.p, _, R.dx, _, _, rfl, D.obj, T.cl_Run, T.a_Run_trees, runF_trees, _, rfl, ca, _, dc, _, _, rfl, hc, T.cl_Call, T.a_Call_function, callF_fn, _, _, _, _, rfl, rfl, k1, atI_nat k2, q1, _, rfl, k3, rfl, _, _, rfl, _, _, rfl, rfl, ?_⟩
    refine ⟨_, rfl, _, rfl, ca, _, dc, _, _, rfl, hc, T.cl_Call, T.a_Call_place, callF_place, _, _, _, _, rfl, rfl, k4, atI_nat k5, ?_⟩
    -- an if, a claim: what comes behind the test
    have cin : [ca, d] = [ca, d] := rfl
    have go : ∀ (p : Nat) (H1 H2 : Hp), Same H H1 → H2 = upd H1 ca (.ins A.C_Call dc (callF c.row c.fn p d)) → RunIn K A B H2 R ((ca, d) :: as2) fs ans most { m with stk := c.to p :: r } ∧ SameI H H2 := by
      rintro p H1 H2 s1 rfl
      have I1 := hI.up s1
      have ncd : ca ≠ d := ne_of hc hd (by intro z; cases z)
      obtain ⟨I2, i2⟩ := I1.moves (H1 := upd H1 ca (.ins A.C_Call dc (callF c.row c.fn p d))) (c2 := c.to p) (cl := c) (r := r) (kv2 := kvs) hF.stk rfl rfl (fun dc3 z => by rw [s1 _ _ hc] at z; cases z; exact upd_same) (by rw [upd_ne (Ne.symm ncd)]; exact s1 _ _ hd) (fun i => (hE.i (sameI_of s1)).i i) (fun b o hb e => by
        simp only [List.mem_cons, List.not_mem_nil, or_false, not_or] at hb
        rw [upd_ne hb.1]
        exact e)
      exact ⟨I2, (sameI_of s1).trans i2⟩
    cases t with
    | tell x =>
      obtain ⟨ta, us, rfl, hta, hall⟩ := im_tup k6
      obtain ⟨v0, v1, rfl, j0, j1⟩ := im2 hall
      obtain rfl := im_str j0
      obtain rfl := im_str j1
      obtain ⟨e1, e2⟩ := eget_of (show look (nsOf c.ev) x = some f.kd from hF.top.ok)
      obtain ⟨v, e3, e4⟩ := hE.get e1
      refine ⟨_, rfl, _, _, _, _, rfl, rfl, hta, atI_nat (j := 0) rfl, rfl, _, rfl, itd (p := V.str "tell" = V.str "tell") rfl ?_⟩
      refine ⟨_, rfl, R.p, R.dx, _, rfl, D.obj, runF_no (by decide +kernel), _, rfl, ca, _, dc, _, _, rfl, hc, T.cl_Call, T.a_Call_worths, callF_worths, _, rfl, _, _, _, _, rfl, rfl, hta, atI_nat (j := 1) rfl, d, _, rfl, dget_at hd e3, ?_⟩
      have hrows := hF.rows
      rw [hF.stk, List.map_cons, List.cons_append, List.nodup_cons] at hrows
      refine ⟨B, R, ca, d, as2, fs, ans, most, m, c, r, v, _, rfl, hI, hF.stk, e4, fun z => hrows.1 (List.mem_append_right _ z), by omega, fun c2 r2 er => ?_, q⟩
      have hw := hF.rest
      rw [er] at hw
      obtain ⟨f2, y, g, ys, t2, w1, w2, w3, w4⟩ := hw.names
      have lw := w1.low hpg
      have fw := w1.few
      exact ⟨f2, y, _, t2, w1, look_none w3, by omega⟩
    | let_ x dd u =>
      obtain ⟨ta, us, rfl, hta, hall⟩ := im_tup k6
      obtain ⟨v0, us, rfl, j0, hall⟩ := all_cons hall
      obtain ⟨v1, us, rfl, j1, hall⟩ := all_cons hall
      obtain ⟨v2, us, rfl, j2, hall⟩ := all_cons hall
      obtain ⟨v3, us, rfl, j3, hall⟩ := all_cons hall
      obtain rfl := all0 hall
      obtain rfl := im_str j0
      obtain rfl := im_str j1
      obtain ⟨hx, hl, k, hdd, htr⟩ := hF.top.ok
      refine ⟨_, rfl, _, _, _, _, rfl, rfl, hta, atI_nat (j := 0) rfl, rfl, _, rfl, itn (p := V.str "let" = V.str "tell") (by decide +kernel) ?_⟩
      refine ⟨_, rfl, _, _, _, _, rfl, rfl, hta, atI_nat (j := 0) rfl, rfl, _, rfl, itd (p := V.str "let" = V.str "let") rfl ?_⟩
      refine ⟨_, rfl, R.p, R.dx, _, rfl, D.obj, runF_no (by decide +kernel), _, rfl, _, rfl, _, _, _, _, rfl, rfl, hta, atI_nat (j := 1) rfl, _, rfl, _, _, _, _, rfl, rfl, hta, atI_nat (j := 2) rfl, ?_⟩
      exact ⟨B, R, ca, d, as2, fs, ans, most, m, c, r, x, dd, v2, k, rfl, hI, hF.stk, hpg, j2, hdd, look_none hl, by omega, hsm, by omega, has, hF.asked, q⟩
    | if_ a b n u v =>
      obtain ⟨ta, us, rfl, hta, hall⟩ := im_tup k6
      obtain ⟨v0, us, rfl, j0, hall⟩ := all_cons hall
      obtain ⟨v1, us, rfl, j1, hall⟩ := all_cons hall
      obtain ⟨v2, us, rfl, j2, hall⟩ := all_cons hall
      obtain ⟨v3, us, rfl, j3, hall⟩ := all_cons hall
      obtain ⟨v4, v5, rfl, j4, j5⟩ := im2 hall
      obtain rfl := im_str j0
      obtain rfl := im_int j3
      obtain ⟨o1, o2, hn, o4, o5⟩ := hF.top.ok
      refine ⟨_, rfl, _, _, _, _, rfl, rfl, hta, atI_nat (j := 0) rfl, rfl, _, rfl, itn (p := V.str "if" = V.str "tell") (by decide +kernel) ?_⟩
      refine ⟨_, rfl, _, _, _, _, rfl, rfl, hta, atI_nat (j := 0) rfl, rfl, _, rfl, itn (p := V.str "if" = V.str "let") (by decide +kernel) ?_⟩
      refine ⟨_, rfl, _, rfl, ca, _, dc, _, _, rfl, hc, T.cl_Call, T.a_Call_worths, callF_worths, ?_⟩
      refine ⟨c.ev, "if", a, b, n, ta, d, v1, v2, [v4, v5], kvs, rfl, hta, (fun z => nomatch z), j1, j2, hd, hE, o1, o2, fun H1 s1 => ⟨_, rfl, ?_⟩⟩
      have hc1 := s1 _ _ hc
      by_cases z : a.val c.ev - b.val c.ev ≤ n
      · change Post K A B H R fs ans most ({ m with stk := c.to (if a.val c.ev - b.val c.ev ≤ n then c.place + 1 else c.place + 1 + u.size) :: r }, none) Q at q
        rw [if_pos z] at q
        rw [decide_eq_true z]
        refine iteT ⟨_, rfl, ca, _, dc, _, _, rfl, hc1, T.cl_Call, T.a_Call_place, callF_place, _, _, rfl, rfl, dc, _, hc1, by show 4 < 1000; decide, ?_⟩
        rw [show ((c.place : Nat) : Int) + 1 = ((c.place + 1 : Nat) : Int) from rfl, callF_put]
        obtain ⟨I2, i2⟩ := go (c.place + 1) H1 _ s1 rfl
        exact q _ _ _ I2 i2 rfl
      · change Post K A B H R fs ans most ({ m with stk := c.to (if a.val c.ev - b.val c.ev ≤ n then c.place + 1 else c.place + 1 + u.size) :: r }, none) Q at q
        rw [if_neg z] at q
        rw [decide_eq_false z]
        have hop2 := othK_get (oths_mem (k := 0) hF.top.at_) (oths_nodup f.tr 0)
        rw [Nat.zero_add] at hop2
        refine iteF ⟨_, rfl, _, _, _, _, rfl, rfl, Same.tup s1 hta, atI_nat (j := 0) rfl, rfl, _, rfl, itd (p := V.str "if" = V.str "if") rfl ?_⟩
        refine ⟨_, rfl, _, rfl, ca, _, dc, _, _, rfl, hc1, T.cl_Call, T.a_Call_place, callF_place, od, _, rfl, dget_in (s1 _ _ k7) hop2, _, rfl, ca, _, dc, _, rfl, hc1, T.cl_Call, T.a_Call_place, by show 4 < 1000; decide, ?_⟩
        rw [callF_put]
        obtain ⟨I2, i2⟩ := go (c.place + 1 + u.size) H1 _ s1 rfl
        exact q _ _ _ I2 i2 rfl
    | claim a b n u =>
      obtain ⟨ta, us, rfl, hta, hall⟩ := im_tup k6
      obtain ⟨v0, us, rfl, j0, hall⟩ := all_cons hall
      obtain ⟨v1, us, rfl, j1, hall⟩ := all_cons hall
      obtain ⟨v2, us, rfl, j2, hall⟩ := all_cons hall
      obtain ⟨v3, us, rfl, j3, hall⟩ := all_cons hall
      obtain ⟨v4, us, rfl, j4, hall⟩ := all_cons hall
      obtain rfl := all0 hall
      obtain rfl := im_str j0
      obtain rfl := im_int j3
      obtain ⟨o1, o2, hn, o4⟩ := hF.top.ok
      refine ⟨_, rfl, _, _, _, _, rfl, rfl, hta, atI_nat (j := 0) rfl, rfl, _, rfl, itn (p := V.str "claim" = V.str "tell") (by decide +kernel) ?_⟩
      refine ⟨_, rfl, _, _, _, _, rfl, rfl, hta, atI_nat (j := 0) rfl, rfl, _, rfl, itn (p := V.str "claim" = V.str "let") (by decide +kernel) ?_⟩
      refine ⟨_, rfl, _, rfl, ca, _, dc, _, _, rfl, hc, T.cl_Call, T.a_Call_worths, callF_worths, ?_⟩
      refine ⟨c.ev, "claim", a, b, n, ta, d, v1, v2, [v4], kvs, rfl, hta, (fun z => nomatch z), j1, j2, hd, hE, o1, o2, fun H1 s1 => ⟨_, rfl, ?_⟩⟩
      have hc1 := s1 _ _ hc
      change Post K A B H R fs ans most (if a.val c.ev - b.val c.ev ≤ n then ({ m with stk := c.to (c.place + 1) :: r }, none) else (m, some (.fault "claim" c.fn c.place))) Q at q
      by_cases z : a.val c.ev - b.val c.ev ≤ n
      · rw [if_pos z] at q
        rw [decide_eq_true z]
        refine iteT ⟨_, rfl, ca, _, dc, _, _, rfl, hc1, T.cl_Call, T.a_Call_place, callF_place, _, _, rfl, rfl, dc, _, hc1, by show 4 < 1000; decide, ?_⟩
        rw [show ((c.place : Nat) : Int) + 1 = ((c.place + 1 : Nat) : Int) from rfl, callF_put]
        obtain ⟨I2, i2⟩ := go (c.place + 1) H1 _ s1 rfl
        exact q _ _ _ I2 i2 rfl
      · rw [if_neg z] at q
        rw [decide_eq_false z]
        refine iteF ⟨_, rfl, _, _, _, _, rfl, rfl, Same.tup s1 hta, atI_nat (j := 0) rfl, rfl, _, rfl, itn (p := V.str "claim" = V.str "if") (by decide +kernel) ?_⟩
        refine ⟨_, rfl, ca, _, dc, _, _, rfl, hc1, T.cl_Call, T.a_Call_function, callF_fn, _, rfl, ca, _, dc, _, _, rfl, hc1, T.cl_Call, T.a_Call_place, callF_place, by show 4 ≤ sizeLine; decide, fun p hp => ?_⟩
        have s2 := same_upd (o := .tup [.str "fault", .str "claim", .int (c.fn : Nat), .int (c.place : Nat)]) hp
        exact q _ _ _ ((hI.up s1).up s2) ((sameI_of s1).trans (sameI_of s2)) (.tup (.inl (.inl upd_same)) (.cons (.str _) (.cons (.str _) (.cons (.int _) (.cons (.int _) .nil)))))
end
end Cs
namespace Cs
open PySem PySem.Spec L2
section
variable {P : Program} {w : World} {K : PySem.W.Frag} {mg : Str → Option Value} {base : Heap} {A : Adr}
def okInt (n : Int) : Prop := -1000000 ≤ n ∧ n ≤ 1000000
def okHand (k : Kd) (w : Wt) : Prop := w.kd = k ∧ okInt w.i ∧ w.xs.length ≤ 40 ∧ ∀ i ∈ w.xs, okInt i
def spHanded : Sp := fun vs H Q _ => ∃ n : Int, vs = [.int n] ∧ okInt n ∧ Q (.bl true) H
theorem ok_is_handed_number (T : Tx K w mg A) : FnOk P w K mg base CX0 3 A.f_is_handed_number A.fd_is_handed_number P_is_handed_number spHanded := by
  have G_is_between := ok_is_between (P := P) (base := base) T
  refine T.F_is_handed_number.ok sc_is_handed_number (fun vs H Q E h => ?_) (fun cdv AA outer s H vs Q E hr h => ?_)
  · obtain ⟨n, rfl, _⟩ := h
    rfl
  · obtain ⟨n, rfl, hn, q⟩ := h
    refine ⟨_, (pss_one (ps_ret (pe_call G_is_between (hr.mono (by decide)) (by rfl) T.g_is_between T.F_is_between.kp T.b_is_between .nil pass0 (pa_cons (pv 0) (pa_cons (pe_un un_neg (pe_glob (v := .int 1000000) rfl T.c_FARTHEST_HANDED ⟨_, rfl⟩)) (pa_cons (pe_glob (v := .int 1000000) rfl T.c_FARTHEST_HANDED ⟨_, rfl⟩) pa_nil)))))), ?_⟩
    refine ⟨_, rfl, _, rfl, n, -1000000, 1000000, rfl, ?_⟩
    rw [decide_eq_true (show (-1000000 : Int) ≤ n ∧ n ≤ 1000000 from hn)]
    exact q
def spCanHand (K : PySem.W.Frag) : Sp := fun vs H Q _ => ∃ (v : V) (kd : Kd) (wt : Wt), vs = [v, kd.v] ∧ Im K H v wt.d ∧ okHand kd wt ∧ ∀ H1, Same H H1 → Q (.bl true) H1
theorem ok_can_be_handed (T : Tx K w mg A) : FnOk P w K mg base CX0 4 A.f_can_be_handed A.fd_can_be_handed P_can_be_handed (spCanHand K) := by
  have G_is_handed_number := ok_is_handed_number (P := P) (base := base) T
  refine T.F_can_be_handed.ok sc_can_be_handed (fun vs H Q E h => ?_) (fun cdv AA outer s H vs Q E hr h => ?_)
  · obtain ⟨v, kd, wt, rfl, _⟩ := h
    rfl
  · obtain ⟨v, kd, wt, rfl, hv, ⟨hk, h1, h2, h3⟩, q⟩ := h
    refine ⟨_, (pss_cons (ps_if (pt_cmpR op_eq (pv 1) pe_str (nomark _))
  (pss_one (ps_ret (pe_call G_is_handed_number (hr.mono (by decide)) (by rfl) T.g_is_handed_number T.F_is_handed_number.kp T.b_is_handed_number .nil pass0 (pa_cons (pv 0) pa_nil))))
  pss_nil)
  (pss_cons (ps_if (PW.pt (pw_or (pt_not (pt_val (pe_callB call_isi (by rfl) T.n_isinstance (by decide +kernel) (pa_cons (pv 0) (pa_cons (pe_bltn (v := .ty "tuple") (u := .type "tuple") (by rfl) T.n_tuple (by decide +kernel) rfl) pa_nil))))) (pw_or1 (pt_cmpR op_gt (pe_callB call_len (by rfl) T.n_len (by decide +kernel) (pa_cons (pv 0) pa_nil)) (pe_glob (v := .int 40) rfl T.c_MOST_ITEMS ⟨_, rfl⟩) (nomark _)))))
  (pss_one (ps_ret pe_bl))
  pss_nil)
  (pss_one (ps_ret (pe_callB (cr_all rfl) (by rfl) T.n_all (by decide +kernel) (pa_cons (pe_lc (own := [("item", 2)]) (g := (gName 2)) (tt := tYes) (te := _) rfl sc_can_be_handed.nd (pi_tup (pv 0)) (blkOk_by (N := N_can_be_handed) (sc := defScope s_can_be_handed) (by decide +kernel)) (fun _ _ _ _ _ => (pg_name (i := 2) sc_can_be_handed.nd rfl (.inl rfl))) (fun _ _ _ _ _ => pts_nil) (fun _ _ _ _ _ => (pe_call G_is_handed_number (hr.mono (by decide)) (by rfl) T.g_is_handed_number T.F_is_handed_number.kp T.b_is_handed_number .nil pass0 (pa_cons (pv 2) pa_nil)))) pa_nil)))))), ?_⟩
    cases kd with
    | num =>
      obtain rfl := im_n hv hk
      exact ⟨_, rfl, rfl, _, rfl, itd (p := V.str "number" = V.str "number") rfl ⟨_, rfl, _, rfl, h1, q _ (Same.refl _)⟩⟩
    | lst =>
      obtain ⟨a, rfl, ha⟩ := im_l hv hk
      refine ⟨_, rfl, rfl, _, rfl, itn (p := V.str "list" = V.str "number") (by decide +kernel) ?_⟩
      refine ⟨_, rfl, _, _, _, _, true, rfl, .ty "tuple", tyx_tup ha, kv (by decide +kernel), true, rfl, iteF ⟨_, rfl, _, _, rfl, .inr ⟨_, ha, (List.length_map _).symm⟩, _, _, rfl, rfl, _, rfl, itn (show ¬ (40 : Int) < ((wt.xs.length : Nat) : Int) by omega) ?_⟩⟩
      refine ⟨_, rfl, a, rfl, ⟨_, ha⟩, fun D hD => ?_⟩
      refine lc_data (walk_tup (K := K) (a := a) (xs := wt.xs.map V.int)) (fun i y H => y = .bl true) (fun i v H H2 si e => e) hD (fun H3 s3 => Same.tup s3 ha) (by rw [List.length_map]; omega) ?_ ?_
      · rintro i y H3 H4 k hi s3 ⟨rfl, hy⟩ hk
        rw [List.getElem?_map] at hy
        obtain ⟨z, hz, rfl⟩ := Option.map_eq_some_iff.mp hy
        exact ⟨rfl, _, rfl, z, rfl, h3 z (List.mem_of_getElem? hz), hk _ _ (Same.refl _) rfl⟩
      · rintro H3 acc s3 e3 hl hE3
        refine ⟨D, List.replicate acc.length true, rfl, trues e3 hE3, ?_⟩
        rw [trues_all]
        exact q _ s3
def spChAnswers (K : PySem.W.Frag) : Sp := fun vs H Q _ => ∃ (a : Addr) (ans : List Int), vs = [.ref a] ∧ SqL K H a (ans.map V.int) ∧ ans.length ≤ 1000 ∧ (∀ i ∈ ans, okInt i) ∧ ∀ H1, Same H H1 → Q .non H1
theorem ok_check_answers (T : Tx K w mg A) : FnOk P w K mg base CX0 4 A.f_check_answers A.fd_check_answers P_check_answers (spChAnswers K) := by
  have G_is_handed_number := ok_is_handed_number (P := P) (base := base) T
  refine T.F_check_answers.ok sc_check_answers (fun vs H Q E h => ?_) (fun cdv AA outer s H vs Q E hr h => ?_)
  · obtain ⟨a, ans, rfl, _⟩ := h
    rfl
  · obtain ⟨a, ans, rfl, ha, hl, hi, q⟩ := h
    refine ⟨_, (pss_one (ps_if (PW.pt (pw_or (pt_not (pt_val (pe_callB call_isi (by rfl) T.n_isinstance (by decide +kernel) (pa_cons (pv 0) (pa_cons (pe_bltn (v := .ty "list") (u := .type "list") (by rfl) T.n_list (by decide +kernel) rfl) pa_nil))))) (pw_or1 (pt_not (pt_val (pe_callB (cr_all rfl) (by rfl) T.n_all (by decide +kernel) (pa_cons (pe_lc (own := [("answer", 1)]) (g := (gName 1)) (tt := tYes) (te := _) rfl sc_check_answers.nd (pi_list (pv 0)) (blkOk_by (N := N_check_answers) (sc := defScope s_check_answers) (by decide +kernel)) (fun _ _ _ _ _ => (pg_name (i := 1) sc_check_answers.nd rfl (.inl rfl))) (fun _ _ _ _ _ => pts_nil) (fun _ _ _ _ _ => (pe_call G_is_handed_number (hr.mono (by decide)) (by rfl) T.g_is_handed_number T.F_is_handed_number.kp T.b_is_handed_number .nil pass0 (pa_cons (pv 1) pa_nil)))) pa_nil)))))))
  pss_never
  pss_nil)), ?_⟩
    refine ⟨_, rfl, _, _, _, _, true, rfl, .ty "list", tyx_lst ha, kv (by decide +kernel), true, rfl, iteF ?_⟩
    refine ⟨_, rfl, a, rfl, ⟨_, ha⟩, fun D hD => ?_⟩
    refine lc_data (walk_list (K := K) (a := a) (xs := ans.map V.int)) (fun i y H => y = .bl true) (fun i v H H2 si e => e) hD (fun H3 s3 => s3.seq ha) (by rw [List.length_map]; omega) ?_ ?_
    · rintro i y H3 H4 k hi2 s3 ⟨rfl, hy⟩ hk
      rw [List.getElem?_map] at hy
      obtain ⟨z, hz, rfl⟩ := Option.map_eq_some_iff.mp hy
      exact ⟨rfl, _, rfl, z, rfl, hi z (List.mem_of_getElem? hz), hk _ _ (Same.refl _) rfl⟩
    · rintro H3 acc s3 e3 hl hE3
      refine ⟨D, List.replicate acc.length true, rfl, trues e3 hE3, true, ?_, iteF (q _ s3)⟩
      rw [trues_all]
def spChArgs (K : PySem.W.Frag) : Sp := fun vs H Q _ => ∃ (p a : Addr) (qs : List Addr) (ps : Nm) (avs : List V) (ws : List Wt), vs = [.ref p, .ref a] ∧ PlT H p (qs.map V.ref) ∧ Paired (PrAt K H) qs ps ∧ SqL K H a avs ∧ ImAll K H avs (ws.map Wt.d) ∧ Paired (fun (p : Str × Kd) w => okHand p.2 w) ps ws ∧ ps.length ≤ 4 ∧ ∀ H1, Same H H1 → Q .non H1
theorem ok_check_args (T : Tx K w mg A) : FnOk P w K mg base CX0 5 A.f_check_args A.fd_check_args P_check_args (spChArgs K) := by
  have G_can_be_handed := ok_can_be_handed (P := P) (base := base) T
  refine T.F_check_args.ok sc_check_args (fun vs H Q E h => ?_) (fun cdv AA outer s H vs Q E hr h => ?_)
  · obtain ⟨p, a, qs, ps, avs, ws, rfl, _⟩ := h
    rfl
  · obtain ⟨p, a, qs, ps, avs, ws, rfl, hp, hqs, ha, hav, hw, hl, q⟩ := h
    refine ⟨_, (pss_cons (ps_if (PW.pt (pw_or (pt_not (pt_val (pe_callB call_isi (by rfl) T.n_isinstance (by decide +kernel) (pa_cons (pv 1) (pa_cons (pe_bltn (v := .ty "list") (u := .type "list") (by rfl) T.n_list (by decide +kernel) rfl) pa_nil))))) (pw_or1 (pt_cmpR op_ne (pe_callB call_len (by rfl) T.n_len (by decide +kernel) (pa_cons (pv 1) pa_nil)) (pe_callB call_len (by rfl) T.n_len (by decide +kernel) (pa_cons (pv 0) pa_nil)) (nomark _)))))
  pss_never
  pss_nil)
  (pss_one (ps_for PassesOwn.never rfl (pi_zipM (by rfl) T.n_zip (pa_cons (pv 0) (pa_cons (pv 1) pa_nil))) (pg_tup (by rfl) (pgs_cons (pg_tup (by rfl) (pgs_cons (pg_name (i := 2) sc_check_args.nd rfl (.inl rfl)) (pgs_cons (pg_name (i := 3) sc_check_args.nd rfl (.inl rfl)) pgs_nil))) (pgs_cons (pg_name (i := 4) sc_check_args.nd rfl (.inl rfl)) pgs_nil)))
  (pss_one (ps_if (pt_not (pt_val (pe_call G_can_be_handed (hr.mono (by decide)) (by rfl) T.g_can_be_handed T.F_can_be_handed.kp T.b_can_be_handed .nil pass0 (pa_cons (pv 4) (pa_cons (pv 3) pa_nil)))))
  pss_never
  pss_nil))))), ?_⟩
    have l1 : qs.length = ps.length := Paired.length hqs
    have l2 : ps.length = ws.length := Paired.length hw
    have l3 : avs.length = ps.length := by rw [hav.length, List.length_map, l2]
    have l4 : (qs.map V.ref).length = avs.length := by rw [List.length_map, l1, l3]
    refine ⟨_, rfl, _, _, _, _, true, rfl, .ty "list", tyx_lst ha, kv (by decide +kernel), true, rfl, iteF ⟨_, rfl, _, _, rfl, .inl ⟨_, ha, rfl⟩, _, rfl, _, _, rfl, .inr ⟨_, hp.sq, rfl⟩, rfl, _, rfl, ?_⟩⟩
    rw [l4]
    refine itnd (p := V.int (avs.length : Nat) = V.int (avs.length : Nat)) rfl ?_
    refine ⟨_, rfl, _, rfl, p, a, _, _, rfl, hp.sq, ha, ?_⟩
    refine for_it (n := avs.length) (G := fun H1 => Same H H1) (Y := fun i H v H' => ∃ T x' y', v = .ref T ∧ H T = none ∧ H' = upd H T (.tup [x', y']) ∧ (qs.map V.ref)[i]? = some x' ∧ avs[i]? = some y') ⟨?_, ?_, ?_⟩
      (fun i σ H1 => ∃ y1 y2 y3, σ = [some (.ref p), some (.ref a), y1, y2, y3] ∧ Same H H1) ⟨_, _, _, rfl, Same.refl _⟩ (fun i σ H1 _ ⟨_, _, _, _, s1⟩ => s1) ?_ ?_
    · intro i H1 hi s1
      exact ⟨Same.tup s1 hp.sq, s1.seq ha, by rw [l4]; omega⟩
    · intro H1 s1
      exact ⟨Same.tup s1 hp.sq, s1.seq ha, by rw [l4]; omega⟩
    · rintro i H1 v H2 hi s1 y
      exact y
    · rintro i x σ H2 H1 hi ⟨y1, y2, y3, rfl, s1⟩ ⟨T1, u1, u2, rfl, hT, rfl, e1, e2⟩
      rw [List.getElem?_map] at e1
      obtain ⟨pq, e3, rfl⟩ := Option.map_eq_some_iff.mp e1
      obtain ⟨pr, e4, hpr⟩ := paired_get hqs e3
      obtain ⟨wt, e5, hwt⟩ := paired_get hw e4
      obtain ⟨d, e6, hd⟩ := hav.get e2
      rw [List.getElem?_map, e5] at e6
      cases e6
      have s2 := same_upd (o := .tup [.ref pq, u2]) hT
      have s12 := s1.trans s2
      refine ⟨T1, _, rfl, .inl (.inl upd_same), rfl, _, _, rfl, ⟨pq, _, rfl, Same.tup s12 hpr, rfl, _, _, rfl, _, _, rfl, rfl, ?_⟩⟩
      refine ⟨_, _, rfl, rfl, ?_⟩
      exact ⟨_, rfl, _, rfl, u2, pr.2, wt, rfl, hd.same (sameI_of s12), hwt, fun H3 s3 => ⟨true, rfl, iteF ⟨_, _, _, rfl, s12.trans s3⟩⟩⟩
    · rintro σ H2 ⟨y1, y2, y3, rfl, s1⟩
      exact q _ s1
end
end Cs
namespace Cs
open PySem PySem.Spec L2
def compSc : Expr → Scope
  | .ListComp _ _ sc _ => sc
  | _ => { kind := .function, names := [], isGenerator := false, isCoroutine := false }
def asgE : Stmt → Expr
  | .Assign _ e _ => e
  | _ => .Constant .none 0 ⟨0, 0, 0, 0⟩
section
variable {P : Program} {w : World} {K : PySem.W.Frag} {mg : Str → Option Value} {base : Heap} {A : Adr}
theorem paired_ix {α β : Type} {R : α → β → Prop} : ∀ {l : List α} {m : List β}, l.length = m.length → (∀ (i : Nat) x y, l[i]? = some x → m[i]? = some y → R x y) → Paired R l m
  | [], [], _, _ => .nil
  | [], _ :: _, e, _ => nomatch e
  | _ :: _, [], e, _ => nomatch e
  | x :: l, y :: m, e, h => .cons (h 0 x y rfl rfl) (paired_ix (Nat.succ.inj e) fun i x y e1 e2 => h (i + 1) x y e1 e2)
theorem few8 {fs : List (Str × V)} (h : fs.length ≤ 8) : fs.length < 1000 := by omega
theorem putF_len (f : Str) (v : V) : ∀ fs : List (Str × V), (putF f v fs).length ≤ fs.length + 1
  | [] => Nat.le_refl _
  | (k, x) :: r => by
    show (if k = f then (k, v) :: r else (k, x) :: putF f v r).length ≤ _
    by_cases h : k = f
    · rw [if_pos h]
      exact Nat.le_succ _
    · rw [if_neg h]
      exact Nat.succ_le_succ (putF_len f v r)
theorem putF_le {f : Str} {v : V} {fs : List (Str × V)} {n : Nat} (h : fs.length ≤ n) : (putF f v fs).length ≤ n + 1 := Nat.le_trans (putF_len f v fs) (Nat.succ_le_succ h)
def spRunInit (K : PySem.W.Frag) (A : Adr) : Sp := fun vs H Q _ => ∃ (p dx a : Addr) (pgv : V) (fs : List Fn) (ans : List Int) (most : Nat), vs = [.ref p, pgv, .ref a, .int (most : Nat)] ∧ H p = some (.ins A.C_Run dx []) ∧ PgAt K H pgv fs ∧ okPg fs ∧ SqL K H a (ans.map V.int) ∧
  ∀ (B H1 : Hp) (R : RA), RunIn K A B H1 R [] fs ans most ⟨0, [], [], []⟩ → R.p = p → (∀ b o, b ≠ p → H b = some o → B b = some o) → Q .non H1
theorem ok_Run_init (T : Tx K w mg A) : FnOk P w K mg base CX0 2 A.f_Run_init A.fd_Run_init P_Run_init (spRunInit K A) := by
  have G_numbered : FnOk P w K mg base CX0 1 A.f_numbered A.fd_numbered P_numbered (fun vs H Q E => ∃ t, spNumbered K t vs H Q E) :=
    ⟨fun vs H Q E ⟨t, h⟩ => (ok_numbered (P := P) (base := base) T t).len vs H Q E h, fun AA outer s H args us vs Q E hr he hb hv ⟨t, h⟩ => (ok_numbered (P := P) (base := base) T t).run AA outer s H args us vs Q E hr he hb hv h⟩
  refine T.F_Run_init.ok sc_Run_init (fun vs H Q E h => ?_) (fun cdv AA outer s H vs Q E hr h => ?_)
  · obtain ⟨p, dx, a, pgv, fs, ans, most, rfl, _⟩ := h
    rfl
  · obtain ⟨p, dx, a, pgv, fs, ans, most, rfl, hp, hpg, hok, ha, q⟩ := h
    refine ⟨_, (pss_cons (ps_fld (pv 0) (pe_lc (own := [("function", 4)]) (g := (gName 4)) (tt := tYes) (te := (tLc (iTup K (tOp (rIxT K) (tVar 4) (tC (.int 0)))) (gTup K 2 (gCons (gName 5) (gCons (gName 6) gNil))) tYes (tVar 5) [5, 6])) rfl sc_Run_init.nd (pi_tup (pv 1)) (blkOk_by (N := N_Run_init) (sc := defScope s_Run_init) (by decide +kernel)) (fun _ _ _ _ _ => (pg_name (i := 4) sc_Run_init.nd rfl (.inl rfl))) (fun _ _ _ _ _ => pts_nil) (fun _ _ _ _ _ => (pe_lc (own := [("name", 5), ("_", 6)]) (g := (gTup K 2 (gCons (gName 5) (gCons (gName 6) gNil)))) (tt := tYes) (te := (tVar 5)) rfl sc_Run_init.nd (pi_tup (pe_ix ix_tup (pv 4) pe_int (fun _ _ => rfl))) (blkOk_by (N := N_Run_init) (sc := compSc (asgE ((defBody s_Run_init).getD 0 (.Pass ⟨0, 0, 0, 0⟩)))) (by decide +kernel)) (fun _ _ _ _ _ => (pg_tup (by rfl) (pgs_cons (pg_name (i := 5) sc_Run_init.nd rfl (.inl rfl)) (pgs_cons (pg_name (i := 6) sc_Run_init.nd rfl (.inl rfl)) pgs_nil)))) (fun _ _ _ _ _ => pts_nil) (fun _ _ _ _ _ => (pv 5))))) rfl)
  (pss_cons (ps_fld (pv 0) (pe_lc (own := [("function", 4)]) (g := (gName 4)) (tt := tYes) (te := (tCall _ _ _ (tCons (tOp (rIxT K) (tVar 4) _) tNil))) rfl sc_Run_init.nd (pi_tup (pv 1)) (blkOk_by (N := N_Run_init) (sc := defScope s_Run_init) (by decide +kernel)) (fun _ _ _ _ _ => (pg_name (i := 4) sc_Run_init.nd rfl (.inl rfl))) (fun _ _ _ _ _ => pts_nil) (fun _ _ _ _ _ => (pe_call G_numbered (hr.mono (by decide)) (by rfl) T.g_numbered T.F_numbered.kp T.b_numbered .nil pass0 (pa_cons (pe_ix ix_tup (pv 4) pe_int (fun _ _ => rfl)) pa_nil)))) rfl)
  (pss_cons (ps_fld (pv 0) (pv 2) rfl)
  (pss_cons (ps_fld (pv 0) pe_int rfl)
  (pss_cons (ps_fld (pv 0) (pv 3) rfl)
  (pss_cons (ps_fld (pv 0) (pe_lst pa_nil) rfl)
  (pss_cons (ps_fld (pv 0) pe_dnewK rfl)
  (pss_one (ps_fld (pv 0) (pe_lst pa_nil) rfl))))))))), ?_⟩
    obtain ⟨pa, pvs, rfl, hpt, hpall⟩ := id hpg
    have hl := Paired.length hpall
    have h6 := hok.2.1
    refine ⟨_, rfl, pa, rfl, ⟨_, hpt⟩, fun D hD => ?_⟩
    refine lc_new (walk_tup (K := K) (a := pa) (xs := pvs)) (fun i y H => ∃ f q, fs[i]? = some f ∧ y = .ref q ∧ H q = some (.lst (f.ps.map fun p => .str p.1)) ∧ q ≠ D) (fun i v H H2 acc _ sx ⟨f, q, e1, e2, e3, e4⟩ => ⟨f, q, e1, e2, sx _ _ e4 e3, e4⟩) hD (fun H3 s3 => Same.tup s3 hpt) (by omega) ?_ ?_
    · rintro i y H3 H4 k hi s3 ⟨acc0, eD⟩ ⟨rfl, hy⟩ hk
      obtain ⟨f, hf, fa, fp, ftv, fqs, rfl, hft, hfp, hfps, hftr⟩ := paired_get hpall hy
      have hfl : f.ps.length ≤ 4 := (pg_fn hok hf).1
      refine ⟨rfl, _, rfl, _, _, _, _, rfl, rfl, Same.tup s3 hft, atI_nat (j := 0) rfl, fp, rfl, ⟨_, (hfp.same s3).sq⟩, fun D2 hD2 => ?_⟩
      refine lc_data (walk_tup (K := K) (a := fp) (xs := fqs.map V.ref)) (fun i y H => ∃ pr, f.ps[i]? = some pr ∧ y = .str pr.1) (fun i v H H2 si e => e) hD2 (fun H5 s5 => (hfp.same (s3.trans s5)).sq) (by rw [List.length_map, Paired.length hfps]; omega) ?_ ?_
      · rintro j z H5 H6 k2 hj s5 ⟨rfl, hz⟩ hk2
        rw [List.getElem?_map] at hz
        obtain ⟨qa, hqa, rfl⟩ := Option.map_eq_some_iff.mp hz
        obtain ⟨pr, hpr, hat⟩ := paired_get hfps hqa
        exact ⟨qa, _, rfl, Same.tup (s3.trans s5) hat, rfl, _, _, rfl, _, _, rfl, rfl, rfl, _, rfl, hk2 _ _ (Same.refl _) ⟨pr, hpr, rfl⟩⟩
      · rintro H5 acc2 s5 e5 hl5 hE5
        rw [List.length_map, Paired.length hfps] at hl5
        have ea : acc2 = f.ps.map fun p => V.str p.1 := List.ext_getElem? fun j => by
          rw [List.getElem?_map]
          cases hz : acc2[j]? with
          | none =>
            have := List.getElem?_eq_none_iff.mp hz
            rw [List.getElem?_eq_none (by omega)]
            rfl
          | some y =>
            obtain ⟨pr, e1, e2⟩ := hE5 j y hz
            rw [e1, e2]
            rfl
        rw [ea] at e5
        exact hk _ _ s5 ⟨f, D2, hf, rfl, e5, Ne.symm (ne_of_none eD hD2)⟩
    rintro H1 acc1 s1 e1 hl1 hE1
    refine ⟨_, rfl, p, _, dx, _, rfl, s1 _ _ hp, T.cl_Run, T.a_Run_names, by show 0 < 1000; decide, ?_⟩
    -- the names' list stands
    have hp1 := s1 _ _ hp
    have pD : p ≠ D := ne_of hp1 e1 (by intro z; cases z)
    have hlen1 : acc1.length = fs.length := by rw [hl1, hl]
    have hnames : ∀ H2 : Hp, (∀ x o, x ≠ p → H1 x = some o → H2 x = some o) → SqL K H2 D acc1 ∧ Paired (fun v (f : Fn) => ∃ q, v = .ref q ∧ SqL K H2 q (f.ps.map fun p => .str p.1)) acc1 fs := by
      intro H2 st
      refine ⟨.inl (.inl (st _ _ (Ne.symm pD) e1)), paired_ix hlen1 fun j y f g1 g2 => ?_⟩
      obtain ⟨f2, q2, g3, g4, g5, _⟩ := hE1 j y g1
      rw [g2] at g3
      cases g3
      exact ⟨q2, g4, .inl (.inl (st _ _ (ne_of g5 hp1 (by intro z; cases z)) g5))⟩
    have b1 : But [p] H1 (upd H1 p (.ins A.C_Run dx (putF "names" (.ref D) []))) := fun b o hb e => by
      rw [upd_ne (fun z => hb (List.mem_singleton.mpr z))]
      exact e
    have hp2 : (upd H1 p (.ins A.C_Run dx (putF "names" (.ref D) []))) p = some (.ins A.C_Run dx (putF "names" (.ref D) [])) := upd_same
    have i1 : SameI H (upd H1 p (.ins A.C_Run dx (putF "names" (.ref D) []))) := (sameI_of s1).trans (sameI_upd hp1 id)
    generalize upd H1 p (.ins A.C_Run dx (putF "names" (.ref D) [])) = H2 at *
    have hpt2 := i1.tup hpt
    refine ⟨_, rfl, pa, rfl, ⟨_, hpt2⟩, fun D2 hD2 => ?_⟩
    refine lc_new (walk_tup (K := K) (a := pa) (xs := pvs)) (fun i y H => ∃ (f : Fn) (q tl od : Addr) (xs : List V), fs[i]? = some f ∧ y = .ref q ∧ SqT K H q [.ref tl, .ref od] ∧ H tl = some (.lst xs) ∧ tl ≠ D2 ∧ ImAll K H xs (f.tr.pre.map Tr.d) ∧ H od = some (.dK (othK (oths f.tr 0))))
      (fun i v H H2 acc hD sx ⟨f, q, tl, od, xs, g1, g2, g3, g4, g5, g6, g7⟩ => ⟨f, q, tl, od, xs, g1, g2, (sx.i hD id).tup g3, sx _ _ g5 g4, g5, g6.same (sx.i hD id), sx _ _ (ne_of g7 hD (by intro z; cases z)) g7⟩) hD2 (fun H3 s3 => Same.tup s3 hpt2) (by omega) ?_ ?_
    · rintro i y H3 H4 k hi s3 ⟨acc0, eD⟩ ⟨rfl, hy⟩ hk
      obtain ⟨f, hf, fa, fp, ftv, fqs, rfl, hft, hfp, hfps, hftr⟩ := paired_get hpall hy
      have i3 := i1.trans (sameI_of s3)
      refine ⟨rfl, _, rfl, _, _, _, _, rfl, rfl, i3.tup hft, atI_nat (j := 2) rfl, f.tr, ftv, rfl, hftr.same i3, (pg_fn hok hf).2.2.2.2.1, fun H5 q5 tl od xs s5 n1 n2 n3 g1 g2 g3 g4 => ?_⟩
      exact hk _ _ s5 ⟨f, q5, tl, od, xs, hf, rfl, g1, g2, Ne.symm (ne_of_none eD n1), g3, g4⟩
    rintro H3 acc3 s3 e3 hl3 hE3
    have hlen3 : acc3.length = fs.length := by rw [hl3, hl]
    have hp3 := s3 _ _ hp2
    have pD2 : p ≠ D2 := ne_of hp3 e3 (by intro z; cases z)
    have i3 := i1.trans (sameI_of s3)
    -- the attributes
    have l0 : ([] : List (Str × V)).length ≤ 0 := Nat.le_refl 0
    refine ⟨_, rfl, p, _, dx, _, rfl, hp3, T.cl_Run, T.a_Run_trees, few8 (Nat.le_trans (putF_le l0) (by decide)), ?_⟩
    refine ⟨_, rfl, _, rfl, p, _, dx, _, rfl, upd_same, T.cl_Run, T.a_Run_answers, few8 (Nat.le_trans (putF_le (putF_le l0)) (by decide)), ?_⟩
    refine ⟨_, rfl, p, _, dx, _, rfl, upd_same, T.cl_Run, T.a_Run_asked, few8 (Nat.le_trans (putF_le (putF_le (putF_le l0))) (by decide)), ?_⟩
    refine ⟨_, rfl, _, rfl, p, _, dx, _, rfl, upd_same, T.cl_Run, T.a_Run_most, few8 (Nat.le_trans (putF_le (putF_le (putF_le (putF_le l0)))) (by decide)), ?_⟩
    refine ⟨Nat.zero_le _, fun b hb => ?_⟩
    have npb : p ≠ b := fun z => by rw [← z, upd_same] at hb; cases hb
    have hb3 : H3 b = none := by
      rw [upd_ne (Ne.symm npb), upd_ne (Ne.symm npb), upd_ne (Ne.symm npb), upd_ne (Ne.symm npb)] at hb
      exact hb
    refine ⟨_, rfl, p, _, dx, _, rfl, by rw [upd_ne npb]; exact upd_same, T.cl_Run, T.a_Run_begun, few8 (Nat.le_trans (putF_le (putF_le (putF_le (putF_le (putF_le l0))))) (by decide)), ?_⟩
    intro td htd
    have nptd : p ≠ td := fun z => by rw [← z, upd_same] at htd; cases htd
    rw [upd_ne (Ne.symm nptd)] at htd
    have nbtd : b ≠ td := fun z => by rw [← z, upd_same] at htd; cases htd
    rw [upd_ne (Ne.symm nbtd), upd_ne (Ne.symm nptd), upd_ne (Ne.symm nptd), upd_ne (Ne.symm nptd), upd_ne (Ne.symm nptd)] at htd
    refine ⟨_, rfl, p, _, dx, _, rfl, by rw [upd_ne nptd]; exact upd_same, T.cl_Run, T.a_Run_told, few8 (Nat.le_trans (putF_le (putF_le (putF_le (putF_le (putF_le (putF_le l0)))))) (by decide)), ?_⟩
    refine ⟨Nat.zero_le _, fun o ho => ?_⟩
    have npo : p ≠ o := fun z => by rw [← z, upd_same] at ho; cases ho
    rw [upd_ne (Ne.symm npo)] at ho
    have ntdo : td ≠ o := fun z => by rw [← z, upd_same] at ho; cases ho
    rw [upd_ne (Ne.symm ntdo), upd_ne (Ne.symm npo)] at ho
    have nbo : b ≠ o := fun z => by rw [← z, upd_same] at ho; cases ho
    rw [upd_ne (Ne.symm nbo), upd_ne (Ne.symm npo), upd_ne (Ne.symm npo), upd_ne (Ne.symm npo), upd_ne (Ne.symm npo)] at ho
    refine ⟨_, rfl, p, _, dx, _, rfl, by rw [upd_ne npo]; exact upd_same, T.cl_Run, T.a_Run_open_calls, few8 (Nat.le_trans (putF_le (putF_le (putF_le (putF_le (putF_le (putF_le (putF_le l0))))))) (by decide)), ?_⟩
    rw [runF_made]
    -- what stands
    have old : ∀ {x : Addr} {u : HO}, x ≠ p → H3 x = some u → x ≠ b ∧ x ≠ td ∧ x ≠ o := fun hx e => ⟨ne_of_none e hb3, ne_of_none e htd, ne_of_none e ho⟩
    have eb : ∀ {fl : List (Str × V)} {G : Hp}, G b = some (.lst []) → (upd G p (.ins A.C_Run dx fl)) b = some (.lst []) := fun h => by rw [upd_ne (Ne.symm npb)]; exact h
    refine q (fun x => if x = p then none else H3 x) _ ⟨p, dx, D, D2, a, b, td, o⟩ ⟨⟨?_, ?_, ?_⟩, ?_, ⟨upd_same, ⟨[], ?_, .nil⟩, ⟨[], ?_, .nil⟩, ?_, .nil, ?_⟩, ?_⟩ rfl ?_
    · obtain ⟨g1, g2⟩ := hnames (fun x => if x = p then none else H3 x) fun x u hx e => by
        show (if x = p then none else H3 x) = some u
        rw [if_neg hx]
        exact s3 _ _ (b1 _ _ (by simp [hx]) e)
      exact ⟨acc1, g1, g2⟩
    · refine ⟨acc3, .inl (.inl (by show (if D2 = p then none else H3 D2) = _; rw [if_neg (Ne.symm pD2)]; exact e3)), paired_ix hlen3 fun j y f g1 g2 => ?_⟩
      obtain ⟨f2, q2, tl, od, xs, g3, g4, g5, g6, g7, g8, g9⟩ := hE3 j y g1
      rw [g2] at g3
      cases g3
      have iB : SameI H3 (fun x => if x = p then none else H3 x) := fun x u i e => by
        show (if x = p then none else H3 x) = some u
        rw [if_neg (fun z => by rw [z, hp3] at e; cases e; exact i)]
        exact e
      refine ⟨q2, tl, od, xs, g4, iB.tup g5, .inl (.inl ?_), g8.same iB, ?_⟩
      · show (if tl = p then none else H3 tl) = _
        rw [if_neg (ne_of g6 hp3 (by intro z; cases z))]
        exact g6
      · show (if od = p then none else H3 od) = _
        rw [if_neg (ne_of g9 hp3 (by intro z; cases z))]
        exact g9
    · rcases ha with (h | ⟨u, h⟩) | h
      · refine .inl (.inl ?_)
        show (if a = p then none else H3 a) = _
        have na := ne_of h hp (by intro z; cases z)
        rw [if_neg na]
        exact s3 _ _ (b1 _ _ (by simp [na]) (s1 _ _ h))
      · refine .inl (.inr ⟨u, ?_⟩)
        show (if a = p then none else H3 a) = _
        have na := ne_of h hp (by intro z; cases z)
        rw [if_neg na]
        exact s3 _ _ (b1 _ _ (by simp [na]) (s1 _ _ h))
      · exact .inr h
    · intro x u e
      have e : (if x = p then none else H3 x) = some u := e
      by_cases hx : x = p
      · rw [if_pos hx] at e
        cases e
      · rw [if_neg hx] at e
        obtain ⟨x1, x2, x3⟩ := old hx e
        rw [upd_ne hx, upd_ne x3, upd_ne hx, upd_ne x2, upd_ne hx, upd_ne x1, upd_ne hx, upd_ne hx, upd_ne hx, upd_ne hx]
        exact e
    · rw [upd_ne (Ne.symm npb), upd_ne nbo, upd_ne (Ne.symm npb), upd_ne nbtd, upd_ne (Ne.symm npb), upd_same]
    · rw [upd_ne (Ne.symm nptd), upd_ne ntdo, upd_ne (Ne.symm nptd), upd_same]
    · rw [upd_ne (Ne.symm npo), upd_same]
      rfl
    · simp only [ladr, fadr, List.flatMap_nil, List.nodup_cons, List.mem_cons, List.not_mem_nil, or_false, not_or, not_false_eq_true, List.nodup_nil, and_true]
      exact ⟨⟨npb, nptd, npo⟩, ⟨nbtd, nbo⟩, ntdo⟩
    · intro x hx
      simp only [ladr, fadr, List.flatMap_nil, List.mem_cons, List.not_mem_nil, or_false] at hx
      show (if x = p then none else H3 x) = none
      rcases hx with z | z | z | z
      · rw [if_pos z]
      · rw [z, if_neg (Ne.symm npb)]
        exact hb3
      · rw [z, if_neg (Ne.symm nptd)]
        exact htd
      · rw [z, if_neg (Ne.symm npo)]
        exact ho
    · intro x u hx e
      show (if x = p then none else H3 x) = some u
      rw [if_neg hx]
      exact s3 _ _ (b1 _ _ (by simp [hx]) (s1 _ _ e))
end
end Cs
namespace Cs
open PySem PySem.Spec L2
section
variable {P : Program} {w : World} {K : PySem.W.Frag} {mg : Str → Option Value} {base : Heap} {A : Adr}
def spTold (K : PySem.W.Frag) (A : Adr) : Sp := fun vs H Q _ => ∃ (B : Hp) (R : RA) (as : List (Addr × Addr)) (fs : List Fn) (ans : List Int) (most : Nat) (m : Mc), vs = [.ref R.p] ∧ RunIn K A B H R as fs ans most m ∧ m.begun.length ≤ 1000 ∧
  ∀ H1 l cvs, Same H H1 → H l = none → H1 l = some (.lst cvs) → ImAll K H1 cvs ((callsOf m).map callD) → Q (.ref l) H1
theorem callsOf_get (m : Mc) {i : Nat} (h : i < m.begun.length) {q : Nat × List Wt} (e : m.begun[i]? = some q) : (callsOf m)[i]? = some (q.1, q.2, m.told.lookup i) := by
  unfold callsOf
  rw [List.getElem?_map, List.getElem?_range h]
  show some ((m.begun.getD i (0, [])).1, (m.begun.getD i (0, [])).2, m.told.lookup i) = _
  rw [List.getD_eq_getElem?_getD, e]
  rfl
theorem callsOf_len (m : Mc) : (callsOf m).length = m.begun.length := by unfold callsOf; rw [List.length_map, List.length_range]
theorem ok_Run_told_calls (T : Tx K w mg A) : FnOk P w K mg base CX0 1 A.f_Run_told_calls A.fd_Run_told_calls P_Run_told_calls (spTold K A) := by
  refine T.F_Run_told_calls.ok sc_Run_told_calls (fun vs H Q E h => ?_) (fun cdv AA outer s H vs Q E hr h => ?_)
  · obtain ⟨B, R, as, fs, ans, most, m, rfl, _⟩ := h
    rfl
  · obtain ⟨B, R, as, fs, ans, most, m, rfl, hI, hb1, q⟩ := h
    refine ⟨_, (pss_one (ps_ret (pe_lc (own := [("row", 1), ("function", 2), ("handed", 3)]) (g := (gTup K 2 (gCons (gName 1) (gCons (gTup K 2 (gCons (gName 2) (gCons (gName 3) gNil))) gNil)))) (tt := tYes) (te := (tTup (tCons (tVar 2) (tCons (tVar 3) (tCons (tDGet1 (tFld K (tVar 0) "told") (tVar 1)) tNil))))) rfl sc_Run_told_calls.nd (pi_enum (by rfl) T.n_enumerate (pa_cons (pe_fld (pv 0) rfl) pa_nil)) (blkOk_by (N := N_Run_told_calls) (sc := defScope s_Run_told_calls) (by decide +kernel)) (fun _ _ _ _ _ => (pg_tup (by rfl) (pgs_cons (pg_name (i := 1) sc_Run_told_calls.nd rfl (.inl rfl)) (pgs_cons (pg_tup (by rfl) (pgs_cons (pg_name (i := 2) sc_Run_told_calls.nd rfl (.inl rfl)) (pgs_cons (pg_name (i := 3) sc_Run_told_calls.nd rfl (.inl rfl)) pgs_nil))) pgs_nil)))) (fun _ _ _ _ _ => pts_nil) (fun _ _ _ _ _ => (pe_tup (pa_cons (pv 2) (pa_cons (pv 3) (pa_cons (pe_dget1 (hu_of hr) (pe_fld (pv 0) rfl) (pv 1) ⟨rfl, rfl, rfl, rfl⟩) pa_nil)))))))), ?_⟩
    have D := hI.dyn
    obtain ⟨bs, b1, b2⟩ := D.beg
    obtain ⟨kvs, t1, t2⟩ := D.tld
    have hbl : bs.length = m.begun.length := Paired.length b2
    refine ⟨_, rfl, R.p, _, R.dx, _, _, rfl, D.obj, T.cl_Run, T.a_Run_begun, runF_begun, R.b, _, rfl, SqL.of b1, fun Dl hDl => ?_⟩
    refine lc_data (walk_enum (K := K) (a := R.b) (xs := bs)) (fun i y H => ∃ c, (callsOf m)[i]? = some c ∧ Im K H y (callD c)) (fun i v H H2 si ⟨c, e1, e2⟩ => ⟨c, e1, e2.same si⟩) hDl (fun H3 s3 => s3.seq (SqL.of b1)) (by omega) ?_ ?_
    · rintro i y H3 H4 k hi s3 ⟨T1, u1, u2, rfl, hT, rfl, e1, e2⟩ hk
      cases e1
      obtain ⟨qb, hq, hat⟩ := paired_get b2 e2
      have s4 := same_upd (o := .tup [.int (i : Nat), u2]) hT
      have sA := s3.trans s4
      obtain ⟨ga, gh, gvs, rfl, g1, g2, g3⟩ := hat.i (sameI_of sA)
      have D4 := D.up sA
      have t14 := sA _ _ t1
      refine ⟨T1, _, rfl, .inl (.inl upd_same), rfl, _, _, rfl, _, _, rfl, ⟨ga, _, rfl, g1, rfl, _, _, rfl, _, _, rfl, rfl, rfl, ?_⟩⟩
      have hz := tdk_get (row := i) t2
      refine ⟨rfl, _, rfl, _, rfl, _, rfl, R.p, _, R.dx, _, _, rfl, D4.obj, T.cl_Run, T.a_Run_told, runF_told, R.td, rfl, .inl ⟨_, .inl t14⟩, _, rfl, _, DGet.k (k := .inl (i : Nat)) t14, by show 3 ≤ sizeLine; decide, fun g5 hg5 => ?_⟩
      have s5 := same_upd (o := .tup [.int (qb.1 : Nat), .ref gh, (valV kvs (.inl (i : Nat))).getD .non]) hg5
      have i5 := (sameI_of sA).trans (sameI_of s5)
      have hv0 : Im K H ((valV kvs (.inl (i : Nat))).getD .non) (match m.told.lookup i with | some w => w.d | none => .none) := by
        cases hl : m.told.lookup i with
        | none =>
          rw [hl] at hz
          have hz : valV kvs (.inl (i : Nat)) = none := hz
          rw [hz]
          exact .non
        | some wt =>
          rw [hl] at hz
          obtain ⟨v, z1, z2⟩ := hz
          rw [z1]
          exact z2
      refine hk _ _ (s4.trans s5) ⟨_, callsOf_get m (by omega) hq, ?_⟩
      exact .tup (.inl (.inl upd_same)) (.cons (.int _) (.cons (.tup (Same.tup s5 g2) (g3.same (sameI_of s5))) (.cons (hv0.same i5) .nil)))
    · rintro H3 acc s3 e3 hl hE3
      refine q H3 Dl acc s3 hDl e3 (ImAll.of (by rw [List.length_map, callsOf_len]; omega) fun i y d h1 h2 => ?_)
      obtain ⟨c, c1, c2⟩ := hE3 i y h1
      rw [List.getElem?_map, c1] at h2
      cases h2
      exact c2
end
end Cs
namespace Cs
open PySem PySem.Spec L2
section
variable {P : Program} {w : World} {K : PySem.W.Frag} {mg : Str → Option Value} {base : Heap} {A : Adr}
theorem zip_ns : ∀ {ps : Nm} {ws : List Wt}, Paired (fun (p : Str × Kd) w => w.kd = p.2) ps ws → nsOf ((ps.map (·.1)).zip ws) = ps
  | [], [], _ => rfl
  | p :: ps, w :: ws, .cons h t => by
    show (p.1, w.kd) :: nsOf ((ps.map (·.1)).zip ws) = _
    rw [h, zip_ns t]
theorem fine0 {fs : List Fn} {f0 : Fn} {ans : List Int} {most : Nat} {ws : List Wt} (ok : okPg fs) (h0 : fs[0]? = some f0) (hw : Paired (fun (p : Str × Kd) w => okHand p.2 w) f0.ps ws) (h1 : 1 ≤ most) (h3 : most ≤ 300) :
    Fine fs ans most (mc0 fs ws) ⟨0, 0, 0, (namesAt fs 0).zip ws⟩ [] f0 f0.tr := by
  obtain ⟨o1, o2, o3, o4, o5, o6⟩ := pg_fn ok h0
  have hna : namesAt fs 0 = f0.ps.map (·.1) := by
    unfold namesAt
    rw [h0]
    rfl
  have hmu : mu most (mc0 fs ws) ≤ 100000 := by
    show (most - 1) * 100 + (61 - 0 + 0) ≤ 100000
    omega
  refine ⟨rfl, ⟨h0, f0.tr.pre0, ?_, ?_⟩, .nil, ?_, ?_, h1, Nat.zero_le _, Nat.le_refl _, hmu, ?_⟩
  · show f0.tr.ok _ _ (nsOf ((namesAt fs 0).zip ws))
    rw [hna, zip_ns (Paired.mapP hw fun _ _ z => z.1)]
    exact o4
  · show ((namesAt fs 0).zip ws).length ≤ 0 + 4
    rw [hna, List.length_zip, List.length_map]
    omega
  · show [0].Nodup
    decide
  · intro i hi
    rw [List.mem_singleton.mp (show i ∈ [0] from hi)]
    exact Nat.zero_lt_one
  · intro c hc p hp
    rw [List.mem_singleton.mp (show c ∈ [_] from hc)] at hp
    have hp : p ∈ (namesAt fs 0).zip ws := hp
    have h5 : p.2 ∈ ws := (List.of_mem_zip (a := p.1) (b := p.2) hp).2
    have h6 : ∀ {ps : Nm} {ws : List Wt}, Paired (fun (p : Str × Kd) w => okHand p.2 w) ps ws → ∀ w ∈ ws, w.xs.length ≤ 40 := by
      intro ps ws h
      induction h with
      | nil => intro w hw; cases hw
      | cons a _ ih =>
        intro w hw
        rcases List.mem_cons.mp hw with e | e
        · rw [e]; exact a.2.2.1
        · exact ih w e
    have := h6 hw p.2 h5
    omega
def spRun (K : PySem.W.Frag) : Sp := fun vs H Q _ => ∃ (pgv : V) (fs : List Fn) (f0 : Fn) (aa an : Addr) (avs : List V) (ws : List Wt) (ans : List Int) (most : Nat), vs = [pgv, .ref aa, .ref an, .int (most : Nat)] ∧ PgAt K H pgv fs ∧ okPg fs ∧ fs[0]? = some f0 ∧ SqL K H aa avs ∧ ImAll K H avs (ws.map Wt.d) ∧ Paired (fun (p : Str × Kd) w => okHand p.2 w) f0.ps ws ∧
  SqL K H an (ans.map V.int) ∧ ans.length ≤ 1000 ∧ (∀ i ∈ ans, okInt i) ∧ 1 ≤ most ∧ most ≤ 300 ∧
  ∀ e m H1 t ev l cvs, Runs fs ans most (mc0 fs ws) e m → Same H H1 → H t = none → H l = none → SqT K H1 t [ev, .ref l] → Im K H1 ev e.d → H1 l = some (.lst cvs) → ImAll K H1 cvs ((callsOf m).map callD) → Q (.ref t) H1
theorem ends_ref {H : Hp} {v : V} {e : Ends2} (h : Im K H v e.d) : v ≠ .non := by
  cases e <;> (obtain ⟨a, _, rfl, _⟩ := im_tup h; exact fun z => nomatch z)
theorem runs_snoc {fs : List Fn} {ans : List Int} {most : Nat} {m0 m m1 : Mc} (h : ∀ e m2, Runs fs ans most m e m2 → Runs fs ans most m0 e m2) (s : stepF fs ans most m = (m1, none)) : ∀ e m2, Runs fs ans most m1 e m2 → Runs fs ans most m0 e m2 := fun e m2 r => h e m2 (.more s r)
theorem end_begun {fs : List Fn} {ans : List Int} {most : Nat} {m m1 : Mc} {e : Ends2} {c : Fr} {r : List Fr} {f : Fn} {t : Tr} (h : Fine fs ans most m c r f t) (s : stepF fs ans most m = (m1, some e)) : m1.begun = m.begun := by
  rw [stepF_at h.stk h.top.tree] at s
  cases t with
  | tell x =>
    cases r with
    | nil => cases s; rfl
    | cons c2 r2 =>
      change (match treeAt fs c2 with | some (.let_ y _ _) => _ | _ => _) = _ at s
      split at s <;> cases s
  | let_ x d u =>
    cases d with
    | call g xs =>
      change (if m.begun.length = most then (m, some Ends2.long) else (m.begin fs g (xs.map (egetD c.ev)), none)) = _ at s
      split at s <;> cases s
      rfl
    | ask => cases s
    | num n => cases s
    | sum x n => cases s
    | len l => cases s
    | nil => cases s
    | put x l => cases s
    | head l =>
      change (match Dd.bad c.ev (.head l) with | some w => (m, some (Ends2.fault w c.fn c.place)) | none => _) = _ at s
      split at s <;> cases s
      rfl
    | tail l =>
      change (match Dd.bad c.ev (.tail l) with | some w => (m, some (Ends2.fault w c.fn c.place)) | none => _) = _ at s
      split at s <;> cases s
      rfl
    | at_ l x =>
      change (match Dd.bad c.ev (.at_ l x) with | some w => (m, some (Ends2.fault w c.fn c.place)) | none => _) = _ at s
      split at s <;> cases s
      rfl
  | if_ a b n u v => cases s
  | claim a b n u =>
    change (if a.val c.ev - b.val c.ev ≤ n then _ else _) = _ at s
    split at s <;> cases s
    rfl
def spGo (K : PySem.W.Frag) (A : Adr) : Sp := fun vs H Q _ => ∃ (B : Hp) (R : RA) (fs : List Fn) (f0 : Fn) (ans : List Int) (most : Nat) (l : Addr) (avs : List V) (ws : List Wt), vs = [.ref R.p, .ref l] ∧ RunIn K A B H R [] fs ans most ⟨0, [], [], []⟩ ∧ okPg fs ∧ fs[0]? = some f0 ∧ SqT K H l avs ∧ ImAll K H avs (ws.map Wt.d) ∧ Paired (fun (p : Str × Kd) w => okHand p.2 w) f0.ps ws ∧ 1 ≤ most ∧ most ≤ 300 ∧
  ∀ H1 as e m v, RunIn K A B H1 R as fs ans most m → Runs fs ans most (mc0 fs ws) e m → Im K H1 v e.d → m.begun.length ≤ 1000 → Q v H1
theorem ok_Run_go (T : Tx K w mg A) : FnOk P w K mg base CX0 7 A.f_Run_go A.fd_Run_go P_Run_go (spGo K A) := by
  have G_Run_begin := ok_Run_begin (P := P) (base := base) T
  have G_Run_step := ok_Run_step (P := P) (base := base) T
  refine T.F_Run_go.ok sc_Run_go (fun vs H Q E h => ?_) (fun cdv AA outer s H vs Q E hr h => ?_)
  · obtain ⟨B, R, fs, f0, ans, most, l, avs, ws, rfl, _⟩ := h
    rfl
  · obtain ⟨B, R, fs, f0, ans, most, l, avs, ws, rfl, hI, hok, hf0, hl, hav, hw, hm1, hm3, q⟩ := h
    refine ⟨_, (pss_cons (ps_expr (pe_meth (pv 0) T.cl_Run T.m_Run_begin G_Run_begin (hr.mono (by decide)) T.b_Run_begin .nil pass0 (pa_cons pe_int (pa_cons (pv 1) pa_nil))))
  (pss_cons (ps_set (i := 2) sc_Run_go.nd rfl (.inl rfl) pe_non)
  (pss_cons (ps_while PassesOwn.never (pt_cmpR op_isN (pv 2) pe_non (nomark _))
  (pss_one (ps_set (i := 2) sc_Run_go.nd rfl (.inl rfl) (pe_meth0 (pv 0) T.cl_Run T.m_Run_step G_Run_step (hr.mono (by decide)) T.b_Run_step .nil pass0))))
  (pss_one (ps_ret (pv 2)))))), ?_⟩
    obtain ⟨o1, o2, o3, o4, o5, o6⟩ := pg_fn hok hf0
    have D := hI.dyn
    have hwl : ws.length = f0.ps.length := (Paired.length hw).symm
    -- self.begin(0, handed)
    refine ⟨_, rfl, R.p, R.dx, _, rfl, D.obj, runF_no (by decide +kernel), _, rfl, ?_⟩
    refine ⟨B, R, [], fs, ans, most, _, 0, f0, l, avs, ws, rfl, hI, hl, hav, hf0, hwl, o3, Nat.zero_le _, Nat.zero_le _, fun H7 c d I7 i7 => ?_⟩
    -- while end is None
    refine ⟨fun n σ H8 => ∃ as mc v, σ = [some (.ref R.p), some (.ref l), some v] ∧ RunIn K A B H8 R as fs ans most mc ∧
        ((v = .non ∧ (∃ c r f t, Fine fs ans most mc c r f t) ∧ (∀ e m2, Runs fs ans most mc e m2 → Runs fs ans most (mc0 fs ws) e m2) ∧ n = mu most mc + 1) ∨ (∃ e, Im K H8 v e.d ∧ Runs fs ans most (mc0 fs ws) e mc ∧ mc.begun.length ≤ 1000 ∧ n = 0)),
      ⟨_, _, mc0 fs ws, .non, rfl, I7, .inl ⟨rfl, ⟨_, _, _, _, fine0 hok hf0 hw hm1 hm3⟩, fun _ _ z => z, rfl⟩⟩, ?_⟩
    rintro n σ H8 ⟨as, mc, v, rfl, I8, hn⟩
    rcases hn with ⟨rfl, ⟨c1, r1, f1, t1, hF⟩, hR, rfl⟩ | ⟨e, hv, hR, hbl, rfl⟩
    · refine ⟨_, rfl, rfl, _, rfl, itd (p := V.non = V.non) rfl ?_⟩
      refine ⟨fun σ' H' => ∃ n', n' < mu most mc + 1 ∧ ∃ as mc v, σ' = [some (.ref R.p), some (.ref l), some v] ∧ RunIn K A B H' R as fs ans most mc ∧
        ((v = .non ∧ (∃ c r f t, Fine fs ans most mc c r f t) ∧ (∀ e m2, Runs fs ans most mc e m2 → Runs fs ans most (mc0 fs ws) e m2) ∧ n' = mu most mc + 1) ∨ (∃ e, Im K H' v e.d ∧ Runs fs ans most (mc0 fs ws) e mc ∧ mc.begun.length ≤ 1000 ∧ n' = 0)), fun σ' H' z => z, ?_⟩
      refine ⟨_, rfl, R.p, R.dx, _, rfl, I8.dyn.obj, runF_no (by decide +kernel), B, R, as, fs, ans, most, mc, c1, r1, f1, t1, rfl, I8, hok, hm3, hF, fun H9 as9 v9 I9 i9 hv9 => ?_⟩
      cases hs : stepF fs ans most mc with
      | mk m9 oe =>
        rw [hs] at I9 hv9
        cases oe with
        | none =>
          obtain rfl : v9 = .non := hv9
          obtain ⟨h1, h2⟩ := fine_step hF hok hm3 hs
          exact ⟨_, by omega, as9, m9, .non, rfl, I9, .inl ⟨rfl, h1, runs_snoc hR hs, rfl⟩⟩
        | some e =>
          refine ⟨0, by omega, as9, m9, v9, rfl, I9, .inr ⟨e, hv9, hR _ _ (.last hs), ?_, rfl⟩⟩
          rw [end_begun hF hs]
          have := hF.many
          omega
    · refine ⟨_, rfl, rfl, _, rfl, itn (p := v = V.non) (ends_ref hv) ?_⟩
      exact ⟨_, rfl, q H8 as e mc v I8 hR hv hbl⟩
theorem ok_run (T : Tx K w mg A) : FnOk P w K mg base CX0 11 A.f_run A.fd_run P_run (spRun K) := by
  have G_check_program := ok_check_program (P := P) (base := base) T
  have G_check_args := ok_check_args (P := P) (base := base) T
  have G_check_answers := ok_check_answers (P := P) (base := base) T
  have G_is_between := ok_is_between (P := P) (base := base) T
  have G_Run_init := ok_Run_init (P := P) (base := base) T
  have G_Run_go := ok_Run_go (P := P) (base := base) T
  have G_Run_told_calls := ok_Run_told_calls (P := P) (base := base) T
  refine T.F_run.ok sc_run (fun vs H Q E h => ?_) (fun cdv AA outer s H vs Q E hr h => ?_)
  · obtain ⟨pgv, fs, f0, aa, an, avs, ws, ans, most, rfl, _⟩ := h
    rfl
  · obtain ⟨pgv, fs, f0, aa, an, avs, ws, ans, most, rfl, hpg, hok, hf0, haa, hav, hw, han, hal, hai, hm1, hm3, q⟩ := h
    refine ⟨_, PSs.nox (pss_cons (ps_expr (pe_call G_check_program (hr.mono (by decide)) (by rfl) T.g_check_program T.F_check_program.kp T.b_check_program .nil pass0 (pa_cons (pv 0) pa_nil)))
  (pss_cons (ps_expr (pe_call G_check_args (hr.mono (by decide)) (by rfl) T.g_check_args T.F_check_args.kp T.b_check_args .nil pass0 (pa_cons (pe_ix ix_tup (pe_ix ix_tup (pv 0) pe_int (fun _ _ => rfl)) pe_int (fun _ _ => rfl)) (pa_cons (pv 1) pa_nil))))
  (pss_cons (ps_expr (pe_call G_check_answers (hr.mono (by decide)) (by rfl) T.g_check_answers T.F_check_answers.kp T.b_check_answers .nil pass0 (pa_cons (pv 2) pa_nil)))
  (pss_cons (ps_if (pt_not (pt_val (pe_call G_is_between (hr.mono (by decide)) (by rfl) T.g_is_between T.F_is_between.kp T.b_is_between .nil pass0 (pa_cons (pv 3) (pa_cons pe_int (pa_cons (pe_glob (v := .int 300) rfl T.c_HIGHEST_MOST ⟨_, rfl⟩) pa_nil))))))
  pss_never
  pss_nil)
  (pss_cons (ps_set (i := 4) sc_run.nd rfl (.inl rfl) (pe_make T.M_Run G_Run_init (hr.mono (by decide)) (by rfl) T.g_Run T.b_Run_init .nil pass0 (pa_cons (pv 0) (pa_cons (pv 2) (pa_cons (pv 3) pa_nil)))))
  (pss_cons (ps_set (i := 5) sc_run.nd rfl (.inl rfl) (pe_meth (pv 4) T.cl_Run T.m_Run_go G_Run_go (hr.mono (by decide)) T.b_Run_go .nil pass0 (pa_cons (pe_callTy cr_tupF (by rfl) T.n_tuple (by decide +kernel) (pa_cons (pv 1) pa_nil)) pa_nil)))
  (pss_one (ps_ret (pe_tup (pa_cons (pv 5) (pa_cons (pe_meth0 (pv 4) T.cl_Run T.m_Run_told_calls G_Run_told_calls (hr.mono (by decide)) T.b_Run_told_calls .nil pass0) pa_nil))))))))))), ?_⟩
    obtain ⟨pa, pvs, rfl, hpa, hfs⟩ := id hpg
    obtain ⟨fv, hfv, hff⟩ := paired_get' hfs hf0
    obtain ⟨o1, o2, o3, o4, o5, o6⟩ := pg_fn hok hf0
    refine ⟨_, rfl, _, fs, rfl, hpg, hok, fun H1 s1 => ?_⟩
    obtain ⟨fa, fp, ftv, fqs, rfl, hft, hfp, hfps, hftr⟩ := hff.same (sameI_of s1)
    refine ⟨_, rfl, _, _, _, _, rfl, rfl, Same.tup s1 hpa, atI_nat hfv, _, _, _, _, rfl, rfl, hft, atI_nat (j := 0) rfl, _, rfl, ?_⟩
    refine ⟨fp, aa, fqs, f0.ps, avs, ws, rfl, hfp, hfps, s1.seq haa, hav.same (sameI_of s1), hw, o1, fun H2 s2 => ?_⟩
    have s12 := s1.trans s2
    refine ⟨_, rfl, an, ans, rfl, s12.seq han, hal, hai, fun H3 s3 => ?_⟩
    have s13 := s12.trans s3
    refine ⟨_, rfl, (most : Nat), 1, 300, rfl, _, rfl, ?_⟩
    rw [decide_eq_true (show (1 : Int) ≤ ((most : Nat) : Int) ∧ ((most : Nat) : Int) ≤ 300 by omega)]
    refine iteF ⟨_, rfl, _, rfl, _, rfl, ?_⟩
    intro x dx nx ndx ndxx
    have s4 : Same H3 (upd (upd H3 dx (.own x)) x (.ins A.C_Run dx [])) := fun b o e => by
      rw [upd_ne (ne_of_none e nx), upd_ne (ne_of_none e ndx)]
      exact e
    have s14 := s13.trans s4
    refine ⟨x, dx, an, .ref pa, fs, ans, most, rfl, upd_same, hpg.same (sameI_of s14), hok, s14.seq han, fun B H5 R hI hRp hB => ⟨rfl, ?_⟩⟩
    have sB : Same H B := fun b o e => hB b o (ne_of_none (s13 _ _ e) nx) (s14 _ _ e)
    have D := hI.dyn
    have s15 : Same H H5 := sB.trans hI.same
    subst hRp
    -- end = going.go(tuple(args))
    refine ⟨_, rfl, R.p, R.dx, _, rfl, D.obj, runF_no (by decide +kernel), _, rfl, aa, avs, rfl, s15.seq haa, fun l its hl => ?_⟩
    have s6 := same_upd (o := .frz (tupObj its) (.tup avs)) hl
    refine ⟨B, R, fs, f0, ans, most, l, avs, ws, rfl, hI.up s6, hok, hf0, .inl (.inr ⟨_, upd_same⟩), hav.same (sameI_of (s15.trans s6)), hw, hm1, hm3, fun H8 as e mc v I8 hR hv hbl => ?_⟩
    have sB8 := sB.trans I8.same
    refine ⟨_, rfl, _, rfl, R.p, R.dx, _, rfl, I8.dyn.obj, runF_no (by decide +kernel), B, R, as, fs, ans, most, mc, rfl, I8, hbl, fun H9 l9 cvs s9 n9 e9 hc9 => ?_⟩
    refine ⟨by show 2 ≤ sizeLine; decide, fun t ht => ?_⟩
    have s10 := same_upd (o := .tup [v, .ref l9]) ht
    exact q e mc _ t v l9 cvs hR (sB8.trans (s9.trans s10)) ((sB8.trans s9).free ht) (sB8.free n9) (.inl (.inl upd_same)) ((hv.same (sameI_of s9)).same (sameI_of s10)) (s10 _ _ e9) (hc9.same (sameI_of s10))
end
end Cs
namespace Cs
open PySem PySem.Spec L2
/-! ## runs cut short -/
theorem runs_det {fs : List Fn} {ans : List Int} {most : Nat} {m m1 m2 : Mc} {e e2 : Ends2} (h : Runs fs ans most m e m1) : Runs fs ans most m e2 m2 → e2 = e ∧ m2 = m1 := by
  induction h with
  | last h =>
    intro h2
    cases h2 with
    | last g => rw [h] at g; cases g; exact ⟨rfl, rfl⟩
    | more g _ => rw [h] at g; cases g
  | more h _ ih =>
    intro h2
    cases h2 with
    | last g => rw [h] at g; cases g
    | more g g2 => rw [h] at g; cases g; exact ih g2
/-- what a step does, however many calls are let -/
theorem step_cases (fs : List Fn) (ans : List Int) (m : Mc) : (∃ f ws, ∀ most, stepF fs ans most m = if m.begun.length = most then (m, some .long) else (m.begin fs f ws, none)) ∨
    (∃ res : Mc × Option Ends2, (∀ most, stepF fs ans most m = res) ∧ res.1.begun = m.begun ∧ res.2 ≠ some .long) := by
  unfold stepF
  cases hs : m.stk with
  | nil => exact .inr ⟨_, fun _ => rfl, rfl, fun z => nomatch z⟩
  | cons c r =>
    dsimp only
    cases ht : treeAt fs c with
    | none => exact .inr ⟨_, fun _ => rfl, rfl, fun z => nomatch z⟩
    | some t =>
      cases t with
      | tell x =>
        cases r with
        | nil => exact .inr ⟨_, fun _ => rfl, rfl, fun z => nomatch z⟩
        | cons c2 r2 =>
          refine .inr ⟨stepTell fs m c (egetD c.ev x) (c2 :: r2), fun _ => rfl, ?_⟩
          unfold stepTell
          split
          · rename_i h; cases h
          · split
            · exact ⟨rfl, fun z => nomatch z⟩
            · exact ⟨rfl, fun z => nomatch z⟩
      | if_ a b n u v => exact .inr ⟨_, fun _ => rfl, rfl, fun z => nomatch z⟩
      | claim a b n u =>
        by_cases h : a.val c.ev - b.val c.ev ≤ n
        · exact .inr ⟨({ m with stk := c.to (c.place + 1) :: r }, none), fun _ => if_pos h, rfl, fun z => nomatch z⟩
        · exact .inr ⟨(m, some (.fault "claim" c.fn c.place)), fun _ => if_neg h, rfl, fun z => nomatch z⟩
      | let_ x d u =>
        cases d with
        | call g xs => exact .inl ⟨g, xs.map (egetD c.ev), fun _ => rfl⟩
        | ask => exact .inr ⟨_, fun _ => rfl, rfl, fun z => nomatch z⟩
        | num n => exact .inr ⟨_, fun _ => rfl, rfl, fun z => nomatch z⟩
        | sum y n => exact .inr ⟨_, fun _ => rfl, rfl, fun z => nomatch z⟩
        | len l => exact .inr ⟨_, fun _ => rfl, rfl, fun z => nomatch z⟩
        | nil => exact .inr ⟨_, fun _ => rfl, rfl, fun z => nomatch z⟩
        | put y l => exact .inr ⟨_, fun _ => rfl, rfl, fun z => nomatch z⟩
        | head l =>
          refine .inr ⟨stepLet fs ans 0 m c r x (.head l), fun _ => rfl, ?_⟩
          show (match Dd.bad c.ev (.head l) with | some w => (m, some (Ends2.fault w c.fn c.place)) | none => ({ m with stk := c.bnd x (Dd.val c.ev (.head l)) :: r }, none)).1.begun = _ ∧ _
          change _ ∧ (match Dd.bad c.ev (.head l) with | some w => (m, some (Ends2.fault w c.fn c.place)) | none => ({ m with stk := c.bnd x (Dd.val c.ev (.head l)) :: r }, none)).2 ≠ some .long
          split
          · exact ⟨rfl, fun z => nomatch z⟩
          · exact ⟨rfl, fun z => nomatch z⟩
        | tail l =>
          refine .inr ⟨stepLet fs ans 0 m c r x (.tail l), fun _ => rfl, ?_⟩
          show (match Dd.bad c.ev (.tail l) with | some w => (m, some (Ends2.fault w c.fn c.place)) | none => ({ m with stk := c.bnd x (Dd.val c.ev (.tail l)) :: r }, none)).1.begun = _ ∧ _
          change _ ∧ (match Dd.bad c.ev (.tail l) with | some w => (m, some (Ends2.fault w c.fn c.place)) | none => ({ m with stk := c.bnd x (Dd.val c.ev (.tail l)) :: r }, none)).2 ≠ some .long
          split
          · exact ⟨rfl, fun z => nomatch z⟩
          · exact ⟨rfl, fun z => nomatch z⟩
        | at_ l y =>
          refine .inr ⟨stepLet fs ans 0 m c r x (.at_ l y), fun _ => rfl, ?_⟩
          show (match Dd.bad c.ev (.at_ l y) with | some w => (m, some (Ends2.fault w c.fn c.place)) | none => ({ m with stk := c.bnd x (Dd.val c.ev (.at_ l y)) :: r }, none)).1.begun = _ ∧ _
          change _ ∧ (match Dd.bad c.ev (.at_ l y) with | some w => (m, some (Ends2.fault w c.fn c.place)) | none => ({ m with stk := c.bnd x (Dd.val c.ev (.at_ l y)) :: r }, none)).2 ≠ some .long
          split
          · exact ⟨rfl, fun z => nomatch z⟩
          · exact ⟨rfl, fun z => nomatch z⟩
theorem begun_up {fs : List Fn} {ans : List Int} {most : Nat} {m m1 : Mc} {oe : Option Ends2} (h : stepF fs ans most m = (m1, oe)) : ∃ l, m1.begun = m.begun ++ l := by
  rcases step_cases fs ans m with ⟨f, ws, e⟩ | ⟨res, e, b, _⟩
  · rw [e] at h
    split at h <;> cases h
    · exact ⟨[], (List.append_nil _).symm⟩
    · exact ⟨_, rfl⟩
  · rw [e] at h
    rw [h] at b
    exact ⟨[], by rw [List.append_nil]; exact b⟩
theorem runs_up {fs : List Fn} {ans : List Int} {most : Nat} {m m1 : Mc} {e : Ends2} (h : Runs fs ans most m e m1) : ∃ l, m1.begun = m.begun ++ l := by
  induction h with
  | last h => exact begun_up h
  | more h _ ih =>
    obtain ⟨l1, e1⟩ := begun_up h
    obtain ⟨l2, e2⟩ := ih
    exact ⟨l1 ++ l2, by rw [e2, e1, List.append_assoc]⟩
theorem runs_cut {fs : List Fn} {ans : List Int} {M k : Nat} (hk : k ≤ M) {m m1 : Mc} {e : Ends2} (h : Runs fs ans M m e m1) : m.begun.length ≤ k →
    ∃ e2 m2, Runs fs ans k m e2 m2 ∧ ((m1.begun.length ≤ k ∧ ¬ (m1.begun.length = k ∧ e = .long) ∧ e2 = e ∧ m2 = m1) ∨ ((k < m1.begun.length ∨ (m1.begun.length = k ∧ e = .long)) ∧ e2 = .long ∧ m2.begun = m1.begun.take k)) := by
  induction h with
  | @last m m1 e h =>
    intro hb
    rcases step_cases fs ans m with ⟨f, ws, es⟩ | ⟨res, es, b, nl⟩
    · rw [es] at h
      split at h <;> cases h
      rename_i e0
      have e1 : m.begun.length = k := by omega
      exact ⟨.long, m, .last (by rw [es, if_pos e1]), .inr ⟨.inr ⟨e1, rfl⟩, rfl, by rw [← e1, List.take_length]⟩⟩
    · rw [es] at h
      have g := es k
      rw [h] at g b nl
      have b : m1.begun = m.begun := b
      exact ⟨e, m1, .last g, .inl ⟨by rw [b]; exact hb, fun z => nl (by rw [z.2]), rfl, rfl⟩⟩
  | @more m m1 m2 e h hr ih =>
    intro hb
    rcases step_cases fs ans m with ⟨f, ws, es⟩ | ⟨res, es, b, nl⟩
    · rw [es] at h
      split at h
      · cases h
      · cases h
        by_cases e1 : m.begun.length = k
        · obtain ⟨l, e2⟩ := runs_up hr
          have e2 : m2.begun = (m.begun ++ [(f, ws)]) ++ l := e2
          refine ⟨.long, m, .last (by rw [es, if_pos e1]), .inr ⟨.inl (by rw [e2]; simp; omega), rfl, ?_⟩⟩
          rw [e2, ← e1, List.append_assoc, List.take_left]
        · obtain ⟨e2, m3, r, z⟩ := ih (by show (m.begun ++ [_]).length ≤ k; simp; omega)
          exact ⟨e2, m3, .more (by rw [es, if_neg e1]) r, z⟩
    · rw [es] at h
      have g := es k
      rw [h] at g b
      obtain ⟨e2, m3, r, z⟩ := ih (by have b : m1.begun = m.begun := b; rw [b]; exact hb)
      exact ⟨e2, m3, .more g r, z⟩
theorem runs_long {fs : List Fn} {ans : List Int} {most : Nat} {m m1 : Mc} {e : Ends2} (h : Runs fs ans most m e m1) : e = .long → m1.begun.length = most := by
  induction h with
  | @last m m1 e h =>
    rintro rfl
    rcases step_cases fs ans m with ⟨f, ws, es⟩ | ⟨res, es, b, nl⟩
    · rw [es] at h
      split at h <;> cases h
      assumption
    · rw [es] at h
      rw [h] at nl
      exact absurd rfl nl
  | more h hr ih => exact ih
/-! ## answers that aren't asked for -/
structure AskR (ans ans2 : List Int) (m m2 : Mc) : Prop where
  begun : m2.begun = m.begun
  told : m2.told = m.told
  stk : m2.stk = m.stk
  asked : m2.asked = m.asked ∨ (m.asked = ans.length ∧ ans.length ≤ m2.asked)
  le : m.asked ≤ ans.length
  le2 : m2.asked ≤ ans2.length
theorem ask_cases (fs : List Fn) (most : Nat) (m : Mc) : (∃ c r x, m.stk = c :: r ∧ ∀ ans k, stepF fs ans most { m with asked := k } = ({ m with asked := if k = ans.length then k else k + 1, stk := c.bnd x (.n (ans.getD k 0)) :: r }, none)) ∨
    (∃ res : Mc × Option Ends2, ∀ ans k, stepF fs ans most { m with asked := k } = ({ res.1 with asked := k }, res.2)) := by
  unfold stepF
  cases hs : m.stk with
  | nil => exact .inr ⟨({ m with stk := [] }, none), fun _ _ => rfl⟩
  | cons c r =>
    dsimp only
    cases ht : treeAt fs c with
    | none => exact .inr ⟨({ m with stk := c :: r }, none), fun _ _ => rfl⟩
    | some t =>
      have em : m = { m with stk := c :: r } := by cases m; cases hs; rfl
      cases t with
      | tell x =>
        cases r with
        | nil => exact .inr ⟨({ m with told := m.told ++ [(c.row, egetD c.ev x)], stk := [] }, some (.told (egetD c.ev x))), fun _ _ => rfl⟩
        | cons c2 r2 =>
          cases h2 : treeAt fs c2 with
          | none => exact .inr ⟨({ m with stk := c :: c2 :: r2 }, none), fun _ k => by dsimp only [stepTell]; rw [h2]⟩
          | some t2 =>
            cases t2 with
            | let_ y d2 u2 => exact .inr ⟨({ m with told := m.told ++ [(c.row, egetD c.ev x)], stk := c2.bnd y (egetD c.ev x) :: r2 }, none), fun _ k => by dsimp only [stepTell]; rw [h2]⟩
            | _ => exact .inr ⟨({ m with stk := c :: c2 :: r2 }, none), fun _ k => by dsimp only [stepTell]; rw [h2]⟩
      | if_ a b n u v => exact .inr ⟨({ m with stk := c.to (if a.val c.ev - b.val c.ev ≤ n then c.place + 1 else c.place + 1 + u.size) :: r }, none), fun _ _ => rfl⟩
      | claim a b n u =>
        by_cases h : a.val c.ev - b.val c.ev ≤ n
        · exact .inr ⟨({ m with stk := c.to (c.place + 1) :: r }, none), fun _ k => if_pos h⟩
        · exact .inr ⟨({ m with stk := c :: r }, some (.fault "claim" c.fn c.place)), fun _ k => if_neg h⟩
      | let_ x d u =>
        cases d with
        | call g xs =>
          by_cases h : m.begun.length = most
          · exact .inr ⟨({ m with stk := c :: r }, some .long), fun _ k => if_pos h⟩
          · exact .inr ⟨(Mc.begin fs { m with stk := c :: r } g (xs.map (egetD c.ev)), none), fun _ k => if_neg h⟩
        | ask => exact .inl ⟨c, r, x, rfl, fun _ _ => rfl⟩
        | num n => exact .inr ⟨({ m with stk := c.bnd x (Dd.val c.ev (.num n)) :: r }, none), fun _ _ => rfl⟩
        | sum y n => exact .inr ⟨({ m with stk := c.bnd x (Dd.val c.ev (.sum y n)) :: r }, none), fun _ _ => rfl⟩
        | len l => exact .inr ⟨({ m with stk := c.bnd x (Dd.val c.ev (.len l)) :: r }, none), fun _ _ => rfl⟩
        | nil => exact .inr ⟨({ m with stk := c.bnd x (Dd.val c.ev (.nil)) :: r }, none), fun _ _ => rfl⟩
        | put y l => exact .inr ⟨({ m with stk := c.bnd x (Dd.val c.ev (.put y l)) :: r }, none), fun _ _ => rfl⟩
        | head l =>
          cases h : Dd.bad c.ev (.head l) with
          | none => exact .inr ⟨({ m with stk := c.bnd x (Dd.val c.ev (.head l)) :: r }, none), fun _ k => by dsimp only [stepLet]; rw [h]⟩
          | some w => exact .inr ⟨({ m with stk := c :: r }, some (.fault w c.fn c.place)), fun _ k => by dsimp only [stepLet]; rw [h]⟩
        | tail l =>
          cases h : Dd.bad c.ev (.tail l) with
          | none => exact .inr ⟨({ m with stk := c.bnd x (Dd.val c.ev (.tail l)) :: r }, none), fun _ k => by dsimp only [stepLet]; rw [h]⟩
          | some w => exact .inr ⟨({ m with stk := c :: r }, some (.fault w c.fn c.place)), fun _ k => by dsimp only [stepLet]; rw [h]⟩
        | at_ l y =>
          cases h : Dd.bad c.ev (.at_ l y) with
          | none => exact .inr ⟨({ m with stk := c.bnd x (Dd.val c.ev (.at_ l y)) :: r }, none), fun _ k => by dsimp only [stepLet]; rw [h]⟩
          | some w => exact .inr ⟨({ m with stk := c :: r }, some (.fault w c.fn c.place)), fun _ k => by dsimp only [stepLet]; rw [h]⟩
theorem ask_step {fs : List Fn} {ans ans2 : List Int} {most : Nat} {m m2 m3 : Mc} {oe : Option Ends2} (hz : ∀ i, ans2.getD i 0 = ans.getD i 0) (hl : ans.length ≤ ans2.length) (h : AskR ans ans2 m m2) (s : stepF fs ans most m = (m3, oe)) :
    ∃ m4, stepF fs ans2 most m2 = (m4, oe) ∧ AskR ans ans2 m3 m4 := by
  have e2 : m2 = { m with asked := m2.asked } := by
    obtain ⟨h1, h2, h3, _, _, _⟩ := h
    cases m2
    cases m
    cases h1
    cases h2
    cases h3
    rfl
  have e1 : m = { m with asked := m.asked } := rfl
  rcases ask_cases fs most m with ⟨c, r, x, hs, es⟩ | ⟨res, es⟩
  · have g1 := es ans m.asked
    have g2 := es ans2 m2.asked
    rw [← e1, s] at g1
    rw [← e2] at g2
    cases g1
    have hv : ans2.getD m2.asked 0 = ans.getD m.asked 0 := by
      rw [hz]
      rcases h.asked with z | ⟨z1, z2⟩
      · rw [z]
      · rw [List.getD_eq_getElem?_getD, List.getD_eq_getElem?_getD, List.getElem?_eq_none z2, List.getElem?_eq_none (by omega)]
    rw [hv] at g2
    refine ⟨_, g2, rfl, rfl, rfl, ?_, ?_, ?_⟩
    · show (if m2.asked = ans2.length then m2.asked else m2.asked + 1) = (if m.asked = ans.length then m.asked else m.asked + 1) ∨ ((if m.asked = ans.length then m.asked else m.asked + 1) = ans.length ∧ ans.length ≤ (if m2.asked = ans2.length then m2.asked else m2.asked + 1))
      have := h.asked
      have := h.le
      split <;> split <;> omega
    · show (if m.asked = ans.length then m.asked else m.asked + 1) ≤ ans.length
      have := h.le
      split <;> omega
    · show (if m2.asked = ans2.length then m2.asked else m2.asked + 1) ≤ ans2.length
      have := h.le2
      split <;> omega
  · have g1 := es ans m.asked
    have g2 := es ans2 m2.asked
    rw [← e1, s] at g1
    rw [← e2] at g2
    cases g1
    exact ⟨_, g2, rfl, rfl, rfl, h.asked, h.le, h.le2⟩
theorem ask_runs {fs : List Fn} {ans ans2 : List Int} {most : Nat} (hz : ∀ i, ans2.getD i 0 = ans.getD i 0) (hl : ans.length ≤ ans2.length) {m m1 : Mc} {e : Ends2} (h : Runs fs ans most m e m1) : ∀ m2, AskR ans ans2 m m2 → ∃ m3, Runs fs ans2 most m2 e m3 ∧ AskR ans ans2 m1 m3 := by
  induction h with
  | last h =>
    intro m2 hr
    obtain ⟨m4, s, r⟩ := ask_step hz hl hr h
    exact ⟨m4, .last s, r⟩
  | more h _ ih =>
    intro m2 hr
    obtain ⟨m4, s, r⟩ := ask_step hz hl hr h
    obtain ⟨m5, g, r5⟩ := ih m4 r
    exact ⟨m5, .more s g, r5⟩
theorem getD_zeros (ans : List Int) (k i : Nat) : (ans ++ List.replicate k 0).getD i 0 = ans.getD i 0 := by
  rw [List.getD_eq_getElem?_getD, List.getD_eq_getElem?_getD]
  rcases Nat.lt_or_ge i ans.length with h | h
  · rw [List.getElem?_append_left h]
  · rw [List.getElem?_append_right h, List.getElem?_eq_none h, List.getElem?_replicate]
    split <;> rfl
/-- noughts behind the last answer -/
theorem runs_zeros {fs : List Fn} {ans : List Int} {most k : Nat} {ws : List Wt} {e e2 : Ends2} {m m2 : Mc} (h : Runs fs ans most (mc0 fs ws) e m) (h2 : Runs fs (ans ++ List.replicate k 0) most (mc0 fs ws) e2 m2) : e2 = e ∧ callsOf m2 = callsOf m := by
  obtain ⟨m3, g, r⟩ := ask_runs (getD_zeros ans k) (by simp) h (mc0 fs ws) ⟨rfl, rfl, rfl, .inl rfl, Nat.zero_le _, Nat.zero_le _⟩
  obtain ⟨e1, e3⟩ := runs_det g h2
  refine ⟨e1, ?_⟩
  rw [e3]
  unfold callsOf
  rw [r.begun, r.told]
end Cs
namespace Cs
open PySem PySem.Spec L2
/-! ## other names, functions at other numbers -/
section
variable (ρ : Str → Str) (wh : Nat → Nat)
def Ms.ren : Ms → Ms
  | .zero => .zero
  | .of x => .of (ρ x)
  | .len x => .len (ρ x)
def Dd.ren : Dd → Dd
  | .num n => .num n
  | .sum x n => .sum (ρ x) n
  | .len l => .len (ρ l)
  | .nil => .nil
  | .put x l => .put (ρ x) (ρ l)
  | .head l => .head (ρ l)
  | .tail l => .tail (ρ l)
  | .at_ l x => .at_ (ρ l) (ρ x)
  | .ask => .ask
  | .call f xs => .call (wh f) (xs.map ρ)
def Tr.ren : Tr → Tr
  | .let_ x d t => .let_ (ρ x) (d.ren ρ wh) t.ren
  | .if_ a b n t u => .if_ (a.ren ρ) (b.ren ρ) n t.ren u.ren
  | .claim a b n t => .claim (a.ren ρ) (b.ren ρ) n t.ren
  | .tell x => .tell (ρ x)
def nmR (ns : Nm) : Nm := ns.map fun p => (ρ p.1, p.2)
def Fn.ren (f : Fn) : Fn := ⟨nmR ρ f.ps, f.kd, f.tr.ren ρ wh⟩
def evR (e : Ev) : Ev := e.map fun p => (ρ p.1, p.2)
def Fr.ren (c : Fr) : Fr := ⟨c.row, wh c.fn, c.place, evR ρ c.ev⟩
def Mc.ren (m : Mc) : Mc := ⟨m.asked, m.begun.map fun q => (wh q.1, q.2), m.told, m.stk.map (Fr.ren ρ wh)⟩
def Ends2.ren : Ends2 → Ends2
  | .told w => .told w
  | .fault x f p => .fault x (wh f) p
  | .long => .long
end
section
variable {ρ : Str → Str} {wh : Nat → Nat} (inj : ∀ x y, ρ x = ρ y → x = y)
include inj
theorem find_ren {α : Type} {x : Str} : ∀ l : List (Str × α), ((l.map fun p => (ρ p.1, p.2)).find? fun p => decide (p.1 = ρ x)).map (·.2) = (l.find? fun p => decide (p.1 = x)).map (·.2)
  | [] => rfl
  | p :: r => by
    rw [List.map_cons, List.find?_cons, List.find?_cons]
    by_cases h : p.1 = x
    · simp [h]
    · have h2 : ¬ ρ p.1 = ρ x := fun z => h (inj _ _ z)
      simp only [h, h2, decide_false]
      exact find_ren r
theorem look_ren (ns : Nm) (x : Str) : look (nmR ρ ns) (ρ x) = look ns x := find_ren inj ns
theorem eget_ren (e : Ev) (x : Str) : eget (evR ρ e) (ρ x) = eget e x := find_ren inj e
theorem egetD_ren (e : Ev) (x : Str) : egetD (evR ρ e) (ρ x) = egetD e x := by unfold egetD; rw [eget_ren inj]
theorem val_ren (e : Ev) : ∀ a : Ms, (a.ren ρ).val (evR ρ e) = a.val e
  | .zero => rfl
  | .of x => by show (egetD (evR ρ e) (ρ x)).i = _; rw [egetD_ren inj]; rfl
  | .len x => by show ((egetD (evR ρ e) (ρ x)).xs.length : Int) = _; rw [egetD_ren inj]; rfl
theorem bad_ren (e : Ev) : ∀ d : Dd, (d.ren ρ wh).bad (evR ρ e) = d.bad e
  | .head l => by show (if (egetD (evR ρ e) (ρ l)).xs = [] then some _ else none) = _; rw [egetD_ren inj]; rfl
  | .tail l => by show (if (egetD (evR ρ e) (ρ l)).xs = [] then some _ else none) = _; rw [egetD_ren inj]; rfl
  | .at_ l x => by show (if 0 ≤ (egetD (evR ρ e) (ρ x)).i ∧ (egetD (evR ρ e) (ρ x)).i < ((egetD (evR ρ e) (ρ l)).xs.length : Nat) then none else some _) = _; rw [egetD_ren inj, egetD_ren inj]; rfl
  | .num _ => rfl
  | .sum _ _ => rfl
  | .len _ => rfl
  | .nil => rfl
  | .put _ _ => rfl
  | .ask => rfl
  | .call _ _ => rfl
theorem dval_ren (e : Ev) : ∀ d : Dd, (d.ren ρ wh).val (evR ρ e) = d.val e
  | .num _ => rfl
  | .sum x n => by show Wt.n ((egetD (evR ρ e) (ρ x)).i + n) = _; rw [egetD_ren inj]; rfl
  | .len l => by show Wt.n ((egetD (evR ρ e) (ρ l)).xs.length : Nat) = _; rw [egetD_ren inj]; rfl
  | .nil => rfl
  | .put x l => by show Wt.l ((egetD (evR ρ e) (ρ x)).i :: (egetD (evR ρ e) (ρ l)).xs) = _; rw [egetD_ren inj, egetD_ren inj]; rfl
  | .head l => by show Wt.n ((egetD (evR ρ e) (ρ l)).xs.headD 0) = _; rw [egetD_ren inj]; rfl
  | .tail l => by show Wt.l (egetD (evR ρ e) (ρ l)).xs.tail = _; rw [egetD_ren inj]; rfl
  | .at_ l x => by show Wt.n ((egetD (evR ρ e) (ρ l)).xs.getD (egetD (evR ρ e) (ρ x)).i.toNat 0) = _; rw [egetD_ren inj, egetD_ren inj]; rfl
  | .ask => rfl
  | .call _ _ => rfl
omit inj in
theorem pre_ren : ∀ t : Tr, (t.ren ρ wh).pre = t.pre.map (Tr.ren ρ wh)
  | .let_ x d u => by show _ :: (u.ren ρ wh).pre = _; rw [pre_ren u]; rfl
  | .if_ a b n u v => by show _ :: ((u.ren ρ wh).pre ++ (v.ren ρ wh).pre) = _; rw [pre_ren u, pre_ren v, ← List.map_append]; rfl
  | .claim a b n u => by show _ :: (u.ren ρ wh).pre = _; rw [pre_ren u]; rfl
  | .tell x => rfl
omit inj in
theorem size_ren : ∀ t : Tr, (t.ren ρ wh).size = t.size
  | .let_ x d u => by show (u.ren ρ wh).size + 1 = _; rw [size_ren u]; rfl
  | .if_ a b n u v => by show (u.ren ρ wh).size + (v.ren ρ wh).size + 1 = _; rw [size_ren u, size_ren v]; rfl
  | .claim a b n u => by show (u.ren ρ wh).size + 1 = _; rw [size_ren u]; rfl
  | .tell x => rfl
omit inj in
theorem deep_ren : ∀ t : Tr, (t.ren ρ wh).deep = t.deep
  | .let_ x d u => by show (u.ren ρ wh).deep + 1 = _; rw [deep_ren u]; rfl
  | .if_ a b n u v => by show max (u.ren ρ wh).deep (v.ren ρ wh).deep + 1 = _; rw [deep_ren u, deep_ren v]; rfl
  | .claim a b n u => by show (u.ren ρ wh).deep + 1 = _; rw [deep_ren u]; rfl
  | .tell x => rfl
omit inj in
theorem evR_append (e : Ev) (x : Str) (w : Wt) : evR ρ (e ++ [(x, w)]) = evR ρ e ++ [(ρ x, w)] := by unfold evR; rw [List.map_append]; rfl
omit inj in
theorem bnd_ren (c : Fr) (x : Str) (w : Wt) : (c.bnd x w).ren ρ wh = (c.ren ρ wh).bnd (ρ x) w := by
  show Fr.mk c.row (wh c.fn) (c.place + 1) (evR ρ (c.ev ++ [(x, w)])) = _
  rw [evR_append]
  rfl
variable {fs gs : List Fn} (hg : ∀ f, gs[wh f]? = fs[f]?.map (Fn.ren ρ wh))
include hg
omit inj in
theorem treeAt_ren (c : Fr) : treeAt gs (c.ren ρ wh) = (treeAt fs c).map (Tr.ren ρ wh) := by
  unfold treeAt
  show gs[wh c.fn]?.bind (fun f => f.tr.pre[c.place]?) = _
  rw [hg]
  cases fs[c.fn]? with
  | none => rfl
  | some f =>
    show (f.tr.ren ρ wh).pre[c.place]? = (f.tr.pre[c.place]?).map (Tr.ren ρ wh)
    rw [pre_ren, List.getElem?_map]
omit inj in
theorem begin_ren (m : Mc) (f : Nat) (ws : List Wt) : (Mc.begin fs m f ws).ren ρ wh = Mc.begin gs (m.ren ρ wh) (wh f) ws := by
  have hn : namesAt gs (wh f) = (namesAt fs f).map ρ := by
    unfold namesAt
    rw [hg]
    cases fs[f]? with
    | none => rfl
    | some f =>
      show (nmR ρ f.ps).map (·.1) = (f.ps.map (·.1)).map ρ
      unfold nmR
      rw [List.map_map, List.map_map]
      rfl
  have hz : ∀ (xs : List Str) (ws : List Wt), evR ρ (xs.zip ws) = (xs.map ρ).zip ws := by
    intro xs
    induction xs with
    | nil => intro ws; rfl
    | cons x xs ih =>
      intro ws
      cases ws with
      | nil => rfl
      | cons w ws => show (ρ x, w) :: evR ρ (xs.zip ws) = _; rw [ih]; rfl
  unfold Mc.begin Mc.ren Fr.ren
  simp only [List.map_append, List.map_cons, List.map_nil, List.length_map]
  rw [hz, hn]
theorem step_ren (ans : List Int) (most : Nat) (m : Mc) : stepF gs ans most (m.ren ρ wh) = ((stepF fs ans most m).1.ren ρ wh, (stepF fs ans most m).2.map (Ends2.ren wh)) := by
  unfold stepF
  cases hs : m.stk with
  | nil =>
    have e : (m.ren ρ wh).stk = [] := by show m.stk.map _ = []; rw [hs]; rfl
    rw [e]
    rfl
  | cons c r =>
    have e : (m.ren ρ wh).stk = c.ren ρ wh :: r.map (Fr.ren ρ wh) := by show m.stk.map _ = _; rw [hs]; rfl
    rw [e]
    dsimp only
    rw [treeAt_ren hg]
    cases ht : treeAt fs c with
    | none => rfl
    | some t =>
      cases t with
      | tell x =>
        show stepTell gs (m.ren ρ wh) (c.ren ρ wh) (egetD (evR ρ c.ev) (ρ x)) (r.map (Fr.ren ρ wh)) = _
        rw [egetD_ren inj]
        cases r with
        | nil => rfl
        | cons c2 r2 =>
          rw [List.map_cons]
          dsimp only [stepTell]
          rw [treeAt_ren hg]
          cases h2 : treeAt fs c2 with
          | none => rfl
          | some t2 =>
            cases t2 with
            | let_ y d u =>
              show (({ m.ren ρ wh with told := (m.ren ρ wh).told ++ [((c.ren ρ wh).row, egetD c.ev x)], stk := (c2.ren ρ wh).bnd (ρ y) (egetD c.ev x) :: r2.map (Fr.ren ρ wh) } : Mc), (none : Option Ends2)) = _
              rw [← bnd_ren]
              rfl
            | if_ a b n u v => rfl
            | claim a b n u => rfl
            | tell y => rfl
      | if_ a b n u v =>
        show (({ m.ren ρ wh with stk := (c.ren ρ wh).to (if (a.ren ρ).val (evR ρ c.ev) - (b.ren ρ).val (evR ρ c.ev) ≤ n then c.place + 1 else c.place + 1 + (u.ren ρ wh).size) :: r.map (Fr.ren ρ wh) } : Mc), (none : Option Ends2)) = _
        rw [val_ren inj, val_ren inj, size_ren]
        rfl
      | claim a b n u =>
        show (if (a.ren ρ).val (evR ρ c.ev) - (b.ren ρ).val (evR ρ c.ev) ≤ n then (({ m.ren ρ wh with stk := (c.ren ρ wh).to (c.place + 1) :: r.map (Fr.ren ρ wh) } : Mc), (none : Option Ends2)) else (m.ren ρ wh, some (.fault "claim" (wh c.fn) c.place))) = (((if a.val c.ev - b.val c.ev ≤ n then (({ m with stk := c.to (c.place + 1) :: r } : Mc), (none : Option Ends2)) else (m, some (.fault "claim" c.fn c.place)))).1.ren ρ wh, ((if a.val c.ev - b.val c.ev ≤ n then (({ m with stk := c.to (c.place + 1) :: r } : Mc), (none : Option Ends2)) else (m, some (.fault "claim" c.fn c.place)))).2.map (Ends2.ren wh))
        rw [val_ren inj, val_ren inj]
        split <;> rfl
      | let_ x d u =>
        show stepLet gs ans most (m.ren ρ wh) (c.ren ρ wh) (r.map (Fr.ren ρ wh)) (ρ x) (d.ren ρ wh) = ((stepLet fs ans most m c r x d).1.ren ρ wh, (stepLet fs ans most m c r x d).2.map (Ends2.ren wh))
        by_cases hcall : ∃ g xs, d = .call g xs
        · obtain ⟨g, xs, rfl⟩ := hcall
          show (if (m.ren ρ wh).begun.length = most then (m.ren ρ wh, some Ends2.long) else ((m.ren ρ wh).begin gs (wh g) ((xs.map ρ).map (egetD (evR ρ c.ev))), none)) = (((if m.begun.length = most then (m, some Ends2.long) else (m.begin fs g (xs.map (egetD c.ev)), none))).1.ren ρ wh, ((if m.begun.length = most then (m, some Ends2.long) else (m.begin fs g (xs.map (egetD c.ev)), none))).2.map (Ends2.ren wh))
          have el : (m.ren ρ wh).begun.length = m.begun.length := List.length_map _
          have ex : (xs.map ρ).map (egetD (evR ρ c.ev)) = xs.map (egetD c.ev) := by
            rw [List.map_map]
            exact List.map_congr_left fun x _ => egetD_ren inj c.ev x
          rw [el, ex, ← begin_ren hg]
          split <;> rfl
        by_cases hask : d = .ask
        · subst hask
          show (({ m.ren ρ wh with asked := if m.asked = ans.length then m.asked else m.asked + 1, stk := (c.ren ρ wh).bnd (ρ x) (.n (ans.getD m.asked 0)) :: r.map (Fr.ren ρ wh) } : Mc), (none : Option Ends2)) = _
          rw [← bnd_ren]
          rfl
        · have er : ∀ (gs : List Fn) (m : Mc) (c : Fr) (r : List Fr) (x : Str) (d : Dd), (∀ g xs, d ≠ .call g xs) → d ≠ .ask → stepLet gs ans most m c r x d = (match d.bad c.ev with | some wd => (m, some (.fault wd c.fn c.place)) | none => ({ m with stk := c.bnd x (d.val c.ev) :: r }, none)) := by
            intro gs m c r x d h1 h2
            cases d <;> first | rfl | exact absurd rfl h2 | exact absurd rfl (h1 _ _)
          have n1 : ∀ g xs, d.ren ρ wh ≠ .call g xs := fun g xs z => by
            cases d with
            | call g xs => exact hcall ⟨g, xs, rfl⟩
            | _ => cases z
          have n2 : d.ren ρ wh ≠ .ask := fun z => by
            cases d with
            | ask => exact hask rfl
            | _ => cases z
          rw [er gs _ _ _ _ _ n1 n2, er fs _ _ _ _ _ (fun g xs z => hcall ⟨g, xs, z⟩) hask]
          have eb : (d.ren ρ wh).bad (c.ren ρ wh).ev = d.bad c.ev := bad_ren inj c.ev d
          have ev : (d.ren ρ wh).val (c.ren ρ wh).ev = d.val c.ev := dval_ren inj c.ev d
          rw [eb, ev]
          cases d.bad c.ev with
          | some wd => rfl
          | none =>
            show (({ m.ren ρ wh with stk := (c.ren ρ wh).bnd (ρ x) (d.val c.ev) :: r.map (Fr.ren ρ wh) } : Mc), (none : Option Ends2)) = _
            rw [← bnd_ren]
            rfl
theorem runs_ren {ans : List Int} {most : Nat} {m m1 : Mc} {e : Ends2} (h : Runs fs ans most m e m1) : Runs gs ans most (m.ren ρ wh) (e.ren wh) (m1.ren ρ wh) := by
  induction h with
  | last h => exact .last (by rw [step_ren inj hg, h]; rfl)
  | more h _ ih => exact .more (by rw [step_ren inj hg, h]; rfl) ih
/-- the same comes of it -/
theorem runs_named {ans : List Int} {most : Nat} {ws : List Wt} {e e2 : Ends2} {m m2 : Mc} (h0 : wh 0 = 0) (h : Runs fs ans most (mc0 fs ws) e m) (h2 : Runs gs ans most (mc0 gs ws) e2 m2) : e2 = e.ren wh ∧ callsOf m2 = (callsOf m).map fun c => (wh c.1, c.2) := by
  have g := runs_ren inj hg h
  have e0 : (mc0 fs ws).ren ρ wh = mc0 gs ws := by
    have := begin_ren (ρ := ρ) hg ⟨0, [], [], []⟩ 0 ws
    rw [h0] at this
    exact this
  rw [e0] at g
  obtain ⟨e1, e3⟩ := runs_det g h2
  refine ⟨e1, ?_⟩
  rw [e3]
  unfold callsOf
  rw [List.map_map]
  show (List.range (m.begun.map _).length).map _ = _
  rw [List.length_map]
  refine List.map_congr_left fun i hi => ?_
  rw [List.mem_range] at hi
  show (((m.begun.map fun q => (wh q.1, q.2)).getD i (0, [])).1, ((m.begun.map fun q => (wh q.1, q.2)).getD i (0, [])).2, m.told.lookup i) = _
  rw [List.getD_eq_getElem?_getD, List.getElem?_map, List.getElem?_eq_getElem hi]
  show _ = (wh (m.begun.getD i (0, [])).1, (m.begun.getD i (0, [])).2, m.told.lookup i)
  rw [List.getD_eq_getElem?_getD, List.getElem?_eq_getElem hi]
  rfl
end
end Cs
namespace Cs
open PySem PySem.Spec L2
section
variable {ρ : Str → Str} {wh : Nat → Nat} (inj : ∀ x y, ρ x = ρ y → x = y) (hρ : ∀ x, okName x → x.length = 1 → okName (ρ x))
variable {hs hs2 : Hd} (hh : ∀ f, hs2[wh f]? = hs[f]?) (h1 : ∀ f, 1 ≤ f → 1 ≤ wh f)
include inj
theorem ms_ren {ns : Nm} : ∀ {a : Ms}, a.ok ns → (a.ren ρ).ok (nmR ρ ns)
  | .zero, _ => True.intro
  | .of x, h => (look_ren inj ns x).trans h
  | .len x, h => (look_ren inj ns x).trans h
include hh h1
theorem dd_ren {ns : Nm} {k : Kd} : ∀ {d : Dd}, d.ok hs ns k → (d.ren ρ wh).ok hs2 (nmR ρ ns) k
  | .num n, h => h
  | .sum x n, h => ⟨(look_ren inj ns x).trans h.1, h.2⟩
  | .len l, h => ⟨(look_ren inj ns l).trans h.1, h.2⟩
  | .nil, h => h
  | .put x l, h => ⟨(look_ren inj ns x).trans h.1, (look_ren inj ns l).trans h.2.1, h.2.2⟩
  | .head l, h => ⟨(look_ren inj ns l).trans h.1, h.2⟩
  | .tail l, h => ⟨(look_ren inj ns l).trans h.1, h.2⟩
  | .at_ l x, h => ⟨(look_ren inj ns l).trans h.1, (look_ren inj ns x).trans h.2.1, h.2.2⟩
  | .ask, h => h
  | .call f xs, ⟨g1, h, e1, e2, e3⟩ => by
    refine ⟨h1 f g1, h, (hh f).trans e1, ?_, e3⟩
    have : ∀ {xs : List Str} {ks : List Kd}, Paired (fun x kd => look ns x = some kd) xs ks → Paired (fun x kd => look (nmR ρ ns) x = some kd) (xs.map ρ) ks := by
      intro xs ks hp
      induction hp with
      | nil => exact .nil
      | cons a _ ih => exact .cons ((look_ren inj ns _).trans a) ih
    exact this e2
include hρ
theorem tr_ren {k : Kd} : ∀ {t : Tr} {ns : Nm}, t.ok hs k ns → t.one → (t.ren ρ wh).ok hs2 k (nmR ρ ns)
  | .let_ x d t, ns, ⟨o1, o2, kd, o3, o4⟩, ⟨u1, u2⟩ => by
    refine ⟨hρ x o1 u1, (look_ren inj ns x).trans o2, kd, dd_ren inj hh h1 o3, ?_⟩
    have := tr_ren (t := t) o4 u2
    unfold nmR at this ⊢
    rw [List.map_append] at this
    exact this
  | .if_ a b n t u, ns, ⟨o1, o2, o3, o4, o5⟩, ⟨u1, u2⟩ => ⟨ms_ren inj o1, ms_ren inj o2, o3, tr_ren (t := t) o4 u1, tr_ren (t := u) o5 u2⟩
  | .claim a b n t, ns, ⟨o1, o2, o3, o4⟩, u => ⟨ms_ren inj o1, ms_ren inj o2, o3, tr_ren (t := t) o4 u⟩
  | .tell x, ns, o, _ => (look_ren inj ns x).trans o
end
theorem pg_ren {ρ : Str → Str} {wh : Nat → Nat} (inj : ∀ x y, ρ x = ρ y → x = y) (hρ : ∀ x, okName x → x.length = 1 → okName (ρ x)) (h1 : ∀ f, 1 ≤ f → 1 ≤ wh f) {fs gs : List Fn} (hg : ∀ f, gs[wh f]? = fs[f]?.map (Fn.ren ρ wh)) (hl : gs.length = fs.length)
    (hs : ∀ g ∈ gs, ∃ f ∈ fs, g = f.ren ρ wh) (ok : okPg fs) (one : ∀ f ∈ fs, f.one) : okPg gs := by
  obtain ⟨k1, k2, k3⟩ := ok
  refine ⟨by omega, by omega, fun g hg2 => ?_⟩
  obtain ⟨f, hf, rfl⟩ := hs g hg2
  obtain ⟨o1, o2, o3, o4, o5, o6⟩ := k3 f hf
  obtain ⟨u1, u2⟩ := one f hf
  have hh : ∀ i, (gs.map Fn.hd)[wh i]? = (fs.map Fn.hd)[i]? := fun i => by
    rw [List.getElem?_map, List.getElem?_map, hg]
    cases fs[i]? with
    | none => rfl
    | some f =>
      show some ((nmR ρ f.ps).map (·.2), f.kd) = some (f.ps.map (·.2), f.kd)
      unfold nmR
      rw [List.map_map]
      rfl
  refine ⟨?_, ?_, ?_, tr_ren inj hρ hh h1 o4 u2, ?_, ?_⟩
  · show (nmR ρ f.ps).length ≤ 4
    unfold nmR
    rw [List.length_map]
    exact o1
  · intro p hp
    obtain ⟨q, hq, rfl⟩ := List.mem_map.mp (show p ∈ f.ps.map fun p => (ρ p.1, p.2) from hp)
    exact hρ _ (o2 q hq) (u1 q hq)
  · show ((nmR ρ f.ps).map (·.1)).Nodup
    unfold nmR
    rw [List.map_map]
    have e : (f.ps.map ((fun x => x.1) ∘ fun p => (ρ p.1, p.2))) = (f.ps.map (·.1)).map ρ := by rw [List.map_map]; rfl
    rw [e]
    exact List.pairwise_map.mpr (o3.imp fun n z => n (inj _ _ z))
  · show (f.tr.ren ρ wh).size ≤ 60
    rw [size_ren]
    exact o5
  · show (f.tr.ren ρ wh).deep ≤ 20
    rw [deep_ren]
    exact o6
/-! ### what led makes of it -/
def HeadOk (ds : List PyData) : Prop := ds = [] ∨ ∃ x r, ds = .str x :: r ∧ PyData.strOk x = true ∧ x ≠ "call"
theorem okName_strOk {x : Str} (h : okName x) : PyData.strOk x = true := by
  unfold PyData.strOk
  rw [Array.all_eq_true]
  intro i hi
  have := h.2.2 x.cps[i] (Array.mem_toList_iff.mpr (Array.getElem_mem hi))
  unfold sign at this
  exact decide_eq_true (by omega)
def LedB (ρ : Str → Str) (d e : PyData) : Prop := (∃ x, okName x ∧ x.length = 1 ∧ d = .str x ∧ e = .str (ρ x)) ∨ (∃ x : Str, (x.length ≠ 1 ∧ x.length ≤ 1000) ∧ d = .str x ∧ e = .str x) ∨ ∃ i : Int, d = .int i ∧ e = .int i
def Led (ρ : Str → Str) (wh : Nat → Nat) (many : Nat) : Nat → PyData → PyData → Prop
  | 0, d, e => LedB ρ d e
  | n + 1, d, e => LedB ρ d e ∨ (∃ (f : Nat) (d1 e1 : PyData), f < many ∧ Led ρ wh many n d1 e1 ∧ d = .tuple [.str "call", .int (f : Nat), d1] ∧ e = .tuple [.str "call", .int (wh f : Nat), e1]) ∨
      ∃ ds es : List PyData, ds.length ≤ 1000000 ∧ HeadOk ds ∧ Paired (Led ρ wh many n) ds es ∧ d = .tuple ds ∧ e = .tuple es
theorem Led.base {ρ : Str → Str} {wh : Nat → Nat} {many : Nat} {d e : PyData} (h : LedB ρ d e) : ∀ {n : Nat}, Led ρ wh many n d e
  | 0 => h
  | _ + 1 => .inl h
theorem Led.one {ρ : Str → Str} {wh : Nat → Nat} {many n : Nat} {x : Str} (h : okName x) (h1 : x.length = 1) : Led ρ wh many n (.str x) (.str (ρ x)) := .base (.inl ⟨x, h, h1, rfl, rfl⟩)
theorem Led.str {ρ : Str → Str} {wh : Nat → Nat} {many n : Nat} {x : Str} (h1 : x.length ≠ 1 ∧ x.length ≤ 1000) : Led ρ wh many n (.str x) (.str x) := .base (.inr (.inl ⟨x, h1, rfl, rfl⟩))
theorem Led.int {ρ : Str → Str} {wh : Nat → Nat} {many n : Nat} {x : Int} : Led ρ wh many n (.int x) (.int x) := .base (.inr (.inr ⟨x, rfl, rfl⟩))
theorem Led.call {ρ : Str → Str} {wh : Nat → Nat} {many n f : Nat} {d e : PyData} (h : f < many) (h1 : Led ρ wh many n d e) : Led ρ wh many (n + 1) (.tuple [.str "call", .int (f : Nat), d]) (.tuple [.str "call", .int (wh f : Nat), e]) := .inr (.inl ⟨f, d, e, h, h1, rfl, rfl⟩)
theorem Led.tup {ρ : Str → Str} {wh : Nat → Nat} {many n : Nat} {ds es : List PyData} (h : ds.length ≤ 1000000) (h1 : HeadOk ds) (h2 : Paired (Led ρ wh many n) ds es) : Led ρ wh many (n + 1) (.tuple ds) (.tuple es) := .inr (.inr ⟨ds, es, h, h1, h2, rfl, rfl⟩)
theorem Led.succ {ρ : Str → Str} {wh : Nat → Nat} {many : Nat} : ∀ {n : Nat} {d e : PyData}, Led ρ wh many n d e → Led ρ wh many (n + 1) d e
  | 0, _, _, h => .inl h
  | n + 1, _, _, .inl h => .inl h
  | n + 1, _, _, .inr (.inl ⟨f, d1, e1, a, b, c, d⟩) => .inr (.inl ⟨f, d1, e1, a, Led.succ b, c, d⟩)
  | n + 1, _, _, .inr (.inr ⟨ds, es, a, b, c, d, e⟩) => .inr (.inr ⟨ds, es, a, b, Paired.mapP c fun _ _ z => Led.succ z, d, e⟩)
theorem Led.up {ρ : Str → Str} {wh : Nat → Nat} {many n : Nat} {d e : PyData} (h : Led ρ wh many n d e) : ∀ {k : Nat}, n ≤ k → Led ρ wh many k d e := by
  intro k
  induction k with
  | zero =>
    intro hk
    obtain rfl : n = 0 := by omega
    exact h
  | succ k ih =>
    intro hk
    by_cases e : n = k + 1
    · rw [← e]; exact h
    · exact (ih (by omega)).succ
section
variable {ρ : Str → Str} {wh : Nat → Nat} {many : Nat}
theorem led_name {n : Nat} {x : Str} (o : okName x) (h : x.length = 1) : Led ρ wh many n (.str x) (.str (ρ x)) := .one o h
theorem head_ok {x : Str} {a : List PyData} (h : x ≠ "call") (h2 : PyData.strOk x = true := by decide +kernel) : HeadOk (.str x :: a) := .inr ⟨x, a, rfl, h2, h⟩
/-- a word of more signs stays -/
theorem led_word {n : Nat} {x : Str} (h : x.length ≠ 1 ∧ x.length ≤ 1000) : Led ρ wh many n (.str x) (.str x) := .str h
/-- names that stand are of one sign -/
def OneNs (ns : Nm) : Prop := ∀ p ∈ ns, okName p.1 ∧ p.1.length = 1
theorem OneNs.look {ns : Nm} (h : OneNs ns) {x : Str} {k : Kd} (e : look ns x = some k) : okName x ∧ x.length = 1 := by
  unfold Cs.look at e
  cases g : ns.find? fun p => decide (p.1 = x) with
  | none => rw [g] at e; cases e
  | some p =>
    have h2 := h p (List.mem_of_find?_eq_some g)
    have h3 := List.find?_some g
    rw [of_decide_eq_true h3] at h2
    exact h2
theorem led_names {ns : Nm} (h : OneNs ns) : ∀ {xs : List Str} {ks : List Kd}, Paired (fun x kd => look ns x = some kd) xs ks → Paired (Led ρ wh many 0) (xs.map .str) ((xs.map ρ).map .str)
  | _, _, .nil => .nil
  | _, _, .cons a b => .cons (.one (h.look a).1 (h.look a).2) (led_names h b)
theorem led_ms {ns : Nm} (h : OneNs ns) : ∀ {a : Ms}, a.ok ns → Led ρ wh many 1 a.d (a.ren ρ).d
  | .zero, _ => .tup (Nat.zero_le _) (.inl rfl) .nil
  | .of x, e => .tup (by show 2 ≤ _; decide) (head_ok (by decide +kernel)) (.cons (.str (by decide +kernel)) (.cons (.one (h.look e).1 (h.look e).2) .nil))
  | .len x, e => .tup (by show 2 ≤ _; decide) (head_ok (by decide +kernel)) (.cons (.str (by decide +kernel)) (.cons (.one (h.look e).1 (h.look e).2) .nil))
theorem not_call {x : Str} (h : x.length = 1) : x ≠ "call" := fun z => by
  rw [z] at h
  exact absurd h (by decide +kernel)
theorem led_dd {hs : Hd} {ns : Nm} (h : OneNs ns) (hm : hs.length ≤ many) (hb : ∀ x ∈ hs, x.1.length ≤ 1000000) {k : Kd} : ∀ {d : Dd}, d.ok hs ns k → Led ρ wh many 2 d.d (d.ren ρ wh).d
  | .num n, _ => (Led.tup (n := 0) (by show 2 ≤ _; decide) (head_ok (by decide +kernel)) (.cons (.str (by decide +kernel)) (.cons .int .nil))).up (by decide)
  | .sum x n, e => (Led.tup (n := 0) (by show 3 ≤ _; decide) (head_ok (by decide +kernel)) (.cons (.str (by decide +kernel)) (.cons (.one (h.look e.1).1 (h.look e.1).2) (.cons .int .nil)))).up (by decide)
  | .len l, e => (Led.tup (n := 0) (by show 2 ≤ _; decide) (head_ok (by decide +kernel)) (.cons (.str (by decide +kernel)) (.cons (.one (h.look e.1).1 (h.look e.1).2) .nil))).up (by decide)
  | .nil, _ => (Led.tup (n := 0) (by show 1 ≤ _; decide) (head_ok (by decide +kernel)) (.cons (.str (by decide +kernel)) .nil)).up (by decide)
  | .put x l, e => (Led.tup (n := 0) (by show 3 ≤ _; decide) (head_ok (by decide +kernel)) (.cons (.str (by decide +kernel)) (.cons (.one (h.look e.1).1 (h.look e.1).2) (.cons (.one (h.look e.2.1).1 (h.look e.2.1).2) .nil)))).up (by decide)
  | .head l, e => (Led.tup (n := 0) (by show 2 ≤ _; decide) (head_ok (by decide +kernel)) (.cons (.str (by decide +kernel)) (.cons (.one (h.look e.1).1 (h.look e.1).2) .nil))).up (by decide)
  | .tail l, e => (Led.tup (n := 0) (by show 2 ≤ _; decide) (head_ok (by decide +kernel)) (.cons (.str (by decide +kernel)) (.cons (.one (h.look e.1).1 (h.look e.1).2) .nil))).up (by decide)
  | .at_ l x, e => (Led.tup (n := 0) (by show 3 ≤ _; decide) (head_ok (by decide +kernel)) (.cons (.str (by decide +kernel)) (.cons (.one (h.look e.1).1 (h.look e.1).2) (.cons (.one (h.look e.2.1).1 (h.look e.2.1).2) .nil)))).up (by decide)
  | .ask, _ => (Led.tup (n := 0) (by show 1 ≤ _; decide) (head_ok (by decide +kernel)) (.cons (.str (by decide +kernel)) .nil)).up (by decide)
  | .call f xs, ⟨g1, hh, e1, e2, e3⟩ => by
    have hf : f < many := Nat.lt_of_lt_of_le (List.getElem?_eq_some_iff.mp e1).1 hm
    refine .call hf (.tup ?_ ?_ (led_names h e2))
    · rw [List.length_map, Paired.length e2]
      exact hb _ (List.mem_of_getElem? e1)
    · generalize hh.1 = ks at e2
      cases e2 with
      | nil => exact .inl rfl
      | cons a b => exact head_ok (not_call (h.look a).2) (okName_strOk (h.look a).1)
theorem led_tr {hs : Hd} (hm : hs.length ≤ many) (hb : ∀ x ∈ hs, x.1.length ≤ 1000000) {k : Kd} : ∀ {t : Tr} {ns : Nm}, OneNs ns → t.ok hs k ns → t.one → Led ρ wh many (t.deep + 2) t.d (t.ren ρ wh).d
  | .let_ x d t, ns, h, ⟨o1, o2, kd, o3, o4⟩, ⟨u1, u2⟩ => by
    have h2 : OneNs (ns ++ [(x, kd)]) := fun p hp => by
      rcases List.mem_append.mp hp with z | z
      · exact h p z
      · rw [List.mem_singleton.mp z]
        exact ⟨o1, u1⟩
    have ih := led_tr hm hb (t := t) h2 o4 u2
    exact .tup (n := t.deep + 2) (by show 4 ≤ _; decide) (head_ok (by decide +kernel)) (.cons (.str (by decide +kernel)) (.cons (.one o1 u1) (.cons ((led_dd h hm hb o3).up (by omega)) (.cons ih .nil))))
  | .if_ a b n t u, ns, h, ⟨o1, o2, o3, o4, o5⟩, ⟨u1, u2⟩ =>
    .tup (n := max t.deep u.deep + 2) (by show 6 ≤ _; decide) (head_ok (by decide +kernel)) (.cons (.str (by decide +kernel)) (.cons ((led_ms h o1).up (by omega)) (.cons ((led_ms h o2).up (by omega)) (.cons .int (.cons ((led_tr hm hb (t := t) h o4 u1).up (by omega)) (.cons ((led_tr hm hb (t := u) h o5 u2).up (by omega)) .nil))))))
  | .claim a b n t, ns, h, ⟨o1, o2, o3, o4⟩, u =>
    .tup (n := t.deep + 2) (by show 5 ≤ _; decide) (head_ok (by decide +kernel)) (.cons (.str (by decide +kernel)) (.cons ((led_ms h o1).up (by omega)) (.cons ((led_ms h o2).up (by omega)) (.cons .int (.cons (led_tr hm hb (t := t) h o4 u) .nil)))))
  | .tell x, ns, h, o, _ => .tup (n := 1 + 1) (by show 2 ≤ _; decide) (head_ok (by decide +kernel)) (.cons (.str (by decide +kernel)) (.cons (.one (h.look o).1 (h.look o).2) .nil))
end
end Cs
namespace Cs
open PySem PySem.Spec L2
/-! ## what a run's telling is like -/
def Sml (n : Nat) (m : Mc) : Prop := (∀ q ∈ m.begun, q.1 < n ∧ q.2.length ≤ 4 ∧ ∀ w ∈ q.2, w.xs.length ≤ 800000) ∧ ∀ p ∈ m.told, p.2.xs.length ≤ 800000
def EndOk (n : Nat) : Ends2 → Prop
  | .told w => w.xs.length ≤ 800000
  | .fault x f _ => PyData.strOk x = true ∧ f < n
  | .long => True
theorem bad_ok {e : Ev} {d : Dd} {x : Str} (h : d.bad e = some x) : PyData.strOk x = true := by
  unfold Dd.bad at h
  split at h
  · split at h
    · cases h
      decide +kernel
    · cases h
  · split at h
    · cases h
      decide +kernel
    · cases h
  · split at h
    · cases h
    · cases h
      decide +kernel
  · cases h
section
variable {fs : List Fn} {ans : List Int} {most : Nat} {m m1 : Mc} {c : Fr} {r : List Fr} {f : Fn} {t : Tr}
theorem Fine.ev (h : Fine fs ans most m c r f t) : ∀ p ∈ c.ev, p.2.xs.length ≤ 800000 := fun p hp => by
  have := h.small c (by rw [h.stk]; exact List.mem_cons_self) p hp
  omega
theorem Fine.fnlt (h : Fine fs ans most m c r f t) : c.fn < fs.length := (List.getElem?_eq_some_iff.mp h.top.fn).1
theorem stepLet_bad (h : Fine fs ans most m c r f t) (S : Sml fs.length m) {x : Str} {d : Dd} {oe : Option Ends2} (e : (match d.bad c.ev with | some w => (m, some (Ends2.fault w c.fn c.place)) | none => (({ m with stk := c.bnd x (d.val c.ev) :: r } : Mc), none)) = (m1, oe)) : Sml fs.length m1 ∧ ∀ z, oe = some z → EndOk fs.length z := by
  cases hb : d.bad c.ev with
  | none =>
    rw [hb] at e
    cases e
    exact ⟨S, fun z hz => nomatch hz⟩
  | some wd =>
    rw [hb] at e
    cases e
    exact ⟨S, fun z hz => by cases hz; exact ⟨bad_ok hb, h.fnlt⟩⟩
theorem step_sml (h : Fine fs ans most m c r f t) (ok : okPg fs) (S : Sml fs.length m) {oe : Option Ends2} (e : stepF fs ans most m = (m1, oe)) : Sml fs.length m1 ∧ ∀ z, oe = some z → EndOk fs.length z := by
  rw [stepF_at h.stk h.top.tree] at e
  have hev := h.ev
  cases t with
  | tell x =>
    have hx := egetD_small hev x
    have S2 : ∀ p ∈ m.told ++ [(c.row, egetD c.ev x)], p.2.xs.length ≤ 800000 := fun p hp => by
      rcases List.mem_append.mp hp with hp | hp
      · exact S.2 p hp
      · rw [List.mem_singleton.mp hp]
        exact hx
    cases r with
    | nil =>
      cases e
      exact ⟨⟨S.1, S2⟩, fun z hz => by cases hz; exact hx⟩
    | cons c2 r2 =>
      change (match treeAt fs c2 with | some (.let_ y _ _) => _ | _ => _) = _ at e
      split at e <;> cases e
      · exact ⟨⟨S.1, S2⟩, fun z hz => nomatch hz⟩
      · exact ⟨S, fun z hz => nomatch hz⟩
  | let_ x d u =>
    have ot := h.top.ok
    cases d with
    | call g xs =>
      change (if m.begun.length = most then (m, some Ends2.long) else (m.begin fs g (xs.map (egetD c.ev)), none)) = _ at e
      split at e <;> cases e
      · exact ⟨S, fun z hz => by cases hz; exact True.intro⟩
      · refine ⟨⟨fun q hq => ?_, S.2⟩, fun z hz => nomatch hz⟩
        rcases List.mem_append.mp (show q ∈ m.begun ++ [(g, xs.map (egetD c.ev))] from hq) with hq | hq
        · exact S.1 q hq
        · rw [List.mem_singleton.mp hq]
          obtain ⟨_, _, kd, ⟨g1, hh, e1, e2, _⟩, _⟩ := ot
          rw [List.getElem?_map] at e1
          obtain ⟨fn, hfn, rfl⟩ := Option.map_eq_some_iff.mp e1
          refine ⟨(List.getElem?_eq_some_iff.mp hfn).1, ?_, fun w hw => ?_⟩
          · show (xs.map _).length ≤ 4
            have h4 := (ok.2.2 fn (List.mem_of_getElem? hfn)).1
            have h5 : (fn.ps.map (·.2)).length ≤ 4 := by rw [List.length_map]; exact h4
            rw [List.length_map, Paired.length e2]
            exact h5
          obtain ⟨y, _, rfl⟩ := List.mem_map.mp hw
          exact egetD_small hev y
    | ask =>
      cases e
      exact ⟨S, fun z hz => nomatch hz⟩
    | num n => exact stepLet_bad h S (x := x) (d := .num n) e
    | sum y n => exact stepLet_bad h S (x := x) (d := .sum y n) e
    | len l => exact stepLet_bad h S (x := x) (d := .len l) e
    | nil => exact stepLet_bad h S (x := x) (d := .nil) e
    | put y l => exact stepLet_bad h S (x := x) (d := .put y l) e
    | head l => exact stepLet_bad h S (x := x) (d := .head l) e
    | tail l => exact stepLet_bad h S (x := x) (d := .tail l) e
    | at_ l y => exact stepLet_bad h S (x := x) (d := .at_ l y) e
  | if_ a b n u v =>
    cases e
    exact ⟨S, fun z hz => nomatch hz⟩
  | claim a b n u =>
    change (if a.val c.ev - b.val c.ev ≤ n then (({ m with stk := c.to (c.place + 1) :: r } : Mc), none) else (m, some (Ends2.fault "claim" c.fn c.place))) = _ at e
    split at e <;> cases e
    · exact ⟨S, fun z hz => nomatch hz⟩
    · exact ⟨S, fun z hz => by cases hz; exact ⟨by decide +kernel, h.fnlt⟩⟩
end
theorem runs_sml {fs : List Fn} {ans : List Int} {most : Nat} (ok : okPg fs) (hm : most ≤ 300) {m m1 : Mc} {e : Ends2} (h : Runs fs ans most m e m1) : ∀ {c r f t}, Fine fs ans most m c r f t → Sml fs.length m → Sml fs.length m1 ∧ EndOk fs.length e ∧ m1.begun.length ≤ most := by
  induction h with
  | last s =>
    intro c r f t F S
    obtain ⟨a, b⟩ := step_sml F ok S s
    refine ⟨a, b _ rfl, ?_⟩
    rw [end_begun F s]
    exact F.many
  | more s _ ih =>
    intro c r f t F S
    obtain ⟨⟨c1, r1, f1, t1, F1⟩, _⟩ := fine_step F ok hm s
    exact ih F1 (step_sml F ok S s).1
theorem run_sml {fs : List Fn} {f0 : Fn} {ans : List Int} {most : Nat} {ws : List Wt} (ok : okPg fs) (h0 : fs[0]? = some f0) (hw : Paired (fun (p : Str × Kd) w => okHand p.2 w) f0.ps ws) (h1 : 1 ≤ most) (h3 : most ≤ 300) {m1 : Mc} {e : Ends2} (h : Runs fs ans most (mc0 fs ws) e m1) :
    Sml fs.length m1 ∧ EndOk fs.length e ∧ m1.begun.length ≤ most := by
  refine runs_sml ok h3 h (fine0 ok h0 hw h1 h3) ⟨fun q hq => ?_, fun p hp => by cases hp⟩
  rw [List.mem_singleton.mp (show q ∈ [(0, ws)] from hq)]
  refine ⟨(List.getElem?_eq_some_iff.mp h0).1, by show ws.length ≤ 4; rw [← Paired.length hw]; exact (ok.2.2 f0 (List.mem_of_getElem? h0)).1, fun w hw2 => ?_⟩
  have h6 : ∀ {ps : Nm} {ws : List Wt}, Paired (fun (p : Str × Kd) w => okHand p.2 w) ps ws → ∀ w ∈ ws, w.xs.length ≤ 40 := by
    intro ps ws h
    induction h with
    | nil => intro w hw; cases hw
    | cons a _ ih =>
      intro w hw
      rcases List.mem_cons.mp hw with e | e
      · rw [e]; exact a.2.2.1
      · exact ih w e
  have := h6 hw w hw2
  omega
/-! ### its data -/
/-- numbers, words, none, and tuples and lists of these -/
inductive Pl : Nat → PyData → Prop
  | int {n : Nat} (i : Int) : Pl n (.int i)
  | non {n : Nat} : Pl n .none
  | str {n : Nat} {x : Str} (h : PyData.strOk x = true) : Pl n (.str x)
  | tup {n : Nat} {ds : List PyData} (h : ds.length ≤ 1000000) (hs : ∀ d ∈ ds, Pl n d) : Pl (n + 1) (.tuple ds)
  | lst {n : Nat} {ds : List PyData} (h : ds.length ≤ 1000000) (hs : ∀ d ∈ ds, Pl n d) : Pl (n + 1) (.list ds)
theorem Pl.up {n : Nat} {d : PyData} (h : Pl n d) : Pl (n + 1) d := by
  induction h with
  | int i => exact .int i
  | non => exact .non
  | str h => exact .str h
  | tup h _ ih => exact .tup h ih
  | lst h _ ih => exact .lst h ih
theorem Pl.sized {n : Nat} {d : PyData} (h : Pl n d) : Sized n d := by
  induction h with
  | int i => exact .sc True.intro
  | non => exact .sc True.intro
  | str h => exact .sc True.intro
  | tup h _ ih => exact .tup h ih
  | lst h _ ih => exact .lst h ih
theorem lay_all : ∀ {ds : List PyData}, (∀ d ∈ ds, PyData.canLay0 d = true) → PyData.canLayAll0 ds = true
  | [], _ => rfl
  | d :: ds, h => by
    show (PyData.canLay0 d && PyData.canLayAll0 ds) = true
    rw [h d List.mem_cons_self, lay_all fun x hx => h x (List.mem_cons_of_mem _ hx)]
    rfl
theorem eqv_all : ∀ {ds : List PyData}, (∀ d ∈ ds, PyData.eqv d d = true) → PyData.eqvAll ds ds = true
  | [], _ => by rw [PyData.eqvAll]
  | d :: ds, h => by
    rw [PyData.eqvAll, h d List.mem_cons_self, eqv_all fun x hx => h x (List.mem_cons_of_mem _ hx)]
    rfl
theorem Pl.lay {n : Nat} {d : PyData} (h : Pl n d) : PyData.canLay0 d = true := by
  induction h with
  | int i => rfl
  | non => rfl
  | str h => exact h
  | tup _ _ ih => exact lay_all ih
  | lst _ _ ih => exact lay_all ih
theorem Pl.eqv {n : Nat} {d : PyData} (h : Pl n d) : PyData.eqv d d = true := by
  induction h with
  | int i => exact beq_self_eq_true i
  | non => rfl
  | str h => exact beq_self_eq_true _
  | tup _ _ ih => exact eqv_all ih
  | lst _ _ ih => exact eqv_all ih
theorem depth_all {k : Nat} : ∀ {ds : List PyData}, (∀ d ∈ ds, PyData.depth d ≤ k) → PyData.depthAll ds ≤ k
  | [], _ => Nat.zero_le _
  | d :: ds, h => by
    show max (PyData.depth d) (PyData.depthAll ds) ≤ k
    have h1 := h d List.mem_cons_self
    have h2 := depth_all fun x hx => h x (List.mem_cons_of_mem _ hx)
    omega
theorem Pl.deep {n : Nat} {d : PyData} (h : Pl n d) : PyData.depth d ≤ n + 1 := by
  induction h with
  | int i => exact Nat.le_add_left _ _
  | non => exact Nat.le_add_left _ _
  | str h => exact Nat.le_add_left _ _
  | tup _ _ ih => exact Nat.succ_le_succ (depth_all ih)
  | lst _ _ ih => exact Nat.succ_le_succ (depth_all ih)
theorem Pl.shaped {n : Nat} {d : PyData} (h : Pl n d) (hn : n ≤ 63) : SeqAt.shaped d = true := by
  unfold SeqAt.shaped
  rw [h.lay, decide_eq_true (by have := h.deep; omega)]
  rfl
theorem pl_wt {w : Wt} (h : w.xs.length ≤ 800000) : Pl 1 w.d := by
  cases w with
  | n i => exact .int i
  | l xs =>
    refine .tup (by rw [List.length_map]; exact Nat.le_trans h (by decide)) fun d hd => ?_
    obtain ⟨i, _, rfl⟩ := List.mem_map.mp hd
    exact .int i
theorem pl_end {n : Nat} {e : Ends2} (h : EndOk n e) : Pl 2 e.d := by
  cases e with
  | told w =>
    refine .tup (by show 2 ≤ _; decide) fun d hd => ?_
    rcases List.mem_cons.mp hd with rfl | hd
    · exact .str (by decide +kernel)
    · rw [List.mem_singleton.mp hd]
      exact pl_wt h
  | fault x f p =>
    refine .tup (by show 4 ≤ _; decide) fun d hd => ?_
    rcases List.mem_cons.mp hd with rfl | hd
    · exact .str (by decide +kernel)
    rcases List.mem_cons.mp hd with rfl | hd
    · exact .str h.1
    rcases List.mem_cons.mp hd with rfl | hd
    · exact .int _
    · rw [List.mem_singleton.mp hd]
      exact .int _
  | long =>
    refine .tup (by show 1 ≤ _; decide) fun d hd => ?_
    rw [List.mem_singleton.mp hd]
    exact .str (by decide +kernel)
def Ends2.isLong : Ends2 → Bool
  | .long => true
  | _ => false
theorem is_long {e : Ends2} (h : e.isLong = true) : e = .long := by
  cases e with
  | told w => cases h
  | fault x f p => cases h
  | long => rfl
theorem long_eqv (e : Ends2) : PyData.eqv e.d (.tuple [.str "long"]) = e.isLong := by
  cases e with
  | told w =>
    show (("told" : Str) == "long" && false) = _
    rw [Bool.and_false]
    rfl
  | fault x f p =>
    show (("fault" : Str) == "long" && false) = _
    rw [Bool.and_false]
    rfl
  | long => decide +kernel
/-- a call, and its head -/
def headD (c : Nat × List Wt × Option Wt) : PyData := .tuple [.int (c.1 : Nat), .tuple (c.2.1.map Wt.d)]
def CallOk (n : Nat) (c : Nat × List Wt × Option Wt) : Prop := c.1 < n ∧ c.2.1.length ≤ 4 ∧ (∀ w ∈ c.2.1, w.xs.length ≤ 800000) ∧ ∀ w, c.2.2 = some w → w.xs.length ≤ 800000
theorem pl_call {n : Nat} {c : Nat × List Wt × Option Wt} (h : CallOk n c) : Pl 3 (callD c) := by
  obtain ⟨i, ws, o⟩ := c
  refine .tup (by show 3 ≤ _; decide) fun d hd => ?_
  rcases List.mem_cons.mp hd with rfl | hd
  · exact .int _
  rcases List.mem_cons.mp hd with rfl | hd
  · refine .tup (by rw [List.length_map]; exact Nat.le_trans h.2.1 (by decide)) fun d hd => ?_
    obtain ⟨w, hw, rfl⟩ := List.mem_map.mp hd
    exact pl_wt (h.2.2.1 w hw)
  · rw [List.mem_singleton.mp hd]
    cases o with
    | none => exact .non
    | some w => exact (pl_wt (h.2.2.2 w rfl)).up
theorem pl_head {n : Nat} {c : Nat × List Wt × Option Wt} (h : CallOk n c) : Pl 3 (headD c) := by
  obtain ⟨i, ws, o⟩ := c
  refine .tup (by show 2 ≤ _; decide) fun d hd => ?_
  rcases List.mem_cons.mp hd with rfl | hd
  · exact .int _
  · rw [List.mem_singleton.mp hd]
    refine .tup (by rw [List.length_map]; exact Nat.le_trans h.2.1 (by decide)) fun d hd => ?_
    obtain ⟨w, hw, rfl⟩ := List.mem_map.mp hd
    exact pl_wt (h.2.2.1 w hw)
theorem calls_len (m : Mc) : (callsOf m).length = m.begun.length := by
  unfold callsOf
  rw [List.length_map, List.length_range]
theorem heads_cut {m m2 : Mc} {k : Nat} (hk : k ≤ m.begun.length) (h : m2.begun = m.begun.take k) : (callsOf m2).map headD = ((callsOf m).take k).map headD := by
  refine List.ext_getElem? fun i => ?_
  unfold callsOf headD
  rw [List.getElem?_map, List.getElem?_map, List.getElem?_map, List.getElem?_take, List.getElem?_map, h, List.length_take, Nat.min_eq_left hk]
  by_cases hi : i < k
  · rw [if_pos hi, List.getElem?_range hi, List.getElem?_range (by omega)]
    have e : (m.begun.take k).getD i (0, []) = m.begun.getD i (0, []) := by
      rw [List.getD_eq_getElem?_getD, List.getD_eq_getElem?_getD, List.getElem?_take, if_pos hi]
    show some (PyData.tuple [.int (((m.begun.take k).getD i (0, [])).1 : Nat), .tuple (((m.begun.take k).getD i (0, [])).2.map Wt.d)]) = _
    rw [e]
    rfl
  · rw [if_neg hi, List.getElem?_eq_none (by rw [List.length_range]; omega)]
    rfl
theorem lookup_mem {α : Type} {i : Nat} {w : α} : ∀ {l : List (Nat × α)}, l.lookup i = some w → (i, w) ∈ l
  | [], h => by cases h
  | (j, v) :: r, h => by
    rw [List.lookup_cons] at h
    by_cases e : (i == j) = true
    · rw [e] at h
      cases h
      rw [beq_iff_eq.mp e]
      exact List.mem_cons_self
    · rw [Bool.eq_false_iff.mpr e] at h
      exact List.mem_cons_of_mem _ (lookup_mem h)
theorem calls_ok {n : Nat} {m : Mc} (S : Sml n m) : ∀ c ∈ callsOf m, CallOk n c := by
  intro c hc
  obtain ⟨i, hi, rfl⟩ := List.mem_map.mp hc
  rw [List.mem_range] at hi
  have hb : m.begun.getD i (0, []) ∈ m.begun := by
    rw [List.getD_eq_getElem?_getD, List.getElem?_eq_getElem hi]
    exact List.getElem_mem hi
  obtain ⟨a, b, c⟩ := S.1 _ hb
  exact ⟨a, b, c, fun w hw => S.2 _ (lookup_mem hw)⟩
def resD (e : Ends2) (m : Mc) : PyData := .tuple [e.d, .list ((callsOf m).map callD)]
theorem res_pl {n : Nat} {m : Mc} {e : Ends2} (S : Sml n m) (he : EndOk n e) (hl : m.begun.length ≤ 300) : Pl 5 (resD e m) := by
  refine .tup (by show 2 ≤ _; decide) fun d hd => ?_
  rcases List.mem_cons.mp hd with rfl | hd
  · exact (pl_end he).up.up
  · rw [List.mem_singleton.mp hd]
    refine .lst (by rw [List.length_map, calls_len]; exact Nat.le_trans hl (by decide)) fun d hd => ?_
    obtain ⟨c, hc, rfl⟩ := List.mem_map.mp hd
    exact pl_call (calls_ok S c hc)
end Cs
namespace Cs
open PySem PySem.Spec L2
/-! ## other names, another order -/
def rhoX (x : Str) : Str := ("x" : Str) ++ x
theorem rho_inj (x y : Str) (h : rhoX x = rhoX y) : x = y := by
  have h2 : (rhoX x).cps.toList = (rhoX y).cps.toList := by rw [h]
  have e : ∀ z : Str, (rhoX z).cps.toList = 120 :: z.cps.toList := fun z => by
    show ((("x" : Str).cps ++ z.cps).toList) = _
    rw [Array.toList_append]
    rfl
  rw [e, e] at h2
  injection h2 with _ h2
  obtain ⟨a⟩ := x
  obtain ⟨b⟩ := y
  exact congrArg Str.mk (Array.toList_inj.mp h2)
theorem one_lt {x : Str} (h : okName x) (h1 : x.length = 1) : ∃ i < 26, x = lt i := by
  obtain ⟨⟨l⟩⟩ := x
  match l, h1, h with
  | [c], _, h =>
    have := h.2.2 c List.mem_cons_self
    unfold sign at this
    refine ⟨c - 97, by omega, ?_⟩
    show Str.mk #[c] = Str.mk #[97 + (c - 97)]
    rw [show 97 + (c - 97) = c by omega]
theorem rho_ok : ∀ i < 26, okName (rhoX (lt i)) := by decide +kernel
theorem rho_name (x : Str) (h : okName x) (h1 : x.length = 1) : okName (rhoX x) := by
  obtain ⟨i, hi, rfl⟩ := one_lt h h1
  exact rho_ok i hi
def nmKv : List (Key × V) := (List.range 26).map fun i => (.inr (lt i), .str (rhoX (lt i)))
theorem nmKv_nodup : (nmKv.map (·.1)).Nodup := by decide +kernel
theorem nmKv_at : ∀ i < 26, valV nmKv (.inr (lt i)) = some (.str (rhoX (lt i))) := by decide +kernel
theorem nmKv_get {x : Str} (h : okName x) (h1 : x.length = 1) : valV nmKv (.inr x) = some (.str (rhoX x)) := by
  obtain ⟨i, hi, rfl⟩ := one_lt h h1
  exact nmKv_at i hi
def whKv (os : List Nat) : List (Key × V) := (List.range os.length).map fun k => (.inl ((os.getD k 0 : Nat) : Int), .int (k : Nat))
theorem whKv_key (os : List Nat) : (whKv os).map (·.1) = os.map fun (f : Nat) => (.inl ((f : Nat) : Int) : Key) := by
  refine List.ext_getElem? fun i => ?_
  unfold whKv
  rw [List.map_map, List.getElem?_map, List.getElem?_map]
  by_cases hi : i < os.length
  · rw [List.getElem?_range hi, List.getElem?_eq_getElem hi]
    show some (Sum.inl ((os.getD i 0 : Nat) : Int)) = _
    rw [List.getD_eq_getElem?_getD, List.getElem?_eq_getElem hi]
    rfl
  · rw [List.getElem?_eq_none (by rw [List.length_range]; omega), List.getElem?_eq_none (by omega)]
    rfl
theorem whKv_nodup {os : List Nat} (h : os.Nodup) : ((whKv os).map (·.1)).Nodup := by
  rw [whKv_key]
  refine List.pairwise_map.mpr (h.imp fun n z => n ?_)
  injection z with z
  exact Int.ofNat.inj z
theorem whKv_get {os : List Nat} (nd : os.Nodup) {f : Nat} (hf : f ∈ os) : valV (whKv os) (.inl (f : Int)) = some (.int (os.idxOf f : Nat)) := by
  have hi : os.idxOf f < os.length := List.idxOf_lt_length_iff.mpr hf
  have hw : (whKv os).length = os.length := by unfold whKv; rw [List.length_map, List.length_range]
  have at_ : ∀ j (hj : j < os.length) (h2 : j < (whKv os).length), (whKv os)[j] = ((.inl ((os[j] : Nat) : Int) : Key), V.int (j : Nat)) := fun j hj h2 => by
    have g : (whKv os)[j]? = some ((.inl ((os[j] : Nat) : Int) : Key), V.int (j : Nat)) := by
      unfold whKv
      rw [List.getElem?_map, List.getElem?_range hj]
      show some ((.inl ((os.getD j 0 : Nat) : Int) : Key), V.int (j : Nat)) = _
      rw [List.getD_eq_getElem?_getD, List.getElem?_eq_getElem hj]
      rfl
    exact (List.getElem?_eq_some_iff.mp g).2
  have e : os[os.idxOf f] = f := List.getElem_idxOf hi
  unfold valV
  have g : (whKv os).find? (fun kv => decide (kv.1 = .inl (f : Int))) = some ((.inl (f : Int) : Key), V.int (os.idxOf f : Nat)) := by
    rw [List.find?_eq_some_iff_getElem]
    refine ⟨decide_eq_true rfl, os.idxOf f, by omega, ?_, fun j hj => ?_⟩
    · rw [at_ _ hi, e]
    · rw [at_ j (by omega)]
      have : ¬ ((.inl ((os[j] : Nat) : Int) : Key) = .inl (f : Int)) := fun z => by
        injection z with z
        have z2 : os[j] = f := Int.ofNat.inj z
        have := (List.getElem_inj nd (h₀ := by omega) (h₁ := hi)).mp (z2.trans e.symm)
        omega
      rw [decide_eq_false this]
      rfl
  rw [g]
  rfl
def whO (os : List Nat) (n f : Nat) : Nat := if f < n then os.idxOf f else f
def gsO (ρ : Str → Str) (wh : Nat → Nat) (fs : List Fn) (os : List Nat) : List Fn := os.filterMap fun f => fs[f]?.map (Fn.ren ρ wh)
theorem gsO_snoc {ρ : Str → Str} {wh : Nat → Nat} {fs : List Fn} {os : List Nat} {f : Nat} {fn : Fn} (h : fs[f]? = some fn) : gsO ρ wh fs (os ++ [f]) = gsO ρ wh fs os ++ [fn.ren ρ wh] := by
  unfold gsO
  rw [List.filterMap_append, List.filterMap_cons, h]
  rfl
theorem gsO_len {ρ : Str → Str} {wh : Nat → Nat} {fs : List Fn} : ∀ {os : List Nat}, (∀ f ∈ os, f < fs.length) → (gsO ρ wh fs os).length = os.length ∧ ∀ k : Nat, (gsO ρ wh fs os)[k]? = os[k]?.bind fun f => fs[f]?.map (Fn.ren ρ wh)
  | [], _ => ⟨rfl, fun k => by simp [gsO]⟩
  | f :: os, h => by
    obtain ⟨h1, h2⟩ := gsO_len (os := os) fun g hg => h g (List.mem_cons_of_mem _ hg)
    have hf := h f List.mem_cons_self
    have e : gsO ρ wh fs (f :: os) = (fs[f].ren ρ wh) :: gsO ρ wh fs os := by
      unfold gsO
      rw [List.filterMap_cons, List.getElem?_eq_getElem hf]
      rfl
    rw [e]
    refine ⟨by rw [List.length_cons, List.length_cons, h1], fun k => ?_⟩
    cases k with
    | zero =>
      rw [List.getElem?_cons_zero, List.getElem?_cons_zero]
      show _ = fs[f]?.map _
      rw [List.getElem?_eq_getElem hf]
      rfl
    | succ k => rw [List.getElem?_cons_succ, List.getElem?_cons_succ, h2]
structure Ord (os : List Nat) (n : Nat) : Prop where
  perm : os.Perm (List.range n)
  zero : os[0]? = some 0
section
variable {os : List Nat} {n : Nat} (O : Ord os n)
include O
theorem Ord.nodup : os.Nodup := O.perm.nodup_iff.mpr List.nodup_range
theorem Ord.len : os.length = n := by rw [O.perm.length_eq, List.length_range]
theorem Ord.mem (f : Nat) : f ∈ os ↔ f < n := by rw [O.perm.mem_iff, List.mem_range]
theorem Ord.idx {f : Nat} (h : f < n) : os.idxOf f < n ∧ os[os.idxOf f]? = some f := by
  have hf := (O.mem f).mpr h
  have hi : os.idxOf f < os.length := List.idxOf_lt_length_iff.mpr hf
  refine ⟨by rw [← O.len]; exact hi, ?_⟩
  rw [List.getElem?_eq_getElem hi, List.getElem_idxOf hi]
theorem Ord.wh0 : whO os n 0 = 0 := by
  have hz := O.zero
  have h0 : 0 < os.length := (List.getElem?_eq_some_iff.mp hz).1
  unfold whO
  rw [if_pos (by rw [← O.len]; exact h0)]
  match os, hz with
  | a :: r, hz =>
    rw [List.getElem?_cons_zero] at hz
    cases hz
    exact List.idxOf_cons_self
theorem Ord.wh1 (f : Nat) (h : 1 ≤ f) : 1 ≤ whO os n f := by
  unfold whO
  split
  · rename_i hf
    rcases Nat.eq_zero_or_pos (os.idxOf f) with z | z
    · have := (O.idx hf).2
      rw [z, O.zero] at this
      cases this
      omega
    · exact z
  · exact h
theorem Ord.wh {kw : List (Key × V)} (hk : kw = whKv os) (f : Nat) (h : f < n) : valV kw (.inl (f : Int)) = some (.int (whO os n f : Nat)) := by
  rw [hk, whKv_get O.nodup ((O.mem f).mpr h)]
  unfold whO
  rw [if_pos h]
theorem Ord.gs {ρ : Str → Str} {fs : List Fn} (hn : fs.length = n) (f : Nat) : (gsO ρ (whO os n) fs os)[whO os n f]? = fs[f]?.map (Fn.ren ρ (whO os n)) := by
  obtain ⟨h1, h2⟩ := gsO_len (ρ := ρ) (wh := whO os n) (fs := fs) (os := os) fun g hg => by rw [hn]; exact (O.mem g).mp hg
  rw [h2]
  by_cases hf : f < n
  · have : whO os n f = os.idxOf f := by unfold whO; rw [if_pos hf]
    rw [this, (O.idx hf).2]
    rfl
  · have : whO os n f = f := by unfold whO; rw [if_neg hf]
    rw [this, List.getElem?_eq_none (by rw [O.len]; omega), List.getElem?_eq_none (by omega)]
    rfl
theorem Ord.mems {ρ : Str → Str} {fs : List Fn} (g : Fn) (h : g ∈ gsO ρ (whO os n) fs os) : ∃ f ∈ fs, g = f.ren ρ (whO os n) := by
  obtain ⟨i, _, e⟩ := List.mem_filterMap.mp h
  obtain ⟨f, hf, e2⟩ := Option.map_eq_some_iff.mp e
  exact ⟨f, List.mem_of_getElem? hf, e2.symm⟩
theorem Ord.okPg {fs : List Fn} (hn : fs.length = n) (ok : okPg fs) (one : ∀ f ∈ fs, f.one) : okPg (gsO rhoX (whO os n) fs os) :=
  pg_ren rho_inj rho_name O.wh1 (O.gs hn) (by rw [(gsO_len fun g hg => by rw [hn]; exact (O.mem g).mp hg).1, O.len, hn]) O.mems ok one
end
theorem hand_ren {ρ : Str → Str} {ps : Nm} {ws : List Wt} (h : Paired (fun (p : Str × Kd) w => okHand p.2 w) ps ws) : Paired (fun (p : Str × Kd) w => okHand p.2 w) (nmR ρ ps) ws := by
  induction h with
  | nil => exact .nil
  | cons a _ ih => exact .cons a ih
end Cs
namespace Cs
open PySem PySem.Spec L2
section
variable {P : Program} {w : World} {K : PySem.W.Frag} {mg : Str → Option Value} {base : Heap} {A : Adr}
/-! ## led -/
def WhAt (H : Hp) (wa : Addr) (wh : Nat → Nat) (many : Nat) : Prop := ∃ kw, H wa = some (.dK kw) ∧ ∀ f, f < many → valV kw (.inl (f : Nat)) = some (.int (wh f : Nat))
def NaAt (H : Hp) (na : Addr) (ρ : Str → Str) : Prop := ∃ kn, H na = some (.dK kn) ∧ ∀ x, okName x → x.length = 1 → valV kn (.inr x) = some (.str (ρ x))
theorem WhAt.up {H H1 : Hp} {wa : Addr} {wh : Nat → Nat} {many : Nat} (h : WhAt H wa wh many) (s : Same H H1) : WhAt H1 wa wh many := let ⟨k, a, b⟩ := h; ⟨k, s _ _ a, b⟩
theorem NaAt.up {H H1 : Hp} {na : Addr} {ρ : Str → Str} (h : NaAt H na ρ) (s : Same H H1) : NaAt H1 na ρ := let ⟨k, a, b⟩ := h; ⟨k, s _ _ a, b⟩
def spLed (K : PySem.W.Frag) (ρ : Str → Str) (wh : Nat → Nat) (many n : Nat) : Sp := fun vs H Q _ => ∃ (v : V) (wa na : Addr) (d e : PyData), vs = [v, .ref wa, .ref na] ∧ Im K H v d ∧ Led ρ wh many n d e ∧ WhAt H wa wh many ∧ NaAt H na ρ ∧
  ∀ H1 y, Same H H1 → Im K H1 y e → Q y H1
theorem cut0 (xs : List V) : cutV xs none (some 1) = xs.take 1 := by
  unfold cutV
  rw [HT.sIx_none, show HT.sIx xs.length xs.length (some 1) = min 1 xs.length from HT.sIx_nat _ _ 1]
  show List.take (min 1 xs.length - 0) xs = _
  cases xs with
  | nil => rfl
  | cons x r => simp
theorem Led.split {ρ : Str → Str} {wh : Nat → Nat} {many n : Nat} {d e : PyData} (h : Led ρ wh many n d e) : LedB ρ d e ∨ (∃ (m f : Nat) (d1 e1 : PyData), n = m + 1 ∧ f < many ∧ Led ρ wh many m d1 e1 ∧ d = .tuple [.str "call", .int (f : Nat), d1] ∧ e = .tuple [.str "call", .int (wh f : Nat), e1]) ∨
    ∃ (m : Nat) (ds es : List PyData), n = m + 1 ∧ ds.length ≤ 1000000 ∧ HeadOk ds ∧ Paired (Led ρ wh many m) ds es ∧ d = .tuple ds ∧ e = .tuple es := by
  cases n with
  | zero => exact .inl h
  | succ n =>
    rcases h with h | ⟨f, d1, e1, a, b, c, x⟩ | ⟨ds, es, a, b, c, x, y⟩
    · exact .inl h
    · exact .inr (.inl ⟨n, f, d1, e1, rfl, a, b, c, x⟩)
    · exact .inr (.inr ⟨n, ds, es, rfl, a, b, c, x, y⟩)
theorem sl1 {H : Hp} {va : Addr} {xs : List V} {Q : VK} (ht : SqT K H va xs) (hq : ∀ H1 y, Same H H1 → SqT K H1 y (xs.take 1) → Q (.ref y) H1) : rSlA K (.ref va) none (some 1) H Q := by
  refine ⟨va, xs, rfl, ht, fun h => ?_, fun _ p hp => ?_⟩
  · have h2 : min 1 xs.length = xs.length := (show HT.sIx xs.length xs.length (some 1) = min 1 xs.length from HT.sIx_nat _ _ 1).symm.trans h.2
    refine hq H va (Same.refl _) ?_
    rw [List.take_of_length_le (by omega)]
    exact ht
  · refine hq _ p (same_upd hp) ?_
    rw [← cut0]
    exact .inl (.inl upd_same)
theorem ImAll.take1 {H : Hp} {xs : List V} {ds : List PyData} (h : ImAll K H xs ds) : ImAll K H (xs.take 1) (ds.take 1) := by
  cases h with
  | nil => exact .nil
  | cons a b => exact .cons a .nil
theorem head_call {ds : List PyData} (h : HeadOk ds) : SeqAt.shaped (.tuple (ds.take 1)) = true ∧ PyData.eqv (.tuple (ds.take 1)) (.tuple [.str "call"]) = false := by
  rcases h with rfl | ⟨x, r, rfl, h1, hx⟩
  · exact ⟨by decide +kernel, by decide +kernel⟩
  · refine ⟨?_, ?_⟩
    · show ((PyData.strOk x && true) && decide _) = true
      rw [h1]
      rfl
    show (x == ("call" : Str) && true) = false
    rw [Bool.and_true]
    exact beq_false_of_ne hx
theorem step_w_led (T : Tx K w mg A) (ρ : Str → Str) (wh : Nat → Nat) (many n : Nat) (sp : Sp) (G_w_led : FnOk P w K mg base CX0 n A.f_w_led A.fd_w_led P_w_led sp) (hG : ∀ vs H Q E m, n = m + 1 → spLed K ρ wh many m vs H Q E → sp vs H Q E) :
    FnOk P w K mg base CX0 (n + 1) A.f_w_led A.fd_w_led P_w_led (spLed K ρ wh many n) := by
  refine T.F_w_led.ok sc_w_led (fun vs H Q E h => ?_) (fun cdv AA outer s H vs Q E hr h => ?_)
  · obtain ⟨v, wa, na, d, e, rfl, _⟩ := h
    rfl
  · obtain ⟨v, wa, na, d, e, rfl, hv, hL, hw, hn, q⟩ := h
    refine ⟨_, (pss_cons (ps_if (PW.pt (pw_and (pt_val (pe_callB call_isi (by rfl) T.n_isinstance (by decide +kernel) (pa_cons (pv 0) (pa_cons (pe_bltn (v := .ty "tuple") (u := .type "tuple") (by rfl) T.n_tuple (by decide +kernel) rfl) pa_nil)))) (pw_and1 (pt_cmpR (op_eqD hr.units) (pe_slice sl_tupA (pv 0) po_none (po_some pe_int)) (pe_tup (pa_cons pe_str pa_nil)) (nomark _)))))
  (pss_one (ps_ret (pe_tup (pa_cons pe_str (pa_cons (pe_dget (hu_of hr) (pv 1) (pe_ix ix_tup (pv 0) pe_int (fun _ _ => rfl)) (fun _ _ => rfl)) (pa_cons (pe_call G_w_led (hr.mono (by omega)) (by rfl) T.g_w_led T.F_w_led.kp T.b_w_led .nil pass0 (pa_cons (pe_ix ix_tup (pv 0) pe_int (fun _ _ => rfl)) (pa_cons (pv 1) (pa_cons (pv 2) pa_nil)))) pa_nil))))))
  pss_nil)
  (pss_cons (ps_if (pt_val (pe_callB call_isi (by rfl) T.n_isinstance (by decide +kernel) (pa_cons (pv 0) (pa_cons (pe_bltn (v := .ty "tuple") (u := .type "tuple") (by rfl) T.n_tuple (by decide +kernel) rfl) pa_nil))))
  (pss_one (ps_ret (pe_callTy cr_tupF (by rfl) T.n_tuple (by decide +kernel) (pa_cons (pe_lc (own := [("_law_part", 3)]) (g := (gName 3)) (tt := tYes) (te := _) rfl sc_w_led.nd (pi_tup (pv 0)) (blkOk_by (N := N_w_led) (sc := defScope s_w_led) (by decide +kernel)) (fun _ _ _ _ _ => (pg_name (i := 3) sc_w_led.nd rfl (.inl rfl))) (fun _ _ _ _ _ => pts_nil) (fun _ _ _ _ _ => (pe_call G_w_led (hr.mono (by omega)) (by rfl) T.g_w_led T.F_w_led.kp T.b_w_led .nil pass0 (pa_cons (pv 3) (pa_cons (pv 1) (pa_cons (pv 2) pa_nil)))))) pa_nil))))
  pss_nil)
  (pss_one (ps_ret (pe_ifExp (PW.pt (pw_and (pt_val (pe_callB call_isi (by rfl) T.n_isinstance (by decide +kernel) (pa_cons (pv 0) (pa_cons (pe_bltn (v := .ty "str") (u := .type "str") (by rfl) T.n_str (by decide +kernel) rfl) pa_nil)))) (pw_and1 (pt_cmpR op_eq (pe_callB call_len (by rfl) T.n_len (by decide +kernel) (pa_cons (pv 0) pa_nil)) pe_int (nomark _))))) (pe_dget2 (hu_of hr) (pv 2) (pv 0) (pv 0) ⟨rfl, rfl, rfl, rfl⟩) (pv 0)))))), ?_⟩
    rcases hL.split with (⟨x, o, l1, rfl, rfl⟩ | ⟨x, l1, rfl, rfl⟩ | ⟨i, rfl, rfl⟩) | ⟨m, f, d1, e1, rfl, hf, hL1, rfl, rfl⟩ | ⟨m, ds, es, rfl, hdl, hh, hp, rfl, rfl⟩
    · obtain rfl := im_str hv
      obtain ⟨kn, hk, hk2⟩ := id hn
      refine ⟨_, rfl, _, _, _, _, false, rfl, .ty "tuple", .base (.str x), kv (by decide +kernel), ?_⟩
      refine ⟨_, rfl, iteF (iteF ?_)⟩
      refine ⟨_, rfl, _, _, _, _, false, rfl, .ty "tuple", .base (.str x), kv (by decide +kernel), ?_⟩
      refine ⟨_, rfl, iteF ?_⟩
      refine ⟨_, rfl, _, _, _, _, true, rfl, .ty "str", .base (.str x), kv (by decide +kernel), _, rfl, ?_⟩
      refine iteT ⟨_, rfl, _, _, rfl, ⟨by rw [l1]; decide, rfl⟩, rfl, _, rfl, itd_true ?_ (decide_eq_true (by rw [l1]; rfl))⟩
      refine ⟨_, rfl, na, rfl, .inl ⟨_, .inl hk⟩, _, rfl, _, rfl, _, dget_at hk (hk2 x o l1), ?_⟩
      exact q _ _ (Same.refl _) (.str _)
    · obtain rfl := im_str hv
      refine ⟨_, rfl, _, _, _, _, false, rfl, .ty "tuple", .base (.str x), kv (by decide +kernel), ?_⟩
      refine ⟨_, rfl, iteF (iteF ?_)⟩
      refine ⟨_, rfl, _, _, _, _, false, rfl, .ty "tuple", .base (.str x), kv (by decide +kernel), ?_⟩
      refine ⟨_, rfl, iteF ?_⟩
      refine ⟨_, rfl, _, _, _, _, true, rfl, .ty "str", .base (.str x), kv (by decide +kernel), _, rfl, ?_⟩
      refine iteT ⟨_, rfl, _, _, rfl, ⟨Nat.le_trans l1.2 (by decide), rfl⟩, rfl, _, rfl, itn_false ?_ (decide_eq_false (by intro z; injection z with z; exact l1.1 (by omega)))⟩
      exact ⟨_, rfl, q _ _ (Same.refl _) (.str _)⟩
    · obtain rfl := im_int hv
      refine ⟨_, rfl, _, _, _, _, false, rfl, .ty "tuple", .base (.int i), kv (by decide +kernel), ?_⟩
      refine ⟨_, rfl, iteF (iteF ?_)⟩
      refine ⟨_, rfl, _, _, _, _, false, rfl, .ty "tuple", .base (.int i), kv (by decide +kernel), ?_⟩
      refine ⟨_, rfl, iteF ?_⟩
      refine ⟨_, rfl, _, _, _, _, false, rfl, .ty "str", .base (.int i), kv (by decide +kernel), _, rfl, ?_⟩
      refine iteF (iteF ?_)
      exact ⟨_, rfl, q _ _ (Same.refl _) (.int _)⟩
    · obtain ⟨va, vs, rfl, ht, hvs⟩ := im_tup hv
      obtain ⟨v0, r0, rfl, hv0, hr0⟩ := all_cons hvs
      obtain ⟨v1, r1, rfl, hv1, hr1⟩ := all_cons hr0
      obtain ⟨v2, r2, rfl, hv2, hr2⟩ := all_cons hr1
      cases hr2
      obtain rfl := im_str hv0
      obtain rfl := im_int hv1
      refine ⟨_, rfl, _, _, _, _, true, rfl, .ty "tuple", tyx_tup ht, kv (by decide +kernel), ?_⟩
      refine ⟨_, rfl, iteT ⟨_, rfl, 1, rfl, ?_⟩⟩
      refine sl1 ht fun H1 y s1 hy => ?_
      refine ⟨by show 1 ≤ sizeLine; decide, fun tp htp => ?_⟩
      have s2 := s1.trans (same_upd (o := .tup [.str "call"]) htp)
      refine ⟨.tuple [.str "call"], .tuple [.str "call"], .tup (Same.tup (same_upd htp) hy) (.cons (.str _) .nil), .tup (.inl (.inl upd_same)) (.cons (.str _) .nil), by decide +kernel, by decide +kernel, ?_⟩
      generalize upd H1 tp (.tup [.str "call"]) = H2 at s2 ⊢
      refine ⟨_, rfl, itd_true ?_ (by decide +kernel)⟩
      obtain ⟨kw, hk, hk2⟩ := (hw.up s2)
      have ht2 := Same.tup s2 ht
      refine ⟨_, rfl, _, rfl, _, _, _, _, rfl, rfl, ht2, atI_nat (j := 1) rfl, wa, _, rfl, dget_in hk (hk2 f hf), ?_⟩
      refine ⟨_, rfl, _, _, _, _, rfl, rfl, ht2, atI_nat (j := 2) rfl, _, rfl, _, rfl, ?_⟩
      refine hG _ _ _ _ m rfl ⟨_, wa, na, d1, e1, rfl, hv2.same (sameI_of s2), hL1, hw.up s2, hn.up s2, fun H3 y3 s3 hy3 => ?_⟩
      refine ⟨by show 3 ≤ sizeLine; decide, fun tq htq => ?_⟩
      have s4 := same_upd (o := .tup [.str "call", .int (wh f : Nat), y3]) htq
      exact q _ _ (s2.trans (s3.trans s4)) (.tup (.inl (.inl upd_same)) (.cons (.str _) (.cons (.int _) (.cons (hy3.same (sameI_of s4)) .nil))))
    · obtain ⟨va, vs, rfl, ht, hvs⟩ := im_tup hv
      have hvl : vs.length = ds.length := ImAll.length hvs
      refine ⟨_, rfl, _, _, _, _, true, rfl, .ty "tuple", tyx_tup ht, kv (by decide +kernel), ?_⟩
      refine ⟨_, rfl, iteT ⟨_, rfl, 1, rfl, ?_⟩⟩
      refine sl1 ht fun H1 y s1 hy => ?_
      refine ⟨by show 1 ≤ sizeLine; decide, fun tp htp => ?_⟩
      have s2 := s1.trans (same_upd (o := .tup [.str "call"]) htp)
      refine ⟨.tuple (ds.take 1), .tuple [.str "call"], .tup (Same.tup (same_upd htp) hy) (ImAll.dp (hvs.take1.same (sameI_of s2))), .tup (.inl (.inl upd_same)) (.cons (.str _) .nil), (head_call hh).1, by decide +kernel, ?_⟩
      generalize upd H1 tp (.tup [.str "call"]) = H2 at s2 ⊢
      refine ⟨_, rfl, itn_false ?_ (head_call hh).2⟩
      have ht2 := Same.tup s2 ht
      refine ⟨_, rfl, _, _, _, _, true, rfl, .ty "tuple", tyx_tup ht2, kv (by decide +kernel), ?_⟩
      refine ⟨_, rfl, iteT ?_⟩
      refine ⟨_, rfl, va, rfl, ⟨_, ht2⟩, fun D hD => ?_⟩
      refine lc_data (walk_tup (K := K) (a := va) (xs := vs)) (fun i y H => ∃ e, es[i]? = some e ∧ Im K H y e) (fun i v H H2 si ⟨e, h1, h2⟩ => ⟨e, h1, h2.same si⟩) hD (fun H3 s3 => Same.tup s3 ht2) (by omega) ?_ ?_
      · rintro i y H3 H4 k hi s3 ⟨rfl, hy⟩ hk
        obtain ⟨d1, hd1, hyd⟩ := ImAll.get hvs hy
        obtain ⟨e1, he1, hL1⟩ := paired_get hp hd1
        have s13 := s2.trans s3
        refine ⟨rfl, _, rfl, _, rfl, _, rfl, ?_⟩
        exact hG _ _ _ _ m rfl ⟨_, wa, na, d1, e1, rfl, hyd.same (sameI_of s13), hL1, hw.up s13, hn.up s13, fun H5 y5 s5 hy5 => hk _ _ s5 ⟨e1, he1, hy5⟩⟩
      · intro H3 acc s3 e3 hl hE
        refine ⟨_, _, rfl, SqL.of e3, fun l its hl2 => ?_⟩
        have s4 := same_upd (o := .frz (tupObj its) (.tup acc)) hl2
        refine q _ _ (s2.trans (s3.trans s4)) (.tup (.inl (.inr ⟨_, upd_same⟩)) ?_)
        refine ImAll.same (sameI_of s4) (ImAll.of (by rw [hl, hvl]; exact Paired.length hp) fun i x e h1 h2 => ?_)
        obtain ⟨e', h3, h4⟩ := hE i x h1
        rw [h2] at h3
        cases h3
        exact h4
theorem ok_w_led (T : Tx K w mg A) (ρ : Str → Str) (wh : Nat → Nat) (many : Nat) : ∀ n : Nat, FnOk P w K mg base CX0 (n + 1) A.f_w_led A.fd_w_led P_w_led (spLed K ρ wh many n)
  | 0 => step_w_led (P := P) (base := base) T ρ wh many 0 (fun _ _ _ _ => False) ⟨fun _ _ _ _ h => h.elim, fun _ _ _ _ _ _ _ _ _ _ _ _ _ h => h.elim⟩ fun _ _ _ _ _ e => nomatch e
  | n + 1 => step_w_led (P := P) (base := base) T ρ wh many (n + 1) (spLed K ρ wh many n) (ok_w_led T ρ wh many n) fun _ _ _ _ _ e h => by
    cases e
    exact h
end
end Cs
namespace Cs
open PySem PySem.Spec L2
section
variable {P : Program} {w : World} {K : PySem.W.Frag} {mg : Str → Option Value} {base : Heap} {A : Adr}
theorem k_run (T : Tx K w mg A) : KBn K A.fd_run P_run 3 ["most"] (fun us ws => us ++ ws) (fun vs zs => vs ++ zs) := by
  obtain ⟨mv, h⟩ := T.F_run.kbinds0 (ps := P_run) 3 ["most"] [] (fun us _ ws => us ++ ws) (List.cons_ne_nil _ _) (fun q hq => by cases hq) (fun r1 _ r3 => r1.append r3) (fun D doc pm an cdv ct us mv ws l1 l2 l3 => by
    match us, l1 with
    | [a, b, c], _ =>
      match ws, l3 with
      | [d], _ =>
        match mv, l2 with
        | [], _ => rfl)
  exact h
def spArgsW (K : PySem.W.Frag) : Sp := fun vs H Q _ => ∃ (B : Hp) (st : Addr) (pgv : V) (fs : List Fn) (f0 : Fn), vs = [.ref st, pgv] ∧ Same B H ∧ B st = none ∧ Dw K B H st ∧ PgAt K H pgv fs ∧ okPg fs ∧ fs[0]? = some f0 ∧
  ∀ H1 p vs (ws : List Wt), SameX st H H1 → Dw K B H1 st → H p = none → p ≠ st → H1 p = some (.lst vs) → ImAll K H1 vs (ws.map Wt.d) → Paired (fun (p : Str × Kd) w => okHand p.2 w) f0.ps ws → Q (.ref p) H1
theorem ok_w_args (T : Tx K w mg A) : FnOk P w K mg base CX0 2 A.f_w_args A.fd_w_args P_w_args (spArgsW K) := by
  have G_w_drawn := ok_w_drawn (P := P) (base := base) T
  refine T.F_w_args.ok sc_w_args (fun vs H Q E h => ?_) (fun cdv AA outer s H vs Q E hr h => ?_)
  · obtain ⟨B, st, pgv, fs, f0, rfl, _⟩ := h
    rfl
  · obtain ⟨B, st, pgv, fs, f0, rfl, sB, nB, dw, hpg, hok, hf0, q⟩ := h
    refine ⟨_, (pss_cons (ps_set (i := 2) sc_w_args.nd rfl (.inl rfl) (pe_lst pa_nil))
  (pss_cons (ps_for PassesOwn.never rfl (pi_tup (pe_ix ix_tup (pe_ix ix_tup (pv 1) pe_int (fun _ _ => rfl)) pe_int (fun _ _ => rfl))) (pg_tup (by rfl) (pgs_cons (pg_name (i := 3) sc_w_args.nd rfl (.inl rfl)) (pgs_cons (pg_name (i := 4) sc_w_args.nd rfl (.inl rfl)) pgs_nil)))
  (pss_cons (ps_set (i := 5) sc_w_args.nd rfl (.inl rfl) (pe_callTy cr_tupF (by rfl) T.n_tuple (by decide +kernel) (pa_cons (pe_lc (own := [("_law_k", 6)]) (g := (gName 6)) (tt := tYes) (te := _) rfl sc_w_args.nd (pi_range1 (by rfl) T.n_range (pa_cons (pe_call G_w_drawn (hr.mono (by decide)) (by rfl) T.g_w_drawn T.F_w_drawn.kp T.b_w_drawn .nil pass0 (pa_cons (pv 0) (pa_cons pe_int pa_nil))) pa_nil)) (blkOk_by (N := N_w_args) (sc := defScope s_w_args) (by decide +kernel)) (fun _ _ _ _ _ => (pg_name (i := 6) sc_w_args.nd rfl (.inl rfl))) (fun _ _ _ _ _ => pts_nil) (fun _ _ _ _ _ => (pe_op op_sub (pe_call G_w_drawn (hr.mono (by decide)) (by rfl) T.g_w_drawn T.F_w_drawn.kp T.b_w_drawn .nil pass0 (pa_cons (pv 0) (pa_cons pe_int pa_nil))) pe_int))) pa_nil)))
  (pss_one (ps_expr (pe_bm PySem.F.plainAttrs_list PySem.F.slot_list_append PySem.F.type_list_append mt_append (pv 2) (pa_cons (pe_ifExp (pt_cmpR op_eq (pv 4) pe_str (nomark _)) (pv 5) (pe_op op_sub (pe_call G_w_drawn (hr.mono (by decide)) (by rfl) T.g_w_drawn T.F_w_drawn.kp T.b_w_drawn .nil pass0 (pa_cons (pv 0) (pa_cons pe_int pa_nil))) pe_int)) pa_nil))))))
  (pss_one (ps_ret (pv 2))))), ?_⟩
    obtain ⟨pa, pvs, rfl, hpa, hfs⟩ := id hpg
    obtain ⟨fv, hfv, hff⟩ := paired_get' hfs hf0
    obtain ⟨fa, fp, ftv, fqs, rfl, hft, hfp, hfps, hftr⟩ := id hff
    obtain ⟨o1, o2, o3, o4, o5, o6⟩ := pg_fn hok hf0
    have lq : fqs.length = f0.ps.length := Paired.length hfps
    refine ⟨Nat.zero_le _, fun l hl => ?_⟩
    have s1 := same_upd (o := .lst []) hl
    have lst' : l ≠ st := dw.ne hl
    have dw1 : Dw K B (upd H l (.lst [])) st := dw.upd lst'
    have e1 : upd H l (.lst []) l = some (.lst []) := upd_same
    generalize upd H l (.lst []) = H1 at s1 dw1 e1 ⊢
    have i1 := sameI_of s1
    refine ⟨_, rfl, _, _, _, _, rfl, rfl, Same.tup s1 hpa, atI_nat hfv, _, _, _, _, rfl, rfl, Same.tup s1 hft, atI_nat (j := 0) rfl, fp, rfl, ⟨_, (i1.pl hfp).sq⟩, ?_⟩
    refine for_it (walk_tup (K := K) (a := fp) (xs := fqs.map V.ref)) (fun i σ H2 => ∃ y3 y4 y5 vs ws, σ = [some (.ref st), some (.ref pa), some (.ref l), y3, y4, y5, none] ∧ SameX st H H2 ∧ Dw K B H2 st ∧ H2 l = some (.lst vs) ∧ vs.length = i ∧ ImAll K H2 vs (ws.map Wt.d) ∧ Paired (fun (p : Str × Kd) w => okHand p.2 w) (f0.ps.take i) ws)
      ⟨none, none, none, [], [], rfl, sameX_of s1, dw1, e1, rfl, .nil, .nil⟩ (fun i σ H2 _ ⟨_, _, _, _, _, _, x2, _⟩ => ((dw.i x2).pl hfp).sq) ?_ ?_
    · intro i v σ H2p H2 hi hinv hyd
      obtain ⟨y3, y4, y5, vs, ws, rfl, x2, dw2, e2, lvs, hvs, hws⟩ := hinv
      obtain ⟨rfl, hv⟩ := hyd
      rw [List.getElem?_map] at hv
      obtain ⟨t, ht, rfl⟩ := Option.map_eq_some_iff.mp hv
      obtain ⟨pr, hpr, hat⟩ := paired_get hfps ht
      have i2 := dw.i x2
      have i8 : i < 8 := by have := (List.getElem?_eq_some_iff.mp hpr).1; omega
      have s2 : Same B H2 := SameX.same sB x2 nB
      refine ⟨t, _, rfl, i2.tup hat, rfl, _, _, rfl, _, _, rfl, rfl, ?_⟩
      refine ⟨_, rfl, B, st, 5, rfl, s2, nB, dw2, by decide, by decide, fun H5 d5 d50 d54 x5 dw5 => ⟨_, rfl, by omega, by omega, fun D1 hD1 => ?_⟩⟩
      have s5 : Same B H5 := SameX.same s2 x5 nB
      have d1st : D1 ≠ st := dw5.ne hD1
      have x25 : SameX st H2 H5 := x5
      refine walk_by (walk_range (n := d5.toNat)) (fun k H6 => SameX st H5 H6 ∧ Dw K B H6 st ∧ ∃ zs : List Int, H6 D1 = some (.lst (zs.map V.int)) ∧ zs.length = k ∧ ∀ z ∈ zs, -2 ≤ z ∧ z ≤ 4)
        ⟨(SameX.refl _ _).new hD1, dw5.upd d1st, [], upd_same, rfl, fun _ h => by cases h⟩ (fun _ _ _ _ => True.intro) ?_ ?_
      · rintro k v6 H6 H6' hk ⟨x6, dw6, zs, e6, lzs, hzs⟩ ⟨rfl, -⟩
        refine ⟨rfl, yes_te ⟨_, rfl, B, st, 7, rfl, SameX.same s5 x6 nB, nB, dw6, by decide, by decide, fun H7 d7 d70 d77 x7 dw7 => ?_⟩⟩
        refine ⟨_, _, rfl, rfl, _, x7 _ _ d1st e6, smaller (by rw [List.length_map]; omega), (x6.trans x7).old hD1, dw7.upd d1st, zs ++ [d7 - 2], ?_, by rw [List.length_append, lzs]; rfl, fun z hz => ?_⟩
        · rw [upd_same, List.map_append]
          rfl
        · rcases List.mem_append.mp hz with h | h
          · exact hzs z h
          · rw [List.mem_singleton.mp h]
            omega
      · rintro H6 ⟨x6, dw6, zs, e6, lzs, hzs⟩
        refine ⟨D1, _, rfl, SqL.of e6, fun tl its htl => ?_⟩
        have s7 := same_upd (o := .frz (tupObj its) (.tup (zs.map V.int))) htl
        have e7 : upd H6 tl (.frz (tupObj its) (.tup (zs.map V.int))) tl = some (.frz (tupObj its) (.tup (zs.map V.int))) := upd_same
        have dw7 : Dw K B (upd H6 tl (.frz (tupObj its) (.tup (zs.map V.int)))) st := dw6.step s7
        have x27 : SameX st H2 (upd H6 tl (.frz (tupObj its) (.tup (zs.map V.int)))) := (x5.trans x6).trans (sameX_of s7)
        generalize upd H6 tl (.frz (tupObj its) (.tup (zs.map V.int))) = H7 at *
        have htup : Im K H7 (.ref tl) (Wt.l zs).d := by
          refine .tup (.inl (.inr ⟨_, e7⟩)) (ImAll.of (by rw [List.length_map, List.length_map]) fun j x d h1 h2 => ?_)
          rw [List.getElem?_map] at h1 h2
          cases hz : zs[j]? with
          | none => rw [hz] at h1; cases h1
          | some z => rw [hz] at h1 h2; cases h1; cases h2; exact .int z
        have htk : f0.ps.take (i + 1) = f0.ps.take i ++ [pr] := by rw [List.take_add_one, hpr]; rfl
        have el7 : H7 l = some (.lst vs) := x27 _ _ lst' e2
        have i27 : SameI H2 H7 := dw2.i x27
        have hvs7 := hvs.same i27
        have hsm : vs.length < sizeLine := smaller (by omega)
        cases hk : pr.2 with
        | lst =>
          refine ⟨_, rfl, .inl ⟨rfl, _, SqL.of el7⟩, _, rfl, rfl, _, rfl, itd rfl ?_⟩
          refine ⟨_, rfl, l, _, _, rfl, rfl, el7, hsm, ?_⟩
          refine ⟨_, _, _, vs ++ [.ref tl], ws ++ [.l zs], rfl, (x2.trans x27).old hl, dw7.upd lst', upd_same, by rw [List.length_append, lvs]; rfl, ?_, ?_⟩
          · rw [List.map_append]
            exact (hvs7.append (.cons htup .nil)).same (sameI_upd el7 id)
          · rw [htk]
            refine paired_append hws (.cons ⟨hk.symm, ?_, ?_, ?_⟩ .nil)
            · show okInt 0
              unfold okInt
              omega
            · show zs.length ≤ 40
              omega
            · intro z hz
              have := hzs z hz
              unfold okInt
              omega
        | num =>
          refine ⟨_, rfl, .inl ⟨rfl, _, SqL.of el7⟩, _, rfl, rfl, _, rfl, itn (by decide +kernel) ?_⟩
          refine ⟨_, rfl, B, st, 9, rfl, SameX.same s2 x27 nB, nB, dw7, by decide, by decide, fun H8 d8 d80 d89 x8 dw8 => ?_⟩
          have el8 : H8 l = some (.lst vs) := x8 _ _ lst' el7
          refine ⟨_, _, rfl, rfl, l, _, _, rfl, rfl, el8, hsm, ?_⟩
          refine ⟨_, _, _, vs ++ [.int (d8 - 3)], ws ++ [.n (d8 - 3)], rfl, ((x2.trans x27).trans x8).old hl, dw8.upd lst', upd_same, by rw [List.length_append, lvs]; rfl, ?_, ?_⟩
          · rw [List.map_append]
            exact ((hvs7.same (dw7.i x8)).append (.cons (.int _) .nil)).same (sameI_upd el8 id)
          · rw [htk]
            refine paired_append hws (.cons ⟨hk.symm, ?_, Nat.zero_le _, ?_⟩ .nil)
            · show okInt (d8 - 3)
              unfold okInt
              omega
            · intro z hz
              cases hz
    · rintro σ H2 ⟨y3, y4, y5, vs, ws, rfl, x2, dw2, e2, lvs, hvs, hws⟩
      rw [List.take_of_length_le (by rw [List.length_map]; omega)] at hws
      exact ⟨_, rfl, q H2 l vs ws x2 dw2 hl lst' e2 hvs hws⟩
end
end Cs
namespace Cs
open PySem PySem.Spec L2
section
variable {P : Program} {w : World} {K : PySem.W.Frag} {mg : Str → Option Value} {base : Heap} {A : Adr}
def forB : Stmt → List Stmt
  | .For _ _ b _ _ => b
  | _ => []
def ifB : Stmt → List Stmt
  | .If _ b _ _ => b
  | _ => []
def stAt (l : List Stmt) (i : Nat) : Stmt := l.getD i (.Pass ⟨0, 0, 0, 0⟩)
/-- a segment, by what holds behind it -/
theorem seq_by {a b : TS} {D : Ends} {σ : L2.St} {H : Hp} (I : L2.St → Hp → Prop) (ha : ∀ D' : Ends, D'.rt = D.rt → (∀ σ H, I σ H → D'.nx σ H) → a D' σ H) (hb : ∀ σ H, I σ H → b D σ H) : tSeq a b D σ H :=
  ha _ rfl hb
def spLedA (K : PySem.W.Frag) : Sp := fun vs H Q E => ∃ (ρ : Str → Str) (wh : Nat → Nat) (many : Nat), spLed K ρ wh many 22 vs H Q E
theorem ok_w_ledA (T : Tx K w mg A) : FnOk P w K mg base CX0 23 A.f_w_led A.fd_w_led P_w_led (spLedA K) :=
  ⟨fun vs H Q E ⟨ρ, wh, many, h⟩ => (ok_w_led (P := P) (base := base) T ρ wh many 22).len vs H Q E h, fun AA outer s H args us vs Q E hr he hb hv ⟨ρ, wh, many, h⟩ => (ok_w_led T ρ wh many 22).run AA outer s H args us vs Q E hr he hb hv h⟩
/-- what a run told -/
structure Got (K : PySem.W.Frag) (H : Hp) (st : Addr) (fs : List Fn) (ans : List Int) (most : Nat) (ws : List Wt) (v : V) (l : Addr) (e : Ends2) (m : Mc) : Prop where
  run : Runs fs ans most (mc0 fs ws) e m
  ev : Im K H v e.d
  ne : l ≠ st
  at_ : ∃ cvs, H l = some (.lst cvs) ∧ ImAll K H cvs ((callsOf m).map callD)
theorem Got.step {H H1 B : Hp} {st : Addr} {fs : List Fn} {ans : List Int} {most : Nat} {ws : List Wt} {v : V} {l : Addr} {e : Ends2} {m : Mc} (g : Got K H st fs ans most ws v l e m) (dw : Dw K B H st) (x : SameX st H H1) : Got K H1 st fs ans most ws v l e m :=
  ⟨g.run, g.ev.same (dw.i x), g.ne, let ⟨c, a, b⟩ := g.at_; ⟨c, x _ _ g.ne a, b.same (dw.i x)⟩⟩
/-- a turn's case -/
structure Turn (K : PySem.W.Frag) (B H : Hp) (st : Addr) (pv : V) (fs : List Fn) (f0 : Fn) (aa an : Addr) (ws : List Wt) (ans : List Int) : Prop where
  dw : Dw K B H st
  sB : Same B H
  pg : PgAt K H pv fs
  ok : okPg fs
  z0 : fs[0]? = some f0
  ane : aa ≠ st
  aat : ∃ avs, H aa = some (.lst avs) ∧ ImAll K H avs (ws.map Wt.d)
  hw : Paired (fun (p : Str × Kd) w => okHand p.2 w) f0.ps ws
  nne : an ≠ st
  nat : H an = some (.lst (ans.map V.int))
  nlen : ans.length ≤ 100
  nok : ∀ i ∈ ans, okInt i
theorem Turn.step {B H H1 : Hp} {st : Addr} {pv : V} {fs : List Fn} {f0 : Fn} {aa an : Addr} {ws : List Wt} {ans : List Int} (t : Turn K B H st pv fs f0 aa an ws ans) (nB : B st = none) (x : SameX st H H1) (dw : Dw K B H1 st) : Turn K B H1 st pv fs f0 aa an ws ans :=
  ⟨dw, SameX.same t.sB x nB, t.pg.same (t.dw.i x), t.ok, t.z0, t.ane, let ⟨c, a, b⟩ := t.aat; ⟨c, x _ _ t.ane a, b.same (t.dw.i x)⟩, t.hw, t.nne, x _ _ t.nne t.nat, t.nlen, t.nok⟩
theorem Turn.run {B H : Hp} {st : Addr} {pv : V} {fs : List Fn} {f0 : Fn} {aa an : Addr} {ws : List Wt} {ans : List Int} (t : Turn K B H st pv fs f0 aa an ws ans) (nB : B st = none) {most : Nat} (h1 : 1 ≤ most) (h3 : most ≤ 300) {Q : VK} {E : XK}
    (q : ∀ e m H1 u ev l, Same H H1 → Turn K B H1 st pv fs f0 aa an ws ans → Got K H1 st fs ans most ws ev l e m → SqT K H1 u [ev, .ref l] → Q (.ref u) H1) : spRun K [pv, .ref aa, .ref an, .int (most : Nat)] H Q E := by
  obtain ⟨avs, a1, a2⟩ := t.aat
  refine ⟨pv, fs, f0, aa, an, avs, ws, ans, most, rfl, t.pg, t.ok, t.z0, SqL.of a1, a2, t.hw, SqL.of t.nat, Nat.le_trans t.nlen (by decide), t.nok, h1, h3, fun e m H1 u ev l cvs hR s nu nl hu hev hl hc => ?_⟩
  exact q e m H1 u ev l s (t.step nB (sameX_of s) (t.dw.step s)) ⟨hR, hev, t.dw.ne nl, cvs, hl, hc⟩ hu
theorem Got.len {H : Hp} {st : Addr} {fs : List Fn} {ans : List Int} {most : Nat} {ws : List Wt} {v : V} {l : Addr} {e : Ends2} {m : Mc} (g : Got K H st fs ans most ws v l e m) : ∃ cvs, H l = some (.lst cvs) ∧ cvs.length = m.begun.length := by
  obtain ⟨c, a, b⟩ := g.at_
  refine ⟨c, a, ?_⟩
  rw [ImAll.length b, List.length_map, calls_len]
theorem Got.sml {B H : Hp} {st : Addr} {pv : V} {fs : List Fn} {f0 : Fn} {aa an : Addr} {ws : List Wt} {ans ans2 : List Int} {most : Nat} {v : V} {l : Addr} {e : Ends2} {m : Mc} (g : Got K H st fs ans2 most ws v l e m) (t : Turn K B H st pv fs f0 aa an ws ans) (h1 : 1 ≤ most) (h3 : most ≤ 300) :
    Sml fs.length m ∧ EndOk fs.length e ∧ m.begun.length ≤ most := run_sml t.ok t.z0 t.hw h1 h3 g.run
theorem Got.dp {H : Hp} {st : Addr} {fs : List Fn} {ans : List Int} {most : Nat} {ws : List Wt} {v : V} {l u : Addr} {e : Ends2} {m : Mc} (g : Got K H st fs ans most ws v l e m) (hu : SqT K H u [v, .ref l]) : Dp K H (.ref u) (resD e m) := by
  obtain ⟨c, a, b⟩ := g.at_
  exact .tup hu (.cons g.ev.dp (.cons (.lst (SqL.of a) (ImAll.dp b)) .nil))
theorem if_by {t : TT} {a b : TS} {D : Ends} {σ : L2.St} {H : Hp} (C : Bool → Hp → Prop) (ht : ∀ Q : Bool → Hp → Prop, (∀ b H, C b H → Q b H) → t σ H Q) (ha : ∀ H, C true H → a D σ H) (hb : ∀ H, C false H → b D σ H) : tIfS t a b D σ H := by
  refine ht _ fun c H h => ?_
  cases c with
  | true => rw [if_pos rfl]; exact ha H h
  | false => rw [if_neg Bool.false_ne_true]; exact hb H h
theorem cutK (xs : List V) (k : Nat) : cutV xs none (some (k : Int)) = xs.take k := by
  unfold cutV
  rw [HT.sIx_none, show HT.sIx xs.length xs.length (some (k : Int)) = min k xs.length from HT.sIx_nat _ _ k]
  show List.take (min k xs.length - 0) xs = _
  rw [List.take_eq_take_iff]
  omega
theorem ImAll.take {H : Hp} : ∀ {xs : List V} {ds : List PyData} (k : Nat), ImAll K H xs ds → ImAll K H (xs.take k) (ds.take k)
  | _, _, 0, _ => .nil
  | _, _, _ + 1, .nil => .nil
  | _, _, k + 1, .cons a b => .cons a (ImAll.take k b)
def Cut (k : Nat) (e : Ends2) (m : Mc) : Prop := k < m.begun.length ∨ (m.begun.length = k ∧ e = .long)
theorem flat0 (n : Nat) : (List.replicate n [V.int 0]).flatten = (List.replicate n (0 : Int)).map V.int := by
  induction n with
  | zero => rfl
  | succ n ih =>
    rw [List.replicate_succ, List.replicate_succ, List.flatten_cons, ih]
    rfl
theorem same_old {p : Addr} {H H1 : Hp} {o : HO} (s : Same H H1) (n : H p = none) : Same H (L2.upd H1 p o) := fun b x e => by
  rw [upd_ne (ne_of_none e n)]
  exact s b x e
def natV (f : Nat) : V := .int (f : Int)
theorem erase_perm {α : Type} : ∀ {l : List α} {i : Nat} {x : α}, l[i]? = some x → (x :: l.eraseIdx i).Perm l
  | _ :: _, 0, _, h => by cases h; exact .refl _
  | a :: l, i + 1, x, h => (List.Perm.swap a x _).trans ((erase_perm (l := l) (i := i) h).cons a)
theorem map_erase {α β : Type} (f : α → β) : ∀ (l : List α) (i : Nat), (l.map f).eraseIdx i = (l.eraseIdx i).map f
  | [], _ => rfl
  | _ :: _, 0 => rfl
  | a :: l, i + 1 => congrArg (f a :: ·) (map_erase f l i)
theorem nats_dp {H : Hp} : ∀ ls : List Nat, DpAll K H (ls.map natV) (ls.map fun (f : Nat) => PyData.int (f : Int))
  | [] => .nil
  | _ :: r => .cons (.int _) (nats_dp r)
theorem pl_nats {ls : List Nat} (h : ls.length ≤ 1000) : Pl 1 (.list (ls.map fun (f : Nat) => PyData.int (f : Int))) := by
  refine .lst (by rw [List.length_map]; omega) fun d hd => ?_
  obtain ⟨i, _, rfl⟩ := List.mem_map.mp hd
  exact .int _
theorem rg_nats (n : Nat) : rgV 1 (n : Nat) = (((List.range (n - 1)).map (· + 1)).map natV) := by
  unfold rgV
  rw [List.map_map, show (((n : Nat) : Int) - 1).toNat = n - 1 by omega]
  refine List.map_congr_left fun i _ => ?_
  show V.int (1 + (i : Nat)) = V.int ((i + 1 : Nat) : Int)
  rw [show (1 : Int) + (i : Nat) = ((i + 1 : Nat) : Int) by omega]
theorem rg_perm {n : Nat} (h : 1 ≤ n) : ((List.range (n - 1)).map (· + 1) ++ [0]).Perm (List.range n) := by
  obtain ⟨m, rfl⟩ : ∃ m, n = m + 1 := ⟨n - 1, by omega⟩
  rw [List.range_succ_eq_map]
  exact List.perm_append_comm
def spLaw (K : PySem.W.Frag) : Sp := fun vs H Q _ => ∃ (a : Addr) (ns : List Int), vs = [.ref a] ∧ SqL K H a (ns.map V.int) ∧ ns.length ≤ 1000 ∧ ∀ H1, Q (.bl true) H1
set_option maxHeartbeats 16000000 in
theorem ok_law (T : Tx K w mg A) : FnOk P w K mg base CX0 24 A.f_law A.fd_law P_law (spLaw K) := by
  have G_w_start := ok_w_start (P := P) (base := base) T
  have G_w_drawn := ok_w_drawn (P := P) (base := base) T
  have G_w_program := ok_w_program (P := P) (base := base) T
  have G_w_loops := ok_w_loops (P := P) (base := base) T
  have G_w_args := ok_w_args (P := P) (base := base) T
  have G_w_answers := ok_w_answers (P := P) (base := base) T
  have G_w_same := ok_w_same (P := P) (base := base) T 5
  have G_w_led := ok_w_ledA (P := P) (base := base) T
  have G_run := ok_run (P := P) (base := base) T
  refine T.F_law.ok sc_law (fun vs H Q E h => ?_) (fun cdv AA outer s B vs Q E hr h => ?_)
  · obtain ⟨a, ns, rfl, _⟩ := h
    rfl
  · obtain ⟨a, ns, rfl, hS, hn, q⟩ := h
    refine ⟨_, (pss_cons (ps_set (i := 1) sc_law.nd rfl (.inl rfl) (pe_call G_w_start (hr.mono (by decide)) (by rfl) T.g_w_start T.F_w_start.kp T.b_w_start .nil pass0 (pa_cons (pv 0) pa_nil)))
  (pss_cons (ps_for PassesOwn.never rfl (pi_range1 (by rfl) T.n_range (pa_cons pe_int pa_nil)) (pg_name (i := 2) sc_law.nd rfl (.inl rfl))
  (pss_cons (ps_set (i := 3) sc_law.nd rfl (.inl rfl) (pe_ifExp (pt_cmpR op_eq (pe_call G_w_drawn (hr.mono (by decide)) (by rfl) T.g_w_drawn T.F_w_drawn.kp T.b_w_drawn .nil pass0 (pa_cons (pv 1) (pa_cons pe_int pa_nil))) pe_int (nomark _)) (pe_call G_w_program (hr.mono (by decide)) (by rfl) T.g_w_program T.F_w_program.kp T.b_w_program .nil pass0 (pa_cons (pv 1) (pa_cons pe_int (pa_cons pe_int pa_nil)))) (pe_call G_w_loops (hr.mono (by decide)) (by rfl) T.g_w_loops T.F_w_loops.kp T.b_w_loops .nil pass0 (pa_cons (pv 1) pa_nil))))
  (pss_cons (ps_par (i := 4) (j := 5) (by rfl) sc_law.nd rfl rfl (by decide) rfl rfl (pa_cons (pe_call G_w_args (hr.mono (by decide)) (by rfl) T.g_w_args T.F_w_args.kp T.b_w_args .nil pass0 (pa_cons (pv 1) (pa_cons (pv 3) pa_nil))) (pa_cons (pe_call G_w_answers (hr.mono (by decide)) (by rfl) T.g_w_answers T.F_w_answers.kp T.b_w_answers .nil pass0 (pa_cons (pv 1) pa_nil)) pa_nil)) (by rfl))
  (pss_cons (ps_asg (pe_callN G_run (hr.mono (by decide)) (by rfl) T.g_run T.F_run.kp (k_run T) pass0 (pa_cons (pv 3) (pa_cons (pv 4) (pa_cons (pv 5) pa_nil))) (pk_cons pe_int pk_nil)) (pg_tup (by rfl) (pgs_cons (pg_name (i := 6) sc_law.nd rfl (.inl rfl)) (pgs_cons (pg_name (i := 7) sc_law.nd rfl (.inl rfl)) pgs_nil))))
  (pss_cons (ps_set (i := 8) sc_law.nd rfl (.inl rfl) (pe_op op_add pe_int (pe_call G_w_drawn (hr.mono (by decide)) (by rfl) T.g_w_drawn T.F_w_drawn.kp T.b_w_drawn .nil pass0 (pa_cons (pv 1) (pa_cons pe_int pa_nil)))))
  (pss_cons (ps_asg (pe_callN G_run (hr.mono (by decide)) (by rfl) T.g_run T.F_run.kp (k_run T) pass0 (pa_cons (pv 3) (pa_cons (pv 4) (pa_cons (pv 5) pa_nil))) (pk_cons (pv 8) pk_nil)) (pg_tup (by rfl) (pgs_cons (pg_name (i := 9) sc_law.nd rfl (.inl rfl)) (pgs_cons (pg_name (i := 10) sc_law.nd rfl (.inl rfl)) pgs_nil))))
  (pss_cons (ps_if (PW.pt (pw_or (pt_cmpR op_lt (pv 8) (pe_callB call_len (by rfl) T.n_len (by decide +kernel) (pa_cons (pv 7) pa_nil)) (nomark _)) (pw_or1 (PW.pt (pw_and (pt_cmpR op_eq (pv 8) (pe_callB call_len (by rfl) T.n_len (by decide +kernel) (pa_cons (pv 7) pa_nil)) (nomark _)) (pw_and1 (pt_cmpR (op_eqD hr.units) (pv 6) (pe_tup (pa_cons pe_str pa_nil)) (nomark _))))))))
  (pss_cons (ps_setLc (i := 11) (own := [("_law_rows", 21)]) (g := (gName 21)) (tt := tYes) (te := (tLc (iList K (tVar 21)) (gName 23) tYes (tSl (rSlT K) (tVar 23) tNoPart (tPart (tC (.int 2)))) [23])) rfl sc_law.nd rfl rfl (sw_true rfl rfl rfl (by decide +kernel)) (pi_tup (pe_tup (pa_cons (pv 10) (pa_cons (pe_slice sl_list (pv 7) po_none (po_some (pv 8))) pa_nil)))) (blkOk_by (N := N_law) (sc := defScope s_law) (by decide +kernel)) (fun _ _ _ _ _ => (pg_name (i := 21) sc_law.nd rfl (.inl rfl))) (fun _ _ _ _ _ => pts_nil) (fun _ _ _ _ _ => (pe_lc (own := [("_law_one", 23)]) (g := (gName 23)) (tt := tYes) (te := (tSl (rSlT K) (tVar 23) tNoPart (tPart _))) rfl sc_law.nd (pi_list (pv 21)) (blkOk_by (N := N_law) (sc := compSc (asgE (stAt (ifB (stAt (forB (stAt (defBody s_law) 1)) 5)) 0))) (by decide +kernel)) (fun _ _ _ _ _ => (pg_name (i := 23) sc_law.nd rfl (.inl rfl))) (fun _ _ _ _ _ => pts_nil) (fun _ _ _ _ _ => (pe_slice sl_tup (pv 23) po_none (po_some pe_int))))))
  (pss_one (ps_if (PW.pt (pw_or (pt_cmpR (op_neD hr.units) (pv 9) (pe_tup (pa_cons pe_str pa_nil)) (nomark _)) (pw_or1 (pt_cmpR (op_neD hr.units) (pe_ix ix_list (pv 11) pe_int (fun _ _ => rfl)) (pe_ix ix_list (pv 11) pe_int (fun _ _ => rfl)) (nomark _)))))
  (pss_one (ps_ret pe_bl))
  pss_nil)))
  (pss_one (ps_if (PW.pt (pw_and (pt_not (pt_val (pe_call G_w_same (hr.mono (by decide)) (by rfl) T.g_w_same T.F_w_same.kp T.b_w_same .nil pass0 (pa_cons (pe_tup (pa_cons (pv 9) (pa_cons (pv 10) pa_nil))) (pa_cons (pe_tup (pa_cons (pv 6) (pa_cons (pv 7) pa_nil))) pa_nil))))) (pw_and1 (pt_cmpR (op_neD hr.units) (pv 6) (pe_tup (pa_cons pe_str pa_nil)) (nomark _)))))
  (pss_one (ps_ret pe_bl))
  pss_nil)))
  (pss_cons (ps_if (pt_not (pt_val (pe_call G_w_same (hr.mono (by decide)) (by rfl) T.g_w_same T.F_w_same.kp T.b_w_same .nil pass0 (pa_cons (pe_callN G_run (hr.mono (by decide)) (by rfl) T.g_run T.F_run.kp (k_run T) pass0 (pa_cons (pv 3) (pa_cons (pv 4) (pa_cons (pe_op op_cat (pv 5) (pe_op op_rep (pe_lst (pa_cons pe_int pa_nil)) (pe_call G_w_drawn (hr.mono (by decide)) (by rfl) T.g_w_drawn T.F_w_drawn.kp T.b_w_drawn .nil pass0 (pa_cons (pv 1) (pa_cons pe_int pa_nil))))) pa_nil))) (pk_cons pe_int pk_nil)) (pa_cons (pe_tup (pa_cons (pv 6) (pa_cons (pv 7) pa_nil))) pa_nil)))))
  (pss_one (ps_ret pe_bl))
  pss_nil)
  (pss_cons (ps_asg (pe_tup (pa_cons (pe_listRg rfl (by rfl) T.n_list (prg_2 (by rfl) T.n_range pe_int (pe_callB call_len (by rfl) T.n_len (by decide +kernel) (pa_cons (pv 3) pa_nil)))) (pa_cons (pe_lst (pa_cons pe_int pa_nil)) pa_nil))) (pg_tup (by rfl) (pgs_cons (pg_name (i := 12) sc_law.nd rfl (.inl rfl)) (pgs_cons (pg_name (i := 13) sc_law.nd rfl (.inr rfl)) pgs_nil))))
  (pss_cons (ps_while PassesOwn.never (pt_cmpR (op_neD hr.units) (pv 12) (pe_lst pa_nil) (nomark _))
  (pss_one (ps_expr (pe_bm PySem.F.plainAttrs_list PySem.F.slot_list_append PySem.F.type_list_append mt_append (pv 13) (pa_cons (pe_bm PySem.F.plainAttrs_list PySem.F.slot_list_pop PySem.F.type_list_pop mt_popAt (pv 12) (pa_cons (pe_call G_w_drawn (hr.mono (by decide)) (by rfl) T.g_w_drawn T.F_w_drawn.kp T.b_w_drawn .nil pass0 (pa_cons (pv 1) (pa_cons (pe_callB call_len (by rfl) T.n_len (by decide +kernel) (pa_cons (pv 12) pa_nil)) pa_nil))) pa_nil)) pa_nil)))))
  (pss_cons (ps_set (i := 14) sc_law.nd rfl (.inr rfl) (pe_callTy (call_dictP rfl) (by rfl) T.n_dict (by decide +kernel) (pa_cons (pe_lc (own := [("_law_k", 24)]) (g := (gName 24)) (tt := tYes) (te := (tTup (tCons (tOp (rIxL K) (tVar 13) (tVar 24)) (tCons (tVar 24) tNil)))) rfl sc_law.nd (pi_range1 (by rfl) T.n_range (pa_cons (pe_callB call_len (by rfl) T.n_len (by decide +kernel) (pa_cons (pv 13) pa_nil)) pa_nil)) (blkOk_by (N := N_law) (sc := defScope s_law) (by decide +kernel)) (fun _ _ _ _ _ => (pg_name (i := 24) sc_law.nd rfl (.inl rfl))) (fun _ _ _ _ _ => pts_nil) (fun _ _ _ _ _ => (pe_tup (pa_cons (pe_ix ix_list (pv 13) (pv 24) (fun _ _ => rfl)) (pa_cons (pv 24) pa_nil))))) pa_nil)))
  (pss_cons (ps_set (i := 15) sc_law.nd rfl (.inl rfl) pe_str)
  (pss_cons (ps_set (i := 16) sc_law.nd rfl (.inr rfl) (pe_callTy (call_dictP rfl) (by rfl) T.n_dict (by decide +kernel) (pa_cons (pe_lc (own := [("_law_one", 23)]) (g := (gName 23)) (tt := tYes) (te := _) rfl sc_law.nd (pi_str (pv 15)) (blkOk_by (N := N_law) (sc := defScope s_law) (by decide +kernel)) (fun _ _ _ _ _ => (pg_name (i := 23) sc_law.nd rfl (.inl rfl))) (fun _ _ _ _ _ => pts_nil) (fun _ _ _ _ _ => (pe_tup (pa_cons (pv 23) (pa_cons (pe_op op_add_str pe_str (pv 23)) pa_nil))))) pa_nil)))
  (pss_cons (ps_set (i := 17) sc_law.nd rfl (.inl rfl) (pe_lst pa_nil))
  (pss_cons (ps_for PassesOwn.never rfl (pi_list (pv 13)) (pg_name (i := 18) sc_law.nd rfl (.inl rfl))
  (pss_cons (ps_set (i := 19) sc_law.nd rfl (.inl rfl) (pe_callTy cr_tupF (by rfl) T.n_tuple (by decide +kernel) (pa_cons (pe_lc (own := [("_law_name", 25), ("_law_kind", 26)]) (g := (gTup K 2 (gCons (gName 25) (gCons (gName 26) gNil)))) (tt := tYes) (te := (tTup (tCons (tDGet (tVar 16) (tVar 25)) (tCons (tVar 26) tNil)))) rfl sc_law.nd (pi_tup (pe_ix ix_tup (pe_ix ix_tup (pv 3) (pv 18) (fun _ _ => rfl)) pe_int (fun _ _ => rfl))) (blkOk_by (N := N_law) (sc := defScope s_law) (by decide +kernel)) (fun _ _ _ _ _ => (pg_tup (by rfl) (pgs_cons (pg_name (i := 25) sc_law.nd rfl (.inl rfl)) (pgs_cons (pg_name (i := 26) sc_law.nd rfl (.inl rfl)) pgs_nil)))) (fun _ _ _ _ _ => pts_nil) (fun _ _ _ _ _ => (pe_tup (pa_cons (pe_dget (hu_of hr) (pv 16) (pv 25) (fun _ _ => rfl)) (pa_cons (pv 26) pa_nil))))) pa_nil)))
  (pss_one (ps_expr (pe_bm PySem.F.plainAttrs_list PySem.F.slot_list_append PySem.F.type_list_append mt_append (pv 17) (pa_cons (pe_tup (pa_cons (pv 19) (pa_cons (pe_ix ix_tup (pe_ix ix_tup (pv 3) (pv 18) (fun _ _ => rfl)) pe_int (fun _ _ => rfl)) (pa_cons (pe_call G_w_led (hr.mono (by decide)) (by rfl) T.g_w_led T.F_w_led.kp T.b_w_led .nil pass0 (pa_cons (pe_ix ix_tup (pe_ix ix_tup (pv 3) (pv 18) (fun _ _ => rfl)) pe_int (fun _ _ => rfl)) (pa_cons (pv 14) (pa_cons (pv 16) pa_nil)))) pa_nil)))) pa_nil))))))
  (pss_cons (ps_asg (pe_callN G_run (hr.mono (by decide)) (by rfl) T.g_run T.F_run.kp (k_run T) pass0 (pa_cons (pe_callTy cr_tupF (by rfl) T.n_tuple (by decide +kernel) (pa_cons (pv 17) pa_nil)) (pa_cons (pv 4) (pa_cons (pv 5) pa_nil))) (pk_cons pe_int pk_nil)) (pg_tup (by rfl) (pgs_cons (pg_name (i := 20) sc_law.nd rfl (.inl rfl)) (pgs_cons (pg_name (i := 21) sc_law.nd rfl (.inl rfl)) pgs_nil))))
  (pss_cons (ps_set (i := 22) sc_law.nd rfl (.inl rfl) (pe_ifExp (pt_cmpR op_eq (pe_ix ix_tup (pv 6) pe_int (fun _ _ => rfl)) pe_str (nomark _)) (pe_op op_catT (pe_op op_catT (pe_slice sl_tup (pv 6) po_none (po_some pe_int)) (pe_tup (pa_cons (pe_dget (hu_of hr) (pv 14) (pe_ix ix_tup (pv 6) pe_int (fun _ _ => rfl)) (fun _ _ => rfl)) pa_nil))) (pe_slice sl_tup (pv 6) (po_some pe_int) po_none)) (pv 6)))
  (pss_one (ps_if (pt_not (pt_val (pe_call G_w_same (hr.mono (by decide)) (by rfl) T.g_w_same T.F_w_same.kp T.b_w_same .nil pass0 (pa_cons (pe_tup (pa_cons (pv 20) (pa_cons (pv 21) pa_nil))) (pa_cons (pe_tup (pa_cons (pv 22) (pa_cons (pe_lc (own := [("_law_one", 23)]) (g := (gName 23)) (tt := tYes) (te := (tOp (rCatT K) (tTup (tCons (tDGet (tVar 14) (tOp (rIxT K) (tVar 23) _)) tNil)) (tSl (rSlT K) (tVar 23) (tPart _) tNoPart))) rfl sc_law.nd (pi_list (pv 7)) (blkOk_by (N := N_law) (sc := defScope s_law) (by decide +kernel)) (fun _ _ _ _ _ => (pg_name (i := 23) sc_law.nd rfl (.inl rfl))) (fun _ _ _ _ _ => pts_nil) (fun _ _ _ _ _ => (pe_op op_catT (pe_tup (pa_cons (pe_dget (hu_of hr) (pv 14) (pe_ix ix_tup (pv 23) pe_int (fun _ _ => rfl)) (fun _ _ => rfl)) pa_nil)) (pe_slice sl_tup (pv 23) (po_some pe_int) po_none)))) pa_nil))) pa_nil)))))
  (pss_one (ps_ret pe_bl))
  pss_nil)))))))))))))))))))
  (pss_one (ps_ret pe_bl)))), ?_⟩
    refine ⟨_, rfl, a, ns, rfl, hS, hn, fun H1 st s1 nB dw1 => ?_⟩
    refine ⟨4, rfl, by decide, by decide, for_it (walk_range (n := 4)) (fun i σ H => ∃ y2 y3 y4 y5 y6 y7 y8 y9 y10 y11 y12 y13 y14 y15 y16 y17 y18 y19 y20 y21 y22, σ = [some (.ref a), some (.ref st), y2, y3, y4, y5, y6, y7, y8, y9, y10, y11, y12, y13, y14, y15, y16, y17, y18, y19, y20, y21, y22, none, none, none, none] ∧ Same B H ∧ Dw K B H st)
      ⟨none, none, none, none, none, none, none, none, none, none, none, none, none, none, none, none, none, none, none, none, none, rfl, s1, dw1⟩ (fun _ _ _ _ _ => True.intro) ?_ ?_⟩
    · rintro t x2 σ H2 H2' ht ⟨y2, y3, y4, y5, y6, y7, y8, y9, y10, y11, y12, y13, y14, y15, y16, y17, y18, y19, y20, y21, y22, rfl, s2, dw2⟩ ⟨rfl, -⟩
      refine seq_by (fun σ H => ∃ pv fs, σ = [some (.ref a), some (.ref st), some x2, some pv, y4, y5, y6, y7, y8, y9, y10, y11, y12, y13, y14, y15, y16, y17, y18, y19, y20, y21, y22, none, none, none, none] ∧ Same B H ∧ Dw K B H st ∧ PgAt K H pv fs ∧ okPg fs ∧ ∀ f ∈ fs, f.one) ?_ ?_
      · intro D' _ hI
        refine ⟨_, rfl, B, st, 2, rfl, s2, nB, dw2, by decide, by decide, fun H3 d d0 d2 x3 dw3 => ⟨rfl, _, rfl, ?_⟩⟩
        have s3 : Same B H3 := SameX.same s2 x3 nB
        by_cases hd : V.int d = V.int 0
        · refine itd hd ⟨_, rfl, B, st, 4, 5, rfl, by decide, by decide, by decide, by decide, s3, nB, dw3, fun H4 v fs x4 dw4 hp ok _ _ one => ?_⟩
          exact hI _ _ ⟨v, fs, rfl, SameX.same s3 x4 nB, dw4, hp, ok, one⟩
        · refine itn hd ⟨_, rfl, B, st, rfl, s3, nB, dw3, fun H4 v fs x4 dw4 hp ok _ _ one _ => ?_⟩
          exact hI _ _ ⟨v, fs, rfl, SameX.same s3 x4 nB, dw4, hp, ok, one⟩
      rintro σ H3 ⟨pv, fs, rfl, s3, dw3, hp3, ok, one⟩
      obtain ⟨f0, hf0⟩ : ∃ f0, fs[0]? = some f0 := ⟨_, List.getElem?_eq_getElem (by have := ok.1; omega)⟩
      refine seq_by (fun σ H => ∃ aa an ws ans, σ = [some (.ref a), some (.ref st), some x2, some pv, some (.ref aa), some (.ref an), y6, y7, y8, y9, y10, y11, y12, y13, y14, y15, y16, y17, y18, y19, y20, y21, y22, none, none, none, none] ∧ ans.length ≤ 3 ∧ Turn K B H st pv fs f0 aa an ws ans) ?_ ?_
      · intro D' _ hI
        refine ⟨_, rfl, _, rfl, B, st, pv, fs, f0, rfl, s3, nB, dw3, hp3, ok, hf0, fun H4 aa avs ws x4 dw4 _ ane ea hav hw => ?_⟩
        have s4 : Same B H4 := SameX.same s3 x4 nB
        refine ⟨_, rfl, B, st, rfl, s4, nB, dw4, fun H5 an ans x5 dw5 _ nne en ln hz => ?_⟩
        have hp4 := hp3.same (dw3.i x4)
        refine ⟨_, _, rfl, hI _ _ ⟨aa, an, ws, ans, rfl, ln, dw5, SameX.same s4 x5 nB, hp4.same (dw4.i x5), ok, hf0, ane, ⟨avs, x5 _ _ ane ea, hav.same (dw4.i x5)⟩, hw, nne, en, by omega, fun i hi => ?_⟩⟩
        have := hz i hi
        unfold okInt
        omega
      rintro σ H4 ⟨aa, an, ws, ans, rfl, hln, T4⟩
      -- what comes of it
      refine seq_by (fun σ H => ∃ ev1 l1 e1 m1, σ = [some (.ref a), some (.ref st), some x2, some pv, some (.ref aa), some (.ref an), some ev1, some (.ref l1), y8, y9, y10, y11, y12, y13, y14, y15, y16, y17, y18, y19, y20, y21, y22, none, none, none, none] ∧ Turn K B H st pv fs f0 aa an ws ans ∧ Got K H st fs ans 40 ws ev1 l1 e1 m1) ?_ ?_
      · intro D' _ hI
        refine ⟨_, rfl, _, rfl, _, rfl, rfl, rfl, T4.run nB (most := 40) (by decide) (by decide) fun e1 m1 H5 u ev1 l1 s5 T5 g1 hu => ?_⟩
        exact ⟨u, _, rfl, hu, rfl, _, _, rfl, _, _, rfl, rfl, hI _ _ ⟨ev1, l1, e1, m1, rfl, T5, g1⟩⟩
      rintro σ H5 ⟨ev1, l1, e1, m1, rfl, T5, g1⟩
      refine seq_by (fun σ H => ∃ k : Nat, σ = [some (.ref a), some (.ref st), some x2, some pv, some (.ref aa), some (.ref an), some ev1, some (.ref l1), some (.int (k : Nat)), y9, y10, y11, y12, y13, y14, y15, y16, y17, y18, y19, y20, y21, y22, none, none, none, none] ∧ 1 ≤ k ∧ k ≤ 40 ∧ Turn K B H st pv fs f0 aa an ws ans ∧ Got K H st fs ans 40 ws ev1 l1 e1 m1) ?_ ?_
      · intro D' _ hI
        refine ⟨_, rfl, B, st, 40, rfl, T5.sB, nB, T5.dw, by decide, by decide, fun H6 d d0 d4 x6 dw6 => ?_⟩
        obtain ⟨k, hk⟩ : ∃ k : Nat, 1 + d = (k : Int) := ⟨(1 + d).toNat, by omega⟩
        exact ⟨_, _, rfl, rfl, hI _ _ ⟨k, by rw [← hk]; rfl, by omega, by omega, T5.step nB x6 dw6, g1.step T5.dw x6⟩⟩
      clear T5 g1
      rintro σ H6 ⟨k, rfl, k1, k40, T6, g1⟩
      refine seq_by (fun σ H => ∃ ev2 l2 e2 m2, σ = [some (.ref a), some (.ref st), some x2, some pv, some (.ref aa), some (.ref an), some ev1, some (.ref l1), some (.int (k : Nat)), some ev2, some (.ref l2), y11, y12, y13, y14, y15, y16, y17, y18, y19, y20, y21, y22, none, none, none, none] ∧ Turn K B H st pv fs f0 aa an ws ans ∧ Got K H st fs ans 40 ws ev1 l1 e1 m1 ∧ Got K H st fs ans k ws ev2 l2 e2 m2) ?_ ?_
      · intro D' _ hI
        refine ⟨_, rfl, _, rfl, _, rfl, _, rfl, rfl, rfl, T6.run nB (most := k) k1 (by omega) fun e2 m2 H7 u ev2 l2 s7 T7 g2 hu => ?_⟩
        exact ⟨u, _, rfl, hu, rfl, _, _, rfl, _, _, rfl, rfl, hI _ _ ⟨ev2, l2, e2, m2, rfl, T7, g1.step T6.dw (sameX_of s7), g2⟩⟩
      clear T6 g1
      rintro σ H7 ⟨ev2, l2, e2, m2, rfl, T7, g1, g2⟩
      obtain ⟨sm1, eo1, bl1⟩ := g1.sml T7 (by decide) (by decide)
      -- cut short
      refine seq_by (fun σ H => ∃ y8 y9 y10 y11, σ = [some (.ref a), some (.ref st), some x2, some pv, some (.ref aa), some (.ref an), some ev1, some (.ref l1), y8, y9, y10, y11, y12, y13, y14, y15, y16, y17, y18, y19, y20, y21, y22, none, none, none, none] ∧ Turn K B H st pv fs f0 aa an ws ans ∧ Got K H st fs ans 40 ws ev1 l1 e1 m1) ?_ ?_
      · intro D' _ hI
        obtain ⟨e3, m3, hr3, hcut⟩ := runs_cut k40 g1.run (show (mc0 fs ws).begun.length ≤ k from k1)
        obtain ⟨rfl, rfl⟩ := runs_det g2.run hr3
        clear hr3
        obtain ⟨cvs1, ec1, lc1⟩ := g1.len
        refine if_by (fun b H => Same H7 H ∧ (b = true ↔ Cut k e1 m1)) ?_ ?_ ?_
        · intro Q hQ
          refine ⟨_, rfl, _, rfl, _, _, rfl, .inl ⟨cvs1, SqL.of ec1, rfl⟩, _, _, rfl, rfl, _, rfl, ?_⟩
          by_cases c1 : ((k : Nat) : Int) < ((cvs1.length : Nat) : Int)
          · exact itd c1 (hQ _ _ ⟨Same.refl _, ⟨fun _ => .inl (by omega), fun _ => rfl⟩⟩)
          refine itn c1 ⟨_, rfl, _, rfl, _, _, rfl, .inl ⟨cvs1, SqL.of ec1, rfl⟩, rfl, _, rfl, ?_⟩
          by_cases c2 : V.int ((k : Nat) : Int) = V.int ((cvs1.length : Nat) : Int)
          · have c3 : m1.begun.length = k := by injection c2 with c2; omega
            refine itd c2 ⟨_, rfl, by show 1 ≤ sizeLine; decide, fun tp htp => ?_⟩
            have s8 := same_upd (o := .tup [.str "long"]) htp
            refine ⟨e1.d, .tuple [.str "long"], (g1.ev.same (sameI_of s8)).dp, .tup (.inl (.inl upd_same)) (.cons (.str _) .nil), (pl_end eo1).shaped (by decide), by decide +kernel, _, rfl, hQ _ _ ⟨s8, ?_⟩⟩
            rw [long_eqv]
            refine ⟨fun h => .inr ⟨c3, is_long h⟩, fun h => ?_⟩
            rcases h with h | ⟨_, h⟩
            · omega
            · rw [h]; rfl
          · refine itn c2 (hQ _ _ ⟨Same.refl _, ⟨(fun z => absurd z Bool.false_ne_true), fun h => ?_⟩⟩)
            exfalso
            rcases h with h | ⟨h, _⟩
            · omega
            · exact c2 (by rw [lc1, h])
        · rintro H8 ⟨s8, hc⟩
          have hcut2 := hc.mp rfl
          have hlong : e3 = .long ∧ m3.begun = m1.begun.take k := by
            rcases hcut with ⟨a, b, _, _⟩ | ⟨_, a, b⟩
            · rcases hcut2 with h | h
              · omega
              · exact absurd h b
            · exact ⟨a, b⟩
          obtain ⟨rfl, hbt⟩ := hlong
          have hkl : k ≤ m1.begun.length := by rcases hcut2 with h | ⟨h, _⟩ <;> omega
          have hhd := heads_cut hkl hbt
          have T8 := T7.step nB (sameX_of s8) (T7.dw.step s8)
          have g18 := g1.step T7.dw (sameX_of s8)
          have g28 := g2.step T7.dw (sameX_of s8)
          generalize hhs : ((callsOf m1).take k).map headD = hs at hhd
          have plh : Pl 4 (.list hs) := by
            refine .lst ?_ fun d hd => ?_
            · rw [← hhs, List.length_map, List.length_take, calls_len]
              omega
            · rw [← hhs] at hd
              obtain ⟨c, hc, rfl⟩ := List.mem_map.mp hd
              exact pl_head (calls_ok sm1 c (List.mem_of_mem_take hc))
          refine seq_by (fun σ H => ∃ hl q1 q2 ys1 ys2, σ = [some (.ref a), some (.ref st), some x2, some pv, some (.ref aa), some (.ref an), some ev1, some (.ref l1), some (.int (k : Nat)), some ev2, some (.ref l2), some (.ref hl), y12, y13, y14, y15, y16, y17, y18, y19, y20, y21, y22, none, none, none, none] ∧ Turn K B H st pv fs f0 aa an ws ans ∧ Got K H st fs ans 40 ws ev1 l1 e1 m1 ∧ Im K H ev2 Ends2.long.d ∧ H hl = some (.lst [.ref q1, .ref q2]) ∧ H q1 = some (.lst ys1) ∧ H q2 = some (.lst ys2) ∧ ImAll K H ys1 hs ∧ ImAll K H ys2 hs) ?_ ?_
          · intro D2 _ hI2
            obtain ⟨cvs, ec, hc1⟩ := g18.at_
            obtain ⟨cvs2, ec2, hc2⟩ := g28.at_
            refine ⟨_, rfl, _, rfl, _, rfl, _, rfl, l1, cvs, rfl, SqL.of ec, fun p hp => ?_⟩
            rw [cutK]
            have s9 := same_upd (o := .lst (cvs.take k)) hp
            have e9 : upd H8 p (.lst (cvs.take k)) p = some (.lst (cvs.take k)) := upd_same
            generalize upd H8 p (.lst (cvs.take k)) = H9 at s9 e9 ⊢
            refine ⟨by show 2 ≤ sizeLine; decide, fun tp htp => ⟨tp, rfl, ⟨_, .inl (.inl upd_same)⟩, fun D3 hD3 => ?_⟩⟩
            have s10 := same_upd (o := .tup [.ref l2, .ref p]) htp
            have e10 : upd H9 tp (.tup [.ref l2, .ref p]) tp = some (.tup [.ref l2, .ref p]) := upd_same
            generalize upd H9 tp (.tup [.ref l2, .ref p]) = H10 at s10 e10 hD3 ⊢
            have s810 := s9.trans s10
            refine lc_new (walk_tup (K := K) (a := tp) (xs := [V.ref l2, V.ref p])) (fun _ y H => ∃ q ys, y = .ref q ∧ q ≠ D3 ∧ H q = some (.lst ys) ∧ ImAll K H ys hs)
              (fun m y H H2 acc eD x ⟨q, ys, h1, h2, h3, h4⟩ => ⟨q, ys, h1, h2, x _ _ h2 h3, h4.same (x.i eD id)⟩) hD3 (fun H s => .inl (.inl (s _ _ e10))) (by show 2 ≤ 1000000; decide) ?_ ?_
            · rintro i v H11 H11' kk hi s11 ⟨acc, eD⟩ ⟨rfl, hv⟩ hk
              have s811 := s810.trans s11
              have hside : ∃ (q0 : Addr) (vs0 : List V) (cs : List (Nat × List Wt × Option Wt)), v = .ref q0 ∧ H11' q0 = some (.lst vs0) ∧ ImAll K H11' vs0 (cs.map callD) ∧ cs.map headD = hs ∧ cs.length ≤ 1000 := by
                match i, hi, hv with
                | 0, _, hv =>
                  cases hv
                  refine ⟨l2, cvs2, callsOf m3, rfl, s811 _ _ ec2, hc2.same (sameI_of s811), hhd, ?_⟩
                  rw [calls_len, hbt, List.length_take]
                  omega
                | 1, _, hv =>
                  cases hv
                  refine ⟨p, cvs.take k, (callsOf m1).take k, rfl, (s10.trans s11) _ _ e9, ?_, hhs, ?_⟩
                  · rw [List.map_take]
                    exact (hc1.take k).same (sameI_of s811)
                  · rw [List.length_take]
                    omega
              obtain ⟨q0, vs0, cs, rfl, e0, hc0, hh0, lc0⟩ := hside
              have lv0 : vs0.length = cs.length := by rw [ImAll.length hc0, List.length_map]
              refine ⟨rfl, _, rfl, q0, rfl, ⟨_, SqL.of e0⟩, fun D4 hD4 => ?_⟩
              refine lc_data (walk_list (K := K) (a := q0) (xs := vs0)) (fun i y H => ∃ c, cs[i]? = some c ∧ Im K H y (headD c)) (fun i v H H2 si ⟨c, h1, h2⟩ => ⟨c, h1, h2.same si⟩) hD4 (fun H s => SqL.of (s _ _ e0)) (by omega) ?_ ?_
              · rintro j y H12 H12' k2 hj s12 ⟨rfl, hy⟩ hk2
                obtain ⟨cd, hcd, hyc⟩ := ImAll.get hc0 hy
                rw [List.getElem?_map] at hcd
                obtain ⟨c, hc, rfl⟩ := Option.map_eq_some_iff.mp hcd
                obtain ⟨va, vs, rfl, ht, hvs⟩ := im_tup hyc
                obtain ⟨v0, r0, rfl, hv0, hr0⟩ := all_cons hvs
                obtain ⟨v1, r1, rfl, hv1, hr1⟩ := all_cons hr0
                obtain ⟨v2, r2, rfl, hv2, hr2⟩ := all_cons hr1
                cases hr2
                refine ⟨rfl, _, rfl, _, rfl, va, _, rfl, Same.tup s12 ht, (by show ¬ (HT.sIx 3 0 none = 0 ∧ HT.sIx 3 3 (some 2) = 3); decide +kernel), fun pp hpp => ?_⟩
                have s13 := same_upd (o := .tup [v0, v1]) hpp
                exact hk2 _ _ s13 ⟨c, hc, .tup (.inl (.inl upd_same)) (.cons (hv0.same (sameI_of (s12.trans s13))) (.cons (hv1.same (sameI_of (s12.trans s13))) .nil))⟩
              · rintro H12 acc2 s12 e12 l12 hE
                refine hk _ _ (s12) ⟨D4, acc2, rfl, ?_, e12, ?_⟩
                · exact Ne.symm (ne_of_none eD hD4)
                · rw [← hh0]
                  refine ImAll.of (by rw [l12, List.length_map, lv0]) fun j x d h1 h2 => ?_
                  obtain ⟨c, h3, h4⟩ := hE j x h1
                  rw [List.getElem?_map, h3] at h2
                  cases h2
                  exact h4
            · rintro H11 acc s11 e11 l11 hE
              match acc, l11 with
              | [w1, w2], _ =>
                obtain ⟨q1, ys1, rfl, _, a1, b1⟩ := hE 0 w1 rfl
                obtain ⟨q2, ys2, rfl, _, a2, b2⟩ := hE 1 w2 rfl
                have s811 := s810.trans s11
                exact hI2 _ _ ⟨D3, q1, q2, ys1, ys2, rfl, T8.step nB (sameX_of s811) (T8.dw.step s811), g18.step T8.dw (sameX_of s811), g28.ev.same (sameI_of s811), e11, a1, a2, b1, b2⟩
          · rintro σ H9 ⟨hl, q1, q2, ys1, ys2, rfl, T9, g19, iv2, eh, a1, a2, b1, b2⟩
            refine ⟨_, rfl, by show 1 ≤ sizeLine; decide, fun tp htp => ?_⟩
            have s10 := same_upd (o := .tup [.str "long"]) htp
            refine ⟨Ends2.long.d, .tuple [.str "long"], (iv2.same (sameI_of s10)).dp, .tup (.inl (.inl upd_same)) (.cons (.str _) .nil), by decide +kernel, by decide +kernel, _, rfl, itn_false ?_ (by decide +kernel)⟩
            generalize upd H9 tp (.tup [.str "long"]) = H10 at s10 ⊢
            refine ⟨_, rfl, _, _, _, _, rfl, rfl, SqL.of (s10 _ _ eh), atI_nat (j := 0) rfl, _, rfl, _, _, _, _, rfl, rfl, SqL.of (s10 _ _ eh), atI_nat (j := 1) rfl, ?_⟩
            refine ⟨.list hs, .list hs, .lst (SqL.of (s10 _ _ a1)) (b1.same (sameI_of s10)).dp, .lst (SqL.of (s10 _ _ a2)) (b2.same (sameI_of s10)).dp, plh.shaped (by decide), plh.shaped (by decide), _, rfl, ?_⟩
            rw [plh.eqv]
            exact iteF (hI _ _ ⟨_, _, _, _, rfl, T9.step nB (sameX_of s10) (T9.dw.step s10), g19.step T9.dw (sameX_of s10)⟩)
        · rintro H8 ⟨s8, hc⟩
          have hn : ¬ Cut k e1 m1 := fun z => Bool.false_ne_true (hc.mpr z)
          have hee : e3 = e1 ∧ m3 = m1 := by
            rcases hcut with ⟨_, _, a, b⟩ | ⟨a, _⟩
            · exact ⟨a, b⟩
            · exact absurd a hn
          obtain ⟨rfl, rfl⟩ := hee
          have T8 := T7.step nB (sameX_of s8) (T7.dw.step s8)
          have g18 := g1.step T7.dw (sameX_of s8)
          have g28 := g2.step T7.dw (sameX_of s8)
          refine ⟨_, rfl, _, rfl, by show 2 ≤ sizeLine; decide, fun ta hta => ⟨_, rfl, _, rfl, by show 2 ≤ sizeLine; decide, fun tb htb => ?_⟩⟩
          have s9 := same_upd (o := .tup [ev2, .ref l2]) hta
          have s10 := same_upd (o := .tup [ev1, .ref l1]) htb
          have s910 := s9.trans s10
          have u1 : SqT K (upd (upd H8 ta (.tup [ev2, .ref l2])) tb (.tup [ev1, .ref l1])) tb [ev1, .ref l1] := .inl (.inl upd_same)
          have u2 : SqT K (upd (upd H8 ta (.tup [ev2, .ref l2])) tb (.tup [ev1, .ref l1])) ta [ev2, .ref l2] := .inl (.inl (s10 _ _ upd_same))
          have g1' := g18.step T8.dw (sameX_of s910)
          have g2' := g28.step T8.dw (sameX_of s910)
          refine ⟨.ref ta, .ref tb, resD e3 m3, rfl, g2'.dp u2, g1'.dp u1, (res_pl sm1 eo1 (by omega)).sized, fun H9 s9' => ⟨_, rfl, iteF (iteF (hI _ _ ⟨_, _, _, _, rfl, ?_, ?_⟩))⟩⟩
          · exact T8.step nB (sameX_of (s910.trans s9')) (T8.dw.step (s910.trans s9'))
          · exact g18.step T8.dw (sameX_of (s910.trans s9'))
      clear T7 g1 g2
      rintro σ H8 ⟨y8, y9, y10, y11, rfl, T8, g1⟩
      -- noughts behind
      refine seq_by (fun σ H => σ = [some (.ref a), some (.ref st), some x2, some pv, some (.ref aa), some (.ref an), some ev1, some (.ref l1), y8, y9, y10, y11, y12, y13, y14, y15, y16, y17, y18, y19, y20, y21, y22, none, none, none, none] ∧ Turn K B H st pv fs f0 aa an ws ans ∧ Got K H st fs ans 40 ws ev1 l1 e1 m1) ?_ ?_
      · intro D' _ hI
        refine if_by (fun b H => b = false ∧ Turn K B H st pv fs f0 aa an ws ans ∧ Got K H st fs ans 40 ws ev1 l1 e1 m1) ?_ ?_ ?_
        · intro Q hQ
          refine ⟨_, rfl, _, rfl, _, rfl, by show 1 ≤ sizeLine; decide, fun zl hzl => ?_⟩
          have s9 := same_upd (o := .lst [.int 0]) hzl
          have e9 : upd H8 zl (.lst [.int 0]) zl = some (.lst [.int 0]) := upd_same
          have zst : zl ≠ st := T8.dw.ne hzl
          have T9 := T8.step nB (sameX_of s9) (T8.dw.step s9)
          have g9 := g1.step T8.dw (sameX_of s9)
          generalize upd H8 zl (.lst [.int 0]) = H9 at s9 e9 T9 g9 ⊢
          refine ⟨_, rfl, B, st, 4, rfl, T9.sB, nB, T9.dw, by decide, by decide, fun H10 d d0 d4 x10 dw10 => ?_⟩
          have T10 := T9.step nB x10 dw10
          have g10 := g9.step T9.dw x10
          refine ⟨zl, d, [.int 0], rfl, rfl, x10 _ _ zst e9, by omega, by omega, ?_, fun p2 hp2 => ?_⟩
          · show 1 * d.toNat ≤ sizeLine
            exact Nat.le_trans (show 1 * d.toNat ≤ 4 by omega) (by decide)
          rw [flat0]
          have s11 := same_upd (o := .lst ((List.replicate d.toNat (0 : Int)).map V.int)) hp2
          have e11 : upd H10 p2 (.lst ((List.replicate d.toNat (0 : Int)).map V.int)) p2 = some (.lst ((List.replicate d.toNat (0 : Int)).map V.int)) := upd_same
          have T11 := T10.step nB (sameX_of s11) (T10.dw.step s11)
          have g11 := g10.step T10.dw (sameX_of s11)
          generalize upd H10 p2 (.lst ((List.replicate d.toNat (0 : Int)).map V.int)) = H11 at s11 e11 T11 g11 ⊢
          have hal := T11.nlen
          refine ⟨an, p2, _, _, rfl, rfl, T11.nat, e11, ?_, fun p3 hp3 => ?_⟩
          · rw [List.length_map, List.length_map, List.length_replicate]
            exact Nat.le_trans (show ans.length + d.toNat ≤ 104 by omega) (by decide)
          rw [← List.map_append]
          have s12 := same_upd (o := .lst ((ans ++ List.replicate d.toNat (0 : Int)).map V.int)) hp3
          have e12 : upd H11 p3 (.lst ((ans ++ List.replicate d.toNat (0 : Int)).map V.int)) p3 = some (.lst ((ans ++ List.replicate d.toNat (0 : Int)).map V.int)) := upd_same
          have p3st : p3 ≠ st := T11.dw.ne hp3
          have T12 := T11.step nB (sameX_of s12) (T11.dw.step s12)
          have g12 := g11.step T11.dw (sameX_of s12)
          generalize upd H11 p3 (.lst ((ans ++ List.replicate d.toNat (0 : Int)).map V.int)) = H12 at s12 e12 T12 g12 ⊢
          have T12' : Turn K B H12 st pv fs f0 aa p3 ws (ans ++ List.replicate d.toNat (0 : Int)) := { T12 with
            nne := p3st
            nat := e12
            nlen := by (rw [List.length_append, List.length_replicate]; omega)
            nok := fun i hi => by
              rcases List.mem_append.mp hi with hi | hi
              · exact T12.nok i hi
              · rw [List.eq_of_mem_replicate hi]
                unfold okInt
                omega }
          refine ⟨rfl, rfl, T12'.run nB (most := 40) (by decide) (by decide) fun e3 m3 H13 u ev3 l3 s13 T13 g3 hu => ?_⟩
          obtain ⟨rfl, hcs⟩ := runs_zeros g1.run g3.run
          have hres : resD e3 m3 = resD e3 m1 := by unfold resD; rw [hcs]
          refine ⟨_, rfl, _, rfl, by show 2 ≤ sizeLine; decide, fun tb htb => ?_⟩
          have s14 := same_upd (o := .tup [ev1, .ref l1]) htb
          have g14 := (g12.step T12.dw (sameX_of s13)).step T13.dw (sameX_of s14)
          have T14 := (T12.step nB (sameX_of s13) T13.dw).step nB (sameX_of s14) (T13.dw.step s14)
          have d3 : Dp K (upd H13 tb (.tup [ev1, .ref l1])) (.ref u) (resD e3 m1) := by
            rw [← hres]
            exact (g3.step T13.dw (sameX_of s14)).dp (Same.tup s14 hu)
          exact ⟨.ref u, .ref tb, resD e3 m1, rfl, d3, g14.dp (.inl (.inl upd_same)), (res_pl sm1 eo1 (by omega)).sized, fun H15 s15 => ⟨_, rfl, hQ _ _ ⟨rfl, T14.step nB (sameX_of s15) (T14.dw.step s15), g14.step T14.dw (sameX_of s15)⟩⟩⟩
        · rintro H9 ⟨h, _⟩
          cases h
        · rintro H9 ⟨_, T9, g9⟩
          exact hI _ _ ⟨rfl, T9, g9⟩
      clear T8 g1
      rintro σ H9 ⟨rfl, T9, g1⟩
      -- another order
      obtain ⟨pa, pvs, rfl, hpa, hfs⟩ := T9.pg
      have lpf : pvs.length = fs.length := Paired.length hfs
      have n1 : 1 ≤ fs.length := ok.1
      have n6 : fs.length ≤ 6 := ok.2.1
      refine seq_by (fun σ H => ∃ (ll ol : Addr) (ls os : List Nat), σ = [some (.ref a), some (.ref st), some x2, some (.ref pa), some (.ref aa), some (.ref an), some ev1, some (.ref l1), y8, y9, y10, y11, some (.ref ll), some (.ref ol), y14, y15, y16, y17, y18, y19, y20, y21, y22, none, none, none, none] ∧ SameX st H9 H ∧ Dw K B H st ∧ H9 ll = none ∧ H9 ol = none ∧ ll ≠ ol ∧ H ll = some (.lst (ls.map natV)) ∧ H ol = some (.lst (os.map natV)) ∧ (ls ++ os).Perm (List.range fs.length) ∧ os[0]? = some 0) ?_ ?_
      · intro D' _ hI
        refine ⟨_, rfl, _, _, rfl, .inr ⟨pvs, hpa, rfl⟩, 1, (pvs.length : Nat), rfl, rfl, RgOk.of_le (by decide) (by omega) (by decide) (by omega), fun ll hll => ?_⟩
        rw [lpf, rg_nats]
        have s10 := same_upd (o := .lst (((List.range (fs.length - 1)).map (· + 1)).map natV)) hll
        have e10 : upd H9 ll (.lst (((List.range (fs.length - 1)).map (· + 1)).map natV)) ll = some (.lst (((List.range (fs.length - 1)).map (· + 1)).map natV)) := upd_same
        generalize upd H9 ll (.lst (((List.range (fs.length - 1)).map (· + 1)).map natV)) = H10 at s10 e10 ⊢
        refine ⟨by show 1 ≤ sizeLine; decide, fun ol hol => ?_⟩
        have s11 := same_upd (o := .lst [.int 0]) hol
        have e11 : upd H10 ol (.lst [.int 0]) ol = some (.lst [.int 0]) := upd_same
        generalize upd H10 ol (.lst [.int 0]) = H11 at s11 e11 ⊢
        refine ⟨by show 2 ≤ sizeLine; decide, fun tp htp => ?_⟩
        have s12 := same_upd (o := .tup [.ref ll, .ref ol]) htp
        have s912 := s10.trans (s11.trans s12)
        refine ⟨tp, _, rfl, .inl (.inl upd_same), rfl, _, _, rfl, _, _, rfl, rfl, hI _ _ ⟨ll, ol, (List.range (fs.length - 1)).map (· + 1), [0], rfl, sameX_of s912, T9.dw.step s912, hll, s10.free hol, ne_of_none e10 hol, s12 _ _ (s11 _ _ e10), s12 _ _ e11, rg_perm n1, rfl⟩⟩
      rintro σ H10 ⟨ll, ol, ls, os, rfl, x10, dw10, nll, nol, lol, ell, eol, hpm, hz⟩
      refine seq_by (fun σ H => ∃ (os : List Nat), σ = [some (.ref a), some (.ref st), some x2, some (.ref pa), some (.ref aa), some (.ref an), some ev1, some (.ref l1), y8, y9, y10, y11, some (.ref ll), some (.ref ol), y14, y15, y16, y17, y18, y19, y20, y21, y22, none, none, none, none] ∧ SameX st H9 H ∧ Dw K B H st ∧ H ol = some (.lst (os.map natV)) ∧ Ord os fs.length) ?_ ?_
      · intro D' _ hI
        have llst : ll ≠ st := T9.dw.ne nll
        have olst : ol ≠ st := T9.dw.ne nol
        refine ⟨fun n σ H => ∃ (ls os : List Nat), σ = [some (.ref a), some (.ref st), some x2, some (.ref pa), some (.ref aa), some (.ref an), some ev1, some (.ref l1), y8, y9, y10, y11, some (.ref ll), some (.ref ol), y14, y15, y16, y17, y18, y19, y20, y21, y22, none, none, none, none] ∧ SameX st H9 H ∧ Dw K B H st ∧ H ll = some (.lst (ls.map natV)) ∧ H ol = some (.lst (os.map natV)) ∧ (ls ++ os).Perm (List.range fs.length) ∧ os[0]? = some 0 ∧ n = ls.length, ⟨_, ls, os, rfl, x10, dw10, ell, eol, hpm, hz, rfl⟩, ?_⟩
        rintro n σ H11 ⟨ls, os, rfl, x11, dw11, ell, eol, hpm, hz, rfl⟩
        have hlen := hpm.length_eq
        rw [List.length_append, List.length_range] at hlen
        refine ⟨_, rfl, by show 0 ≤ sizeLine; decide, fun zl hzl => ?_⟩
        have s12 := same_upd (o := .lst []) hzl
        have e12 : upd H11 zl (.lst []) zl = some (.lst []) := upd_same
        have dw12 := dw11.step s12
        have x12 := x11.trans (sameX_of s12)
        have ell2 := s12 _ _ ell
        have eol2 := s12 _ _ eol
        generalize upd H11 zl (.lst []) = H12 at s12 e12 dw12 x12 ell2 eol2 ⊢
        refine ⟨.list (ls.map fun (f : Nat) => PyData.int (f : Int)), .list [], .lst (SqL.of ell2) (nats_dp ls), .lst (SqL.of e12) .nil, (pl_nats (by omega)).shaped (by decide), by decide +kernel, _, rfl, ?_⟩
        cases ls with
        | nil =>
          refine itn_false ?_ (by decide +kernel)
          exact hI _ _ ⟨os, rfl, x12, dw12, eol2, hpm, hz⟩
        | cons l0 lr =>
          refine itd_true ?_ (by rfl)
          refine ⟨fun σ' H' => ∃ n', n' < (l0 :: lr).length ∧ ∃ (ls os : List Nat), σ' = [some (.ref a), some (.ref st), some x2, some (.ref pa), some (.ref aa), some (.ref an), some ev1, some (.ref l1), y8, y9, y10, y11, some (.ref ll), some (.ref ol), y14, y15, y16, y17, y18, y19, y20, y21, y22, none, none, none, none] ∧ SameX st H9 H' ∧ Dw K B H' st ∧ H' ll = some (.lst (ls.map natV)) ∧ H' ol = some (.lst (os.map natV)) ∧ (ls ++ os).Perm (List.range fs.length) ∧ os[0]? = some 0 ∧ n' = ls.length, fun σ' H' z => z, ?_⟩
          refine ⟨_, rfl, .inl ⟨rfl, _, SqL.of eol2⟩, _, rfl, .inl ⟨rfl, _, SqL.of ell2⟩, _, rfl, _, rfl, _, _, rfl, .inl ⟨_, SqL.of ell2, rfl⟩, B, st, _, rfl, SameX.same T9.sB x12 nB, nB, dw12, ?_, ?_, fun H13 d d0 d1 x13 dw13 => ?_⟩
          · rw [List.length_map, List.length_cons]
            omega
          · rw [List.length_map]
            omega
          rw [List.length_map] at d1
          obtain ⟨k, rfl⟩ : ∃ k : Nat, d = (k : Int) := ⟨d.toNat, by omega⟩
          have hk : k < (l0 :: lr).length := by omega
          obtain ⟨j, hj1, hj2, hj3, _⟩ := atI_get (xs := (l0 :: lr).map natV) (atI_nat (j := k) (by rw [List.getElem?_map, List.getElem?_eq_getElem hk]; rfl))
          rw [List.getElem?_map] at hj2
          obtain ⟨f, hf, hfv⟩ := Option.map_eq_some_iff.mp hj2
          have ell3 := x13 _ _ llst ell2
          have eol3 := x13 _ _ olst eol2
          refine ⟨ll, _, _, j, natV f, rfl, rfl, ell3, by omega, by omega, hj1, by rw [List.getElem?_map, hf]; rfl, ?_⟩
          rw [map_erase]
          have x14 : SameX st H9 (upd H13 ll (.lst (((l0 :: lr).eraseIdx j).map natV))) := (x12.trans x13).old nll
          have e14 : upd H13 ll (.lst (((l0 :: lr).eraseIdx j).map natV)) ll = some (.lst (((l0 :: lr).eraseIdx j).map natV)) := upd_same
          have dw14 := dw13.upd (o := .lst (((l0 :: lr).eraseIdx j).map natV)) llst
          have eol4 : upd H13 ll (.lst (((l0 :: lr).eraseIdx j).map natV)) ol = some (.lst (os.map natV)) := by rw [upd_ne lol.symm]; exact eol3
          generalize upd H13 ll (.lst (((l0 :: lr).eraseIdx j).map natV)) = H14 at x14 e14 dw14 eol4 ⊢
          have her := erase_perm hf
          have hel := her.length_eq
          rw [List.length_cons] at hel
          refine ⟨ol, _, _, rfl, rfl, eol4, smaller (by rw [List.length_map]; omega), _, ?_, (l0 :: lr).eraseIdx j, os ++ [f], rfl, x14.old nol, dw14.upd olst, by rw [upd_ne lol]; exact e14, by rw [upd_same, List.map_append]; rfl, ?_, ?_, rfl⟩
          · omega
          · refine List.Perm.trans ?_ hpm
            rw [← List.append_assoc]
            refine (List.perm_append_comm (l₁ := (l0 :: lr).eraseIdx j ++ os) (l₂ := [f])).trans ?_
            exact (her.append_right os)
          · rw [List.getElem?_append_left (List.getElem?_eq_some_iff.mp hz).1]
            exact hz
      clear hpm hz ell eol
      rintro σ H11 ⟨os, rfl, x11, dw11, eol, O⟩
      have T11 := T9.step nB x11 dw11
      have g11 := g1.step T9.dw x11
      have lon := O.len
      -- where they are
      refine seq_by (fun σ H => ∃ wa, σ = [some (.ref a), some (.ref st), some x2, some (.ref pa), some (.ref aa), some (.ref an), some ev1, some (.ref l1), y8, y9, y10, y11, some (.ref ll), some (.ref ol), some (.ref wa), y15, y16, y17, y18, y19, y20, y21, y22, none, none, none, none] ∧ Same H11 H ∧ H wa = some (.dK (whKv os))) ?_ ?_
      · intro D' _ hI
        refine ⟨_, rfl, _, _, rfl, .inl ⟨_, SqL.of eol, (List.length_map _).symm⟩, (os.length : Nat), rfl, by omega, by omega, fun D hD => ?_⟩
        refine lc_data (walk_range (n := os.length)) (fun i y H => ∃ p f, y = .ref p ∧ os[i]? = some f ∧ SqT K H p [.int (f : Nat), .int (i : Nat)]) (fun i v H H2 si ⟨p, f, h1, h2, h3⟩ => ⟨p, f, h1, h2, si.tup h3⟩) hD (fun _ _ => True.intro) (by omega) ?_ ?_
        · rintro i v H12 H12' kk hi s12 ⟨rfl, hv⟩ hk
          obtain rfl : v = .int (i : Nat) := by
            rw [hv]
            show V.int ((0 : Int) + ((i : Nat) : Int)) = _
            rw [Int.zero_add]
          have hos : os[i]? = some os[i] := List.getElem?_eq_getElem hi
          refine ⟨rfl, _, rfl, _, rfl, _, _, _, _, rfl, rfl, SqL.of (s12 _ _ eol), atI_nat (j := i) (by rw [List.getElem?_map, hos]; rfl), _, rfl, by show 2 ≤ sizeLine; decide, fun t2 ht2 => ?_⟩
          exact hk _ _ (same_upd ht2) ⟨t2, os[i], rfl, hos, .inl (.inl upd_same)⟩
        · rintro H12 acc s12 e12 l12 hE
          obtain ⟨qs, rfl, hqs⟩ : ∃ qs : List Addr, acc = qs.map V.ref ∧ Paired (fun p (kv : Key × V) => SqT K H12 p [kV kv.1, kv.2]) qs (whKv os) := by
            refine refs_of (by unfold whKv; rw [List.length_map, List.length_range]; exact l12) fun i y hy => ?_
            obtain ⟨p, f, h1, h2, h3⟩ := hE i y hy
            refine ⟨p, ((.inl (f : Int) : Key), V.int (i : Nat)), h1, ?_, h3⟩
            unfold whKv
            rw [List.getElem?_map, List.getElem?_range (List.getElem?_eq_some_iff.mp h2).1]
            show some ((.inl ((os.getD i 0 : Nat) : Int) : Key), V.int (i : Nat)) = _
            rw [List.getD_eq_getElem?_getD, h2]
            rfl
          refine ⟨D, qs, whKv os, rfl, SqL.of e12, hqs, fun wa hwa => ?_⟩
          rw [show mergeK [] (whKv os) = whKv os from mergeK_nodup (whKv os) [] (whKv_nodup O.nodup)]
          exact hI _ _ ⟨wa, rfl, s12.trans (same_upd hwa), upd_same⟩
      rintro σ H12 ⟨wa, rfl, s12, ewa⟩
      -- other names
      refine seq_by (fun σ H => ∃ v15, σ = [some (.ref a), some (.ref st), some x2, some (.ref pa), some (.ref aa), some (.ref an), some ev1, some (.ref l1), y8, y9, y10, y11, some (.ref ll), some (.ref ol), some (.ref wa), some v15, y16, y17, y18, y19, y20, y21, y22, none, none, none, none] ∧ v15 = .str "abcdefghijklmnopqrstuvwxyz" ∧ H = H12) (fun D' _ hI => hI _ _ ⟨_, rfl, rfl, rfl⟩) ?_
      rintro σ H12' ⟨v15, rfl, hv15, rfl⟩
      refine seq_by (fun σ H => ∃ na, σ = [some (.ref a), some (.ref st), some x2, some (.ref pa), some (.ref aa), some (.ref an), some ev1, some (.ref l1), y8, y9, y10, y11, some (.ref ll), some (.ref ol), some (.ref wa), some v15, some (.ref na), y17, y18, y19, y20, y21, y22, none, none, none, none] ∧ Same H12' H ∧ H na = some (.dK nmKv)) ?_ ?_
      · intro D' _ hI
        refine ⟨_, rfl, "abcdefghijklmnopqrstuvwxyz", hv15, fun D hD => ?_⟩
        refine lc_data (walk_str (z := "abcdefghijklmnopqrstuvwxyz")) (fun i y H => ∃ p, y = .ref p ∧ i < 26 ∧ SqT K H p [.str (lt i), .str (rhoX (lt i))]) (fun i v H H2 si ⟨p, h1, h2, h3⟩ => ⟨p, h1, h2, si.tup h3⟩) hD (fun _ _ => True.intro) (by decide +kernel) ?_ ?_
        · rintro i v H13 H13' kk hi s13 ⟨rfl, c, hc, rfl⟩ hk
          have hi26 : i < 26 := by
            have : ("abcdefghijklmnopqrstuvwxyz" : Str).cps.size = 26 := by decide +kernel
            omega
          have hc2 : some c = some (97 + i) := by
            rw [← hc, ← Array.getElem?_toList]
            exact abc_at i hi26
          injection hc2 with hc2
          subst hc2
          refine ⟨rfl, _, rfl, _, rfl, _, _, rfl, rfl, by show ("x" : Str).length + (lt i).length ≤ sizeLine; rw [lt_len]; decide +kernel, by show 2 ≤ sizeLine; decide, fun t ht => ?_⟩
          exact hk _ _ (same_upd ht) ⟨t, rfl, hi26, .inl (.inl upd_same)⟩
        · rintro H13 acc s13 e13 l13 hE
          have l26 : acc.length = 26 := by
            rw [l13]
            decide +kernel
          obtain ⟨qs, rfl, hqs⟩ : ∃ qs : List Addr, acc = qs.map V.ref ∧ Paired (fun p (kv : Key × V) => SqT K H13 p [kV kv.1, kv.2]) qs nmKv := by
            refine refs_of (by rw [l26]; rfl) fun i y hy => ?_
            obtain ⟨p, h1, h2, h3⟩ := hE i y hy
            refine ⟨p, ((.inr (lt i) : Key), V.str (rhoX (lt i))), h1, ?_, h3⟩
            unfold nmKv
            rw [List.getElem?_map, List.getElem?_range h2]
            rfl
          refine ⟨D, qs, nmKv, rfl, SqL.of e13, hqs, fun na hna => ?_⟩
          rw [show mergeK [] nmKv = nmKv from mergeK_nodup nmKv [] nmKv_nodup]
          exact hI _ _ ⟨na, rfl, s13.trans (same_upd hna), upd_same⟩
      rintro σ H13 ⟨na, rfl, s13, ena⟩
      have s1113 := s12.trans s13
      have ewa := s13 _ _ ewa
      have hwh : ∀ (f : Nat), f < fs.length → valV (whKv os) (.inl (f : Int)) = some (.int (whO os fs.length f : Nat)) := fun f hf => O.wh rfl f hf
      generalize hw0 : whO os fs.length = wh at hwh
      -- the others
      refine seq_by (fun σ H => ∃ ot, σ = [some (.ref a), some (.ref st), some x2, some (.ref pa), some (.ref aa), some (.ref an), some ev1, some (.ref l1), y8, y9, y10, y11, some (.ref ll), some (.ref ol), some (.ref wa), some v15, some (.ref na), some (.ref ot), y18, y19, y20, y21, y22, none, none, none, none] ∧ Same H13 H ∧ H13 ot = none ∧ H ot = some (.lst [])) ?_ ?_
      · intro D' _ hI
        exact ⟨Nat.zero_le _, fun ot hot => hI _ _ ⟨ot, rfl, same_upd hot, hot, upd_same⟩⟩
      rintro σ H14 ⟨ot, rfl, s14, not, eot⟩
      refine seq_by (fun σ H => ∃ y18 y19 vs, σ = [some (.ref a), some (.ref st), some x2, some (.ref pa), some (.ref aa), some (.ref an), some ev1, some (.ref l1), y8, y9, y10, y11, some (.ref ll), some (.ref ol), some (.ref wa), some v15, some (.ref na), some (.ref ot), y18, y19, y20, y21, y22, none, none, none, none] ∧ Same H13 H ∧ H ot = some (.lst vs) ∧ Paired (FnAt K H) vs (gsO rhoX wh fs os)) ?_ ?_
      · intro D' _ hI
        have eol14 := s14 _ _ (s1113 _ _ eol)
        refine ⟨_, rfl, ol, rfl, ⟨_, SqL.of eol14⟩, for_it (walk_list (K := K) (a := ol) (xs := os.map natV)) (fun i σ H => ∃ y18 y19 vs, σ = [some (.ref a), some (.ref st), some x2, some (.ref pa), some (.ref aa), some (.ref an), some ev1, some (.ref l1), y8, y9, y10, y11, some (.ref ll), some (.ref ol), some (.ref wa), some v15, some (.ref na), some (.ref ot), y18, y19, y20, y21, y22, none, none, none, none] ∧ Same H13 H ∧ H ot = some (.lst vs) ∧ vs.length = i ∧ Paired (FnAt K H) vs (gsO rhoX wh fs (os.take i)))
          ⟨y18, y19, [], rfl, s14, eot, rfl, .nil⟩ (fun i σ H _ ⟨_, _, _, _, s, _⟩ => SqL.of (s _ _ (s1113 _ _ eol))) ?_ ?_⟩
        · intro i v σ H15p H15 hi hinv hyd
          obtain ⟨y18, y19, vs, rfl, s15, eot, lvs, hvs⟩ := hinv
          obtain ⟨rfl, hv⟩ := hyd
          rw [List.getElem?_map] at hv
          obtain ⟨f, hf, rfl⟩ := Option.map_eq_some_iff.mp hv
          have hfn : f < fs.length := (O.mem f).mp (List.mem_of_getElem? hf)
          obtain ⟨fn, hfn2⟩ : ∃ fn, fs[f]? = some fn := ⟨_, List.getElem?_eq_getElem hfn⟩
          obtain ⟨fv, hfv, hff⟩ := paired_get' hfs hfn2
          have s915 : SameX st H9 H15 := x11.trans (sameX_of (s1113.trans s15))
          obtain ⟨fa, fp, ftv, fqs, rfl, hft, hfp, hfps, hftr⟩ := hff.same (T9.dw.i s915)
          have hpa15 := (T9.dw.i s915).tup hpa
          obtain ⟨o1, o2, o3, o4, o5, o6⟩ := pg_fn ok hfn2
          obtain ⟨u1, u2⟩ := one fn (List.mem_of_getElem? hfn2)
          have lq : fqs.length = fn.ps.length := Paired.length hfps
          have ena15 := s15 _ _ ena
          have ewa15 := s15 _ _ ewa
          refine ⟨_, rfl, _, rfl, _, _, _, _, rfl, rfl, hpa15, atI_nat hfv, _, _, _, _, rfl, rfl, hft, atI_nat (j := 0) rfl, fp, rfl, ⟨_, hfp.sq⟩, fun D hD => ?_⟩
          refine lc_data (walk_tup (K := K) (a := fp) (xs := fqs.map V.ref)) (fun i y H => ∃ p pr, y = .ref p ∧ fn.ps[i]? = some pr ∧ PrAt K H p (rhoX pr.1, pr.2)) (fun i v H H2 si ⟨p, pr, h1, h2, h3⟩ => ⟨p, pr, h1, h2, h3.same si⟩) hD (fun H s => (hfp.same s).sq) (by rw [List.length_map]; omega) ?_ ?_
          · rintro j y H16 H16' kk hj s16 ⟨rfl, hy⟩ hk
            rw [List.getElem?_map] at hy
            obtain ⟨qa, hqa, rfl⟩ := Option.map_eq_some_iff.mp hy
            obtain ⟨pr, hpr, hat⟩ := paired_get hfps hqa
            refine ⟨qa, _, rfl, Same.tup s16 hat, rfl, _, _, rfl, _, _, rfl, rfl, rfl, _, rfl, _, rfl, na, _, rfl, dget_at (s16 _ _ ena15) (nmKv_get (o2 pr (List.mem_of_getElem? hpr)) (u1 pr (List.mem_of_getElem? hpr))), _, rfl, by show 2 ≤ sizeLine; decide, fun t2 ht2 => ?_⟩
            exact hk _ _ (same_upd ht2) ⟨t2, pr, rfl, hpr, .inl (.inl upd_same)⟩
          · rintro H16 acc s16 e16 l16 hE
            obtain ⟨qs, rfl, hqs⟩ : ∃ qs : List Addr, acc = qs.map V.ref ∧ Paired (PrAt K H16) qs (nmR rhoX fn.ps) := by
              refine refs_of (by unfold nmR; rw [l16, List.length_map, List.length_map]; exact lq) fun i y hy => ?_
              obtain ⟨p, pr, h1, h2, h3⟩ := hE i y hy
              refine ⟨p, (rhoX pr.1, pr.2), h1, ?_, h3⟩
              unfold nmR
              rw [List.getElem?_map, h2]
              rfl
            refine ⟨D, _, rfl, SqL.of e16, fun pp its hpp => ?_⟩
            have s17 := same_upd (o := .frz (tupObj its) (.tup (qs.map V.ref))) hpp
            have hpl17 : PlT (upd H16 pp (.frz (tupObj its) (.tup (qs.map V.ref)))) pp (qs.map V.ref) := PlT.new
            generalize upd H16 pp (.frz (tupObj its) (.tup (qs.map V.ref))) = H17 at s17 hpl17 ⊢
            have s1517 := s16.trans s17
            have i17 := sameI_of s1517
            have eot17 := s1517 _ _ eot
            refine ⟨_, rfl, .inl ⟨rfl, _, SqL.of eot17⟩, _, rfl, _, rfl, _, rfl, _, _, _, _, rfl, rfl, i17.tup hpa15, atI_nat hfv, _, _, _, _, rfl, rfl, i17.tup hft, atI_nat (j := 1) rfl, ?_⟩
            refine ⟨_, rfl, _, rfl, _, _, _, _, rfl, rfl, i17.tup hpa15, atI_nat hfv, _, _, _, _, rfl, rfl, i17.tup hft, atI_nat (j := 2) rfl, _, rfl, _, rfl, ?_⟩
            refine ⟨rhoX, wh, fs.length, ftv, wa, na, fn.tr.d, (fn.tr.ren rhoX wh).d, rfl, hftr.same i17, ?_, ⟨_, s1517 _ _ ewa15, hwh⟩, ⟨_, s1517 _ _ ena15, fun x h1 h2 => nmKv_get h1 h2⟩, fun H18 y s18 hy => ?_⟩
            · refine (led_tr (hs := fs.map Fn.hd) (by rw [List.length_map]; exact Nat.le_refl _) (fun x hx => ?_) (fun p hp => ⟨o2 p hp, u1 p hp⟩) o4 u2).up (by omega)
              obtain ⟨g, hg, rfl⟩ := List.mem_map.mp hx
              show (g.ps.map (·.2)).length ≤ _
              rw [List.length_map]
              exact Nat.le_trans (ok.2.2 g hg).1 (by decide)
            refine ⟨by show 3 ≤ sizeLine; decide, fun t3 ht3 => ?_⟩
            have s19 := same_upd (o := .tup [.ref pp, fn.kd.v, y]) ht3
            have e19 : upd H18 t3 (.tup [.ref pp, fn.kd.v, y]) t3 = some (.tup [.ref pp, fn.kd.v, y]) := upd_same
            generalize upd H18 t3 (.tup [.ref pp, fn.kd.v, y]) = H19 at s19 e19 ⊢
            have s1719 := s18.trans s19
            have s1519 := s1517.trans s1719
            have eot19 := s1519 _ _ eot
            have si : SameI H19 (upd H19 ot (.lst (vs ++ [.ref t3]))) := sameI_upd eot19 id
            have hlt : i < os.length := (List.getElem?_eq_some_iff.mp hf).1
            refine ⟨ot, _, _, rfl, rfl, eot19, smaller (by omega), _, _, vs ++ [.ref t3], rfl, same_old (s15.trans s1519) not, upd_same, by rw [List.length_append, lvs]; rfl, ?_⟩
            rw [show os.take (i + 1) = os.take i ++ [f] by rw [List.take_add_one, hf]; rfl, gsO_snoc hfn2]
            refine paired_append (Paired.mapP hvs fun _ _ q => q.same ((sameI_of s1519).trans si)) (.cons ?_ .nil)
            exact ⟨t3, pp, y, qs, rfl, si.tup (.inl (.inl e19)), ((sameI_of s1719).trans si).pl hpl17, Paired.mapP hqs fun _ _ q => q.same ((sameI_of (s17.trans s1719)).trans si), hy.same ((sameI_of s19).trans si)⟩
        · rintro σ H15 ⟨y18, y19, vs, rfl, s15, eot, lvs, hvs⟩
          rw [List.take_of_length_le (by rw [List.length_map]; exact Nat.le_refl _)] at hvs
          exact hI _ _ ⟨y18, y19, vs, rfl, s15, eot, hvs⟩
      clear eot
      rintro σ H15 ⟨y18, y19, vs, rfl, s15, eot, hvs⟩
      have hokg : okPg (gsO rhoX wh fs os) := by rw [← hw0]; exact O.okPg rfl ok one
      have hgs : ∀ f : Nat, (gsO rhoX wh fs os)[wh f]? = fs[f]?.map (Fn.ren rhoX wh) := by rw [← hw0]; exact O.gs rfl
      have hwh0 : wh 0 = 0 := by rw [← hw0]; exact O.wh0
      have hg0 : (gsO rhoX wh fs os)[0]? = some (f0.ren rhoX wh) := by
        have := hgs 0
        rw [hwh0, hf0] at this
        exact this
      generalize gsO rhoX wh fs os = gs at hvs hokg hgs hg0
      have s1115 := s1113.trans s15
      have T15 := T11.step nB (sameX_of s1115) (T11.dw.step s1115)
      have g15 := g11.step T11.dw (sameX_of s1115)
      have ewa15 := s15 _ _ ewa
      clear ewa
      -- what comes of the others
      refine seq_by (fun σ H => ∃ ev4 l4 m4, σ = [some (.ref a), some (.ref st), some x2, some (.ref pa), some (.ref aa), some (.ref an), some ev1, some (.ref l1), y8, y9, y10, y11, some (.ref ll), some (.ref ol), some (.ref wa), some v15, some (.ref na), some (.ref ot), y18, y19, some ev4, some (.ref l4), y22, none, none, none, none] ∧ Same H15 H ∧ Im K H ev4 (e1.ren wh).d ∧ (∃ cvs, H l4 = some (.lst cvs) ∧ ImAll K H cvs ((callsOf m4).map callD)) ∧ callsOf m4 = (callsOf m1).map (fun c => (wh c.1, c.2)) ∧ Pl 5 (resD (e1.ren wh) m4)) ?_ ?_
      · intro D' _ hI
        refine ⟨_, rfl, ot, _, rfl, SqL.of eot, fun pl its hpl => ?_⟩
        have s16 := same_upd (o := .frz (tupObj its) (.tup vs)) hpl
        have e16 : upd H15 pl (.frz (tupObj its) (.tup vs)) pl = some (.frz (tupObj its) (.tup vs)) := upd_same
        generalize upd H15 pl (.frz (tupObj its) (.tup vs)) = H16 at s16 e16 ⊢
        have T16 := T15.step nB (sameX_of s16) (T15.dw.step s16)
        have T16' : Turn K B H16 st (.ref pl) gs (f0.ren rhoX wh) aa an ws ans :=
          ⟨T16.dw, T16.sB, ⟨pl, vs, rfl, .inl (.inr ⟨_, e16⟩), Paired.mapP hvs fun _ _ q => q.same (sameI_of s16)⟩, hokg, hg0, T16.ane, T16.aat, hand_ren T16.hw, T16.nne, T16.nat, T16.nlen, T16.nok⟩
        refine ⟨_, rfl, _, rfl, rfl, rfl, T16'.run nB (most := 40) (by decide) (by decide) fun e4 m4 H17 u ev4 l4 s17 T17 g4 hu => ?_⟩
        obtain ⟨rfl, hcs⟩ := runs_named rho_inj hgs hwh0 g1.run g4.run
        obtain ⟨a4, b4, c4⟩ := g4.sml T17 (by decide) (by decide)
        exact ⟨u, _, rfl, hu, rfl, _, _, rfl, _, _, rfl, rfl, hI _ _ ⟨ev4, l4, m4, rfl, s16.trans s17, g4.ev, g4.at_, hcs, res_pl a4 b4 (by omega)⟩⟩
      rintro σ H16 ⟨ev4, l4, m4, rfl, s16, iv4, hc4, hcs, pl4⟩
      have ewa16 := s16 _ _ ewa15
      have g16 := g15.step T15.dw (sameX_of s16)
      -- what is due
      refine seq_by (fun σ H => ∃ v22, σ = [some (.ref a), some (.ref st), some x2, some (.ref pa), some (.ref aa), some (.ref an), some ev1, some (.ref l1), y8, y9, y10, y11, some (.ref ll), some (.ref ol), some (.ref wa), some v15, some (.ref na), some (.ref ot), y18, y19, some ev4, some (.ref l4), some v22, none, none, none, none] ∧ Same H16 H ∧ Im K H v22 (e1.ren wh).d) ?_ ?_
      · intro D' _ hI
        have hev := g16.ev
        clear hcs pl4 iv4
        cases e1 with
        | told w =>
          obtain ⟨va, xs, rfl, ht, hxs⟩ := im_tup hev
          obtain ⟨v0, r0, rfl, hv0, hr0⟩ := all_cons hxs
          obtain rfl := im_str hv0
          exact ⟨_, rfl, _, _, _, _, rfl, rfl, ht, atI_nat (j := 0) rfl, rfl, _, rfl, itn (by decide +kernel) ⟨_, rfl, hI _ _ ⟨_, rfl, Same.refl _, hev⟩⟩⟩
        | long =>
          obtain ⟨va, xs, rfl, ht, hxs⟩ := im_tup hev
          obtain ⟨v0, r0, rfl, hv0, hr0⟩ := all_cons hxs
          obtain rfl := im_str hv0
          exact ⟨_, rfl, _, _, _, _, rfl, rfl, ht, atI_nat (j := 0) rfl, rfl, _, rfl, itn (by decide +kernel) ⟨_, rfl, hI _ _ ⟨_, rfl, Same.refl _, hev⟩⟩⟩
        | fault x f p =>
          obtain ⟨va, xs, rfl, ht, hxs⟩ := im_tup hev
          obtain ⟨v0, r0, rfl, hv0, hr0⟩ := all_cons hxs
          obtain ⟨v1, r1, rfl, hv1, hr1⟩ := all_cons hr0
          obtain ⟨v2, r2, rfl, hv2, hr2⟩ := all_cons hr1
          obtain ⟨v3, r3, rfl, hv3, hr3⟩ := all_cons hr2
          cases hr3
          obtain rfl := im_str hv0
          obtain rfl := im_str hv1
          obtain rfl := im_int hv2
          obtain rfl := im_int hv3
          refine ⟨_, rfl, _, _, _, _, rfl, rfl, ht, atI_nat (j := 0) rfl, rfl, _, rfl, itd rfl ?_⟩
          refine ⟨_, rfl, 2, rfl, va, _, rfl, ht, (by show ¬ (HT.sIx 4 0 none = 0 ∧ HT.sIx 4 4 (some 2) = 4); decide +kernel), fun p1 hp1 => ?_⟩
          have s17 := same_upd (o := .tup [.str "fault", .str x]) hp1
          have e17 : upd H16 p1 (.tup [.str "fault", .str x]) p1 = some (.tup [.str "fault", .str x]) := upd_same
          rw [show cutV [.str "fault", .str x, .int (f : Nat), .int (p : Nat)] none (some 2) = [.str "fault", .str x] from rfl]
          generalize upd H16 p1 (.tup [.str "fault", .str x]) = H17 at s17 e17 ⊢
          refine ⟨_, rfl, _, rfl, _, _, _, _, rfl, rfl, Same.tup s17 ht, atI_nat (j := 2) rfl, wa, _, rfl, dget_in (s17 _ _ ewa16) (hwh f eo1.2), by show 1 ≤ sizeLine; decide, fun p2 hp2 => ?_⟩
          have s18 := same_upd (o := .tup [.int (wh f : Nat)]) hp2
          have e18 : upd H17 p2 (.tup [.int (wh f : Nat)]) p2 = some (.tup [.int (wh f : Nat)]) := upd_same
          generalize upd H17 p2 (.tup [.int (wh f : Nat)]) = H18 at s18 e18 ⊢
          refine ⟨p1, p2, _, _, rfl, rfl, .inl (.inl (s18 _ _ e17)), .inl (.inl e18), (fun z => nomatch z), by show 2 + 1 ≤ sizeLine; decide, (fun z => nomatch z), fun _ p3 hp3 => ?_⟩
          have s19 := same_upd (o := .tup ([.str "fault", .str x] ++ [.int (wh f : Nat)])) hp3
          have e19 : upd H18 p3 (.tup ([.str "fault", .str x] ++ [.int (wh f : Nat)])) p3 = some (.tup ([.str "fault", .str x] ++ [.int (wh f : Nat)])) := upd_same
          generalize upd H18 p3 (.tup ([.str "fault", .str x] ++ [.int (wh f : Nat)])) = H19 at s19 e19 ⊢
          have s1619 := s17.trans (s18.trans s19)
          refine ⟨_, rfl, 3, rfl, va, _, rfl, Same.tup s1619 ht, (by show ¬ (HT.sIx 4 0 (some 3) = 0 ∧ HT.sIx 4 4 none = 4); decide +kernel), fun p4 hp4 => ?_⟩
          rw [show cutV [.str "fault", .str x, .int (f : Nat), .int (p : Nat)] (some 3) none = [.int (p : Nat)] from rfl]
          have s20 := same_upd (o := .tup [.int (p : Nat)]) hp4
          have e20 : upd H19 p4 (.tup [.int (p : Nat)]) p4 = some (.tup [.int (p : Nat)]) := upd_same
          generalize upd H19 p4 (.tup [.int (p : Nat)]) = H20 at s20 e20 ⊢
          refine ⟨p3, p4, _, _, rfl, rfl, .inl (.inl (s20 _ _ e19)), .inl (.inl e20), (fun z => nomatch z), by show 3 + 1 ≤ sizeLine; decide, (fun z => nomatch z), fun _ p5 hp5 => ?_⟩
          refine hI _ _ ⟨_, rfl, s1619.trans (s20.trans (same_upd hp5)), .tup (.inl (.inl upd_same)) (.cons (.str _) (.cons (.str _) (.cons (.int _) (.cons (.int _) .nil))))⟩
      rintro σ H17 ⟨v22, rfl, s17, iv22⟩
      -- the same
      have g17 := g16.step (T15.dw.step s16) (sameX_of s17)
      have ewa17 := s17 _ _ ewa16
      have dw17 : Dw K B H17 st := (T15.dw.step s16).step s17
      refine ⟨_, rfl, _, rfl, by show 2 ≤ sizeLine; decide, fun ta hta => ?_⟩
      have s18 := same_upd (o := .tup [ev4, .ref l4]) hta
      have e18 : upd H17 ta (.tup [ev4, .ref l4]) ta = some (.tup [ev4, .ref l4]) := upd_same
      generalize upd H17 ta (.tup [ev4, .ref l4]) = H18 at s18 e18 ⊢
      obtain ⟨cvs, ec, hcv⟩ := g17.at_
      have lcv : cvs.length = (callsOf m1).length := by rw [ImAll.length hcv, List.length_map]
      have lc1 := calls_len m1
      refine ⟨_, rfl, _, rfl, l1, rfl, ⟨_, SqL.of (s18 _ _ ec)⟩, fun D hD => ?_⟩
      refine lc_data (walk_list (K := K) (a := l1) (xs := cvs)) (fun i y H => ∃ c, (callsOf m1)[i]? = some c ∧ Im K H y (callD (wh c.1, c.2))) (fun i v H H2 si ⟨c, h1, h2⟩ => ⟨c, h1, h2.same si⟩) hD (fun H s => SqL.of (s _ _ (s18 _ _ ec))) (by omega) ?_ ?_
      · rintro i y H19 H19' kk hi s19 ⟨rfl, hy⟩ hk
        obtain ⟨cd, hcd, hyc⟩ := ImAll.get hcv hy
        rw [List.getElem?_map] at hcd
        obtain ⟨c, hc, rfl⟩ := Option.map_eq_some_iff.mp hcd
        have hc1 := (calls_ok sm1 c (List.mem_of_getElem? hc)).1
        have s1719 := s18.trans s19
        obtain ⟨va, xs, rfl, ht, hxs⟩ := im_tup (hyc.same (sameI_of s1719))
        obtain ⟨v0, r0, rfl, hv0, hr0⟩ := all_cons hxs
        obtain ⟨v1, r1, rfl, hv1, hr1⟩ := all_cons hr0
        obtain ⟨v2, r2, rfl, hv2, hr2⟩ := all_cons hr1
        cases hr2
        obtain rfl := im_int hv0
        refine ⟨rfl, _, rfl, _, rfl, _, _, _, _, rfl, rfl, ht, atI_nat (j := 0) rfl, wa, _, rfl, dget_in (s1719 _ _ ewa17) (hwh c.1 hc1), by show 1 ≤ sizeLine; decide, fun p1 hp1 => ?_⟩
        have s20 := same_upd (o := .tup [.int (wh c.1 : Nat)]) hp1
        have e20 : upd H19' p1 (.tup [.int (wh c.1 : Nat)]) p1 = some (.tup [.int (wh c.1 : Nat)]) := upd_same
        generalize upd H19' p1 (.tup [.int (wh c.1 : Nat)]) = H20 at s20 e20 ⊢
        refine ⟨_, rfl, 1, rfl, va, _, rfl, Same.tup s20 ht, (by show ¬ (HT.sIx 3 0 (some 1) = 0 ∧ HT.sIx 3 3 none = 3); decide +kernel), fun p2 hp2 => ?_⟩
        rw [show cutV [.int (c.1 : Nat), v1, v2] (some 1) none = [v1, v2] from rfl]
        have s21 := same_upd (o := .tup [v1, v2]) hp2
        have e21 : upd H20 p2 (.tup [v1, v2]) p2 = some (.tup [v1, v2]) := upd_same
        generalize upd H20 p2 (.tup [v1, v2]) = H21 at s21 e21 ⊢
        refine ⟨p1, p2, _, _, rfl, rfl, .inl (.inl (s21 _ _ e20)), .inl (.inl e21), (fun z => nomatch z), by show 1 + 2 ≤ sizeLine; decide, (fun z => nomatch z), fun _ p3 hp3 => ?_⟩
        have s22 := same_upd (o := .tup ([.int (wh c.1 : Nat)] ++ [v1, v2])) hp3
        have s1922 := s20.trans (s21.trans s22)
        exact hk _ _ s1922 ⟨c, hc, .tup (.inl (.inl upd_same)) (.cons (.int _) (.cons (hv1.same (sameI_of s1922)) (.cons (hv2.same (sameI_of s1922)) .nil)))⟩
      · rintro H19 acc s19 e19 l19 hE
        have hal : ImAll K H19 acc ((callsOf m4).map callD) := by
          refine ImAll.of (by rw [hcs, l19, lcv, List.length_map, List.length_map]) fun i x d h1 h2 => ?_
          obtain ⟨c, h3, h4⟩ := hE i x h1
          rw [hcs, List.getElem?_map, List.getElem?_map, h3] at h2
          cases h2
          exact h4
        refine ⟨by show 2 ≤ sizeLine; decide, fun tb htb => ?_⟩
        have s20 := same_upd (o := .tup [v22, .ref D]) htb
        have e20 : upd H19 tb (.tup [v22, .ref D]) tb = some (.tup [v22, .ref D]) := upd_same
        generalize upd H19 tb (.tup [v22, .ref D]) = H20 at s20 e20 ⊢
        have s1820 := s19.trans s20
        have s1720 := s18.trans s1820
        obtain ⟨cvs4, ec4, hcv4⟩ := hc4
        refine ⟨.ref ta, .ref tb, resD (e1.ren wh) m4, rfl, ?_, ?_, pl4.sized, fun H21 s21 => ⟨_, rfl, iteF ?_⟩⟩
        · have s1620 := s17.trans s1720
          exact .tup (.inl (.inl (s1820 _ _ e18))) (.cons (iv4.same (sameI_of s1620)).dp (.cons (.lst (SqL.of (s1620 _ _ ec4)) (hcv4.same (sameI_of s1620)).dp) .nil))
        · exact .tup (.inl (.inl e20)) (.cons (iv22.same (sameI_of s1720)).dp (.cons (.lst (SqL.of (s20 _ _ e19)) (hal.same (sameI_of s20)).dp) .nil))
        · have s1721 := s1720.trans s21
          exact ⟨_, _, _, _, _, _, _, _, _, _, _, _, _, _, _, _, _, _, _, _, _, rfl, T15.sB.trans (s16.trans (s17.trans s1721)), dw17.step s1721⟩
    · rintro σ H2 ⟨y2, y3, y4, y5, y6, y7, y8, y9, y10, y11, y12, y13, y14, y15, y16, y17, y18, y19, y20, y21, y22, rfl, s2, dw2⟩
      exact q _
end
end Cs
namespace Cs
open PySem PySem.Spec PyProof.Rows L2
set_option maxHeartbeats 0 in
theorem all_mk {l : PySem.W.OpenLaw} {w : World} {K : PySem.W.Frag} {h : Heap} {mg : Str → Option Value} {fa : Addr} (X : K.In h) (G : h.Ns mainGlobals mg) (hfa : mg "law" = some (.ref fa))
    {C_Call : Addr}
    {C_Run : Addr}
    {f_w_start : Addr} {oc_w_start dc_w_start pm_w_start cd_w_start ct_w_start kV_w_start : Value} {od_w_start an_w_start : Option Addr} {sl_w_start : Array (Option Value)}
    {f_w_drawn : Addr} {oc_w_drawn dc_w_drawn pm_w_drawn cd_w_drawn ct_w_drawn kV_w_drawn : Value} {od_w_drawn an_w_drawn : Option Addr} {sl_w_drawn : Array (Option Value)}
    {f_w_of : Addr} {oc_w_of dc_w_of pm_w_of cd_w_of ct_w_of kV_w_of : Value} {od_w_of an_w_of : Option Addr} {sl_w_of : Array (Option Value)}
    {f_w_measure : Addr} {oc_w_measure dc_w_measure pm_w_measure cd_w_measure ct_w_measure kV_w_measure : Value} {od_w_measure an_w_measure : Option Addr} {sl_w_measure : Array (Option Value)}
    {f_w_deed : Addr} {oc_w_deed dc_w_deed pm_w_deed cd_w_deed ct_w_deed kV_w_deed : Value} {od_w_deed an_w_deed : Option Addr} {sl_w_deed : Array (Option Value)}
    {f_w_tree : Addr} {oc_w_tree dc_w_tree pm_w_tree cd_w_tree ct_w_tree kV_w_tree : Value} {od_w_tree an_w_tree : Option Addr} {sl_w_tree : Array (Option Value)}
    {f_w_program : Addr} {oc_w_program dc_w_program pm_w_program cd_w_program ct_w_program kV_w_program : Value} {od_w_program an_w_program : Option Addr} {sl_w_program : Array (Option Value)}
    {f_w_args : Addr} {oc_w_args dc_w_args pm_w_args cd_w_args ct_w_args kV_w_args : Value} {od_w_args an_w_args : Option Addr} {sl_w_args : Array (Option Value)}
    {f_w_answers : Addr} {oc_w_answers dc_w_answers pm_w_answers cd_w_answers ct_w_answers kV_w_answers : Value} {od_w_answers an_w_answers : Option Addr} {sl_w_answers : Array (Option Value)}
    {f_w_loops : Addr} {oc_w_loops dc_w_loops pm_w_loops cd_w_loops ct_w_loops kV_w_loops : Value} {od_w_loops an_w_loops : Option Addr} {sl_w_loops : Array (Option Value)}
    {f_w_same : Addr} {oc_w_same dc_w_same pm_w_same cd_w_same ct_w_same kV_w_same : Value} {od_w_same an_w_same : Option Addr} {sl_w_same : Array (Option Value)}
    {f_has_word : Addr} {oc_has_word dc_has_word pm_has_word cd_has_word ct_has_word kV_has_word : Value} {od_has_word an_has_word : Option Addr} {sl_has_word : Array (Option Value)}
    {f_is_row : Addr} {oc_is_row dc_is_row pm_is_row cd_is_row ct_is_row kV_is_row : Value} {od_is_row an_is_row : Option Addr} {sl_is_row : Array (Option Value)}
    {f_is_whole : Addr} {oc_is_whole dc_is_whole pm_is_whole cd_is_whole ct_is_whole kV_is_whole : Value} {od_is_whole an_is_whole : Option Addr} {sl_is_whole : Array (Option Value)}
    {f_is_between : Addr} {oc_is_between dc_is_between pm_is_between cd_is_between ct_is_between kV_is_between : Value} {od_is_between an_is_between : Option Addr} {sl_is_between : Array (Option Value)}
    {f_is_near : Addr} {oc_is_near dc_is_near pm_is_near cd_is_near ct_is_near kV_is_near : Value} {od_is_near an_is_near : Option Addr} {sl_is_near : Array (Option Value)}
    {f_stands : Addr} {oc_stands dc_stands pm_stands cd_stands ct_stands kV_stands : Value} {od_stands an_stands : Option Addr} {sl_stands : Array (Option Value)}
    {f_all_fit : Addr} {oc_all_fit dc_all_fit pm_all_fit cd_all_fit ct_all_fit kV_all_fit : Value} {od_all_fit an_all_fit : Option Addr} {sl_all_fit : Array (Option Value)}
    {f_kinds_ahead : Addr} {oc_kinds_ahead dc_kinds_ahead pm_kinds_ahead cd_kinds_ahead ct_kinds_ahead kV_kinds_ahead : Value} {od_kinds_ahead an_kinds_ahead : Option Addr} {sl_kinds_ahead : Array (Option Value)}
    {f_call_kind : Addr} {oc_call_kind dc_call_kind pm_call_kind cd_call_kind ct_call_kind kV_call_kind : Value} {od_call_kind an_call_kind : Option Addr} {sl_call_kind : Array (Option Value)}
    {f_deed_kind : Addr} {oc_deed_kind dc_deed_kind pm_deed_kind cd_deed_kind ct_deed_kind kV_deed_kind : Value} {od_deed_kind an_deed_kind : Option Addr} {sl_deed_kind : Array (Option Value)}
    {f_is_name : Addr} {oc_is_name dc_is_name pm_is_name cd_is_name ct_is_name kV_is_name : Value} {od_is_name an_is_name : Option Addr} {sl_is_name : Array (Option Value)}
    {f_within_let : Addr} {oc_within_let dc_within_let pm_within_let cd_within_let ct_within_let kV_within_let : Value} {od_within_let an_within_let : Option Addr} {sl_within_let : Array (Option Value)}
    {f_is_measure : Addr} {oc_is_measure dc_is_measure pm_is_measure cd_is_measure ct_is_measure kV_is_measure : Value} {od_is_measure an_is_measure : Option Addr} {sl_is_measure : Array (Option Value)}
    {f_is_compared : Addr} {oc_is_compared dc_is_compared pm_is_compared cd_is_compared ct_is_compared kV_is_compared : Value} {od_is_compared an_is_compared : Option Addr} {sl_is_compared : Array (Option Value)}
    {f_trees_within : Addr} {oc_trees_within dc_trees_within pm_trees_within cd_trees_within ct_trees_within kV_trees_within : Value} {od_trees_within an_trees_within : Option Addr} {sl_trees_within : Array (Option Value)}
    {f_check_trees : Addr} {oc_check_trees dc_check_trees pm_check_trees cd_check_trees ct_check_trees kV_check_trees : Value} {od_check_trees an_check_trees : Option Addr} {sl_check_trees : Array (Option Value)}
    {f_is_param : Addr} {oc_is_param dc_is_param pm_is_param cd_is_param ct_is_param kV_is_param : Value} {od_is_param an_is_param : Option Addr} {sl_is_param : Array (Option Value)}
    {f_is_headed : Addr} {oc_is_headed dc_is_headed pm_is_headed cd_is_headed ct_is_headed kV_is_headed : Value} {od_is_headed an_is_headed : Option Addr} {sl_is_headed : Array (Option Value)}
    {f_check_program : Addr} {oc_check_program dc_check_program pm_check_program cd_check_program ct_check_program kV_check_program : Value} {od_check_program an_check_program : Option Addr} {sl_check_program : Array (Option Value)}
    {f_is_handed_number : Addr} {oc_is_handed_number dc_is_handed_number pm_is_handed_number cd_is_handed_number ct_is_handed_number kV_is_handed_number : Value} {od_is_handed_number an_is_handed_number : Option Addr} {sl_is_handed_number : Array (Option Value)}
    {f_can_be_handed : Addr} {oc_can_be_handed dc_can_be_handed pm_can_be_handed cd_can_be_handed ct_can_be_handed kV_can_be_handed : Value} {od_can_be_handed an_can_be_handed : Option Addr} {sl_can_be_handed : Array (Option Value)}
    {f_check_args : Addr} {oc_check_args dc_check_args pm_check_args cd_check_args ct_check_args kV_check_args : Value} {od_check_args an_check_args : Option Addr} {sl_check_args : Array (Option Value)}
    {f_check_answers : Addr} {oc_check_answers dc_check_answers pm_check_answers cd_check_answers ct_check_answers kV_check_answers : Value} {od_check_answers an_check_answers : Option Addr} {sl_check_answers : Array (Option Value)}
    {f_numbered : Addr} {oc_numbered dc_numbered pm_numbered cd_numbered ct_numbered kV_numbered : Value} {od_numbered an_numbered : Option Addr} {sl_numbered : Array (Option Value)}
    {f_Run_init : Addr} {oc_Run_init dc_Run_init pm_Run_init cd_Run_init ct_Run_init kV_Run_init : Value} {od_Run_init an_Run_init : Option Addr} {sl_Run_init : Array (Option Value)}
    {f_Call_init : Addr} {oc_Call_init dc_Call_init pm_Call_init cd_Call_init ct_Call_init kV_Call_init : Value} {od_Call_init an_Call_init : Option Addr} {sl_Call_init : Array (Option Value)}
    {f_Run_begin : Addr} {oc_Run_begin dc_Run_begin pm_Run_begin cd_Run_begin ct_Run_begin kV_Run_begin : Value} {od_Run_begin an_Run_begin : Option Addr} {sl_Run_begin : Array (Option Value)}
    {f_measured : Addr} {oc_measured dc_measured pm_measured cd_measured ct_measured kV_measured : Value} {od_measured an_measured : Option Addr} {sl_measured : Array (Option Value)}
    {f_is_so : Addr} {oc_is_so dc_is_so pm_is_so cd_is_so ct_is_so kV_is_so : Value} {od_is_so an_is_so : Option Addr} {sl_is_so : Array (Option Value)}
    {f_Run_bind : Addr} {oc_Run_bind dc_Run_bind pm_Run_bind cd_Run_bind ct_Run_bind kV_Run_bind : Value} {od_Run_bind an_Run_bind : Option Addr} {sl_Run_bind : Array (Option Value)}
    {f_Run_tell : Addr} {oc_Run_tell dc_Run_tell pm_Run_tell cd_Run_tell ct_Run_tell kV_Run_tell : Value} {od_Run_tell an_Run_tell : Option Addr} {sl_Run_tell : Array (Option Value)}
    {f_fault_of : Addr} {oc_fault_of dc_fault_of pm_fault_of cd_fault_of ct_fault_of kV_fault_of : Value} {od_fault_of an_fault_of : Option Addr} {sl_fault_of : Array (Option Value)}
    {f_Run_let_call : Addr} {oc_Run_let_call dc_Run_let_call pm_Run_let_call cd_Run_let_call ct_Run_let_call kV_Run_let_call : Value} {od_Run_let_call an_Run_let_call : Option Addr} {sl_Run_let_call : Array (Option Value)}
    {f_worth_of : Addr} {oc_worth_of dc_worth_of pm_worth_of cd_worth_of ct_worth_of kV_worth_of : Value} {od_worth_of an_worth_of : Option Addr} {sl_worth_of : Array (Option Value)}
    {f_Run_next_answer : Addr} {oc_Run_next_answer dc_Run_next_answer pm_Run_next_answer cd_Run_next_answer ct_Run_next_answer kV_Run_next_answer : Value} {od_Run_next_answer an_Run_next_answer : Option Addr} {sl_Run_next_answer : Array (Option Value)}
    {f_Run_let : Addr} {oc_Run_let dc_Run_let pm_Run_let cd_Run_let ct_Run_let kV_Run_let : Value} {od_Run_let an_Run_let : Option Addr} {sl_Run_let : Array (Option Value)}
    {f_Run_step : Addr} {oc_Run_step dc_Run_step pm_Run_step cd_Run_step ct_Run_step kV_Run_step : Value} {od_Run_step an_Run_step : Option Addr} {sl_Run_step : Array (Option Value)}
    {f_Run_go : Addr} {oc_Run_go dc_Run_go pm_Run_go cd_Run_go ct_Run_go kV_Run_go : Value} {od_Run_go an_Run_go : Option Addr} {sl_Run_go : Array (Option Value)}
    {f_Run_told_calls : Addr} {oc_Run_told_calls dc_Run_told_calls pm_Run_told_calls cd_Run_told_calls ct_Run_told_calls kV_Run_told_calls : Value} {od_Run_told_calls an_Run_told_calls : Option Addr} {sl_Run_told_calls : Array (Option Value)}
    {f_run : Addr} {oc_run dc_run pm_run cd_run ct_run : Value} {od_run an_run : Option Addr} {sl_run : Array (Option Value)}
    {D_run : Addr}
    {kd_run_most : Tok}
    {f_w_led : Addr} {oc_w_led dc_w_led pm_w_led cd_w_led ct_w_led kV_w_led : Value} {od_w_led an_w_led : Option Addr} {sl_w_led : Array (Option Value)}
    {f_law : Addr} {oc_law dc_law pm_law cd_law ct_law kV_law : Value} {od_law an_law : Option Addr} {sl_law : Array (Option Value)}
    {x_DEEDS : Addr} {e_DEEDS : Array DictEntry} {n_DEEDS : Nat}
    {x_DEEDS_num : Addr} {d_DEEDS_num : Option Addr} {i_DEEDS_num : Array Value} {n_DEEDS_num : Nat} {o_DEEDS_num : Array (Option Value)}
    {x_DEEDS_num_0 : Addr} {d_DEEDS_num_0 : Option Addr} {i_DEEDS_num_0 : Array Value} {n_DEEDS_num_0 : Nat} {o_DEEDS_num_0 : Array (Option Value)}
    {x_DEEDS_sum : Addr} {d_DEEDS_sum : Option Addr} {i_DEEDS_sum : Array Value} {n_DEEDS_sum : Nat} {o_DEEDS_sum : Array (Option Value)}
    {x_DEEDS_sum_0 : Addr} {d_DEEDS_sum_0 : Option Addr} {i_DEEDS_sum_0 : Array Value} {n_DEEDS_sum_0 : Nat} {o_DEEDS_sum_0 : Array (Option Value)}
    {x_DEEDS_len : Addr} {d_DEEDS_len : Option Addr} {i_DEEDS_len : Array Value} {n_DEEDS_len : Nat} {o_DEEDS_len : Array (Option Value)}
    {x_DEEDS_len_0 : Addr} {d_DEEDS_len_0 : Option Addr} {i_DEEDS_len_0 : Array Value} {n_DEEDS_len_0 : Nat} {o_DEEDS_len_0 : Array (Option Value)}
    {x_DEEDS_nil : Addr} {d_DEEDS_nil : Option Addr} {i_DEEDS_nil : Array Value} {n_DEEDS_nil : Nat} {o_DEEDS_nil : Array (Option Value)}
    {x_DEEDS_nil_0 : Addr} {d_DEEDS_nil_0 : Option Addr} {i_DEEDS_nil_0 : Array Value} {n_DEEDS_nil_0 : Nat} {o_DEEDS_nil_0 : Array (Option Value)}
    {x_DEEDS_put : Addr} {d_DEEDS_put : Option Addr} {i_DEEDS_put : Array Value} {n_DEEDS_put : Nat} {o_DEEDS_put : Array (Option Value)}
    {x_DEEDS_put_0 : Addr} {d_DEEDS_put_0 : Option Addr} {i_DEEDS_put_0 : Array Value} {n_DEEDS_put_0 : Nat} {o_DEEDS_put_0 : Array (Option Value)}
    {x_DEEDS_head : Addr} {d_DEEDS_head : Option Addr} {i_DEEDS_head : Array Value} {n_DEEDS_head : Nat} {o_DEEDS_head : Array (Option Value)}
    {x_DEEDS_head_0 : Addr} {d_DEEDS_head_0 : Option Addr} {i_DEEDS_head_0 : Array Value} {n_DEEDS_head_0 : Nat} {o_DEEDS_head_0 : Array (Option Value)}
    {x_DEEDS_tail : Addr} {d_DEEDS_tail : Option Addr} {i_DEEDS_tail : Array Value} {n_DEEDS_tail : Nat} {o_DEEDS_tail : Array (Option Value)}
    {x_DEEDS_tail_0 : Addr} {d_DEEDS_tail_0 : Option Addr} {i_DEEDS_tail_0 : Array Value} {n_DEEDS_tail_0 : Nat} {o_DEEDS_tail_0 : Array (Option Value)}
    {x_DEEDS_at : Addr} {d_DEEDS_at : Option Addr} {i_DEEDS_at : Array Value} {n_DEEDS_at : Nat} {o_DEEDS_at : Array (Option Value)}
    {x_DEEDS_at_0 : Addr} {d_DEEDS_at_0 : Option Addr} {i_DEEDS_at_0 : Array Value} {n_DEEDS_at_0 : Nat} {o_DEEDS_at_0 : Array (Option Value)}
    {x_DEEDS_ask : Addr} {d_DEEDS_ask : Option Addr} {i_DEEDS_ask : Array Value} {n_DEEDS_ask : Nat} {o_DEEDS_ask : Array (Option Value)}
    {x_DEEDS_ask_0 : Addr} {d_DEEDS_ask_0 : Option Addr} {i_DEEDS_ask_0 : Array Value} {n_DEEDS_ask_0 : Nat} {o_DEEDS_ask_0 : Array (Option Value)}
    {k_FARTHEST : Tok}
    {k_FARTHEST_HANDED : Tok}
    {k_HIGHEST_MOST : Tok}
    {x_KINDS : Addr} {d_KINDS : Option Addr} {i_KINDS : Array Value} {n_KINDS : Nat} {o_KINDS : Array (Option Value)}
    {x_MEASURES : Addr} {e_MEASURES : Array DictEntry} {n_MEASURES : Nat}
    {k_MEASURES_of : Tok}
    {k_MEASURES_len : Tok}
    {k_MOST_DEPTH : Tok}
    {k_MOST_FUNCTIONS : Tok}
    {k_MOST_ITEMS : Tok}
    {k_MOST_PARAMS : Tok}
    {k_MOST_SIGNS : Tok}
    {k_MOST_TREES : Tok}
    {x_TREES : Addr} {e_TREES : Array DictEntry} {n_TREES : Nat}
    {k_TREES_let : Tok}
    {k_TREES_if : Tok}
    {k_TREES_claim : Tok}
    {k_TREES_tell : Tok}
    (aC_Call : PySem.W.nsIn K mainGlobals "Call" = some (some (.ref C_Call)))
    (pg_Call : PySem.W.plainGet K C_Call Str.empty = true)
    (hd_Call : PySem.W.hasDictIn K C_Call = true)
    (po_Call : PySem.W.plainOver K C_Call = true)
    (sa_Call : PySem.W.findIn K (.ref C_Call) "__setattr__" = some (some (.builtin "object.__setattr__")))
    (mk_Call : PySem.W.makesIn K C_Call = true)
    (kc_Call : PySem.W.keepIn K (.ref C_Call) = true)
    (na_Call_row : PySem.W.findIn K (.ref C_Call) "row" = some none)
    (na_Call_function : PySem.W.findIn K (.ref C_Call) "function" = some none)
    (na_Call_place : PySem.W.findIn K (.ref C_Call) "place" = some none)
    (na_Call_worths : PySem.W.findIn K (.ref C_Call) "worths" = some none)
    (aC_Run : PySem.W.nsIn K mainGlobals "Run" = some (some (.ref C_Run)))
    (pg_Run : PySem.W.plainGet K C_Run Str.empty = true)
    (hd_Run : PySem.W.hasDictIn K C_Run = true)
    (po_Run : PySem.W.plainOver K C_Run = true)
    (sa_Run : PySem.W.findIn K (.ref C_Run) "__setattr__" = some (some (.builtin "object.__setattr__")))
    (mk_Run : PySem.W.makesIn K C_Run = true)
    (kc_Run : PySem.W.keepIn K (.ref C_Run) = true)
    (na_Run_names : PySem.W.findIn K (.ref C_Run) "names" = some none)
    (na_Run_trees : PySem.W.findIn K (.ref C_Run) "trees" = some none)
    (na_Run_answers : PySem.W.findIn K (.ref C_Run) "answers" = some none)
    (na_Run_asked : PySem.W.findIn K (.ref C_Run) "asked" = some none)
    (na_Run_most : PySem.W.findIn K (.ref C_Run) "most" = some none)
    (na_Run_begun : PySem.W.findIn K (.ref C_Run) "begun" = some none)
    (na_Run_told : PySem.W.findIn K (.ref C_Run) "told" = some none)
    (na_Run_open_calls : PySem.W.findIn K (.ref C_Run) "open_calls" = some none)
    (a_w_start : PySem.W.nsIn K mainGlobals "_law_start" = some (some (.ref f_w_start)))
    (l_w_start : K.lookup f_w_start = some ⟨oc_w_start, od_w_start, .func (PySem.W.fnOf "_law_start" "_law_start" (defArgs s_w_start) (defBody s_w_start) (defScope s_w_start) .none kV_w_start dc_w_start pm_w_start an_w_start cd_w_start ct_w_start), sl_w_start⟩)
    (c_w_start : PySem.W.codeIn K cd_w_start "_law_start" = true)
    (k_w_start : PySem.W.keepIn K (.ref f_w_start) = true)
    (a_w_drawn : PySem.W.nsIn K mainGlobals "_law_drawn" = some (some (.ref f_w_drawn)))
    (l_w_drawn : K.lookup f_w_drawn = some ⟨oc_w_drawn, od_w_drawn, .func (PySem.W.fnOf "_law_drawn" "_law_drawn" (defArgs s_w_drawn) (defBody s_w_drawn) (defScope s_w_drawn) .none kV_w_drawn dc_w_drawn pm_w_drawn an_w_drawn cd_w_drawn ct_w_drawn), sl_w_drawn⟩)
    (c_w_drawn : PySem.W.codeIn K cd_w_drawn "_law_drawn" = true)
    (k_w_drawn : PySem.W.keepIn K (.ref f_w_drawn) = true)
    (a_w_of : PySem.W.nsIn K mainGlobals "_law_of" = some (some (.ref f_w_of)))
    (l_w_of : K.lookup f_w_of = some ⟨oc_w_of, od_w_of, .func (PySem.W.fnOf "_law_of" "_law_of" (defArgs s_w_of) (defBody s_w_of) (defScope s_w_of) .none kV_w_of dc_w_of pm_w_of an_w_of cd_w_of ct_w_of), sl_w_of⟩)
    (c_w_of : PySem.W.codeIn K cd_w_of "_law_of" = true)
    (k_w_of : PySem.W.keepIn K (.ref f_w_of) = true)
    (a_w_measure : PySem.W.nsIn K mainGlobals "_law_measure" = some (some (.ref f_w_measure)))
    (l_w_measure : K.lookup f_w_measure = some ⟨oc_w_measure, od_w_measure, .func (PySem.W.fnOf "_law_measure" "_law_measure" (defArgs s_w_measure) (defBody s_w_measure) (defScope s_w_measure) .none kV_w_measure dc_w_measure pm_w_measure an_w_measure cd_w_measure ct_w_measure), sl_w_measure⟩)
    (c_w_measure : PySem.W.codeIn K cd_w_measure "_law_measure" = true)
    (k_w_measure : PySem.W.keepIn K (.ref f_w_measure) = true)
    (a_w_deed : PySem.W.nsIn K mainGlobals "_law_deed" = some (some (.ref f_w_deed)))
    (l_w_deed : K.lookup f_w_deed = some ⟨oc_w_deed, od_w_deed, .func (PySem.W.fnOf "_law_deed" "_law_deed" (defArgs s_w_deed) (defBody s_w_deed) (defScope s_w_deed) .none kV_w_deed dc_w_deed pm_w_deed an_w_deed cd_w_deed ct_w_deed), sl_w_deed⟩)
    (c_w_deed : PySem.W.codeIn K cd_w_deed "_law_deed" = true)
    (k_w_deed : PySem.W.keepIn K (.ref f_w_deed) = true)
    (a_w_tree : PySem.W.nsIn K mainGlobals "_law_tree" = some (some (.ref f_w_tree)))
    (l_w_tree : K.lookup f_w_tree = some ⟨oc_w_tree, od_w_tree, .func (PySem.W.fnOf "_law_tree" "_law_tree" (defArgs s_w_tree) (defBody s_w_tree) (defScope s_w_tree) .none kV_w_tree dc_w_tree pm_w_tree an_w_tree cd_w_tree ct_w_tree), sl_w_tree⟩)
    (c_w_tree : PySem.W.codeIn K cd_w_tree "_law_tree" = true)
    (k_w_tree : PySem.W.keepIn K (.ref f_w_tree) = true)
    (a_w_program : PySem.W.nsIn K mainGlobals "_law_program" = some (some (.ref f_w_program)))
    (l_w_program : K.lookup f_w_program = some ⟨oc_w_program, od_w_program, .func (PySem.W.fnOf "_law_program" "_law_program" (defArgs s_w_program) (defBody s_w_program) (defScope s_w_program) .none kV_w_program dc_w_program pm_w_program an_w_program cd_w_program ct_w_program), sl_w_program⟩)
    (c_w_program : PySem.W.codeIn K cd_w_program "_law_program" = true)
    (k_w_program : PySem.W.keepIn K (.ref f_w_program) = true)
    (a_w_args : PySem.W.nsIn K mainGlobals "_law_args" = some (some (.ref f_w_args)))
    (l_w_args : K.lookup f_w_args = some ⟨oc_w_args, od_w_args, .func (PySem.W.fnOf "_law_args" "_law_args" (defArgs s_w_args) (defBody s_w_args) (defScope s_w_args) .none kV_w_args dc_w_args pm_w_args an_w_args cd_w_args ct_w_args), sl_w_args⟩)
    (c_w_args : PySem.W.codeIn K cd_w_args "_law_args" = true)
    (k_w_args : PySem.W.keepIn K (.ref f_w_args) = true)
    (a_w_answers : PySem.W.nsIn K mainGlobals "_law_answers" = some (some (.ref f_w_answers)))
    (l_w_answers : K.lookup f_w_answers = some ⟨oc_w_answers, od_w_answers, .func (PySem.W.fnOf "_law_answers" "_law_answers" (defArgs s_w_answers) (defBody s_w_answers) (defScope s_w_answers) .none kV_w_answers dc_w_answers pm_w_answers an_w_answers cd_w_answers ct_w_answers), sl_w_answers⟩)
    (c_w_answers : PySem.W.codeIn K cd_w_answers "_law_answers" = true)
    (k_w_answers : PySem.W.keepIn K (.ref f_w_answers) = true)
    (a_w_loops : PySem.W.nsIn K mainGlobals "_law_loops" = some (some (.ref f_w_loops)))
    (l_w_loops : K.lookup f_w_loops = some ⟨oc_w_loops, od_w_loops, .func (PySem.W.fnOf "_law_loops" "_law_loops" (defArgs s_w_loops) (defBody s_w_loops) (defScope s_w_loops) .none kV_w_loops dc_w_loops pm_w_loops an_w_loops cd_w_loops ct_w_loops), sl_w_loops⟩)
    (c_w_loops : PySem.W.codeIn K cd_w_loops "_law_loops" = true)
    (k_w_loops : PySem.W.keepIn K (.ref f_w_loops) = true)
    (a_w_same : PySem.W.nsIn K mainGlobals "_law_same" = some (some (.ref f_w_same)))
    (l_w_same : K.lookup f_w_same = some ⟨oc_w_same, od_w_same, .func (PySem.W.fnOf "_law_same" "_law_same" (defArgs s_w_same) (defBody s_w_same) (defScope s_w_same) .none kV_w_same dc_w_same pm_w_same an_w_same cd_w_same ct_w_same), sl_w_same⟩)
    (c_w_same : PySem.W.codeIn K cd_w_same "_law_same" = true)
    (k_w_same : PySem.W.keepIn K (.ref f_w_same) = true)
    (a_has_word : PySem.W.nsIn K mainGlobals "has_word" = some (some (.ref f_has_word)))
    (l_has_word : K.lookup f_has_word = some ⟨oc_has_word, od_has_word, .func (PySem.W.fnOf "has_word" "has_word" (defArgs s_has_word) (defBody s_has_word) (defScope s_has_word) .none kV_has_word dc_has_word pm_has_word an_has_word cd_has_word ct_has_word), sl_has_word⟩)
    (c_has_word : PySem.W.codeIn K cd_has_word "has_word" = true)
    (k_has_word : PySem.W.keepIn K (.ref f_has_word) = true)
    (a_is_row : PySem.W.nsIn K mainGlobals "is_row" = some (some (.ref f_is_row)))
    (l_is_row : K.lookup f_is_row = some ⟨oc_is_row, od_is_row, .func (PySem.W.fnOf "is_row" "is_row" (defArgs s_is_row) (defBody s_is_row) (defScope s_is_row) .none kV_is_row dc_is_row pm_is_row an_is_row cd_is_row ct_is_row), sl_is_row⟩)
    (c_is_row : PySem.W.codeIn K cd_is_row "is_row" = true)
    (k_is_row : PySem.W.keepIn K (.ref f_is_row) = true)
    (a_is_whole : PySem.W.nsIn K mainGlobals "is_whole" = some (some (.ref f_is_whole)))
    (l_is_whole : K.lookup f_is_whole = some ⟨oc_is_whole, od_is_whole, .func (PySem.W.fnOf "is_whole" "is_whole" (defArgs s_is_whole) (defBody s_is_whole) (defScope s_is_whole) .none kV_is_whole dc_is_whole pm_is_whole an_is_whole cd_is_whole ct_is_whole), sl_is_whole⟩)
    (c_is_whole : PySem.W.codeIn K cd_is_whole "is_whole" = true)
    (k_is_whole : PySem.W.keepIn K (.ref f_is_whole) = true)
    (a_is_between : PySem.W.nsIn K mainGlobals "is_between" = some (some (.ref f_is_between)))
    (l_is_between : K.lookup f_is_between = some ⟨oc_is_between, od_is_between, .func (PySem.W.fnOf "is_between" "is_between" (defArgs s_is_between) (defBody s_is_between) (defScope s_is_between) .none kV_is_between dc_is_between pm_is_between an_is_between cd_is_between ct_is_between), sl_is_between⟩)
    (c_is_between : PySem.W.codeIn K cd_is_between "is_between" = true)
    (k_is_between : PySem.W.keepIn K (.ref f_is_between) = true)
    (a_is_near : PySem.W.nsIn K mainGlobals "is_near" = some (some (.ref f_is_near)))
    (l_is_near : K.lookup f_is_near = some ⟨oc_is_near, od_is_near, .func (PySem.W.fnOf "is_near" "is_near" (defArgs s_is_near) (defBody s_is_near) (defScope s_is_near) .none kV_is_near dc_is_near pm_is_near an_is_near cd_is_near ct_is_near), sl_is_near⟩)
    (c_is_near : PySem.W.codeIn K cd_is_near "is_near" = true)
    (k_is_near : PySem.W.keepIn K (.ref f_is_near) = true)
    (a_stands : PySem.W.nsIn K mainGlobals "stands" = some (some (.ref f_stands)))
    (l_stands : K.lookup f_stands = some ⟨oc_stands, od_stands, .func (PySem.W.fnOf "stands" "stands" (defArgs s_stands) (defBody s_stands) (defScope s_stands) .none kV_stands dc_stands pm_stands an_stands cd_stands ct_stands), sl_stands⟩)
    (c_stands : PySem.W.codeIn K cd_stands "stands" = true)
    (k_stands : PySem.W.keepIn K (.ref f_stands) = true)
    (a_all_fit : PySem.W.nsIn K mainGlobals "all_fit" = some (some (.ref f_all_fit)))
    (l_all_fit : K.lookup f_all_fit = some ⟨oc_all_fit, od_all_fit, .func (PySem.W.fnOf "all_fit" "all_fit" (defArgs s_all_fit) (defBody s_all_fit) (defScope s_all_fit) .none kV_all_fit dc_all_fit pm_all_fit an_all_fit cd_all_fit ct_all_fit), sl_all_fit⟩)
    (c_all_fit : PySem.W.codeIn K cd_all_fit "all_fit" = true)
    (k_all_fit : PySem.W.keepIn K (.ref f_all_fit) = true)
    (a_kinds_ahead : PySem.W.nsIn K mainGlobals "kinds_ahead" = some (some (.ref f_kinds_ahead)))
    (l_kinds_ahead : K.lookup f_kinds_ahead = some ⟨oc_kinds_ahead, od_kinds_ahead, .func (PySem.W.fnOf "kinds_ahead" "kinds_ahead" (defArgs s_kinds_ahead) (defBody s_kinds_ahead) (defScope s_kinds_ahead) .none kV_kinds_ahead dc_kinds_ahead pm_kinds_ahead an_kinds_ahead cd_kinds_ahead ct_kinds_ahead), sl_kinds_ahead⟩)
    (c_kinds_ahead : PySem.W.codeIn K cd_kinds_ahead "kinds_ahead" = true)
    (k_kinds_ahead : PySem.W.keepIn K (.ref f_kinds_ahead) = true)
    (a_call_kind : PySem.W.nsIn K mainGlobals "call_kind" = some (some (.ref f_call_kind)))
    (l_call_kind : K.lookup f_call_kind = some ⟨oc_call_kind, od_call_kind, .func (PySem.W.fnOf "call_kind" "call_kind" (defArgs s_call_kind) (defBody s_call_kind) (defScope s_call_kind) .none kV_call_kind dc_call_kind pm_call_kind an_call_kind cd_call_kind ct_call_kind), sl_call_kind⟩)
    (c_call_kind : PySem.W.codeIn K cd_call_kind "call_kind" = true)
    (k_call_kind : PySem.W.keepIn K (.ref f_call_kind) = true)
    (a_deed_kind : PySem.W.nsIn K mainGlobals "deed_kind" = some (some (.ref f_deed_kind)))
    (l_deed_kind : K.lookup f_deed_kind = some ⟨oc_deed_kind, od_deed_kind, .func (PySem.W.fnOf "deed_kind" "deed_kind" (defArgs s_deed_kind) (defBody s_deed_kind) (defScope s_deed_kind) .none kV_deed_kind dc_deed_kind pm_deed_kind an_deed_kind cd_deed_kind ct_deed_kind), sl_deed_kind⟩)
    (c_deed_kind : PySem.W.codeIn K cd_deed_kind "deed_kind" = true)
    (k_deed_kind : PySem.W.keepIn K (.ref f_deed_kind) = true)
    (a_is_name : PySem.W.nsIn K mainGlobals "is_name" = some (some (.ref f_is_name)))
    (l_is_name : K.lookup f_is_name = some ⟨oc_is_name, od_is_name, .func (PySem.W.fnOf "is_name" "is_name" (defArgs s_is_name) (defBody s_is_name) (defScope s_is_name) .none kV_is_name dc_is_name pm_is_name an_is_name cd_is_name ct_is_name), sl_is_name⟩)
    (c_is_name : PySem.W.codeIn K cd_is_name "is_name" = true)
    (k_is_name : PySem.W.keepIn K (.ref f_is_name) = true)
    (a_within_let : PySem.W.nsIn K mainGlobals "within_let" = some (some (.ref f_within_let)))
    (l_within_let : K.lookup f_within_let = some ⟨oc_within_let, od_within_let, .func (PySem.W.fnOf "within_let" "within_let" (defArgs s_within_let) (defBody s_within_let) (defScope s_within_let) .none kV_within_let dc_within_let pm_within_let an_within_let cd_within_let ct_within_let), sl_within_let⟩)
    (c_within_let : PySem.W.codeIn K cd_within_let "within_let" = true)
    (k_within_let : PySem.W.keepIn K (.ref f_within_let) = true)
    (a_is_measure : PySem.W.nsIn K mainGlobals "is_measure" = some (some (.ref f_is_measure)))
    (l_is_measure : K.lookup f_is_measure = some ⟨oc_is_measure, od_is_measure, .func (PySem.W.fnOf "is_measure" "is_measure" (defArgs s_is_measure) (defBody s_is_measure) (defScope s_is_measure) .none kV_is_measure dc_is_measure pm_is_measure an_is_measure cd_is_measure ct_is_measure), sl_is_measure⟩)
    (c_is_measure : PySem.W.codeIn K cd_is_measure "is_measure" = true)
    (k_is_measure : PySem.W.keepIn K (.ref f_is_measure) = true)
    (a_is_compared : PySem.W.nsIn K mainGlobals "is_compared" = some (some (.ref f_is_compared)))
    (l_is_compared : K.lookup f_is_compared = some ⟨oc_is_compared, od_is_compared, .func (PySem.W.fnOf "is_compared" "is_compared" (defArgs s_is_compared) (defBody s_is_compared) (defScope s_is_compared) .none kV_is_compared dc_is_compared pm_is_compared an_is_compared cd_is_compared ct_is_compared), sl_is_compared⟩)
    (c_is_compared : PySem.W.codeIn K cd_is_compared "is_compared" = true)
    (k_is_compared : PySem.W.keepIn K (.ref f_is_compared) = true)
    (a_trees_within : PySem.W.nsIn K mainGlobals "trees_within" = some (some (.ref f_trees_within)))
    (l_trees_within : K.lookup f_trees_within = some ⟨oc_trees_within, od_trees_within, .func (PySem.W.fnOf "trees_within" "trees_within" (defArgs s_trees_within) (defBody s_trees_within) (defScope s_trees_within) .none kV_trees_within dc_trees_within pm_trees_within an_trees_within cd_trees_within ct_trees_within), sl_trees_within⟩)
    (c_trees_within : PySem.W.codeIn K cd_trees_within "trees_within" = true)
    (k_trees_within : PySem.W.keepIn K (.ref f_trees_within) = true)
    (a_check_trees : PySem.W.nsIn K mainGlobals "check_trees" = some (some (.ref f_check_trees)))
    (l_check_trees : K.lookup f_check_trees = some ⟨oc_check_trees, od_check_trees, .func (PySem.W.fnOf "check_trees" "check_trees" (defArgs s_check_trees) (defBody s_check_trees) (defScope s_check_trees) .none kV_check_trees dc_check_trees pm_check_trees an_check_trees cd_check_trees ct_check_trees), sl_check_trees⟩)
    (c_check_trees : PySem.W.codeIn K cd_check_trees "check_trees" = true)
    (k_check_trees : PySem.W.keepIn K (.ref f_check_trees) = true)
    (a_is_param : PySem.W.nsIn K mainGlobals "is_param" = some (some (.ref f_is_param)))
    (l_is_param : K.lookup f_is_param = some ⟨oc_is_param, od_is_param, .func (PySem.W.fnOf "is_param" "is_param" (defArgs s_is_param) (defBody s_is_param) (defScope s_is_param) .none kV_is_param dc_is_param pm_is_param an_is_param cd_is_param ct_is_param), sl_is_param⟩)
    (c_is_param : PySem.W.codeIn K cd_is_param "is_param" = true)
    (k_is_param : PySem.W.keepIn K (.ref f_is_param) = true)
    (a_is_headed : PySem.W.nsIn K mainGlobals "is_headed" = some (some (.ref f_is_headed)))
    (l_is_headed : K.lookup f_is_headed = some ⟨oc_is_headed, od_is_headed, .func (PySem.W.fnOf "is_headed" "is_headed" (defArgs s_is_headed) (defBody s_is_headed) (defScope s_is_headed) .none kV_is_headed dc_is_headed pm_is_headed an_is_headed cd_is_headed ct_is_headed), sl_is_headed⟩)
    (c_is_headed : PySem.W.codeIn K cd_is_headed "is_headed" = true)
    (k_is_headed : PySem.W.keepIn K (.ref f_is_headed) = true)
    (a_check_program : PySem.W.nsIn K mainGlobals "check_program" = some (some (.ref f_check_program)))
    (l_check_program : K.lookup f_check_program = some ⟨oc_check_program, od_check_program, .func (PySem.W.fnOf "check_program" "check_program" (defArgs s_check_program) (defBody s_check_program) (defScope s_check_program) .none kV_check_program dc_check_program pm_check_program an_check_program cd_check_program ct_check_program), sl_check_program⟩)
    (c_check_program : PySem.W.codeIn K cd_check_program "check_program" = true)
    (k_check_program : PySem.W.keepIn K (.ref f_check_program) = true)
    (a_is_handed_number : PySem.W.nsIn K mainGlobals "is_handed_number" = some (some (.ref f_is_handed_number)))
    (l_is_handed_number : K.lookup f_is_handed_number = some ⟨oc_is_handed_number, od_is_handed_number, .func (PySem.W.fnOf "is_handed_number" "is_handed_number" (defArgs s_is_handed_number) (defBody s_is_handed_number) (defScope s_is_handed_number) .none kV_is_handed_number dc_is_handed_number pm_is_handed_number an_is_handed_number cd_is_handed_number ct_is_handed_number), sl_is_handed_number⟩)
    (c_is_handed_number : PySem.W.codeIn K cd_is_handed_number "is_handed_number" = true)
    (k_is_handed_number : PySem.W.keepIn K (.ref f_is_handed_number) = true)
    (a_can_be_handed : PySem.W.nsIn K mainGlobals "can_be_handed" = some (some (.ref f_can_be_handed)))
    (l_can_be_handed : K.lookup f_can_be_handed = some ⟨oc_can_be_handed, od_can_be_handed, .func (PySem.W.fnOf "can_be_handed" "can_be_handed" (defArgs s_can_be_handed) (defBody s_can_be_handed) (defScope s_can_be_handed) .none kV_can_be_handed dc_can_be_handed pm_can_be_handed an_can_be_handed cd_can_be_handed ct_can_be_handed), sl_can_be_handed⟩)
    (c_can_be_handed : PySem.W.codeIn K cd_can_be_handed "can_be_handed" = true)
    (k_can_be_handed : PySem.W.keepIn K (.ref f_can_be_handed) = true)
    (a_check_args : PySem.W.nsIn K mainGlobals "check_args" = some (some (.ref f_check_args)))
    (l_check_args : K.lookup f_check_args = some ⟨oc_check_args, od_check_args, .func (PySem.W.fnOf "check_args" "check_args" (defArgs s_check_args) (defBody s_check_args) (defScope s_check_args) .none kV_check_args dc_check_args pm_check_args an_check_args cd_check_args ct_check_args), sl_check_args⟩)
    (c_check_args : PySem.W.codeIn K cd_check_args "check_args" = true)
    (k_check_args : PySem.W.keepIn K (.ref f_check_args) = true)
    (a_check_answers : PySem.W.nsIn K mainGlobals "check_answers" = some (some (.ref f_check_answers)))
    (l_check_answers : K.lookup f_check_answers = some ⟨oc_check_answers, od_check_answers, .func (PySem.W.fnOf "check_answers" "check_answers" (defArgs s_check_answers) (defBody s_check_answers) (defScope s_check_answers) .none kV_check_answers dc_check_answers pm_check_answers an_check_answers cd_check_answers ct_check_answers), sl_check_answers⟩)
    (c_check_answers : PySem.W.codeIn K cd_check_answers "check_answers" = true)
    (k_check_answers : PySem.W.keepIn K (.ref f_check_answers) = true)
    (a_numbered : PySem.W.nsIn K mainGlobals "numbered" = some (some (.ref f_numbered)))
    (l_numbered : K.lookup f_numbered = some ⟨oc_numbered, od_numbered, .func (PySem.W.fnOf "numbered" "numbered" (defArgs s_numbered) (defBody s_numbered) (defScope s_numbered) .none kV_numbered dc_numbered pm_numbered an_numbered cd_numbered ct_numbered), sl_numbered⟩)
    (c_numbered : PySem.W.codeIn K cd_numbered "numbered" = true)
    (k_numbered : PySem.W.keepIn K (.ref f_numbered) = true)
    (a_Run_init : PySem.W.findIn K (.ref C_Run) "__init__" = some (some (.ref f_Run_init)))
    (i_Run_init : PySem.W.isFn K (.ref f_Run_init) = true)
    (l_Run_init : K.lookup f_Run_init = some ⟨oc_Run_init, od_Run_init, .func (PySem.W.fnOf "__init__" "Run.__init__" (defArgs s_Run_init) (defBody s_Run_init) (defScope s_Run_init) .none kV_Run_init dc_Run_init pm_Run_init an_Run_init cd_Run_init ct_Run_init), sl_Run_init⟩)
    (c_Run_init : PySem.W.codeIn K cd_Run_init "Run.__init__" = true)
    (k_Run_init : PySem.W.keepIn K (.ref f_Run_init) = true)
    (a_Call_init : PySem.W.findIn K (.ref C_Call) "__init__" = some (some (.ref f_Call_init)))
    (i_Call_init : PySem.W.isFn K (.ref f_Call_init) = true)
    (l_Call_init : K.lookup f_Call_init = some ⟨oc_Call_init, od_Call_init, .func (PySem.W.fnOf "__init__" "Call.__init__" (defArgs s_Call_init) (defBody s_Call_init) (defScope s_Call_init) .none kV_Call_init dc_Call_init pm_Call_init an_Call_init cd_Call_init ct_Call_init), sl_Call_init⟩)
    (c_Call_init : PySem.W.codeIn K cd_Call_init "Call.__init__" = true)
    (k_Call_init : PySem.W.keepIn K (.ref f_Call_init) = true)
    (a_Run_begin : PySem.W.findIn K (.ref C_Run) "begin" = some (some (.ref f_Run_begin)))
    (i_Run_begin : PySem.W.isFn K (.ref f_Run_begin) = true)
    (l_Run_begin : K.lookup f_Run_begin = some ⟨oc_Run_begin, od_Run_begin, .func (PySem.W.fnOf "begin" "Run.begin" (defArgs s_Run_begin) (defBody s_Run_begin) (defScope s_Run_begin) .none kV_Run_begin dc_Run_begin pm_Run_begin an_Run_begin cd_Run_begin ct_Run_begin), sl_Run_begin⟩)
    (c_Run_begin : PySem.W.codeIn K cd_Run_begin "Run.begin" = true)
    (k_Run_begin : PySem.W.keepIn K (.ref f_Run_begin) = true)
    (a_measured : PySem.W.nsIn K mainGlobals "measured" = some (some (.ref f_measured)))
    (l_measured : K.lookup f_measured = some ⟨oc_measured, od_measured, .func (PySem.W.fnOf "measured" "measured" (defArgs s_measured) (defBody s_measured) (defScope s_measured) .none kV_measured dc_measured pm_measured an_measured cd_measured ct_measured), sl_measured⟩)
    (c_measured : PySem.W.codeIn K cd_measured "measured" = true)
    (k_measured : PySem.W.keepIn K (.ref f_measured) = true)
    (a_is_so : PySem.W.nsIn K mainGlobals "is_so" = some (some (.ref f_is_so)))
    (l_is_so : K.lookup f_is_so = some ⟨oc_is_so, od_is_so, .func (PySem.W.fnOf "is_so" "is_so" (defArgs s_is_so) (defBody s_is_so) (defScope s_is_so) .none kV_is_so dc_is_so pm_is_so an_is_so cd_is_so ct_is_so), sl_is_so⟩)
    (c_is_so : PySem.W.codeIn K cd_is_so "is_so" = true)
    (k_is_so : PySem.W.keepIn K (.ref f_is_so) = true)
    (a_Run_bind : PySem.W.findIn K (.ref C_Run) "bind" = some (some (.ref f_Run_bind)))
    (i_Run_bind : PySem.W.isFn K (.ref f_Run_bind) = true)
    (l_Run_bind : K.lookup f_Run_bind = some ⟨oc_Run_bind, od_Run_bind, .func (PySem.W.fnOf "bind" "Run.bind" (defArgs s_Run_bind) (defBody s_Run_bind) (defScope s_Run_bind) .none kV_Run_bind dc_Run_bind pm_Run_bind an_Run_bind cd_Run_bind ct_Run_bind), sl_Run_bind⟩)
    (c_Run_bind : PySem.W.codeIn K cd_Run_bind "Run.bind" = true)
    (k_Run_bind : PySem.W.keepIn K (.ref f_Run_bind) = true)
    (a_Run_tell : PySem.W.findIn K (.ref C_Run) "tell" = some (some (.ref f_Run_tell)))
    (i_Run_tell : PySem.W.isFn K (.ref f_Run_tell) = true)
    (l_Run_tell : K.lookup f_Run_tell = some ⟨oc_Run_tell, od_Run_tell, .func (PySem.W.fnOf "tell" "Run.tell" (defArgs s_Run_tell) (defBody s_Run_tell) (defScope s_Run_tell) .none kV_Run_tell dc_Run_tell pm_Run_tell an_Run_tell cd_Run_tell ct_Run_tell), sl_Run_tell⟩)
    (c_Run_tell : PySem.W.codeIn K cd_Run_tell "Run.tell" = true)
    (k_Run_tell : PySem.W.keepIn K (.ref f_Run_tell) = true)
    (a_fault_of : PySem.W.nsIn K mainGlobals "fault_of" = some (some (.ref f_fault_of)))
    (l_fault_of : K.lookup f_fault_of = some ⟨oc_fault_of, od_fault_of, .func (PySem.W.fnOf "fault_of" "fault_of" (defArgs s_fault_of) (defBody s_fault_of) (defScope s_fault_of) .none kV_fault_of dc_fault_of pm_fault_of an_fault_of cd_fault_of ct_fault_of), sl_fault_of⟩)
    (c_fault_of : PySem.W.codeIn K cd_fault_of "fault_of" = true)
    (k_fault_of : PySem.W.keepIn K (.ref f_fault_of) = true)
    (a_Run_let_call : PySem.W.findIn K (.ref C_Run) "let_call" = some (some (.ref f_Run_let_call)))
    (i_Run_let_call : PySem.W.isFn K (.ref f_Run_let_call) = true)
    (l_Run_let_call : K.lookup f_Run_let_call = some ⟨oc_Run_let_call, od_Run_let_call, .func (PySem.W.fnOf "let_call" "Run.let_call" (defArgs s_Run_let_call) (defBody s_Run_let_call) (defScope s_Run_let_call) .none kV_Run_let_call dc_Run_let_call pm_Run_let_call an_Run_let_call cd_Run_let_call ct_Run_let_call), sl_Run_let_call⟩)
    (c_Run_let_call : PySem.W.codeIn K cd_Run_let_call "Run.let_call" = true)
    (k_Run_let_call : PySem.W.keepIn K (.ref f_Run_let_call) = true)
    (a_worth_of : PySem.W.nsIn K mainGlobals "worth_of" = some (some (.ref f_worth_of)))
    (l_worth_of : K.lookup f_worth_of = some ⟨oc_worth_of, od_worth_of, .func (PySem.W.fnOf "worth_of" "worth_of" (defArgs s_worth_of) (defBody s_worth_of) (defScope s_worth_of) .none kV_worth_of dc_worth_of pm_worth_of an_worth_of cd_worth_of ct_worth_of), sl_worth_of⟩)
    (c_worth_of : PySem.W.codeIn K cd_worth_of "worth_of" = true)
    (k_worth_of : PySem.W.keepIn K (.ref f_worth_of) = true)
    (a_Run_next_answer : PySem.W.findIn K (.ref C_Run) "next_answer" = some (some (.ref f_Run_next_answer)))
    (i_Run_next_answer : PySem.W.isFn K (.ref f_Run_next_answer) = true)
    (l_Run_next_answer : K.lookup f_Run_next_answer = some ⟨oc_Run_next_answer, od_Run_next_answer, .func (PySem.W.fnOf "next_answer" "Run.next_answer" (defArgs s_Run_next_answer) (defBody s_Run_next_answer) (defScope s_Run_next_answer) .none kV_Run_next_answer dc_Run_next_answer pm_Run_next_answer an_Run_next_answer cd_Run_next_answer ct_Run_next_answer), sl_Run_next_answer⟩)
    (c_Run_next_answer : PySem.W.codeIn K cd_Run_next_answer "Run.next_answer" = true)
    (k_Run_next_answer : PySem.W.keepIn K (.ref f_Run_next_answer) = true)
    (a_Run_let : PySem.W.findIn K (.ref C_Run) "let" = some (some (.ref f_Run_let)))
    (i_Run_let : PySem.W.isFn K (.ref f_Run_let) = true)
    (l_Run_let : K.lookup f_Run_let = some ⟨oc_Run_let, od_Run_let, .func (PySem.W.fnOf "let" "Run.let" (defArgs s_Run_let) (defBody s_Run_let) (defScope s_Run_let) .none kV_Run_let dc_Run_let pm_Run_let an_Run_let cd_Run_let ct_Run_let), sl_Run_let⟩)
    (c_Run_let : PySem.W.codeIn K cd_Run_let "Run.let" = true)
    (k_Run_let : PySem.W.keepIn K (.ref f_Run_let) = true)
    (a_Run_step : PySem.W.findIn K (.ref C_Run) "step" = some (some (.ref f_Run_step)))
    (i_Run_step : PySem.W.isFn K (.ref f_Run_step) = true)
    (l_Run_step : K.lookup f_Run_step = some ⟨oc_Run_step, od_Run_step, .func (PySem.W.fnOf "step" "Run.step" (defArgs s_Run_step) (defBody s_Run_step) (defScope s_Run_step) .none kV_Run_step dc_Run_step pm_Run_step an_Run_step cd_Run_step ct_Run_step), sl_Run_step⟩)
    (c_Run_step : PySem.W.codeIn K cd_Run_step "Run.step" = true)
    (k_Run_step : PySem.W.keepIn K (.ref f_Run_step) = true)
    (a_Run_go : PySem.W.findIn K (.ref C_Run) "go" = some (some (.ref f_Run_go)))
    (i_Run_go : PySem.W.isFn K (.ref f_Run_go) = true)
    (l_Run_go : K.lookup f_Run_go = some ⟨oc_Run_go, od_Run_go, .func (PySem.W.fnOf "go" "Run.go" (defArgs s_Run_go) (defBody s_Run_go) (defScope s_Run_go) .none kV_Run_go dc_Run_go pm_Run_go an_Run_go cd_Run_go ct_Run_go), sl_Run_go⟩)
    (c_Run_go : PySem.W.codeIn K cd_Run_go "Run.go" = true)
    (k_Run_go : PySem.W.keepIn K (.ref f_Run_go) = true)
    (a_Run_told_calls : PySem.W.findIn K (.ref C_Run) "told_calls" = some (some (.ref f_Run_told_calls)))
    (i_Run_told_calls : PySem.W.isFn K (.ref f_Run_told_calls) = true)
    (l_Run_told_calls : K.lookup f_Run_told_calls = some ⟨oc_Run_told_calls, od_Run_told_calls, .func (PySem.W.fnOf "told_calls" "Run.told_calls" (defArgs s_Run_told_calls) (defBody s_Run_told_calls) (defScope s_Run_told_calls) .none kV_Run_told_calls dc_Run_told_calls pm_Run_told_calls an_Run_told_calls cd_Run_told_calls ct_Run_told_calls), sl_Run_told_calls⟩)
    (c_Run_told_calls : PySem.W.codeIn K cd_Run_told_calls "Run.told_calls" = true)
    (k_Run_told_calls : PySem.W.keepIn K (.ref f_Run_told_calls) = true)
    (a_run : PySem.W.nsIn K mainGlobals "run" = some (some (.ref f_run)))
    (l_run : K.lookup f_run = some ⟨oc_run, od_run, .func (PySem.W.fnOf "run" "run" (defArgs s_run) (defBody s_run) (defScope s_run) .none (.ref D_run) dc_run pm_run an_run cd_run ct_run), sl_run⟩)
    (c_run : PySem.W.codeIn K cd_run "run" = true)
    (k_run : PySem.W.keepIn K (.ref f_run) = true)
    (w_run_most : PySem.W.nsIn K D_run "most" = some (some (.int 100 kd_run_most)))
    (a_w_led : PySem.W.nsIn K mainGlobals "_law_led" = some (some (.ref f_w_led)))
    (l_w_led : K.lookup f_w_led = some ⟨oc_w_led, od_w_led, .func (PySem.W.fnOf "_law_led" "_law_led" (defArgs s_w_led) (defBody s_w_led) (defScope s_w_led) .none kV_w_led dc_w_led pm_w_led an_w_led cd_w_led ct_w_led), sl_w_led⟩)
    (c_w_led : PySem.W.codeIn K cd_w_led "_law_led" = true)
    (k_w_led : PySem.W.keepIn K (.ref f_w_led) = true)
    (a_law : PySem.W.nsIn K mainGlobals "law" = some (some (.ref f_law)))
    (l_law : K.lookup f_law = some ⟨oc_law, od_law, .func (PySem.W.fnOf "law" "law" (defArgs s_law) (defBody s_law) (defScope s_law) .none kV_law dc_law pm_law an_law cd_law ct_law), sl_law⟩)
    (c_law : PySem.W.codeIn K cd_law "law" = true)
    (k_law : PySem.W.keepIn K (.ref f_law) = true)
    (n_all : PySem.W.nsIn K mainGlobals "all" = some none)
    (n_bool : PySem.W.nsIn K mainGlobals "bool" = some none)
    (n_dict : PySem.W.nsIn K mainGlobals "dict" = some none)
    (n_enumerate : PySem.W.nsIn K mainGlobals "enumerate" = some none)
    (n_int : PySem.W.nsIn K mainGlobals "int" = some none)
    (n_isinstance : PySem.W.nsIn K mainGlobals "isinstance" = some none)
    (n_len : PySem.W.nsIn K mainGlobals "len" = some none)
    (n_list : PySem.W.nsIn K mainGlobals "list" = some none)
    (n_max : PySem.W.nsIn K mainGlobals "max" = some none)
    (n_range : PySem.W.nsIn K mainGlobals "range" = some none)
    (n_reversed : PySem.W.nsIn K mainGlobals "reversed" = some none)
    (n_str : PySem.W.nsIn K mainGlobals "str" = some none)
    (n_tuple : PySem.W.nsIn K mainGlobals "tuple" = some none)
    (n_zip : PySem.W.nsIn K mainGlobals "zip" = some none)
    (m_DEEDS : PySem.W.nsIn K mainGlobals "DEEDS" = some (some (.ref x_DEEDS)))
    (t_DEEDS : K.lookup x_DEEDS = some ⟨.type "dict", none, .dict e_DEEDS n_DEEDS, #[]⟩)
    (v_DEEDS : PySem.W.KeysLit w.params e_DEEDS.toList)
    (z_DEEDS : (x_DEEDS == sysModules) = false)
    (y_DEEDS_num : PySem.W.nsIn K x_DEEDS "num" = some (some (.ref x_DEEDS_num)))
    (t_DEEDS_num : K.lookup x_DEEDS_num = some ⟨.type "tuple", d_DEEDS_num, .seq i_DEEDS_num n_DEEDS_num, o_DEEDS_num⟩)
    (v_DEEDS_num : Vals [.ref x_DEEDS_num_0, .str "number"] i_DEEDS_num.toList)
    (z_DEEDS_num : i_DEEDS_num.size ≤ 1000000)
    (t_DEEDS_num_0 : K.lookup x_DEEDS_num_0 = some ⟨.type "tuple", d_DEEDS_num_0, .seq i_DEEDS_num_0 n_DEEDS_num_0, o_DEEDS_num_0⟩)
    (v_DEEDS_num_0 : Vals [.str "n"] i_DEEDS_num_0.toList)
    (z_DEEDS_num_0 : i_DEEDS_num_0.size ≤ 1000000)
    (y_DEEDS_sum : PySem.W.nsIn K x_DEEDS "sum" = some (some (.ref x_DEEDS_sum)))
    (t_DEEDS_sum : K.lookup x_DEEDS_sum = some ⟨.type "tuple", d_DEEDS_sum, .seq i_DEEDS_sum n_DEEDS_sum, o_DEEDS_sum⟩)
    (v_DEEDS_sum : Vals [.ref x_DEEDS_sum_0, .str "number"] i_DEEDS_sum.toList)
    (z_DEEDS_sum : i_DEEDS_sum.size ≤ 1000000)
    (t_DEEDS_sum_0 : K.lookup x_DEEDS_sum_0 = some ⟨.type "tuple", d_DEEDS_sum_0, .seq i_DEEDS_sum_0 n_DEEDS_sum_0, o_DEEDS_sum_0⟩)
    (v_DEEDS_sum_0 : Vals [.str "number", .str "n"] i_DEEDS_sum_0.toList)
    (z_DEEDS_sum_0 : i_DEEDS_sum_0.size ≤ 1000000)
    (y_DEEDS_len : PySem.W.nsIn K x_DEEDS "len" = some (some (.ref x_DEEDS_len)))
    (t_DEEDS_len : K.lookup x_DEEDS_len = some ⟨.type "tuple", d_DEEDS_len, .seq i_DEEDS_len n_DEEDS_len, o_DEEDS_len⟩)
    (v_DEEDS_len : Vals [.ref x_DEEDS_len_0, .str "number"] i_DEEDS_len.toList)
    (z_DEEDS_len : i_DEEDS_len.size ≤ 1000000)
    (t_DEEDS_len_0 : K.lookup x_DEEDS_len_0 = some ⟨.type "tuple", d_DEEDS_len_0, .seq i_DEEDS_len_0 n_DEEDS_len_0, o_DEEDS_len_0⟩)
    (v_DEEDS_len_0 : Vals [.str "list"] i_DEEDS_len_0.toList)
    (z_DEEDS_len_0 : i_DEEDS_len_0.size ≤ 1000000)
    (y_DEEDS_nil : PySem.W.nsIn K x_DEEDS "nil" = some (some (.ref x_DEEDS_nil)))
    (t_DEEDS_nil : K.lookup x_DEEDS_nil = some ⟨.type "tuple", d_DEEDS_nil, .seq i_DEEDS_nil n_DEEDS_nil, o_DEEDS_nil⟩)
    (v_DEEDS_nil : Vals [.ref x_DEEDS_nil_0, .str "list"] i_DEEDS_nil.toList)
    (z_DEEDS_nil : i_DEEDS_nil.size ≤ 1000000)
    (t_DEEDS_nil_0 : K.lookup x_DEEDS_nil_0 = some ⟨.type "tuple", d_DEEDS_nil_0, .seq i_DEEDS_nil_0 n_DEEDS_nil_0, o_DEEDS_nil_0⟩)
    (v_DEEDS_nil_0 : Vals [] i_DEEDS_nil_0.toList)
    (z_DEEDS_nil_0 : i_DEEDS_nil_0.size ≤ 1000000)
    (y_DEEDS_put : PySem.W.nsIn K x_DEEDS "put" = some (some (.ref x_DEEDS_put)))
    (t_DEEDS_put : K.lookup x_DEEDS_put = some ⟨.type "tuple", d_DEEDS_put, .seq i_DEEDS_put n_DEEDS_put, o_DEEDS_put⟩)
    (v_DEEDS_put : Vals [.ref x_DEEDS_put_0, .str "list"] i_DEEDS_put.toList)
    (z_DEEDS_put : i_DEEDS_put.size ≤ 1000000)
    (t_DEEDS_put_0 : K.lookup x_DEEDS_put_0 = some ⟨.type "tuple", d_DEEDS_put_0, .seq i_DEEDS_put_0 n_DEEDS_put_0, o_DEEDS_put_0⟩)
    (v_DEEDS_put_0 : Vals [.str "number", .str "list"] i_DEEDS_put_0.toList)
    (z_DEEDS_put_0 : i_DEEDS_put_0.size ≤ 1000000)
    (y_DEEDS_head : PySem.W.nsIn K x_DEEDS "head" = some (some (.ref x_DEEDS_head)))
    (t_DEEDS_head : K.lookup x_DEEDS_head = some ⟨.type "tuple", d_DEEDS_head, .seq i_DEEDS_head n_DEEDS_head, o_DEEDS_head⟩)
    (v_DEEDS_head : Vals [.ref x_DEEDS_head_0, .str "number"] i_DEEDS_head.toList)
    (z_DEEDS_head : i_DEEDS_head.size ≤ 1000000)
    (t_DEEDS_head_0 : K.lookup x_DEEDS_head_0 = some ⟨.type "tuple", d_DEEDS_head_0, .seq i_DEEDS_head_0 n_DEEDS_head_0, o_DEEDS_head_0⟩)
    (v_DEEDS_head_0 : Vals [.str "list"] i_DEEDS_head_0.toList)
    (z_DEEDS_head_0 : i_DEEDS_head_0.size ≤ 1000000)
    (y_DEEDS_tail : PySem.W.nsIn K x_DEEDS "tail" = some (some (.ref x_DEEDS_tail)))
    (t_DEEDS_tail : K.lookup x_DEEDS_tail = some ⟨.type "tuple", d_DEEDS_tail, .seq i_DEEDS_tail n_DEEDS_tail, o_DEEDS_tail⟩)
    (v_DEEDS_tail : Vals [.ref x_DEEDS_tail_0, .str "list"] i_DEEDS_tail.toList)
    (z_DEEDS_tail : i_DEEDS_tail.size ≤ 1000000)
    (t_DEEDS_tail_0 : K.lookup x_DEEDS_tail_0 = some ⟨.type "tuple", d_DEEDS_tail_0, .seq i_DEEDS_tail_0 n_DEEDS_tail_0, o_DEEDS_tail_0⟩)
    (v_DEEDS_tail_0 : Vals [.str "list"] i_DEEDS_tail_0.toList)
    (z_DEEDS_tail_0 : i_DEEDS_tail_0.size ≤ 1000000)
    (y_DEEDS_at : PySem.W.nsIn K x_DEEDS "at" = some (some (.ref x_DEEDS_at)))
    (t_DEEDS_at : K.lookup x_DEEDS_at = some ⟨.type "tuple", d_DEEDS_at, .seq i_DEEDS_at n_DEEDS_at, o_DEEDS_at⟩)
    (v_DEEDS_at : Vals [.ref x_DEEDS_at_0, .str "number"] i_DEEDS_at.toList)
    (z_DEEDS_at : i_DEEDS_at.size ≤ 1000000)
    (t_DEEDS_at_0 : K.lookup x_DEEDS_at_0 = some ⟨.type "tuple", d_DEEDS_at_0, .seq i_DEEDS_at_0 n_DEEDS_at_0, o_DEEDS_at_0⟩)
    (v_DEEDS_at_0 : Vals [.str "list", .str "number"] i_DEEDS_at_0.toList)
    (z_DEEDS_at_0 : i_DEEDS_at_0.size ≤ 1000000)
    (y_DEEDS_ask : PySem.W.nsIn K x_DEEDS "ask" = some (some (.ref x_DEEDS_ask)))
    (t_DEEDS_ask : K.lookup x_DEEDS_ask = some ⟨.type "tuple", d_DEEDS_ask, .seq i_DEEDS_ask n_DEEDS_ask, o_DEEDS_ask⟩)
    (v_DEEDS_ask : Vals [.ref x_DEEDS_ask_0, .str "number"] i_DEEDS_ask.toList)
    (z_DEEDS_ask : i_DEEDS_ask.size ≤ 1000000)
    (t_DEEDS_ask_0 : K.lookup x_DEEDS_ask_0 = some ⟨.type "tuple", d_DEEDS_ask_0, .seq i_DEEDS_ask_0 n_DEEDS_ask_0, o_DEEDS_ask_0⟩)
    (v_DEEDS_ask_0 : Vals [] i_DEEDS_ask_0.toList)
    (z_DEEDS_ask_0 : i_DEEDS_ask_0.size ≤ 1000000)
    (m_FARTHEST : PySem.W.nsIn K mainGlobals "FARTHEST" = some (some (.int 99 k_FARTHEST)))
    (m_FARTHEST_HANDED : PySem.W.nsIn K mainGlobals "FARTHEST_HANDED" = some (some (.int 1000000 k_FARTHEST_HANDED)))
    (m_HIGHEST_MOST : PySem.W.nsIn K mainGlobals "HIGHEST_MOST" = some (some (.int 300 k_HIGHEST_MOST)))
    (m_KINDS : PySem.W.nsIn K mainGlobals "KINDS" = some (some (.ref x_KINDS)))
    (t_KINDS : K.lookup x_KINDS = some ⟨.type "tuple", d_KINDS, .seq i_KINDS n_KINDS, o_KINDS⟩)
    (v_KINDS : Vals [.str "number", .str "list"] i_KINDS.toList)
    (z_KINDS : i_KINDS.size ≤ 1000000)
    (m_MEASURES : PySem.W.nsIn K mainGlobals "MEASURES" = some (some (.ref x_MEASURES)))
    (t_MEASURES : K.lookup x_MEASURES = some ⟨.type "dict", none, .dict e_MEASURES n_MEASURES, #[]⟩)
    (v_MEASURES : PySem.W.KeysLit w.params e_MEASURES.toList)
    (z_MEASURES : (x_MEASURES == sysModules) = false)
    (y_MEASURES_of : PySem.W.nsIn K x_MEASURES "of" = some (some (.str "number" k_MEASURES_of)))
    (y_MEASURES_len : PySem.W.nsIn K x_MEASURES "len" = some (some (.str "list" k_MEASURES_len)))
    (m_MOST_DEPTH : PySem.W.nsIn K mainGlobals "MOST_DEPTH" = some (some (.int 20 k_MOST_DEPTH)))
    (m_MOST_FUNCTIONS : PySem.W.nsIn K mainGlobals "MOST_FUNCTIONS" = some (some (.int 6 k_MOST_FUNCTIONS)))
    (m_MOST_ITEMS : PySem.W.nsIn K mainGlobals "MOST_ITEMS" = some (some (.int 40 k_MOST_ITEMS)))
    (m_MOST_PARAMS : PySem.W.nsIn K mainGlobals "MOST_PARAMS" = some (some (.int 4 k_MOST_PARAMS)))
    (m_MOST_SIGNS : PySem.W.nsIn K mainGlobals "MOST_SIGNS" = some (some (.int 8 k_MOST_SIGNS)))
    (m_MOST_TREES : PySem.W.nsIn K mainGlobals "MOST_TREES" = some (some (.int 60 k_MOST_TREES)))
    (m_TREES : PySem.W.nsIn K mainGlobals "TREES" = some (some (.ref x_TREES)))
    (t_TREES : K.lookup x_TREES = some ⟨.type "dict", none, .dict e_TREES n_TREES, #[]⟩)
    (v_TREES : PySem.W.KeysLit w.params e_TREES.toList)
    (z_TREES : (x_TREES == sysModules) = false)
    (y_TREES_let : PySem.W.nsIn K x_TREES "let" = some (some (.int 4 k_TREES_let)))
    (y_TREES_if : PySem.W.nsIn K x_TREES "if" = some (some (.int 6 k_TREES_if)))
    (y_TREES_claim : PySem.W.nsIn K x_TREES "claim" = some (some (.int 5 k_TREES_claim)))
    (y_TREES_tell : PySem.W.nsIn K x_TREES "tell" = some (some (.int 2 k_TREES_tell)))
    : ∃ fd : FuncData, (∀ (s : Shared) (v : Value), BindsTo s fd ⟨[v], []⟩ [("_law_script", v)]) ∧ ∀ base : Heap, K.In base → base.Ns mainGlobals mg → FnOk l.prog w K mg base CX0 24 fa fd ["_law_script"] (spLaw K) := by
  have e := hfa.symm.trans (PySem.W.mg_of X G a_law)
  cases e
  let A : Adr := {
    C_Call := C_Call,
    C_Run := C_Run,
    f_w_start := f_w_start,
    fd_w_start := PySem.W.fnOf "_law_start" "_law_start" (defArgs s_w_start) (defBody s_w_start) (defScope s_w_start) .none kV_w_start dc_w_start pm_w_start an_w_start cd_w_start ct_w_start,
    f_w_drawn := f_w_drawn,
    fd_w_drawn := PySem.W.fnOf "_law_drawn" "_law_drawn" (defArgs s_w_drawn) (defBody s_w_drawn) (defScope s_w_drawn) .none kV_w_drawn dc_w_drawn pm_w_drawn an_w_drawn cd_w_drawn ct_w_drawn,
    f_w_of := f_w_of,
    fd_w_of := PySem.W.fnOf "_law_of" "_law_of" (defArgs s_w_of) (defBody s_w_of) (defScope s_w_of) .none kV_w_of dc_w_of pm_w_of an_w_of cd_w_of ct_w_of,
    f_w_measure := f_w_measure,
    fd_w_measure := PySem.W.fnOf "_law_measure" "_law_measure" (defArgs s_w_measure) (defBody s_w_measure) (defScope s_w_measure) .none kV_w_measure dc_w_measure pm_w_measure an_w_measure cd_w_measure ct_w_measure,
    f_w_deed := f_w_deed,
    fd_w_deed := PySem.W.fnOf "_law_deed" "_law_deed" (defArgs s_w_deed) (defBody s_w_deed) (defScope s_w_deed) .none kV_w_deed dc_w_deed pm_w_deed an_w_deed cd_w_deed ct_w_deed,
    f_w_tree := f_w_tree,
    fd_w_tree := PySem.W.fnOf "_law_tree" "_law_tree" (defArgs s_w_tree) (defBody s_w_tree) (defScope s_w_tree) .none kV_w_tree dc_w_tree pm_w_tree an_w_tree cd_w_tree ct_w_tree,
    f_w_program := f_w_program,
    fd_w_program := PySem.W.fnOf "_law_program" "_law_program" (defArgs s_w_program) (defBody s_w_program) (defScope s_w_program) .none kV_w_program dc_w_program pm_w_program an_w_program cd_w_program ct_w_program,
    f_w_args := f_w_args,
    fd_w_args := PySem.W.fnOf "_law_args" "_law_args" (defArgs s_w_args) (defBody s_w_args) (defScope s_w_args) .none kV_w_args dc_w_args pm_w_args an_w_args cd_w_args ct_w_args,
    f_w_answers := f_w_answers,
    fd_w_answers := PySem.W.fnOf "_law_answers" "_law_answers" (defArgs s_w_answers) (defBody s_w_answers) (defScope s_w_answers) .none kV_w_answers dc_w_answers pm_w_answers an_w_answers cd_w_answers ct_w_answers,
    f_w_loops := f_w_loops,
    fd_w_loops := PySem.W.fnOf "_law_loops" "_law_loops" (defArgs s_w_loops) (defBody s_w_loops) (defScope s_w_loops) .none kV_w_loops dc_w_loops pm_w_loops an_w_loops cd_w_loops ct_w_loops,
    f_w_same := f_w_same,
    fd_w_same := PySem.W.fnOf "_law_same" "_law_same" (defArgs s_w_same) (defBody s_w_same) (defScope s_w_same) .none kV_w_same dc_w_same pm_w_same an_w_same cd_w_same ct_w_same,
    f_has_word := f_has_word,
    fd_has_word := PySem.W.fnOf "has_word" "has_word" (defArgs s_has_word) (defBody s_has_word) (defScope s_has_word) .none kV_has_word dc_has_word pm_has_word an_has_word cd_has_word ct_has_word,
    f_is_row := f_is_row,
    fd_is_row := PySem.W.fnOf "is_row" "is_row" (defArgs s_is_row) (defBody s_is_row) (defScope s_is_row) .none kV_is_row dc_is_row pm_is_row an_is_row cd_is_row ct_is_row,
    f_is_whole := f_is_whole,
    fd_is_whole := PySem.W.fnOf "is_whole" "is_whole" (defArgs s_is_whole) (defBody s_is_whole) (defScope s_is_whole) .none kV_is_whole dc_is_whole pm_is_whole an_is_whole cd_is_whole ct_is_whole,
    f_is_between := f_is_between,
    fd_is_between := PySem.W.fnOf "is_between" "is_between" (defArgs s_is_between) (defBody s_is_between) (defScope s_is_between) .none kV_is_between dc_is_between pm_is_between an_is_between cd_is_between ct_is_between,
    f_is_near := f_is_near,
    fd_is_near := PySem.W.fnOf "is_near" "is_near" (defArgs s_is_near) (defBody s_is_near) (defScope s_is_near) .none kV_is_near dc_is_near pm_is_near an_is_near cd_is_near ct_is_near,
    f_stands := f_stands,
    fd_stands := PySem.W.fnOf "stands" "stands" (defArgs s_stands) (defBody s_stands) (defScope s_stands) .none kV_stands dc_stands pm_stands an_stands cd_stands ct_stands,
    f_all_fit := f_all_fit,
    fd_all_fit := PySem.W.fnOf "all_fit" "all_fit" (defArgs s_all_fit) (defBody s_all_fit) (defScope s_all_fit) .none kV_all_fit dc_all_fit pm_all_fit an_all_fit cd_all_fit ct_all_fit,
    f_kinds_ahead := f_kinds_ahead,
    fd_kinds_ahead := PySem.W.fnOf "kinds_ahead" "kinds_ahead" (defArgs s_kinds_ahead) (defBody s_kinds_ahead) (defScope s_kinds_ahead) .none kV_kinds_ahead dc_kinds_ahead pm_kinds_ahead an_kinds_ahead cd_kinds_ahead ct_kinds_ahead,
    f_call_kind := f_call_kind,
    fd_call_kind := PySem.W.fnOf "call_kind" "call_kind" (defArgs s_call_kind) (defBody s_call_kind) (defScope s_call_kind) .none kV_call_kind dc_call_kind pm_call_kind an_call_kind cd_call_kind ct_call_kind,
    f_deed_kind := f_deed_kind,
    fd_deed_kind := PySem.W.fnOf "deed_kind" "deed_kind" (defArgs s_deed_kind) (defBody s_deed_kind) (defScope s_deed_kind) .none kV_deed_kind dc_deed_kind pm_deed_kind an_deed_kind cd_deed_kind ct_deed_kind,
    f_is_name := f_is_name,
    fd_is_name := PySem.W.fnOf "is_name" "is_name" (defArgs s_is_name) (defBody s_is_name) (defScope s_is_name) .none kV_is_name dc_is_name pm_is_name an_is_name cd_is_name ct_is_name,
    f_within_let := f_within_let,
    fd_within_let := PySem.W.fnOf "within_let" "within_let" (defArgs s_within_let) (defBody s_within_let) (defScope s_within_let) .none kV_within_let dc_within_let pm_within_let an_within_let cd_within_let ct_within_let,
    f_is_measure := f_is_measure,
    fd_is_measure := PySem.W.fnOf "is_measure" "is_measure" (defArgs s_is_measure) (defBody s_is_measure) (defScope s_is_measure) .none kV_is_measure dc_is_measure pm_is_measure an_is_measure cd_is_measure ct_is_measure,
    f_is_compared := f_is_compared,
    fd_is_compared := PySem.W.fnOf "is_compared" "is_compared" (defArgs s_is_compared) (defBody s_is_compared) (defScope s_is_compared) .none kV_is_compared dc_is_compared pm_is_compared an_is_compared cd_is_compared ct_is_compared,
    f_trees_within := f_trees_within,
    fd_trees_within := PySem.W.fnOf "trees_within" "trees_within" (defArgs s_trees_within) (defBody s_trees_within) (defScope s_trees_within) .none kV_trees_within dc_trees_within pm_trees_within an_trees_within cd_trees_within ct_trees_within,
    f_check_trees := f_check_trees,
    fd_check_trees := PySem.W.fnOf "check_trees" "check_trees" (defArgs s_check_trees) (defBody s_check_trees) (defScope s_check_trees) .none kV_check_trees dc_check_trees pm_check_trees an_check_trees cd_check_trees ct_check_trees,
    f_is_param := f_is_param,
    fd_is_param := PySem.W.fnOf "is_param" "is_param" (defArgs s_is_param) (defBody s_is_param) (defScope s_is_param) .none kV_is_param dc_is_param pm_is_param an_is_param cd_is_param ct_is_param,
    f_is_headed := f_is_headed,
    fd_is_headed := PySem.W.fnOf "is_headed" "is_headed" (defArgs s_is_headed) (defBody s_is_headed) (defScope s_is_headed) .none kV_is_headed dc_is_headed pm_is_headed an_is_headed cd_is_headed ct_is_headed,
    f_check_program := f_check_program,
    fd_check_program := PySem.W.fnOf "check_program" "check_program" (defArgs s_check_program) (defBody s_check_program) (defScope s_check_program) .none kV_check_program dc_check_program pm_check_program an_check_program cd_check_program ct_check_program,
    f_is_handed_number := f_is_handed_number,
    fd_is_handed_number := PySem.W.fnOf "is_handed_number" "is_handed_number" (defArgs s_is_handed_number) (defBody s_is_handed_number) (defScope s_is_handed_number) .none kV_is_handed_number dc_is_handed_number pm_is_handed_number an_is_handed_number cd_is_handed_number ct_is_handed_number,
    f_can_be_handed := f_can_be_handed,
    fd_can_be_handed := PySem.W.fnOf "can_be_handed" "can_be_handed" (defArgs s_can_be_handed) (defBody s_can_be_handed) (defScope s_can_be_handed) .none kV_can_be_handed dc_can_be_handed pm_can_be_handed an_can_be_handed cd_can_be_handed ct_can_be_handed,
    f_check_args := f_check_args,
    fd_check_args := PySem.W.fnOf "check_args" "check_args" (defArgs s_check_args) (defBody s_check_args) (defScope s_check_args) .none kV_check_args dc_check_args pm_check_args an_check_args cd_check_args ct_check_args,
    f_check_answers := f_check_answers,
    fd_check_answers := PySem.W.fnOf "check_answers" "check_answers" (defArgs s_check_answers) (defBody s_check_answers) (defScope s_check_answers) .none kV_check_answers dc_check_answers pm_check_answers an_check_answers cd_check_answers ct_check_answers,
    f_numbered := f_numbered,
    fd_numbered := PySem.W.fnOf "numbered" "numbered" (defArgs s_numbered) (defBody s_numbered) (defScope s_numbered) .none kV_numbered dc_numbered pm_numbered an_numbered cd_numbered ct_numbered,
    f_Run_init := f_Run_init,
    fd_Run_init := PySem.W.fnOf "__init__" "Run.__init__" (defArgs s_Run_init) (defBody s_Run_init) (defScope s_Run_init) .none kV_Run_init dc_Run_init pm_Run_init an_Run_init cd_Run_init ct_Run_init,
    f_Call_init := f_Call_init,
    fd_Call_init := PySem.W.fnOf "__init__" "Call.__init__" (defArgs s_Call_init) (defBody s_Call_init) (defScope s_Call_init) .none kV_Call_init dc_Call_init pm_Call_init an_Call_init cd_Call_init ct_Call_init,
    f_Run_begin := f_Run_begin,
    fd_Run_begin := PySem.W.fnOf "begin" "Run.begin" (defArgs s_Run_begin) (defBody s_Run_begin) (defScope s_Run_begin) .none kV_Run_begin dc_Run_begin pm_Run_begin an_Run_begin cd_Run_begin ct_Run_begin,
    f_measured := f_measured,
    fd_measured := PySem.W.fnOf "measured" "measured" (defArgs s_measured) (defBody s_measured) (defScope s_measured) .none kV_measured dc_measured pm_measured an_measured cd_measured ct_measured,
    f_is_so := f_is_so,
    fd_is_so := PySem.W.fnOf "is_so" "is_so" (defArgs s_is_so) (defBody s_is_so) (defScope s_is_so) .none kV_is_so dc_is_so pm_is_so an_is_so cd_is_so ct_is_so,
    f_Run_bind := f_Run_bind,
    fd_Run_bind := PySem.W.fnOf "bind" "Run.bind" (defArgs s_Run_bind) (defBody s_Run_bind) (defScope s_Run_bind) .none kV_Run_bind dc_Run_bind pm_Run_bind an_Run_bind cd_Run_bind ct_Run_bind,
    f_Run_tell := f_Run_tell,
    fd_Run_tell := PySem.W.fnOf "tell" "Run.tell" (defArgs s_Run_tell) (defBody s_Run_tell) (defScope s_Run_tell) .none kV_Run_tell dc_Run_tell pm_Run_tell an_Run_tell cd_Run_tell ct_Run_tell,
    f_fault_of := f_fault_of,
    fd_fault_of := PySem.W.fnOf "fault_of" "fault_of" (defArgs s_fault_of) (defBody s_fault_of) (defScope s_fault_of) .none kV_fault_of dc_fault_of pm_fault_of an_fault_of cd_fault_of ct_fault_of,
    f_Run_let_call := f_Run_let_call,
    fd_Run_let_call := PySem.W.fnOf "let_call" "Run.let_call" (defArgs s_Run_let_call) (defBody s_Run_let_call) (defScope s_Run_let_call) .none kV_Run_let_call dc_Run_let_call pm_Run_let_call an_Run_let_call cd_Run_let_call ct_Run_let_call,
    f_worth_of := f_worth_of,
    fd_worth_of := PySem.W.fnOf "worth_of" "worth_of" (defArgs s_worth_of) (defBody s_worth_of) (defScope s_worth_of) .none kV_worth_of dc_worth_of pm_worth_of an_worth_of cd_worth_of ct_worth_of,
    f_Run_next_answer := f_Run_next_answer,
    fd_Run_next_answer := PySem.W.fnOf "next_answer" "Run.next_answer" (defArgs s_Run_next_answer) (defBody s_Run_next_answer) (defScope s_Run_next_answer) .none kV_Run_next_answer dc_Run_next_answer pm_Run_next_answer an_Run_next_answer cd_Run_next_answer ct_Run_next_answer,
    f_Run_let := f_Run_let,
    fd_Run_let := PySem.W.fnOf "let" "Run.let" (defArgs s_Run_let) (defBody s_Run_let) (defScope s_Run_let) .none kV_Run_let dc_Run_let pm_Run_let an_Run_let cd_Run_let ct_Run_let,
    f_Run_step := f_Run_step,
    fd_Run_step := PySem.W.fnOf "step" "Run.step" (defArgs s_Run_step) (defBody s_Run_step) (defScope s_Run_step) .none kV_Run_step dc_Run_step pm_Run_step an_Run_step cd_Run_step ct_Run_step,
    f_Run_go := f_Run_go,
    fd_Run_go := PySem.W.fnOf "go" "Run.go" (defArgs s_Run_go) (defBody s_Run_go) (defScope s_Run_go) .none kV_Run_go dc_Run_go pm_Run_go an_Run_go cd_Run_go ct_Run_go,
    f_Run_told_calls := f_Run_told_calls,
    fd_Run_told_calls := PySem.W.fnOf "told_calls" "Run.told_calls" (defArgs s_Run_told_calls) (defBody s_Run_told_calls) (defScope s_Run_told_calls) .none kV_Run_told_calls dc_Run_told_calls pm_Run_told_calls an_Run_told_calls cd_Run_told_calls ct_Run_told_calls,
    f_run := f_run,
    fd_run := PySem.W.fnOf "run" "run" (defArgs s_run) (defBody s_run) (defScope s_run) .none (.ref D_run) dc_run pm_run an_run cd_run ct_run,
    f_w_led := f_w_led,
    fd_w_led := PySem.W.fnOf "_law_led" "_law_led" (defArgs s_w_led) (defBody s_w_led) (defScope s_w_led) .none kV_w_led dc_w_led pm_w_led an_w_led cd_w_led ct_w_led,
    f_law := fa,
    fd_law := PySem.W.fnOf "law" "law" (defArgs s_law) (defBody s_law) (defScope s_law) .none kV_law dc_law pm_law an_law cd_law ct_law,
    a_DEEDS := x_DEEDS,
    e_DEEDS := e_DEEDS,
    m_DEEDS := n_DEEDS,
    a_DEEDS_num := x_DEEDS_num,
    a_DEEDS_num_0 := x_DEEDS_num_0,
    a_DEEDS_sum := x_DEEDS_sum,
    a_DEEDS_sum_0 := x_DEEDS_sum_0,
    a_DEEDS_len := x_DEEDS_len,
    a_DEEDS_len_0 := x_DEEDS_len_0,
    a_DEEDS_nil := x_DEEDS_nil,
    a_DEEDS_nil_0 := x_DEEDS_nil_0,
    a_DEEDS_put := x_DEEDS_put,
    a_DEEDS_put_0 := x_DEEDS_put_0,
    a_DEEDS_head := x_DEEDS_head,
    a_DEEDS_head_0 := x_DEEDS_head_0,
    a_DEEDS_tail := x_DEEDS_tail,
    a_DEEDS_tail_0 := x_DEEDS_tail_0,
    a_DEEDS_at := x_DEEDS_at,
    a_DEEDS_at_0 := x_DEEDS_at_0,
    a_DEEDS_ask := x_DEEDS_ask,
    a_DEEDS_ask_0 := x_DEEDS_ask_0,
    t_FARTHEST := k_FARTHEST,
    t_FARTHEST_HANDED := k_FARTHEST_HANDED,
    t_HIGHEST_MOST := k_HIGHEST_MOST,
    a_KINDS := x_KINDS,
    a_MEASURES := x_MEASURES,
    e_MEASURES := e_MEASURES,
    m_MEASURES := n_MEASURES,
    t_MOST_DEPTH := k_MOST_DEPTH,
    t_MOST_FUNCTIONS := k_MOST_FUNCTIONS,
    t_MOST_ITEMS := k_MOST_ITEMS,
    t_MOST_PARAMS := k_MOST_PARAMS,
    t_MOST_SIGNS := k_MOST_SIGNS,
    t_MOST_TREES := k_MOST_TREES,
    a_TREES := x_TREES,
    e_TREES := e_TREES,
    m_TREES := n_TREES }
  have T : Tx K w mg A := {
    cl_Call := ⟨pg_Call, hd_Call, po_Call, sa_Call⟩,
    g_Call := PySem.W.mg_of X G aC_Call,
    a_Call_row := na_Call_row,
    a_Call_function := na_Call_function,
    a_Call_place := na_Call_place,
    a_Call_worths := na_Call_worths,
    cl_Run := ⟨pg_Run, hd_Run, po_Run, sa_Run⟩,
    g_Run := PySem.W.mg_of X G aC_Run,
    a_Run_names := na_Run_names,
    a_Run_trees := na_Run_trees,
    a_Run_answers := na_Run_answers,
    a_Run_asked := na_Run_asked,
    a_Run_most := na_Run_most,
    a_Run_begun := na_Run_begun,
    a_Run_told := na_Run_told,
    a_Run_open_calls := na_Run_open_calls,
    g_w_start := PySem.W.mg_of X G a_w_start,
    F_w_start := fun_mk l_w_start c_w_start k_w_start,
    b_w_start := (fun_mk (st := s_w_start) l_w_start c_w_start k_w_start).binds (ps := P_w_start) fun _ _ _ _ _ _ us hl => match us, hl with | [_], _ => rfl,
    g_w_drawn := PySem.W.mg_of X G a_w_drawn,
    F_w_drawn := fun_mk l_w_drawn c_w_drawn k_w_drawn,
    b_w_drawn := (fun_mk (st := s_w_drawn) l_w_drawn c_w_drawn k_w_drawn).binds (ps := P_w_drawn) fun _ _ _ _ _ _ us hl => match us, hl with | [_, _], _ => rfl,
    g_w_of := PySem.W.mg_of X G a_w_of,
    F_w_of := fun_mk l_w_of c_w_of k_w_of,
    b_w_of := (fun_mk (st := s_w_of) l_w_of c_w_of k_w_of).binds (ps := P_w_of) fun _ _ _ _ _ _ us hl => match us, hl with | [_, _], _ => rfl,
    g_w_measure := PySem.W.mg_of X G a_w_measure,
    F_w_measure := fun_mk l_w_measure c_w_measure k_w_measure,
    b_w_measure := (fun_mk (st := s_w_measure) l_w_measure c_w_measure k_w_measure).binds (ps := P_w_measure) fun _ _ _ _ _ _ us hl => match us, hl with | [_, _], _ => rfl,
    g_w_deed := PySem.W.mg_of X G a_w_deed,
    F_w_deed := fun_mk l_w_deed c_w_deed k_w_deed,
    b_w_deed := (fun_mk (st := s_w_deed) l_w_deed c_w_deed k_w_deed).binds (ps := P_w_deed) fun _ _ _ _ _ _ us hl => match us, hl with | [_, _, _], _ => rfl,
    g_w_tree := PySem.W.mg_of X G a_w_tree,
    F_w_tree := fun_mk l_w_tree c_w_tree k_w_tree,
    b_w_tree := (fun_mk (st := s_w_tree) l_w_tree c_w_tree k_w_tree).binds (ps := P_w_tree) fun _ _ _ _ _ _ us hl => match us, hl with | [_, _, _, _, _], _ => rfl,
    g_w_program := PySem.W.mg_of X G a_w_program,
    F_w_program := fun_mk l_w_program c_w_program k_w_program,
    b_w_program := (fun_mk (st := s_w_program) l_w_program c_w_program k_w_program).binds (ps := P_w_program) fun _ _ _ _ _ _ us hl => match us, hl with | [_, _, _], _ => rfl,
    g_w_args := PySem.W.mg_of X G a_w_args,
    F_w_args := fun_mk l_w_args c_w_args k_w_args,
    b_w_args := (fun_mk (st := s_w_args) l_w_args c_w_args k_w_args).binds (ps := P_w_args) fun _ _ _ _ _ _ us hl => match us, hl with | [_, _], _ => rfl,
    g_w_answers := PySem.W.mg_of X G a_w_answers,
    F_w_answers := fun_mk l_w_answers c_w_answers k_w_answers,
    b_w_answers := (fun_mk (st := s_w_answers) l_w_answers c_w_answers k_w_answers).binds (ps := P_w_answers) fun _ _ _ _ _ _ us hl => match us, hl with | [_], _ => rfl,
    g_w_loops := PySem.W.mg_of X G a_w_loops,
    F_w_loops := fun_mk l_w_loops c_w_loops k_w_loops,
    b_w_loops := (fun_mk (st := s_w_loops) l_w_loops c_w_loops k_w_loops).binds (ps := P_w_loops) fun _ _ _ _ _ _ us hl => match us, hl with | [_], _ => rfl,
    g_w_same := PySem.W.mg_of X G a_w_same,
    F_w_same := fun_mk l_w_same c_w_same k_w_same,
    b_w_same := (fun_mk (st := s_w_same) l_w_same c_w_same k_w_same).binds (ps := P_w_same) fun _ _ _ _ _ _ us hl => match us, hl with | [_, _], _ => rfl,
    g_has_word := PySem.W.mg_of X G a_has_word,
    F_has_word := fun_mk l_has_word c_has_word k_has_word,
    b_has_word := (fun_mk (st := s_has_word) l_has_word c_has_word k_has_word).binds (ps := P_has_word) fun _ _ _ _ _ _ us hl => match us, hl with | [_], _ => rfl,
    g_is_row := PySem.W.mg_of X G a_is_row,
    F_is_row := fun_mk l_is_row c_is_row k_is_row,
    b_is_row := (fun_mk (st := s_is_row) l_is_row c_is_row k_is_row).binds (ps := P_is_row) fun _ _ _ _ _ _ us hl => match us, hl with | [_, _], _ => rfl,
    g_is_whole := PySem.W.mg_of X G a_is_whole,
    F_is_whole := fun_mk l_is_whole c_is_whole k_is_whole,
    b_is_whole := (fun_mk (st := s_is_whole) l_is_whole c_is_whole k_is_whole).binds (ps := P_is_whole) fun _ _ _ _ _ _ us hl => match us, hl with | [_], _ => rfl,
    g_is_between := PySem.W.mg_of X G a_is_between,
    F_is_between := fun_mk l_is_between c_is_between k_is_between,
    b_is_between := (fun_mk (st := s_is_between) l_is_between c_is_between k_is_between).binds (ps := P_is_between) fun _ _ _ _ _ _ us hl => match us, hl with | [_, _, _], _ => rfl,
    g_is_near := PySem.W.mg_of X G a_is_near,
    F_is_near := fun_mk l_is_near c_is_near k_is_near,
    b_is_near := (fun_mk (st := s_is_near) l_is_near c_is_near k_is_near).binds (ps := P_is_near) fun _ _ _ _ _ _ us hl => match us, hl with | [_], _ => rfl,
    g_stands := PySem.W.mg_of X G a_stands,
    F_stands := fun_mk l_stands c_stands k_stands,
    b_stands := (fun_mk (st := s_stands) l_stands c_stands k_stands).binds (ps := P_stands) fun _ _ _ _ _ _ us hl => match us, hl with | [_, _, _], _ => rfl,
    g_all_fit := PySem.W.mg_of X G a_all_fit,
    F_all_fit := fun_mk l_all_fit c_all_fit k_all_fit,
    b_all_fit := (fun_mk (st := s_all_fit) l_all_fit c_all_fit k_all_fit).binds (ps := P_all_fit) fun _ _ _ _ _ _ us hl => match us, hl with | [_, _, _], _ => rfl,
    g_kinds_ahead := PySem.W.mg_of X G a_kinds_ahead,
    F_kinds_ahead := fun_mk l_kinds_ahead c_kinds_ahead k_kinds_ahead,
    b_kinds_ahead := (fun_mk (st := s_kinds_ahead) l_kinds_ahead c_kinds_ahead k_kinds_ahead).binds (ps := P_kinds_ahead) fun _ _ _ _ _ _ us hl => match us, hl with | [_], _ => rfl,
    g_call_kind := PySem.W.mg_of X G a_call_kind,
    F_call_kind := fun_mk l_call_kind c_call_kind k_call_kind,
    b_call_kind := (fun_mk (st := s_call_kind) l_call_kind c_call_kind k_call_kind).binds (ps := P_call_kind) fun _ _ _ _ _ _ us hl => match us, hl with | [_, _, _], _ => rfl,
    g_deed_kind := PySem.W.mg_of X G a_deed_kind,
    F_deed_kind := fun_mk l_deed_kind c_deed_kind k_deed_kind,
    b_deed_kind := (fun_mk (st := s_deed_kind) l_deed_kind c_deed_kind k_deed_kind).binds (ps := P_deed_kind) fun _ _ _ _ _ _ us hl => match us, hl with | [_, _, _], _ => rfl,
    g_is_name := PySem.W.mg_of X G a_is_name,
    F_is_name := fun_mk l_is_name c_is_name k_is_name,
    b_is_name := (fun_mk (st := s_is_name) l_is_name c_is_name k_is_name).binds (ps := P_is_name) fun _ _ _ _ _ _ us hl => match us, hl with | [_], _ => rfl,
    g_within_let := PySem.W.mg_of X G a_within_let,
    F_within_let := fun_mk l_within_let c_within_let k_within_let,
    b_within_let := (fun_mk (st := s_within_let) l_within_let c_within_let k_within_let).binds (ps := P_within_let) fun _ _ _ _ _ _ us hl => match us, hl with | [_, _, _], _ => rfl,
    g_is_measure := PySem.W.mg_of X G a_is_measure,
    F_is_measure := fun_mk l_is_measure c_is_measure k_is_measure,
    b_is_measure := (fun_mk (st := s_is_measure) l_is_measure c_is_measure k_is_measure).binds (ps := P_is_measure) fun _ _ _ _ _ _ us hl => match us, hl with | [_, _], _ => rfl,
    g_is_compared := PySem.W.mg_of X G a_is_compared,
    F_is_compared := fun_mk l_is_compared c_is_compared k_is_compared,
    b_is_compared := (fun_mk (st := s_is_compared) l_is_compared c_is_compared k_is_compared).binds (ps := P_is_compared) fun _ _ _ _ _ _ us hl => match us, hl with | [_, _], _ => rfl,
    g_trees_within := PySem.W.mg_of X G a_trees_within,
    F_trees_within := fun_mk l_trees_within c_trees_within k_trees_within,
    b_trees_within := (fun_mk (st := s_trees_within) l_trees_within c_trees_within k_trees_within).binds (ps := P_trees_within) fun _ _ _ _ _ _ us hl => match us, hl with | [_, _, _, _], _ => rfl,
    g_check_trees := PySem.W.mg_of X G a_check_trees,
    F_check_trees := fun_mk l_check_trees c_check_trees k_check_trees,
    b_check_trees := (fun_mk (st := s_check_trees) l_check_trees c_check_trees k_check_trees).binds (ps := P_check_trees) fun _ _ _ _ _ _ us hl => match us, hl with | [_, _], _ => rfl,
    g_is_param := PySem.W.mg_of X G a_is_param,
    F_is_param := fun_mk l_is_param c_is_param k_is_param,
    b_is_param := (fun_mk (st := s_is_param) l_is_param c_is_param k_is_param).binds (ps := P_is_param) fun _ _ _ _ _ _ us hl => match us, hl with | [_], _ => rfl,
    g_is_headed := PySem.W.mg_of X G a_is_headed,
    F_is_headed := fun_mk l_is_headed c_is_headed k_is_headed,
    b_is_headed := (fun_mk (st := s_is_headed) l_is_headed c_is_headed k_is_headed).binds (ps := P_is_headed) fun _ _ _ _ _ _ us hl => match us, hl with | [_], _ => rfl,
    g_check_program := PySem.W.mg_of X G a_check_program,
    F_check_program := fun_mk l_check_program c_check_program k_check_program,
    b_check_program := (fun_mk (st := s_check_program) l_check_program c_check_program k_check_program).binds (ps := P_check_program) fun _ _ _ _ _ _ us hl => match us, hl with | [_], _ => rfl,
    g_is_handed_number := PySem.W.mg_of X G a_is_handed_number,
    F_is_handed_number := fun_mk l_is_handed_number c_is_handed_number k_is_handed_number,
    b_is_handed_number := (fun_mk (st := s_is_handed_number) l_is_handed_number c_is_handed_number k_is_handed_number).binds (ps := P_is_handed_number) fun _ _ _ _ _ _ us hl => match us, hl with | [_], _ => rfl,
    g_can_be_handed := PySem.W.mg_of X G a_can_be_handed,
    F_can_be_handed := fun_mk l_can_be_handed c_can_be_handed k_can_be_handed,
    b_can_be_handed := (fun_mk (st := s_can_be_handed) l_can_be_handed c_can_be_handed k_can_be_handed).binds (ps := P_can_be_handed) fun _ _ _ _ _ _ us hl => match us, hl with | [_, _], _ => rfl,
    g_check_args := PySem.W.mg_of X G a_check_args,
    F_check_args := fun_mk l_check_args c_check_args k_check_args,
    b_check_args := (fun_mk (st := s_check_args) l_check_args c_check_args k_check_args).binds (ps := P_check_args) fun _ _ _ _ _ _ us hl => match us, hl with | [_, _], _ => rfl,
    g_check_answers := PySem.W.mg_of X G a_check_answers,
    F_check_answers := fun_mk l_check_answers c_check_answers k_check_answers,
    b_check_answers := (fun_mk (st := s_check_answers) l_check_answers c_check_answers k_check_answers).binds (ps := P_check_answers) fun _ _ _ _ _ _ us hl => match us, hl with | [_], _ => rfl,
    g_numbered := PySem.W.mg_of X G a_numbered,
    F_numbered := fun_mk l_numbered c_numbered k_numbered,
    b_numbered := (fun_mk (st := s_numbered) l_numbered c_numbered k_numbered).binds (ps := P_numbered) fun _ _ _ _ _ _ us hl => match us, hl with | [_], _ => rfl,
    M_Run := ⟨mk_Run, a_Run_init, i_Run_init, kc_Run⟩,
    F_Run_init := fun_mk l_Run_init c_Run_init k_Run_init,
    b_Run_init := (fun_mk (st := s_Run_init) l_Run_init c_Run_init k_Run_init).binds (ps := P_Run_init) fun _ _ _ _ _ _ us hl => match us, hl with | [_, _, _, _], _ => rfl,
    M_Call := ⟨mk_Call, a_Call_init, i_Call_init, kc_Call⟩,
    F_Call_init := fun_mk l_Call_init c_Call_init k_Call_init,
    b_Call_init := (fun_mk (st := s_Call_init) l_Call_init c_Call_init k_Call_init).binds (ps := P_Call_init) fun _ _ _ _ _ _ us hl => match us, hl with | [_, _, _, _], _ => rfl,
    m_Run_begin := ⟨a_Run_begin, i_Run_begin, k_Run_begin⟩,
    F_Run_begin := fun_mk l_Run_begin c_Run_begin k_Run_begin,
    b_Run_begin := (fun_mk (st := s_Run_begin) l_Run_begin c_Run_begin k_Run_begin).binds (ps := P_Run_begin) fun _ _ _ _ _ _ us hl => match us, hl with | [_, _, _], _ => rfl,
    g_measured := PySem.W.mg_of X G a_measured,
    F_measured := fun_mk l_measured c_measured k_measured,
    b_measured := (fun_mk (st := s_measured) l_measured c_measured k_measured).binds (ps := P_measured) fun _ _ _ _ _ _ us hl => match us, hl with | [_, _], _ => rfl,
    g_is_so := PySem.W.mg_of X G a_is_so,
    F_is_so := fun_mk l_is_so c_is_so k_is_so,
    b_is_so := (fun_mk (st := s_is_so) l_is_so c_is_so k_is_so).binds (ps := P_is_so) fun _ _ _ _ _ _ us hl => match us, hl with | [_, _], _ => rfl,
    m_Run_bind := ⟨a_Run_bind, i_Run_bind, k_Run_bind⟩,
    F_Run_bind := fun_mk l_Run_bind c_Run_bind k_Run_bind,
    b_Run_bind := (fun_mk (st := s_Run_bind) l_Run_bind c_Run_bind k_Run_bind).binds (ps := P_Run_bind) fun _ _ _ _ _ _ us hl => match us, hl with | [_, _, _, _], _ => rfl,
    m_Run_tell := ⟨a_Run_tell, i_Run_tell, k_Run_tell⟩,
    F_Run_tell := fun_mk l_Run_tell c_Run_tell k_Run_tell,
    b_Run_tell := (fun_mk (st := s_Run_tell) l_Run_tell c_Run_tell k_Run_tell).binds (ps := P_Run_tell) fun _ _ _ _ _ _ us hl => match us, hl with | [_, _], _ => rfl,
    g_fault_of := PySem.W.mg_of X G a_fault_of,
    F_fault_of := fun_mk l_fault_of c_fault_of k_fault_of,
    b_fault_of := (fun_mk (st := s_fault_of) l_fault_of c_fault_of k_fault_of).binds (ps := P_fault_of) fun _ _ _ _ _ _ us hl => match us, hl with | [_, _], _ => rfl,
    m_Run_let_call := ⟨a_Run_let_call, i_Run_let_call, k_Run_let_call⟩,
    F_Run_let_call := fun_mk l_Run_let_call c_Run_let_call k_Run_let_call,
    b_Run_let_call := (fun_mk (st := s_Run_let_call) l_Run_let_call c_Run_let_call k_Run_let_call).binds (ps := P_Run_let_call) fun _ _ _ _ _ _ us hl => match us, hl with | [_, _, _], _ => rfl,
    g_worth_of := PySem.W.mg_of X G a_worth_of,
    F_worth_of := fun_mk l_worth_of c_worth_of k_worth_of,
    b_worth_of := (fun_mk (st := s_worth_of) l_worth_of c_worth_of k_worth_of).binds (ps := P_worth_of) fun _ _ _ _ _ _ us hl => match us, hl with | [_, _], _ => rfl,
    m_Run_next_answer := ⟨a_Run_next_answer, i_Run_next_answer, k_Run_next_answer⟩,
    F_Run_next_answer := fun_mk l_Run_next_answer c_Run_next_answer k_Run_next_answer,
    b_Run_next_answer := (fun_mk (st := s_Run_next_answer) l_Run_next_answer c_Run_next_answer k_Run_next_answer).binds (ps := P_Run_next_answer) fun _ _ _ _ _ _ us hl => match us, hl with | [_], _ => rfl,
    m_Run_let := ⟨a_Run_let, i_Run_let, k_Run_let⟩,
    F_Run_let := fun_mk l_Run_let c_Run_let k_Run_let,
    b_Run_let := (fun_mk (st := s_Run_let) l_Run_let c_Run_let k_Run_let).binds (ps := P_Run_let) fun _ _ _ _ _ _ us hl => match us, hl with | [_, _, _, _], _ => rfl,
    m_Run_step := ⟨a_Run_step, i_Run_step, k_Run_step⟩,
    F_Run_step := fun_mk l_Run_step c_Run_step k_Run_step,
    b_Run_step := (fun_mk (st := s_Run_step) l_Run_step c_Run_step k_Run_step).binds (ps := P_Run_step) fun _ _ _ _ _ _ us hl => match us, hl with | [_], _ => rfl,
    m_Run_go := ⟨a_Run_go, i_Run_go, k_Run_go⟩,
    F_Run_go := fun_mk l_Run_go c_Run_go k_Run_go,
    b_Run_go := (fun_mk (st := s_Run_go) l_Run_go c_Run_go k_Run_go).binds (ps := P_Run_go) fun _ _ _ _ _ _ us hl => match us, hl with | [_, _], _ => rfl,
    m_Run_told_calls := ⟨a_Run_told_calls, i_Run_told_calls, k_Run_told_calls⟩,
    F_Run_told_calls := fun_mk l_Run_told_calls c_Run_told_calls k_Run_told_calls,
    b_Run_told_calls := (fun_mk (st := s_Run_told_calls) l_Run_told_calls c_Run_told_calls k_Run_told_calls).binds (ps := P_Run_told_calls) fun _ _ _ _ _ _ us hl => match us, hl with | [_], _ => rfl,
    g_run := PySem.W.mg_of X G a_run,
    F_run := ⟨⟨oc_run, od_run, .none, .ref D_run, dc_run, pm_run, an_run, cd_run, ct_run, sl_run, rfl, l_run, c_run, .inl ⟨rfl, rfl⟩, .inr ⟨D_run, rfl, fun q hq => by rw [List.mem_singleton.mp hq]; exact ⟨_, w_run_most, ⟨_, rfl⟩⟩⟩⟩, k_run⟩,
    g_w_led := PySem.W.mg_of X G a_w_led,
    F_w_led := fun_mk l_w_led c_w_led k_w_led,
    b_w_led := (fun_mk (st := s_w_led) l_w_led c_w_led k_w_led).binds (ps := P_w_led) fun _ _ _ _ _ _ us hl => match us, hl with | [_, _, _], _ => rfl,
    g_law := PySem.W.mg_of X G a_law,
    F_law := fun_mk l_law c_law k_law,
    b_law := (fun_mk (st := s_law) l_law c_law k_law).binds (ps := P_law) fun _ _ _ _ _ _ us hl => match us, hl with | [_], _ => rfl,
    n_all := PySem.W.mg_none_of X G n_all,
    n_bool := PySem.W.mg_none_of X G n_bool,
    n_dict := PySem.W.mg_none_of X G n_dict,
    n_enumerate := PySem.W.mg_none_of X G n_enumerate,
    n_int := PySem.W.mg_none_of X G n_int,
    n_isinstance := PySem.W.mg_none_of X G n_isinstance,
    n_len := PySem.W.mg_none_of X G n_len,
    n_list := PySem.W.mg_none_of X G n_list,
    n_max := PySem.W.mg_none_of X G n_max,
    n_range := PySem.W.mg_none_of X G n_range,
    n_reversed := PySem.W.mg_none_of X G n_reversed,
    n_str := PySem.W.mg_none_of X G n_str,
    n_tuple := PySem.W.mg_none_of X G n_tuple,
    n_zip := PySem.W.mg_none_of X G n_zip,
    c_DEEDS := PySem.W.mg_of X G m_DEEDS,
    d_DEEDS := ⟨t_DEEDS, v_DEEDS, z_DEEDS⟩,
    y_DEEDS_num := ⟨_, _, _, t_DEEDS, v_DEEDS, y_DEEDS_num, rfl⟩,
    q_DEEDS_num := fun _ => .inr ⟨_, i_DEEDS_num, n_DEEDS_num, t_DEEDS_num, rfl, rfl, small z_DEEDS_num, v_DEEDS_num⟩,
    q_DEEDS_num_0 := fun _ => .inr ⟨_, i_DEEDS_num_0, n_DEEDS_num_0, t_DEEDS_num_0, rfl, rfl, small z_DEEDS_num_0, v_DEEDS_num_0⟩,
    y_DEEDS_sum := ⟨_, _, _, t_DEEDS, v_DEEDS, y_DEEDS_sum, rfl⟩,
    q_DEEDS_sum := fun _ => .inr ⟨_, i_DEEDS_sum, n_DEEDS_sum, t_DEEDS_sum, rfl, rfl, small z_DEEDS_sum, v_DEEDS_sum⟩,
    q_DEEDS_sum_0 := fun _ => .inr ⟨_, i_DEEDS_sum_0, n_DEEDS_sum_0, t_DEEDS_sum_0, rfl, rfl, small z_DEEDS_sum_0, v_DEEDS_sum_0⟩,
    y_DEEDS_len := ⟨_, _, _, t_DEEDS, v_DEEDS, y_DEEDS_len, rfl⟩,
    q_DEEDS_len := fun _ => .inr ⟨_, i_DEEDS_len, n_DEEDS_len, t_DEEDS_len, rfl, rfl, small z_DEEDS_len, v_DEEDS_len⟩,
    q_DEEDS_len_0 := fun _ => .inr ⟨_, i_DEEDS_len_0, n_DEEDS_len_0, t_DEEDS_len_0, rfl, rfl, small z_DEEDS_len_0, v_DEEDS_len_0⟩,
    y_DEEDS_nil := ⟨_, _, _, t_DEEDS, v_DEEDS, y_DEEDS_nil, rfl⟩,
    q_DEEDS_nil := fun _ => .inr ⟨_, i_DEEDS_nil, n_DEEDS_nil, t_DEEDS_nil, rfl, rfl, small z_DEEDS_nil, v_DEEDS_nil⟩,
    q_DEEDS_nil_0 := fun _ => .inr ⟨_, i_DEEDS_nil_0, n_DEEDS_nil_0, t_DEEDS_nil_0, rfl, rfl, small z_DEEDS_nil_0, v_DEEDS_nil_0⟩,
    y_DEEDS_put := ⟨_, _, _, t_DEEDS, v_DEEDS, y_DEEDS_put, rfl⟩,
    q_DEEDS_put := fun _ => .inr ⟨_, i_DEEDS_put, n_DEEDS_put, t_DEEDS_put, rfl, rfl, small z_DEEDS_put, v_DEEDS_put⟩,
    q_DEEDS_put_0 := fun _ => .inr ⟨_, i_DEEDS_put_0, n_DEEDS_put_0, t_DEEDS_put_0, rfl, rfl, small z_DEEDS_put_0, v_DEEDS_put_0⟩,
    y_DEEDS_head := ⟨_, _, _, t_DEEDS, v_DEEDS, y_DEEDS_head, rfl⟩,
    q_DEEDS_head := fun _ => .inr ⟨_, i_DEEDS_head, n_DEEDS_head, t_DEEDS_head, rfl, rfl, small z_DEEDS_head, v_DEEDS_head⟩,
    q_DEEDS_head_0 := fun _ => .inr ⟨_, i_DEEDS_head_0, n_DEEDS_head_0, t_DEEDS_head_0, rfl, rfl, small z_DEEDS_head_0, v_DEEDS_head_0⟩,
    y_DEEDS_tail := ⟨_, _, _, t_DEEDS, v_DEEDS, y_DEEDS_tail, rfl⟩,
    q_DEEDS_tail := fun _ => .inr ⟨_, i_DEEDS_tail, n_DEEDS_tail, t_DEEDS_tail, rfl, rfl, small z_DEEDS_tail, v_DEEDS_tail⟩,
    q_DEEDS_tail_0 := fun _ => .inr ⟨_, i_DEEDS_tail_0, n_DEEDS_tail_0, t_DEEDS_tail_0, rfl, rfl, small z_DEEDS_tail_0, v_DEEDS_tail_0⟩,
    y_DEEDS_at := ⟨_, _, _, t_DEEDS, v_DEEDS, y_DEEDS_at, rfl⟩,
    q_DEEDS_at := fun _ => .inr ⟨_, i_DEEDS_at, n_DEEDS_at, t_DEEDS_at, rfl, rfl, small z_DEEDS_at, v_DEEDS_at⟩,
    q_DEEDS_at_0 := fun _ => .inr ⟨_, i_DEEDS_at_0, n_DEEDS_at_0, t_DEEDS_at_0, rfl, rfl, small z_DEEDS_at_0, v_DEEDS_at_0⟩,
    y_DEEDS_ask := ⟨_, _, _, t_DEEDS, v_DEEDS, y_DEEDS_ask, rfl⟩,
    q_DEEDS_ask := fun _ => .inr ⟨_, i_DEEDS_ask, n_DEEDS_ask, t_DEEDS_ask, rfl, rfl, small z_DEEDS_ask, v_DEEDS_ask⟩,
    q_DEEDS_ask_0 := fun _ => .inr ⟨_, i_DEEDS_ask_0, n_DEEDS_ask_0, t_DEEDS_ask_0, rfl, rfl, small z_DEEDS_ask_0, v_DEEDS_ask_0⟩,
    c_FARTHEST := PySem.W.mg_of X G m_FARTHEST,
    c_FARTHEST_HANDED := PySem.W.mg_of X G m_FARTHEST_HANDED,
    c_HIGHEST_MOST := PySem.W.mg_of X G m_HIGHEST_MOST,
    c_KINDS := PySem.W.mg_of X G m_KINDS,
    q_KINDS := fun _ => .inr ⟨_, i_KINDS, n_KINDS, t_KINDS, rfl, rfl, small z_KINDS, v_KINDS⟩,
    c_MEASURES := PySem.W.mg_of X G m_MEASURES,
    d_MEASURES := ⟨t_MEASURES, v_MEASURES, z_MEASURES⟩,
    y_MEASURES_of := ⟨_, _, _, t_MEASURES, v_MEASURES, y_MEASURES_of, ⟨_, rfl⟩⟩,
    y_MEASURES_len := ⟨_, _, _, t_MEASURES, v_MEASURES, y_MEASURES_len, ⟨_, rfl⟩⟩,
    c_MOST_DEPTH := PySem.W.mg_of X G m_MOST_DEPTH,
    c_MOST_FUNCTIONS := PySem.W.mg_of X G m_MOST_FUNCTIONS,
    c_MOST_ITEMS := PySem.W.mg_of X G m_MOST_ITEMS,
    c_MOST_PARAMS := PySem.W.mg_of X G m_MOST_PARAMS,
    c_MOST_SIGNS := PySem.W.mg_of X G m_MOST_SIGNS,
    c_MOST_TREES := PySem.W.mg_of X G m_MOST_TREES,
    c_TREES := PySem.W.mg_of X G m_TREES,
    d_TREES := ⟨t_TREES, v_TREES, z_TREES⟩,
    y_TREES_let := ⟨_, _, _, t_TREES, v_TREES, y_TREES_let, ⟨_, rfl⟩⟩,
    y_TREES_if := ⟨_, _, _, t_TREES, v_TREES, y_TREES_if, ⟨_, rfl⟩⟩,
    y_TREES_claim := ⟨_, _, _, t_TREES, v_TREES, y_TREES_claim, ⟨_, rfl⟩⟩,
    y_TREES_tell := ⟨_, _, _, t_TREES, v_TREES, y_TREES_tell, ⟨_, rfl⟩⟩ }
  exact ⟨A.fd_law, fun s v => .of_eq rfl, fun base _ _ => ok_law (P := l.prog) (base := base) T⟩
end Cs
open PySem PySem.W PyProof.Rows in
set_option maxRecDepth 100000 in
set_option maxHeartbeats 0 in
theorem PySem.Challenge.cw_claimsieve_k29_whole_runs_cut_short_holds : PySem.Challenge.rw_claimsieve_k29_whole_runs_cut_short.Holds := by
  w_on; o_law; k_head; (case hw => w_witness2)
  k_fill
  refine L2.walk_of (l := PySem.Challenge.rw_claimsieve_k29_whole_runs_cut_short) (n := 63) (k := 24) (x := "_law_script") (CX := fun _ => L2.CX0) (sp := fun w => Cs.spLaw _) rfl (by decide) rfl ⟨rfl, by decide, by decide⟩ (fun w h Y => PySem.W.kIn_of Y) ?F (fun _ _ a ns hl _ hS => ⟨a, ns, rfl, hS, Nat.le_trans hl (by decide), fun _ => rfl⟩) (fun _ _ _ _ _ h => h)
  case F =>
    intro w mg fa h KX G hmg
    refine' Cs.all_mk KX G hmg ?aC_Call ?pg_Call ?hd_Call ?po_Call ?sa_Call ?mk_Call ?kc_Call ?na_Call_row ?na_Call_function ?na_Call_place ?na_Call_worths ?aC_Run ?pg_Run ?hd_Run ?po_Run ?sa_Run ?mk_Run ?kc_Run ?na_Run_names ?na_Run_trees ?na_Run_answers ?na_Run_asked ?na_Run_most ?na_Run_begun ?na_Run_told ?na_Run_open_calls ?a_w_start ?l_w_start ?c_w_start ?k_w_start ?a_w_drawn ?l_w_drawn ?c_w_drawn ?k_w_drawn ?a_w_of ?l_w_of ?c_w_of ?k_w_of ?a_w_measure ?l_w_measure ?c_w_measure ?k_w_measure ?a_w_deed ?l_w_deed ?c_w_deed ?k_w_deed ?a_w_tree ?l_w_tree ?c_w_tree ?k_w_tree ?a_w_program ?l_w_program ?c_w_program ?k_w_program ?a_w_args ?l_w_args ?c_w_args ?k_w_args ?a_w_answers ?l_w_answers ?c_w_answers ?k_w_answers ?a_w_loops ?l_w_loops ?c_w_loops ?k_w_loops ?a_w_same ?l_w_same ?c_w_same ?k_w_same ?a_has_word ?l_has_word ?c_has_word ?k_has_word ?a_is_row ?l_is_row ?c_is_row ?k_is_row ?a_is_whole ?l_is_whole ?c_is_whole ?k_is_whole ?a_is_between ?l_is_between ?c_is_between ?k_is_between ?a_is_near ?l_is_near ?c_is_near ?k_is_near ?a_stands ?l_stands ?c_stands ?k_stands ?a_all_fit ?l_all_fit ?c_all_fit ?k_all_fit ?a_kinds_ahead ?l_kinds_ahead ?c_kinds_ahead ?k_kinds_ahead ?a_call_kind ?l_call_kind ?c_call_kind ?k_call_kind ?a_deed_kind ?l_deed_kind ?c_deed_kind ?k_deed_kind ?a_is_name ?l_is_name ?c_is_name ?k_is_name ?a_within_let ?l_within_let ?c_within_let ?k_within_let ?a_is_measure ?l_is_measure ?c_is_measure ?k_is_measure ?a_is_compared ?l_is_compared ?c_is_compared ?k_is_compared ?a_trees_within ?l_trees_within ?c_trees_within ?k_trees_within ?a_check_trees ?l_check_trees ?c_check_trees ?k_check_trees ?a_is_param ?l_is_param ?c_is_param ?k_is_param ?a_is_headed ?l_is_headed ?c_is_headed ?k_is_headed ?a_check_program ?l_check_program ?c_check_program ?k_check_program ?a_is_handed_number ?l_is_handed_number ?c_is_handed_number ?k_is_handed_number ?a_can_be_handed ?l_can_be_handed ?c_can_be_handed ?k_can_be_handed ?a_check_args ?l_check_args ?c_check_args ?k_check_args ?a_check_answers ?l_check_answers ?c_check_answers ?k_check_answers ?a_numbered ?l_numbered ?c_numbered ?k_numbered ?a_Run_init ?i_Run_init ?l_Run_init ?c_Run_init ?k_Run_init ?a_Call_init ?i_Call_init ?l_Call_init ?c_Call_init ?k_Call_init ?a_Run_begin ?i_Run_begin ?l_Run_begin ?c_Run_begin ?k_Run_begin ?a_measured ?l_measured ?c_measured ?k_measured ?a_is_so ?l_is_so ?c_is_so ?k_is_so ?a_Run_bind ?i_Run_bind ?l_Run_bind ?c_Run_bind ?k_Run_bind ?a_Run_tell ?i_Run_tell ?l_Run_tell ?c_Run_tell ?k_Run_tell ?a_fault_of ?l_fault_of ?c_fault_of ?k_fault_of ?a_Run_let_call ?i_Run_let_call ?l_Run_let_call ?c_Run_let_call ?k_Run_let_call ?a_worth_of ?l_worth_of ?c_worth_of ?k_worth_of ?a_Run_next_answer ?i_Run_next_answer ?l_Run_next_answer ?c_Run_next_answer ?k_Run_next_answer ?a_Run_let ?i_Run_let ?l_Run_let ?c_Run_let ?k_Run_let ?a_Run_step ?i_Run_step ?l_Run_step ?c_Run_step ?k_Run_step ?a_Run_go ?i_Run_go ?l_Run_go ?c_Run_go ?k_Run_go ?a_Run_told_calls ?i_Run_told_calls ?l_Run_told_calls ?c_Run_told_calls ?k_Run_told_calls ?a_run ?l_run ?c_run ?k_run ?w_run_most ?a_w_led ?l_w_led ?c_w_led ?k_w_led ?a_law ?l_law ?c_law ?k_law ?n_all ?n_bool ?n_dict ?n_enumerate ?n_int ?n_isinstance ?n_len ?n_list ?n_max ?n_range ?n_reversed ?n_str ?n_tuple ?n_zip ?m_DEEDS ?t_DEEDS ?v_DEEDS ?z_DEEDS ?y_DEEDS_num ?t_DEEDS_num ?v_DEEDS_num ?z_DEEDS_num ?t_DEEDS_num_0 ?v_DEEDS_num_0 ?z_DEEDS_num_0 ?y_DEEDS_sum ?t_DEEDS_sum ?v_DEEDS_sum ?z_DEEDS_sum ?t_DEEDS_sum_0 ?v_DEEDS_sum_0 ?z_DEEDS_sum_0 ?y_DEEDS_len ?t_DEEDS_len ?v_DEEDS_len ?z_DEEDS_len ?t_DEEDS_len_0 ?v_DEEDS_len_0 ?z_DEEDS_len_0 ?y_DEEDS_nil ?t_DEEDS_nil ?v_DEEDS_nil ?z_DEEDS_nil ?t_DEEDS_nil_0 ?v_DEEDS_nil_0 ?z_DEEDS_nil_0 ?y_DEEDS_put ?t_DEEDS_put ?v_DEEDS_put ?z_DEEDS_put ?t_DEEDS_put_0 ?v_DEEDS_put_0 ?z_DEEDS_put_0 ?y_DEEDS_head ?t_DEEDS_head ?v_DEEDS_head ?z_DEEDS_head ?t_DEEDS_head_0 ?v_DEEDS_head_0 ?z_DEEDS_head_0 ?y_DEEDS_tail ?t_DEEDS_tail ?v_DEEDS_tail ?z_DEEDS_tail ?t_DEEDS_tail_0 ?v_DEEDS_tail_0 ?z_DEEDS_tail_0 ?y_DEEDS_at ?t_DEEDS_at ?v_DEEDS_at ?z_DEEDS_at ?t_DEEDS_at_0 ?v_DEEDS_at_0 ?z_DEEDS_at_0 ?y_DEEDS_ask ?t_DEEDS_ask ?v_DEEDS_ask ?z_DEEDS_ask ?t_DEEDS_ask_0 ?v_DEEDS_ask_0 ?z_DEEDS_ask_0 ?m_FARTHEST ?m_FARTHEST_HANDED ?m_HIGHEST_MOST ?m_KINDS ?t_KINDS ?v_KINDS ?z_KINDS ?m_MEASURES ?t_MEASURES ?v_MEASURES ?z_MEASURES ?y_MEASURES_of ?y_MEASURES_len ?m_MOST_DEPTH ?m_MOST_FUNCTIONS ?m_MOST_ITEMS ?m_MOST_PARAMS ?m_MOST_SIGNS ?m_MOST_TREES ?m_TREES ?t_TREES ?v_TREES ?z_TREES ?y_TREES_let ?y_TREES_if ?y_TREES_claim ?y_TREES_tell
    (case aC_Call => k_is)
    (case pg_Call => k_is)
    (case hd_Call => k_is)
    (case po_Call => k_is)
    (case sa_Call => k_is)
    (case mk_Call => k_is)
    (case kc_Call => k_is)
    (case na_Call_row => k_is)
    (case na_Call_function => k_is)
    (case na_Call_place => k_is)
    (case na_Call_worths => k_is)
    (case aC_Run => k_is)
    (case pg_Run => k_is)
    (case hd_Run => k_is)
    (case po_Run => k_is)
    (case sa_Run => k_is)
    (case mk_Run => k_is)
    (case kc_Run => k_is)
    (case na_Run_names => k_is)
    (case na_Run_trees => k_is)
    (case na_Run_answers => k_is)
    (case na_Run_asked => k_is)
    (case na_Run_most => k_is)
    (case na_Run_begun => k_is)
    (case na_Run_told => k_is)
    (case na_Run_open_calls => k_is)
    (case a_w_start => k_is)
    (case l_w_start => k_is)
    (case c_w_start => k_is)
    (case k_w_start => k_is)
    (case a_w_drawn => k_is)
    (case l_w_drawn => k_is)
    (case c_w_drawn => k_is)
    (case k_w_drawn => k_is)
    (case a_w_of => k_is)
    (case l_w_of => k_is)
    (case c_w_of => k_is)
    (case k_w_of => k_is)
    (case a_w_measure => k_is)
    (case l_w_measure => k_is)
    (case c_w_measure => k_is)
    (case k_w_measure => k_is)
    (case a_w_deed => k_is)
    (case l_w_deed => k_is)
    (case c_w_deed => k_is)
    (case k_w_deed => k_is)
    (case a_w_tree => k_is)
    (case l_w_tree => k_is)
    (case c_w_tree => k_is)
    (case k_w_tree => k_is)
    (case a_w_program => k_is)
    (case l_w_program => k_is)
    (case c_w_program => k_is)
    (case k_w_program => k_is)
    (case a_w_args => k_is)
    (case l_w_args => k_is)
    (case c_w_args => k_is)
    (case k_w_args => k_is)
    (case a_w_answers => k_is)
    (case l_w_answers => k_is)
    (case c_w_answers => k_is)
    (case k_w_answers => k_is)
    (case a_w_loops => k_is)
    (case l_w_loops => k_is)
    (case c_w_loops => k_is)
    (case k_w_loops => k_is)
    (case a_w_same => k_is)
    (case l_w_same => k_is)
    (case c_w_same => k_is)
    (case k_w_same => k_is)
    (case a_has_word => k_is)
    (case l_has_word => k_is)
    (case c_has_word => k_is)
    (case k_has_word => k_is)
    (case a_is_row => k_is)
    (case l_is_row => k_is)
    (case c_is_row => k_is)
    (case k_is_row => k_is)
    (case a_is_whole => k_is)
    (case l_is_whole => k_is)
    (case c_is_whole => k_is)
    (case k_is_whole => k_is)
    (case a_is_between => k_is)
    (case l_is_between => k_is)
    (case c_is_between => k_is)
    (case k_is_between => k_is)
    (case a_is_near => k_is)
    (case l_is_near => k_is)
    (case c_is_near => k_is)
    (case k_is_near => k_is)
    (case a_stands => k_is)
    (case l_stands => k_is)
    (case c_stands => k_is)
    (case k_stands => k_is)
    (case a_all_fit => k_is)
    (case l_all_fit => k_is)
    (case c_all_fit => k_is)
    (case k_all_fit => k_is)
    (case a_kinds_ahead => k_is)
    (case l_kinds_ahead => k_is)
    (case c_kinds_ahead => k_is)
    (case k_kinds_ahead => k_is)
    (case a_call_kind => k_is)
    (case l_call_kind => k_is)
    (case c_call_kind => k_is)
    (case k_call_kind => k_is)
    (case a_deed_kind => k_is)
    (case l_deed_kind => k_is)
    (case c_deed_kind => k_is)
    (case k_deed_kind => k_is)
    (case a_is_name => k_is)
    (case l_is_name => k_is)
    (case c_is_name => k_is)
    (case k_is_name => k_is)
    (case a_within_let => k_is)
    (case l_within_let => k_is)
    (case c_within_let => k_is)
    (case k_within_let => k_is)
    (case a_is_measure => k_is)
    (case l_is_measure => k_is)
    (case c_is_measure => k_is)
    (case k_is_measure => k_is)
    (case a_is_compared => k_is)
    (case l_is_compared => k_is)
    (case c_is_compared => k_is)
    (case k_is_compared => k_is)
    (case a_trees_within => k_is)
    (case l_trees_within => k_is)
    (case c_trees_within => k_is)
    (case k_trees_within => k_is)
    (case a_check_trees => k_is)
    (case l_check_trees => k_is)
    (case c_check_trees => k_is)
    (case k_check_trees => k_is)
    (case a_is_param => k_is)
    (case l_is_param => k_is)
    (case c_is_param => k_is)
    (case k_is_param => k_is)
    (case a_is_headed => k_is)
    (case l_is_headed => k_is)
    (case c_is_headed => k_is)
    (case k_is_headed => k_is)
    (case a_check_program => k_is)
    (case l_check_program => k_is)
    (case c_check_program => k_is)
    (case k_check_program => k_is)
    (case a_is_handed_number => k_is)
    (case l_is_handed_number => k_is)
    (case c_is_handed_number => k_is)
    (case k_is_handed_number => k_is)
    (case a_can_be_handed => k_is)
    (case l_can_be_handed => k_is)
    (case c_can_be_handed => k_is)
    (case k_can_be_handed => k_is)
    (case a_check_args => k_is)
    (case l_check_args => k_is)
    (case c_check_args => k_is)
    (case k_check_args => k_is)
    (case a_check_answers => k_is)
    (case l_check_answers => k_is)
    (case c_check_answers => k_is)
    (case k_check_answers => k_is)
    (case a_numbered => k_is)
    (case l_numbered => k_is)
    (case c_numbered => k_is)
    (case k_numbered => k_is)
    (case a_Run_init => k_is)
    (case i_Run_init => k_is)
    (case l_Run_init => k_is)
    (case c_Run_init => k_is)
    (case k_Run_init => k_is)
    (case a_Call_init => k_is)
    (case i_Call_init => k_is)
    (case l_Call_init => k_is)
    (case c_Call_init => k_is)
    (case k_Call_init => k_is)
    (case a_Run_begin => k_is)
    (case i_Run_begin => k_is)
    (case l_Run_begin => k_is)
    (case c_Run_begin => k_is)
    (case k_Run_begin => k_is)
    (case a_measured => k_is)
    (case l_measured => k_is)
    (case c_measured => k_is)
    (case k_measured => k_is)
    (case a_is_so => k_is)
    (case l_is_so => k_is)
    (case c_is_so => k_is)
    (case k_is_so => k_is)
    (case a_Run_bind => k_is)
    (case i_Run_bind => k_is)
    (case l_Run_bind => k_is)
    (case c_Run_bind => k_is)
    (case k_Run_bind => k_is)
    (case a_Run_tell => k_is)
    (case i_Run_tell => k_is)
    (case l_Run_tell => k_is)
    (case c_Run_tell => k_is)
    (case k_Run_tell => k_is)
    (case a_fault_of => k_is)
    (case l_fault_of => k_is)
    (case c_fault_of => k_is)
    (case k_fault_of => k_is)
    (case a_Run_let_call => k_is)
    (case i_Run_let_call => k_is)
    (case l_Run_let_call => k_is)
    (case c_Run_let_call => k_is)
    (case k_Run_let_call => k_is)
    (case a_worth_of => k_is)
    (case l_worth_of => k_is)
    (case c_worth_of => k_is)
    (case k_worth_of => k_is)
    (case a_Run_next_answer => k_is)
    (case i_Run_next_answer => k_is)
    (case l_Run_next_answer => k_is)
    (case c_Run_next_answer => k_is)
    (case k_Run_next_answer => k_is)
    (case a_Run_let => k_is)
    (case i_Run_let => k_is)
    (case l_Run_let => k_is)
    (case c_Run_let => k_is)
    (case k_Run_let => k_is)
    (case a_Run_step => k_is)
    (case i_Run_step => k_is)
    (case l_Run_step => k_is)
    (case c_Run_step => k_is)
    (case k_Run_step => k_is)
    (case a_Run_go => k_is)
    (case i_Run_go => k_is)
    (case l_Run_go => k_is)
    (case c_Run_go => k_is)
    (case k_Run_go => k_is)
    (case a_Run_told_calls => k_is)
    (case i_Run_told_calls => k_is)
    (case l_Run_told_calls => k_is)
    (case c_Run_told_calls => k_is)
    (case k_Run_told_calls => k_is)
    (case a_run => k_is)
    (case l_run => k_is)
    (case c_run => k_is)
    (case k_run => k_is)
    (case w_run_most => k_is)
    (case a_w_led => k_is)
    (case l_w_led => k_is)
    (case c_w_led => k_is)
    (case k_w_led => k_is)
    (case a_law => k_is)
    (case l_law => k_is)
    (case c_law => k_is)
    (case k_law => k_is)
    (case n_all => k_is)
    (case n_bool => k_is)
    (case n_dict => k_is)
    (case n_enumerate => k_is)
    (case n_int => k_is)
    (case n_isinstance => k_is)
    (case n_len => k_is)
    (case n_list => k_is)
    (case n_max => k_is)
    (case n_range => k_is)
    (case n_reversed => k_is)
    (case n_str => k_is)
    (case n_tuple => k_is)
    (case n_zip => k_is)
    (case m_DEEDS => k_is)
    (case t_DEEDS => k_is)
    (case v_DEEDS => exact ⟨⟨_, _, rfl, rfl⟩, ⟨_, _, rfl, rfl⟩, ⟨_, _, rfl, rfl⟩, ⟨_, _, rfl, rfl⟩, ⟨_, _, rfl, rfl⟩, ⟨_, _, rfl, rfl⟩, ⟨_, _, rfl, rfl⟩, ⟨_, _, rfl, rfl⟩, ⟨_, _, rfl, rfl⟩, trivial⟩)
    (case z_DEEDS => first | rfl | decide +kernel | k_is)
    (case y_DEEDS_num => k_is)
    (case t_DEEDS_num => k_is)
    (case v_DEEDS_num => exact (.cons rfl (.cons ⟨_, rfl⟩ .nil)))
    (case z_DEEDS_num => exact (by decide : 2 ≤ 1000000))
    (case t_DEEDS_num_0 => k_is)
    (case v_DEEDS_num_0 => exact (.cons ⟨_, rfl⟩ .nil))
    (case z_DEEDS_num_0 => exact (by decide : 1 ≤ 1000000))
    (case y_DEEDS_sum => k_is)
    (case t_DEEDS_sum => k_is)
    (case v_DEEDS_sum => exact (.cons rfl (.cons ⟨_, rfl⟩ .nil)))
    (case z_DEEDS_sum => exact (by decide : 2 ≤ 1000000))
    (case t_DEEDS_sum_0 => k_is)
    (case v_DEEDS_sum_0 => exact (.cons ⟨_, rfl⟩ (.cons ⟨_, rfl⟩ .nil)))
    (case z_DEEDS_sum_0 => exact (by decide : 2 ≤ 1000000))
    (case y_DEEDS_len => k_is)
    (case t_DEEDS_len => k_is)
    (case v_DEEDS_len => exact (.cons rfl (.cons ⟨_, rfl⟩ .nil)))
    (case z_DEEDS_len => exact (by decide : 2 ≤ 1000000))
    (case t_DEEDS_len_0 => k_is)
    (case v_DEEDS_len_0 => exact (.cons ⟨_, rfl⟩ .nil))
    (case z_DEEDS_len_0 => exact (by decide : 1 ≤ 1000000))
    (case y_DEEDS_nil => k_is)
    (case t_DEEDS_nil => k_is)
    (case v_DEEDS_nil => exact (.cons rfl (.cons ⟨_, rfl⟩ .nil)))
    (case z_DEEDS_nil => exact (by decide : 2 ≤ 1000000))
    (case t_DEEDS_nil_0 => k_is)
    (case v_DEEDS_nil_0 => exact .nil)
    (case z_DEEDS_nil_0 => exact (by decide : 0 ≤ 1000000))
    (case y_DEEDS_put => k_is)
    (case t_DEEDS_put => k_is)
    (case v_DEEDS_put => exact (.cons rfl (.cons ⟨_, rfl⟩ .nil)))
    (case z_DEEDS_put => exact (by decide : 2 ≤ 1000000))
    (case t_DEEDS_put_0 => k_is)
    (case v_DEEDS_put_0 => exact (.cons ⟨_, rfl⟩ (.cons ⟨_, rfl⟩ .nil)))
    (case z_DEEDS_put_0 => exact (by decide : 2 ≤ 1000000))
    (case y_DEEDS_head => k_is)
    (case t_DEEDS_head => k_is)
    (case v_DEEDS_head => exact (.cons rfl (.cons ⟨_, rfl⟩ .nil)))
    (case z_DEEDS_head => exact (by decide : 2 ≤ 1000000))
    (case t_DEEDS_head_0 => k_is)
    (case v_DEEDS_head_0 => exact (.cons ⟨_, rfl⟩ .nil))
    (case z_DEEDS_head_0 => exact (by decide : 1 ≤ 1000000))
    (case y_DEEDS_tail => k_is)
    (case t_DEEDS_tail => k_is)
    (case v_DEEDS_tail => exact (.cons rfl (.cons ⟨_, rfl⟩ .nil)))
    (case z_DEEDS_tail => exact (by decide : 2 ≤ 1000000))
    (case t_DEEDS_tail_0 => k_is)
    (case v_DEEDS_tail_0 => exact (.cons ⟨_, rfl⟩ .nil))
    (case z_DEEDS_tail_0 => exact (by decide : 1 ≤ 1000000))
    (case y_DEEDS_at => k_is)
    (case t_DEEDS_at => k_is)
    (case v_DEEDS_at => exact (.cons rfl (.cons ⟨_, rfl⟩ .nil)))
    (case z_DEEDS_at => exact (by decide : 2 ≤ 1000000))
    (case t_DEEDS_at_0 => k_is)
    (case v_DEEDS_at_0 => exact (.cons ⟨_, rfl⟩ (.cons ⟨_, rfl⟩ .nil)))
    (case z_DEEDS_at_0 => exact (by decide : 2 ≤ 1000000))
    (case y_DEEDS_ask => k_is)
    (case t_DEEDS_ask => k_is)
    (case v_DEEDS_ask => exact (.cons rfl (.cons ⟨_, rfl⟩ .nil)))
    (case z_DEEDS_ask => exact (by decide : 2 ≤ 1000000))
    (case t_DEEDS_ask_0 => k_is)
    (case v_DEEDS_ask_0 => exact .nil)
    (case z_DEEDS_ask_0 => exact (by decide : 0 ≤ 1000000))
    (case m_FARTHEST => k_is)
    (case m_FARTHEST_HANDED => k_is)
    (case m_HIGHEST_MOST => k_is)
    (case m_KINDS => k_is)
    (case t_KINDS => k_is)
    (case v_KINDS => exact (.cons ⟨_, rfl⟩ (.cons ⟨_, rfl⟩ .nil)))
    (case z_KINDS => exact (by decide : 2 ≤ 1000000))
    (case m_MEASURES => k_is)
    (case t_MEASURES => k_is)
    (case v_MEASURES => exact ⟨⟨_, _, rfl, rfl⟩, ⟨_, _, rfl, rfl⟩, trivial⟩)
    (case z_MEASURES => first | rfl | decide +kernel | k_is)
    (case y_MEASURES_of => k_is)
    (case y_MEASURES_len => k_is)
    (case m_MOST_DEPTH => k_is)
    (case m_MOST_FUNCTIONS => k_is)
    (case m_MOST_ITEMS => k_is)
    (case m_MOST_PARAMS => k_is)
    (case m_MOST_SIGNS => k_is)
    (case m_MOST_TREES => k_is)
    (case m_TREES => k_is)
    (case t_TREES => k_is)
    (case v_TREES => exact ⟨⟨_, _, rfl, rfl⟩, ⟨_, _, rfl, rfl⟩, ⟨_, _, rfl, rfl⟩, ⟨_, _, rfl, rfl⟩, trivial⟩)
    (case z_TREES => first | rfl | decide +kernel | k_is)
    (case y_TREES_let => k_is)
    (case y_TREES_if => k_is)
    (case y_TREES_claim => k_is)
    (case y_TREES_tell => k_is)
