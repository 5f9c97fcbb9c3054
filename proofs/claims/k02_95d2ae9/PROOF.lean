import PyProof.Rows.All
import Wide.All
import OpenK.AllK
import Wide.FinOn
import HandS.ForMost
import HandS.IsInst
import HandS.Defaults
import HandS.Strs
import HandS.WrittenGet
import KE.SortData
import HandS.SetFor
import KE.KDictPairs
import KE.GoesNew
import KE.GoesEnum
import HandS.Iter
import HandS.More
import PyProof.RulesMatch
import PyProof.Rows.MatchSeqLen
import HandS.Base
import HandS.Call
import KE.KDictZip
import HandS.Dict
import HandS.Zip
import HandS.TupAny
import HandS.Walk
import HandS.Star
import HandS.ForDict
import HandS.Rev
import HandS.Conv
import HandS.Ends
import PySem.Challenge.RW_claimsieve_k02_clauses_by_own_walk
set_option Elab.async false
set_option linter.all false
set_option maxRecDepth 100000
namespace Cs
open PySem PySem.Spec PyProof.Rows L2
section
variable {X : Cx} {pins : List (Addr × Obj)} {σ : L2.St} {H : Hp} {s : Shared}
/-! ### sorted of data -/
theorem each_of_dp {K : PySem.W.Frag} {H : Hp} : ∀ {xs : List V} {us : List Value} {ds : List PyData}, DpAll K H xs ds → Vals xs us →
    PySem.W.EachIs (fun u d => ∃ v, RelV v u ∧ Dp K H v d) us ds
  | _, _, _, .nil, .nil => .nil
  | _, _, _, .cons h t, .cons r q => .cons ⟨_, r, h⟩ (each_of_dp t q)
theorem dp_of_each {K : PySem.W.Frag} {H : Hp} : ∀ {us : List Value} {ds : List PyData}, PySem.W.EachIs (fun u d => ∃ v, RelV v u ∧ Dp K H v d) us ds →
    ∃ ys : List V, Vals ys us ∧ DpAll K H ys ds
  | _, _, .nil => ⟨[], .nil, .nil⟩
  | _, _, .cons ⟨v, r, h⟩ t => by
    obtain ⟨ys, q, z⟩ := dp_of_each t
    exact ⟨v :: ys, .cons r q, .cons h z⟩
theorem DpAll.length {K : PySem.W.Frag} {H : Hp} : ∀ {xs : List V} {ds : List PyData}, DpAll K H xs ds → xs.length = ds.length
  | _, _, .nil => rfl
  | _, _, .cons _ t => congrArg Nat.succ (DpAll.length t)
/-- sorted(xs), xs a list of data all of one shape -/
def rSortD (K : PySem.W.Frag) : List V → Hp → VK → Prop := fun vs H Q => ∃ (a : Addr) (xs : List V) (ds : List PyData), vs = [V.ref a] ∧ SqL K H a xs ∧ DpAll K H xs ds ∧
  PySem.W.AllAlike ds ∧ PySem.W.Sortable ds ∧ (∀ d ∈ ds, d.depth ≤ 60) ∧
  ∀ (ys : List V) (p : Addr), DpAll K H ys (ds.mergeSort (PySem.W.dataLe false id)) → H p = none → Q (.ref p) (upd H p (.lst ys))
theorem cr_sortD (hu : X.A.units + 64 < cLine) : CallR X (.builtin "sorted") (rSortD X.K) := by
  intro pins s σ H vs us Q I r h
  obtain ⟨a, xs, ds, rfl, hs, hd, hal, hk, hdp, q⟩ := h
  obtain ⟨its, rv, hl, hz⟩ := I.list hs
  rw [Vals.ref1 r]
  have e := each_of_dp hd rv
  have er : PySem.W.EachIs (fun v b => ∃ as, Reads s.heap v (id b) as) its ds := e.mono fun u d ⟨v, rr, hh⟩ => Dp.reads I d v u hh rr
  refine PySem.W.sorted_data (enc := id) hl.isList e er (by rw [List.map_id]; exact hal) (by rw [List.map_id]; exact hk) (by rw [← DpAll.length hd]; exact hz)
    (fun b hb => ?_) fun out ho hout => ?_
  · have := hdp b hb
    show X.A.units + 2 + b.depth < cLine
    omega
  · obtain ⟨ys, ry, hy⟩ := dp_of_each hout
    obtain ⟨ep, he'⟩ := PyProof.Rows.sortedAll_at s.heap its out.toArray
    have hlen : ys.length ≤ sizeLine := by
      rw [DpAll.length hy, List.length_mergeSort, ← DpAll.length hd]
      exact hz
    exact ⟨.ref _, upd H (s.heap.objs.size + 1) (.lst ys), I.laid (t' := s.toks) (fun _ _ => PyProof.Rows.sortedAll_old) (Nat.le_succ _) ⟨hlen, out, ep, ry, he'⟩, rfl, q _ _ hy (I.hok.fresh (Nat.le_succ _))⟩
end
end Cs
namespace Cs
open PySem PySem.Spec PyProof.Rows L2
/-! ### list comprehensions of any number of clauses -/
section
variable {prog : Program} {w : World} {A : Around} {R : Result → Shared → Prop} {s : Shared} {elt t ip : Expr} {ifs : List Expr} {gens : List Comprehension} {scope : Scope} {pos : Pos} {it acc : Value} {env : Env} {k : Nat}
abbrev tests (ifs : List Expr) (env : Env) : Sem Bool := forIn ifs true fun c r => if r = true then do let ok ← isTrue c env (eval c env); pure (ForInStep.yield ok) else pure (ForInStep.yield r)
/-- what a turn of clause k does where its tests hold -/
def lcBody (elt : Expr) (gens : List Comprehension) (scope : Scope) (pos : Pos) (k : Nat) (acc : Value) (env : Env) : Sem PUnit :=
  match gens[k + 1]? with
  | some g => do
    let x ← eval g.iter env
    standAt g.iter.pos
    let x ← foldedSetIterable g.iter env x
    let _ ← runOwn (.compStart (.ListComp elt gens scope pos) (k + 1) (← holding [x] (pyIter x)) acc env) env
  | none => do
    let _ ← call (.builtin "list.append") [acc, ← eval elt env]
theorem lcTurn_eq (hk : gens[k]? = some ⟨t, ip, ifs, 0⟩) (hy : ∀ g, gens[k + 1]? = some g → g.is_async = 0) : compTurn (.ListComp elt gens scope pos) k it acc env = (do
    standAt ip.pos
    match ← pyNext it with
    | none => pure (.done .next)
    | some v =>
      letOwnedTupleGo t it v
      assign t env v
      let ok ← tests ifs env
      if ok = true then do
        lcBody elt gens scope pos k acc env
        again (.compLoop (.ListComp elt gens scope pos) k it acc env)
      else again (.compLoop (.ListComp elt gens scope pos) k it acc env)) := by
  unfold compTurn lcBody
  simp only [hk]
  cases e : gens[k + 1]? with
  | none => rfl
  | some g =>
    obtain ⟨a, b, c, d⟩ := g
    obtain rfl : d = 0 := hy _ e
    simp only [bind_assoc, pure_bind]
    rfl
abbrev nof : Value → Shared → Prop := fun _ _ => False
theorem wpF {α : Type} {m : Sem α} {M : Model} {Q Q' : α → Shared → Prop} {E : Value → Shared → Prop} (h : wpAny M A m Q nof s) (hq : ∀ a s, Q a s → Q' a s) : wpAny M A m Q' E s :=
  wpAny_mono h hq fun _ _ z => False.elim z
theorem lcLoop (hk : gens[k]? = some ⟨t, ip, ifs, 0⟩) (hy : ∀ g, gens[k + 1]? = some g → g.is_async = 0) (I : Nat → Shared → Prop)
    (turn : ∀ n s, I n s → wpAny (model prog w) A (pyNext it) (fun r s₁ => match r with
      | none => R (.ok .next) s₁
      | some v => wpAny (model prog w) A (letOwnedTupleGo t it v) (fun _ s₂ => wpAny (model prog w) A (assign t env v) (fun _ s₃ => wpAny (model prog w) A (tests ifs env) (fun ok s₄ =>
          if ok = true then wpAny (model prog w) A (lcBody elt gens scope pos k acc env) (fun _ s₅ => ∃ m, m < n ∧ I m s₅) nof s₄ else ∃ m, m < n ∧ I m s₄) nof s₃) nof s₂) nof s₁) nof s)
    (n : Nat) (h : I n s) : codeAny (model prog w) A (.compLoop (.ListComp elt gens scope pos) k it acc env) R s := by
  refine codeAny_loop rfl I (fun n s hI => ?_) n h
  show wpAny _ A ((compTurn (.ListComp elt gens scope pos) k it acc env).onRaise (fun x => do noteFrame x env; theTreesLotGoes x)) _ _ s
  refine wpAny_noted ?_
  rw [lcTurn_eq hk hy]
  refine wpAny_bind (wpAny_standAt (wpAny_bind (wpF (turn n s hI) fun r s₁ h₁ => ?_)))
  cases r with
  | none => exact wpAny_pure h₁
  | some v =>
    refine wpAny_bind (wpF h₁ fun _ s₂ h₂ => wpAny_bind (wpF h₂ fun _ s₃ h₃ => wpAny_bind (wpF h₃ fun ok s₄ h₄ => ?_)))
    cases ok with
    | false => exact wpAny_pure ⟨rfl, h₄⟩
    | true => exact wpAny_bind (wpF h₄ fun _ s₅ h₅ => wpAny_pure ⟨rfl, h₅⟩)
theorem lcStart (hk : gens[k]? = some ⟨t, ip, ifs, 0⟩) (h0 : codeAny (model prog w) A (.compLoop (.ListComp elt gens scope pos) k it acc env) R s)
    (h : wpAny (model prog w) A (pyIter it) (fun it' s' => codeAny (model prog w) A (.compLoop (.ListComp elt gens scope pos) k it' acc env) R s') nof s) :
    codeAny (model prog w) A (.compStart (.ListComp elt gens scope pos) k it acc env) R s := by
  refine codeAny_of_tree ?_
  show wpAny _ _ ((compStart (.ListComp elt gens scope pos) k it acc env).onRaise (fun x => do noteFrame x env; standAt theWindowsPlace)) _ _ s
  refine wpAny_notedAt ?_
  have hc : (clausesOf (.ListComp elt gens scope pos))[k]? = some ⟨t, ip, ifs, 0⟩ := hk
  unfold compStart
  simp only [hc]
  show wpAny _ _ (ask >>= _) _ _ s
  refine wpAny_bind (wpAny_askSetting (wpAny_ite ?_))
  split
  · first
      | exact wpAny_bind (wpAny_pure (wpAny_pure (And.intro rfl h0)))
      | exact wpAny_pure (And.intro rfl h0)
  · refine wpAny_bind (wpAny_rule ?_)
    show wpAny _ _ (standAt ip.pos >>= _) _ _ s
    exact wpAny_bind (wpAny_standAt (wpAny_bind (wpF h fun it' s' h' => wpAny_pure (And.intro rfl h'))))
end
end Cs
namespace Cs
open PySem PySem.Spec PyProof.Rows L2
/-- an inner clause: what it walks, its target, its tests, the slots of the names from here on -/
structure Cl where
  wi : TI
  g : TG
  tt : TT
  vs : List Nat
/-- what is asked of the clauses behind the first, and of the element -/
def tIn (te : TE) (D : Addr) : List Cl → L2.St → Hp → (Hp → Prop) → Prop
  | [], σ, H, Nx => te σ H fun y H1 => ∃ acc, H1 D = some (.lst acc) ∧ acc.length < sizeLine ∧ Nx (upd H1 D (.lst (acc ++ [y])))
  | c :: cs, σ, H, Nx => c.wi σ H fun J H1 => ∃ W : Nat → Nat → Hp → Prop, (∃ m, W 0 m H1) ∧ ∀ j m H2, W j m H2 →
      (J.stop j H2 ∧ Nx H2) ∨ (J.go j H2 ∧ ∃ N1 : Hp → Prop, (∀ H3, N1 H3 → ∃ m1, m1 < m ∧ W (j + 1) m1 H3) ∧
        ∀ x H3, J.yld j H2 x H3 → c.g x (wipe σ c.vs) H3 fun σ1 H4 => wipe σ1 c.vs = wipe σ c.vs ∧ c.tt σ1 H4 fun b H5 => if b = true then tIn te D cs σ1 H5 N1 else N1 H5)
/-- the slots behind the clauses -/
def behindS (σ : L2.St) : List Cl → L2.St
  | [] => σ
  | c :: _ => wipe σ c.vs
section
variable {X : Cx} {elt : Expr} {gens : List Comprehension} {scope : Scope} {pos : Pos}
/-- the clauses behind the k-th, by their readings -/
inductive PCl (X : Cx) (elt : Expr) (gens : List Comprehension) (te : TE) : Nat → List Cl → Prop
  | nil {k : Nat} (h : gens[k + 1]? = none) (he : PE X elt te) : PCl X elt gens te k []
  | cons {k : Nat} {t ip : Expr} {ifs : List Expr} {c : Cl} {cs : List Cl} (h : gens[k + 1]? = some ⟨t, ip, ifs, 0⟩) (hi : PI X t ip c.wi) (hg : PG X t c.g) (ht : PTs X ifs c.tt)
      (hs : ∀ x, foldedSetIterable ip X.env x = pure x) (hv : ∀ c1 ∈ cs.head?, ∀ i ∈ c1.vs, i ∈ c.vs) (tl : PCl X elt gens te (k + 1) cs) : PCl X elt gens te k (c :: cs)
theorem PCl.sync {te : TE} {k : Nat} {cs : List Cl} (h : PCl X elt gens te k cs) : ∀ g, gens[k + 1]? = some g → g.is_async = 0 := fun g e => by
  cases h with
  | nil h _ => rw [h] at e; cases e
  | cons h _ _ _ _ _ _ => rw [h] at e; cases e; rfl
theorem behind_len (σ : L2.St) (cs : List Cl) : (behindS σ cs).length = σ.length := by
  cases cs with
  | nil => rfl
  | cons c cs => exact wipe_length _ _
theorem behind_some {σ σ1 : L2.St} {c : Cl} {cs : List Cl} (hv : ∀ c1 ∈ cs.head?, ∀ i ∈ c1.vs, i ∈ c.vs) (hw : wipe σ1 c.vs = wipe σ c.vs) {j : Nat} {v : V} (e : (wipe σ c.vs)[j]? = some (some v)) :
    (behindS σ1 cs)[j]? = some (some v) := by
  rw [← hw] at e
  obtain ⟨e1, e2⟩ := wipe_some e
  cases cs with
  | nil => exact e1
  | cons c1 cs =>
    show (wipe σ1 c1.vs)[j]? = _
    rw [wipe_out fun z => e2 (hv c1 rfl j z)]
    exact e1
/-- a turn's work, the tests being so -/
theorem body_ok (hc : X.calm = true) (hx : X.xe = nof) {te : TE} {D : Addr} {k : Nat} {cs : List Cl} (P : PCl X elt gens te k cs) : ∀ (pins : List (Addr × Obj)) (s : Shared) (σ : L2.St) (H : Hp) (Nx : Hp → Prop),
    Inv X pins σ H s → tIn te D cs σ H Nx →
    wpAny (model X.prog X.w) X.A (lcBody elt gens scope pos k (.ref D) X.env) (fun _ s1 => ∃ H1, Inv X pins (behindS σ cs) H1 s1 ∧ Nx H1) nof s := by
  induction P with
  | nil h he =>
    intro pins s σ H Nx I q
    unfold lcBody
    simp only [h]
    have z := he.run pins s σ H _ I q
    rw [hx] at z
    refine wpAny_bind (wpF z fun y s1 h1 => ?_)
    obtain ⟨v, H1, I1, r, acc, hD, hz, nx⟩ := h1
    exact wpAny_bind (app_ok I1 hD hz r fun s2 I2 => wpAny_pure ⟨_, I2, nx⟩)
  | @cons k t ip ifs c cs h hi hg ht hs hv tl ih =>
    intro pins s σ H Nx I q
    unfold lcBody
    simp only [h]
    have z := hi.run pins s σ H _ I q
    rw [hx] at z
    refine wpAny_bind (wpF z fun x s1 h1 => wpAny_bind (wpAny_standAt (wpAny_bind (wpAny_of_eq (hs x) (wpAny_bind (wpAny_holding (wpF h1 fun itv s2 h2 => ?_)))))))
    obtain ⟨it, fp, tn, J, H2, e, I2, T, st2, f2, W, ⟨m0, w0⟩, turn⟩ := h2
    subst e
    refine wpAny_bind (wpAny_runOwn ?_)
    rw [Around.mark_none]
    have fpo : ∀ {H' : Hp}, (∀ b ∈ fp, H' b = none) → ∀ b ∈ fp, FpOk X pins H' b := fun n b hb => ⟨n b hb, (f2 b hb).2⟩
    have loop : codeAny (model X.prog X.w) X.A (.compLoop (.ListComp elt gens scope pos) (k + 1) (.ref it) (.ref D) X.env)
        (fun r s' => match r with
          | .ok _ => ∃ H1, Inv X pins (wipe σ c.vs) H1 s' ∧ Nx H1
          | .error _ => False) s2 := by
      refine lcLoop h tl.sync (fun n s' => ∃ j H', Inv X pins (wipe σ c.vs) H' s' ∧ tn j s'.heap ∧ (∀ b ∈ fp, H' b = none) ∧ W j n H') ?_ m0 ⟨0, H2, I2.weak (wipe_length _ _) (fun j v e => (wipe_some e).1), st2, fun b hb => (f2 b hb).1, w0⟩
      rintro n s3 ⟨j, H3, I3, st3, n3, w3⟩
      rcases turn j n H3 w3 with ⟨stop, nx⟩ | ⟨go, N1, hN1, step⟩
      · refine wpF (T.done X rfl rfl rfl hc j pins s3 _ H3 nof I3 (fpo n3) st3 stop) fun r s4 ⟨hr, I4⟩ => ?_
        subst hr
        exact ⟨H3, I4, nx⟩
      · refine wpF (T.item X rfl rfl rfl hc j pins s3 _ H3 nof I3 (fpo n3) st3 go) fun r s4 ⟨u, hr, h4⟩ => ?_
        subst hr
        refine wpF h4 fun _ s5 ⟨x5, H5, I5, r5, y5, st5, n5⟩ => ?_
        have I5' := I5.pinned (fpo n5) (T.obj _ _ st5)
        have zg := hg.run _ s5 _ H5 x5 u _ I5' r5 (step x5 H5 y5)
        rw [hx] at zg
        refine wpF zg fun _ s6 ⟨σ6, H6, I6, hw6, q6⟩ => ?_
        have zt := ht.run _ s6 σ6 H6 _ I6 q6
        rw [hx] at zt
        refine wpF zt fun b s7 ⟨H7, I7, q7⟩ => ?_
        have fin : ∀ {σ9 : L2.St} {s' : Shared} {H' : Hp}, Inv X (pins ++ pinsAt fp s5.heap) σ9 H' s' → (wipe σ c.vs).length = σ9.length → (∀ (i : Nat) v, (wipe σ c.vs)[i]? = some (some v) → σ9[i]? = some (some v)) → N1 H' →
            ∃ m, m < n ∧ ∃ j H', Inv X pins (wipe σ c.vs) H' s' ∧ tn j s'.heap ∧ (∀ b ∈ fp, H' b = none) ∧ W j m H' := fun {σ9 s' H'} I' hl hk nx => by
          obtain ⟨m1, hm, w1⟩ := hN1 H' nx
          have pin : ∀ b ∈ fp, ∀ o, s5.heap.get? b = some o → s'.heap.get? b = some o ∧ H' b = none := fun b hb o e =>
            have z := I'.pin (b, o) (List.mem_append_right _ (List.mem_append_right _ (mem_pinsAt hb e)))
            ⟨z.1, z.2.1⟩
          refine ⟨m1, hm, j + 1, H', I'.unpinned.weak hl hk, T.keep _ _ _ st5 fun b hb o e => (pin b hb o e).1, fun b hb => ?_, w1⟩
          obtain ⟨o, e, _⟩ := T.obj _ _ st5 b hb
          exact (pin b hb o e).2
        have hl6 : (wipe σ c.vs).length = σ6.length := by rw [← hw6, wipe_length]
        cases b with
        | false =>
          simp only [Bool.false_eq_true, if_false] at q7 ⊢
          exact fin I7 hl6 (fun i v e => by rw [← hw6] at e; exact (wipe_some e).1) q7
        | true =>
          simp only [if_true] at q7 ⊢
          refine wpF (ih _ s7 σ6 H7 N1 I7 q7) fun _ s8 ⟨H8, I8, nx8⟩ => ?_
          exact fin I8 (hl6.trans (behind_len σ6 cs).symm) (fun i v e => behind_some hv hw6 e) nx8
    refine codeAny_mono (lcStart h loop (T.self X.A 0 _ _ _ st2 loop)) fun r s' hr => ?_
    cases r with
    | ok f => exact wpAny_pure hr
    | error e => exact hr.elim
end
end Cs
namespace Cs
open PySem PySem.Spec PyProof.Rows L2
def tLcN (wi : TI) (g : TG) (tt : TT) (cs : List Cl) (te : TE) (vs : List Nat) : TE := fun σ H Q => wi σ H fun J H1 => ∀ D, H1 D = none → ∃ W : Nat → Nat → Hp → Prop, (∃ m, W 0 m (upd H1 D (.lst []))) ∧ ∀ j m H2, W j m H2 →
  (J.stop j H2 ∧ Q (.ref D) H2) ∨ (J.go j H2 ∧ ∃ N1 : Hp → Prop, (∀ H3, N1 H3 → ∃ m1, m1 < m ∧ W (j + 1) m1 H3) ∧
    ∀ x H3, J.yld j H2 x H3 → g x (wipe σ vs) H3 fun σ1 H4 => wipe σ1 vs = wipe σ vs ∧ tt σ1 H4 fun b H5 => if b = true then tIn te D cs σ1 H5 N1 else N1 H5)
section
variable {X : Cx}
theorem lcN_core {pins : List (Addr × Obj)} {s : Shared} {σ : L2.St} {H : Hp} {Q : VK} {elt tg iter : Expr} {ifs : List Expr} {gs : List Comprehension} {scope : Scope} {own : List (Str × Nat)} {pos pos' : Pos} {wi : TI} {g : TG} {tt : TT} {cs : List Cl} {te : TE} {use : Option (Value → Sem Unit)} {Qf : Value → Shared → Prop}
    (hc : X.calm = true) (hN : X.N.Nodup) (I : Inv X pins σ H s) (hi : PI X tg iter wi) (ok : BlkOk X.N X.env.scope scope own)
    (hg : ∀ s H C cl fp, PG (X.blk s H scope (compEnvC scope cl C X.env) fp) tg g) (ht : ∀ s H C cl fp, PTs (X.blk s H scope (compEnvC scope cl C X.env) fp) ifs tt)
    (hcl : ∀ s H C cl fp, PCl (X.blk s H scope (compEnvC scope cl C X.env) fp) elt (⟨tg, iter, ifs, 0⟩ :: gs) te 0 cs) (hv : ∀ c1 ∈ cs.head?, ∀ i ∈ c1.vs, i ∈ own.map (·.2)) (hs : ∀ x, foldedSetIterable iter X.env x = pure x)
    (h : tLcN wi g tt cs te (own.map (·.2)) σ H Q)
    (hRR : ∀ D C s' m H', Inv X pins σ H' s' → Q (.ref D) H' → s'.heap.Ns C m → FpOk X pins H' C → compPost (model X.prog X.w) X.A X.xe use Qf (.ref D) C (.ok .next) s') :
    wpAny (model X.prog X.w) X.A (comprehension (.ListComp elt (⟨tg, iter, ifs, 0⟩ :: gs) scope pos) scope X.env pos' (newList []) false (eval iter X.env) use) Qf X.xe s := by
  have captured : ∀ y ∈ scope.names, y.2 = .free → ∃ c, X.env.cells.lookup y.1 = some c := fun y hy e =>
    (ok.free y hy e).elim (fun k => I.ok.has _ (.inl k)) fun k => I.ok.has _ (.inr k)
  refine wpAny_comprehension_free (use := use) rfl hs (closure_ok captured) ok.kind (fun y hy e => by rw [ok.uniq y hy, e])
    (thn (hi.run pins s σ H _ I h) fun xv s1 hx => thn hx fun itv s2 h2 => ?_)
  obtain ⟨it, fp, tn, J, H2, e, I2, T, st2, f2, q⟩ := h2
  subst e
  refine wpAny_newObj_type (newEnv_comp ?_) (by show 0 ≤ sizeLine; decide)
  generalize hD : s2.heap.objs.size = D
  obtain ⟨W, ⟨m0, w0⟩, turn⟩ := q D (I2.hok.fresh (Nat.le_of_eq hD))
  generalize hs3 : ({ s2 with heap := s2.heap.push { cls := .type "list", data := .seq ([] : List Value).toArray } } : Shared) = s3
  have I3 : Inv X pins σ (upd H2 D (.lst [])) s3 := by
    rw [← hs3]
    refine I2.laid (t' := s2.toks) (fun b o e => Heap.get?_push_of_some _ e) (Nat.le_of_eq hD) ⟨Nat.zero_le _, [], 0, .nil, ?_⟩
    rw [← hD]
    exact Heap.get?_push_size _ rfl
  have h3 : s3.heap = s2.heap.push { cls := .type "list", data := .seq ([] : List Value).toArray } := by rw [← hs3]
  have below : ∀ b ∈ fp, b < s2.heap.objs.size := fun b hb => (T.obj _ _ st2 b hb).elim fun _ e => Heap.lt_size e.1
  have f3 : ∀ b ∈ fp, FpOk X pins (upd H2 D (.lst [])) b ∧ b < s3.heap.objs.size := fun b hb => by
    refine ⟨⟨?_, (f2 b hb).2⟩, by rw [h3, Heap.size_push]; exact Nat.lt_succ_of_lt (below b hb)⟩
    rw [upd_ne (by rw [← hD]; exact Nat.ne_of_lt (below b hb))]
    exact (f2 b hb).1
  have st3 : tn 0 s3.heap := T.keep _ _ _ st2 fun b _ o e => by rw [h3]; exact Heap.get?_push_of_some _ e
  have I4 := block_start I3 ok hN f3
  have pg := hg s3 (upd H2 D (.lst [])) s3.heap.objs.size (cellsFrom (s3.heap.objs.size + 1) scope.names (cloFrom X.env.cells scope.names [])) fp
  have pt := ht s3 (upd H2 D (.lst [])) s3.heap.objs.size (cellsFrom (s3.heap.objs.size + 1) scope.names (cloFrom X.env.cells scope.names [])) fp
  have pc := hcl s3 (upd H2 D (.lst [])) s3.heap.objs.size (cellsFrom (s3.heap.objs.size + 1) scope.names (cloFrom X.env.cells scope.names [])) fp
  have nfp : ∀ b ∈ fp, (upd H2 D (.lst [])) b = none := fun b hb => (f3 b hb).1.1
  have goal : codeAny (model X.prog X.w) X.A (.compStart (.ListComp elt (⟨tg, iter, ifs, 0⟩ :: gs) scope pos) 0 (.ref it) (.ref D) (compEnvC scope (cellsFrom (s3.heap.objs.size + 1) scope.names (cloFrom X.env.cells scope.names [])) s3.heap.objs.size X.env)) (compPost (model X.prog X.w) X.A X.xe use Qf (.ref D) s3.heap.objs.size)
      { s3 with heap := pushCells (s3.heap.push { cls := .type "dict", data := .dict #[] }) scope.names } := by
    generalize hce : compEnvC scope (cellsFrom (s3.heap.objs.size + 1) scope.names (cloFrom X.env.cells scope.names [])) s3.heap.objs.size X.env = ce at I4 pg pt pc ⊢
    have cL : ce.locals = s3.heap.objs.size := by subst hce; rfl
    generalize hH3 : upd H2 D (.lst []) = H3 at I3 I4 pg pt pc w0 nfp f3
    generalize hs4 : ({ s3 with heap := pushCells (s3.heap.push { cls := .type "dict", data := .dict #[] }) scope.names } : Shared) = s4 at I4 ⊢
    have st4 : tn 0 s4.heap := T.keep _ _ _ st3 fun b _ o e => by rw [← hs4]; exact pushCells_keeps _ _ _ _ (Heap.get?_push_of_some _ e)
    have fpo : ∀ {σ' : L2.St} {H' : Hp} {s' : Shared}, Inv (X.blk s3 H3 scope ce fp) [] σ' H' s' → (∀ b ∈ fp, H' b = none) → ∀ b ∈ fp, FpOk (X.blk s3 H3 scope ce fp) [] H' b := fun {σ' H' s'} I' hn b hb =>
      ⟨hn b hb, (I'.ok.exf b hb).1, I'.ok.exfs b hb, .inl hb, fun x c e => (I'.ok.exf b hb).2 x c e, fun p hp => absurd (show p ∈ ([] : List (Addr × Obj)) ++ [] from hp) (by simp)⟩
    have loop : codeAny (model X.prog X.w) X.A (.compLoop (.ListComp elt (⟨tg, iter, ifs, 0⟩ :: gs) scope pos) 0 (.ref it) (.ref D) ce) (compPost (model X.prog X.w) X.A X.xe use Qf (.ref D) s3.heap.objs.size) s4 := by
      refine lcLoop (gens := ⟨tg, iter, ifs, 0⟩ :: gs) rfl pc.sync (fun n s' => ∃ i H', Inv (X.blk s3 H3 scope ce fp) [] (wipe σ (own.map (·.2))) H' s' ∧ tn i s'.heap ∧ (∀ b ∈ fp, H' b = none) ∧ W i n H') ?_ m0 ⟨0, H3, I4, st4, nfp, w0⟩
      rintro n s5 ⟨i, H5, I5, st5, n5, w5⟩
      rcases turn i n H5 w5 with ⟨stop, qq⟩ | ⟨go, N1, hN1, step⟩
      · refine wpF (T.done (X.blk s3 H3 scope ce fp) rfl rfl rfl hc i [] s5 _ H5 nof I5 (fpo I5 n5) st5 stop) fun r s6 ⟨hr, I6⟩ => ?_
        subst hr
        have I7 : Inv X pins σ H5 s6 := I3.call' (ch := fp) I6.os I6.base I6.hok I6.bare fun b hb =>
          have z := (f3 b hb).1.2
          ⟨z.2.2.1, z.1, z.2.2.2.1, z.2.2.2.2⟩
        have nC : H5 s3.heap.objs.size = none := cL ▸ (show H5 ce.locals = none from I6.free)
        obtain ⟨m, hn, _⟩ := I6.loc
        exact hRR D s3.heap.objs.size s6 m H5 I7 qq (cL ▸ (show s6.heap.Ns ce.locals m from hn)) (I3.fpOk (Nat.le_refl _) nC)
      · refine wpF (T.item (X.blk s3 H3 scope ce fp) rfl rfl rfl hc i [] s5 _ H5 nof I5 (fpo I5 n5) st5 go) fun r s6 ⟨u, hr, h6⟩ => ?_
        subst hr
        refine wpF h6 fun _ s7 ⟨x7, H7, I7, r7, y7, st7, n7⟩ => ?_
        have I7' := I7.pinned (fpo I7 n7) (T.obj _ _ st7)
        refine wpF (pg.run _ s7 _ H7 x7 u _ I7' r7 (step x7 H7 y7)) fun _ s8 ⟨σ8, H8, I8, hw8, q8⟩ => ?_
        refine wpF (pt.run _ s8 σ8 H8 _ I8 q8) fun b s9 ⟨H9, I9, q9⟩ => ?_
        have fin : ∀ {σ9 : L2.St} {s' : Shared} {H' : Hp}, Inv (X.blk s3 H3 scope ce fp) ([] ++ pinsAt fp s7.heap) σ9 H' s' → (wipe σ (own.map (·.2))).length = σ9.length → (∀ (j : Nat) v, (wipe σ (own.map (·.2)))[j]? = some (some v) → σ9[j]? = some (some v)) → N1 H' →
            ∃ m, m < n ∧ ∃ i H', Inv (X.blk s3 H3 scope ce fp) [] (wipe σ (own.map (·.2))) H' s' ∧ tn i s'.heap ∧ (∀ b ∈ fp, H' b = none) ∧ W i m H' := fun {σ9 s' H'} I' hl hk nx => by
          obtain ⟨m1, hm, w1⟩ := hN1 H' nx
          have pin : ∀ b ∈ fp, ∀ o, s7.heap.get? b = some o → s'.heap.get? b = some o ∧ H' b = none := fun b hb o e =>
            have z := I'.pin (b, o) (List.mem_append_right _ (List.mem_append_right _ (mem_pinsAt hb e)))
            ⟨z.1, z.2.1⟩
          refine ⟨m1, hm, i + 1, H', (I'.unpinned (pins := [])).weak hl hk, T.keep _ _ _ st7 fun b hb o e => (pin b hb o e).1, fun b hb => ?_, w1⟩
          obtain ⟨o, e, _⟩ := T.obj _ _ st7 b hb
          exact (pin b hb o e).2
        have hl8 : (wipe σ (own.map (·.2))).length = σ8.length := by rw [← hw8, wipe_length]
        cases b with
        | false =>
          simp only [Bool.false_eq_true, if_false] at q9 ⊢
          exact fin I9 hl8 (fun j v e => by rw [← hw8] at e; exact (wipe_some e).1) q9
        | true =>
          simp only [if_true] at q9 ⊢
          refine wpF (body_ok (X := X.blk s3 H3 scope ce fp) hc rfl pc _ s9 σ8 H9 N1 I9 q9) fun _ s10 ⟨H10, I10, nx⟩ => ?_
          exact fin I10 (hl8.trans (behind_len σ8 cs).symm) (fun j v e => behind_some (c := ⟨wi, g, tt, own.map (·.2)⟩) hv hw8 e) nx
    exact codeAny_compStart_list loop (T.self X.A 0 _ _ _ st4 loop)
  exact goal
/-- [elt for .. for .. for ..], any number of clauses, as a value -/
theorem pe_lcN {elt tg iter : Expr} {ifs : List Expr} {gs : List Comprehension} {scope : Scope} {own : List (Str × Nat)} {pos : Pos} {wi : TI} {g : TG} {tt : TT} {cs : List Cl} {te : TE} (hc : X.calm = true) (hN : X.N.Nodup) (hi : PI X tg iter wi) (ok : BlkOk X.N X.env.scope scope own)
    (hg : ∀ s H C cl fp, PG (X.blk s H scope (compEnvC scope cl C X.env) fp) tg g) (ht : ∀ s H C cl fp, PTs (X.blk s H scope (compEnvC scope cl C X.env) fp) ifs tt)
    (hcl : ∀ s H C cl fp, PCl (X.blk s H scope (compEnvC scope cl C X.env) fp) elt (⟨tg, iter, ifs, 0⟩ :: gs) te 0 cs) (hv : ∀ c1 ∈ cs.head?, ∀ i ∈ c1.vs, i ∈ own.map (·.2)) (hs : ∀ x, foldedSetIterable iter X.env x = pure x := by intro _; rfl) :
    PE X (.ListComp elt (⟨tg, iter, ifs, 0⟩ :: gs) scope pos) (tLcN wi g tt cs te (own.map (·.2))) := by
  refine ⟨fun pins s σ H Q I h => ?_⟩
  rw [eval_ListComp]
  refine lcN_core hc hN I hi ok hg ht hcl hv hs h fun D C s' m H' I' q hn f => ⟨m, hn, fun h'' sb => ?_⟩
  obtain ⟨f0, f1, f2, f3, f4, f5⟩ := f
  exact ⟨.ref D, H', I'.turned (t' := s'.toks) (fun b o hb e => (sb.2 b hb).trans e) f0 f1 f3 f4 f5, rfl, q⟩
end
end Cs
namespace Cs
open PySem PySem.Spec PyProof.Rows L2
section
variable {prog : Program} {w : World} {K : Type} [DecidableEq K] {knd : KeyKind prog w K} {A : Around} {E : Value → Shared → Prop} {s : Shared}
theorem dictPut_ok {d : Addr} {kvs : List (K × Value)} {k : K} {key v : Value} {Q : Unit → Shared → Prop} (hkey : knd.is k key = true) (hm : s.heap.DictOf knd d kvs)
    (hQ : ∀ h', h'.DictOf knd d (stored kvs k v) → Heap.SameBut d s.heap h' → Q () { s with heap := h' }) (hsz : kvs.length ≤ sizeLine) :
    wpAny (model prog w) A (dictPut d (knd.hash k) key v) Q E s := by
  obtain ⟨o, es, ep, ho, hc, hd, hk, hp, hn⟩ := hm
  have hes : es.size ≤ sizeLine := by
    have e1 := hp.length
    rw [Array.length_toList] at e1
    omega
  have hidx : (es.findIdx? fun e => knd.is k e.key) = kvs.findIdx? fun kv => decide (kv.1 = k) := by
    rw [← hp.findIdx k]
    obtain ⟨l⟩ := es
    simp
  unfold dictPut
  refine wpAny_bind (wpAny_dictFind_of hkey ho hd hk ?_)
  cases hi : es.findIdx? fun e => knd.is k e.key with
  | some i =>
    refine wpAny_updateDict ho hd (hQ _ ⟨_, _, ep, Heap.get?_update_self _ ho (Obj.isFreed_of_dict (Obj.data_mapDict hd _)), hc.mapDict _, Obj.data_mapDict hd _, hk.modify _ _, ?_, ?_⟩ (Heap.SameBut.update ..))
    · rw [stored, if_pos (any_of_findIdx_some (hidx ▸ hi))]
      have hl : (es.toList.findIdx? fun e => knd.is k e.key) = some i := by
        rw [← hi]
        obtain ⟨l⟩ := es
        simp
      have z := hp.modify hn hl v
      obtain ⟨l⟩ := es
      simpa using z
    · rw [stored, if_pos (any_of_findIdx_some (hidx ▸ hi)), keys_map_store]
      exact hn
  | none =>
    have hnot : k ∉ kvs.map (·.1) := not_mem_of_findIdx_none (hidx ▸ hi)
    have hany : ¬ (kvs.any fun kv => decide (kv.1 = k)) = true := by
      rw [List.any_eq_true]
      rintro ⟨kv, hkv, he⟩
      exact hnot (List.mem_map.mpr ⟨kv, hkv, of_decide_eq_true he⟩)
    refine wpAny_updateDictKeys (hz := hes) ho hd (hQ _ ⟨_, _, ep + 1, Heap.get?_update_self _ ho (Obj.isFreed_of_dict (Obj.data_mapDictKeys hd _)), hc.mapDictKeys _, Obj.data_mapDictKeys hd _, hk.push hkey _, ?_, ?_⟩ (Heap.SameBut.update ..))
    · rw [stored, if_neg hany]
      have z := hp.append hkey (knd.hash k) v
      obtain ⟨l⟩ := es
      simpa using z
    · rw [stored, if_neg hany, List.map_append, List.nodup_append]
      refine ⟨hn, by simp, fun a ha b hb e => ?_⟩
      simp only [List.map_cons, List.map_nil, List.mem_singleton] at hb
      subst hb
      exact hnot (e ▸ ha)
theorem merge_ok {d o : Addr} {kvs more : List (K × Value)} {Q : Unit → Shared → Prop} (flat : ∀ k v, knd.is k v = true → ∀ a, v ≠ .ref a) (hdo : d ≠ o) (hoS : (o == sysModules) = false)
    (hd : s.heap.DictOf knd d kvs) (ho : s.heap.DictOf knd o more) (hsz : kvs.length + more.length ≤ sizeLine)
    (hQ : ∀ h', h'.DictOf knd d (merged kvs more) → h'.DictOf knd o more → Heap.SameBut d s.heap h' → Q () { s with heap := h' }) :
    wpAny (model prog w) A (mergeMapping d (.ref o) false) Q E s := by
  obtain ⟨od, esd, epd, hod, hcd, hdd, hkd, hpd, hnd⟩ := id hd
  obtain ⟨oo, eso, epo, hoo, hco, hdo', hko, hpo, hno⟩ := id ho
  have hlen : more.length = eso.size := by
    rw [← hpo.length]
    exact Array.length_toList
  unfold mergeMapping
  refine wpAny_bind (wpAny_isInstance ho.typeIs isSubtype_dict_dict ?_)
  simp only [if_true]
  refine wpAny_bind (wpAny_specialOf ho.typeIs F.slot_dict_iter.lookup (wpAny_bind (wpAny_pure ?_)))
  simp only [beq_self_eq_true, hoS, Bool.false_eq_true, if_false]
  have turns : ∀ {Q' : Unit → Shared → Prop}, (∀ s', Q () s' → Q' () s') → wpAny (model prog w) A (do
      let l ← dictEntries o
      let epoch ← dictEpoch o
      forIn (List.range l.size) PUnit.unit fun i (_ : PUnit) => (do
          let l ← dictEntries o
          match l[i]? with
            | some e => do
              holding [e.key, e.val] (dictPut d e.hash e.key e.val)
              let ep ← dictEpoch o
              if (ep != epoch) = true then do
                  (unsupported "dict.changed-during-merge" : Sem PUnit)
                  pure (ForInStep.yield PUnit.unit)
                else pure (ForInStep.yield PUnit.unit)
            | _ => do
              (unsupported "dict.changed-during-merge" : Sem PUnit)
              pure (ForInStep.yield PUnit.unit) : Sem (ForInStep PUnit))
      pure ()) Q' E s := by
    intro Q' hQ'
    refine wpAny_bind (wpAny_dictEntries hoo hdo' (wpAny_bind (wpAny_dictEpoch hoo hdo' (wpAny_bind ?_))))
    rw [List.range_eq_range']
    refine wpAny_forIn_list _ (fun rest _ s' => ∃ h' i, s' = { s with heap := h' } ∧ rest = List.range' i (eso.size - i) ∧ i ≤ eso.size ∧ h'.DictOf knd d (merged kvs (more.take i)) ∧ h'.get? o = some oo ∧ Heap.SameBut d s.heap h')
      _ ?_ ?_ _ _ ⟨s.heap, 0, rfl, by simp, Nat.zero_le _, by simpa [merged] using hd, hoo, Heap.SameBut.refl _ _⟩
    · rintro x rest b s' ⟨h', i, rfl, hr, hi, hd', hoo', hs'⟩
      have hlt : i < eso.size := by
        rcases Nat.lt_or_ge i eso.size with h | h
        · exact h
        · rw [Nat.sub_eq_zero_of_le h] at hr
          exact nomatch hr
      obtain ⟨rfl, hrest⟩ : x = i ∧ rest = List.range' (i + 1) (eso.size - (i + 1)) := by
        rw [show eso.size - i = (eso.size - (i + 1)) + 1 by omega, List.range'_succ] at hr
        injection hr with h1 h2
        exact ⟨h1, h2⟩
      refine wpAny_bind (wpAny_dictEntries hoo' hdo' ?_)
      rw [Array.getElem?_eq_getElem hlt]
      obtain ⟨⟨k, v⟩, hkv⟩ : ∃ kv, more[x]? = some kv := ⟨more[x]'(by rw [hlen]; exact hlt), List.getElem?_eq_getElem _⟩
      obtain ⟨hkey, hval⟩ := hpo.get? (e := eso[x]) (by simp [hlt]) hkv
      obtain ⟨k', hkey', hhash⟩ := hko eso[x] (Array.getElem_mem hlt)
      obtain rfl : k' = k := knd.inj _ _ _ hkey' hkey
      have hmx : (merged kvs (more.take x)).length ≤ sizeLine := by
        have e1 := merged_length_le kvs (more.take x)
        have e2 := List.length_take_le x more
        omega
      show wpAny _ _ (holding [eso[x].key, eso[x].val] (dictPut d eso[x].hash eso[x].key eso[x].val) >>= _) _ _ _
      rw [hhash, hval]
      refine wpAny_bind (wpAny_holding (dictPut_ok (s := { s with heap := h' }) hkey hd' (fun h2 hd2 hs2 => ?_) hmx))
      have hoo2 : h2.get? o = some oo := (hs2.2 o (Ne.symm hdo)).trans hoo'
      refine wpAny_bind (wpAny_dictEpoch hoo2 hdo' ?_)
      rw [if_neg (by simp)]
      exact wpAny_pure ⟨h2, x + 1, rfl, hrest, hlt, by rw [merged_take_succ kvs more x (k', v) hkv]; exact hd2, hoo2, hs'.trans hs2⟩
    · rintro b s' ⟨h', i, rfl, hr, hi, hd', hoo', hs'⟩
      have hin : i = eso.size := by
        rcases Nat.lt_or_ge i eso.size with h | h
        · rw [show eso.size - i = (eso.size - (i + 1)) + 1 by omega, List.range'_succ] at hr
          exact nomatch hr
        · omega
      rw [hin, ← hlen, List.take_length] at hd'
      exact wpAny_pure (hQ' _ (hQ h' hd' ⟨oo, eso, epo, hoo', hco, hdo', hko, hpo, hno⟩ hs'))
  refine wpAny_bind (wpAny_dictEntries hod hdd (wpAny_ite ?_))
  split
  · refine wpAny_bind (wpAny_dictEntries hoo hdo' (wpAny_bind ?_))
    rw [← Array.forIn_toList]
    refine wpAny_forIn_list _ (fun rest _ s' => s' = s ∧ ∀ e ∈ rest, e ∈ eso) _ (fun x rest b s' ⟨es, hm⟩ => ?_) (fun b s' ⟨es, _⟩ => ?_) _ _ ⟨rfl, fun e h => Array.mem_toList_iff.mp h⟩
    · subst es
      obtain ⟨k', hkey', _⟩ := hko x (hm x (List.mem_cons_self ..))
      have z := flat _ _ hkey'
      have hr : ∀ e ∈ rest, e ∈ eso := fun e h => hm e (List.mem_cons_of_mem _ h)
      cases e : x.key with
      | ref a => exact absurd e (z a)
      | _ => exact wpAny_pure ⟨rfl, hr⟩
    · subst es
      exact turns fun _ q => q
  · exact turns fun _ q => q
end
end Cs
namespace Cs
open PySem PySem.Spec PyProof.Rows L2
/-- {**e, k: v} -/
def tSplat (te tk tv : TE) : TE := fun σ H Q => ∀ p, H p = none → te σ (upd H p (.dK [])) fun x H1 => ∃ a kvs, x = .ref a ∧ a ≠ p ∧ Rd H1 a (.dK kvs) ∧ H1 p = some (.dK []) ∧ kvs.length ≤ 1000 ∧
  ∀ q, (upd H1 p (.dK kvs)) q = none → tPairs [(tk, tv)] σ (upd (upd H1 p (.dK kvs)) q (.dK [])) fun ps H3 => ∃ k y, ps = [(kV k, y)] ∧ H3 q = some (.dK []) ∧ H3 p = some (.dK kvs) ∧ p ≠ q ∧
    Q (.ref p) (upd (upd H3 q (.dK [(k, y)])) p (.dK (putK kvs k y)))
theorem mix_flat {P : Program} {w : World} : ∀ k v, (mixKind P w).is k v = true → ∀ a, v ≠ .ref a := by
  intro k v h a e
  rcases keyIs_shape (show keyIs k v = true from h) with ⟨i, t, _, q⟩ | ⟨x, t, _, q⟩ <;> (rw [q] at e; exact nomatch e)
theorem one_carries {P : Program} {w : World} {k : Key} {y : V} {ws : List (Value × Value)} (r : VV [(kV k, y)] ws) : ∃ u, Carries (mixKind P w) ws [(k, u)] ∧ RelV y u := by
  obtain ⟨rs, c, q⟩ := carries_of (P := P) (w := w) (kvs := [(k, y)]) r
  cases q with
  | @cons a b as bs h t =>
    cases t
    obtain ⟨b1, b2⟩ := b
    obtain ⟨h1, h2⟩ := h
    obtain rfl : k = b1 := h1
    exact ⟨b2, c, h2⟩
theorem KV.put {kvs : List (Key × V)} {vs : List (Key × Value)} {k : Key} {y : V} {u : Value} (r : KV kvs vs) (h : RelV y u) : KV (putK kvs k y) (stored vs k u) :=
  KV.merge (more := [(k, y)]) (rs := [(k, u)]) (.cons ⟨rfl, h⟩ .nil) r
theorem putK_le (kvs : List (Key × V)) (k : Key) (y : V) : (putK kvs k y).length ≤ kvs.length + 1 := by
  unfold putK
  split
  · rw [List.length_map]; omega
  · rw [List.length_append]; exact Nat.le_refl _
section
variable {X : Cx}
theorem display_eq (v ke ve : Expr) (env : Env) (pos : Pos) : eval (.Dict [none, some ke] [v, ve] pos) env = (do
    standAt pos
    let d ← alloc { cls := .type "dict", data := .dict #[] }
    let m ← holding [.ref d] (do let x ← eval v env; standAt pos; pure x)
    (((holding [.ref d, m] (mergeMapping d m false)).onRaise fun x => do let _ ← holding [.ref d, m, x] (runValue (.builtin "proto.let_go" {}))).tryCatch fun e => do
        if ← isInstance e (.type "AttributeError") then
          rule "dict.display.not-a-mapping"; raiseError "TypeError" s!"'{← typeNameOf m}' object is not a mapping"
        throw e).onRaise fun x => do let _ ← holding [.ref d, x] (runValue (.builtin "proto.let_go" {}))
    let sub ← holding [.ref d] (subDict (pairTrees [some ke] [ve] env pos))
    (holding [.ref d, .ref sub] (mergeMapping d (.ref sub) false)).onRaise fun x => do let _ ← holding [.ref d, x] (runValue (.builtin "proto.let_go" {}))
    pure (.ref d)) := by
  rw [arm_eval_Dict]
  unfold dictDisplay
  have e17 : ((0 + 1 : Nat) == 17) = false := rfl
  have e1 : ((1 : Nat) == 17) = false := rfl
  simp only [evalOpt, e17, e1, Bool.false_eq_true, evalEachOpt, evalEach, List.map, List.zip, List.zipWith, pairTrees, List.forIn_cons, List.forIn_nil, bind_assoc, pure_bind, List.isEmpty, if_true, if_false, List.nil_append, List.length_cons, List.length_nil]
theorem pe_splat {v ke ve : Expr} {pos : Pos} {te tk tv : TE} (he : PE X v te) (hk : PE X ke tk) (hv : PE X ve tv) : PE X (.Dict [none, some ke] [v, ve] pos) (tSplat te tk tv) := by
  refine ⟨fun pins s σ H Q I h => ?_⟩
  rw [display_eq]
  refine wpAny_bind (wpAny_standAt (wpAny_bind (wpAny_alloc ?_)))
  have n0 := I.hok.fresh (Nat.le_refl s.heap.objs.size)
  have I1 := I.laid (a := s.heap.objs.size) (o := .dK []) (h' := s.heap.push { cls := .type "dict", data := .dict #[] }) (t' := s.toks) (fun _ _ q => Heap.get?_push_of_some _ q) (Nat.le_refl _) (dk_empty s.heap I.big)
  generalize hp : s.heap.objs.size = p at n0 I1
  refine wpAny_bind (wpAny_holding (wpAny_bind (thn (he.run pins _ σ _ _ I1 (h p n0)) fun m s1 h1 => wpAny_bind (wpAny_standAt (wpAny_pure ?_)))))
  obtain ⟨x, H1, I2, rx, a, kvs, rfl, hap, ra, ep, hl, q1⟩ := h1
  obtain rfl : m = Value.ref a := rx
  obtain ⟨za, da, va, ka, dda⟩ := dk_rd I2.hok ra
  obtain ⟨zp, dp, vp, kp, ddp⟩ := dk_of I2.hok ep
  cases kp
  have hla : va.length = kvs.length := (Paired.length ka).symm
  refine wpAny_bind (wpAny_onRaise (wpAny_tryCatch (wpAny_onRaise (wpAny_holding (merge_ok mix_flat (Ne.symm hap) da ddp dda (by rw [List.length_nil, hla, sizeLine_eq]; omega) fun h2 hd2 _ hs2 => ?_)))))
  have hn : (va.map (·.1)).Nodup := by
    obtain ⟨_, _, _, _, _, _, _, _, z⟩ := dda
    exact z
  rw [merged_nil_of_nodup va hn] at hd2
  have he2 : ∃ q, h2.get? p = some q := let ⟨q, _, _, hq, _⟩ := hd2; ⟨q, hq⟩
  have I3 := d_write (t' := s1.toks) I2 (by rw [ep]; exact True.intro) hs2 he2 (dk_new (by omega) dp ka hd2)
  have n3 := I3.hok.fresh (Nat.le_refl _)
  have I4 := I3.laid (a := h2.objs.size) (o := .dK []) (h' := h2.push { cls := .type "dict", data := .dict #[] }) (t' := s1.toks) (fun _ _ q => Heap.get?_push_of_some _ q) (Nat.le_refl _) (dk_empty h2 I3.big)
  have q3 := q1 h2.objs.size n3
  refine wpAny_bind (wpAny_holding (wpAny_subDict (knd := mixKind X.prog X.w) (by show 1 ≤ 15; decide) (thn ((pps_cons hk hv pps_nil).run pins _ σ _ _ I4 q3) fun ws s5 h5 => ?_)))
  obtain ⟨ps, H5, I5, rel, k, y, rfl, eq, ep5, npq, q5⟩ := h5
  obtain ⟨u, hc, ru⟩ := one_carries (P := X.prog) (w := X.w) rel
  obtain ⟨zq, dq, vq, kq, ddq⟩ := dk_of I5.hok eq
  cases kq
  refine ⟨[(k, u)], hc, ddq, fun h6 hd6 hs6 => ?_⟩
  have hd6 : h6.DictOf (mixKind X.prog X.w) h2.objs.size [(k, u)] := hd6
  have he6 : ∃ q, h6.get? h2.objs.size = some q := let ⟨q, _, _, hq, _⟩ := hd6; ⟨q, hq⟩
  have I6 := d_write (t' := s5.toks + ws.length) I5 (by rw [eq]; exact True.intro) hs6 he6 (dk_new (kvs := [(k, y)]) (by show 1 ≤ sizeLine; rw [sizeLine_eq]; omega) dq (.cons ⟨rfl, ru⟩ .nil) hd6)
  have e7 : (upd H5 h2.objs.size (.dK [(k, y)])) p = some (.dK kvs) := by rw [upd_ne npq]; exact ep5
  obtain ⟨z7, d7, v7, k7, dd7⟩ := dk_of I6.hok e7
  have hl7 : v7.length = kvs.length := (Paired.length k7).symm
  refine wpAny_bind (wpAny_onRaise (wpAny_holding (merge_ok mix_flat npq dq dd7 hd6 (by rw [hl7, sizeLine_eq]; show kvs.length + 1 ≤ _; omega) fun h8 hd8 _ hs8 => wpAny_pure ?_)))
  have hd8 : h8.DictOf (mixKind X.prog X.w) p (stored v7 k u) := hd8
  have he8 : ∃ q, h8.get? p = some q := let ⟨q, _, _, hq, _⟩ := hd8; ⟨q, hq⟩
  have I8 := d_write (t' := s5.toks + ws.length) I6 (by rw [e7]; exact True.intro) hs8 he8 (dk_new (kvs := putK kvs k y) (by have := putK_le kvs k y; rw [sizeLine_eq]; omega) d7 (KV.put k7 ru) hd8)
  exact ⟨.ref p, _, I8, rfl, q5⟩
end
end Cs
namespace Cs
open PySem PySem.Spec PyProof.Rows L2
/-! ### set(xs) of a list of ints, to be sorted -/
abbrev bareSet (w : World) : Obj := { cls := .type "set", dict := none, data := .set #[] 0 (.fresh 0 0 (!w.params.followText "set-order")) }
section
variable {P : Program} {w : World} {A : Around} {E : Value → Shared → Prop} {s : Shared}
set_option maxHeartbeats 3200000 in
theorem set_of_list {l : Addr} {items : Array Value} (ns : List Int) {Q : Value → Shared → Prop} (hh : A.handled = none) (hl : s.heap.IsList l items) (hit : IntsAre items.toList ns) (hb : ns.length + 1 < scanBound)
    (h : ∀ (h1 : Heap) (tk c : Nat), SetR w h1 s.heap.objs.size (fun j => decide (j ∈ ns)) c → c ≤ ns.length → (∀ b o, s.heap.get? b = some o → h1.get? b = some o) → Q (.ref s.heap.objs.size) { s with heap := h1, toks := tk }) :
    wpAny (model P w) A (call (.type "set") [.ref l]) Q E s := by
  have size_eq : items.size = ns.length := (Array.length_toList (xs := items)).symm.trans (IntsAre.length hit)
  obtain ⟨c, tl, hmro⟩ := F.called_set.mro
  have hmade := F.called_set.made
  have hsub := F.called_set.sub
  refine wpAny_call (codeAny_of_tree ?_)
  show wpAny _ _ (callAny (.type "set") _) _ _ _
  refine wpAny_pure ⟨Code.quiet_builtin _ (by decide +kernel), codeAny_builtin F.entry_type_call ?_⟩
  rw [Around.under_plain (weight_type_call_type "set" [.ref l] []) rfl]
  have h1 := F.called_set.notType
  have h2 := F.called_set.canCreate
  have hct := F.typeCall_set_1 (.ref l)
  repeat (any_goals (first | assumption | wp_step))
  refine codeAny_mono (code_set_led1 (.ref l) (E := E) (Q₁ := fun obj s₁ => obj = .ref s.heap.objs.size ∧ s₁ = { s with heap := s.heap.push (bareSet w) }) ⟨rfl, rfl⟩) fun r s₁ hr => ?_
  match r, hr with
  | .error _, hr => exact hr
  | .ok (.ret obj), ⟨e1, e2⟩ =>
    subst e1 e2
    have hS : (s.heap.push (bareSet w)).get? s.heap.objs.size = some (bareSet w) := Heap.get?_push_size _ rfl
    have hT : Shared.TypeIs { s with heap := s.heap.push (bareSet w) } (.ref s.heap.objs.size) "set" := ⟨_, hS, rfl⟩
    have hli := F.called_set.init.lookup
    have hbi := F.called_set.init.bind (.ref s.heap.objs.size)
    repeat (any_goals (first | assumption | wp_step))
    refine codeAny_mono (codeAny_call_builtin (R := wants (fun r s₂ => r = .none ∧ ∃ h1 tk c, s₂ = { s with heap := h1, toks := tk } ∧ SetR w h1 s.heap.objs.size (fun j => decide (j ∈ ns)) c ∧ c ≤ ns.length ∧
        (∀ b o, s.heap.get? b = some o → h1.get? b = some o)) E) F.called_set.init.plain F.entry_set_init (check_set_init_1 hT ?_)) fun r₂ s₂ hr₂ => ?_
    · obtain ⟨⟨_, odict, _, oslots⟩, hol, rfl, nl, rfl⟩ := hl
      have below : l < s.heap.objs.size := Heap.lt_size hol
      have hol' : (s.heap.push (bareSet w)).get? l = some { cls := .type "list", dict := odict, data := .seq items nl, slots := oslots } := Heap.get?_push_of_some _ hol
      have hsls := F.sub_list_set
      have hslf := F.sub_list_frozenset
      have hne : (Value.type "list" == Value.type "dict") = false := by decide
      have hl1 : (s.heap.push (bareSet w)).IsList l items := ⟨_, hol', rfl, nl, rfl⟩
      unfold Builtin.«set.__init__» noKeywords Builtin.Frozenset.updateFrom
      generalize hPI : pyIter = PI
      wp_walk
      subst hPI
      refine wpAny_pyIter_list hl1 (wpAny_bind (wpAny_runValue ?_))
      have calm : A.in1.in1.in1.handled = none := by simp [hh]
      have sz1 : (s.heap.push (bareSet w)).objs.size = s.heap.objs.size + 1 := Heap.size_push ..
      have hneI : l ≠ (s.heap.push (bareSet w)).objs.size := by rw [sz1]; exact Nat.ne_of_lt (Nat.lt_succ_of_lt below)
      have hSf : s.heap.objs.size ∉ [(s.heap.push (bareSet w)).objs.size, l] := by
        rw [sz1]
        simp only [List.mem_cons, List.not_mem_nil, or_false, not_or]
        exact ⟨Nat.ne_of_lt (Nat.lt_succ_self _), Nat.ne_of_gt below⟩
      have hval : ∀ (i : Nat) (v : Value), items[i]? = some v → ∃ k t, ns[i]? = some k ∧ v = .int k t := fun i v hv => by
        have hi : i < ns.length := size_eq ▸ (Array.getElem?_eq_some_iff.mp hv).1
        obtain ⟨t, e⟩ := PyProof.Rows.IntsAre.int_at hit i v (by rw [Array.getElem?_toList]; exact hv)
        exact ⟨ns[i], t, List.getElem?_eq_getElem hi, by rw [e, List.getD_eq_getElem?_getD, List.getElem?_eq_getElem hi] <;> rfl⟩
      refine set_update_ints ((Walks.list calm _ l hneI items).toS) s.heap.objs.size hSf ns size_eq hb hval (items.size - 0) 0 _ (by omega) (Nat.zero_le _)
        ⟨⟨_, Heap.get?_push_size _ rfl, rfl, rfl⟩, (hl1.push _)⟩ ⟨0, Nat.le_refl 0, setR_new_at (Heap.get?_push_of_some _ hS)⟩ ?_
      intro s3 c3 hm hc3 hS3
      obtain ⟨h3, g3, d3, tk3, os3⟩ := s3
      obtain rfl : g3 = s.gens := hm.gens
      obtain rfl : d3 = s.drawn := hm.drawn
      obtain rfl : os3 = s.os := hm.os
      refine wpAny_pure (wpAny_pure ⟨rfl, h3, tk3, c3, rfl, hS3, size_eq ▸ hc3, fun b o e => ?_⟩)
      have hb0 : b < s.heap.objs.size := Heap.lt_size e
      refine hm.heap b o ?_ (Heap.get?_push_of_some _ (Heap.get?_push_of_some _ e))
      simp only [List.mem_cons, List.not_mem_nil, or_false, not_or]
      exact ⟨Nat.ne_of_lt hb0, by rw [sz1]; exact Nat.ne_of_lt (Nat.lt_succ_of_lt hb0)⟩
    · match r₂, hr₂ with
      | .error _, hr₂ => exact hr₂
      | .ok (.ret _), ⟨e, h3, tk, c, es, hS3, hc3, hk3⟩ =>
        subst e es
        repeat (any_goals (first | assumption | wp_step))
        exact h _ _ _ hS3 hc3 hk3
end
/-- set(xs) -/
def rSetL (K : PySem.W.Frag) (w : World) : List V → Hp → VK → Prop := fun xs H Q => ∃ (a : Addr) (ns : List Int), xs = [.ref a] ∧ SqL K H a (ns.map V.int) ∧ ns.length ≤ 1000 ∧
  ∀ p c, H p = none → c ≤ ns.length → Q (.ref p) (upd H p (SetO w p (fun j => decide (j ∈ ns)) c))
theorem cr_setL {X : Cx} (hc : X.calm = true) : CallR X (.type "set") (rSetL X.K X.w) := by
  intro pins s σ H xs us Q I r h
  obtain ⟨a, ns, rfl, hs, hl, q⟩ := h
  obtain ⟨its, rv, pl, hz⟩ := I.list hs
  rw [Vals.ref1 r]
  refine set_of_list ns (I.ok.hd hc) pl.isList (by simpa using ints_of_vals rv) (by unfold scanBound; omega) fun h1 tk c R hcn hk => ?_
  exact ⟨.ref _, _, I.laid (t' := tk) hk (Nat.le_refl _) (setO_new R), rfl, q _ c (I.hok.fresh (Nat.le_refl _)) hcn⟩
end Cs
namespace Cs
open PySem PySem.Spec PyProof.Rows L2
/-! ### tuples that are known to bear no dict of their own -/
abbrev tupObj (its : List Value) : Obj := { cls := .type "tuple", data := .seq its.toArray }
/-- a plain tuple of xs -/
def PlT (H : Hp) (a : Addr) (xs : List V) : Prop := ∃ o, H a = some (.frz o (.tup xs)) ∧ o.dict = none
theorem PlT.sq {K : PySem.W.Frag} {H : Hp} {a : Addr} {xs : List V} (h : PlT H a xs) : SqT K H a xs := let ⟨o, e, _⟩ := h; .inl (.inr ⟨o, e⟩)
theorem PlT.same {H H1 : Hp} {a : Addr} {xs : List V} (h : PlT H a xs) (s : ∀ b o, H b = some o → H1 b = some o) : PlT H1 a xs := let ⟨o, e, d⟩ := h; ⟨o, s _ _ e, d⟩
theorem PlT.new {H : Hp} {a : Addr} {xs : List V} {its : List Value} : PlT (upd H a (.frz (tupObj its) (.tup xs))) a xs := ⟨_, upd_same, rfl⟩
def tTupF (t : TA) : TE := fun σ H Q => t σ H fun xs H1 => xs.length ≤ sizeLine ∧ ∀ p its, H1 p = none → Q (.ref p) (upd H1 p (.frz (tupObj its) (.tup xs)))
section
variable {X : Cx}
theorem pe_tupF {es : List Expr} {t : TA} {pos : Pos} {k} (h : PA X es t) : PE X (.Tuple es k pos) (tTupF t) := by
  refine ⟨fun pins s σ H Q I hq => wpAny_Tuple_spliced (thn (h.run pos pins s σ H _ I hq) fun us s1 ⟨xs, H1, I1, r, z, q⟩ => ⟨by rw [← r.length]; exact z, ?_⟩)⟩
  refine ⟨.ref s1.heap.objs.size, _, I1.laid (t' := s1.toks) (fun b u e => Heap.get?_push_of_some _ e) (Nat.le_refl _) ?_, rfl, q _ us (I1.hok.fresh (Nat.le_refl _))⟩
  exact ⟨Heap.get?_push_size _ rfl, z, us, r, ⟨_, Heap.get?_push_size _ rfl, rfl, _, rfl⟩⟩
/-- tuple(xs) of a list -/
def rTupF (K : PySem.W.Frag) : List V → Hp → VK → Prop := fun xs H Q => ∃ p ys, xs = [.ref p] ∧ SqL K H p ys ∧ ∀ l its, H l = none → Q (.ref l) (upd H l (.frz (tupObj its) (.tup ys)))
theorem cr_tupF : CallR X (.type "tuple") (rTupF X.K) := by
  intro pins s σ H xs us Q I r h
  obtain ⟨p, ys, rfl, hq, q⟩ := h
  rw [Vals.ref1 r]
  obtain ⟨its, rv, pl, hz⟩ := I.list hq
  have hlen := rv.length
  refine call_tuple_list pl.isList (fun h1 kp => ?_) (by simp only [List.size_toArray] <;> omega)
  have I1 : Inv X pins σ H { s with heap := h1 } := I.kept (t' := s.toks) kp
  refine ⟨.ref h1.objs.size, _, I1.laid (a := h1.objs.size) (o := .frz (tupObj its) (.tup ys)) (h' := h1.push (tupObj its)) (t' := s.toks) (fun b o e => Heap.get?_push_of_some _ e) (Nat.le_refl _) ?_, rfl, q _ its (I1.hok.fresh (Nat.le_refl _))⟩
  exact ⟨Heap.get?_push_size _ rfl, hz, its, rv, IsTup.new _ _⟩
/-- dict(ps), ps a plain tuple of pairs -/
def rDictT (K : PySem.W.Frag) : List V → Hp → VK → Prop := fun xs H Q => ∃ (a : Addr) (ps : List Addr) (kvs : List (Key × V)), xs = [.ref a] ∧ PlT H a (ps.map V.ref) ∧ Paired (fun p kv => SqT K H p [kV kv.1, kv.2]) ps kvs ∧
  ∀ p, H p = none → Q (.ref p) (upd H p (.dK (mergeK [] kvs)))
theorem cr_dictT (hc : X.calm = true) : CallR X (.type "dict") (rDictT X.K) := by
  intro pins s σ H xs us Q I r h
  obtain ⟨a, ps, kvs, rfl, ⟨o, ha, hdn⟩, hp, q⟩ := h
  rw [Vals.ref1 r]
  obtain ⟨hget, hz, its, rv, o1, ho1, hcls, n, hdat⟩ := I.hok a _ ha
  obtain rfl : o = o1 := Option.some.inj (hget.symm.trans ho1)
  have ei := refs_at rv
  subst ei
  rw [List.length_map] at hz
  obtain ⟨prs, rel, hl, hpr⟩ := pairs_of I hp
  -- the pairs, their keys as values
  have hall : ∀ (j : Nat) (q : Key × Value), prs[j]? = some q → ∃ (b : Addr) (u : Value), ps[j]? = some b ∧ IsTup s.heap b #[u, q.2] ∧ keyIs q.1 u = true := hpr
  have hkey : ∀ j : Nat, ∃ u : Value, ∀ q, prs[j]? = some q → ∃ b, ps[j]? = some b ∧ IsTup s.heap b #[u, q.2] ∧ keyIs q.1 u = true := fun j => by
    cases e : prs[j]? with
    | none => exact ⟨.none, fun q e2 => nomatch e2⟩
    | some q =>
      obtain ⟨b, u, h1, h2, h3⟩ := hall j q e
      exact ⟨u, fun q2 e2 => by cases e2; exact ⟨b, h1, h2, h3⟩⟩
  obtain ⟨ku, hku⟩ := Classical.axiomOfChoice hkey
  have hp2 : ∀ (j : Nat) (k v : Value), ((List.range prs.length).map fun j => (ku j, ((prs[j]?).map (·.2)).getD .none))[j]? = some (k, v) → ∃ q, prs[j]? = some q ∧ k = ku j ∧ v = q.2 := fun j k v e => by
    rw [List.getElem?_map] at e
    by_cases hj : j < prs.length
    · rw [List.getElem?_range hj] at e
      have e := Option.some.inj e
      dsimp only at e
      rw [List.getElem?_eq_getElem hj] at e
      exact ⟨prs[j], List.getElem?_eq_getElem hj, (Prod.mk.inj e).1.symm, (Prod.mk.inj e).2.symm⟩
    · rw [List.getElem?_eq_none (by simpa using hj)] at e
      exact nomatch e
  have hlen2 : ((List.range prs.length).map fun j => (ku j, ((prs[j]?).map (·.2)).getD Value.none)).length = prs.length := by simp
  refine PySem.call_dict_pairs (knd := mixKind X.prog X.w) (kvs := prs) (PairArg.tuple a (ps.map Value.ref).toArray (fun j => ps.getD j 0) ((List.range prs.length).map fun j => (ku j, ((prs[j]?).map (·.2)).getD .none))) (I.ok.hd hc)
    ⟨⟨o, n, hget, hcls, hdn, hdat⟩, by simp [hl], fun j k v e => ?_⟩ ⟨hlen2.symm, fun j key v e => ?_⟩ (by rw [hlen2, hl]; exact hz) fun h1 tk hd1 hk => ?_
  · obtain ⟨q, e1, rfl, rfl⟩ := hp2 j k v e
    obtain ⟨b, e2, e3, _⟩ := hku j q e1
    have e4 : ps.getD j 0 = b := by rw [List.getD_eq_getElem?_getD, e2]; rfl
    dsimp only
    rw [e4]
    exact ⟨by simp [e2], .inl e3⟩
  · obtain ⟨q, e1, rfl, rfl⟩ := hp2 j key v e
    obtain ⟨_, _, _, e4⟩ := hku j q e1
    exact ⟨q.1, e1, e4⟩
  · have hm : (s.heap.objs.size == sysModules) = false := beq_eq_false_iff_ne.mpr (Nat.ne_of_gt I.big)
    have hlen : (mergeK [] kvs).length ≤ sizeLine := by
      refine Nat.le_trans (length_mergeK kvs []) ?_
      rw [List.length_nil, Nat.zero_add, rel.length, hl]
      exact hz
    exact ⟨.ref s.heap.objs.size, upd H s.heap.objs.size (.dK (mergeK [] kvs)), I.laid (t' := tk) (fun b o e => hk b o (fun z => nomatch z) e) (Nat.le_refl _) (show ObjOk X.prog X.w _ _ _ (.dK (mergeK [] kvs)) from ⟨hlen, hm, merged [] prs, KV.merge rel .nil, hd1⟩), rfl, q _ (I.hok.fresh (Nat.le_refl _))⟩
/-- x * n, a text -/
def rMulS : V → V → Hp → VK → Prop := fun x y H Q => ∃ z n, x = .str z ∧ y = .int n ∧ MulOk z n ∧ Q (.str (Txt.mul z n)) H
theorem op_mulS : OpR X (binaryOp .Mult) rMulS := by
  intro pins s σ H x y v u Q I rx ry h
  obtain ⟨z, n, rfl, rfl, ok, q⟩ := h
  obtain ⟨t, rfl⟩ := rx
  obtain ⟨t2, rfl⟩ := ry
  exact SB.mul ok fun t3 k => ⟨.str (Txt.mul z n), H, I.tok k, ⟨t3, rfl⟩, q⟩
end
end Cs
namespace Cs
open PySem PySem.Spec PyProof.Rows L2
/-! ### enumerate(t), t a tuple -/
set_option maxHeartbeats 1000000 in
theorem enumNew1 {v : Value} {o : Obj} {Hd : Heap → Prop} (B : Begins v o Hd) : Meets (Builtin.«enumerate.__new__» ⟨[.type "enumerate", v], []⟩) (fun _ R s => Hd s.heap ∧
    R (.ok (.ret (.ref (s.heap.push o).objs.size))) { s with heap := (s.heap.push o).push { cls := .type "enumerate", data := .fields #[.none, .bool false, .ref s.heap.objs.size, rawInt 0, .none, .none] } }) :=
  .of_wp fun prog w A R s h => by
    obtain ⟨hp, g, d, tk, os⟩ := s
    obtain ⟨h1, h⟩ := h
    have hsub := sub_enumerate
    have begin_ : ∀ {A' : Around} {E : Value → Shared → Prop} {Q : Value → Shared → Prop}, Q (.ref hp.objs.size) ⟨hp.push o, g, d, tk, os⟩ → wpAny (model prog w) A' (pyIter v) Q E ⟨hp, g, d, tk, os⟩ :=
      fun q => B.iter prog w _ _ ⟨hp, g, d, tk, os⟩ _ h1 q
    wp_walk using begin_
    refine wpAny_stack_any fun st => wpAny_pure ?_
    split
    · rename_i c _ _ _ _ _
      cases (c == Value.type "enumerate") <;> (wp_walk using begin_; exact ⟨_, rfl, h⟩)
    · wp_walk using begin_
      exact ⟨_, rfl, h⟩
section
variable {prog : Program} {w : World} {A : Around} {E : Value → Shared → Prop} {s : Shared}
theorem enum1_begins {v : Value} {o : Obj} {Hd : Heap → Prop} {Q : Value → Shared → Prop} (B : Begins v o Hd) (h1 : Hd s.heap)
    (h : ∀ h1 : Heap, IsEnum h1 (s.heap.objs.size + 1) s.heap.objs.size 0 .none → h1.get? s.heap.objs.size = some o →
      (∀ b o, s.heap.get? b = some o → h1.get? b = some o) → Q (.ref (s.heap.objs.size + 1)) { s with heap := h1 }) :
    wpAny (model prog w) A (call (.type "enumerate") [v]) Q E s := by
  refine callType_new F.called_enumerate (by decide) (F.typeCall_enumerate_1 _) (F.newCall_enumerate_1 _) (fun obj => F.args_object_init_2 obj _) F.entry_enumerate_new (enumNew1 B) ⟨h1, ?_⟩
  have hz : (s.heap.push o).objs.size = s.heap.objs.size + 1 := Heap.size_push ..
  have he := Heap.get?_push_size (s.heap.push o) (o := { cls := .type "enumerate", data := .fields #[.none, .bool false, .ref s.heap.objs.size, rawInt 0, .none, .none] }) rfl
  show _ ∧ _
  rw [hz] at he ⊢
  exact ⟨⟨_, he, rfl⟩, h _ he (Heap.get?_push_of_some _ (Heap.get?_push_size _ B.free)) fun b o x => Heap.get?_push_of_some _ (Heap.get?_push_of_some _ x)⟩
end
/-- the tuple at a, each item in a new pair with its number -/
def IteT (K : PySem.W.Frag) (a : Addr) : It :=
  ⟨fun i H => ∃ (xs : List V) (x : V), SqT K H a xs ∧ xs[i]? = some x,
   fun i H v H1 => ∃ T x, v = .ref T ∧ H T = none ∧ H1 = upd H T (.tup [.int (i : Nat), x]) ∧ ∀ xs, SqT K H a xs → xs[i]? = some x,
   fun i H => ∃ xs : List V, SqT K H a xs ∧ xs.length ≤ i⟩
theorem turn_enumT {P : Program} {w : World} {K : PySem.W.Frag} {elts : List Expr} {kk : Nat} {tpos : Pos} {a e it : Addr} (ne : e ≠ it) (nea : e ≠ a) (nia : it ≠ a) :
    Turn P w K (.Tuple elts kk tpos) (IteT K a) [e, it] e (fun i h => (∃ old, IsEnum h e it (0 + (i : Int)) old) ∧ h.IsTupleIter it a i) where
  mem := by simp
  obj := fun i h st b hb => by
    obtain ⟨⟨old, he⟩, o, ho, hc, hd⟩ := st
    rcases (show b = e ∨ b = it by simpa using hb) with z | z
    · subst z
      exact ⟨_, he, fun v q => nomatch q⟩
    · subst z
      exact ⟨o, ho, fun v q => by rw [hd] at q; cases q⟩
  keep := fun i h h' st k => let ⟨⟨old, he⟩, hi⟩ := st; ⟨⟨old, k e (by simp) _ he⟩, hi.at fun o q => k it (by simp) o q⟩
  item := by
    intro X hP hw hK hc i pins s σ H E I hf st hg
    subst hP hw hK
    obtain ⟨xs, x, hq, hx⟩ := hg
    obtain ⟨its, rv, p, hz⟩ := I.tuple hq
    obtain ⟨u, hu, ru⟩ := rv.get hx
    have hi : i < its.toArray.size := by
      have z := (List.getElem?_eq_some_iff.mp hu).1
      simpa using z
    have G := GoesN.enumFrom (prog := X.prog) (w := X.w) (A := X.A) (elts := elts) (x1 := kk) (pos := tpos) 0 (Draws.tuple (prog := X.prog) (w := X.w) (A := X.A.in1) (I.ok.hd hc) it a (Ne.symm nia) its.toArray) e ne (by simp [ne, nea]) (by simp)
    refine wpAny_mono (G.goes i s (fun v s2 => ∃ x H', Inv X pins σ H' s2 ∧ RelV x v ∧ (IteT X.K a).yld i H x H' ∧ ((∃ old, IsEnum s2.heap e it (0 + ((i + 1 : Nat) : Int)) old) ∧ s2.heap.IsTupleIter it a (i + 1)) ∧ ∀ b ∈ [e, it], H' b = none) E hi ⟨st.1, st.2, p⟩ ?_)
      (fun r s1 ⟨v, hr, h1⟩ => ⟨v, hr, wpAny_mono h1 (fun _ s2 q => q) fun _ _ q => q⟩) fun _ _ q => q
    rintro v h2 tk ⟨T, t, y, rfl, hT, hy, tT⟩ st2 hk htk
    obtain rfl : y = u := by
      have e1 : its[i]? = some y := by simpa using hy
      exact Option.some.inj (e1.symm.trans hu)
    have fT : H T = none := I.hok.fresh hT
    have I1 : Inv X pins σ (upd H T (.tup [.int (i : Nat), x])) { s with heap := h2, toks := tk } :=
      I.turnedNew (ch := [e, it]) hk hf hT ⟨by show 2 ≤ sizeLine; decide, [.int (0 + (i : Int)) t, y], .cons ⟨t, by rw [Int.zero_add]⟩ (.cons ru .nil), by
        obtain ⟨o, h1, h2, n, h3⟩ := tT
        exact ⟨o, h1, h2, n, h3⟩⟩
    refine ⟨.ref T, _, I1, rfl, ⟨T, x, rfl, fT, rfl, fun ys hys => by rw [I.tuple_inj hys hq]; exact hx⟩, ⟨st2.1, st2.2.1⟩, fun b hb => ?_⟩
    have lt : b < s.heap.objs.size := by
      obtain ⟨⟨old, he⟩, o, ho, _⟩ := st
      rcases (show b = e ∨ b = it by simpa using hb) with z | z
      · rw [z]; exact Heap.lt_size he
      · rw [z]; exact Heap.lt_size ho
    rw [upd_ne (Nat.ne_of_lt (Nat.lt_of_lt_of_le lt hT))]
    exact (hf b hb).1
  done := by
    intro X hP hw hK hc i pins s σ H E I hf st hg
    subst hP hw hK
    obtain ⟨xs, hq, hx⟩ := hg
    obtain ⟨its, rv, p, hz⟩ := I.tuple hq
    obtain ⟨f0, f1, f2, f3, f4, f5⟩ := hf it (by simp)
    have hl := rv.length
    obtain ⟨⟨old, he⟩, hit⟩ := st
    have none_ : its.toArray[i]? = none := by simp; omega
    have D : Draws X.prog X.w X.A.in1 it [it, a] i (fun _ _ => False) (fun j h => j = i ∧ h.IsTupleIter it a j ∧ h.IsTuple a its.toArray) :=
      { live := fun _ _ st => let ⟨o, ho, _⟩ := st.2.1; ⟨o, ho⟩
        frame := fun _ _ _ st hk => ⟨st.1, st.2.1.at fun o e => hk it (by simp) o e, st.2.2.at fun o e => hk a (by simp) o e⟩
        item := fun j s Q E hj st _ => absurd st.1 (Nat.ne_of_lt hj)
        done := fun s Q E st hE => wpAny_nextOf_tuple_end (I.ok.hd hc) st.2.1 st.2.2 none_ hE }
    exact wpAny_pyNext_enum_endD D he ⟨rfl, hit, p⟩ fun h' eb => ⟨rfl, I.turned (t' := s.toks) (fun b o hb q => eb b o hb q) f0 f1 f3 f4 f5⟩
  self := fun A i s Q E st h => let ⟨⟨_, he⟩, _⟩ := st; wpAny_pyIter_enum he h
def iEnumT (K : PySem.W.Frag) (ta : TA) : TI := fun σ H R => ta σ H fun vs H1 => ∃ a xs, vs = [.ref a] ∧ SqT K H1 a xs ∧ R (IteT K a) H1
theorem pi_enumT {X : Cx} {e : Expr} {ta : TA} {p pos tpos : Pos} {elts : List Expr} {kk : Nat} (hg : Gl X "enumerate") (hm : X.mg "enumerate" = none) (ha : PA X [e] ta) (hs : starEach [e] X.env = [(false, eval e X.env)] := by rfl) :
    PI X (.Tuple elts kk tpos) (.Call (.Name "enumerate" p) [e] [] pos) (iEnumT X.K ta) := by
  refine ⟨fun pins s σ H R I h => ?_⟩
  refine Call_ (ld_blt I hg hm boot_enumerate (PyProof.Rows.callWith_type1 (thn (ha.run pos pins s σ H _ I h) fun us s1 ⟨vs, H1, I1, r1, q1⟩ => ?_) hs rfl))
  obtain ⟨a, xs, rfl, hq, q⟩ := q1
  cases r1 with
  | cons r rr =>
    cases rr
    cases r
    obtain ⟨its, rv, pt, hz⟩ := I1.tuple hq
    have la : a < s1.heap.objs.size := let ⟨o, ho, _⟩ := pt; Heap.lt_size ho
    refine enum1_begins (begins_tuple a its.toArray) pt fun h1 he hit hk => wpAny_pyIter_enum he ?_
    have I2 : Inv X pins σ H1 { s1 with heap := h1 } := I1.kept (t' := s1.toks) hk
    refine ⟨s1.heap.objs.size + 1, [s1.heap.objs.size + 1, s1.heap.objs.size], _, _, H1, rfl, I2, turn_enumT (Nat.succ_ne_self _) (Nat.ne_of_gt (Nat.lt_succ_of_lt la)) (Nat.ne_of_gt la), ⟨⟨.none, he⟩, ⟨_, hit, rfl, rfl⟩⟩, fun b hb => ?_, q⟩
    have hle : s1.heap.objs.size ≤ b := by
      rcases (show b = s1.heap.objs.size + 1 ∨ b = s1.heap.objs.size by simpa using hb) with z | z
      · rw [z]; exact Nat.le_succ _
      · rw [z]; exact Nat.le_refl _
    exact I1.fpOk hle (I1.hok.fresh hle)
end Cs
namespace Cs
open PySem PySem.Spec PyProof.Rows L2
/-! ### TABLE.get(text), a dict of the module -/
def tKGet (K : PySem.W.Frag) (d : Addr) (td ty : TE) : TE := fun σ H Q => td σ H fun x H1 => x = .ref d ∧ ty σ H1 fun y H2 => ∃ (z : Str) (r : Option Value) (v : V), y = .str z ∧ PySem.W.nsIn K d z = some r ∧ RelV v (r.getD .none) ∧ Q v H2
theorem pe_kget {X : Cx} {o e : Expr} {apos cpos : Pos} {td ty : TE} {d : Addr} {es : Array DictEntry} {n : Nat} (D : KDict X.K X.w d es n) (ho : PE X o td) (he : PE X e ty) (m : M1 X o "get" apos e cpos) :
    PE X (.Call (.Attribute o "get" apos) [e] [] cpos) (tKGet X.K d td ty) := by
  refine ⟨fun pins s σ H Q I h => ?_⟩
  refine wpAny_Call_method m.base m.few m.line PySem.F.plainAttrs_dict PySem.F.slot_dict_get PySem.F.type_dict_get (thn (ho.run pins s σ H _ I h) fun u s1 ⟨x, H1, I1, rx, ex, q1⟩ => ?_)
  subst ex
  obtain rfl : u = Value.ref d := rx
  have hm := PySem.W.mapOf_K (prog := X.prog) (w := X.w) I1.kIn D.at_ D.lit
  refine ⟨hm.typeIs, fun b q => ?_, ?_⟩
  · cases q
    obtain ⟨ob, _, _, h1, h2, _⟩ := hm
    exact ⟨ob, h1, h2.2.1⟩
  rw [m.trees]
  refine Calls.callWith_builtin rfl (Calls.evalArgs_plain (Calls.spliced_cons (thn (he.run pins s1 σ H1 _ I1 q1) fun iv s2 ⟨y, H2, I2, ry, z, r, v, ey, hr, rv, q2⟩ => Calls.spliced_nil ?_)))
  subst ey
  obtain ⟨t, rfl⟩ := ry
  have hm2 := PySem.W.mapOf_K (prog := X.prog) (w := X.w) I2.kIn D.at_ D.lit
  refine call_meetsIn PySem.F.slot_dict_get hm2.typeIs PySem.F.entry_dict_get (PySem.F.args_dict_get_2 _ _) (meets_dict_get (strKind X.prog X.w) d (strKind_is X.prog X.w z t) D.low) ⟨_, hm2, ?_⟩
  rw [PySem.W.find_K D.at_ hr]
  exact ⟨v, H2, I2.tok _, rv, q2⟩
end Cs
namespace Cs
open PySem PySem.Spec PyProof.Rows L2
/-! ### zip(t, l), t a tuple and l a list -/
def ItM (K : PySem.W.Frag) (a b : Addr) (xs ys : List V) : It :=
  ⟨fun i H => SqT K H a xs ∧ SqL K H b ys ∧ i < min xs.length ys.length,
   fun i H v H1 => ∃ T x y, v = .ref T ∧ H T = none ∧ H1 = upd H T (.tup [x, y]) ∧ xs[i]? = some x ∧ ys[i]? = some y,
   fun i H => SqT K H a xs ∧ SqL K H b ys ∧ i = min xs.length ys.length⟩
theorem sub4 {z TI TO i1 i2 c : Addr} (m : c ∈ [z, TO, i1, i2]) : c ∈ [z, TI, TO, i1, i2] := by
  simp only [List.mem_cons, List.not_mem_nil, or_false] at m ⊢
  rcases m with m | m | m | m <;> simp [m]
theorem turn_zipM {P : Program} {w : World} {K : PySem.W.Frag} {elts : List Expr} {kk : Nat} {tpos : Pos} {a b z TI TO i1 i2 : Addr} {xs ys : List V} (S : ZipSep2 z TI TO i1 i2 [i1, a] [i2, b]) (n1 : i1 ≠ a) (n2 : i2 ≠ b) :
    Turn P w K (.Tuple elts kk tpos) (ItM K a b xs ys) [z, TI, TO, i1, i2] z (fun i h => IsZip h z TI TO .none ∧ IsTupOf2 h TI (.ref i1) (.ref i2) ∧ (∃ x y, IsTupOf2 h TO x y) ∧ h.IsTupleIter i1 a i ∧ h.IsListIter i2 b i) where
  mem := by simp
  obj := fun i h st c hc => by
    obtain ⟨hz, hTI, ⟨x, y, hTO⟩, ⟨o1, e1, _, d1⟩, ⟨o2, e2, _, d2⟩⟩ := st
    rcases (show c = z ∨ c = TI ∨ c = TO ∨ c = i1 ∨ c = i2 by simpa using hc) with q | q | q | q | q <;> subst q
    · exact ⟨_, hz, fun v q => nomatch q⟩
    · exact ⟨_, hTI, fun v q => nomatch q⟩
    · exact ⟨_, hTO, fun v q => nomatch q⟩
    · exact ⟨o1, e1, fun v q => by rw [d1] at q; cases q⟩
    · exact ⟨o2, e2, fun v q => by rw [d2] at q; cases q⟩
  keep := fun i h h' st k => by
    obtain ⟨hz, hTI, ⟨x, y, hTO⟩, h1, h2⟩ := st
    exact ⟨k z (by simp) _ hz, k TI (by simp) _ hTI, ⟨x, y, k TO (by simp) _ hTO⟩, h1.at fun o q => k i1 (by simp) o q, h2.at fun o q => k i2 (by simp) o q⟩
  item := by
    intro X hP hw hK hc i pins s σ H E I hf st hg
    subst hP hw hK
    obtain ⟨hqx, hqy, hlt⟩ := hg
    obtain ⟨its, rv, p, _⟩ := I.tuple hqx
    obtain ⟨its2, rv2, p2, _⟩ := I.list hqy
    have l1 : its.toArray.size = xs.length := by rw [List.size_toArray, ← rv.length]
    have l2 : its2.toArray.size = ys.length := by rw [List.size_toArray, ← rv2.length]
    have G := GoesN.zip2 (prog := X.prog) (w := X.w) (A := X.A) (elts := elts) (x1 := kk) (pos := tpos) S (Draws.tuple (prog := X.prog) (w := X.w) (A := X.A.in1) (I.ok.hd hc) i1 a (Ne.symm n1) its.toArray) (Draws.list (prog := X.prog) (w := X.w) (A := X.A.in1) (I.ok.hd hc) i2 b (Ne.symm n2) its2.toArray)
    refine wpAny_mono (G.goes i s (fun v s2 => ∃ x H', Inv X pins σ H' s2 ∧ RelV x v ∧ (ItM X.K a b xs ys).yld i H x H' ∧ (IsZip s2.heap z TI TO .none ∧ IsTupOf2 s2.heap TI (.ref i1) (.ref i2) ∧ (∃ x y, IsTupOf2 s2.heap TO x y) ∧ s2.heap.IsTupleIter i1 a (i + 1) ∧ s2.heap.IsListIter i2 b (i + 1)) ∧ ∀ c ∈ [z, TI, TO, i1, i2], H' c = none) E (by rw [l1, l2]; exact hlt)
        ⟨st.1, st.2.1, st.2.2.1, ⟨st.2.2.2.1, p⟩, ⟨st.2.2.2.2, p2.isList⟩⟩ ?_)
      (fun r s1 ⟨v, hr, h1⟩ => ⟨v, hr, wpAny_mono h1 (fun _ s2 q => q) fun _ _ q => q⟩) fun _ _ q => q
    rintro v h2 tk ⟨T, u1, u2, rfl, hT, hx, hy, tT⟩ st2 hk htk
    obtain ⟨x, ex, rx⟩ : ∃ x, xs[i]? = some x ∧ RelV x u1 := by
      have hi : i < xs.length := by omega
      obtain ⟨u, e1, e2⟩ := rv.get (List.getElem?_eq_getElem hi)
      have e3 : its[i]? = some u1 := by simpa using hx
      rw [e1] at e3
      cases e3
      exact ⟨_, List.getElem?_eq_getElem hi, e2⟩
    obtain ⟨y, ey, ry⟩ : ∃ y, ys[i]? = some y ∧ RelV y u2 := by
      have hi : i < ys.length := by omega
      obtain ⟨u, e1, e2⟩ := rv2.get (List.getElem?_eq_getElem hi)
      have e3 : its2[i]? = some u2 := by simpa using hy
      rw [e1] at e3
      cases e3
      exact ⟨_, List.getElem?_eq_getElem hi, e2⟩
    have lt : ∀ c ∈ [z, TI, TO, i1, i2], c < s.heap.objs.size := fun c hc => by
      obtain ⟨hz, hTI, ⟨x, y, hTO⟩, ⟨o1, e1, _, _⟩, ⟨o2, e2, _, _⟩⟩ := st
      rcases (show c = z ∨ c = TI ∨ c = TO ∨ c = i1 ∨ c = i2 by simpa using hc) with q | q | q | q | q <;> subst q
      · exact Heap.lt_size hz
      · exact Heap.lt_size hTI
      · exact Heap.lt_size hTO
      · exact Heap.lt_size e1
      · exact Heap.lt_size e2
    have hk2 : ∀ c o, c ∉ [z, TI, TO, i1, i2] → s.heap.get? c = some o → h2.get? c = some o := fun c o hc e => hk c o (fun m => hc (sub4 m)) e
    have I1 : Inv X pins σ (upd H T (.tup [x, y])) { s with heap := h2, toks := tk } :=
      I.turnedNew (ch := [z, TI, TO, i1, i2]) hk2 hf hT ⟨by show 2 ≤ sizeLine; decide, [u1, u2], .cons rx (.cons ry .nil), by
        obtain ⟨o, h1, h2, n, h3⟩ := tT
        exact ⟨o, h1, h2, n, h3⟩⟩
    refine ⟨.ref T, _, I1, rfl, ⟨T, x, y, rfl, I.hok.fresh hT, rfl, ex, ey⟩, ⟨st2.1, st2.2.1, st2.2.2.1, st2.2.2.2.1.1, st2.2.2.2.2.1⟩, fun c hc => ?_⟩
    rw [upd_ne (Nat.ne_of_lt (Nat.lt_of_lt_of_le (lt c hc) hT))]
    exact (hf c hc).1
  done := by
    intro X hP hw hK hc i pins s σ H E I hf st hg
    subst hP hw hK
    obtain ⟨hqx, hqy, rfl⟩ := hg
    obtain ⟨its, rv, p, _⟩ := I.tuple hqx
    obtain ⟨its2, rv2, p2, _⟩ := I.list hqy
    have l1 : its.toArray.size = xs.length := by rw [List.size_toArray, ← rv.length]
    have l2 : its2.toArray.size = ys.length := by rw [List.size_toArray, ← rv2.length]
    have G := GoesN.zip2 (prog := X.prog) (w := X.w) (A := X.A) (elts := elts) (x1 := kk) (pos := tpos) S (Draws.tuple (prog := X.prog) (w := X.w) (A := X.A.in1) (I.ok.hd hc) i1 a (Ne.symm n1) its.toArray) (Draws.list (prog := X.prog) (w := X.w) (A := X.A.in1) (I.ok.hd hc) i2 b (Ne.symm n2) its2.toArray)
    refine G.stops s (fun s1 => Inv X pins σ H s1) E ?_ fun h1 tk hk htk => ?_
    · rw [l1, l2]
      exact ⟨st.1, st.2.1, st.2.2.1, ⟨st.2.2.2.1, p⟩, ⟨st.2.2.2.2, p2.isList⟩⟩
    · exact I.turnedL (t' := tk) (ch := [z, TI, TO, i1, i2]) (fun c o hc e => hk c o (fun m => hc (sub4 m)) e) hf
  self := fun A i s Q E st h => wpAny_pyIter_zip st.1 h
def iZipM (K : PySem.W.Frag) (ta : TA) : TI := fun σ H R => ta σ H fun vs H1 => ∃ a b xs ys, vs = [.ref a, .ref b] ∧ SqT K H1 a xs ∧ SqL K H1 b ys ∧ R (ItM K a b xs ys) H1
theorem pi_zipM {X : Cx} {e e2 : Expr} {ta : TA} {p pos tpos : Pos} {elts : List Expr} {kk : Nat} (hg : Gl X "zip") (hm : X.mg "zip" = none) (ha : PA X [e, e2] ta)
    (hs : starEach [e, e2] X.env = (false, eval e X.env) :: starEach [e2] X.env := by rfl) (hpl : (backTo pos (starEach [e2] X.env)).any (·.1) = false := by rfl) :
    PI X (.Tuple elts kk tpos) (.Call (.Name "zip" p) [e, e2] [] pos) (iZipM X.K ta) := by
  refine ⟨fun pins s σ H R I h => ?_⟩
  refine Call_ (ld_blt I hg hm PyProof.Rows.boot_zip (PyProof.Rows.callWith_type1 (thn (ha.run pos pins s σ H _ I h) fun us s1 ⟨vs, H1, I1, r1, q1⟩ => ?_) hs hpl))
  obtain ⟨a, b, xs, ys, rfl, hqx, hqy, q⟩ := q1
  obtain ⟨u1, u2, rfl, ru1, ru2⟩ := vals2 r1
  obtain rfl : u1 = Value.ref a := ru1
  obtain rfl : u2 = Value.ref b := ru2
  obtain ⟨its, rv, p1, _⟩ := I1.tuple hqx
  obtain ⟨its2, rv2, p2, _⟩ := I1.list hqy
  have la : a < s1.heap.objs.size := let ⟨o, ho, _⟩ := p1; Heap.lt_size ho
  have lb : b < s1.heap.objs.size := p2.lt
  refine zip_begins2 (begins_tuple a its.toArray) (begins_list b its2.toArray) p1 p2.isList fun h1 hz hTI hTO g1 g2 _ hk => wpAny_pyIter_zip hz ?_
  have I2 : Inv X pins σ H1 { s1 with heap := h1 } := I1.kept (t' := s1.toks) hk
  refine ⟨s1.heap.objs.size + 4, [s1.heap.objs.size + 4, s1.heap.objs.size + 2, s1.heap.objs.size + 3, s1.heap.objs.size, s1.heap.objs.size + 1], _, _, H1, rfl, I2,
    turn_zipM (xs := xs) (ys := ys) (zip_sep2 (N := s1.heap.objs.size) (fp1 := [a]) (fp2 := [b]) (fun c hc => by rw [List.mem_singleton.mp hc]; exact la) fun c hc => by rw [List.mem_singleton.mp hc]; exact lb) (Nat.ne_of_gt la) (Nat.ne_of_gt (Nat.lt_succ_of_lt lb)),
    ⟨hz, hTI, ⟨_, _, hTO⟩, ⟨_, g1, rfl, rfl⟩, ⟨_, g2, rfl, rfl⟩⟩, fun c hc => ?_, q⟩
  have hle : s1.heap.objs.size ≤ c := by
    rcases (show c = s1.heap.objs.size + 4 ∨ c = s1.heap.objs.size + 2 ∨ c = s1.heap.objs.size + 3 ∨ c = s1.heap.objs.size ∨ c = s1.heap.objs.size + 1 by simpa using hc) with z | z | z | z | z <;> rw [z]
    · exact Nat.le_add_right _ _
    · exact Nat.le_add_right _ _
    · exact Nat.le_add_right _ _
    · exact Nat.le_refl _
    · exact Nat.le_add_right _ _
  exact I1.fpOk hle (I1.hok.fresh hle)
end Cs
/-! match e: case ["word", a, _, b]: .. over a tuple -/
namespace Cs
open PySem PySem.Spec PyProof.Rows L2
/-- a case: its word ahead, the places of the names behind it (none: _), its suite -/
structure MC where
  word : Str
  names : List (Option Nat)
  t : TS
def bindAll : List (Option Nat) → List V → L2.St → L2.St
  | some i :: is, v :: vs, σ => bindAll is vs (σ.set i (some v))
  | none :: is, _ :: vs, σ => bindAll is vs σ
  | _, _, σ => σ
def tCases (d : TS) : List MC → List V → TS
  | [], _ => d
  | c :: cs, xs => fun D σ H =>
    (∃ vs, xs = .str c.word :: vs ∧ vs.length = c.names.length ∧ c.t D (bindAll c.names vs σ) H) ∨
    ((xs.length ≠ c.names.length + 1 ∨ ∃ y vs, xs = .str y :: vs ∧ y ≠ c.word) ∧ tCases d cs xs D σ H)
def tMatch (K : PySem.W.Frag) (te : TE) (cs : List MC) (d : TS) : TS := fun D σ H => te σ H fun x H1 => ∃ a xs, x = .ref a ∧ SqT K H1 a xs ∧ tCases d cs xs D σ H1
section
variable {X : Cx}
inductive NmOk (X : Cx) : List Pattern → List (Option Nat) → Prop
  | nil : NmOk X [] []
  | wild {ps : List Pattern} {is : List (Option Nat)} {p : Pos} : NmOk X ps is → NmOk X (.MatchAs none none p :: ps) (none :: is)
  | name {ps : List Pattern} {is : List (Option Nat)} {p : Pos} {x : Str} {i : Nat} : X.N[i]? = some x → Loc X.env.scope x → (X.fn x = true ∨ X.env.scope.names.lookup x = some .local) → NmOk X ps is → NmOk X (.MatchAs none (some x) p :: ps) (some i :: is)
inductive CasesOk (X : Cx) : List MatchCase → List MC → TS → Prop
  | nil : CasesOk X [] [] tNext
  | dflt {p : Pos} {body : List Stmt} {t : TS} : PSs X body t → CasesOk X [⟨.MatchAs none none p, none, body⟩] [] t
  | cons {x : Str} {j p1 p2 p3} {ps : List Pattern} {is : List (Option Nat)} {body : List Stmt} {t d : TS} {cs : List MatchCase} {ms : List MC} :
      NmOk X ps is → PSs X body t → CasesOk X cs ms d → CasesOk X (⟨.MatchSequence (.MatchValue (.Constant (.str x) j p1) p2 :: ps) p3, none, body⟩ :: cs) (⟨x, is, t⟩ :: ms) d
/-- what the names are bound to -/
def bsOf : List Pattern → List Value → List (Str × Value)
  | .MatchAs none nm _ :: ps, v :: vs => (nm.map (·, v)).toList ++ bsOf ps vs
  | _, _ => []
theorem NmOk.len {ps : List Pattern} {is : List (Option Nat)} (h : NmOk X ps is) : ps.length = is.length := by
  induction h with
  | nil => rfl
  | wild _ ih => simp [ih]
  | name _ _ _ _ ih => simp [ih]
theorem NmOk.nostar {ps : List Pattern} {is : List (Option Nat)} (h : NmOk X ps is) : ps.findIdx? (·.isStar) = none := by
  induction h with
  | nil => rfl
  | wild _ ih => rw [List.findIdx?_cons, ih]; rfl
  | name _ _ _ _ ih => rw [List.findIdx?_cons, ih]; rfl
theorem NmOk.each {M : Model} {A : Around} {E : Value → Shared → Prop} {env : Env} {ps : List Pattern} {is : List (Option Nat)} (h : NmOk X ps is) : ∀ {us : List Value} {s : Shared} {Q : Option (List (Str × Value)) → Shared → Prop}, us.length = ps.length → Q (some (bsOf ps us)) s →
    wpAny M A (matchEach ps env us) Q E s := by
  induction h with
  | nil => intro us s Q _ q; exact wpAny_matchEach_nil q
  | wild _ ih =>
    intro us s Q e q
    cases us with
    | nil => cases e
    | cons u us => exact wpAny_matchEach_cons (wpAny_matchPattern_Capture (ih (Nat.succ.inj e) q))
  | name _ _ _ _ ih =>
    intro us s Q e q
    cases us with
    | nil => cases e
    | cons u us => exact wpAny_matchEach_cons (wpAny_matchPattern_Capture (ih (Nat.succ.inj e) q))
theorem NmOk.binds (hN : X.N.Nodup) {pins : List (Addr × Obj)} {H : Hp} {ps : List Pattern} {is : List (Option Nat)} (h : NmOk X ps is) : ∀ {vs : List V} {us : List Value} {σ : L2.St} {s : Shared} {Q : Unit → Shared → Prop}, Vals vs us → vs.length = is.length → Inv X pins σ H s →
    (∀ s', Inv X pins (bindAll is vs σ) H s' → Q () s') →
    wpAny (model X.prog X.w) X.A (assignInOrder ((bsOf ps us).map fun (n, _) => bindName X.env n) ((bsOf ps us).map (·.2))) Q X.xe s := by
  induction h with
  | nil => intro vs us σ s Q r e I q; exact assignInOrder_nil (q s (by cases vs <;> first | exact I | cases e))
  | wild _ ih =>
    intro vs us σ s Q r e I q
    cases r with
    | nil => cases e
    | cons r rr => exact ih rr (Nat.succ.inj e) I q
  | @name ps is p x i hi hl hf _ ih =>
    intro vs us σ s Q r e I q
    cases r with
    | nil => cases e
    | @cons v u vr ur r rr =>
      show wpAny _ _ (assignInOrder (bindName X.env x :: ((bsOf ps ur).map fun (n, _) => bindName X.env n)) (u :: (bsOf ps ur).map (·.2))) _ _ _
      refine assignInOrder_cons (wpAny_bindName (store_ok I hN hi hl r (fun s' I' => ?_) hf))
      exact ih rr (Nat.succ.inj e) I' q
theorem cases_run (hc : X.calm = true) (hN : X.N.Nodup) {a : Addr} {xs : List V} {D : Ends} {cs : List MatchCase} {ms : List MC} {d : TS} (h : CasesOk X cs ms d) : ∀ {first : Bool} {pins : List (Addr × Obj)} {σ : L2.St} {H : Hp} {s : Shared}, Inv X pins σ H s → SqT X.K H a xs →
    tCases d ms xs D σ H → wpAny (model X.prog X.w) X.A (matchCases cs X.env (.ref a) first) (SP X pins D) X.xe s := by
  induction h with
  | nil => intro first pins σ H s I hq q; exact wpAny_matchCases_nil ⟨σ, H, I, q⟩
  | dflt hb => intro first pins σ H s I hq q; exact wpAny_matchCases_cons (wpAny_matchPattern_Capture (assignInOrder_nil (hb.run pins s σ H D I q)))
  | @cons x j p1 p2 p3 ps is body t d cs ms hn hb hcs ih =>
    intro first pins σ H s I hq q
    obtain ⟨its, rv, ht, hz⟩ := I.tuple hq
    have hlen : its.toArray.size = xs.length := by simp [rv.length]
    have hfit : (its.toArray.size : Int) < 2 ^ 63 := by
      rw [hlen]
      have := hz
      rw [sizeLine_eq] at this
      omega
    have nost : (Pattern.MatchValue (.Constant (.str x) j p1) p2 :: ps).findIdx? (·.isStar) = none := by
      rw [List.findIdx?_cons, hn.nostar]
      rfl
    have nowild : ((Pattern.MatchValue (.Constant (.str x) j p1) p2 :: ps).all fun p => p.isWildcard || (p.isStar && p.names.isEmpty)) = false := by
      rw [List.all_cons]
      rfl
    refine wpAny_matchCases_cons ?_
    by_cases hl : xs.length = is.length + 1
    · -- the tuple is opened
      have hsz : its.toArray.size = (Pattern.MatchValue (.Constant (.str x) j p1) p2 :: ps).length := by rw [hlen, hl, List.length_cons, hn.len]
      refine matchSeq_tuple_hit ht hfit hsz ?_ nost nowild
      rw [← hsz]
      refine unpackItems_tuple (I.ok.hd hc) ht fun h' hx => ?_
      have I1 : Inv X pins σ H { s with heap := h', toks := s.toks + 1 + 1 } := I.kept (t' := s.toks + 1 + 1) fun b o e => hx b o (Nat.ne_of_lt (Heap.lt_size e)) e
      show wpAny _ _ (matchEach _ _ its) _ _ _
      -- the word
      obtain ⟨v0, vs, rfl⟩ : ∃ v0 vs, xs = v0 :: vs := by
        cases xs with
        | nil => cases hl
        | cons v0 vs => exact ⟨v0, vs, rfl⟩
      cases rv with
      | @cons _ u0 _ us r0 rr =>
        refine wpAny_matchEach_cons (wpAny_matchPattern_Value (Calls.Constant_str ?_))
        have hw : ∃ y, v0 = .str y := by
          rcases q with ⟨vs', e, _⟩ | ⟨e | ⟨y, vs', e, _⟩, _⟩
          · cases e; exact ⟨_, rfl⟩
          · exact absurd hl e
          · cases e; exact ⟨_, rfl⟩
        obtain ⟨y, rfl⟩ := hw
        obtain ⟨tk, rfl⟩ := r0
        refine eq_str (wpAny_truthy_bool ?_)
        have I2 := I1.tok ({ s with heap := h', toks := s.toks + 1 + 1 } : Shared).toks.succ
        by_cases hy : y = x
        · subst hy
          rw [show (y == y) = true from beq_self_eq_true y]
          refine hn.each (by rw [← Vals.length rr]; have := hn.len; simp at hl; omega) ?_
          show wpAny _ _ (assignInOrder _ _) _ _ _
          rcases q with ⟨vs', e, e2, q⟩ | ⟨e | ⟨y', vs', e, ne⟩, _⟩
          · cases e
            refine hn.binds hN rr e2 I2 fun s' I' => ?_
            exact hb.run pins s' _ H D I' q
          · exact absurd hl e
          · cases e; exact absurd rfl ne
        · rw [show (y == x) = false from beq_eq_false_iff_ne.mpr hy]
          rcases q with ⟨vs', e, _⟩ | ⟨_, q⟩
          · cases e; exact absurd rfl hy
          · exact ih I2 hq q
    · have hsz : its.toArray.size ≠ (Pattern.MatchValue (.Constant (.str x) j p1) p2 :: ps).length := by rw [hlen, List.length_cons, hn.len]; exact hl
      refine matchSeq_tuple_miss ht hfit hsz ?_ nost nowild
      rcases q with ⟨vs, rfl, e, _⟩ | ⟨_, q⟩
      · exact absurd (by rw [List.length_cons, e]) hl
      · exact ih (I.tok _) hq q
theorem ps_match {e : Expr} {cs : List MatchCase} {pos : Pos} {te : TE} {ms : List MC} {d : TS} (hc : X.calm = true) (hN : X.N.Nodup) (he : PE X e te) (h : CasesOk X cs ms d) : PS X (.Match e cs pos) (tMatch X.K te ms d) := by
  refine ⟨fun pins s σ H D I q => ?_⟩
  refine wpAny_Match (thn (he.run pins s σ H _ I q) fun v s1 ⟨x, H1, I1, r1, q1⟩ => ?_)
  obtain ⟨a, xs, rfl, hq, q1⟩ := q1
  cases r1
  exact cases_run hc hN h I1 hq q1
end
end Cs
/-! dict(zip(l, t)), l a list and t a tuple -/
namespace Cs
open PySem PySem.Spec PyProof.Rows L2
section
variable {prog : Program} {w : World} {A : Around} {E : Value → Shared → Prop} {s : Shared} {z TI TO T i1 i2 : Addr} {fp1 fp2 : List Addr} {n1 n2 i : Nat} {P1 P2 : Nat → Value → Prop} {St1 St2 : Nat → Heap → Prop} {f : Bool} {oT : Obj}
/-- the next pair while the last one is still out -/
theorem heldPair_item {Q : Option Value → Shared → Prop} (S : ZipSep2 z TI TO i1 i2 fp1 fp2) (D1 : Draws prog w A.in1 i1 fp1 n1 P1 St1) (D2 : Draws prog w A.in1 i2 fp2 n2 P2 St2)
    (hz : IsZipHeld s.heap z TI TO T f) (hT : s.heap.get? T = some oT) (hTI : IsTupOf2 s.heap TI (.ref i1) (.ref i2)) (st1 : St1 i s.heap) (st2 : St2 i s.heap) (lt1 : i < n1) (lt2 : i < n2)
    (hQ : ∀ x1 x2 h' tk, P1 i x1 → P2 i x2 → IsZipHeld h' z TI TO T true → St1 (i + 1) h' → St2 (i + 1) h' → IsTupOf2 h' s.heap.objs.size x1 x2 →
      (∀ c o, c ≠ z → c ≠ i1 → c ≠ i2 → s.heap.get? c = some o → h'.get? c = some o) → Q (some (.ref s.heap.objs.size)) { s with heap := h', toks := tk }) :
    wpAny (model prog w) A (pyNext (.ref z)) Q E s := by
  obtain ⟨hp, g, d, tk0, os⟩ := s
  have ty : Shared.TypeIs ⟨hp, g, d, tk0, os⟩ (.ref z) "zip" := ⟨_, hz, rfl⟩
  unfold pyNext
  refine wpAny_bind (wpAny_attempt (wpAny_callSpecial?_slot (name := Str.ofString "__next__") ty F.slot_zip_next (wpAny_call_entry F.slot_zip_next ty F.entry_zip_next ?_ (F.args_zip_next_1 _))))
  show wpAny _ _ (field (.ref z) 2 >>= _) _ _ _
  refine wpAny_bind (wpAny_field hz rfl (x := .bool false) rfl ?_)
  show wpAny _ _ (field (.ref z) 3 >>= _) _ _ _
  refine wpAny_bind (wpAny_field hz rfl (x := .ref TI) rfl (wpAny_bind (wpAny_seqItems hTI rfl ?_)))
  refine wpAny_bind (wpAny_tupleHeld_zip hz hT fun g0 hz0 s0 => ?_)
  simp only [Bool.false_eq_true, if_false]
  refine wpAny_bind ?_
  rw [← Array.forIn_toList]
  simp only [List.forIn_cons, List.forIn_nil]
  refine wpAny_bind (wpAny_bind (wpAny_holding ?_))
  refine wpAny_bind (D1.item i _ _ _ lt1 (D1.over st1 s0 S.zf1) fun x1 p1 t1 hx1 sn1 q1 => wpAny_pure (wpAny_pure ?_))
  replace q1 : Heap.SameBut i1 g0 p1 := q1
  refine wpAny_bind (wpAny_bind (wpAny_holding ?_))
  refine wpAny_bind (D2.item i ⟨p1, g, d, t1, os⟩ _ _ lt2 (D2.over (D2.over st2 s0 S.zf2) q1 S.sep1_2) fun x2 p2 t2 hx2 sn2 q2 => wpAny_pure (wpAny_pure (wpAny_pure ?_)))
  replace q2 : Heap.SameBut i2 p1 p2 := q2
  refine wpAny_bind (m := newTuple [x1, x2]) (wpAny_newTuple (wpAny_pure ⟨_, rfl, ?_⟩))
  have sz : p2.objs.size = hp.objs.size := by rw [q2.1, q1.1, s0.1]
  have kp : ∀ c o, c ≠ z → c ≠ i1 → c ≠ i2 → hp.get? c = some o → p2.get? c = some o := fun c o a b c2 e => q2.extBut _ _ c2 (q1.extBut _ _ b (s0.extBut _ _ a e))
  have up : ∀ c o, p2.get? c = some o → (p2.push { cls := .type "tuple", data := .seq #[x1, x2] }).get? c = some o := fun c o e => Heap.get?_push_of_some _ e
  have hp3 : IsTupOf2 (p2.push { cls := .type "tuple", data := .seq #[x1, x2] }) p2.objs.size x1 x2 := Heap.get?_push_size _ rfl
  have zz : IsZipHeld p2 z TI TO T true := q2.extBut _ _ S.zi2 (q1.extBut _ _ S.zi1 hz0)
  refine wpAny_pure ?_
  show Q (some (.ref p2.objs.size)) _
  rw [sz] at hp3 ⊢
  exact hQ x1 x2 _ t2 hx1 hx2 (up _ _ zz) (D1.frame _ _ _ (D1.over sn1 q2 S.sep2_1) fun b _ o e => up b o e) (D2.frame _ _ _ sn2 fun b _ o e => up b o e) hp3 fun c o a b c2 e => up c o (kp c o a b c2 e)
/-- no pair is left while the last one is still out -/
theorem heldPair_end {Q : Option Value → Shared → Prop} (S : ZipSep2 z TI TO i1 i2 fp1 fp2) (D1 : Draws prog w A.in1 i1 fp1 n1 P1 St1) (D2 : Draws prog w A.in1 i2 fp2 n2 P2 St2)
    (hz : IsZipHeld s.heap z TI TO T f) (hT : s.heap.get? T = some oT) (hTI : IsTupOf2 s.heap TI (.ref i1) (.ref i2)) (st1 : St1 i s.heap) (st2 : St2 i s.heap) (e1 : i = n1) (e2 : i = n2)
    (hQ : ∀ h', (∀ c o, c ≠ z → c ≠ i1 → c ≠ i2 → s.heap.get? c = some o → h'.get? c = some o) → Q none { s with heap := h' }) :
    wpAny (model prog w) A (pyNext (.ref z)) Q E s := by
  obtain ⟨hp, g, d, tk0, os⟩ := s
  have ty : Shared.TypeIs ⟨hp, g, d, tk0, os⟩ (.ref z) "zip" := ⟨_, hz, rfl⟩
  unfold pyNext
  refine wpAny_bind (wpAny_attempt (wpAny_callSpecial?_slot (name := Str.ofString "__next__") ty F.slot_zip_next (wpAny_call_entry F.slot_zip_next ty F.entry_zip_next ?_ (F.args_zip_next_1 _))))
  show wpAny _ _ (field (.ref z) 2 >>= _) _ _ _
  refine wpAny_bind (wpAny_field hz rfl (x := .bool false) rfl ?_)
  show wpAny _ _ (field (.ref z) 3 >>= _) _ _ _
  refine wpAny_bind (wpAny_field hz rfl (x := .ref TI) rfl (wpAny_bind (wpAny_seqItems hTI rfl ?_)))
  refine wpAny_bind (wpAny_tupleHeld_zip hz hT fun g0 hz0 s0 => ?_)
  simp only [Bool.false_eq_true, if_false]
  refine wpAny_bind ?_
  rw [← Array.forIn_toList]
  simp only [List.forIn_cons, List.forIn_nil]
  refine wpAny_bind (wpAny_bind (wpAny_holding ?_))
  subst e1
  refine wpAny_bind (D1.done ⟨g0, g, d, tk0, os⟩ _ _ (D1.over st1 s0 S.zf1) fun p e q he => ?_)
  obtain ⟨o, ho, hc⟩ := he
  refine wpAny_bind (wpAny_isInstance (T := "StopIteration") (b := true) ⟨o, ho, hc⟩ isSubtype_stop (wpAny_pure (hQ _ fun c o2 a b _ e3 => ?_)))
  exact q _ _ b (s0.extBut _ _ a e3)
end
section
variable {prog : Program} {w : World}
/-- what dict() draws of zip over a list and a tuple of one length -/
theorem zipLT_arg (z TI TO i1 i2 l t : Addr) (S : ZipSep2 z TI TO i1 i2 [i1, l] [i2, t]) (n1 : l ≠ i1) (n2 : t ≠ i2) (lz : TI ≠ l) (tz : TI ≠ t) (xs ys : Array Value) (hsz : xs.size = ys.size) :
    PairArg prog w "zip" z [z, TI, TO, i1, i2, l, t] [z, TO, i1, i2] xs.size (fun i k v => xs[i]? = some k ∧ ys[i]? = some v)
      (fun h => IsZip h z TI TO .none ∧ IsTupOf2 h TI (.ref i1) (.ref i2) ∧ (∃ a b, IsTupOf2 h TO a b) ∧ (h.IsListIter i1 l 0 ∧ h.IsList l xs) ∧ (h.IsTupleIter i2 t 0 ∧ h.IsTuple t ys)) where
  type := fun s ok => ⟨_, ok.1, rfl⟩
  notDict := by decide
  keep := fun h h' ⟨a, b, ⟨c, d, e⟩, ⟨f1, f2⟩, g1, g2⟩ hk => ⟨hk _ _ a, hk _ _ b, ⟨c, d, hk _ _ e⟩, ⟨f1.at fun o q => hk _ o q, f2.at fun o q => hk _ o q⟩, g1.at fun o q => hk _ o q, g2.at fun o q => hk _ o q⟩
  there := fun h ⟨a, b, ⟨c, d, e⟩, ⟨⟨o1, f1, _⟩, ⟨o2, f2, _⟩⟩, ⟨o3, g1, _⟩, ⟨o4, g2, _⟩⟩ q hq => by
    simp only [List.mem_cons, List.not_mem_nil, or_false] at hq
    rcases hq with rfl | rfl | rfl | rfl | rfl | rfl | rfl
    · exact ⟨_, a⟩
    · exact ⟨_, b⟩
    · exact ⟨_, e⟩
    · exact ⟨_, f1⟩
    · exact ⟨_, g1⟩
    · exact ⟨_, f2⟩
    · exact ⟨_, g2⟩
  sub := fun b hb => by
    simp only [List.mem_cons, List.not_mem_nil, or_false] at hb ⊢
    rcases hb with rfl | rfl | rfl | rfl <;> simp
  noKeys := fun A s Q E hA ok h => getAttrOr_miss_zip ok.1 rfl rfl rfl zip_no_keys (by decide +kernel) hA h
  iter := fun A s d Q E hA ⟨hz, hTI, ⟨a, b, hTO⟩, st1, st2⟩ hd hdf h => by
    simp only [List.mem_cons, List.not_mem_nil, or_false, not_or] at hdf
    obtain ⟨dz, dTI, dTO, di1, di2, dl, dt⟩ := hdf
    have D1 := Draws.list (prog := prog) (w := w) (A := A.in1) hA i1 l n1 xs
    have D2 := Draws.tuple (prog := prog) (w := w) (A := A.in1) hA i2 t n2 ys
    refine wpAny_pyIter_zip hz (h z [z, TO, i1, i2] (fun i h => IsTupOf2 h TI (.ref i1) (.ref i2) ∧ (h.IsListIter i1 l i ∧ h.IsList l xs) ∧ (h.IsTupleIter i2 t i ∧ h.IsTuple t ys) ∧
      ((IsZip h z TI TO .none ∧ ∃ a b, IsTupOf2 h TO a b) ∨ ∃ T f oT, IsZipHeld h z TI TO T f ∧ h.get? T = some oT ∧ T ≠ z ∧ T ≠ i1 ∧ T ≠ i2 ∧ T ≠ d)) s.heap s.toks ?_ ⟨hTI, st1, st2, .inl ⟨hz, a, b, hTO⟩⟩ (fun _ _ e => e) fun b hb => .inl hb)
    refine { off := ?_, frame := ?_, item := ?_, done := ?_ }
    · intro hm
      simp only [List.mem_cons, List.not_mem_nil, or_false] at hm
      rcases hm with e | e | e | e
      · exact dz e
      · exact dTO e
      · exact di1 e
      · exact di2 e
    · rintro i h1 h2 ⟨q1, q2, q3, q4⟩ hk
      refine ⟨hk _ _ (Ne.symm dTI) q1, D1.frame _ _ _ q2 fun c hc o e => hk c o (fun e2 => ?_) e, D2.frame _ _ _ q3 fun c hc o e => hk c o (fun e2 => ?_) e, ?_⟩
      · simp only [List.mem_cons, List.not_mem_nil, or_false] at hc
        rcases hc with e3 | e3
        · exact di1 (e2.symm.trans e3)
        · exact dl (e2.symm.trans e3)
      · simp only [List.mem_cons, List.not_mem_nil, or_false] at hc
        rcases hc with e3 | e3
        · exact di2 (e2.symm.trans e3)
        · exact dt (e2.symm.trans e3)
      · rcases q4 with ⟨q, a, b, q'⟩ | ⟨T, f, oT, q, q', r1, r2, r3, r4⟩
        · exact .inl ⟨hk _ _ (Ne.symm dz) q, a, b, hk _ _ (Ne.symm dTO) q'⟩
        · exact .inr ⟨T, f, oT, hk _ _ (Ne.symm dz) q, hk _ _ r4 q', r1, r2, r3, r4⟩
    · rintro i s1 Q1 E1 hi ⟨q1, q2, q3, q4⟩ hds hQ
      have hi2 : i < ys.size := hsz ▸ hi
      have old : ∀ {c o}, s1.heap.get? c = some o → s1.heap.objs.size ≠ c := fun e => Nat.ne_of_gt (Heap.lt_size e)
      have o1 : s1.heap.objs.size ≠ i1 := let ⟨_, e⟩ := D1.live _ _ q2; old e
      have o2 : s1.heap.objs.size ≠ i2 := let ⟨_, e⟩ := D2.live _ _ q3; old e
      have four : ∀ {c : Addr}, c ∉ [z, TO, i1, i2] → c ≠ z ∧ c ≠ TO ∧ c ≠ i1 ∧ c ≠ i2 := fun hc => by
        simpa only [List.mem_cons, List.not_mem_nil, or_false, not_or] using hc
      rcases q4 with ⟨hz, a, b, hTO⟩ | ⟨T, f, oT, hz, hT, r1, r2, r3, r4⟩
      · refine wpAny_pyNext_zipD2_item S D1 D2 hz q1 hTO q2 q3 hi hi2 fun x1 x2 h' tk p1 p2 z1 z2 m1 m2 tp _ kp => ?_
        exact hQ s1.heap.objs.size x1 x2 h' tk ⟨p1, p2⟩ (.inl ⟨_, tp, rfl, _, rfl⟩) ⟨kp _ _ S.TIz S.TITO S.TIi1 S.TIi2 q1, m1, m2, .inr ⟨s1.heap.objs.size, false, _, z1, tp, old hz, o1, o2, Nat.ne_of_gt hds⟩⟩
          fun c o hc e => kp c o (four hc).1 (four hc).2.1 (four hc).2.2.1 (four hc).2.2.2 e
      · refine heldPair_item S D1 D2 hz hT q1 q2 q3 hi hi2 fun x1 x2 h' tk p1 p2 z1 m1 m2 tp kp => ?_
        exact hQ s1.heap.objs.size x1 x2 h' tk ⟨p1, p2⟩ (.inl ⟨_, tp, rfl, _, rfl⟩) ⟨kp _ _ S.TIz S.TIi1 S.TIi2 q1, m1, m2, .inr ⟨T, true, oT, z1, kp _ _ r1 r2 r3 hT, r1, r2, r3, r4⟩⟩
          fun c o hc e => kp c o (four hc).1 (four hc).2.2.1 (four hc).2.2.2 e
    · rintro s1 Q1 E1 ⟨q1, q2, q3, q4⟩ hQ
      have four : ∀ {c : Addr}, c ∉ [z, TO, i1, i2] → c ≠ z ∧ c ≠ TO ∧ c ≠ i1 ∧ c ≠ i2 := fun hc => by
        simpa only [List.mem_cons, List.not_mem_nil, or_false, not_or] using hc
      rcases q4 with ⟨hz, a, b, hTO⟩ | ⟨T, f, oT, hz, hT, r1, r2, r3, r4⟩
      · exact wpAny_pyNext_zipD2_end S D1 D2 hz q1 hTO q2 q3 (Nat.le_refl _) (Nat.le_of_eq hsz) (.inl rfl) fun h' tk kp => hQ h' tk fun c o hc e => kp c o (four hc).1 (four hc).2.1 (four hc).2.2.1 (four hc).2.2.2 e
      · exact heldPair_end S D1 D2 hz hT q1 q2 q3 rfl hsz fun h' kp => hQ h' s1.toks fun c o hc e => kp c o (four hc).1 (four hc).2.2.1 (four hc).2.2.2 e
end
/-- dict(zip(l, t)) -/
def tDictZip (K : PySem.W.Frag) (ta : TA) : TE := fun σ H Q => ta σ H fun vs H1 => ∃ (a b : Addr) (kvs : List (Key × V)), vs = [.ref a, .ref b] ∧ SqL K H1 a (kvs.map fun p => kV p.1) ∧ SqT K H1 b (kvs.map (·.2)) ∧
  ∀ p, H1 p = none → Q (.ref p) (upd H1 p (.dK (mergeK [] kvs)))
theorem vals_keys : ∀ {kvs : List (Key × V)} {us ws : List Value}, Vals (kvs.map fun p => kV p.1) us → Vals (kvs.map (·.2)) ws → ∃ prs : List (Key × Value), KV kvs prs ∧ prs.length = us.length ∧ (∀ (j : Nat) k v, us[j]? = some k → ws[j]? = some v → ∃ q, prs[j]? = some (q, v) ∧ keyIs q k = true)
  | [], _, _, .nil, .nil => ⟨[], .nil, rfl, fun j k v e => by simp at e⟩
  | (k, v) :: kvs, u :: us, x :: ws, .cons r1 rr, .cons r2 rs => by
    obtain ⟨prs, h1, h2, h3⟩ := vals_keys rr rs
    refine ⟨(k, x) :: prs, .cons ⟨rfl, r2⟩ h1, by simp [h2], fun j k' v' e1 e2 => ?_⟩
    cases j with
    | zero =>
      cases e1; cases e2
      refine ⟨k, rfl, ?_⟩
      cases k with
      | inl n => obtain ⟨t, rfl⟩ := (r1 : ∃ t, u = .int n t); exact keyIs_int n t
      | inr y => obtain ⟨t, rfl⟩ := (r1 : ∃ t, u = .str y t); exact keyIs_str y t
    | succ j => exact h3 j k' v' e1 e2
theorem pe_dictZip {X : Cx} {e e2 : Expr} {ta : TA} {p p2 pos pos2 : Pos} (hc : X.calm = true) (hg : Gl X "dict") (hm : X.mg "dict" = none) (hg2 : Gl X "zip") (hm2 : X.mg "zip" = none) (ha : PA X [e, e2] ta)
    (hs : starEach [e, e2] X.env = (false, eval e X.env) :: starEach [e2] X.env := by rfl) (hpl : (backTo pos2 (starEach [e2] X.env)).any (·.1) = false := by rfl)
    (hs2 : starEach [.Call (.Name "zip" p2) [e, e2] [] pos2] X.env = [(false, eval (.Call (.Name "zip" p2) [e, e2] [] pos2) X.env)] := by rfl) :
    PE X (.Call (.Name "dict" p) [.Call (.Name "zip" p2) [e, e2] [] pos2] [] pos) (tDictZip X.K ta) := by
  refine ⟨fun pins s σ H Q I h => ?_⟩
  refine wpAny_Call_Name_kw (ld_blt I hg hm (u := .type "dict") (by decide +kernel) ?_)
  refine PyProof.Rows.callWith_type1 ?_ hs2
  rw [hs2]
  refine Calls.spliced_cons (Call_ (ld_blt I hg2 hm2 PyProof.Rows.boot_zip (PyProof.Rows.callWith_type1 (thn (ha.run pos2 pins s σ H _ I h) fun us s1 ⟨vs, H1, I1, r1, q1⟩ => ?_) hs hpl)))
  obtain ⟨a, b, kvs, rfl, hqx, hqy, q⟩ := q1
  obtain ⟨u1, u2, rfl, ru1, ru2⟩ := vals2 r1
  obtain rfl : u1 = Value.ref a := ru1
  obtain rfl : u2 = Value.ref b := ru2
  obtain ⟨its, rv, p1, z1⟩ := I1.list hqx
  obtain ⟨its2, rv2, p2, _⟩ := I1.tuple hqy
  have la : a < s1.heap.objs.size := p1.lt
  have lb : b < s1.heap.objs.size := let ⟨o, ho, _⟩ := p2; Heap.lt_size ho
  have hl1 : its.length = kvs.length := by have := rv.length; simp at this; exact this.symm
  have hl2 : its2.length = kvs.length := by have := rv2.length; simp at this; exact this.symm
  refine zip_begins2 (begins_list a its.toArray) (begins_tuple b its2.toArray) p1.isList p2 fun h1 hz hTI hTO g1 g2 hsz hk => Calls.spliced_nil ?_
  obtain ⟨prs, rel, lp, hp⟩ := vals_keys rv rv2
  have S := zip_sep2 (N := s1.heap.objs.size) (fp1 := [a]) (fp2 := [b]) (fun c hc => by rw [List.mem_singleton.mp hc]; exact la) fun c hc => by rw [List.mem_singleton.mp hc]; exact lb
  have t1 : h1.IsList a its.toArray := p1.isList.at fun o e => hk a o e
  have t2 : h1.IsTuple b its2.toArray := by
    obtain ⟨o, e1, e2, n, e3⟩ := p2
    exact ⟨o, hk _ _ e1, e2, n, e3⟩
  refine PySem.call_dict_pairs (knd := mixKind X.prog X.w) (kvs := prs) (zipLT_arg (s1.heap.objs.size + 4) (s1.heap.objs.size + 2) (s1.heap.objs.size + 3) s1.heap.objs.size (s1.heap.objs.size + 1) a b S (Nat.ne_of_lt la) (Nat.ne_of_lt (Nat.lt_succ_of_lt lb)) (Nat.ne_of_gt (Nat.lt_add_right 2 la)) (Nat.ne_of_gt (Nat.lt_add_right 2 lb)) its.toArray its2.toArray (by simp [hl1, hl2])) (I1.ok.hd hc)
    ⟨hz, hTI, ⟨_, _, hTO⟩, ⟨⟨_, g1, rfl, rfl⟩, t1⟩, ⟨_, g2, rfl, rfl⟩, t2⟩ ⟨by simp [lp], fun j key v e => ?_⟩ (by simp only [List.size_toArray]; rw [← rv.length]; exact z1) fun h2 tk hd2 hk2 => ?_
  · obtain ⟨e1, e2⟩ := e
    obtain ⟨q, e3, e4⟩ := hp j key v (by simpa using e1) (by simpa using e2)
    exact ⟨q, e3, e4⟩
  · have hle : s1.heap.objs.size ≤ h1.objs.size := by rw [hsz]; omega
    have hm : (h1.objs.size == sysModules) = false := beq_eq_false_iff_ne.mpr (Nat.ne_of_gt (Nat.lt_of_lt_of_le I1.big hle))
    have hlen : (mergeK [] kvs).length ≤ sizeLine := by
      refine Nat.le_trans (length_mergeK kvs []) ?_
      rw [List.length_nil, Nat.zero_add]
      simpa using z1
    refine ⟨.ref h1.objs.size, upd H1 h1.objs.size (.dK (mergeK [] kvs)), I1.laid (t' := tk) (fun c o e => hk2 c o (fun m => ?_) (hk c o e)) hle (show ObjOk X.prog X.w _ _ _ (.dK (mergeK [] kvs)) from ⟨hlen, hm, merged [] prs, KV.merge rel .nil, hd2⟩), rfl, q _ (I1.hok.fresh hle)⟩
    have lc := Heap.lt_size e
    simp only [List.mem_cons, List.not_mem_nil, or_false] at m
    rcases m with z | z | z | z <;> rw [z] at lc <;> exact absurd lc (Nat.not_lt.mpr (by first | exact Nat.le_refl _ | exact Nat.le_add_right _ _))
end Cs
namespace Cs
open PySem PySem.Spec L2
/-! ## data that stays -/
theorem same_upd {H : Hp} {p : Addr} {o : HO} (h : H p = none) : Same H (upd H p o) := fun b x e => by
  rw [upd_ne (ne_of_none e h)]
  exact e
theorem Same.tup {K : PySem.W.Frag} {H H1 : Hp} {a : Addr} {xs : List V} (s : Same H H1) (h : SqT K H a xs) : SqT K H1 a xs := by
  rcases h with (h | ⟨o, h⟩) | h
  · exact .inl (.inl (s _ _ h))
  · exact .inl (.inr ⟨o, s _ _ h⟩)
  · exact .inr h
mutual
theorem Dp.same {K : PySem.W.Frag} {H H1 : Hp} (s : Same H H1) : ∀ {v : V} {d : PyData}, Dp K H v d → Dp K H1 v d
  | _, _, .non => .non
  | _, _, .bl b => .bl b
  | _, _, .int i => .int i
  | _, _, .str x => .str x
  | _, _, .lst h t => .lst (s.seq h) (DpAll.same s t)
  | _, _, .tup h t => .tup (Same.tup s h) (DpAll.same s t)
theorem DpAll.same {K : PySem.W.Frag} {H H1 : Hp} (s : Same H H1) : ∀ {vs : List V} {ds : List PyData}, DpAll K H vs ds → DpAll K H1 vs ds
  | _, _, .nil => .nil
  | _, _, .cons h t => .cons (Dp.same s h) (DpAll.same s t)
end
/-! ### what never changes: tuples, numbers, texts -/
/-- what stands for ever -/
def Imm : HO → Prop
  | .tup _ => True
  | .frz _ _ => True
  | _ => False
def SameI (H H1 : Hp) : Prop := ∀ b o, Imm o → H b = some o → H1 b = some o
theorem SameI.refl (H : Hp) : SameI H H := fun _ _ _ h => h
theorem SameI.trans {H H1 H2 : Hp} (a : SameI H H1) (b : SameI H1 H2) : SameI H H2 := fun c o i h => b c o i (a c o i h)
theorem sameI_of {H H1 : Hp} (s : Same H H1) : SameI H H1 := fun b o _ h => s b o h
theorem sameI_upd {H : Hp} {p : Addr} {o u : HO} (h : H p = some u) (n : ¬ Imm u) : SameI H (upd H p o) := fun b x i e => by
  rw [upd_ne fun z => ?_]
  · exact e
  · rw [z, h] at e
    cases e
    exact n i
theorem SameI.tup {K : PySem.W.Frag} {H H1 : Hp} {a : Addr} {xs : List V} (s : SameI H H1) (h : SqT K H a xs) : SqT K H1 a xs := by
  rcases h with (h | ⟨o, h⟩) | h
  · exact .inl (.inl (s _ _ True.intro h))
  · exact .inl (.inr ⟨o, s _ _ True.intro h⟩)
  · exact .inr h
theorem SameI.pl {H H1 : Hp} {a : Addr} {xs : List V} (s : SameI H H1) (h : PlT H a xs) : PlT H1 a xs := let ⟨o, e, d⟩ := h; ⟨o, s _ _ True.intro e, d⟩
mutual
/-- data of tuples -/
inductive Im (K : PySem.W.Frag) (H : Hp) : V → PyData → Prop
  | non : Im K H .non .none
  | bl (b : Bool) : Im K H (.bl b) (.bool b)
  | int (i : Int) : Im K H (.int i) (.int i)
  | str (x : Str) : Im K H (.str x) (.str x)
  | tup {a : Addr} {xs : List V} {ds : List PyData} : SqT K H a xs → ImAll K H xs ds → Im K H (.ref a) (.tuple ds)
inductive ImAll (K : PySem.W.Frag) (H : Hp) : List V → List PyData → Prop
  | nil : ImAll K H [] []
  | cons {v : V} {vs : List V} {d : PyData} {ds : List PyData} : Im K H v d → ImAll K H vs ds → ImAll K H (v :: vs) (d :: ds)
end
mutual
theorem Im.same {K : PySem.W.Frag} {H H1 : Hp} (s : SameI H H1) : ∀ {v : V} {d : PyData}, Im K H v d → Im K H1 v d
  | _, _, .non => .non
  | _, _, .bl b => .bl b
  | _, _, .int i => .int i
  | _, _, .str x => .str x
  | _, _, .tup h t => .tup (s.tup h) (ImAll.same s t)
theorem ImAll.same {K : PySem.W.Frag} {H H1 : Hp} (s : SameI H H1) : ∀ {vs : List V} {ds : List PyData}, ImAll K H vs ds → ImAll K H1 vs ds
  | _, _, .nil => .nil
  | _, _, .cons h t => .cons (Im.same s h) (ImAll.same s t)
end
mutual
theorem Im.dp {K : PySem.W.Frag} {H : Hp} : ∀ {v : V} {d : PyData}, Im K H v d → Dp K H v d
  | _, _, .non => .non
  | _, _, .bl b => .bl b
  | _, _, .int i => .int i
  | _, _, .str x => .str x
  | _, _, .tup h t => .tup h (ImAll.dp t)
theorem ImAll.dp {K : PySem.W.Frag} {H : Hp} : ∀ {vs : List V} {ds : List PyData}, ImAll K H vs ds → DpAll K H vs ds
  | _, _, .nil => .nil
  | _, _, .cons h t => .cons (Im.dp h) (ImAll.dp t)
end
theorem im_tup {K : PySem.W.Frag} {H : Hp} {v : V} {ds : List PyData} (h : Im K H v (.tuple ds)) : ∃ a xs, v = .ref a ∧ SqT K H a xs ∧ ImAll K H xs ds := by
  cases h with
  | tup h t => exact ⟨_, _, rfl, h, t⟩
theorem im_str {K : PySem.W.Frag} {H : Hp} {v : V} {x : Str} (h : Im K H v (.str x)) : v = .str x := by cases h; rfl
theorem im_int {K : PySem.W.Frag} {H : Hp} {v : V} {x : Int} (h : Im K H v (.int x)) : v = .int x := by cases h; rfl
theorem all0 {K : PySem.W.Frag} {H : Hp} {xs : List V} (h : ImAll K H xs []) : xs = [] := by cases h; rfl
theorem all_cons {K : PySem.W.Frag} {H : Hp} {xs : List V} {d : PyData} {ds : List PyData} (h : ImAll K H xs (d :: ds)) : ∃ v vs, xs = v :: vs ∧ Im K H v d ∧ ImAll K H vs ds := by
  cases h with
  | cons h t => exact ⟨_, _, rfl, h, t⟩
theorem ImAll.append {K : PySem.W.Frag} {H : Hp} : ∀ {xs ys : List V} {ds es : List PyData}, ImAll K H xs ds → ImAll K H ys es → ImAll K H (xs ++ ys) (ds ++ es)
  | _, _, _, _, .nil, h => h
  | _, _, _, _, .cons h t, q => .cons h (ImAll.append t q)
theorem ImAll.length {K : PySem.W.Frag} {H : Hp} : ∀ {xs : List V} {ds : List PyData}, ImAll K H xs ds → xs.length = ds.length
  | _, _, .nil => rfl
  | _, _, .cons _ t => congrArg Nat.succ (ImAll.length t)
theorem ImAll.get {K : PySem.W.Frag} {H : Hp} : ∀ {xs : List V} {ds : List PyData} {i : Nat} {x : V}, ImAll K H xs ds → xs[i]? = some x → ∃ d, ds[i]? = some d ∧ Im K H x d
  | _, _, 0, _, .cons h _, e => by cases e; exact ⟨_, rfl, h⟩
  | _, _, i + 1, _, .cons _ t, e => ImAll.get (i := i) t e
  | _, _, _, _, .nil, e => by simp at e
theorem ImAll.of {K : PySem.W.Frag} {H : Hp} : ∀ {xs : List V} {ds : List PyData}, xs.length = ds.length → (∀ (i : Nat) x d, xs[i]? = some x → ds[i]? = some d → Im K H x d) → ImAll K H xs ds
  | [], [], _, _ => .nil
  | [], _ :: _, e, _ => nomatch e
  | _ :: _, [], e, _ => nomatch e
  | x :: xs, d :: ds, e, h => .cons (h 0 x d rfl rfl) (ImAll.of (Nat.succ.inj e) fun i x d e1 e2 => h (i + 1) x d e1 e2)
theorem itd {p A B : Prop} [Decidable p] (h : p) (a : A) : if decide p = true then A else B := by rw [if_pos (decide_eq_true h)]; exact a
theorem itn {p A B : Prop} [Decidable p] (h : ¬ p) (b : B) : if decide p = true then A else B := by rw [if_neg (by rw [decide_eq_false h]; exact Bool.false_ne_true)]; exact b
theorem itnd {p A B : Prop} [Decidable p] (h : p) (b : B) : if (!decide p) = true then A else B := by rw [decide_eq_true h]; exact iteF b
theorem itnn {p A B : Prop} [Decidable p] (h : ¬ p) (a : A) : if (!decide p) = true then A else B := by rw [decide_eq_false h]; exact iteT a
theorem small {n : Nat} (h : n ≤ 1000000) : n ≤ sizeLine := by rw [sizeLine_eq]; omega
theorem smaller {n : Nat} (h : n ≤ 1000000) : n < sizeLine := by rw [sizeLine_eq]; omega
/-- [te for target in ..]: each element's value told by E, which stands as long as what never changes -/
theorem lc_data {J : It} {n : Nat} {G : Hp → Prop} {Y : Nat → Hp → V → Hp → Prop} (w : Walk J n G Y) {g : TG} {te : TE} {vs : List Nat} {σ : L2.St} {H1 : Hp} {D : Addr} {Qd : Hp → Prop} (E : Nat → V → Hp → Prop)
    (hst : ∀ i v H H2, SameI H H2 → E i v H → E i v H2) (hD : H1 D = none) (hG : ∀ H, Same H1 H → G H) (hn : n ≤ 1000000)
    (hs : ∀ i x H H2 (k : V → Hp → Prop), i < n → Same H1 H → Y i H x H2 → (∀ y H4, Same H H4 → E i y H4 → k y H4) → g x (wipe σ vs) H2 fun σ2 H3 => wipe σ2 vs = wipe σ vs ∧ te σ2 H3 k)
    (hd : ∀ H acc, Same H1 H → H D = some (.lst acc) → acc.length = n → (∀ (i : Nat) y, acc[i]? = some y → E i y H) → Qd H) :
    ∃ W : Nat → Nat → Hp → Prop, (∃ m, W 0 m (upd H1 D (.lst []))) ∧ ∀ i m H, W i m H →
      (J.stop i H ∧ Qd H) ∨ (J.go i H ∧ ∃ Nx : Hp → Prop, (∀ H', Nx H' → ∃ m', m' < m ∧ W (i + 1) m' H') ∧ ∀ x H', J.yld i H x H' → g x (wipe σ vs) H' fun σ2 H2 => wipe σ2 vs = wipe σ vs ∧ tYes σ2 H2 fun b H3 =>
        if b = true then te σ2 H3 fun y H4 => ∃ acc, H4 D = some (.lst acc) ∧ acc.length < sizeLine ∧ Nx (upd H4 D (.lst (acc ++ [y]))) else Nx H3) := by
  refine ⟨fun i m H => m = n - i ∧ i ≤ n ∧ Same H1 H ∧ ∃ acc, H D = some (.lst acc) ∧ acc.length = i ∧ ∀ (j : Nat) y, acc[j]? = some y → E j y H, ⟨n, by simp, Nat.zero_le _, same_upd hD, [], upd_same, rfl, fun j y e => by simp at e⟩, ?_⟩
  rintro i m H ⟨rfl, hi, s1, acc, e1, hl, hE⟩
  by_cases hlt : i < n
  · refine .inr ⟨w.goes i H hlt (hG H s1), fun H' => Same H1 H' ∧ ∃ acc, H' D = some (.lst acc) ∧ acc.length = i + 1 ∧ ∀ (j : Nat) y, acc[j]? = some y → E j y H', fun H' p => ⟨n - (i + 1), by omega, rfl, hlt, p⟩, fun x H' y => ?_⟩
    have z := hs i x H H' (fun y H4 => ∃ acc, H4 D = some (.lst acc) ∧ acc.length < sizeLine ∧ (Same H1 (upd H4 D (.lst (acc ++ [y]))) ∧ ∃ a2, (upd H4 D (.lst (acc ++ [y]))) D = some (.lst a2) ∧ a2.length = i + 1 ∧ ∀ (j : Nat) z, a2[j]? = some z → E j z (upd H4 D (.lst (acc ++ [y])))))
      hlt s1 (w.yields i H x H' hlt (hG H s1) y) (fun y H4 s4 hy => ?_)
    · exact z
    · have e4 : H4 D = some (.lst acc) := s4 _ _ e1
      have si : SameI H4 (upd H4 D (.lst (acc ++ [y]))) := sameI_upd e4 id
      refine ⟨acc, e4, smaller (by omega), fun b o e => ?_, acc ++ [y], upd_same, by rw [List.length_append, hl]; rfl, fun j z hz => ?_⟩
      · rw [upd_ne (ne_of_none e hD)]
        exact s4 _ _ (s1 _ _ e)
      · rcases Nat.lt_or_ge j acc.length with hj | hj
        · rw [List.getElem?_append_left hj] at hz
          exact hst _ _ _ _ si (hst _ _ _ _ (sameI_of s4) (hE j z hz))
        · rw [List.getElem?_append_right hj] at hz
          have e0 : j - acc.length = 0 := by
            rcases Nat.eq_zero_or_pos (j - acc.length) with h | h
            · exact h
            · rw [List.getElem?_eq_none (by show 1 ≤ _; exact h)] at hz
              cases hz
          rw [e0] at hz
          cases hz
          have ej : j = i := by omega
          rw [ej]
          exact hst _ _ _ _ si hy
  · have e : i = n := by omega
    subst e
    exact .inl ⟨w.stops H (hG H s1), hd H acc s1 e1 hl hE⟩
theorem tyx_tup {K : PySem.W.Frag} {H : Hp} {a : Addr} {xs : List V} (h : SqT K H a xs) : TyX K H (.ref a) (.type "tuple") := by
  rcases h with (h | ⟨o, h⟩) | ⟨o, its, n, h, c, _⟩
  · exact .base (.tup h)
  · exact .fTuple h
  · exact .kTuple h c
theorem tyx_lst {K : PySem.W.Frag} {H : Hp} {a : Addr} {xs : List V} (h : SqL K H a xs) : TyX K H (.ref a) (.type "list") := by
  rcases h with (h | ⟨o, h⟩) | ⟨o, its, n, h, c, _⟩
  · exact .base (.lst h)
  · exact .base (.frz h)
  · exact .kList h c
theorem kv {K : PySem.W.Frag} {a b : String} {r : Bool} (h : kitB a b = some r) : PySem.W.kitOne K (.type a) (.type b) = some r := kit_ty h
abbrev rLen (K : PySem.W.Frag) : List V → Hp → VK → Prop := fun xs H Q => ∃ x n, xs = [x] ∧ LenV K x H n ∧ Q (.int (n : Nat)) H
theorem pi_or {X : Cx} {tg e : Expr} {w1 w2 : TI} (h1 : PI X tg e w1) (h2 : PI X tg e w2) : PI X tg e (fun σ H R => w1 σ H R ∨ w2 σ H R) :=
  ⟨fun pins s σ H R I h => h.elim (h1.run pins s σ H R I) (h2.run pins s σ H R I)⟩
abbrev iZipX (K : PySem.W.Frag) (ta : TA) : TI := fun σ H R => RZ.iZipA K ta σ H R ∨ iZipM K ta σ H R
/-! ## programs as data -/
inductive Kd where
  | num | lst
  deriving DecidableEq
def Kd.s : Kd → Str
  | .num => "number"
  | .lst => "list"
abbrev Kd.v (k : Kd) : V := .str k.s
inductive Ms where
  | zero | of (x : Str) | len (x : Str)
inductive Dd where
  | num (n : Int) | sum (x : Str) (n : Int) | len (l : Str) | nil | put (x l : Str) | head (l : Str) | tail (l : Str) | at_ (l x : Str) | ask | call (f : Nat) (xs : List Str)
inductive Tr where
  | let_ (x : Str) (d : Dd) (t : Tr) | if_ (a b : Ms) (n : Int) (t u : Tr) | claim (a b : Ms) (n : Int) (t : Tr) | tell (x : Str)
def Ms.d : Ms → PyData
  | .zero => .tuple []
  | .of x => .tuple [.str "of", .str x]
  | .len x => .tuple [.str "len", .str x]
def Dd.d : Dd → PyData
  | .num n => .tuple [.str "num", .int n]
  | .sum x n => .tuple [.str "sum", .str x, .int n]
  | .len l => .tuple [.str "len", .str l]
  | .nil => .tuple [.str "nil"]
  | .put x l => .tuple [.str "put", .str x, .str l]
  | .head l => .tuple [.str "head", .str l]
  | .tail l => .tuple [.str "tail", .str l]
  | .at_ l x => .tuple [.str "at", .str l, .str x]
  | .ask => .tuple [.str "ask"]
  | .call f xs => .tuple [.str "call", .int f, .tuple (xs.map .str)]
def Tr.d : Tr → PyData
  | .let_ x d t => .tuple [.str "let", .str x, d.d, t.d]
  | .if_ a b n t u => .tuple [.str "if", a.d, b.d, .int n, t.d, u.d]
  | .claim a b n t => .tuple [.str "claim", a.d, b.d, .int n, t.d]
  | .tell x => .tuple [.str "tell", .str x]
abbrev Nm := List (Str × Kd)
structure Fn where
  ps : Nm
  kd : Kd
  tr : Tr
/-- a pair (name, kind) -/
def PrAt (K : PySem.W.Frag) (H : Hp) (a : Addr) (p : Str × Kd) : Prop := SqT K H a [.str p.1, p.2.v]
def FnAt (K : PySem.W.Frag) (H : Hp) (v : V) (f : Fn) : Prop := ∃ a p tv qs, v = .ref a ∧ SqT K H a [.ref p, f.kd.v, tv] ∧ PlT H p (qs.map V.ref) ∧ Paired (PrAt K H) qs f.ps ∧ Im K H tv f.tr.d
def PgAt (K : PySem.W.Frag) (H : Hp) (v : V) (fs : List Fn) : Prop := ∃ a vs, v = .ref a ∧ SqT K H a vs ∧ Paired (FnAt K H) vs fs
theorem PrAt.same {K : PySem.W.Frag} {H H1 : Hp} (s : SameI H H1) {a : Addr} {p : Str × Kd} (h : PrAt K H a p) : PrAt K H1 a p := s.tup h
theorem FnAt.same {K : PySem.W.Frag} {H H1 : Hp} (s : SameI H H1) {v : V} {f : Fn} : FnAt K H v f → FnAt K H1 v f
  | ⟨a, p, tv, qs, e, h1, h2, h3, h4⟩ => ⟨a, p, tv, qs, e, s.tup h1, s.pl h2, Paired.mapP h3 fun _ _ q => q.same s, Im.same s h4⟩
theorem PgAt.same {K : PySem.W.Frag} {H H1 : Hp} (s : SameI H H1) {v : V} {fs : List Fn} : PgAt K H v fs → PgAt K H1 v fs
  | ⟨a, vs, e, h1, h2⟩ => ⟨a, vs, e, s.tup h1, Paired.mapP h2 fun _ _ q => q.same s⟩
theorem paired_get {α β : Type} {R : α → β → Prop} : ∀ {l : List α} {m : List β} {i : Nat} {x : α}, Paired R l m → l[i]? = some x → ∃ y, m[i]? = some y ∧ R x y
  | _, _, 0, _, .cons h _, e => by cases e; exact ⟨_, rfl, h⟩
  | _, _, i + 1, _, .cons _ t, e => paired_get (i := i) t e
  | _, _, _, _, .nil, e => by simp at e
theorem paired_get' {α β : Type} {R : α → β → Prop} : ∀ {l : List α} {m : List β} {i : Nat} {y : β}, Paired R l m → m[i]? = some y → ∃ x, l[i]? = some x ∧ R x y
  | _, _, 0, _, .cons h _, e => by cases e; exact ⟨_, rfl, h⟩
  | _, _, i + 1, _, .cons _ t, e => paired_get' (i := i) t e
  | _, _, _, _, .nil, e => by simp at e
/-! ## what can be a program -/
def look (ns : Nm) (x : Str) : Option Kd := (ns.find? fun p => decide (p.1 = x)).map (·.2)
def near (n : Int) : Prop := -99 ≤ n ∧ n ≤ 99
instance (n : Int) : Decidable (near n) := by unfold near; infer_instance
/-- the signs of a name -/
def sign (c : Nat) : Prop := 97 ≤ c ∧ c ≤ 122
def okName (x : Str) : Prop := 1 ≤ x.length ∧ x.length ≤ 8 ∧ ∀ c ∈ x.cps.toList, sign c
def Ms.ok (ns : Nm) : Ms → Prop
  | .zero => True
  | .of x => look ns x = some .num
  | .len x => look ns x = some .lst
abbrev Hd := List (List Kd × Kd)
/-- a deed that can be, with the kind that it tells -/
def Dd.ok (hs : Hd) (ns : Nm) : Dd → Kd → Prop
  | .num n, k => near n ∧ k = .num
  | .sum x n, k => look ns x = some .num ∧ near n ∧ k = .num
  | .len l, k => look ns l = some .lst ∧ k = .num
  | .nil, k => k = .lst
  | .put x l, k => look ns x = some .num ∧ look ns l = some .lst ∧ k = .lst
  | .head l, k => look ns l = some .lst ∧ k = .num
  | .tail l, k => look ns l = some .lst ∧ k = .lst
  | .at_ l x, k => look ns l = some .lst ∧ look ns x = some .num ∧ k = .num
  | .ask, k => k = .num
  | .call f xs, k => 1 ≤ f ∧ ∃ h, hs[f]? = some h ∧ Paired (fun x kd => look ns x = some kd) xs h.1 ∧ k = h.2
def Tr.ok (hs : Hd) (k : Kd) : Nm → Tr → Prop
  | ns, .let_ x d t => okName x ∧ look ns x = none ∧ ∃ kd, d.ok hs ns kd ∧ Tr.ok hs k (ns ++ [(x, kd)]) t
  | ns, .if_ a b n t u => a.ok ns ∧ b.ok ns ∧ near n ∧ Tr.ok hs k ns t ∧ Tr.ok hs k ns u
  | ns, .claim a b n t => a.ok ns ∧ b.ok ns ∧ near n ∧ Tr.ok hs k ns t
  | ns, .tell x => look ns x = some k
def Tr.size : Tr → Nat
  | .let_ _ _ t => t.size + 1
  | .if_ _ _ _ t u => t.size + u.size + 1
  | .claim _ _ _ t => t.size + 1
  | .tell _ => 1
def Tr.deep : Tr → Nat
  | .let_ _ _ t => t.deep + 1
  | .if_ _ _ _ t u => max t.deep u.deep + 1
  | .claim _ _ _ t => t.deep + 1
  | .tell _ => 1
def Fn.hd (f : Fn) : List Kd × Kd := (f.ps.map (·.2), f.kd)
def Fn.ok (hs : Hd) (f : Fn) : Prop := f.ps.length ≤ 4 ∧ (∀ p ∈ f.ps, okName p.1) ∧ (f.ps.map (·.1)).Nodup ∧ f.tr.ok hs f.kd f.ps ∧ f.tr.size ≤ 60 ∧ f.tr.deep ≤ 20
def okPg (fs : List Fn) : Prop := 1 ≤ fs.length ∧ fs.length ≤ 6 ∧ ∀ f ∈ fs, f.ok (fs.map Fn.hd)
/-- the dict of names -/
abbrev nmK (ns : Nm) : List (Key × V) := ns.map fun p => (.inr p.1, p.2.v)
theorem nmK_val (ns : Nm) (x : Str) : valV (nmK ns) (.inr x) = (look ns x).map Kd.v := by
  induction ns with
  | nil => rfl
  | cons p r ih =>
    by_cases e : p.1 = x
    · have e2 : (Sum.inr p.1 : Key) = Sum.inr x := by rw [e]
      show valV ((.inr p.1, p.2.v) :: nmK r) (.inr x) = _
      rw [valV_pos e2]
      unfold look
      rw [List.find?_cons, decide_eq_true e]
      rfl
    · have e2 : ¬ (Sum.inr p.1 : Key) = Sum.inr x := fun z => e (Sum.inr.inj z)
      show valV ((.inr p.1, p.2.v) :: nmK r) (.inr x) = _
      rw [valV_neg e2, ih]
      unfold look
      rw [List.find?_cons, decide_eq_false e]
theorem Kd.v_inj {a b : Kd} (h : a.s = b.s) : a = b := by
  cases a <;> cases b <;> first | rfl | (exfalso; revert h; decide +kernel)
theorem putK_new {kvs : List (Key × V)} {k : Key} {v : V} (h : valV kvs k = none) : putK kvs k v = kvs ++ [(k, v)] := by
  unfold putK
  have e := valV_any k kvs
  rw [h] at e
  rw [if_neg (by rw [e]; decide)]
theorem nmK_put {ns : Nm} {x : Str} {kd : Kd} (h : look ns x = none) : putK (nmK ns) (.inr x) kd.v = nmK (ns ++ [(x, kd)]) := by
  rw [putK_new (by rw [nmK_val, h]; rfl)]
  unfold nmK
  rw [List.map_append]
  rfl
end Cs
namespace Cs
open PySem PySem.Spec L2
/-! ## all but one stays -/
def SameX (l : Addr) (H H1 : Hp) : Prop := ∀ b o, b ≠ l → H b = some o → H1 b = some o
theorem SameX.refl (l : Addr) (H : Hp) : SameX l H H := fun _ _ _ h => h
theorem SameX.trans {l : Addr} {H H1 H2 : Hp} (a : SameX l H H1) (b : SameX l H1 H2) : SameX l H H2 := fun c o n h => b c o n (a c o n h)
theorem sameX_of {l : Addr} {H H1 : Hp} (s : Same H H1) : SameX l H H1 := fun b o _ h => s b o h
theorem sameX_upd {l : Addr} {H : Hp} {o : HO} : SameX l H (upd H l o) := fun b x n h => by rw [upd_ne n]; exact h
theorem SameX.i {l : Addr} {H H1 : Hp} {o : HO} (s : SameX l H H1) (h : H l = some o) (n : ¬ Imm o) : SameI H H1 := fun b x i e => s b x (fun z => by
  rw [z, h] at e
  cases e
  exact n i) e
theorem SameX.same {l : Addr} {H H1 H2 : Hp} (a : Same H H1) (s : SameX l H1 H2) (n : H l = none) : Same H H2 := fun b o h => s b o (ne_of_none h n) (a b o h)
theorem paired_append {α β : Type} {R : α → β → Prop} : ∀ {l1 l2 : List α} {m1 m2 : List β}, Paired R l1 m1 → Paired R l2 m2 → Paired R (l1 ++ l2) (m1 ++ m2)
  | _, _, _, _, .nil, h => h
  | _, _, _, _, .cons h t, q => .cons h (paired_append t q)
theorem paired_reverse {α β : Type} {R : α → β → Prop} : ∀ {l : List α} {m : List β}, Paired R l m → Paired R l.reverse m.reverse
  | _, _, .nil => .nil
  | _, _, .cons h t => by
    rw [List.reverse_cons, List.reverse_cons]
    exact paired_append (paired_reverse t) (.cons h .nil)
theorem paired_last {α β : Type} {R : α → β → Prop} : ∀ {l : List α} {x : α} {m : List β}, Paired R (l ++ [x]) m → ∃ m1 y, m = m1 ++ [y] ∧ Paired R l m1 ∧ R x y
  | [], _, _, .cons h .nil => ⟨[], _, rfl, .nil, h⟩
  | _ :: l, x, _, .cons h t => by
    obtain ⟨m1, y, rfl, h1, h2⟩ := paired_last (l := l) t
    exact ⟨_ :: m1, y, rfl, .cons h h1, h2⟩
/-- a walk by what holds between the turns -/
theorem walk_by {J : It} {n : Nat} {G : Hp → Prop} {Y : Nat → Hp → V → Hp → Prop} (w : Walk J n G Y) {H0 : Hp} {Done : Hp → Prop} {Step : V → Hp → (Hp → Prop) → Prop} (Pv : Nat → Hp → Prop) (h0 : Pv 0 H0) (hG : ∀ i H, i ≤ n → Pv i H → G H)
    (hs : ∀ i x H H2, i < n → Pv i H → Y i H x H2 → Step x H2 (Pv (i + 1))) (hd : ∀ H, Pv n H → Done H) :
    ∃ W : Nat → Nat → Hp → Prop, (∃ m, W 0 m H0) ∧ ∀ j m H2, W j m H2 → (J.stop j H2 ∧ Done H2) ∨ (J.go j H2 ∧ ∃ N1 : Hp → Prop, (∀ H3, N1 H3 → ∃ m1, m1 < m ∧ W (j + 1) m1 H3) ∧ ∀ x H3, J.yld j H2 x H3 → Step x H3 N1) := by
  refine ⟨fun i m H => m = n - i ∧ i ≤ n ∧ Pv i H, ⟨n, by simp, Nat.zero_le _, h0⟩, ?_⟩
  rintro i m H ⟨rfl, hi, p⟩
  have q := hG i H hi p
  by_cases hlt : i < n
  · exact .inr ⟨w.goes i H hlt q, Pv (i + 1), fun H3 p3 => ⟨n - (i + 1), by omega, rfl, hlt, p3⟩, fun x H3 y => hs i x H H3 hlt p (w.yields i H x H3 hlt q y)⟩
  · obtain rfl : i = n := by omega
    exact .inl ⟨w.stops H q, hd H p⟩
def Scal : PyData → Prop
  | .none => True
  | .bool _ => True
  | .int _ => True
  | .str _ => True
  | _ => False
inductive Sized : Nat → PyData → Prop
  | sc {n : Nat} {d : PyData} : Scal d → Sized n d
  | tup {n : Nat} {ds : List PyData} : ds.length ≤ 1000000 → (∀ d ∈ ds, Sized n d) → Sized (n + 1) (.tuple ds)
  | lst {n : Nat} {ds : List PyData} : ds.length ≤ 1000000 → (∀ d ∈ ds, Sized n d) → Sized (n + 1) (.list ds)
theorem Sized.up {n : Nat} {d : PyData} (h : Sized n d) : Sized (n + 1) d := by
  induction h with
  | sc h => exact .sc h
  | tup h _ ih => exact .tup h ih
  | lst h _ ih => exact .lst h ih
theorem kany {K : PySem.W.Frag} {a b c : String} {r1 r2 : Bool} (h1 : kitB a b = some r1) (h2 : kitB a c = some r2) : PySem.W.kitAny K (.type a) [.type b, .type c] = some (r1 || r2) := by
  cases r1 <;> cases r2 <;> simp [PySem.W.kitAny, kit_ty h1, kit_ty h2]
def Sq (K : PySem.W.Frag) (b : Bool) (H : Hp) (a : Addr) (xs : List V) : Prop := match b with
  | true => SqL K H a xs
  | false => SqT K H a xs
def seqTy (b : Bool) : String := if b then "list" else "tuple"
theorem Sq.same {K : PySem.W.Frag} {b : Bool} {H H1 : Hp} (s : Same H H1) {a : Addr} {xs : List V} (h : Sq K b H a xs) : Sq K b H1 a xs := by
  cases b
  · exact Same.tup s h
  · exact s.seq h
theorem Sq.ty {K : PySem.W.Frag} {b : Bool} {H : Hp} {a : Addr} {xs : List V} (h : Sq K b H a xs) : TyX K H (.ref a) (.type (seqTy b)) := by
  cases b
  · exact tyx_tup h
  · exact tyx_lst h
theorem Sq.len {K : PySem.W.Frag} {b : Bool} {H : Hp} {a : Addr} {xs : List V} (h : Sq K b H a xs) : LenV K (.ref a) H xs.length := by
  cases b
  · exact .inr ⟨_, h, rfl⟩
  · exact .inl ⟨_, h, rfl⟩
theorem Sq.ix {K : PySem.W.Frag} {b : Bool} {H : Hp} {a : Addr} {xs : List V} {i : Nat} {x : V} {Q : VK} (h : Sq K b H a xs) (e : xs[i]? = some x) (q : Q x H) : rIx K (.ref a) (.int (i : Nat)) H Q := by
  cases b
  · exact .inr (.inl ⟨_, _, _, _, rfl, rfl, h, atI_nat e, q⟩)
  · exact .inl ⟨_, _, _, _, rfl, rfl, h, atI_nat e, q⟩
theorem DpAll.get {K : PySem.W.Frag} {H : Hp} : ∀ {xs : List V} {ds : List PyData} {i : Nat} {x : V}, DpAll K H xs ds → xs[i]? = some x → ∃ d, ds[i]? = some d ∧ Dp K H x d
  | _, _, 0, _, .cons h _, e => by cases e; exact ⟨_, rfl, h⟩
  | _, _, i + 1, _, .cons _ t, e => DpAll.get (i := i) t e
  | _, _, _, _, .nil, e => by simp at e
section
variable {K : PySem.W.Frag}
def Jt (K : PySem.W.Frag) (b : Bool) (a : Addr) : It := match b with
  | true => Itl K a
  | false => Itt K a
theorem walk_sq {b : Bool} {a : Addr} {xs : List V} : Walk (Jt K b a) xs.length (fun H => Sq K b H a xs) (YAt xs) := by
  cases b
  · exact walk_tup
  · exact walk_list
theorem iseq {b : Bool} {i : Nat} {σ : L2.St} {H : Hp} {a : Addr} {xs : List V} {R : It → Hp → Prop} (hσ : σ[i]? = some (some (.ref a))) (h : Sq K b H a xs) (r : R (Jt K b a) H) : iList K (tVar i) σ H R ∨ iTup K (tVar i) σ H R := by
  cases b
  · exact .inr ⟨_, hσ, a, rfl, ⟨_, h⟩, r⟩
  · exact .inl ⟨_, hσ, a, rfl, ⟨_, h⟩, r⟩
theorem yes_in {te : TE} {D : Addr} {cs : List Cl} {σ : L2.St} {H : Hp} {Nx : Hp → Prop} (h : tIn te D cs σ H Nx) : tYes σ H fun b H5 => if b = true then tIn te D cs σ H5 Nx else Nx H5 := by
  show (if true = true then tIn te D cs σ H Nx else Nx H)
  rw [if_pos rfl]; exact h
/-- where drawing stands -/
def Dw (K : PySem.W.Frag) (B H : Hp) (st : Addr) : Prop := ∃ (sc : Addr) (ns : List Int) (i mx r : Int), H st = some (.lst [.ref sc, .int i, .int mx, .int r]) ∧ SqL K B sc (ns.map V.int) ∧ 0 ≤ i ∧ 0 ≤ mx ∧ mx < 2147483647 ∧ 0 ≤ r
theorem Dw.upd {B H : Hp} {st p : Addr} {o : HO} (h : Dw K B H st) (n : p ≠ st) : Dw K B (L2.upd H p o) st := by
  obtain ⟨sc, ns, i, mx, r, e, q⟩ := h
  exact ⟨sc, ns, i, mx, r, by rw [upd_ne (fun z => n z.symm)]; exact e, q⟩
theorem Dw.step {B H H1 : Hp} {st : Addr} (h : Dw K B H st) (s : Same H H1) : Dw K B H1 st := by
  obtain ⟨sc, ns, i, mx, r, e, q⟩ := h
  exact ⟨sc, ns, i, mx, r, s _ _ e, q⟩
theorem Dw.ne {B H : Hp} {st p : Addr} (h : Dw K B H st) (n : H p = none) : p ≠ st := by
  obtain ⟨sc, ns, i, mx, r, e, q⟩ := h
  intro z
  rw [z, e] at n
  cases n
theorem Dw.i {B H H1 : Hp} {st : Addr} (h : Dw K B H st) (s : SameX st H H1) : SameI H H1 := by
  obtain ⟨sc, ns, i, mx, r, e, q⟩ := h
  exact s.i e id
/-- a fresh one, all else but l as before -/
theorem SameX.new {l p : Addr} {H H1 : Hp} {o : HO} (s : SameX l H H1) (n : H1 p = none) : SameX l H (L2.upd H1 p o) := s.trans (sameX_of (same_upd n))
/-- what wasn't there may change -/
theorem SameX.old {l p : Addr} {H H1 : Hp} {o : HO} (s : SameX l H H1) (n : H p = none) : SameX l H (L2.upd H1 p o) := fun b x hb e => by
  rw [upd_ne (ne_of_none e n)]
  exact s b x hb e
theorem Same.old {p : Addr} {H H1 : Hp} {o : HO} (s : Same H H1) (n : H p = none) : Same H (L2.upd H1 p o) := fun b x e => by
  rw [upd_ne (ne_of_none e n)]
  exact s b x e
theorem yes_te {te : TE} {σ : L2.St} {H : Hp} {Qv : VK} {Nx : Hp → Prop} (h : te σ H Qv) : tYes σ H fun b H3 => if b = true then te σ H3 Qv else Nx H3 := by
  show (if true = true then te σ H Qv else Nx H)
  rw [if_pos rfl]; exact h
end
/-- as lc_data; what is told may be changed, too -/
theorem lc_new {J : It} {n : Nat} {G : Hp → Prop} {Y : Nat → Hp → V → Hp → Prop} (w : Walk J n G Y) {g : TG} {te : TE} {vs : List Nat} {σ : L2.St} {H1 : Hp} {D : Addr} {Qd : Hp → Prop} (E : Nat → V → Hp → Prop)
    (hst : ∀ i v H H2 acc, H D = some (.lst acc) → SameX D H H2 → E i v H → E i v H2) (hD : H1 D = none) (hG : ∀ H, Same H1 H → G H) (hn : n ≤ 1000000)
    (hs : ∀ i x H H2 (k : V → Hp → Prop), i < n → Same H1 H → (∃ acc, H D = some (.lst acc)) → Y i H x H2 → (∀ y H4, Same H H4 → E i y H4 → k y H4) → g x (wipe σ vs) H2 fun σ2 H3 => wipe σ2 vs = wipe σ vs ∧ te σ2 H3 k)
    (hd : ∀ H acc, Same H1 H → H D = some (.lst acc) → acc.length = n → (∀ (i : Nat) y, acc[i]? = some y → E i y H) → Qd H) :
    ∃ W : Nat → Nat → Hp → Prop, (∃ m, W 0 m (upd H1 D (.lst []))) ∧ ∀ i m H, W i m H →
      (J.stop i H ∧ Qd H) ∨ (J.go i H ∧ ∃ Nx : Hp → Prop, (∀ H', Nx H' → ∃ m', m' < m ∧ W (i + 1) m' H') ∧ ∀ x H', J.yld i H x H' → g x (wipe σ vs) H' fun σ2 H2 => wipe σ2 vs = wipe σ vs ∧ tYes σ2 H2 fun b H3 =>
        if b = true then te σ2 H3 fun y H4 => ∃ acc, H4 D = some (.lst acc) ∧ acc.length < sizeLine ∧ Nx (upd H4 D (.lst (acc ++ [y]))) else Nx H3) := by
  refine ⟨fun i m H => m = n - i ∧ i ≤ n ∧ Same H1 H ∧ ∃ acc, H D = some (.lst acc) ∧ acc.length = i ∧ ∀ (j : Nat) y, acc[j]? = some y → E j y H, ⟨n, by simp, Nat.zero_le _, same_upd hD, [], upd_same, rfl, fun j y e => by simp at e⟩, ?_⟩
  rintro i m H ⟨rfl, hi, s1, acc, e1, hl, hE⟩
  by_cases hlt : i < n
  · refine .inr ⟨w.goes i H hlt (hG H s1), fun H' => Same H1 H' ∧ ∃ acc, H' D = some (.lst acc) ∧ acc.length = i + 1 ∧ ∀ (j : Nat) y, acc[j]? = some y → E j y H', fun H' p => ⟨n - (i + 1), by omega, rfl, hlt, p⟩, fun x H' y => ?_⟩
    have z := hs i x H H' (fun y H4 => ∃ acc, H4 D = some (.lst acc) ∧ acc.length < sizeLine ∧ (Same H1 (upd H4 D (.lst (acc ++ [y]))) ∧ ∃ a2, (upd H4 D (.lst (acc ++ [y]))) D = some (.lst a2) ∧ a2.length = i + 1 ∧ ∀ (j : Nat) z, a2[j]? = some z → E j z (upd H4 D (.lst (acc ++ [y])))))
      hlt s1 ⟨acc, e1⟩ (w.yields i H x H' hlt (hG H s1) y) (fun y H4 s4 hy => ?_)
    · exact z
    · have e4 : H4 D = some (.lst acc) := s4 _ _ e1
      have si : SameX D H4 (upd H4 D (.lst (acc ++ [y]))) := sameX_upd
      refine ⟨acc, e4, smaller (by omega), fun b o e => ?_, acc ++ [y], upd_same, by rw [List.length_append, hl]; rfl, fun j z hz => ?_⟩
      · rw [upd_ne (ne_of_none e hD)]
        exact s4 _ _ (s1 _ _ e)
      · rcases Nat.lt_or_ge j acc.length with hj | hj
        · rw [List.getElem?_append_left hj] at hz
          exact hst _ _ _ _ _ e4 si (hst _ _ _ _ _ e1 (sameX_of s4) (hE j z hz))
        · rw [List.getElem?_append_right hj] at hz
          have e0 : j - acc.length = 0 := by
            rcases Nat.eq_zero_or_pos (j - acc.length) with h | h
            · exact h
            · rw [List.getElem?_eq_none (by show 1 ≤ _; exact h)] at hz
              cases hz
          rw [e0] at hz
          cases hz
          have ej : j = i := by omega
          rw [ej]
          exact hst _ _ _ _ _ e4 si hy
  · have e : i = n := by omega
    subst e
    exact .inl ⟨w.stops H (hG H s1), hd H acc s1 e1 hl hE⟩
theorem refs_of {β : Type} {R : Addr → β → Prop} : ∀ {acc : List V} {l : List β}, acc.length = l.length → (∀ (i : Nat) y, acc[i]? = some y → ∃ p x, y = .ref p ∧ l[i]? = some x ∧ R p x) → ∃ qs : List Addr, acc = qs.map V.ref ∧ Paired R qs l
  | [], [], _, _ => ⟨[], rfl, .nil⟩
  | [], _ :: _, e, _ => nomatch e
  | _ :: _, [], e, _ => nomatch e
  | y :: acc, x :: l, e, h => by
    obtain ⟨p, x1, rfl, e1, r⟩ := h 0 y rfl
    cases e1
    obtain ⟨qs, rfl, rs⟩ := refs_of (acc := acc) (l := l) (Nat.succ.inj e) fun i y hy => h (i + 1) y hy
    exact ⟨p :: qs, rfl, .cons r rs⟩
end Cs
namespace Cs
open PySem PySem.Spec L2
/-! ## what is told of a def, by data: B stays for ever, what is owned may change -/
structure Ext (B H B1 H1 : Hp) : Prop where
  b : Same B B1
  h : Same H H1
  s : Same B1 H1
  f : ∀ a, B a = none → H a ≠ none → B1 a = none
theorem some_ne {H : Hp} {a : Addr} {o : HO} (h : H a = some o) : H a ≠ none := by rw [h]; exact fun z => nomatch z
theorem ne_same {H H1 : Hp} {a : Addr} (s : Same H H1) (h : H a ≠ none) : H1 a ≠ none := by
  cases e : H a with
  | none => exact absurd e h
  | some o => rw [s _ _ e]; exact fun z => nomatch z
theorem Ext.refl {B H : Hp} (s : Same B H) : Ext B H B H := ⟨Same.refl _, Same.refl _, s, fun _ h _ => h⟩
theorem Ext.trans {B H B1 H1 B2 H2 : Hp} (x : Ext B H B1 H1) (y : Ext B1 H1 B2 H2) : Ext B H B2 H2 := ⟨x.b.trans y.b, x.h.trans y.h, y.s, fun a n m => y.f a (x.f a n m) (ne_same x.h m)⟩
theorem Ext.new {B H : Hp} {p : Addr} {o : HO} (s : Same B H) (n : H p = none) : Ext B H (upd B p o) (upd H p o) :=
  ⟨same_upd (s.free n), same_upd n, fun b x e => by
    by_cases h : b = p
    · rw [h] at e ⊢; rw [upd_same] at e ⊢; exact e
    · rw [upd_ne h] at e ⊢; exact s _ _ e, fun a h m => by
    rw [upd_ne (fun z => m (by rw [z]; exact n))]; exact h⟩
theorem Ext.own {B H : Hp} {p : Addr} {o : HO} (s : Same B H) (n : H p = none) : Ext B H B (upd H p o) :=
  ⟨Same.refl _, same_upd n, s.trans (same_upd n), fun _ h _ => h⟩
/-- what was owned, and new, stays from now on -/
theorem Ext.keep {B H B1 H1 : Hp} {p : Addr} {o : HO} (x : Ext B H B1 H1) (n : H p = none) (e : H1 p = some o) (nb : B1 p = none) : Ext B H (upd B1 p o) H1 :=
  ⟨x.b.trans (same_upd nb), x.h, fun b y h => by
    by_cases z : b = p
    · rw [z] at h ⊢; rw [upd_same] at h; rw [e]; exact h
    · rw [upd_ne z] at h; exact x.s _ _ h, fun a h m => by
    rw [upd_ne (fun z => m (by rw [z]; exact n))]; exact x.f a h m⟩
structure AV where
  p : V → Hp → Prop
  mono : ∀ {v : V} {B B1 : Hp}, Same B B1 → p v B → p v B1
abbrev AllA (B : Hp) (xs : List V) (as : List AV) : Prop := Paired (fun v a => a.p v B) xs as
theorem AllA.mono {B B1 : Hp} (s : Same B B1) : ∀ {xs : List V} {as : List AV}, AllA B xs as → AllA B1 xs as
  | _, _, .nil => .nil
  | _, a :: _, .cons h t => .cons (a.mono s h) (AllA.mono s t)
inductive Rs
  | fz (a : AV)
  | own (as : List AV)
  | ownd (kvs : List (Key × AV))
/-- what is there of it: H0 as it was when what is owned was new -/
def Rs.at (H0 B H : Hp) (v : V) : Rs → Prop
  | .fz a => a.p v B
  | .own as => ∃ l xs, v = .ref l ∧ H0 l = none ∧ B l = none ∧ H l = some (.lst xs) ∧ AllA B xs as
  | .ownd kvs => ∃ l ws, v = .ref l ∧ H0 l = none ∧ B l = none ∧ H l = some (.dK ws) ∧ ws.map (·.1) = kvs.map (·.1) ∧ AllA B (ws.map (·.2)) (kvs.map (·.2))
def Rs.isOwn : Rs → Bool
  | .fz _ => false
  | _ => true
theorem Rs.ext {H0 B H B1 H1 : Hp} (x : Ext B H B1 H1) {v : V} : ∀ {r : Rs}, r.at H0 B H v → r.at H0 B1 H1 v
  | .fz a, h => a.mono x.b h
  | .own as, ⟨l, xs, e, n, nb, eh, ha⟩ => ⟨l, xs, e, n, x.f _ nb (some_ne eh), x.h _ _ eh, ha.mono x.b⟩
  | .ownd as, ⟨l, xs, e, n, nb, eh, ek, ha⟩ => ⟨l, xs, e, n, x.f _ nb (some_ne eh), x.h _ _ eh, ek, ha.mono x.b⟩
theorem Rs.back {H0 H' B H : Hp} (s : Same H0 H') {v : V} : ∀ {r : Rs}, r.at H' B H v → r.at H0 B H v
  | .fz _, h => h
  | .own _, ⟨l, xs, e, n, nb, eh, ha⟩ => ⟨l, xs, e, s.free n, nb, eh, ha⟩
  | .ownd _, ⟨l, xs, e, n, nb, eh, ek, ha⟩ => ⟨l, xs, e, s.free n, nb, eh, ek, ha⟩
theorem Rs.ownRef {H0 B H : Hp} {v : V} : ∀ {r : Rs}, r.isOwn = true → r.at H0 B H v → ∃ l o, v = .ref l ∧ H0 l = none ∧ B l = none ∧ H l = some o
  | .own _, _, ⟨l, xs, e, n, nb, eh, ha⟩ => ⟨l, _, e, n, nb, eh⟩
  | .ownd _, _, ⟨l, xs, e, n, nb, eh, _⟩ => ⟨l, _, e, n, nb, eh⟩
abbrev En := Nat → Option Rs
def En.put (E : En) (i : Nat) (r : Rs) : En := fun j => if j = i then some r else E j
def En.cut (E : En) (vs : List Nat) : En := fun j => if j ∈ vs then none else E j
/-- what may change, by its address -/
inductive Ob
  | lst (as : List AV)
  | dct (kvs : List (Key × AV))
  | ins (C dx : Addr) (fs : List (Str × AV))
def Ob.at (B H : Hp) (l : Addr) : Ob → Prop
  | .lst as => ∃ xs, H l = some (.lst xs) ∧ AllA B xs as
  | .dct kvs => ∃ ws : List (Key × V), H l = some (.dK ws) ∧ ws.map (·.1) = kvs.map (·.1) ∧ AllA B (ws.map (·.2)) (kvs.map (·.2))
  | .ins C dx fs => ∃ ws : List (Str × V), H l = some (.ins C dx ws) ∧ ws.map (·.1) = fs.map (·.1) ∧ AllA B (ws.map (·.2)) (fs.map (·.2))
theorem Ob.some {B H : Hp} {l : Addr} : ∀ {o : Ob}, o.at B H l → ∃ u, H l = some u
  | .lst _, ⟨_, h, _⟩ => ⟨_, h⟩
  | .dct _, ⟨_, h, _⟩ => ⟨_, h⟩
  | .ins _ _ _, ⟨_, h, _⟩ => ⟨_, h⟩
theorem Ob.move {B H B1 H1 : Hp} {l : Addr} (s : Same B B1) (h : ∀ u, H l = Option.some u → H1 l = Option.some u) : ∀ {o : Ob}, o.at B H l → o.at B1 H1 l
  | .lst _, ⟨xs, e, a⟩ => ⟨xs, h _ e, AllA.mono s a⟩
  | .dct _, ⟨xs, e, k, a⟩ => ⟨xs, h _ e, k, AllA.mono s a⟩
  | .ins _ _ _, ⟨xs, e, k, a⟩ => ⟨xs, h _ e, k, AllA.mono s a⟩
abbrev Wo := Addr → Option Ob
def W0 : Wo := fun _ => none
def Wo.put (W : Wo) (l : Addr) (o : Ob) : Wo := fun x => if x = l then some o else W x
structure Env (n : Nat) (W : Wo) (B0 H0 B H : Hp) (σ : L2.St) (E : En) : Prop where
  x : Ext B0 H0 B H
  len : σ.length = n
  at_ : ∀ i r, E i = some r → ∃ v, σ[i]? = some (some v) ∧ r.at H0 B H v
  ne : ∀ i j r q l, i ≠ j → E i = some r → r.isOwn = true → E j = some q → q.isOwn = true → σ[i]? = some (some (.ref l)) → σ[j]? ≠ some (some (.ref l))
  w : ∀ l o, W l = some o → H0 l = none ∧ B l = none ∧ o.at B H l
  wn : ∀ i r l, E i = some r → r.isOwn = true → σ[i]? = some (some (.ref l)) → W l = none
theorem Env.ext {n : Nat} {W : Wo} {B0 H0 B H B1 H1 : Hp} {σ : L2.St} {E : En} (e : Env n W B0 H0 B H σ E) (x : Ext B H B1 H1) : Env n W B0 H0 B1 H1 σ E :=
  ⟨e.x.trans x, e.len, fun i r h => let ⟨v, a, b⟩ := e.at_ i r h; ⟨v, a, Rs.ext x b⟩, e.ne, fun l o h => let ⟨a, b, c⟩ := e.w l o h; ⟨a, x.f _ b (let ⟨_, z⟩ := Ob.some c; some_ne z), Ob.move x.b (fun u z => x.h _ _ z) c⟩, e.wn⟩
theorem Env.put {n : Nat} {W : Wo} {B0 H0 B H B1 H1 : Hp} {σ : L2.St} {E : En} {i : Nat} {v : V} {r : Rs} (e : Env n W B0 H0 B H σ E) (x : Ext B H B1 H1) (hi : i < n) (h : r.at H B1 H1 v) : Env n W B0 H0 B1 H1 (σ.set i (some v)) (E.put i r) := by
  have s0 : Same H0 H := e.x.h
  refine ⟨e.x.trans x, by rw [List.length_set]; exact e.len, fun j q hj => ?_, fun j k q1 q2 l jk h1 o1 h2 o2 => ?_, (e.ext x).w, fun j q l hj ho hl => ?_⟩
  · by_cases c : j = i
    · subst c
      unfold En.put at hj
      rw [if_pos rfl] at hj
      cases hj
      exact ⟨v, by rw [List.getElem?_set_self (by rw [e.len]; exact hi)], Rs.back s0 h⟩
    · unfold En.put at hj
      rw [if_neg c] at hj
      obtain ⟨u, a, b⟩ := e.at_ j q hj
      exact ⟨u, by rw [List.getElem?_set_ne (fun z => c z.symm)]; exact a, Rs.ext x b⟩
  · have old : ∀ m q u, m ≠ i → E m = some q → q.isOwn = true → σ[m]? = some (some u) → ∃ l, u = .ref l ∧ H l ≠ none := fun m q u hm hq ho hu => by
      obtain ⟨u2, a, b⟩ := e.at_ m q hq
      rw [hu] at a
      cases a
      obtain ⟨l, o, rfl, _, _, ho⟩ := Rs.ownRef ho b
      exact ⟨l, rfl, some_ne ho⟩
    have get : ∀ m, (σ.set i (some v))[m]? = if m = i then some (some v) else σ[m]? := fun m => by
      by_cases c : m = i
      · rw [c, if_pos rfl, List.getElem?_set_self (by rw [e.len]; exact hi)]
      · rw [if_neg c, List.getElem?_set_ne (fun z => c z.symm)]
    have look : ∀ m q, (E.put i r) m = some q → (m = i ∧ q = r) ∨ (m ≠ i ∧ E m = some q) := fun m q hm => by
      unfold En.put at hm
      by_cases c : m = i
      · rw [if_pos c] at hm; cases hm; exact .inl ⟨c, rfl⟩
      · rw [if_neg c] at hm; exact .inr ⟨c, hm⟩
    rw [get j, get k]
    rcases look j q1 h1 with ⟨rfl, rfl⟩ | ⟨c1, g1⟩ <;> rcases look k q2 h2 with ⟨rfl, rfl⟩ | ⟨c2, g2⟩
    · exact absurd rfl jk
    · rw [if_pos rfl, if_neg c2]
      intro z1 z2
      cases z1
      obtain ⟨l1, o, e1, nn, _, _⟩ := Rs.ownRef o1 h
      cases e1
      obtain ⟨l2, e2, n2⟩ := old k q2 _ c2 g2 o2 z2
      cases e2
      exact n2 nn
    · rw [if_neg c1, if_pos rfl]
      intro z1 z2
      cases z2
      obtain ⟨l1, o, e1, nn, _, _⟩ := Rs.ownRef o2 h
      cases e1
      obtain ⟨l2, e2, n2⟩ := old j q1 _ c1 g1 o1 z1
      cases e2
      exact n2 nn
    · rw [if_neg c1, if_neg c2]
      exact e.ne j k q1 q2 l jk g1 o1 g2 o2
  · unfold En.put at hj
    by_cases c : j = i
    · subst c
      rw [if_pos rfl] at hj
      cases hj
      rw [List.getElem?_set_self (by rw [e.len]; exact hi)] at hl
      cases hl
      obtain ⟨l1, o, e1, nn, _, _⟩ := Rs.ownRef ho h
      cases e1
      cases hw : W l with
      | none => rfl
      | some ob =>
        obtain ⟨u, hu⟩ := Ob.some (e.w l ob hw).2.2
        rw [nn] at hu
        cases hu
    · rw [if_neg c] at hj
      rw [List.getElem?_set_ne (fun z => c z.symm)] at hl
      exact e.wn j q l hj ho hl
/-! ### judgements -/
def Ev (n : Nat) (W : Wo) (te : TE) (E : En) (r : Rs) : Prop := ∀ B0 H0 B H σ, Env n W B0 H0 B H σ E → ∀ Q : VK, (∀ v B1 H1, Ext B H B1 H1 → r.at H B1 H1 v → Q v H1) → te σ H Q
def EvA (n : Nat) (W : Wo) (ta : TA) (E : En) (as : List AV) : Prop := ∀ B0 H0 B H σ, Env n W B0 H0 B H σ E → ∀ Q : List V → Hp → Prop, (∀ vs B1 H1, Ext B H B1 H1 → AllA B1 vs as → Q vs H1) → ta σ H Q
def EvT (n : Nat) (W : Wo) (tt : TT) (E : En) (b : Bool) : Prop := ∀ B0 H0 B H σ, Env n W B0 H0 B H σ E → ∀ Q : Bool → Hp → Prop, (∀ B1 H1, Ext B H B1 H1 → Q b H1) → tt σ H Q
inductive Out
  | nx (E : En) (W : Wo)
  | rt (r : Rs) (W : Wo)
/-- what may change still, at the end -/
def OwnW (W : Wo) (H0 B H : Hp) : Prop := ∀ l o, W l = some o → H0 l = none ∧ B l = none ∧ o.at B H l
def PostO (n : Nat) (B0 H0 B : Hp) (D : Ends) : Out → Prop
  | .nx E1 W1 => ∀ σ1 B1 H1, Same B B1 → Env n W1 B0 H0 B1 H1 σ1 E1 → D.nx σ1 H1
  | .rt r W1 => ∀ v B1 H1, Ext B0 H0 B1 H1 → r.at H0 B1 H1 v → OwnW W1 H0 B1 H1 → D.rt v H1
theorem PostO.up {n : Nat} {B0 H0 B B1 : Hp} {D : Ends} (s : Same B B1) : ∀ {o : Out}, PostO n B0 H0 B D o → PostO n B0 H0 B1 D o
  | .nx _ _, q => fun σ2 B2 H2 s2 e2 => q σ2 B2 H2 (s.trans s2) e2
  | .rt _ _, q => q
def EvS (n : Nat) (W : Wo) (ts : TS) (E : En) (o : Out) : Prop := ∀ B0 H0 B H σ, Env n W B0 H0 B H σ E → ∀ D : Ends, PostO n B0 H0 B D o → ts D σ H
theorem Env.s {n : Nat} {W : Wo} {B0 H0 B H : Hp} {σ : L2.St} {E : En} (e : Env n W B0 H0 B H σ E) : Same B H := e.x.s
/-- data -/
def dat (K : PySem.W.Frag) (d : PyData) : AV := ⟨fun v B => Dp K B v d, fun s h => Dp.same s h⟩
abbrev EvD (K : PySem.W.Frag) (n : Nat) (W : Wo) (te : TE) (E : En) (d : PyData) : Prop := Ev n W te E (.fz (dat K d))
abbrev EvAD (K : PySem.W.Frag) (n : Nat) (W : Wo) (ta : TA) (E : En) (ds : List PyData) : Prop := EvA n W ta E (ds.map (dat K))
theorem allD {K : PySem.W.Frag} {B : Hp} : ∀ {xs : List V} {ds : List PyData}, AllA B xs (ds.map (dat K)) → DpAll K B xs ds
  | [], [], _ => .nil
  | _ :: _, _ :: _, .cons h t => .cons h (allD t)
theorem dAll {K : PySem.W.Frag} {B : Hp} : ∀ {xs : List V} {ds : List PyData}, DpAll K B xs ds → AllA B xs (ds.map (dat K))
  | [], [], _ => .nil
  | _ :: _, _ :: _, .cons h t => .cons h (dAll t)
/-- a tuple -/
def tupA (K : PySem.W.Frag) (as : List AV) : AV := ⟨fun v B => ∃ a xs, v = .ref a ∧ SqT K B a xs ∧ AllA B xs as, fun s ⟨a, xs, e, h, t⟩ => ⟨a, xs, e, Same.tup s h, t.mono s⟩⟩
def lstA (K : PySem.W.Frag) (as : List AV) : AV := ⟨fun v B => ∃ a xs, v = .ref a ∧ SqL K B a xs ∧ AllA B xs as, fun s ⟨a, xs, e, h, t⟩ => ⟨a, xs, e, s.seq h, t.mono s⟩⟩
theorem tup_dat {K : PySem.W.Frag} {v : V} {B : Hp} {ds : List PyData} (h : (tupA K (ds.map (dat K))).p v B) : (dat K (.tuple ds)).p v B := by
  obtain ⟨a, xs, rfl, h, t⟩ := h
  exact .tup h (allD t)
theorem dat_tup {K : PySem.W.Frag} {v : V} {B : Hp} {ds : List PyData} (h : (dat K (.tuple ds)).p v B) : (tupA K (ds.map (dat K))).p v B := by
  cases h with
  | tup h t => exact ⟨_, _, rfl, h, dAll t⟩
theorem lst_dat {K : PySem.W.Frag} {v : V} {B : Hp} {ds : List PyData} (h : (lstA K (ds.map (dat K))).p v B) : (dat K (.list ds)).p v B := by
  obtain ⟨a, xs, rfl, h, t⟩ := h
  exact .lst h (allD t)
theorem dat_lst {K : PySem.W.Frag} {v : V} {B : Hp} {ds : List PyData} (h : (dat K (.list ds)).p v B) : (lstA K (ds.map (dat K))).p v B := by
  cases h with
  | lst h t => exact ⟨_, _, rfl, h, dAll t⟩
section
variable {K : PySem.W.Frag} {n : Nat} {W : Wo} {E : En}
theorem Ev.of {te : TE} {a b : AV} (h : Ev n W te E (.fz a)) (i : ∀ v B, a.p v B → b.p v B) : Ev n W te E (.fz b) := fun B0 H0 B H σ e Q q => h B0 H0 B H σ e Q fun v B1 H1 x r => q v B1 H1 x (i _ _ r)
theorem ev_var {i : Nat} {a : AV} (h : E i = some (.fz a)) : Ev n W (tVar i) E (.fz a) := fun B0 H0 B H σ e Q q => by
  obtain ⟨v, h1, h2⟩ := e.at_ i _ h
  exact ⟨v, h1, q v B H (.refl e.s) h2⟩
theorem ev_c {v : V} {a : AV} (h : ∀ B, a.p v B) : Ev n W (tC v) E (.fz a) := fun B0 H0 B H σ e Q q => q v B H (.refl e.s) (h B)
theorem ev_str {x : Str} : EvD K n W (tC (.str x)) E (.str x) := ev_c fun _ => .str x
theorem ev_int {x : Int} : EvD K n W (tC (.int x)) E (.int x) := ev_c fun _ => .int x
theorem ev_bl {x : Bool} : EvD K n W (tC (.bl x)) E (.bool x) := ev_c fun _ => .bl x
theorem ev_non : EvD K n W (tC .non) E .none := ev_c fun _ => .non
theorem evA_nil : EvA n W tNil E [] := fun B0 H0 B H σ e Q q => q [] B H (.refl e.s) .nil
theorem evA_cons {te : TE} {ta : TA} {a : AV} {as : List AV} (h : Ev n W te E (.fz a)) (t : EvA n W ta E as) : EvA n W (tCons te ta) E (a :: as) := fun B0 H0 B H σ e Q q =>
  h B0 H0 B H σ e _ fun v B1 H1 x r => t B0 H0 B1 H1 σ (e.ext x) _ fun vs B2 H2 y rs => q (v :: vs) B2 H2 (x.trans y) (.cons (a.mono y.b r) rs)
theorem evAD_nil : EvAD K n W tNil E [] := evA_nil
theorem evAD_cons {te : TE} {ta : TA} {d : PyData} {ds : List PyData} (h : EvD K n W te E d) (t : EvAD K n W ta E ds) : EvAD K n W (tCons te ta) E (d :: ds) := evA_cons h t
theorem Paired.len {α β : Type} {R : α → β → Prop} {l : List α} {m : List β} (h : Paired R l m) : l.length = m.length := Paired.length h
theorem ev_tup {ta : TA} {as : List AV} (h : EvA n W ta E as) (hl : Nat.ble as.length 1000000 = true := by rfl) : Ev n W (tTup ta) E (.fz (tupA K as)) := fun B0 H0 B H σ e Q q =>
  h B0 H0 B H σ e _ fun vs B1 H1 x rs => ⟨small (by rw [Paired.length rs]; exact Nat.le_of_ble_eq_true hl), fun p hp => q _ _ _ (x.trans (.new x.s hp)) ⟨p, vs, rfl, .inl (.inl upd_same), rs.mono (same_upd (x.s.free hp))⟩⟩
theorem ev_tupD {ta : TA} {ds : List PyData} (h : EvAD K n W ta E ds) (hl : Nat.ble ds.length 1000000 = true := by rfl) : EvD K n W (tTup ta) E (.tuple ds) := (ev_tup (K := K) h (by rw [List.length_map]; exact hl)).of fun _ _ => tup_dat
theorem ev_lst {ta : TA} {as : List AV} (h : EvA n W ta E as) (hl : Nat.ble as.length 1000000 = true := by rfl) : Ev n W (tLst ta) E (.own as) := fun B0 H0 B H σ e Q q =>
  h B0 H0 B H σ e _ fun vs B1 H1 x rs => ⟨small (by rw [Paired.length rs]; exact Nat.le_of_ble_eq_true hl), fun p hp => q _ _ _ (x.trans (.own x.s hp)) ⟨p, vs, rfl, x.h.free hp, x.s.free hp, upd_same, rs⟩⟩
theorem ev_lstD {ta : TA} {ds : List PyData} (h : EvAD K n W ta E ds) (hl : Nat.ble ds.length 1000000 = true := by rfl) : Ev n W (tLst ta) E (.own (ds.map (dat K))) := ev_lst h (by rw [List.length_map]; exact hl)
theorem ev_keep {te : TE} {as : List AV} (h : Ev n W te E (.own as)) : Ev n W te E (.fz (lstA K as)) := fun B0 H0 B H σ e Q q =>
  h B0 H0 B H σ e Q fun v B1 H1 x ⟨l, xs, el, nh, nb, eh, r⟩ => q v (upd B1 l (.lst xs)) H1 (x.keep nh eh nb) ⟨l, xs, el, SqL.of upd_same, r.mono (same_upd nb)⟩
theorem ev_keepD {te : TE} {ds : List PyData} (h : Ev n W te E (.own (ds.map (dat K)))) : EvD K n W te E (.list ds) := (ev_keep (K := K) h).of fun _ _ => lst_dat
theorem ev_ifE {tt : TT} {ta tb : TE} {b : Bool} {r : Rs} (h : EvT n W tt E b) (h1 : b = true → Ev n W ta E r) (h2 : b = false → Ev n W tb E r) : Ev n W (tIf tt ta tb) E r := fun B0 H0 B H σ e Q q =>
  h B0 H0 B H σ e _ fun B1 H1 x => by
    cases b with
    | true =>
      rw [if_pos rfl]
      exact h1 rfl B0 H0 B1 H1 σ (e.ext x) Q fun v B2 H2 y r => q v B2 H2 (x.trans y) (Rs.back x.h r)
    | false =>
      rw [if_neg Bool.false_ne_true]
      exact h2 rfl B0 H0 B1 H1 σ (e.ext x) Q fun v B2 H2 y r => q v B2 H2 (x.trans y) (Rs.back x.h r)
/-! #### tests -/
theorem evT_test {te : TE} {b : Bool} (h : EvD K n W te E (.bool b)) : EvT n W (tTest te) E b := fun B0 H0 B H σ e Q q =>
  h B0 H0 B H σ e _ fun v B1 H1 x r => by
    cases r
    exact ⟨b, rfl, q B1 H1 x⟩
theorem evT_b {te : TE} {b : Bool} (h : EvD K n W te E (.bool b)) : EvT n W (tB te) E b := fun B0 H0 B H σ e Q q =>
  h B0 H0 B H σ e _ fun v B1 H1 x r => by
    cases r
    exact ⟨b, rfl, q B1 H1 x⟩
theorem evT_not {t : TT} {b : Bool} (h : EvT n W t E b) : EvT n W (tNot t) E (!b) := fun B0 H0 B H σ e Q q => h B0 H0 B H σ e _ q
theorem evT_and {t u : TT} {b c : Bool} (h : EvT n W t E b) (h2 : b = true → EvT n W u E c) : EvT n W (tAnd t u) E (b && c) := fun B0 H0 B H σ e Q q =>
  h B0 H0 B H σ e _ fun B1 H1 x => by
    cases b with
    | true =>
      rw [if_pos rfl]
      exact h2 rfl B0 H0 B1 H1 σ (e.ext x) Q fun B2 H2 y => q B2 H2 (x.trans y)
    | false =>
      rw [if_neg Bool.false_ne_true]
      exact q B1 H1 x
theorem evT_or {t u : TT} {b c : Bool} (h : EvT n W t E b) (h2 : b = false → EvT n W u E c) : EvT n W (tOr t u) E (b || c) := fun B0 H0 B H σ e Q q =>
  h B0 H0 B H σ e _ fun B1 H1 x => by
    cases b with
    | true =>
      rw [if_pos rfl]
      exact q B1 H1 x
    | false =>
      rw [if_neg Bool.false_ne_true]
      exact h2 rfl B0 H0 B1 H1 σ (e.ext x) Q fun B2 H2 y => q B2 H2 (x.trans y)
/-- an operator on two values -/
theorem ev_op {r : R2} {ta tb : TE} {a b : AV} {c : Rs} (ha : Ev n W ta E (.fz a)) (hb : Ev n W tb E (.fz b)) (h : ∀ v w B H, a.p v B → b.p w B → Same B H → ∀ Q : VK, (∀ u B1 H1, Ext B H B1 H1 → c.at H B1 H1 u → Q u H1) → r v w H Q) : Ev n W (tOp r ta tb) E c := fun B0 H0 B H σ e Q q =>
  ha B0 H0 B H σ e _ fun v B1 H1 x r1 => hb B0 H0 B1 H1 σ (e.ext x) _ fun w B2 H2 y r2 => h v w B2 H2 (a.mono y.b r1) r2 y.s Q fun u B3 H3 z r3 => q u B3 H3 (x.trans (y.trans z)) (Rs.back (x.h.trans y.h) r3)
/-- a built-in function of one value -/
theorem ev_b1 {r : List V → Hp → VK → Prop} {ta : TE} {a : AV} {c : Rs} (ha : Ev n W ta E (.fz a)) (h : ∀ v B H, a.p v B → Same B H → ∀ Q : VK, (∀ u B1 H1, Ext B H B1 H1 → c.at H B1 H1 u → Q u H1) → r [v] H Q) : Ev n W (tCB r (tCons ta tNil)) E c := fun B0 H0 B H σ e Q q =>
  ha B0 H0 B H σ e _ fun v B1 H1 x r1 => h v B1 H1 r1 x.s Q fun u B3 H3 z r3 => q u B3 H3 (x.trans z) (Rs.back x.h r3)
/-! #### statements -/
theorem evs_ret {te : TE} {r : Rs} (h : Ev n W te E r) : EvS n W (tRet te) E (.rt r W) := fun B0 H0 B H σ e D q => h B0 H0 B H σ e _ fun v B1 H1 x c => q v B1 H1 (e.x.trans x) (Rs.back e.x.h c) (e.ext x).w
theorem evs_retOwn {i : Nat} {r : Rs} (h : E i = some r) : EvS n W (tRet (tVar i)) E (.rt r W) := fun B0 H0 B H σ e D q => by
  obtain ⟨v, h1, h2⟩ := e.at_ i _ h
  exact ⟨v, h1, q v B H e.x h2 e.w⟩
theorem evs_set {te : TE} {i : Nat} {r : Rs} (h : Ev n W te E r) (hi : Nat.blt i n = true := by rfl) : EvS n W (tAsg te (gName i)) E (.nx (E.put i r) W) := fun B0 H0 B H σ e D q => h B0 H0 B H σ e _ fun v B1 H1 x c => q _ B1 H1 x.b (e.put x (Nat.blt_eq.mp hi) c)
theorem evs_seq {t u : TS} {E1 : En} {W1 : Wo} {o : Out} (h1 : EvS n W t E (.nx E1 W1)) (h2 : EvS n W1 u E1 o) : EvS n W (tSeq t u) E o := fun B0 H0 B H σ e D q' => h1 B0 H0 B H σ e _ fun σ1 B1 H1 s1 e1 => h2 B0 H0 B1 H1 σ1 e1 D (PostO.up s1 q')
theorem evs_seqR {t u : TS} {r : Rs} {W1 : Wo} (h1 : EvS n W t E (.rt r W1)) : EvS n W (tSeq t u) E (.rt r W1) := fun B0 H0 B H σ e D q => h1 B0 H0 B H σ e _ q
theorem evs_if {tt : TT} {t u : TS} {b : Bool} {o : Out} (h : EvT n W tt E b) (h1 : b = true → EvS n W t E o) (h2 : b = false → EvS n W u E o) : EvS n W (tIfS tt t u) E o := fun B0 H0 B H σ e D q =>
  h B0 H0 B H σ e _ fun B1 H1 x => by
    cases b with
    | true =>
      rw [if_pos rfl]
      exact h1 rfl B0 H0 B1 H1 σ (e.ext x) D (PostO.up x.b q)
    | false =>
      rw [if_neg Bool.false_ne_true]
      exact h2 rfl B0 H0 B1 H1 σ (e.ext x) D (PostO.up x.b q)
theorem evs_next : EvS n W tNext E (.nx E W) := fun B0 H0 B H σ e D q => q σ B H (Same.refl _) e
theorem evs_drop {te : TE} {r : Rs} (h : Ev n W te E r) : EvS n W (tDrop te) E (.nx E W) := fun B0 H0 B H σ e D q => h B0 H0 B H σ e _ fun v B1 H1 x c => q σ B1 H1 x.b (e.ext x)
end
/-! ### promises by data -/
def spA (R : List AV → Rs → Prop) : Sp := fun vs H Q _ => ∃ B as r, Same B H ∧ AllA B vs as ∧ R as r ∧ ∀ v B1 H1, Ext B H B1 H1 → r.at H B1 H1 v → Q v H1
theorem ev_call {R : List AV → Rs → Prop} {n : Nat} {W : Wo} {E : En} {X : XK} {ta : TA} {as : List AV} {r : Rs} (h : EvA n W ta E as) (hr : R as r) : Ev n W (tCall (spA R) [] X ta) E r := fun B0 H0 B H σ e Q q =>
  h B0 H0 B H σ e _ fun vs B1 H1 x rs => ⟨B1, as, r, x.s, by rw [List.append_nil]; exact rs, hr, fun v B2 H2 y c => q v B2 H2 (x.trans y) (Rs.back x.h c)⟩
theorem spA_len {R : List AV → Rs → Prop} {k : Nat} {vs : List V} {H : Hp} {Q : VK} {X : XK} (hl : ∀ as r, R as r → as.length = k) (h : spA R vs H Q X) : vs.length = k := by
  obtain ⟨B, as, r, _, ha, hR, _⟩ := h
  rw [Paired.length ha]
  exact hl as r hR
def env0 (as : List AV) : En := fun i => (as[i]?).map Rs.fz
theorem env_start {as : List AV} {vs : List V} {B H : Hp} {m : Nat} (s : Same B H) (h : AllA B vs as) : Env (vs.length + m) W0 B H B H (vs.map some ++ List.replicate m none) (env0 as) := by
  refine ⟨.refl s, by rw [List.length_append, List.length_map, List.length_replicate], fun i r hr => ?_, fun i j r q l ij h1 o1 h2 o2 => ?_, (fun l o h => nomatch h), fun _ _ _ _ _ _ => rfl⟩
  · unfold env0 at hr
    obtain ⟨a, ha, rfl⟩ := Option.map_eq_some_iff.mp hr
    obtain ⟨v, hv, p⟩ := paired_get' h ha
    refine ⟨v, ?_, p⟩
    rw [List.getElem?_append_left (by rw [List.length_map]; exact (List.getElem?_eq_some_iff.mp hv).1), List.getElem?_map, hv]
    rfl
  · unfold env0 at h1
    obtain ⟨a, _, rfl⟩ := Option.map_eq_some_iff.mp h1
    cases o1
end Cs
namespace Cs
open PySem PySem.Spec L2
/-! ## targets, comprehensions, loops -/
theorem wipe_get (σ : L2.St) : ∀ (vs : List Nat) (j : Nat), (wipe σ vs)[j]? = if j ∈ vs then (σ[j]?).map (fun _ => none) else σ[j]?
  | [], j => by rw [if_neg (by simp)]; rfl
  | v :: vs, j => by
    unfold wipe
    by_cases h : v = j
    · subst h
      rw [if_pos List.mem_cons_self, List.getElem?_set, if_pos rfl, wipe_length]
      by_cases l : v < σ.length
      · rw [if_pos l, List.getElem?_eq_getElem l]; rfl
      · rw [if_neg l, List.getElem?_eq_none (by omega)]; rfl
    · rw [List.getElem?_set_ne h, wipe_get σ vs j]
      by_cases m : j ∈ vs
      · rw [if_pos m, if_pos (List.mem_cons_of_mem _ m)]
      · rw [if_neg m, if_neg (fun z => by rcases List.mem_cons.mp z with z | z; exact h z.symm; exact m z)]
theorem wipe_set {σ : L2.St} {vs : List Nat} {k : Nat} {x : Option V} (h : k ∈ vs) : wipe (σ.set k x) vs = wipe σ vs := by
  refine List.ext_getElem? fun j => ?_
  rw [wipe_get, wipe_get]
  by_cases m : j ∈ vs
  · rw [if_pos m, if_pos m]
    by_cases e : k = j
    · subst e
      rw [List.getElem?_set, if_pos rfl]
      by_cases l : k < σ.length
      · rw [if_pos l, List.getElem?_eq_getElem l]; rfl
      · rw [if_neg l, List.getElem?_eq_none (by omega)]
    · rw [List.getElem?_set_ne e]
  · rw [if_neg m, if_neg m, List.getElem?_set_ne (fun z => m (by rw [← z]; exact h))]
theorem wipe_wipe {σ : L2.St} {vs : List Nat} : wipe (wipe σ vs) vs = wipe σ vs := by
  refine List.ext_getElem? fun j => ?_
  rw [wipe_get, wipe_get]
  by_cases m : j ∈ vs
  · rw [if_pos m, if_pos m, Option.map_map]; rfl
  · rw [if_neg m, if_neg m]
theorem Env.wipe {n : Nat} {W : Wo} {B0 H0 B H : Hp} {σ : L2.St} {E : En} (e : Env n W B0 H0 B H σ E) (vs : List Nat) : Env n W B0 H0 B H (wipe σ vs) (E.cut vs) := by
  have look : ∀ i r, E.cut vs i = some r → i ∉ vs ∧ E i = some r := fun i r h => by
    unfold En.cut at h
    by_cases m : i ∈ vs
    · rw [if_pos m] at h; cases h
    · rw [if_neg m] at h; exact ⟨m, h⟩
  refine ⟨e.x, by rw [wipe_length]; exact e.len, fun i r h => ?_, fun i j r q l ij h1 o1 h2 o2 => ?_, e.w, fun i r l h o hl => ?_⟩
  · obtain ⟨m, h⟩ := look i r h
    obtain ⟨v, a, b⟩ := e.at_ i r h
    exact ⟨v, by rw [wipe_get, if_neg m]; exact a, b⟩
  · obtain ⟨m1, h1⟩ := look i r h1
    obtain ⟨m2, h2⟩ := look j q h2
    rw [wipe_get, wipe_get, if_neg m1, if_neg m2]
    exact e.ne i j r q l ij h1 o1 h2 o2
  · obtain ⟨m, h⟩ := look i r h
    rw [wipe_get, if_neg m] at hl
    exact e.wn i r l h o hl
/-- less is known -/
theorem Env.weak {n : Nat} {W : Wo} {B0 H0 B H : Hp} {σ : L2.St} {E E1 : En} (e : Env n W B0 H0 B H σ E) (h : ∀ i r, E1 i = some r → E i = some r) : Env n W B0 H0 B H σ E1 :=
  ⟨e.x, e.len, fun i r h1 => e.at_ i r (h i r h1), fun i j r q l ij h1 o1 h2 o2 => e.ne i j r q l ij (h i r h1) o1 (h j q h2) o2, e.w, fun i r l h1 o hl => e.wn i r l (h i r h1) o hl⟩
def envL (l : List (Option Rs)) : En := fun i => (l[i]?).join
def Sub : List (Option Rs) → Nat → En → Prop
  | [], _, _ => True
  | none :: l, k, E => Sub l (k + 1) E
  | some r :: l, k, E => E k = some r ∧ Sub l (k + 1) E
theorem Sub.ok {E : En} : ∀ {l : List (Option Rs)} {k : Nat}, Sub l k E → ∀ (i : Nat) r, (l[i]?).join = some r → E (k + i) = some r
  | [], k, _, i, r, h => by simp at h
  | none :: l, k, s, 0, r, h => by cases h
  | none :: l, k, s, i + 1, r, h => by
    have := Sub.ok (l := l) (k := k + 1) s i r h
    rw [show k + (i + 1) = k + 1 + i by omega]
    exact this
  | some q :: l, k, s, 0, r, h => by
    cases h
    exact s.1
  | some q :: l, k, s, i + 1, r, h => by
    have := Sub.ok (l := l) (k := k + 1) s.2 i r h
    rw [show k + (i + 1) = k + 1 + i by omega]
    exact this
theorem sub_env {E : En} {l : List (Option Rs)} (s : Sub l 0 E) : ∀ i r, envL l i = some r → E i = some r := fun i r h => by
  have := Sub.ok s i r h
  rw [Nat.zero_add] at this
  exact this
section
variable {K : PySem.W.Frag} {n : Nat} {W : Wo} {E : En}
theorem evs_norm {ts : TS} {o : Out} (l : List (Option Rs)) (s : Sub l 0 E) (h : EvS n W ts (envL l) o) : EvS n W ts E o := fun B0 H0 B H σ e D q => h B0 H0 B H σ (e.weak (sub_env s)) D q
theorem evs_weak {ts : TS} {E1 E2 : En} {W1 : Wo} (h : EvS n W ts E (.nx E1 W1)) (s : ∀ i r, E2 i = some r → E1 i = some r) : EvS n W ts E (.nx E2 W1) := fun B0 H0 B H σ e D q => h B0 H0 B H σ e D fun σ1 B1 H1 s1 e1 => q σ1 B1 H1 s1 (e1.weak s)
theorem evs_to {ts : TS} {E1 : En} {W1 : Wo} (l : List (Option Rs)) (h : EvS n W ts E (.nx E1 W1)) (s : Sub l 0 E1) : EvS n W ts E (.nx (envL l) W1) := evs_weak h (sub_env s)
/-- a target that a value is put into -/
def EvG (n : Nat) (W : Wo) (vs : List Nat) (g : TG) (E : En) (r : Rs) (E1 : En) : Prop := ∀ B0 H0 B H B1 H1 σ v, Env n W B0 H0 B H σ E → Ext B H B1 H1 → r.at H B1 H1 v → ∀ Q : L2.St → Hp → Prop, (∀ σ1, Env n W B0 H0 B1 H1 σ1 E1 → L2.wipe σ1 vs = L2.wipe σ vs → Q σ1 H1) → g v σ H1 Q
theorem evg_name {vs : List Nat} {i : Nat} {r : Rs} (hv : i ∈ vs := by decide) (hi : Nat.blt i n = true := by rfl) : EvG n W vs (gName i) E r (E.put i r) := fun B0 H0 B H B1 H1 σ v e x c Q q => q _ (e.put x (Nat.blt_eq.mp hi) c) (wipe_set hv)
/-- targets for the items of a tuple, in turn -/
inductive EvGs (n : Nat) (W : Wo) (vs : List Nat) : TGs → En → List AV → En → Prop
  | nil {E : En} : EvGs n W vs gNil E [] E
  | cons {g : TG} {u : TGs} {E E1 E2 : En} {a : AV} {as : List AV} : EvG n W vs g E (.fz a) E1 → EvGs n W vs u E1 as E2 → EvGs n W vs (gCons g u) E (a :: as) E2
theorem evgs_run {vs : List Nat} {u : TGs} {E E2 : En} {as : List AV} (h : EvGs n W vs u E as E2) : ∀ B0 H0 B H σ xs, Env n W B0 H0 B H σ E → AllA B xs as → ∀ Q : L2.St → Hp → Prop, (∀ σ1, Env n W B0 H0 B H σ1 E2 → L2.wipe σ1 vs = L2.wipe σ vs → Q σ1 H) → u xs σ H Q := by
  induction h with
  | nil =>
    intro B0 H0 B H σ xs e ha Q q
    cases ha
    exact ⟨rfl, q σ e rfl⟩
  | cons hg _ ih =>
    intro B0 H0 B H σ xs e ha Q q
    cases ha with
    | cons a t =>
      refine ⟨_, _, rfl, hg B0 H0 B H B H σ _ e (.refl e.s) a _ fun σ1 e1 w1 => ?_⟩
      exact ih B0 H0 B H σ1 _ e1 t Q fun σ2 e2 w2 => q σ2 e2 (w2.trans w1)
theorem evg_tup {vs : List Nat} {k : Nat} {u : TGs} {as : List AV} {E1 : En} (h : EvGs n W vs u E as E1) (hk : as.length = k := by rfl) : EvG n W vs (gTup K k u) E (.fz (tupA K as)) E1 := fun B0 H0 B H B1 H1 σ v e x c Q q => by
  obtain ⟨a, xs, rfl, hs, ha⟩ := c
  exact ⟨a, xs, rfl, Same.tup x.s hs, by rw [Paired.length ha]; exact hk, evgs_run h B0 H0 B1 H1 σ xs (e.ext x) ha Q q⟩
theorem evg_of {vs : List Nat} {g : TG} {a b : AV} {E1 : En} (h : EvG n W vs g E (.fz b) E1) (i : ∀ v B, a.p v B → b.p v B) : EvG n W vs g E (.fz a) E1 := fun B0 H0 B H B1 H1 σ v e x c Q q => h B0 H0 B H B1 H1 σ v e x (i _ _ c) Q q
theorem evg_tupD {vs : List Nat} {k : Nat} {u : TGs} {ds : List PyData} {E1 : En} (h : EvGs n W vs u E (ds.map (dat K)) E1) (hk : ds.length = k := by rfl) : EvG n W vs (gTup K k u) E (.fz (dat K (.tuple ds))) E1 := evg_of (evg_tup (K := K) h (by rw [List.length_map]; exact hk)) fun _ _ => dat_tup
theorem evs_asg {vs : List Nat} {te : TE} {g : TG} {r : Rs} {E1 : En} (h : Ev n W te E r) (hg : EvG n W vs g E r E1) : EvS n W (tAsg te g) E (.nx E1 W) := fun B0 H0 B H σ e D q => h B0 H0 B H σ e _ fun v B1 H1 x c => hg B0 H0 B H B1 H1 σ v e x c _ fun σ1 e1 _ => q σ1 B1 H1 x.b e1
/-! ### what is gone through -/
structure Iter (J : It) (as : List AV) (B1 : Hp) : Prop where
  w : Walk J as.length (fun H => Same B1 H) (fun i H x H' => ∀ B, Same B1 B → Same B H → ∃ B' a, Ext B H B' H' ∧ as[i]? = some a ∧ a.p x B')
def EvI (n : Nat) (W : Wo) (wi : TI) (E : En) (as : List AV) : Prop := ∀ B0 H0 B H σ, Env n W B0 H0 B H σ E → ∀ R : It → Hp → Prop, (∀ J B1 H1, Ext B H B1 H1 → Iter J as B1 → R J H1) → wi σ H R
theorem iter_tup {B : Hp} {a : Addr} {xs : List V} {as : List AV} (h : SqT K B a xs) (ha : AllA B xs as) : Iter (Itt K a) as B := ⟨by
  rw [← Paired.length ha]
  refine (walk_tup (K := K) (a := a) (xs := xs)).mono (fun H s => Same.tup s h) fun i H x H' _ _ ⟨e, hx⟩ B2 s1 s2 => ?_
  subst e
  obtain ⟨y, hy, p⟩ := paired_get ha hx
  exact ⟨B2, y, .refl s2, hy, y.mono s1 p⟩⟩
theorem iter_lst {B : Hp} {a : Addr} {xs : List V} {as : List AV} (h : SqL K B a xs) (ha : AllA B xs as) : Iter (Itl K a) as B := ⟨by
  rw [← Paired.length ha]
  refine (walk_list (K := K) (a := a) (xs := xs)).mono (fun H s => s.seq h) fun i H x H' _ _ ⟨e, hx⟩ B2 s1 s2 => ?_
  subst e
  obtain ⟨y, hy, p⟩ := paired_get ha hx
  exact ⟨B2, y, .refl s2, hy, y.mono s1 p⟩⟩
theorem evi_tup {te : TE} {as : List AV} (h : Ev n W te E (.fz (tupA K as))) : EvI n W (iTup K te) E as := fun B0 H0 B H σ e R q => h B0 H0 B H σ e _ fun v B1 H1 x ⟨a, xs, ev, hs, ha⟩ => ⟨a, ev, ⟨xs, Same.tup x.s hs⟩, q _ B1 H1 x (iter_tup hs ha)⟩
theorem evi_tupD {te : TE} {ds : List PyData} (h : EvD K n W te E (.tuple ds)) : EvI n W (iTup K te) E (ds.map (dat K)) := evi_tup (h.of fun _ _ => dat_tup)
theorem evi_lst {te : TE} {as : List AV} (h : Ev n W te E (.fz (lstA K as))) : EvI n W (iList K te) E as := fun B0 H0 B H σ e R q => h B0 H0 B H σ e _ fun v B1 H1 x ⟨a, xs, ev, hs, ha⟩ => ⟨a, ev, ⟨xs, x.s.seq hs⟩, q _ B1 H1 x (iter_lst hs ha)⟩
theorem evi_lstD {te : TE} {ds : List PyData} (h : EvD K n W te E (.list ds)) : EvI n W (iList K te) E (ds.map (dat K)) := evi_lst (h.of fun _ _ => dat_lst)
theorem evi_own {te : TE} {as : List AV} (h : Ev n W te E (.own as)) : EvI n W (iList K te) E as := evi_lst (ev_keep h)
theorem iter_rng {B : Hp} {m : Nat} : Iter (Itr 0 m) ((List.range m).map fun i : Nat => dat K (.int (i : Int))) B := ⟨by
  rw [List.length_map, List.length_range]
  refine (walk_range (lo := 0) (n := m)).mono (fun H s => True.intro) fun i H x H' hi _ ⟨e, hx⟩ B2 s1 s2 => ?_
  subst e
  refine ⟨B2, _, .refl s2, by rw [List.getElem?_map, List.getElem?_range hi]; rfl, ?_⟩
  rw [hx]
  show Dp K B2 (.int (0 + (i : Nat))) (.int (i : Int))
  rw [Int.zero_add]
  exact .int _⟩
theorem evi_rng1 {te : TE} {m : Nat} (h : EvD K n W te E (.int (m : Int))) (hm : m ≤ 1000000) : EvI n W (iRng1 (tCons te tNil)) E ((List.range m).map fun i : Nat => dat K (.int (i : Int))) := fun B0 H0 B H σ e R q => h B0 H0 B H σ e _ fun v B1 H1 x c => by
  cases c
  exact ⟨_, rfl, by omega, by omega, q _ B1 H1 x iter_rng⟩
/-- for -/
theorem evs_forW {vs : List Nat} {wi : TI} {g : TG} {tb : TS} {as : List AV} (inv : Nat → En) (Wv : Nat → Wo) (hi : EvI n W wi E as) (hW : Wv 0 = W) (h0 : ∀ i r, inv 0 i = some r → E i = some r)
    (step : ∀ i a, as[i]? = some a → ∃ E1, EvG n (Wv i) vs g (inv i) (.fz a) E1 ∧ EvS n (Wv i) tb E1 (.nx (inv (i + 1)) (Wv (i + 1)))) : EvS n W (tFor wi g tb) E (.nx (inv as.length) (Wv as.length)) := fun B0 H0 B H σ e D q =>
  hi B0 H0 B H σ e _ fun J B1 H1 x it => by
    refine for_it it.w (fun i σ H => ∃ B, Env n (Wv i) B0 H0 B H σ (inv i) ∧ Same B1 B) ⟨B1, by rw [hW]; exact (e.ext x).weak h0, Same.refl _⟩ (fun i σ H _ ⟨B, e, s⟩ => s.trans e.s) ?_ fun σ H ⟨B2, e, s⟩ => q σ B2 H (x.b.trans s) e
    rintro i v σ2 H2 H3 hi ⟨B2, e2, s2⟩ hy
    obtain ⟨B3, a, x3, ha, p⟩ := hy B2 s2 e2.s
    obtain ⟨E1, hg, hb⟩ := step i a ha
    exact hg B0 H0 B2 H2 B3 H3 σ2 v e2 x3 p _ fun σ4 e4 _ => hb B0 H0 B3 H3 σ4 e4 _ fun σ5 B5 H5 s5 e5 => ⟨B5, e5, s2.trans (x3.b.trans s5)⟩
theorem evs_for {vs : List Nat} {wi : TI} {g : TG} {tb : TS} {as : List AV} (inv : Nat → En) (hi : EvI n W wi E as) (h0 : ∀ i r, inv 0 i = some r → E i = some r)
    (step : ∀ i a, as[i]? = some a → ∃ E1, EvG n W vs g (inv i) (.fz a) E1 ∧ EvS n W tb E1 (.nx (inv (i + 1)) W)) : EvS n W (tFor wi g tb) E (.nx (inv as.length) W) := evs_forW inv (fun _ => W) hi rfl h0 step
end
end Cs
namespace Cs
open PySem PySem.Spec L2
/-! ## comprehensions, while, what is put and taken -/
section
variable {K : PySem.W.Frag} {n : Nat} {W : Wo} {E : En}
theorem allA_append {B : Hp} : ∀ {xs ys : List V} {as bs : List AV}, AllA B xs as → AllA B ys bs → AllA B (xs ++ ys) (as ++ bs) := fun h t => paired_append h t
theorem new_append {B1 H1 B H : Hp} {D : Addr} {o : HO} (x : Ext B1 H1 B H) (n : H1 D = none) (nb : B D = none) : Ext B1 H1 B (upd H D o) :=
  ⟨x.b, Same.old x.h n, Same.old x.s nb, x.f⟩
/-- [te for g in wi if tt]: what is told is filtered by c -/
theorem ev_lcF {vs : List Nat} {wi : TI} {g : TG} {tt : TT} {te : TE} {as : List AV} (f : Nat → AV) (c : Nat → Bool) (hi : EvI n W wi E as) (hl : as.length ≤ 1000000)
    (step : ∀ i a, as[i]? = some a → ∃ E1, EvG n W vs g (E.cut vs) (.fz a) E1 ∧ EvT n W tt E1 (c i) ∧ (c i = true → Ev n W te E1 (.fz (f i)))) : Ev n W (tLc wi g tt te vs) E (.own (((List.range as.length).filter c).map f)) := fun B0 H0 B H σ e Q q =>
  hi B0 H0 B H σ e _ fun J B1 H1 x it D hD => by
    have nB : B1 D = none := x.s.free hD
    have e1 := e.ext x
    refine walk_by (Step := fun x H' N1 => g x (wipe σ vs) H' fun σ2 H2 => wipe σ2 vs = wipe σ vs ∧ tt σ2 H2 fun b H3 => if b = true then te σ2 H3 fun y H4 => ∃ acc, H4 D = some (.lst acc) ∧ acc.length < sizeLine ∧ N1 (upd H4 D (.lst (acc ++ [y]))) else N1 H3) it.w
      (fun i H => ∃ B acc, Ext B1 H1 B H ∧ B D = none ∧ H D = some (.lst acc) ∧ acc.length ≤ i ∧ AllA B acc (((List.range i).filter c).map f)) ⟨B1, [], .own x.s hD, nB, upd_same, Nat.zero_le _, .nil⟩ (fun i H _ ⟨B, _, x2, _⟩ => x2.b.trans x2.s) ?_ ?_
    · rintro i v H2 H3 hlt ⟨B2, acc, x2, nD, eD, la, hacc⟩ hy
      obtain ⟨B3, a, x3, ha, p⟩ := hy B2 x2.b x2.s
      obtain ⟨E1, hg, ht, he⟩ := step i a ha
      have nD3 : B3 D = none := x3.f _ nD (some_ne eD)
      refine hg B0 H0 B2 H2 B3 H3 (wipe σ vs) v ((e1.ext x2).wipe vs) x3 p _ fun σ4 e4 w4 => ⟨w4.trans wipe_wipe, ?_⟩
      refine ht B0 H0 B3 H3 σ4 e4 _ fun B4 H4 x4 => ?_
      have hr : (List.range (i + 1)).filter c = (List.range i).filter c ++ if c i = true then [i] else [] := by
        rw [List.range_succ, List.filter_append]
        by_cases h : c i = true
        · rw [if_pos h, List.filter_cons_of_pos h]; rfl
        · rw [if_neg h, List.filter_cons_of_neg h]; rfl
      have x24 := x2.trans (x3.trans x4)
      have eD4 := (x3.trans x4).h _ _ eD
      have nD4 := x4.f _ nD3 (some_ne (x3.h _ _ eD))
      by_cases hc : c i = true
      · rw [if_pos hc]
        refine he hc B0 H0 B4 H4 σ4 (e4.ext x4) _ fun y B5 H5 x5 hy5 => ?_
        have x25 := x24.trans x5
        have eD5 := x5.h _ _ eD4
        have nD5 := x5.f _ nD4 (some_ne eD4)
        refine ⟨acc, eD5, smaller (by omega), B5, acc ++ [y], new_append x25 hD nD5, nD5, upd_same, by rw [List.length_append]; show acc.length + 1 ≤ _; omega, ?_⟩
        rw [hr, if_pos hc, List.map_append]
        exact allA_append (hacc.mono ((x3.trans x4).b.trans x5.b)) (.cons hy5 .nil)
      · rw [if_neg hc]
        refine ⟨B4, acc, x24, nD4, eD4, by omega, ?_⟩
        rw [hr, if_neg hc, List.append_nil]
        exact hacc.mono (x3.trans x4).b
    · rintro H2 ⟨B2, acc, x2, nD, eD, la, hacc⟩
      exact q (.ref D) B2 H2 (x.trans x2) ⟨D, acc, rfl, x.h.free hD, nD, eD, hacc⟩
theorem evT_yes : EvT n W tYes E true := fun B0 H0 B H σ e Q q => q B H (.refl e.s)
theorem ev_lc {vs : List Nat} {wi : TI} {g : TG} {te : TE} {as : List AV} (f : Nat → AV) (hi : EvI n W wi E as) (hl : as.length ≤ 1000000)
    (step : ∀ i a, as[i]? = some a → ∃ E1, EvG n W vs g (E.cut vs) (.fz a) E1 ∧ Ev n W te E1 (.fz (f i))) : Ev n W (tLc wi g tYes te vs) E (.own ((List.range as.length).map f)) := by
  have := ev_lcF (tt := tYes) f (fun _ => true) hi hl (fun i a h => let ⟨E1, a, b⟩ := step i a h; ⟨E1, a, evT_yes, fun _ => b⟩)
  rw [List.filter_eq_self.mpr (fun _ _ => rfl)] at this
  exact this
theorem Ev.cong {te : TE} {r q : Rs} (h : Ev n W te E r) (e : r = q) : Ev n W te E q := by rw [← e]; exact h
theorem map_range_get {α β : Type} (f : α → β) (d : α) : ∀ l : List α, (List.range l.length).map (fun i => f (l.getD i d)) = l.map f := fun l => by
  refine List.ext_getElem? fun i => ?_
  rw [List.getElem?_map, List.getElem?_map]
  by_cases h : i < l.length
  · rw [List.getElem?_range h, List.getElem?_eq_getElem h]
    show some (f (l.getD i d)) = some (f l[i])
    rw [List.getD_eq_getElem?_getD, List.getElem?_eq_getElem h]
    rfl
  · rw [List.getElem?_eq_none (by rw [List.length_range]; omega), List.getElem?_eq_none (by omega)]
    rfl
/-- .. for what is gone through by data: each item of ls by a, told by b -/
theorem ev_lcM {α : Type} {vs : List Nat} {wi : TI} {g : TG} {te : TE} {ls : List α} (a b : α → AV) (hi : EvI n W wi E (ls.map a)) (hl : ls.length ≤ 1000000)
    (step : ∀ x ∈ ls, ∃ E1, EvG n W vs g (E.cut vs) (.fz (a x)) E1 ∧ Ev n W te E1 (.fz (b x))) : Ev n W (tLc wi g tYes te vs) E (.own (ls.map b)) := by
  cases hls : ls with
  | nil =>
    rw [hls] at hi
    exact ev_lc (as := []) (fun _ => ⟨fun _ _ => True, fun _ _ => True.intro⟩) hi (Nat.zero_le _) (fun i x h => by simp at h)
  | cons z zs =>
    have h := ev_lc (as := ls.map a) (fun i => b (ls.getD i z)) hi (by rw [List.length_map]; exact hl) (fun i x h => by
      rw [List.getElem?_map] at h
      obtain ⟨y, hy, rfl⟩ := Option.map_eq_some_iff.mp h
      obtain ⟨E1, p, q⟩ := step y (List.mem_of_getElem? hy)
      refine ⟨E1, p, ?_⟩
      rw [List.getD_eq_getElem?_getD, hy]
      exact q)
    rw [List.length_map, map_range_get b z ls, hls] at h
    exact h
theorem ev_lcP {vs : List Nat} {wi : TI} {g : TG} {te : TE} {as bs : List AV} (hi : EvI n W wi E as) (hl : as.length ≤ 1000000) (he : bs.length = as.length)
    (step : ∀ (i : Nat) (a b : AV), as[i]? = some a → bs[i]? = some b → ∃ E1, EvG n W vs g (E.cut vs) (.fz a) E1 ∧ Ev n W te E1 (.fz b)) : Ev n W (tLc wi g tYes te vs) E (.own bs) := by
  have h := ev_lc (fun i => bs.getD i ⟨fun _ _ => True, fun _ _ => True.intro⟩) hi hl (fun i a ha => by
    have hb : i < bs.length := by rw [he]; exact (List.getElem?_eq_some_iff.mp ha).1
    obtain ⟨E1, p, q⟩ := step i a bs[i] ha (List.getElem?_eq_getElem hb)
    refine ⟨E1, p, ?_⟩
    rw [List.getD_eq_getElem?_getD, List.getElem?_eq_getElem hb]
    exact q)
  rw [← he] at h
  refine h.cong (congrArg Rs.own ?_)
  refine List.ext_getElem? fun i => ?_
  rw [List.getElem?_map]
  by_cases hb : i < bs.length
  · rw [List.getElem?_range hb, List.getElem?_eq_getElem hb]
    show some (bs.getD i _) = some bs[i]
    rw [List.getD_eq_getElem?_getD, List.getElem?_eq_getElem hb]
    rfl
  · rw [List.getElem?_eq_none (by rw [List.length_range]; omega), List.getElem?_eq_none (by omega)]
    rfl
/-- while: by a state of one's own that falls -/
theorem evs_whileW {G : Type} (Eg : G → En) (Wg : G → Wo) (m : G → Nat) (g0 : G) {c : TT} {tb : TS} {E1 : En} {W1 : Wo} (hW : Wg g0 = W) (h0 : ∀ i r, Eg g0 i = some r → E i = some r)
    (step : ∀ g, ∃ b, EvT n (Wg g) c (Eg g) b ∧ (b = true → ∃ g', m g' < m g ∧ EvS n (Wg g) tb (Eg g) (.nx (Eg g') (Wg g'))) ∧ (b = false → (∀ i r, E1 i = some r → Eg g i = some r) ∧ Wg g = W1)) : EvS n W (tWhile c tb) E (.nx E1 W1) := fun B0 H0 B H σ e D q => by
  refine ⟨fun k σ H2 => ∃ g B2, k = m g ∧ Same B B2 ∧ Env n (Wg g) B0 H0 B2 H2 σ (Eg g), ⟨_, g0, B, rfl, Same.refl _, by rw [hW]; exact e.weak h0⟩, ?_⟩
  rintro k σ2 H2 ⟨g, B2, rfl, s2, e2⟩
  obtain ⟨b, hc, h1, h2⟩ := step g
  refine hc B0 H0 B2 H2 σ2 e2 _ fun B3 H3 x3 => ?_
  cases b with
  | true =>
    rw [if_pos rfl]
    obtain ⟨g', hm, hb⟩ := h1 rfl
    refine ⟨fun σ' H' => ∃ B', Same B B' ∧ Env n (Wg g') B0 H0 B' H' σ' (Eg g'), fun σ' H' ⟨B', s', e'⟩ => ⟨_, hm, g', B', rfl, s', e'⟩, ?_⟩
    exact hb B0 H0 B3 H3 σ2 (e2.ext x3) _ fun σ4 B4 H4 s4 e4 => ⟨B4, (s2.trans x3.b).trans s4, e4⟩
  | false =>
    rw [if_neg Bool.false_ne_true]
    obtain ⟨h3, h4⟩ := h2 rfl
    have e3 := (e2.ext x3).weak h3
    rw [h4] at e3
    exact q σ2 B3 H3 (s2.trans x3.b) e3
theorem evs_while {G : Type} (Eg : G → En) (m : G → Nat) (g0 : G) {c : TT} {tb : TS} {E1 : En} (h0 : ∀ i r, Eg g0 i = some r → E i = some r)
    (step : ∀ g, ∃ b, EvT n W c (Eg g) b ∧ (b = true → ∃ g', m g' < m g ∧ EvS n W tb (Eg g) (.nx (Eg g') W)) ∧ (b = false → ∀ i r, E1 i = some r → Eg g i = some r)) : EvS n W (tWhile c tb) E (.nx E1 W) :=
  evs_whileW Eg (fun _ => W) m g0 rfl h0 fun g => let ⟨b, h1, h2, h3⟩ := step g; ⟨b, h1, h2, fun z => ⟨h3 z, rfl⟩⟩
/-- what is owned at slot i is another list now -/
theorem Env.mut {B0 H0 B H : Hp} {σ : L2.St} {i : Nat} {r q : Rs} {l : Addr} {o : HO} (e : Env n W B0 H0 B H σ E) (hr : E i = some r) (ho : r.isOwn = true) (hl : σ[i]? = some (some (.ref l))) (hq : q.isOwn = true) (hn : q.at H0 B (upd H l o) (.ref l)) : Env n W B0 H0 B (upd H l o) σ (E.put i q) := by
  obtain ⟨v, h1, h2⟩ := e.at_ i r hr
  rw [hl] at h1
  cases h1
  obtain ⟨l2, o2, z, n0, nB, eH⟩ := Rs.ownRef ho h2
  cases z
  have hx : Ext B0 H0 B (upd H l o) := new_append e.x n0 nB
  have wl := e.wn i r l hr ho hl
  refine ⟨hx, e.len, fun j p hj => ?_, fun j k p1 p2 m jk h1 o1 h2 o2 => ?_, fun m ob hm => ?_, fun j p m hj oj hm => ?_⟩
  · unfold En.put at hj
    by_cases c : j = i
    · rw [if_pos c] at hj
      cases hj
      exact ⟨_, by rw [c]; exact hl, hn⟩
    · rw [if_neg c] at hj
      obtain ⟨u, a, b⟩ := e.at_ j p hj
      refine ⟨u, a, ?_⟩
      cases p with
      | fz a => exact b
      | own as =>
        obtain ⟨m, xs, eu, n1, nb1, eh1, ha⟩ := b
        refine ⟨m, xs, eu, n1, nb1, ?_, ha⟩
        rw [upd_ne (fun z => ?_)]
        · exact eh1
        · rw [eu, z] at a
          exact e.ne j i _ _ l c hj rfl hr ho a hl
      | ownd as =>
        obtain ⟨m, xs, eu, n1, nb1, eh1, ha⟩ := b
        refine ⟨m, xs, eu, n1, nb1, ?_, ha⟩
        rw [upd_ne (fun z => ?_)]
        · exact eh1
        · rw [eu, z] at a
          exact e.ne j i _ _ l c hj rfl hr ho a hl
  · have look : ∀ m q2, (E.put i q) m = some q2 → ∃ q3, E m = some q3 ∧ (q2.isOwn = true → q3.isOwn = true) := fun m q2 hm => by
      unfold En.put at hm
      by_cases c : m = i
      · rw [if_pos c] at hm
        cases hm
        exact ⟨r, by rw [c]; exact hr, fun _ => ho⟩
      · rw [if_neg c] at hm
        exact ⟨q2, hm, id⟩
    obtain ⟨q1, g1, k1⟩ := look j p1 h1
    obtain ⟨q2, g2, k2⟩ := look k p2 h2
    exact e.ne j k q1 q2 m jk g1 (k1 o1) g2 (k2 o2)
  · obtain ⟨a, b, c⟩ := e.w m ob hm
    refine ⟨a, b, Ob.move (Same.refl _) (fun u hu => ?_) c⟩
    rw [upd_ne (fun z => by rw [z, wl] at hm; cases hm)]
    exact hu
  · unfold En.put at hj
    by_cases c : j = i
    · rw [c, hl] at hm
      cases hm
      exact wl
    · rw [if_neg c] at hj
      exact e.wn j p m hj oj hm
/-- found.append(e) -/
theorem evs_append {i : Nat} {te : TE} {as : List AV} {a : AV} (hr : E i = some (.own as)) (h : Ev n W te E (.fz a)) (hl : as.length < 1000000) : EvS n W (tDrop (tBM K "list" rAppend (tVar i) (tCons te tNil))) E (.nx (E.put i (.own (as ++ [a]))) W) := fun B0 H0 B H σ e D q => by
  obtain ⟨v, h1, l, xs, rfl, n0, nB, eH, ha⟩ := e.at_ i _ hr
  refine ⟨_, h1, .inl ⟨rfl, _, SqL.of eH⟩, h B0 H0 B H σ e _ fun y B1 H1 x c => ?_⟩
  have e1 := e.ext x
  have eH1 := x.h _ _ eH
  refine ⟨l, xs, y, rfl, rfl, eH1, smaller (by rw [Paired.length ha]; omega), ?_⟩
  exact q σ B1 _ x.b (e1.mut hr rfl h1 rfl ⟨l, xs ++ [y], rfl, n0, x.f _ nB (some_ne eH), upd_same, allA_append (ha.mono x.b) (.cons c .nil)⟩)
/-- found.extend([..]) -/
theorem evs_extend {i : Nat} {te : TE} {as bs : List AV} (hr : E i = some (.own as)) (h : Ev n W te E (.own bs)) (hl : as.length + bs.length ≤ 1000000) : EvS n W (tDrop (tBM K "list" rExtend (tVar i) (tCons te tNil))) E (.nx (E.put i (.own (as ++ bs))) W) := fun B0 H0 B H σ e D q => by
  obtain ⟨v, h1, l, xs, rfl, n0, nB, eH, ha⟩ := e.at_ i _ hr
  refine ⟨_, h1, .inl ⟨rfl, _, SqL.of eH⟩, h B0 H0 B H σ e _ fun y B1 H1 x ⟨l2, ys, ey, n2, nb2, eh2, hb⟩ => ?_⟩
  have e1 := e.ext x
  have eH1 := x.h _ _ eH
  refine ⟨l, l2, xs, ys, rfl, by rw [ey], eH1, eh2, small (by rw [Paired.length ha, Paired.length hb]; exact hl), ?_⟩
  exact q σ B1 _ x.b (e1.mut hr rfl h1 rfl ⟨l, xs ++ ys, rfl, n0, x.f _ nB (some_ne eH), upd_same, allA_append (ha.mono x.b) hb⟩)
/-- target = waiting.pop() -/
theorem evs_pop {vs : List Nat} {i : Nat} {g : TG} {as : List AV} {a : AV} {E1 : En} (hr : E i = some (.own (as ++ [a]))) (hg : EvG n W vs g (E.put i (.own as)) (.fz a) E1) : EvS n W (tAsg (tBM0 K "list" rPop (tVar i)) g) E (.nx E1 W) := fun B0 H0 B H σ e D q => by
  obtain ⟨v, h1, l, xs, rfl, n0, nB, eH, ha⟩ := e.at_ i _ hr
  obtain ⟨xs1, x, rfl, ha1, hx⟩ : ∃ xs1 x, xs = xs1 ++ [x] ∧ AllA B xs1 as ∧ a.p x B := by
    have hrev := paired_reverse ha
    rw [List.reverse_append, List.reverse_singleton, List.singleton_append] at hrev
    cases hx : xs.reverse with
    | nil => rw [hx] at hrev; cases hrev
    | cons y ys =>
      rw [hx] at hrev
      cases hrev with
      | cons p t =>
        refine ⟨ys.reverse, y, ?_, ?_, p⟩
        · rw [← List.reverse_reverse xs, hx, List.reverse_cons]
        · have := paired_reverse t
          rw [List.reverse_reverse] at this
          exact this
  refine ⟨_, h1, .inl ⟨rfl, _, SqL.of eH⟩, l, _, x, rfl, rfl, eH, ?_, ?_⟩
  · rw [List.length_append, List.length_singleton, Nat.add_sub_cancel, List.getElem?_append_right (Nat.le_refl _), Nat.sub_self]
    rfl
  · rw [List.dropLast_concat]
    have e1 := e.mut (q := .own as) (o := .lst xs1) hr rfl h1 rfl ⟨l, xs1, rfl, n0, nB, upd_same, ha1⟩
    exact hg B0 H0 B _ B _ σ x e1 (.refl e1.s) hx _ fun σ1 e2 _ => q σ1 B _ (Same.refl _) e2
/-- while waiting -/
theorem evT_own {i : Nat} {as : List AV} (hr : E i = some (.own as)) : EvT n W (fun σ H Q => tVar i σ H fun x H' => ∃ k, TruV K x H' k ∧ Q k H') E (!as.isEmpty) := fun B0 H0 B H σ e Q q => by
  obtain ⟨v, h1, l, xs, rfl, n0, nB, eH, ha⟩ := e.at_ i _ hr
  refine ⟨_, h1, !as.isEmpty, .inl ⟨xs, SqL.of eH, ?_⟩, q B H (.refl e.s)⟩
  have := Paired.length ha
  cases xs <;> cases as <;> first | rfl | (simp at this)
/-- len(found) -/
theorem ev_lenOwn {i : Nat} {as : List AV} (hr : E i = some (.own as)) : EvD K n W (tCB (rLen K) (tCons (tVar i) tNil)) E (.int (as.length : Nat)) := fun B0 H0 B H σ e Q q => by
  obtain ⟨v, h1, l, xs, rfl, n0, nB, eH, ha⟩ := e.at_ i _ hr
  refine ⟨_, h1, _, _, rfl, .inl ⟨xs, SqL.of eH, rfl⟩, q _ B H (.refl e.s) ?_⟩
  rw [Paired.length ha]
  exact .int _
end
/-! ### operators on data -/
section
variable {K : PySem.W.Frag} {n : Nat} {W : Wo} {E : En}
theorem ev_ixT {ta tb : TE} {as : List AV} {i : Nat} {a : AV} (ha : Ev n W ta E (.fz (tupA K as))) (hb : EvD K n W tb E (.int (i : Nat))) (h : as[i]? = some a) : Ev n W (tOp (rIxT K) ta tb) E (.fz a) := ev_op ha hb fun v w B H ⟨p, xs, ev, hs, hx⟩ hw s Q q => by
  cases hw
  obtain ⟨x, h1, h2⟩ := paired_get' hx h
  exact ⟨p, xs, _, x, ev, rfl, Same.tup s hs, atI_nat h1, q x B H (.refl s) h2⟩
theorem ev_ixTD {ta tb : TE} {ds : List PyData} {i : Nat} {d : PyData} (ha : EvD K n W ta E (.tuple ds)) (hb : EvD K n W tb E (.int (i : Nat))) (h : ds[i]? = some d) : EvD K n W (tOp (rIxT K) ta tb) E d := ev_ixT (ha.of fun _ _ => dat_tup) hb (by rw [List.getElem?_map, h]; rfl)
theorem ev_ixL {ta tb : TE} {as : List AV} {i : Nat} {a : AV} (ha : Ev n W ta E (.fz (lstA K as))) (hb : EvD K n W tb E (.int (i : Nat))) (h : as[i]? = some a) : Ev n W (tOp (rIxL K) ta tb) E (.fz a) := ev_op ha hb fun v w B H ⟨p, xs, ev, hs, hx⟩ hw s Q q => by
  cases hw
  obtain ⟨x, h1, h2⟩ := paired_get' hx h
  exact ⟨p, xs, _, x, ev, rfl, s.seq hs, atI_nat h1, q x B H (.refl s) h2⟩
theorem ev_ixLD {ta tb : TE} {ds : List PyData} {i : Nat} {d : PyData} (ha : EvD K n W ta E (.list ds)) (hb : EvD K n W tb E (.int (i : Nat))) (h : ds[i]? = some d) : EvD K n W (tOp (rIxL K) ta tb) E d := ev_ixL (ha.of fun _ _ => dat_lst) hb (by rw [List.getElem?_map, h]; rfl)
/-- found[i] of what is owned -/
theorem ev_ixOwn {j : Nat} {tb : TE} {as : List AV} {i : Nat} {a : AV} (ha : E j = some (.own as)) (hb : EvD K n W tb E (.int (i : Nat))) (h : as[i]? = some a) : Ev n W (tOp (rIxL K) (tVar j) tb) E (.fz a) := fun B0 H0 B H σ e Q q => by
  obtain ⟨v, h1, l, xs, rfl, n0, nB, eH, hx⟩ := e.at_ j _ ha
  refine ⟨_, h1, hb B0 H0 B H σ e _ fun w B1 H1 x c => ?_⟩
  cases c
  obtain ⟨y, h3, h4⟩ := paired_get' hx h
  exact ⟨l, xs, _, y, rfl, rfl, SqL.of (x.h _ _ eH), atI_nat h3, q y B1 H1 x (a.mono x.b h4)⟩
theorem ev_eqS {ta tb : TE} {d1 d2 : PyData} (ha : EvD K n W ta E d1) (hb : EvD K n W tb E d2) (b : Bool) (h : ∀ v w B, Dp K B v d1 → Dp K B w d2 → scal v w = true ∧ decide (v = w) = b) : EvD K n W (tOp rEq ta tb) E (.bool b) := ev_op ha hb fun v w B H hv hw s Q q => by
  obtain ⟨h1, h2⟩ := h v w B hv hw
  exact ⟨h1, q _ B H (.refl s) (by rw [h2]; exact .bl b)⟩
theorem ev_eqStr {ta tb : TE} {x y : Str} (ha : EvD K n W ta E (.str x)) (hb : EvD K n W tb E (.str y)) : EvD K n W (tOp rEq ta tb) E (.bool (decide (x = y))) := ev_eqS ha hb _ fun v w B hv hw => by
  cases hv
  cases hw
  refine ⟨rfl, ?_⟩
  rw [Bool.eq_iff_iff, decide_eq_true_iff, decide_eq_true_iff]
  exact ⟨fun h => by injection h, fun h => by rw [h]⟩
theorem ev_eqInt {ta tb : TE} {x y : Int} (ha : EvD K n W ta E (.int x)) (hb : EvD K n W tb E (.int y)) : EvD K n W (tOp rEq ta tb) E (.bool (decide (x = y))) := ev_eqS ha hb _ fun v w B hv hw => by
  cases hv
  cases hw
  refine ⟨rfl, ?_⟩
  rw [Bool.eq_iff_iff, decide_eq_true_iff, decide_eq_true_iff]
  exact ⟨fun h => by injection h, fun h => by rw [h]⟩
theorem ev_eqD {ta tb : TE} {d1 d2 : PyData} (ha : EvD K n W ta E d1) (hb : EvD K n W tb E d2) (h1 : SeqAt.shaped d1 = true) (h2 : SeqAt.shaped d2 = true) : EvD K n W (tOp (rEqD K) ta tb) E (.bool (PyData.eqv d1 d2)) := ev_op ha hb fun v w B H hv hw s Q q =>
  ⟨d1, d2, Dp.same s hv, Dp.same s hw, h1, h2, q _ B H (.refl s) (.bl _)⟩
theorem ev_int0 {ta tb : TE} {x y : Int} {g : Int → Int → V} {d : PyData} (ha : EvD K n W ta E (.int x)) (hb : EvD K n W tb E (.int y)) (h : ∀ B, Dp K B (g x y) d) : EvD K n W (tOp (rI0 g) ta tb) E d := ev_op ha hb fun v w B H hv hw s Q q => by
  cases hv
  cases hw
  exact ⟨x, y, rfl, rfl, q _ B H (.refl s) (h B)⟩
theorem ev_add {ta tb : TE} {x y : Int} (ha : EvD K n W ta E (.int x)) (hb : EvD K n W tb E (.int y)) : EvD K n W (tOp (rI0 fun i j => .int (i + j)) ta tb) E (.int (x + y)) := ev_int0 ha hb fun _ => .int _
theorem ev_sub {ta tb : TE} {x y : Int} (ha : EvD K n W ta E (.int x)) (hb : EvD K n W tb E (.int y)) : EvD K n W (tOp (rI0 fun i j => .int (i - j)) ta tb) E (.int (x - y)) := ev_int0 ha hb fun _ => .int _
theorem ev_neg {ta : TE} {x : Int} (ha : EvD K n W ta E (.int x)) : EvD K n W (tUn (rU fun i => .int (-i)) ta) E (.int (-x)) := fun B0 H0 B H σ e Q q => ha B0 H0 B H σ e _ fun v B1 H1 x c => by
  cases c
  exact ⟨_, rfl, q _ B1 H1 x (.int _)⟩
theorem ev_len {ta : TE} {ds : List PyData} (ha : EvD K n W ta E (.tuple ds)) : EvD K n W (tCB (rLen K) (tCons ta tNil)) E (.int (ds.length : Nat)) := ev_b1 ha fun v B H hv s Q q => by
  cases hv with
  | tup h t =>
    refine ⟨_, _, rfl, .inr ⟨_, Same.tup s h, rfl⟩, q _ B H (.refl s) ?_⟩
    rw [Paired.length (dAll t), List.length_map]
    exact .int _
theorem ev_lenL {ta : TE} {as : List AV} (ha : Ev n W ta E (.fz (lstA K as))) : EvD K n W (tCB (rLen K) (tCons ta tNil)) E (.int (as.length : Nat)) := ev_b1 ha fun v B H ⟨a, xs, ev, h, t⟩ s Q q => by
  refine ⟨v, xs.length, rfl, ?_, q _ B H (.refl s) ?_⟩
  · rw [ev]
    exact .inl ⟨_, s.seq h, rfl⟩
  · rw [Paired.length t]
    exact .int _
/-- tuple(list) -/
theorem ev_tupF {ta : TE} {as : List AV} (ha : Ev n W ta E (.own as)) : Ev n W (tCB (rTupF K) (tCons ta tNil)) E (.fz (tupA K as)) := fun B0 H0 B H σ e Q q => ha B0 H0 B H σ e _ fun v B1 H1 x ⟨l, xs, ev, n0, nB, eH, hx⟩ =>
  ⟨l, xs, by rw [ev], SqL.of eH, fun p its hp => q _ _ _ (x.trans (.new x.s hp)) ⟨p, xs, rfl, .inl (.inr ⟨_, upd_same⟩), hx.mono (same_upd (x.s.free hp))⟩⟩
theorem ev_tupFD {ta : TE} {ds : List PyData} (ha : Ev n W ta E (.own (ds.map (dat K)))) : EvD K n W (tCB (rTupF K) (tCons ta tNil)) E (.tuple ds) := (ev_tupF (K := K) ha).of fun _ _ => tup_dat
/-- (.., *e) -/
theorem evA_star {te : TE} {ta : TA} {as bs : List AV} (h : Ev n W te E (.fz (tupA K as)) ∨ Ev n W te E (.fz (lstA K as))) (t : EvA n W ta E bs) : EvA n W (StX.tStar K te ta) E (as ++ bs) := fun B0 H0 B H σ e Q q => by
  rcases h with h | h
  · exact h B0 H0 B H σ e _ fun v B1 H1 x ⟨p, xs, ev, hs, ha⟩ => ⟨p, xs, ev, .inl (Same.tup x.s hs), t B0 H0 B1 H1 σ (e.ext x) _ fun vs B2 H2 y rs => q _ B2 H2 (x.trans y) (allA_append (ha.mono y.b) rs)⟩
  · exact h B0 H0 B H σ e _ fun v B1 H1 x ⟨p, xs, ev, hs, ha⟩ => ⟨p, xs, ev, .inr (x.s.seq hs), t B0 H0 B1 H1 σ (e.ext x) _ fun vs B2 H2 y rs => q _ B2 H2 (x.trans y) (allA_append (ha.mono y.b) rs)⟩
theorem evAD_star {te : TE} {ta : TA} {ds es : List PyData} (h : EvD K n W te E (.tuple ds)) (t : EvAD K n W ta E es) : EvAD K n W (StX.tStar K te ta) E (ds ++ es) := by
  have := evA_star (.inl (h.of fun _ _ => dat_tup)) t
  rw [← List.map_append] at this
  exact this
theorem evAD_starL {te : TE} {ta : TA} {ds es : List PyData} (h : Ev n W te E (.own (ds.map (dat K)))) (t : EvAD K n W ta E es) : EvAD K n W (StX.tStar K te ta) E (ds ++ es) := by
  have := evA_star (K := K) (.inr (ev_keep h)) t
  rw [← List.map_append] at this
  exact this
/-- a[lo:hi] of a tuple -/
theorem ev_slT {ta : TE} {as : List AV} {lo hi : Option Int} {tl th : TO} (ha : Ev n W ta E (.fz (tupA K as))) (hl : ∀ σ H Q, Q lo H → tl σ H Q) (hh : ∀ σ H Q, Q hi H → th σ H Q) (h : ¬ (HT.sIx as.length 0 lo = 0 ∧ HT.sIx as.length as.length hi = as.length)) :
    Ev n W (tSl (rSlT K) ta tl th) E (.fz (tupA K ((as.drop (HT.sIx as.length 0 lo)).take (HT.sIx as.length as.length hi - HT.sIx as.length 0 lo)))) := fun B0 H0 B H σ e Q q => ha B0 H0 B H σ e _ fun v B1 H1 x ⟨a, xs, ev, hs, hx⟩ => by
  refine hl _ _ _ (hh _ _ _ ⟨a, xs, ev, Same.tup x.s hs, by rw [Paired.length hx]; exact h, fun p hp => q _ _ _ (x.trans (.new x.s hp)) ⟨p, _, rfl, .inl (.inl upd_same), ?_⟩⟩)
  unfold cutV
  rw [Paired.length hx]
  have pt : ∀ {l : List V} {m : List AV} (k : Nat), Paired (fun v a => a.p v B1) l m → Paired (fun v a => a.p v B1) (l.take k) (m.take k) := by
    intro l m k h
    induction h generalizing k with
    | nil => rw [List.take_nil, List.take_nil]; exact .nil
    | cons a _ ih => cases k with
      | zero => exact .nil
      | succ k => exact .cons a (ih k)
  have pd : ∀ {l : List V} {m : List AV} (k : Nat), Paired (fun v a => a.p v B1) l m → Paired (fun v a => a.p v B1) (l.drop k) (m.drop k) := by
    intro l m k h
    induction h generalizing k with
    | nil => rw [List.drop_nil, List.drop_nil]; exact .nil
    | cons a t ih => cases k with
      | zero => exact .cons a t
      | succ k => exact ih k
  exact AllA.mono (same_upd (x.s.free hp)) (pt _ (pd _ hx))
/-- isinstance(x, tuple) and such, of data -/
theorem ev_isi {ta tb : TE} {d : PyData} {c : String} {b : Bool} (ha : EvD K n W ta E d) (hb : ∀ σ H Q, Q (V.ty c) H → tb σ H Q) (h : ∀ v B H, Dp K B v d → Same B H → ∃ t : String, TyX K H v (.type t) ∧ kitB t c = some b) : EvD K n W (tCB (rIsi K) (tCons ta (tCons tb tNil))) E (.bool b) := fun B0 H0 B H σ e Q q => ha B0 H0 B H σ e _ fun v B1 H1 x r => by
  obtain ⟨t, h1, h2⟩ := h v B1 H1 r x.s
  exact hb _ _ _ ⟨v, _, _, _, b, rfl, .ty c, h1, kit_ty h2, q _ B1 H1 x (.bl b)⟩
theorem isi_tup {v : V} {B H : Hp} {ds : List PyData} (h : Dp K B v (.tuple ds)) (s : Same B H) : TyX K H v (.type "tuple") := by
  cases h with
  | tup h _ => exact tyx_tup (Same.tup s h)
end
/-! ### match -/
section
variable {K : PySem.W.Frag} {n : Nat} {W : Wo} {E : En}
/-- the names of a case are bound -/
def bindE : List (Option Nat) → List AV → En → En
  | some i :: is, a :: as, E => bindE is as (E.put i (.fz a))
  | none :: is, _ :: as, E => bindE is as E
  | _, _, E => E
theorem env_bind {B0 H0 B H : Hp} : ∀ {is : List (Option Nat)} {vs : List V} {as : List AV} {σ : L2.St} {E : En}, Env n W B0 H0 B H σ E → AllA B vs as → (∀ i, some i ∈ is → i < n) → Env n W B0 H0 B H (bindAll is vs σ) (bindE is as E)
  | [], _, _, _, _, e, _, _ => by
    unfold bindAll bindE
    exact e
  | some i :: is, [], [], _, _, e, _, _ => by
    unfold bindAll bindE
    exact e
  | none :: is, [], [], _, _, e, _, _ => by
    unfold bindAll bindE
    exact e
  | some i :: is, v :: vs, a :: as, σ, E, e, .cons h t, hi => by
    unfold bindAll bindE
    exact env_bind (e.put (.refl e.s) (hi i List.mem_cons_self) h) t fun j hj => hi j (List.mem_cons_of_mem _ hj)
  | none :: is, v :: vs, a :: as, σ, E, e, .cons h t, hi => by
    unfold bindAll bindE
    exact env_bind e t fun j hj => hi j (List.mem_cons_of_mem _ hj)
/-- which case it is, by its data -/
def namesOk (n : Nat) : List (Option Nat) → Bool
  | [] => true
  | some i :: l => Nat.blt i n && namesOk n l
  | none :: l => namesOk n l
theorem namesOk_of : ∀ {l : List (Option Nat)}, namesOk n l = true → ∀ i, some i ∈ l → i < n
  | some j :: l, h, i, hi => by
    have h : (Nat.blt j n && namesOk n l) = true := h
    rw [Bool.and_eq_true] at h
    rcases List.mem_cons.mp hi with z | z
    · cases z; exact Nat.blt_eq.mp h.1
    · exact namesOk_of h.2 i z
  | none :: l, h, i, hi => by
    rcases List.mem_cons.mp hi with z | z
    · cases z
    · exact namesOk_of (l := l) h i z
inductive EvC (K : PySem.W.Frag) (n : Nat) (W : Wo) (d : TS) : List MC → List PyData → En → Out → Prop
  | hit {x : Str} {is : List (Option Nat)} {t : TS} {cs : List MC} {ds : List PyData} {E : En} {o : Out} : ds.length = is.length → namesOk n is = true → EvS n W t (bindE is (ds.map (dat K)) E) o → EvC K n W d (⟨x, is, t⟩ :: cs) (.str x :: ds) E o
  | word {y : Str} {is : List (Option Nat)} {t : TS} {cs : List MC} {x : Str} {ds : List PyData} {E : En} {o : Out} : x ≠ y → EvC K n W d cs (.str x :: ds) E o → EvC K n W d (⟨y, is, t⟩ :: cs) (.str x :: ds) E o
  | len {y : Str} {is : List (Option Nat)} {t : TS} {cs : List MC} {ds : List PyData} {E : En} {o : Out} : ds.length ≠ is.length + 1 → EvC K n W d cs ds E o → EvC K n W d (⟨y, is, t⟩ :: cs) ds E o
  | dflt {ds : List PyData} {E : En} {o : Out} : EvS n W d E o → EvC K n W d [] ds E o
theorem evc_run {cs : List MC} {d : TS} {ds : List PyData} {o : Out} (hc : EvC K n W d cs ds E o) : ∀ B0 H0 B H σ xs, Env n W B0 H0 B H σ E → AllA B xs (ds.map (dat K)) → ∀ D : Ends, PostO n B0 H0 B D o → tCases d cs xs D σ H := by
  induction hc with
  | hit hl hi hb =>
    intro B0 H0 B H σ xs e hx D q
    cases hx with
    | cons h0 t =>
      cases h0
      refine .inl ⟨_, rfl, by rw [Paired.length t, List.length_map]; exact hl, ?_⟩
      exact hb B0 H0 B H _ (env_bind e t (namesOk_of hi)) D q
  | word hw _ ih =>
    intro B0 H0 B H σ xs e hx D q
    refine .inr ⟨.inr ?_, ih B0 H0 B H σ xs e hx D q⟩
    cases hx with
    | cons h0 t =>
      cases h0
      exact ⟨_, _, rfl, hw⟩
  | len hl _ ih =>
    intro B0 H0 B H σ xs e hx D q
    exact .inr ⟨.inl (by rw [Paired.length hx, List.length_map]; exact hl), ih B0 H0 B H σ xs e hx D q⟩
  | dflt hd =>
    intro B0 H0 B H σ xs e hx D q
    exact hd B0 H0 B H σ e D q
theorem evs_match {te : TE} {cs : List MC} {d : TS} {ds : List PyData} {o : Out} (h : EvD K n W te E (.tuple ds)) (hc : EvC K n W d cs ds E o) : EvS n W (tMatch K te cs d) E o := fun B0 H0 B H σ e D q => h B0 H0 B H σ e _ fun v B1 H1 x c => by
  obtain ⟨a, xs, ev, hs, hx⟩ := dat_tup c
  refine ⟨a, xs, ev, Same.tup x.s hs, evc_run hc B0 H0 B1 H1 σ xs (e.ext x) hx D (PostO.up x.b q)⟩
end
/-! ### a def's promise by its body -/
theorem fn_false {P : Program} {w : World} {K : PySem.W.Frag} {mg : Str → Option Value} {base : Heap} {k : Nat} {f : Addr} {fd : FuncData} {ps : List Str} : FnOk P w K mg base CX0 k f fd ps (spA fun _ _ => False) :=
  ⟨fun _ _ _ _ ⟨_, _, _, _, _, h, _⟩ => h.elim, fun _ _ _ _ _ _ _ _ _ _ _ _ _ ⟨_, _, _, _, _, h, _⟩ => h.elim⟩
theorem fn_go {N : List Str} {ts : TS} {R : List AV → Rs → Prop} {k : Nat} (hl : ∀ as r, R as r → as.length = k) (hk : Nat.ble k N.length = true) (h : ∀ as r, R as r → EvS N.length W0 ts (env0 as) (.rt r W0)) {vs : List V} {H : Hp} {Q : VK} {X : XK} (hs : spA R vs H Q X) {D : Ends} (hD : D.rt = Q) : ts D (start N vs) H := by
  obtain ⟨B, as, r, s, ha, hR, q⟩ := hs
  have lv := Paired.length ha
  have e := env_start (m := N.length - vs.length) s ha
  have hn : vs.length + (N.length - vs.length) = N.length := by
    have := hl as r hR
    have := Nat.le_of_ble_eq_true hk
    omega
  rw [hn] at e
  exact h as r hR B H B H _ e D fun v B1 H1 x c _ => by rw [hD]; exact q v B1 H1 x c
end Cs
namespace Cs
open PySem PySem.Spec L2
/-! ## objects and dicts that stay -/
def InsP (C : Addr) (fs : List (Str × AV)) (v : V) (B : Hp) : Prop := ∃ (p dx : Addr) (ws : List (Str × V)), v = .ref p ∧ B p = some (.ins C dx ws) ∧ ws.map (·.1) = fs.map (·.1) ∧ AllA B (ws.map (·.2)) (fs.map (·.2))
def insA (C : Addr) (fs : List (Str × AV)) : AV := ⟨InsP C fs, fun s ⟨p, dx, ws, e, h, k, t⟩ => ⟨p, dx, ws, e, s _ _ h, k, AllA.mono s t⟩⟩
def DctP (kvs : List (Key × AV)) (v : V) (B : Hp) : Prop := ∃ (p : Addr) (ws : List (Key × V)), v = .ref p ∧ B p = some (.dK ws) ∧ ws.map (·.1) = kvs.map (·.1) ∧ AllA B (ws.map (·.2)) (kvs.map (·.2))
def dctA (kvs : List (Key × AV)) : AV := ⟨DctP kvs, fun s ⟨p, ws, e, h, k, t⟩ => ⟨p, ws, e, s _ _ h, k, AllA.mono s t⟩⟩
def eqA (v0 : V) : AV := ⟨fun v _ => v = v0, fun _ h => h⟩
theorem lookup_all {α : Type} [DecidableEq α] {B : Hp} {f : α} : ∀ {ws : List (α × V)} {fs : List (α × AV)}, ws.map (·.1) = fs.map (·.1) → AllA B (ws.map (·.2)) (fs.map (·.2)) → (∀ a, fs.lookup f = some a → ∃ x, ws.lookup f = some x ∧ a.p x B) ∧ (fs.lookup f = none → ws.lookup f = none)
  | [], [], _, _ => ⟨(fun a h => by cases h), fun _ => rfl⟩
  | [], _ :: _, e, _ => nomatch e
  | _ :: _, [], e, _ => nomatch e
  | (k, x) :: ws, (k2, a) :: fs, e, h => by
    injection e with e1 e2
    dsimp only at e1
    subst e1
    cases h with
    | cons h t =>
      obtain ⟨i1, i2⟩ := lookup_all (ws := ws) (fs := fs) e2 t
      rw [List.lookup_cons, List.lookup_cons]
      by_cases c : f = k
      · rw [c, beq_self_eq_true]
        exact ⟨(fun a h2 => by cases h2; exact ⟨x, rfl, h⟩), fun h2 => by cases h2⟩
      · rw [beq_false_of_ne c]
        exact ⟨i1, i2⟩
def valA : List (Key × AV) → Key → Option AV
  | [], _ => none
  | (k, a) :: r, f => if k = f then some a else valA r f
def putA : List (Key × AV) → Key → AV → List (Key × AV) := fun kvs k a => if kvs.any (fun p => decide (p.1 = k)) then kvs.map (fun p => if p.1 = k then (p.1, a) else p) else kvs ++ [(k, a)]
theorem val_all {B : Hp} {f : Key} : ∀ {ws : List (Key × V)} {kvs : List (Key × AV)}, ws.map (·.1) = kvs.map (·.1) → AllA B (ws.map (·.2)) (kvs.map (·.2)) → (∀ a, valA kvs f = some a → ∃ x, valV ws f = some x ∧ a.p x B) ∧ (valA kvs f = none → valV ws f = none)
  | [], [], _, _ => ⟨(fun a h => by cases h), fun _ => rfl⟩
  | [], _ :: _, e, _ => nomatch e
  | _ :: _, [], e, _ => nomatch e
  | (k, x) :: ws, (k2, a) :: fs, e, h => by
    injection e with e1 e2
    dsimp only at e1
    subst e1
    cases h with
    | cons h t =>
      obtain ⟨i1, i2⟩ := val_all (f := f) (ws := ws) (kvs := fs) e2 t
      by_cases c : k = f
      · rw [valV_pos c]
        unfold valA
        rw [if_pos c]
        exact ⟨(fun a h2 => by cases h2; exact ⟨x, rfl, h⟩), fun h2 => by cases h2⟩
      · rw [valV_neg c]
        unfold valA
        rw [if_neg c]
        exact ⟨i1, i2⟩
theorem val_new {kvs : List (Key × AV)} {k : Key} {a : AV} (h : valA kvs k = none) : putA kvs k a = kvs ++ [(k, a)] := by
  unfold putA
  rw [if_neg]
  intro z
  induction kvs with
  | nil => cases z
  | cons p r ih =>
    unfold valA at h
    by_cases c : p.1 = k
    · rw [if_pos c] at h; cases h
    · rw [if_neg c] at h
      rw [List.any_cons, decide_eq_false c, Bool.false_or] at z
      exact ih h z
section
variable {K : PySem.W.Frag} {n : Nat} {W : Wo} {E : En}
theorem upd_upd {H : Hp} {p : Addr} {a b : HO} : upd (upd H p a) p b = upd H p b := by
  funext x
  unfold upd
  by_cases h : x = p
  · rw [if_pos h, if_pos h]
  · rw [if_neg h, if_neg h, if_neg h]
theorem ev_fld {ta : TE} {C : Addr} {fs : List (Str × AV)} {f : Str} {a : AV} (ha : Ev n W ta E (.fz (insA C fs))) (hc : Cls K C) (hn : NoAttr K C f) (hf : fs.lookup f = some a) : Ev n W (tFld K ta f) E (.fz a) := fun B0 H0 B H σ e Q q => ha B0 H0 B H σ e _ fun v B1 H1 x ⟨p, dx, ws, ev, eB, hk, t⟩ => by
  obtain ⟨y, h1, h2⟩ := (lookup_all hk t).1 a hf
  exact ⟨p, C, dx, ws, y, ev, x.s _ _ eB, hc, hn, h1, q y B1 H1 x h2⟩
theorem ev_meth {ta : TE} {t : TA} {C : Addr} {m : Str} {fs : List (Str × AV)} {R : List AV → Rs → Prop} {X : XK} {as : List AV} {r : Rs} (ha : Ev n W ta E (.fz (insA C fs))) (hm : fs.lookup m = none) (ht : EvA n W t E as) (hR : R (insA C fs :: as) r) : Ev n W (tMeth C m (spA R) [] X ta t) E r := fun B0 H0 B H σ e Q q => ha B0 H0 B H σ e _ fun v B1 H1 x c => by
  obtain ⟨p, dx, ws, ev, eB, hk, tt⟩ := id c
  refine ⟨p, dx, ws, ev, x.s _ _ eB, (lookup_all hk tt).2 hm, ht B0 H0 B1 H1 σ (e.ext x) _ fun vs B2 H2 y rs => ?_⟩
  exact ⟨B2, insA C fs :: as, r, y.s, by rw [List.append_nil]; exact .cons ((insA C fs).mono y.b c) rs, hR, fun v B3 H3 z d => q v B3 H3 (x.trans (y.trans z)) (Rs.back (x.h.trans y.h) d)⟩
/-- a class whose __init__ keeps what it's handed, by these names -/
def spI (C : Addr) (names : List Str) : Sp := fun vs H Q _ => ∃ p dx ws, vs = .ref p :: ws ∧ H p = some (.ins C dx []) ∧ ws.length = names.length ∧ Q .non (upd H p (.ins C dx (names.zip ws)))
theorem zip_fst {α β : Type} : ∀ {l : List α} {m : List β}, m.length = l.length → (l.zip m).map (·.1) = l
  | [], _, _ => rfl
  | a :: l, [], h => nomatch h
  | a :: l, b :: m, h => congrArg (a :: ·) (zip_fst (Nat.succ.inj h))
theorem zip_snd {α β : Type} : ∀ {l : List α} {m : List β}, m.length = l.length → (l.zip m).map (·.2) = m
  | [], [], _ => rfl
  | [], _ :: _, h => nomatch h
  | a :: l, [], h => nomatch h
  | a :: l, b :: m, h => congrArg (b :: ·) (zip_snd (Nat.succ.inj h))
theorem ev_make {t : TA} {C : Addr} {names : List Str} {X : XK} {as : List AV} (ht : EvA n W t E as) (hl : as.length = names.length := by rfl) : Ev n W (tMake C (spI C names) [] X t) E (.fz (insA C (names.zip as))) := fun B0 H0 B H σ e Q q => ht B0 H0 B H σ e _ fun vs B1 H1 x rs p dx np nd nn => by
  have lv : vs.length = names.length := (Paired.length rs).trans hl
  refine ⟨p, dx, vs, by rw [List.append_nil], upd_same, lv, rfl, ?_⟩
  rw [upd_upd]
  have x1 := x.trans (.new (o := .own p) x.s nd)
  have np1 : upd H1 dx (.own p) p = none := by rw [upd_ne nn.symm]; exact np
  have x2 := x1.trans (.new (o := .ins C dx (names.zip vs)) x1.s np1)
  refine q _ _ _ x2 ⟨p, dx, names.zip vs, rfl, upd_same, ?_, ?_⟩
  · rw [zip_fst lv, zip_fst hl]
  · rw [zip_snd lv, zip_snd hl]
    exact rs.mono ((same_upd (x.s.free nd)).trans (same_upd (x1.s.free np1)))
/-! ### dicts -/
theorem ev_dnew : Ev n W tDNewK E (.fz (dctA [])) := fun B0 H0 B H σ e Q q p hp => q _ _ _ (.new e.s hp) ⟨p, [], rfl, upd_same, rfl, .nil⟩
theorem ev_dget {td ty : TE} {kvs : List (Key × AV)} {x : Str} {a : AV} (hd : Ev n W td E (.fz (dctA kvs))) (hy : EvD K n W ty E (.str x)) (h : valA kvs (.inr x) = some a) : Ev n W (tDGet td ty) E (.fz a) := fun B0 H0 B H σ e Q q => hd B0 H0 B H σ e _ fun v B1 H1 x1 c => hy B0 H0 B1 H1 σ (e.ext x1) _ fun w B2 H2 x2 c2 => by
  cases c2
  obtain ⟨p, ws, rfl, eB, hk, t⟩ := (dctA kvs).mono x2.b c
  obtain ⟨y, h1, h2⟩ := (val_all (f := .inr x) hk t).1 a h
  exact ⟨p, y, rfl, .inl ⟨ws, .inr x, .inl (x2.s _ _ eB), rfl, h1.symm⟩, q y B2 H2 (x1.trans x2) h2⟩
theorem ev_dget2 {td ty tx : TE} {kvs : List (Key × AV)} {x : Str} {a b : AV} (hd : Ev n W td E (.fz (dctA kvs))) (hy : EvD K n W ty E (.str x)) (hx : Ev n W tx E (.fz b)) (h : (valA kvs (.inr x)).getD b = a) : Ev n W (tDGet2 td ty tx) E (.fz a) := fun B0 H0 B H σ e Q q => hd B0 H0 B H σ e _ fun v B1 H1 x1 c => by
  obtain ⟨p, ws, rfl, eB, hk, t⟩ := id c
  refine ⟨p, rfl, .inl ⟨ws, .inl (x1.s _ _ eB)⟩, hy B0 H0 B1 H1 σ (e.ext x1) _ fun w B2 H2 x2 c2 => hx B0 H0 B2 H2 σ ((e.ext x1).ext x2) _ fun z B3 H3 x3 c3 => ?_⟩
  cases c2
  have x13 := x1.trans (x2.trans x3)
  refine ⟨valV ws (.inr x), .inl ⟨ws, .inr x, .inl ((x2.trans x3).h _ _ (x1.s _ _ eB)), rfl, rfl⟩, ?_⟩
  cases hv : valA kvs (.inr x) with
  | none =>
    rw [(val_all (f := .inr x) hk t).2 hv]
    rw [hv] at h
    subst h
    exact q z B3 H3 x13 c3
  | some a' =>
    obtain ⟨y, h1, h2⟩ := (val_all (f := .inr x) hk t).1 a' hv
    rw [h1]
    rw [hv] at h
    subst h
    exact q y B3 H3 x13 (a'.mono (x2.trans x3).b h2)
theorem evT_din {ty td : TE} {kvs : List (Key × AV)} {x : Str} (hy : EvD K n W ty E (.str x)) (hd : Ev n W td E (.fz (dctA kvs))) : EvD K n W (tDIn ty td) E (.bool (valA kvs (.inr x)).isSome) := fun B0 H0 B H σ e Q q => hy B0 H0 B H σ e _ fun w B1 H1 x1 c2 => hd B0 H0 B1 H1 σ (e.ext x1) _ fun v B2 H2 x2 ⟨p, ws, ev, eB, hk, t⟩ => by
  cases c2
  refine ⟨p, _, ev, .inl ⟨ws, .inr x, .inl (x2.s _ _ eB), rfl, rfl⟩, q _ B2 H2 (x1.trans x2) ?_⟩
  cases hv : valA kvs (.inr x) with
  | none => rw [(val_all (f := .inr x) hk t).2 hv]; exact .bl _
  | some a =>
    obtain ⟨y, h1, _⟩ := (val_all (f := .inr x) hk t).1 a hv
    rw [h1]
    exact .bl _
theorem any_keys {k : Key} : ∀ {ws : List (Key × V)} {kvs : List (Key × AV)}, ws.map (·.1) = kvs.map (·.1) → ws.any (fun p => decide (p.1 = k)) = kvs.any (fun p => decide (p.1 = k))
  | [], [], _ => rfl
  | [], _ :: _, e => nomatch e
  | _ :: _, [], e => nomatch e
  | (k1, x) :: ws, (k2, a) :: fs, e => by
    injection e with e1 e2
    dsimp only at e1
    subst e1
    rw [List.any_cons, List.any_cons, any_keys e2]
/-- {**e, k: v}, k new -/
theorem ev_splat {te tk tv : TE} {kvs : List (Key × AV)} {x : Str} {a : AV} (hd : Ev n W te E (.fz (dctA kvs))) (hk : EvD K n W tk E (.str x)) (hv : Ev n W tv E (.fz a)) (hn : valA kvs (.inr x) = none) (hl : kvs.length ≤ 1000) : Ev n W (tSplat te tk tv) E (.fz (dctA (kvs ++ [(.inr x, a)]))) := fun B0 H0 B H σ e Q q p hp => by
  have x0 := Ext.own (o := .dK []) e.s hp
  have nB : B p = none := e.s.free hp
  refine hd B0 H0 B _ σ (e.ext x0) _ fun v B1 H1 x1 c => ?_
  obtain ⟨d, ws, rfl, eB, hks, t⟩ := id c
  have nB1 := x1.f p nB (some_ne upd_same)
  have lw : ws.length = kvs.length := by have := congrArg List.length hks; rw [List.length_map, List.length_map] at this; exact this
  refine ⟨d, ws, rfl, fun z => ?_, .inl (x1.s _ _ eB), x1.h _ _ upd_same, by omega, fun p2 hp2 => ?_⟩
  · rw [z, nB1] at eB; cases eB
  have hp1 : H1 p = some (.dK []) := x1.h _ _ upd_same
  have x2 : Ext B H B1 (upd H1 p (.dK ws)) := new_append (x0.trans x1) hp nB1
  have x3 := x2.trans (.own (o := .dK []) x2.s hp2)
  have np2 : p ≠ p2 := fun z => by rw [← z, upd_same] at hp2; cases hp2
  refine hk B0 H0 B1 _ σ (e.ext x3) _ fun u B2 H2 x4 c2 => hv B0 H0 B2 H2 σ ((e.ext x3).ext x4) _ fun y B3 H3 x5 c3 => ?_
  cases c2
  have nB2 : B1 p2 = none := x2.s.free hp2
  have x45 := x4.trans x5
  have e3 : H3 p = some (.dK ws) := x45.h _ _ (by rw [upd_ne np2]; exact upd_same)
  have e3' : H3 p2 = some (.dK []) := x45.h _ _ upd_same
  refine ⟨.inr x, y, rfl, e3', e3, np2, ?_⟩
  have hvn : valV ws (.inr x) = none := (val_all (f := .inr x) hks t).2 hn
  rw [putK_new hvn]
  have x35 := x3.trans x45
  have nB3 : B3 p2 = none := x45.f _ nB2 (some_ne upd_same)
  have nB4 : B3 p = none := x45.f _ nB1 (by rw [upd_ne np2]; exact some_ne upd_same)
  have hp2H : H p2 = none := (x0.h.trans x1.h).free (by rw [upd_ne np2.symm] at hp2; exact hp2)
  have x6 : Ext B H B3 (upd H3 p2 (.dK [(.inr x, y)])) := new_append x35 hp2H nB3
  have x7 : Ext B H B3 (upd (upd H3 p2 (.dK [(.inr x, y)])) p (.dK (ws ++ [(.inr x, y)]))) := new_append x6 hp nB4
  refine q _ _ _ (x7.keep hp upd_same nB4) ⟨p, ws ++ [(.inr x, y)], rfl, upd_same, ?_, ?_⟩
  · rw [List.map_append, List.map_append, hks]; rfl
  · rw [List.map_append, List.map_append]
    exact allA_append (t.mono (x45.b.trans (same_upd nB4))) (.cons (a.mono (same_upd nB4) c3) .nil)
/-! ### what is written -/
theorem ev_at {v : V} : Ev n W (tC v) E (.fz (eqA v)) := ev_c fun _ => rfl
theorem ev_ixK {w : World} {ta tb : TE} {p : Addr} {x : Str} {v : V} (ha : Ev n W ta E (.fz (eqA (.ref p)))) (hb : EvD K n W tb E (.str x)) (h : KDct K w p x v) : Ev n W (tOp (rIxD K w) ta tb) E (.fz (eqA v)) := ev_op ha hb fun u u2 B H hu hw s Q q => by
  cases hw
  exact ⟨p, x, v, hu, rfl, h, q v B H (.refl s) rfl⟩
theorem ev_written {te : TE} {p : Addr} {vs : List V} {as : List AV} (h : Ev n W te E (.fz (eqA (.ref p)))) (hs : ∀ H, SqT K H p vs) (ha : ∀ B, AllA B vs as) : Ev n W te E (.fz (tupA K as)) := h.of fun v B e => ⟨p, vs, e, hs B, ha B⟩
/-- a[lo:hi] of a tuple, the whole of it, too -/
theorem ev_slA {ta : TE} {as : List AV} {lo hi : Option Int} {tl th : TO} (ha : Ev n W ta E (.fz (tupA K as))) (hl : ∀ σ H Q, Q lo H → tl σ H Q) (hh : ∀ σ H Q, Q hi H → th σ H Q) :
    Ev n W (tSl (rSlA K) ta tl th) E (.fz (tupA K ((as.drop (HT.sIx as.length 0 lo)).take (HT.sIx as.length as.length hi - HT.sIx as.length 0 lo)))) := fun B0 H0 B H σ e Q q => ha B0 H0 B H σ e _ fun v B1 H1 x ⟨a, xs, ev, hs, hx⟩ => by
  have pt : ∀ {l : List V} {m : List AV} (k : Nat), Paired (fun v a => a.p v B1) l m → Paired (fun v a => a.p v B1) (l.take k) (m.take k) := by
    intro l m k h
    induction h generalizing k with
    | nil => rw [List.take_nil, List.take_nil]; exact .nil
    | cons a _ ih => cases k with
      | zero => exact .nil
      | succ k => exact .cons a (ih k)
  have pd : ∀ {l : List V} {m : List AV} (k : Nat), Paired (fun v a => a.p v B1) l m → Paired (fun v a => a.p v B1) (l.drop k) (m.drop k) := by
    intro l m k h
    induction h generalizing k with
    | nil => rw [List.drop_nil, List.drop_nil]; exact .nil
    | cons a t ih => cases k with
      | zero => exact .cons a t
      | succ k => exact ih k
  have lx := Paired.length hx
  refine hl _ _ _ (hh _ _ _ ⟨a, xs, ev, Same.tup x.s hs, fun h => ?_, fun _ p hp => q _ _ _ (x.trans (.new x.s hp)) ⟨p, _, rfl, .inl (.inl upd_same), ?_⟩⟩)
  · refine q _ B1 H1 x ⟨a, xs, rfl, hs, ?_⟩
    rw [lx] at h
    rw [h.1, h.2, List.drop_zero, Nat.sub_zero, List.take_of_length_le (Nat.le_refl _)]
    exact hx
  · unfold cutV
    rw [lx]
    exact AllA.mono (same_upd (x.s.free hp)) (pt _ (pd _ hx))
theorem ev_dget2I {td ty tx : TE} {kvs : List (Key × AV)} {x : Int} {a b : AV} (hd : Ev n W td E (.fz (dctA kvs))) (hy : EvD K n W ty E (.int x)) (hx : Ev n W tx E (.fz b)) (h : (valA kvs (.inl x)).getD b = a) : Ev n W (tDGet2 td ty tx) E (.fz a) := fun B0 H0 B H σ e Q q => hd B0 H0 B H σ e _ fun v B1 H1 x1 c => by
  obtain ⟨p, ws, rfl, eB, hk, t⟩ := id c
  refine ⟨p, rfl, .inl ⟨ws, .inl (x1.s _ _ eB)⟩, hy B0 H0 B1 H1 σ (e.ext x1) _ fun w B2 H2 x2 c2 => hx B0 H0 B2 H2 σ ((e.ext x1).ext x2) _ fun z B3 H3 x3 c3 => ?_⟩
  cases c2
  have x13 := x1.trans (x2.trans x3)
  refine ⟨valV ws (.inl x), .inl ⟨ws, .inl x, .inl ((x2.trans x3).h _ _ (x1.s _ _ eB)), rfl, rfl⟩, ?_⟩
  cases hv : valA kvs (.inl x) with
  | none =>
    rw [(val_all (f := .inl x) hk t).2 hv]
    rw [hv] at h
    subst h
    exact q z B3 H3 x13 c3
  | some a' =>
    obtain ⟨y, h1, h2⟩ := (val_all (f := .inl x) hk t).1 a' hv
    rw [h1]
    rw [hv] at h
    subst h
    exact q y B3 H3 x13 (a'.mono (x2.trans x3).b h2)
theorem cut_take {α : Type} (l : List α) (k : Nat) : (l.drop (HT.sIx l.length 0 none)).take (HT.sIx l.length l.length (some (k : Int)) - HT.sIx l.length 0 none) = l.take k := by
  rw [HT.sIx_none, HT.sIx_nat, List.drop_zero, Nat.sub_zero, List.take_eq_take_iff]
  omega
theorem cut_drop {α : Type} (l : List α) (k : Nat) : (l.drop (HT.sIx l.length 0 (some (k : Int)))).take (HT.sIx l.length l.length none - HT.sIx l.length 0 (some (k : Int))) = l.drop k := by
  rw [HT.sIx_none, HT.sIx_nat]
  by_cases h : k ≤ l.length
  · rw [Nat.min_eq_left h, List.take_of_length_le (by rw [List.length_drop]; omega)]
  · rw [Nat.min_eq_right (by omega), List.drop_of_length_le (Nat.le_refl _), List.drop_of_length_le (by omega), List.take_nil]
theorem ev_take {ta : TE} {ds : List PyData} {i : Int} (ha : EvD K n W ta E (.tuple ds)) (k : Nat) (hk : i = (k : Int) := by rfl) : EvD K n W (tSl (rSlA K) ta tNoPart (tPart (tC (.int i)))) E (.tuple (ds.take k)) := by
  subst hk
  have h := ev_slA (K := K) (lo := none) (hi := some (k : Int)) (ha.of fun _ _ => dat_tup) (tl := tNoPart) (th := tPart (tC (.int (k : Int)))) (fun σ H Q q => q) (fun σ H Q q => ⟨_, rfl, q⟩)
  rw [cut_take, ← List.map_take] at h
  exact h.of fun _ _ => tup_dat
theorem ev_drop {ta : TE} {ds : List PyData} {i : Int} (ha : EvD K n W ta E (.tuple ds)) (k : Nat) (hk : i = (k : Int) := by rfl) : EvD K n W (tSl (rSlA K) ta (tPart (tC (.int i))) tNoPart) E (.tuple (ds.drop k)) := by
  subst hk
  have h := ev_slA (K := K) (lo := some (k : Int)) (hi := none) (ha.of fun _ _ => dat_tup) (tl := tPart (tC (.int (k : Int)))) (th := tNoPart) (fun σ H Q q => ⟨_, rfl, q⟩) (fun σ H Q q => q)
  rw [cut_drop, ← List.map_drop] at h
  exact h.of fun _ _ => tup_dat
theorem whole_not {m k : Nat} (hk : 1 ≤ k) (hm : 1 ≤ m) : ¬ (HT.sIx m 0 (some (k : Int)) = 0 ∧ HT.sIx m m none = m) := by
  rw [HT.sIx_nat]
  intro h
  have := h.1
  omega
/-- t[k:], t has something, 1 ≤ k -/
theorem ev_dropT {ta : TE} {ds : List PyData} {i : Int} (ha : EvD K n W ta E (.tuple ds)) (k : Nat) (h1 : 1 ≤ k) (hd : 1 ≤ ds.length) (hk : i = (k : Int) := by rfl) : EvD K n W (tSl (rSlT K) ta (tPart (tC (.int i))) tNoPart) E (.tuple (ds.drop k)) := by
  subst hk
  have h := ev_slT (K := K) (lo := some (k : Int)) (hi := none) (ha.of fun _ _ => dat_tup) (tl := tPart (tC (.int (k : Int)))) (th := tNoPart) (fun σ H Q q => ⟨_, rfl, q⟩) (fun σ H Q q => q) (by rw [List.length_map]; exact whole_not h1 hd)
  rw [cut_drop, ← List.map_drop] at h
  exact h.of fun _ _ => tup_dat
theorem ev_ixc (i : Nat) {ta : TE} {ds : List PyData} {d : PyData} {z : Int} (ha : EvD K n W ta E (.tuple ds)) (h : ds[i]? = some d) (hz : z = (i : Int) := by rfl) : EvD K n W (tOp (rIxT K) ta (tC (.int z))) E d := by
  subst hz
  exact ev_ixTD (i := i) ha ev_int h
theorem ev_ixcA (i : Nat) {ta : TE} {as : List AV} {a : AV} {z : Int} (ha : Ev n W ta E (.fz (tupA K as))) (h : as[i]? = some a) (hz : z = (i : Int) := by rfl) : Ev n W (tOp (rIxT K) ta (tC (.int z))) E (.fz a) := by
  subst hz
  exact ev_ixT (i := i) ha (ev_int (K := K)) h
theorem evT_str {x y : Str} {ta tb : TE} (ha : EvD K n W ta E (.str x)) (hb : EvD K n W tb E (.str y)) : EvT n W (tTest (tOp rEq ta tb)) E (decide (x = y)) := evT_test (ev_eqStr ha hb)
theorem dp_strs {B : Hp} : ∀ {ws : List Str} {xs : List V}, AllA B xs ((ws.map PyData.str).map (dat K)) → xs = ws.map V.str
  | [], [], _ => rfl
  | _ :: _, _ :: _, .cons h t => by
    cases h
    rw [dp_strs t]
    rfl
/-- x in (w, ..) of texts -/
theorem evT_inS {x : Str} {ws : List Str} {ta tb : TE} (ha : EvD K n W ta E (.str x)) (hb : EvD K n W tb E (.tuple (ws.map .str))) : EvT n W (tTest (tOp (rIn K false) ta tb)) E (ws.any fun y => y == x) := evT_test (K := K) (ev_op ha hb fun v w B H hv hw s Q q => by
  cases hv
  obtain ⟨a, xs, rfl, hs, hx⟩ := dat_tup hw
  obtain rfl := dp_strs hx
  refine ⟨a, _, rfl, .inr (Same.tup s hs), rfl, ?_, q _ B H (.refl s) ?_⟩
  · rw [List.all_map]
    exact List.all_eq_true.mpr fun _ _ => rfl
  · rw [if_neg Bool.false_ne_true]
    unfold inV
    rw [List.any_map]
    exact .bl _)
end
end Cs
namespace Cs
open PySem PySem.Spec L2
/-! ## comprehensions of two clauses; reversed; what is counted on -/
section
variable {K : PySem.W.Frag} {n : Nat} {W : Wo} {E : En}
theorem iter_rev {B : Hp} {a : Addr} {xs : List V} {as : List AV} (h : SqL K B a xs) (ha : AllA B xs as) : Iter (Itv K a xs.length) as.reverse B := ⟨by
  rw [List.length_reverse, ← Paired.length ha]
  refine (walk_rev (K := K) (a := a) (xs := xs)).mono (fun H s => s.seq h) fun i H x H' hi _ ⟨e, hx⟩ B2 s1 s2 => ?_
  subst e
  obtain ⟨y, hy, p⟩ := paired_get ha hx
  refine ⟨B2, y, .refl s2, ?_, y.mono s1 p⟩
  rw [List.getElem?_reverse (by rw [← Paired.length ha]; exact hi), ← Paired.length ha]
  exact hy⟩
theorem evi_rev {te : TE} {as : List AV} (h : Ev n W te E (.own as)) : EvI n W (iRev K (tCons te tNil)) E as.reverse := fun B0 H0 B H σ e R q => (ev_keep (K := K) h) B0 H0 B H σ e _ fun v B1 H1 x ⟨a, xs, ev, hs, ha⟩ => ⟨a, xs, by rw [ev], x.s.seq hs, q _ B1 H1 x (iter_rev hs ha)⟩
theorem evs_aug {i : Nat} {te : TE} {z m : Int} {ti : TIp} (hi : E i = some (.fz (dat K (.int z)))) (h : EvD K n W te E (.int m)) (ht : ∀ H Q, Q (.int (z + m)) H → ti (.int z) (.int m) H Q) (hn : Nat.blt i n = true := by rfl) : EvS n W (tAug i te ti) E (.nx (E.put i (.fz (dat K (.int (z + m))))) W) := fun B0 H0 B H σ e D q => by
  obtain ⟨v, h1, h2⟩ := e.at_ i _ hi
  cases h2
  refine ⟨_, h1, h B0 H0 B H σ e _ fun w B1 H1 x c => ?_⟩
  cases c
  exact ht _ _ (q _ B1 H1 x.b (e.put x (Nat.blt_eq.mp hn) (.int _)))
theorem evs_appendD {i : Nat} {te : TE} {ds : List PyData} {d : PyData} (hr : E i = some (.own (ds.map (dat K)))) (h : EvD K n W te E d) (hl : ds.length < 1000000) : EvS n W (tDrop (tBM K "list" rAppend (tVar i) (tCons te tNil))) E (.nx (E.put i (.own ((ds ++ [d]).map (dat K)))) W) := by
  have := evs_append (K := K) hr h (by rw [List.length_map]; exact hl)
  rw [List.map_append]
  exact this
/-- D, which no name stands for, is another list now -/
theorem Env.mutD {B0 H0 B H : Hp} {σ : L2.St} {D : Addr} {o : HO} (e : Env n W B0 H0 B H σ E) (n0 : H0 D = none) (nB : B D = none) (hW : W D = none) (hD : ∀ i r, E i = some r → r.isOwn = true → σ[i]? ≠ some (some (.ref D))) : Env n W B0 H0 B (upd H D o) σ E := by
  refine ⟨new_append e.x n0 nB, e.len, fun i r h => ?_, e.ne, fun m ob hm => ?_, e.wn⟩
  rotate_left
  · obtain ⟨a, b, c⟩ := e.w m ob hm
    refine ⟨a, b, Ob.move (Same.refl _) (fun u hu => ?_) c⟩
    rw [upd_ne (fun z => by rw [z, hW] at hm; cases hm)]
    exact hu
  obtain ⟨v, a, b⟩ := e.at_ i r h
  refine ⟨v, a, ?_⟩
  cases r with
  | fz x => exact b
  | own as =>
    obtain ⟨l, xs, ev, h0, hB, eH, ha⟩ := b
    refine ⟨l, xs, ev, h0, hB, ?_, ha⟩
    rw [upd_ne (fun z => hD i _ h rfl (by rw [a, ev, z]))]
    exact eH
  | ownd as =>
    obtain ⟨l, xs, ev, h0, hB, eH, ha⟩ := b
    refine ⟨l, xs, ev, h0, hB, ?_, ha⟩
    rw [upd_ne (fun z => hD i _ h rfl (by rw [a, ev, z]))]
    exact eH
/-- where a comprehension's list stands -/
structure Acc (B1 H1 B H : Hp) (D : Addr) (as : List AV) : Prop where
  x : Ext B1 H1 B H
  n1 : H1 D = none
  nB : B D = none
  at_ : ∃ acc, H D = some (.lst acc) ∧ AllA B acc as
theorem Acc.ext {B1 H1 B H B2 H2 : Hp} {D : Addr} {as : List AV} (h : Acc B1 H1 B H D as) (x : Ext B H B2 H2) : Acc B1 H1 B2 H2 D as := by
  obtain ⟨acc, e, a⟩ := h.at_
  exact ⟨h.x.trans x, h.n1, x.f _ h.nB (some_ne e), acc, x.h _ _ e, a.mono x.b⟩
theorem Acc.put {B1 H1 B H : Hp} {D : Addr} {as : List AV} {a : AV} {y : V} (h : Acc B1 H1 B H D as) (hy : a.p y B) : ∃ acc, H D = some (.lst acc) ∧ acc.length = as.length ∧ Acc B1 H1 B (upd H D (.lst (acc ++ [y]))) D (as ++ [a]) := by
  obtain ⟨acc, e, ha⟩ := h.at_
  exact ⟨acc, e, Paired.length ha, new_append h.x h.n1 h.nB, h.n1, h.nB, acc ++ [y], upd_same, allA_append ha (.cons hy .nil)⟩
/-- [te for g in wi for g2 in wi2]: for the i-th of wi, those of f i -/
theorem ev_lcN2 {vs vs2 : List Nat} {wi wi2 : TI} {g g2 : TG} {te : TE} {as : List AV} (f : Nat → List AV) (hi : EvI n W wi E as) (hl : ((List.range as.length).flatMap f).length ≤ 1000000)
    (step : ∀ i a, as[i]? = some a → ∃ E1 cs, EvG n W vs g (E.cut vs) (.fz a) E1 ∧ EvI n W wi2 E1 cs ∧ cs.length = (f i).length ∧ (∀ j r, E1 j = some r → r.isOwn = true → E j = some r ∧ j ∉ vs) ∧ ∀ (j : Nat) c b, cs[j]? = some c → (f i)[j]? = some b → ∃ E2, EvG n W vs2 g2 (E1.cut vs2) (.fz c) E2 ∧ Ev n W te E2 (.fz b)) :
    Ev n W (tLcN wi g tYes [⟨wi2, g2, tYes, vs2⟩] te vs) E (.own ((List.range as.length).flatMap f)) := fun B0 H0 B H σ e Q q =>
  hi B0 H0 B H σ e _ fun J B1 H1 x it D hD => by
    have nB : B1 D = none := x.s.free hD
    have e1 := e.ext x
    have tk : ∀ i, i ≤ as.length → ((List.range i).flatMap f).length ≤ 1000000 := fun i hi => Nat.le_trans (by
      obtain ⟨m, hm⟩ : ∃ m, as.length = i + m := ⟨as.length - i, by omega⟩
      rw [hm, List.range_add, List.flatMap_append, List.length_append]
      omega) hl
    have noD : ∀ i r, E i = some r → r.isOwn = true → σ[i]? ≠ some (some (.ref D)) := fun i r h o z => by
      obtain ⟨v, a, b⟩ := e1.at_ i r h
      rw [a] at z
      cases z
      obtain ⟨l, u, ev, _, _, hu⟩ := Rs.ownRef o b
      cases ev
      rw [hD] at hu
      cases hu
    refine walk_by (Step := fun x H' N1 => g x (wipe σ vs) H' fun σ2 H2 => wipe σ2 vs = wipe σ vs ∧ tYes σ2 H2 fun b H3 => if b = true then tIn te D [⟨wi2, g2, tYes, vs2⟩] σ2 H3 N1 else N1 H3) it.w
      (fun i H => ∃ B, Acc B1 H1 B H D ((List.range i).flatMap f)) ⟨B1, .own x.s hD, hD, nB, [], upd_same, .nil⟩ (fun i H _ ⟨B, h⟩ => h.x.b.trans h.x.s) ?_ ?_
    · rintro i v H2 H3 hlt ⟨B2, h2⟩ hy
      obtain ⟨B3, a, x3, ha, p⟩ := hy B2 h2.x.b h2.x.s
      obtain ⟨E1, cs, hg, hi2, hlen, hown, hst⟩ := step i a ha
      have hr : (List.range (i + 1)).flatMap f = (List.range i).flatMap f ++ f i := by
        rw [List.range_succ, List.flatMap_append]
        simp
      have tki := tk (i + 1) (by omega)
      rw [hr, List.length_append] at tki
      refine hg B0 H0 B2 H2 B3 H3 (wipe σ vs) v ((e1.ext h2.x).wipe vs) x3 p _ fun σ4 e4 w4 => ⟨w4.trans wipe_wipe, ?_⟩
      refine yes_in ?_
      have h3 := h2.ext x3
      have noD4 : ∀ j r, E1 j = some r → r.isOwn = true → σ4[j]? ≠ some (some (.ref D)) := fun j r hj o z => by
        obtain ⟨hj1, hj2⟩ := hown j r hj o
        have z1 : (wipe σ4 vs)[j]? = some (some (.ref D)) := by rw [wipe_get, if_neg hj2]; exact z
        rw [w4, wipe_wipe, wipe_get, if_neg hj2] at z1
        exact noD j r hj1 o z1
      have n0 : H0 D = none := e1.x.h.free hD
      have wD : W D = none := by
        cases hw : W D with
        | none => rfl
        | some ob =>
          obtain ⟨u, hu⟩ := Ob.some (e1.w D ob hw).2.2
          rw [hD] at hu
          cases hu
      refine hi2 B0 H0 B3 H3 σ4 e4 _ fun J2 B4 H4 x4 it2 => ?_
      have h4 := h3.ext x4
      have e5 := e4.ext x4
      refine walk_by (Step := fun x H' N1 => g2 x (wipe σ4 vs2) H' fun σ5 H5 => wipe σ5 vs2 = wipe σ4 vs2 ∧ tYes σ5 H5 fun b H6 => if b = true then tIn te D [] σ5 H6 N1 else N1 H6) it2.w
        (fun j H => ∃ B, Same B4 B ∧ Env n W B0 H0 B H σ4 E1 ∧ Acc B1 H1 B H D ((List.range i).flatMap f ++ (f i).take j)) ⟨B4, Same.refl _, e5, by rw [List.take_zero, List.append_nil]; exact h4⟩ (fun j H _ ⟨B, s, _, h⟩ => s.trans h.x.s) ?_ ?_
      · rintro j u H5 H6 hj ⟨B5, s5, e6, h5⟩ hy2
        obtain ⟨B6, c, x6, hc, pc⟩ := hy2 B5 s5 h5.x.s
        have hb : j < (f i).length := by rw [← hlen]; exact hj
        obtain ⟨E2, hg2, ht2⟩ := hst j c (f i)[j] hc (List.getElem?_eq_getElem hb)
        refine hg2 B0 H0 B5 H5 B6 H6 (wipe σ4 vs2) u (e6.wipe vs2) x6 pc _ fun σ7 e7 w7 => ⟨w7.trans wipe_wipe, yes_in ?_⟩
        refine ht2 B0 H0 B6 H6 σ7 e7 _ fun y B7 H7 x7 hy7 => ?_
        have x57 := x6.trans x7
        obtain ⟨acc, ea, la, h8⟩ := (h5.ext x57).put hy7
        refine ⟨acc, ea, smaller ?_, B7, s5.trans x57.b, ((e6.ext x57).mutD n0 (h5.ext x57).nB wD noD4), ?_⟩
        · rw [la, List.length_append, List.length_take]
          omega
        · rw [show (f i).take (j + 1) = (f i).take j ++ [(f i)[j]] by rw [List.take_add_one, List.getElem?_eq_getElem hb]; rfl, ← List.append_assoc]
          exact h8
      · rintro H5 ⟨B5, s5, e6, h5⟩
        rw [List.take_of_length_le (by omega)] at h5
        exact ⟨B5, by rw [hr]; exact h5⟩
    · rintro H2 ⟨B2, h2⟩
      obtain ⟨acc, ea, ha⟩ := h2.at_
      exact q (.ref D) B2 H2 (x.trans h2.x) ⟨D, acc, rfl, x.h.free hD, h2.nB, ea, ha⟩
end
end Cs
namespace Cs
open PySem PySem.Spec L2
/-! ## what changes, by its address -/
theorem ext_upd {B0 H0 B H : Hp} {l : Addr} {o : HO} (x : Ext B0 H0 B H) (n0 : H0 l = none) (nB : B l = none) : Ext B0 H0 B (upd H l o) := ⟨x.b, Same.old x.h n0, Same.old x.s nB, x.f⟩
section
variable {K : PySem.W.Frag} {n : Nat} {W : Wo} {E : En}
theorem Wo.same {l : Addr} {o : Ob} : (W.put l o) l = some o := if_pos rfl
theorem Wo.ne {l m : Addr} {o : Ob} (h : m ≠ l) : (W.put l o) m = W m := if_neg h
/-- l, which may change, is another object now -/
theorem Env.chg {B0 H0 B H : Hp} {σ : L2.St} {l : Addr} {u v : Ob} {o : HO} (e : Env n W B0 H0 B H σ E) (hl : W l = some u) (hv : v.at B (upd H l o) l) : Env n (W.put l v) B0 H0 B (upd H l o) σ E := by
  obtain ⟨n0, nB, hat⟩ := e.w l u hl
  have noS : ∀ i r m, E i = some r → r.isOwn = true → σ[i]? = some (some (.ref m)) → m ≠ l := fun i r m hi ho hm z => by
    have := e.wn i r m hi ho hm
    rw [z, hl] at this
    cases this
  refine ⟨ext_upd e.x n0 nB, e.len, fun i r h => ?_, e.ne, fun m ob hm => ?_, fun i r m hi ho hm => ?_⟩
  · obtain ⟨x, a, b⟩ := e.at_ i r h
    refine ⟨x, a, ?_⟩
    cases r with
    | fz _ => exact b
    | own as =>
      obtain ⟨m, xs, ev, h0, hB, eH, ha⟩ := b
      refine ⟨m, xs, ev, h0, hB, ?_, ha⟩
      rw [upd_ne (noS i _ m h rfl (by rw [a, ev]))]
      exact eH
    | ownd as =>
      obtain ⟨m, xs, ev, h0, hB, eH, ha⟩ := b
      refine ⟨m, xs, ev, h0, hB, ?_, ha⟩
      rw [upd_ne (noS i _ m h rfl (by rw [a, ev]))]
      exact eH
  · by_cases c : m = l
    · subst c
      rw [Wo.same] at hm
      cases hm
      exact ⟨n0, nB, hv⟩
    · rw [Wo.ne c] at hm
      obtain ⟨a, b, d⟩ := e.w m ob hm
      refine ⟨a, b, Ob.move (Same.refl _) (fun u hu => ?_) d⟩
      rw [upd_ne c]
      exact hu
  · rw [Wo.ne (noS i r m hi ho hm)]
    exact e.wn i r m hi ho hm
/-- a new object that may change -/
theorem Env.fresh {B0 H0 B H : Hp} {σ : L2.St} {l : Addr} {v : Ob} {o : HO} (e : Env n W B0 H0 B H σ E) (hl : H l = none) (hv : v.at B (upd H l o) l) : Env n (W.put l v) B0 H0 B (upd H l o) σ E := by
  have e1 := e.ext (.own (o := o) e.s hl)
  have n0 : H0 l = none := e.x.h.free hl
  have nB : B l = none := e.s.free hl
  have wl : W l = none := by
    cases h : W l with
    | none => rfl
    | some ob =>
      obtain ⟨u, hu⟩ := Ob.some (e.w l ob h).2.2
      rw [hl] at hu
      cases hu
  refine ⟨e1.x, e1.len, e1.at_, e1.ne, fun m ob hm => ?_, fun i r m hi ho hm => ?_⟩
  · by_cases c : m = l
    · subst c
      rw [Wo.same] at hm
      cases hm
      exact ⟨n0, nB, hv⟩
    · rw [Wo.ne c] at hm
      exact e1.w m ob hm
  · rw [Wo.ne (fun z => ?_)]
    · exact e1.wn i r m hi ho hm
    · obtain ⟨x, a, b⟩ := e.at_ i r hi
      obtain ⟨l2, u, ev, _, _, hu⟩ := Rs.ownRef ho b
      rw [a, ev] at hm
      cases hm
      rw [z, hl] at hu
      cases hu
theorem Env.no {B0 H0 B H : Hp} {σ : L2.St} {l : Addr} (e : Env n W B0 H0 B H σ E) (hl : H l = none) : W l = none := by
  cases h : W l with
  | none => rfl
  | some ob =>
    obtain ⟨u, hu⟩ := Ob.some (e.w l ob h).2.2
    rw [hl] at hu
    cases hu
/-- what a name owns is known by its address from now on -/
theorem evs_give {i : Nat} {as : List AV} {ts : TS} {o : Out} (hi : E i = some (.own as)) (h : ∀ l, W l = none → EvS n (W.put l (.lst as)) ts (E.put i (.fz (eqA (.ref l)))) o) : EvS n W ts E o := fun B0 H0 B H σ e D q => by
  obtain ⟨v, h1, l, xs, rfl, n0, nB, eH, ha⟩ := e.at_ i _ hi
  have wl := e.wn i _ l hi rfl h1
  refine h l wl B0 H0 B H σ ⟨e.x, e.len, fun j r hj => ?_, fun j k r q m jk hj oj hk ok => ?_, fun m ob hm => ?_, fun j r m hj oj hm => ?_⟩ D q
  · unfold En.put at hj
    by_cases c : j = i
    · rw [if_pos c] at hj
      cases hj
      exact ⟨_, by rw [c]; exact h1, rfl⟩
    · rw [if_neg c] at hj
      exact e.at_ j r hj
  · unfold En.put at hj hk
    by_cases c : j = i
    · rw [if_pos c] at hj
      cases hj
      cases oj
    · by_cases d : k = i
      · rw [if_pos d] at hk
        cases hk
        cases ok
      · rw [if_neg c] at hj
        rw [if_neg d] at hk
        exact e.ne j k r q m jk hj oj hk ok
  · by_cases c : m = l
    · subst c
      rw [Wo.same] at hm
      cases hm
      exact ⟨n0, nB, xs, eH, ha⟩
    · rw [Wo.ne c] at hm
      exact e.w m ob hm
  · unfold En.put at hj
    by_cases c : j = i
    · rw [if_pos c] at hj
      cases hj
      cases oj
    · rw [if_neg c] at hj
      rw [Wo.ne (fun z => ?_)]
      · exact e.wn j r m hj oj hm
      · rw [z] at hm
        exact e.ne j i r _ l c hj oj hi rfl hm h1
theorem Env.lst {B0 H0 B H : Hp} {σ : L2.St} {l : Addr} {as : List AV} (e : Env n W B0 H0 B H σ E) (hl : W l = some (.lst as)) : ∃ xs, H l = some (.lst xs) ∧ AllA B xs as := (e.w l _ hl).2.2
theorem Env.dct {B0 H0 B H : Hp} {σ : L2.St} {l : Addr} {kvs : List (Key × AV)} (e : Env n W B0 H0 B H σ E) (hl : W l = some (.dct kvs)) : ∃ ws : List (Key × V), H l = some (.dK ws) ∧ ws.map (·.1) = kvs.map (·.1) ∧ AllA B (ws.map (·.2)) (kvs.map (·.2)) := (e.w l _ hl).2.2
/-! ### read -/
theorem ev_dgetW {td ty : TE} {l : Addr} {kvs : List (Key × AV)} {x : Str} {a : AV} (hd : Ev n W td E (.fz (eqA (.ref l)))) (hl : W l = some (.dct kvs)) (hy : EvD K n W ty E (.str x)) (h : valA kvs (.inr x) = some a) : Ev n W (tDGet td ty) E (.fz a) := fun B0 H0 B H σ e Q q => hd B0 H0 B H σ e _ fun v B1 H1 x1 c => hy B0 H0 B1 H1 σ (e.ext x1) _ fun w B2 H2 x2 c2 => by
  cases c2
  obtain rfl : v = .ref l := c
  have e2 := (e.ext x1).ext x2
  obtain ⟨ws, eH, hk, t⟩ := e2.dct hl
  obtain ⟨y, h1, h2⟩ := (val_all (f := .inr x) hk t).1 a h
  exact ⟨l, y, rfl, .inl ⟨ws, .inr x, .inl eH, rfl, h1.symm⟩, q y B2 H2 (x1.trans x2) h2⟩
theorem ev_dinW {ty td : TE} {l : Addr} {kvs : List (Key × AV)} {x : Str} (hy : EvD K n W ty E (.str x)) (hd : Ev n W td E (.fz (eqA (.ref l)))) (hl : W l = some (.dct kvs)) : EvD K n W (tDIn ty td) E (.bool (valA kvs (.inr x)).isSome) := fun B0 H0 B H σ e Q q => hy B0 H0 B H σ e _ fun w B1 H1 x1 c2 => hd B0 H0 B1 H1 σ (e.ext x1) _ fun v B2 H2 x2 c => by
  cases c2
  obtain rfl : v = .ref l := c
  obtain ⟨ws, eH, hk, t⟩ := ((e.ext x1).ext x2).dct hl
  refine ⟨l, _, rfl, .inl ⟨ws, .inr x, .inl eH, rfl, rfl⟩, q _ B2 H2 (x1.trans x2) ?_⟩
  cases hv : valA kvs (.inr x) with
  | none => rw [(val_all (f := .inr x) hk t).2 hv]; exact .bl _
  | some a =>
    obtain ⟨y, h1, _⟩ := (val_all (f := .inr x) hk t).1 a hv
    rw [h1]
    exact .bl _
theorem ev_dninW {ty td : TE} {l : Addr} {kvs : List (Key × AV)} {x : Str} (hy : EvD K n W ty E (.str x)) (hd : Ev n W td E (.fz (eqA (.ref l)))) (hl : W l = some (.dct kvs)) : EvD K n W (tDNotIn ty td) E (.bool (!(valA kvs (.inr x)).isSome)) := fun B0 H0 B H σ e Q q => hy B0 H0 B H σ e _ fun w B1 H1 x1 c2 => hd B0 H0 B1 H1 σ (e.ext x1) _ fun v B2 H2 x2 c => by
  cases c2
  obtain rfl : v = .ref l := c
  obtain ⟨ws, eH, hk, t⟩ := ((e.ext x1).ext x2).dct hl
  refine ⟨l, _, rfl, .inl ⟨ws, .inr x, .inl eH, rfl, rfl⟩, q _ B2 H2 (x1.trans x2) ?_⟩
  cases hv : valA kvs (.inr x) with
  | none => rw [(val_all (f := .inr x) hk t).2 hv]; exact .bl _
  | some a =>
    obtain ⟨y, h1, _⟩ := (val_all (f := .inr x) hk t).1 a hv
    rw [h1]
    exact .bl _
theorem ev_tupFW {ta : TE} {l : Addr} {as : List AV} (ha : Ev n W ta E (.fz (eqA (.ref l)))) (hl : W l = some (.lst as)) : Ev n W (tCB (rTupF K) (tCons ta tNil)) E (.fz (tupA K as)) := fun B0 H0 B H σ e Q q => ha B0 H0 B H σ e _ fun v B1 H1 x c => by
  obtain rfl : v = .ref l := c
  obtain ⟨xs, eH, hx⟩ := (e.ext x).lst hl
  exact ⟨l, xs, rfl, SqL.of eH, fun p its hp => q _ _ _ (x.trans (.new x.s hp)) ⟨p, xs, rfl, .inl (.inr ⟨_, upd_same⟩), hx.mono (same_upd (x.s.free hp))⟩⟩
theorem ev_tupFWD {ta : TE} {l : Addr} {ds : List PyData} (ha : Ev n W ta E (.fz (eqA (.ref l)))) (hl : W l = some (.lst (ds.map (dat K)))) : EvD K n W (tCB (rTupF K) (tCons ta tNil)) E (.tuple ds) := (ev_tupFW (K := K) ha hl).of fun _ _ => tup_dat
theorem ev_ixW {ta tb : TE} {l : Addr} {as : List AV} {i : Nat} {a : AV} (ha : Ev n W ta E (.fz (eqA (.ref l)))) (hl : W l = some (.lst as)) (hb : EvD K n W tb E (.int (i : Nat))) (h : as[i]? = some a) : Ev n W (tOp (rIxL K) ta tb) E (.fz a) := fun B0 H0 B H σ e Q q => ha B0 H0 B H σ e _ fun v B1 H1 x c => hb B0 H0 B1 H1 σ (e.ext x) _ fun w B2 H2 x2 c2 => by
  obtain rfl : v = .ref l := c
  cases c2
  obtain ⟨xs, eH, hx⟩ := ((e.ext x).ext x2).lst hl
  obtain ⟨y, h3, h4⟩ := paired_get' hx h
  exact ⟨l, xs, _, y, rfl, rfl, SqL.of eH, atI_nat h3, q y B2 H2 (x.trans x2) h4⟩
/-! ### put -/
theorem evs_appendW {to te : TE} {l : Addr} {as : List AV} {a : AV} (ho : Ev n W to E (.fz (eqA (.ref l)))) (hl : W l = some (.lst as)) (h : Ev n W te E (.fz a)) (hz : as.length < 1000000) : EvS n W (tDrop (tBM K "list" rAppend to (tCons te tNil))) E (.nx E (W.put l (.lst (as ++ [a])))) := fun B0 H0 B H σ e D q => ho B0 H0 B H σ e _ fun v B1 H1 x1 c => by
  obtain rfl : v = .ref l := c
  have e1 := e.ext x1
  obtain ⟨xs1, eH1, _⟩ := e1.lst hl
  refine ⟨.inl ⟨rfl, _, SqL.of eH1⟩, h B0 H0 B1 H1 σ e1 _ fun y B2 H2 x2 c2 => ?_⟩
  have e2 := e1.ext x2
  obtain ⟨xs, eH, hx⟩ := e2.lst hl
  refine ⟨l, xs, y, rfl, rfl, eH, smaller (by rw [Paired.length hx]; omega), ?_⟩
  exact q σ B2 _ (x1.b.trans x2.b) (e2.chg hl ⟨xs ++ [y], upd_same, allA_append hx (.cons c2 .nil)⟩)
theorem evs_appendWD {to te : TE} {l : Addr} {ds : List PyData} {d : PyData} (ho : Ev n W to E (.fz (eqA (.ref l)))) (hl : W l = some (.lst (ds.map (dat K)))) (h : EvD K n W te E d) (hz : ds.length < 1000000) : EvS n W (tDrop (tBM K "list" rAppend to (tCons te tNil))) E (.nx E (W.put l (.lst ((ds ++ [d]).map (dat K))))) := by
  have := evs_appendW (K := K) ho hl h (by rw [List.length_map]; exact hz)
  rw [List.map_append]
  exact this
theorem evs_extendWD {to te : TE} {l : Addr} {ds es : List PyData} (ho : Ev n W to E (.fz (eqA (.ref l)))) (hl : W l = some (.lst (ds.map (dat K)))) (h : Ev n W te E (.own (es.map (dat K)))) (hz : ds.length + es.length ≤ 1000000) : EvS n W (tDrop (tBM K "list" rExtend to (tCons te tNil))) E (.nx E (W.put l (.lst ((ds ++ es).map (dat K))))) := fun B0 H0 B H σ e D q => ho B0 H0 B H σ e _ fun v B1 H1 x1 c => by
  obtain rfl : v = .ref l := c
  have e1 := e.ext x1
  obtain ⟨xs1, eH1, _⟩ := e1.lst hl
  refine ⟨.inl ⟨rfl, _, SqL.of eH1⟩, h B0 H0 B1 H1 σ e1 _ fun y B2 H2 x2 ⟨m, ys, ey, _, _, eM, hys⟩ => ?_⟩
  have e2 := e1.ext x2
  obtain ⟨xs, eH, hx⟩ := e2.lst hl
  have l1 := Paired.length hx
  have l2 := Paired.length hys
  rw [List.length_map] at l1 l2
  refine ⟨l, m, xs, ys, rfl, by rw [ey], eH, eM, small (by omega), ?_⟩
  refine q σ B2 _ (x1.b.trans x2.b) (e2.chg hl ⟨xs ++ ys, upd_same, ?_⟩)
  rw [List.map_append]
  exact allA_append hx hys
/-- d[k] = v, k new or there -/
theorem put_all {B : Hp} {k : Key} {y : V} {a : AV} : ∀ {ws : List (Key × V)} {kvs : List (Key × AV)}, ws.map (·.1) = kvs.map (·.1) → AllA B (ws.map (·.2)) (kvs.map (·.2)) → a.p y B → (putK ws k y).map (·.1) = (putA kvs k a).map (·.1) ∧ AllA B ((putK ws k y).map (·.2)) ((putA kvs k a).map (·.2)) := by
  intro ws kvs hk ht ha
  unfold putK putA
  have hany := any_keys (k := k) hk
  by_cases h : ws.any (fun p => decide (p.1 = k)) = true
  · rw [if_pos h, if_pos (by rw [← hany]; exact h)]
    clear hany h
    have key : ∀ {ws : List (Key × V)} {kvs : List (Key × AV)}, ws.map (·.1) = kvs.map (·.1) → AllA B (ws.map (·.2)) (kvs.map (·.2)) → (ws.map (fun p => if p.1 = k then (p.1, y) else p)).map (·.1) = (kvs.map (fun p => if p.1 = k then (p.1, a) else p)).map (·.1) ∧ AllA B ((ws.map (fun p => if p.1 = k then (p.1, y) else p)).map (·.2)) ((kvs.map (fun p => if p.1 = k then (p.1, a) else p)).map (·.2)) := by
      intro ws
      induction ws with
      | nil =>
        intro kvs hk ht
        cases kvs with
        | nil => exact ⟨rfl, .nil⟩
        | cons _ _ => cases hk
      | cons p ws ih =>
        intro kvs hk ht
        cases kvs with
        | nil => cases hk
        | cons r kvs =>
          obtain ⟨k1, v1⟩ := p
          obtain ⟨k2, a2⟩ := r
          injection hk with e1 e2
          dsimp only at e1
          subst e1
          cases ht with
          | cons h t =>
            obtain ⟨i1, i2⟩ := ih e2 t
            by_cases c : k1 = k
            · refine ⟨?_, ?_⟩
              · simp only [List.map_cons, if_pos c]
                exact congrArg _ i1
              · simp only [List.map_cons, if_pos c]
                exact .cons ha i2
            · refine ⟨?_, ?_⟩
              · simp only [List.map_cons, if_neg c]
                exact congrArg _ i1
              · simp only [List.map_cons, if_neg c]
                exact .cons h i2
    exact key hk ht
  · rw [if_neg h, if_neg (by rw [← hany]; exact h), List.map_append, List.map_append, List.map_append, List.map_append, hk]
    exact ⟨rfl, allA_append ht (.cons ha .nil)⟩
theorem evs_dputW {td ty tv : TE} {l : Addr} {kvs : List (Key × AV)} {x : Str} {a : AV} (hv : Ev n W tv E (.fz a)) (hd : Ev n W td E (.fz (eqA (.ref l)))) (hl : W l = some (.dct kvs)) (hy : EvD K n W ty E (.str x)) (hz : kvs.length < 1000000) : EvS n W (sDPut td ty tv) E (.nx E (W.put l (.dct (putA kvs (.inr x) a)))) := fun B0 H0 B H σ e D q => hv B0 H0 B H σ e _ fun v B1 H1 x1 c1 => hd B0 H0 B1 H1 σ (e.ext x1) _ fun d B2 H2 x2 c2 => hy B0 H0 B2 H2 σ ((e.ext x1).ext x2) _ fun u B3 H3 x3 c3 => by
  cases c3
  obtain rfl : d = .ref l := c2
  have e3 := ((e.ext x1).ext x2).ext x3
  obtain ⟨ws, eH, hk, t⟩ := e3.dct hl
  have lw : ws.length = kvs.length := by have := congrArg List.length hk; rw [List.length_map, List.length_map] at this; exact this
  refine ⟨l, _, rfl, .inl ⟨ws, .inr x, eH, rfl, smaller (by omega), rfl⟩, ?_⟩
  obtain ⟨p1, p2⟩ := put_all (k := .inr x) (y := v) hk t (a.mono (x2.b.trans x3.b) c1)
  exact q σ B3 _ (x1.b.trans (x2.b.trans x3.b)) (e3.chg hl ⟨_, upd_same, p1, p2⟩)
end
/-! ### defs that change what they are handed -/
def cutW (W : Wo) (H : Hp) : Hp := fun a => if (W a).isSome then none else H a
theorem cutW_none {W : Wo} {H : Hp} {l : Addr} (h : (W l).isSome = true) : cutW W H l = none := if_pos h
theorem cutW_some {W : Wo} {H : Hp} {l : Addr} (h : W l = none) : cutW W H l = H l := if_neg (by rw [h]; exact Bool.false_ne_true)
theorem cutW_same {W : Wo} {H : Hp} : Same (cutW W H) H := fun b o h => by
  unfold cutW at h
  by_cases c : (W b).isSome = true
  · rw [if_pos c] at h; cases h
  · rw [if_neg c] at h; exact h
/-- all that may change is handed on -/
def spM (R : List AV → Wo → Rs → Wo → Prop) : Sp := fun vs H Q _ => ∃ B W as r W1, Same B H ∧ (∀ l o, W l = some o → B l = none ∧ o.at B H l) ∧ AllA B vs as ∧ R as W r W1 ∧ ∀ v B1 H1, Ext B (cutW W H) B1 H1 → r.at (cutW W H) B1 H1 v → OwnW W1 (cutW W H) B1 H1 → Q v H1
/-- told and changed -/
def EvM (n : Nat) (W : Wo) (te : TE) (E : En) (a : AV) (W1 : Wo) : Prop := ∀ B0 H0 B H σ, Env n W B0 H0 B H σ E → ∀ Q : VK, (∀ v B1 H1, Same B B1 → Env n W1 B0 H0 B1 H1 σ E → a.p v B1 → Q v H1) → te σ H Q
section
variable {n : Nat} {W W1 : Wo} {E : En}
theorem Env.called {B0 H0 B H B1 H1 : Hp} {σ : L2.St} (e : Env n W B0 H0 B H σ E) (x : Ext B (cutW W H) B1 H1) (ow : OwnW W1 (cutW W H) B1 H1) : Env n W1 B0 H0 B1 H1 σ E := by
  have h0W : ∀ a, H0 a ≠ none → W a = none := fun a ha => by
    cases h : W a with
    | none => rfl
    | some o => exact absurd (e.w a o h).1 ha
  have sH : Same H0 H1 := fun b o h => x.h b o (by rw [cutW_some (h0W b (some_ne h))]; exact e.x.h b o h)
  refine ⟨⟨e.x.b.trans x.b, sH, x.s, fun a ha hm => x.f a (e.x.f a ha hm) (by rw [cutW_some (h0W a hm)]; exact ne_same e.x.h hm)⟩, e.len, fun i r h => ?_, e.ne, fun l o h => ?_, fun i r l hi ho hl => ?_⟩
  · obtain ⟨v, a, b⟩ := e.at_ i r h
    refine ⟨v, a, ?_⟩
    cases r with
    | fz y => exact y.mono x.b b
    | own as =>
      obtain ⟨m, xs, ev, h1, hB, eH, ha⟩ := b
      have wm := e.wn i _ m h rfl (by rw [a, ev])
      exact ⟨m, xs, ev, h1, x.f m hB (by rw [cutW_some wm]; exact some_ne eH), x.h _ _ (by rw [cutW_some wm]; exact eH), ha.mono x.b⟩
    | ownd as =>
      obtain ⟨m, xs, ev, h1, hB, eH, hk, ha⟩ := b
      have wm := e.wn i _ m h rfl (by rw [a, ev])
      exact ⟨m, xs, ev, h1, x.f m hB (by rw [cutW_some wm]; exact some_ne eH), x.h _ _ (by rw [cutW_some wm]; exact eH), hk, ha.mono x.b⟩
  · obtain ⟨a, b, c⟩ := ow l o h
    refine ⟨?_, b, c⟩
    cases hw : W l with
    | none =>
      rw [cutW_some hw] at a
      exact e.x.h.free a
    | some u => exact (e.w l u hw).1
  · cases hw : W1 l with
    | none => rfl
    | some o =>
      exfalso
      obtain ⟨v, a, b⟩ := e.at_ i r hi
      obtain ⟨m, u, ev, _, _, hu⟩ := Rs.ownRef ho b
      rw [a, ev] at hl
      cases hl
      have wm := e.wn i r l hi ho (by rw [a, ev])
      have := (ow l o hw).1
      rw [cutW_some wm, hu] at this
      cases this
theorem evm_call {R : List AV → Wo → Rs → Wo → Prop} {X : XK} {ta : TA} {as : List AV} {a : AV} (h : EvA n W ta E as) (hr : R as W (.fz a) W1) : EvM n W (tCall (spM R) [] X ta) E a W1 := fun B0 H0 B H σ e Q q =>
  h B0 H0 B H σ e _ fun vs B1 H1 x rs => by
    have e1 := e.ext x
    exact ⟨B1, W, as, .fz a, W1, x.s, fun l o hl => let ⟨_, b, c⟩ := e1.w l o hl; ⟨b, c⟩, by rw [List.append_nil]; exact rs, hr, fun v B2 H2 y c ow => q v B2 H2 (x.b.trans y.b) (e1.called y ow) c⟩
theorem evs_dropM {te : TE} {a : AV} (h : EvM n W te E a W1) : EvS n W (tDrop te) E (.nx E W1) := fun B0 H0 B H σ e D q => h B0 H0 B H σ e _ fun v B1 H1 s e1 c => q σ B1 H1 s e1
theorem evs_setM {te : TE} {i : Nat} {a : AV} (h : EvM n W te E a W1) (hi : Nat.blt i n = true := by rfl) : EvS n W (tAsg te (gName i)) E (.nx (E.put i (.fz a)) W1) := fun B0 H0 B H σ e D q => h B0 H0 B H σ e _ fun v B1 H1 s e1 c => q _ B1 H1 s (e1.put (.refl e1.s) (Nat.blt_eq.mp hi) c)
theorem evs_retN : EvS n W tRetN E (.rt (.fz (dat K .none)) W) := fun B0 H0 B H σ e D q => q .non B H e.x .non e.w
end
theorem fn_goM {N : List Str} {ts : TS} {R : List AV → Wo → Rs → Wo → Prop} {k : Nat} (hl : ∀ as W r W1, R as W r W1 → as.length = k) (hk : Nat.ble k N.length = true) (h : ∀ as W r W1, R as W r W1 → EvS N.length W ts (env0 as) (.rt r W1)) {vs : List V} {H : Hp} {Q : VK} {X : XK} (hs : spM R vs H Q X) {D : Ends} (hD : D.rt = Q) : ts D (start N vs) H := by
  obtain ⟨B, W, as, r, W1, s, hw, ha, hR, q⟩ := hs
  have lv := Paired.length ha
  have e := env_start (m := N.length - vs.length) s ha
  have hn : vs.length + (N.length - vs.length) = N.length := by
    have := hl as W r W1 hR
    have := Nat.le_of_ble_eq_true hk
    omega
  rw [hn] at e
  have e1 : Env N.length W B (cutW W H) B H (vs.map some ++ List.replicate (N.length - vs.length) none) (env0 as) := by
    refine ⟨⟨Same.refl _, cutW_same, s, fun _ n _ => n⟩, e.len, fun i r hr => ?_, e.ne, fun l o h => ?_, fun i r l hi ho _ => ?_⟩
    · obtain ⟨v, a, b⟩ := e.at_ i r hr
      unfold env0 at hr
      obtain ⟨y, _, rfl⟩ := Option.map_eq_some_iff.mp hr
      exact ⟨v, a, b⟩
    · obtain ⟨a, b⟩ := hw l o h
      exact ⟨cutW_none (by rw [h]; rfl), a, b⟩
    · unfold env0 at hi
      obtain ⟨y, _, rfl⟩ := Option.map_eq_some_iff.mp hi
      cases ho
  exact h as W r W1 hR B (cutW W H) B H _ e1 D fun v B1 H1 x c ow => by rw [hD]; exact q v B1 H1 x c ow
/-- .. that end without return -/
theorem fn_goMN {N : List Str} {ts : TS} {R : List AV → Wo → Rs → Wo → Prop} {k : Nat} {K : PySem.W.Frag} (hl : ∀ as W r W1, R as W r W1 → as.length = k) (hk : Nat.ble k N.length = true) (h : ∀ as W r W1, R as W r W1 → r = .fz (dat K .none) ∧ ∃ E1, EvS N.length W ts (env0 as) (.nx E1 W1)) {vs : List V} {H : Hp} {Q : VK} {X : XK} (hs : spM R vs H Q X) {D : Ends} (hD : ∀ σ H, Q .non H → D.nx σ H) : ts D (start N vs) H := by
  obtain ⟨B, W, as, r, W1, s, hw, ha, hR, q⟩ := hs
  obtain ⟨rfl, E1, hE⟩ := h as W r W1 hR
  have lv := Paired.length ha
  have e := env_start (m := N.length - vs.length) s ha
  have hn : vs.length + (N.length - vs.length) = N.length := by
    have := hl as W _ W1 hR
    have := Nat.le_of_ble_eq_true hk
    omega
  rw [hn] at e
  have e1 : Env N.length W B (cutW W H) B H (vs.map some ++ List.replicate (N.length - vs.length) none) (env0 as) := by
    refine ⟨⟨Same.refl _, cutW_same, s, fun _ n _ => n⟩, e.len, fun i r hr => ?_, e.ne, fun l o h => ?_, fun i r l hi ho _ => ?_⟩
    · obtain ⟨v, a, b⟩ := e.at_ i r hr
      unfold env0 at hr
      obtain ⟨y, _, rfl⟩ := Option.map_eq_some_iff.mp hr
      exact ⟨v, a, b⟩
    · obtain ⟨a, b⟩ := hw l o h
      exact ⟨cutW_none (by rw [h]; rfl), a, b⟩
    · unfold env0 at hi
      obtain ⟨y, _, rfl⟩ := Option.map_eq_some_iff.mp hi
      cases ho
  exact hE B (cutW W H) B H _ e1 D fun σ1 B1 H1 sB e2 => hD σ1 H1 (q .non B1 H1 e2.x .non e2.w)
theorem spM_len {R : List AV → Wo → Rs → Wo → Prop} {k : Nat} {vs : List V} {H : Hp} {Q : VK} {X : XK} (hl : ∀ as W r W1, R as W r W1 → as.length = k) (h : spM R vs H Q X) : vs.length = k := by
  obtain ⟨B, W, as, r, W1, _, _, ha, hR, _⟩ := h
  rw [Paired.length ha]
  exact hl as W r W1 hR
end Cs
namespace Cs
open PySem PySem.Spec L2
section
variable {K : PySem.W.Frag} {n : Nat} {W : Wo} {E : En}
theorem Env.weakW {W1 W2 : Wo} {B0 H0 B H : Hp} {σ : L2.St} (e : Env n W2 B0 H0 B H σ E) (h : ∀ l o, W1 l = some o → W2 l = some o) : Env n W1 B0 H0 B H σ E :=
  ⟨e.x, e.len, e.at_, e.ne, fun l o hl => e.w l o (h l o hl), fun i r l hi ho hl => by
    have := e.wn i r l hi ho hl
    cases hw : W1 l with
    | none => rfl
    | some o => rw [h l o hw] at this; cases this⟩
theorem evs_weakW {W1 W2 : Wo} {ts : TS} {E1 : En} (h : EvS n W ts E (.nx E1 W2)) (s : ∀ l o, W1 l = some o → W2 l = some o) : EvS n W ts E (.nx E1 W1) := fun B0 H0 B H σ e D q => h B0 H0 B H σ e D fun σ1 B1 H1 s1 e1 => q σ1 B1 H1 s1 (e1.weakW s)
theorem evs_eqW {W1 W2 : Wo} {ts : TS} {E1 : En} (h : EvS n W ts E (.nx E1 W2)) (s : W1 = W2) : EvS n W ts E (.nx E1 W1) := by rw [s]; exact h
/-- for g in f(..), f told a list that stays -/
theorem evs_forM {vs : List Nat} {te : TE} {g : TG} {tb : TS} {as : List AV} {W1 : Wo} (inv : Nat → En) (Wv : Nat → Wo) (hi : EvM n W te E (lstA K as) W1) (hW : Wv 0 = W1) (h0 : ∀ i r, inv 0 i = some r → E i = some r)
    (step : ∀ i a, as[i]? = some a → ∃ E1, EvG n (Wv i) vs g (inv i) (.fz a) E1 ∧ EvS n (Wv i) tb E1 (.nx (inv (i + 1)) (Wv (i + 1)))) : EvS n W (tFor (iList K te) g tb) E (.nx (inv as.length) (Wv as.length)) := fun B0 H0 B H σ e D q =>
  hi B0 H0 B H σ e _ fun v B1 H1 s1 e1 ⟨a, xs, ev, hs, ha⟩ => by
    have it := iter_lst hs ha
    refine ⟨a, ev, ⟨xs, e1.s.seq hs⟩, ?_⟩
    refine for_it it.w (fun i σ H => ∃ B, Env n (Wv i) B0 H0 B H σ (inv i) ∧ Same B1 B) ⟨B1, by rw [hW]; exact e1.weak h0, Same.refl _⟩ (fun i σ H _ ⟨B, e, s⟩ => s.trans e.s) ?_ fun σ H ⟨B2, e, s⟩ => q σ B2 H (s1.trans s) e
    rintro i v σ2 H2 H3 hi ⟨B2, e2, s2⟩ hy
    obtain ⟨B3, a, x3, ha, p⟩ := hy B2 s2 e2.s
    obtain ⟨E1, hg, hb⟩ := step i a ha
    exact hg B0 H0 B2 H2 B3 H3 σ2 v e2 x3 p _ fun σ4 e4 _ => hb B0 H0 B3 H3 σ4 e4 _ fun σ5 B5 H5 s5 e5 => ⟨B5, e5, s2.trans (x3.b.trans s5)⟩
theorem EvM.of {te : TE} {a b : AV} {W1 : Wo} (h : EvM n W te E a W1) (i : ∀ v B, a.p v B → b.p v B) : EvM n W te E b W1 := fun B0 H0 B H σ e Q q => h B0 H0 B H σ e Q fun v B1 H1 s e1 c => q v B1 H1 s e1 (i _ _ c)
theorem paired_take {α β : Type} {R : α → β → Prop} : ∀ {l : List α} {m : List β} (k : Nat), Paired R l m → Paired R (l.take k) (m.take k)
  | _, _, 0, _ => .nil
  | _, _, _ + 1, .nil => .nil
  | _, _, k + 1, .cons a b => .cons a (paired_take k b)
theorem paired_drop {α β : Type} {R : α → β → Prop} : ∀ {l : List α} {m : List β} (k : Nat), Paired R l m → Paired R (l.drop k) (m.drop k)
  | _, _, 0, h => h
  | _, _, _ + 1, .nil => .nil
  | _, _, k + 1, .cons _ b => paired_drop k b
/-- t[k:], k reckoned -/
theorem ev_dropE {ta tl : TE} {ds : List PyData} {k : Nat} (ha : EvD K n W ta E (.tuple ds)) (hk : EvD K n W tl E (.int (k : Nat))) (h1 : 1 ≤ k) (hd : 1 ≤ ds.length) : EvD K n W (tSl (rSlT K) ta (tPart tl) tNoPart) E (.tuple (ds.drop k)) := fun B0 H0 B H σ e Q q => ha B0 H0 B H σ e _ fun v B1 H1 x c => hk B0 H0 B1 H1 σ (e.ext x) _ fun w B2 H2 y c2 => by
  cases c2
  obtain ⟨a, xs, ev, hs, hx⟩ := dat_tup ((dat K _).mono y.b c)
  have lx := Paired.length hx
  rw [List.length_map] at lx
  refine ⟨_, rfl, a, xs, ev, Same.tup y.s hs, whole_not h1 (by omega), fun p hp => q _ _ _ ((x.trans y).trans (.new y.s hp)) (tup_dat ⟨p, _, rfl, .inl (.inl upd_same), ?_⟩)⟩
  unfold cutV
  rw [cut_drop, List.map_drop]
  exact AllA.mono (same_upd (y.s.free hp)) (paired_drop k hx)
/-- t[i:j], both written -/
theorem ev_cutT {ta : TE} {ds : List PyData} {z u : Int} (ha : EvD K n W ta E (.tuple ds)) (i j : Nat) (h1 : 1 ≤ i) (hd : 1 ≤ ds.length) (hj : i ≤ j) (hj2 : j ≤ ds.length) (hz : z = (i : Int) := by rfl) (hu : u = (j : Int) := by rfl) : EvD K n W (tSl (rSlT K) ta (tPart (tC (.int z))) (tPart (tC (.int u)))) E (.tuple ((ds.drop i).take (j - i))) := fun B0 H0 B H σ e Q q => ha B0 H0 B H σ e _ fun v B1 H1 x c => by
  subst hz hu
  obtain ⟨a, xs, ev, hs, hx⟩ := dat_tup c
  have lx := Paired.length hx
  rw [List.length_map] at lx
  refine ⟨_, rfl, _, rfl, a, xs, ev, Same.tup x.s hs, ?_, fun p hp => q _ _ _ (x.trans (.new x.s hp)) (tup_dat ⟨p, _, rfl, .inl (.inl upd_same), ?_⟩)⟩
  · rw [HT.sIx_nat, HT.sIx_nat]
    intro h
    have := h.1
    omega
  · unfold cutV
    rw [HT.sIx_nat, HT.sIx_nat, Nat.min_eq_left (by omega), Nat.min_eq_left (by omega), List.map_take, List.map_drop]
    exact AllA.mono (same_upd (x.s.free hp)) (paired_take _ (paired_drop _ hx))
/-- sum of a list of numbers -/
theorem dp_ints {B : Hp} : ∀ {ns : List Int} {xs : List V}, AllA B xs ((ns.map PyData.int).map (dat K)) → xs = ns.map V.int
  | [], [], _ => rfl
  | _ :: _, _ :: _, .cons h t => by
    cases h
    rw [dp_ints t]
    rfl
theorem ev_sum {ta : TE} {ns : List Int} (ha : Ev n W ta E (.own ((ns.map PyData.int).map (dat K)))) : EvD K n W (tCB (rSum K) (tCons ta tNil)) E (.int ns.sum) := fun B0 H0 B H σ e Q q => ha B0 H0 B H σ e _ fun v B1 H1 x ⟨l, xs, ev, _, _, eH, hx⟩ => by
  obtain rfl := dp_ints hx
  exact ⟨l, ns, by rw [ev], SqL.of eH, q _ B1 H1 x (.int _)⟩
theorem all_rep {B : Hp} {xs : List V} {as : List AV} (h : AllA B xs as) : ∀ k : Nat, AllA B (List.replicate k xs).flatten (List.replicate k as).flatten
  | 0 => .nil
  | k + 1 => by
    rw [List.replicate_succ, List.replicate_succ, List.flatten_cons, List.flatten_cons]
    exact allA_append h (all_rep h k)
/-- [x] * k -/
theorem ev_rep {ta tb : TE} {as : List AV} {k : Nat} (ha : Ev n W ta E (.own as)) (hb : EvD K n W tb E (.int (k : Nat))) (hz : as.length * k ≤ 1000000) (hk : k ≤ 1000000) : Ev n W (tOp rRep ta tb) E (.own (List.replicate k as).flatten) := fun B0 H0 B H σ e Q q => ha B0 H0 B H σ e _ fun v B1 H1 x ⟨l, xs, ev, hn, nB, eH, hx⟩ => hb B0 H0 B1 H1 σ (e.ext x) _ fun w B2 H2 y c2 => by
  cases c2
  have lx := Paired.length hx
  have x2 := x.trans y
  refine ⟨l, _, xs, ev, rfl, y.h _ _ eH, by omega, by omega, small (by rw [lx, Int.toNat_natCast]; exact hz), fun p hp => ?_⟩
  refine q _ _ _ (x2.trans (.own y.s hp)) ⟨p, _, rfl, x2.h.free hp, y.s.free hp, upd_same, ?_⟩
  rw [Int.toNat_natCast]
  exact all_rep (hx.mono y.b) k
/-- int(b) -/
theorem ev_intB {ta : TE} {b : Bool} (ha : EvD K n W ta E (.bool b)) : EvD K n W (tCB (fun xs H Q => (∃ i, xs = [.int i] ∧ Q (.int i) H) ∨ ∃ k, xs = [.bl k] ∧ Q (.int (if k then 1 else 0)) H) (tCons ta tNil)) E (.int (if b then 1 else 0)) := fun B0 H0 B H σ e Q q => ha B0 H0 B H σ e _ fun v B1 H1 x c => by
  cases c
  exact .inr ⟨b, rfl, q _ B1 H1 x (.int _)⟩
theorem ev_addN {ta tb : TE} {x y : Nat} (ha : EvD K n W ta E (.int (x : Nat))) (hb : EvD K n W tb E (.int (y : Nat))) : EvD K n W (tOp (rI0 fun i j => .int (i + j)) ta tb) E (.int ((x + y : Nat))) := ev_add ha hb
theorem evT_strNe {x y : Str} {ta tb : TE} (ha : EvD K n W ta E (.str x)) (hb : EvD K n W tb E (.str y)) : EvT n W (tTest (tOp rNe ta tb)) E (!decide (x = y)) := evT_test (K := K) (ev_op ha hb fun v w B H hv hw s Q q => by
  cases hv
  cases hw
  refine ⟨rfl, q _ B H (.refl s) ?_⟩
  have : (!decide (V.str x = V.str y)) = !decide (x = y) := by
    congr 1
    rw [Bool.eq_iff_iff, decide_eq_true_iff, decide_eq_true_iff]
    exact ⟨fun h => by injection h, fun h => by rw [h]⟩
  rw [this]
  exact .bl _)
/-- [w, ..].index(x) -/
theorem eqV_str (a b : Str) : eqV (.str a) (.str b) = (a == b) := rfl
def idxOk (ws : List Str) (x : Str) (i : Nat) : Bool := (ws[i]? == some x) && ((List.range i).all fun m => ws[m]? != some x)
theorem ev_index {ta tb : TE} {ws : List Str} {x : Str} {i : Nat} (ha : Ev n W ta E (.own ((ws.map PyData.str).map (dat K)))) (hb : EvD K n W tb E (.str x)) (hi : idxOk ws x i = true) : EvD K n W (tBM K "list" (rIndex K) ta (tCons tb tNil)) E (.int (i : Nat)) := fun B0 H0 B H σ e Q q => ha B0 H0 B H σ e _ fun v B1 H1 x1 ⟨l, xs, ev, hn, nB, eH, hx⟩ => by
  obtain rfl := dp_strs hx
  rw [ev]
  refine ⟨.inl ⟨rfl, _, SqL.of eH⟩, hb B0 H0 B1 H1 σ (e.ext x1) _ fun w B2 H2 x2 c2 => ?_⟩
  cases c2
  unfold idxOk at hi
  rw [Bool.and_eq_true] at hi
  have h1 : ws[i]? = some x := by
    have := hi.1
    exact eq_of_beq this
  refine ⟨l, _, .str x, i, .str x, rfl, rfl, SqL.of (x2.h _ _ eH), rfl, ?_, by rw [List.getElem?_map, h1]; rfl, by rw [eqV_str]; exact beq_self_eq_true x, fun m z' hm hz => ?_, q _ B2 H2 (x1.trans x2) (.int _)⟩
  · rw [List.all_map]
    exact List.all_eq_true.mpr fun _ _ => rfl
  · rw [List.getElem?_map] at hz
    obtain ⟨u, hu, rfl⟩ := Option.map_eq_some_iff.mp hz
    have h2 := List.all_eq_true.mp hi.2 m (List.mem_range.mpr hm)
    rw [eqV_str]
    cases hc : (u == x) with
    | false => rfl
    | true =>
      have : u = x := eq_of_beq hc
      rw [hu, this] at h2
      simp at h2
/-- t[-1] -/
theorem ev_ixTneg {ta : TE} {ds : List PyData} {d : PyData} (ha : EvD K n W ta E (.tuple ds)) (h : ds.getLast? = some d) : EvD K n W (tOp (rIxT K) ta (tUn (rU fun i => V.int (-i)) (tC (.int 1)))) E d := fun B0 H0 B H σ e Q q => ha B0 H0 B H σ e _ fun v B1 H1 x c => by
  obtain ⟨p, xs, ev, hs, hx⟩ := dat_tup c
  have lx := Paired.length hx
  rw [List.length_map] at lx
  have hne : ds ≠ [] := fun z => by rw [z] at h; cases h
  have hpos : 0 < ds.length := List.length_pos_iff.mpr hne
  rw [List.getLast?_eq_getElem?] at h
  obtain ⟨y, h1, h2⟩ := paired_get' hx (show (ds.map (dat K))[ds.length - 1]? = some (dat K d) by rw [List.getElem?_map, h]; rfl)
  refine ⟨1, rfl, p, xs, -1, y, ev, rfl, Same.tup x.s hs, ?_, q y B1 H1 x h2⟩
  unfold atI ixN
  rw [if_neg (by decide), if_pos (by omega)]
  show xs[_]? = _
  rw [show ((-1 : Int) + (xs.length : Int)).toNat = ds.length - 1 by omega]
  exact h1
/-- 0 - n -/
theorem ev_zeroSub {tb : TE} {m : Int} (hb : EvD K n W tb E (.int m)) : EvD K n W (tOp (rI0 fun i j => .int (i - j)) (tC (.int 0)) tb) E (.int (-m)) := (ev_sub ev_int hb).cong (by rw [Int.zero_sub])
/-- {'num': .., 'sum': .., 'len': ..}[x] -/
theorem merge_nodup : ∀ (kvs acc : List (Key × V)), (acc ++ kvs).map (·.1) |>.Nodup → mergeK acc kvs = acc ++ kvs
  | [], acc, _ => (List.append_nil acc).symm
  | (k, v) :: r, acc, h => by
    show mergeK (putK acc k v) r = _
    have hn : valV acc k = none := by
      cases e : valV acc k with
      | none => rfl
      | some u =>
        have z := valV_any k acc
        rw [e] at z
        obtain ⟨x, hx, ex⟩ := List.any_eq_true.mp z
        rw [List.map_append, List.map_cons, List.nodup_append] at h
        exact absurd (of_decide_eq_true ex) (h.2.2 x.1 (List.mem_map.mpr ⟨x, hx, rfl⟩) k (List.mem_cons_self ..))
    rw [putK_new hn, merge_nodup r (acc ++ [(k, v)]) (by rw [List.append_assoc]; exact h), List.append_assoc]
    rfl
theorem ev_disp3 {t1 t2 t3 ty : TE} {a1 a2 a3 : PyData} {k1 k2 k3 x : Str} {d : PyData} (h1 : EvD K n W t1 E a1) (h2 : EvD K n W t2 E a2) (h3 : EvD K n W t3 E a3) (hy : EvD K n W ty E (.str x)) (hk : (if k1 = x then some a1 else if k2 = x then some a2 else if k3 = x then some a3 else none) = some d) (hn : k1 ≠ k2 ∧ k1 ≠ k3 ∧ k2 ≠ k3 := by decide +kernel) :
    EvD K n W (tDGet (tDisp [(tC (.str k1), t1), (tC (.str k2), t2), (tC (.str k3), t3)]) ty) E d := fun B0 H0 B H σ e Q q p hp => by
  have x0 := Ext.own (o := .dK []) e.s hp
  have nB : B p = none := e.s.free hp
  refine h1 B0 H0 B _ σ (e.ext x0) _ fun v1 B1 H1 x1 c1 => h2 B0 H0 B1 H1 σ ((e.ext x0).ext x1) _ fun v2 B2 H2 x2 c2 => h3 B0 H0 B2 H2 σ (((e.ext x0).ext x1).ext x2) _ fun v3 B3 H3 x3 c3 => ?_
  have x13 := x1.trans (x2.trans x3)
  have eH : H3 p = some (.dK []) := x13.h _ _ upd_same
  have nB3 : B3 p = none := x13.f _ nB (some_ne upd_same)
  refine ⟨eH, [(.inr k1, v1), (.inr k2, v2), (.inr k3, v3)], rfl, Nat.le_of_ble_eq_true rfl, ?_⟩
  rw [show mergeK [] [((.inr k1 : Key), v1), (.inr k2, v2), (.inr k3, v3)] = [(.inr k1, v1), (.inr k2, v2), (.inr k3, v3)] from merge_nodup _ [] (by
    simp only [List.map_cons, List.map_nil, List.nil_append, List.nodup_cons, List.mem_cons, List.not_mem_nil, or_false, not_or, not_false_eq_true, List.nodup_nil, and_true, Sum.inr.injEq]
    exact ⟨⟨hn.1, hn.2.1⟩, hn.2.2⟩)]
  have x4 : Ext B H B3 (upd H3 p (.dK [(.inr k1, v1), (.inr k2, v2), (.inr k3, v3)])) := new_append (x0.trans x13) hp nB3
  refine hy B0 H0 B3 _ σ (e.ext x4) _ fun u B4 H4 x5 c5 => ?_
  cases c5
  have eH4 : H4 p = some (.dK [(.inr k1, v1), (.inr k2, v2), (.inr k3, v3)]) := x5.h _ _ upd_same
  have x45 := x4.trans x5
  have hd : ∃ y, valV [((.inr k1 : Key), v1), (.inr k2, v2), (.inr k3, v3)] (.inr x) = some y ∧ Dp K B4 y d := by
    by_cases e1 : k1 = x
    · rw [if_pos e1] at hk
      cases hk
      exact ⟨v1, valV_pos (congrArg Sum.inr e1), Dp.same ((x2.trans x3).b.trans x5.b) c1⟩
    · rw [if_neg e1] at hk
      rw [valV_neg (fun z => e1 (Sum.inr.inj z))]
      by_cases e2 : k2 = x
      · rw [if_pos e2] at hk
        cases hk
        exact ⟨v2, valV_pos (congrArg Sum.inr e2), Dp.same (x3.b.trans x5.b) c2⟩
      · rw [if_neg e2] at hk
        rw [valV_neg (fun z => e2 (Sum.inr.inj z))]
        by_cases e3 : k3 = x
        · rw [if_pos e3] at hk
          cases hk
          exact ⟨v3, valV_pos (congrArg Sum.inr e3), Dp.same x5.b c3⟩
        · rw [if_neg e3] at hk
          cases hk
  obtain ⟨y, hy1, hy2⟩ := hd
  exact ⟨p, y, rfl, .inl ⟨_, .inr x, .inl eH4, rfl, hy1.symm⟩, q y B4 H4 x45 hy2⟩
theorem evs_rtW {W1 W2 : Wo} {ts : TS} {r : Rs} (h : EvS n W ts E (.rt r W2)) (s : ∀ l o, W1 l = some o → W2 l = some o) : EvS n W ts E (.rt r W1) := fun B0 H0 B H σ e D q => h B0 H0 B H σ e D fun v B1 H1 x c ow => q v B1 H1 x c fun l o hl => ow l o (s l o hl)
end
/-- .. that end without return, or tell None -/
theorem fn_goME {N : List Str} {ts : TS} {R : List AV → Wo → Rs → Wo → Prop} {k : Nat} {K : PySem.W.Frag} (hl : ∀ as W r W1, R as W r W1 → as.length = k) (hk : Nat.ble k N.length = true) (h : ∀ as W r W1, R as W r W1 → r = .fz (dat K .none) ∧ ((∃ E1, EvS N.length W ts (env0 as) (.nx E1 W1)) ∨ EvS N.length W ts (env0 as) (.rt r W1))) {vs : List V} {H : Hp} {Q : VK} {X : XK} (hs : spM R vs H Q X) {D : Ends} (hD : ∀ σ H, Q .non H → D.nx σ H) (hDr : D.rt = Q) : ts D (start N vs) H := by
  obtain ⟨B, W, as, r, W1, s, hw, ha, hR, q⟩ := hs
  obtain ⟨e, h2⟩ := h as W r W1 hR
  rcases h2 with h2 | h2
  · exact fn_goMN (K := K) (R := fun as' W' r' W1' => as' = as ∧ W' = W ∧ r' = r ∧ W1' = W1) (fun as' W' r' W1' ⟨e1, _⟩ => by rw [e1]; exact hl as W r W1 hR) hk (fun as' W' r' W1' ⟨e1, e2, e3, e4⟩ => by subst e1 e2 e3 e4; exact ⟨e, h2⟩) (X := X) ⟨B, W, as, r, W1, s, hw, ha, ⟨rfl, rfl, rfl, rfl⟩, q⟩ hD
  · exact fn_goM (R := fun as' W' r' W1' => as' = as ∧ W' = W ∧ r' = r ∧ W1' = W1) (fun as' W' r' W1' ⟨e1, _⟩ => by rw [e1]; exact hl as W r W1 hR) hk (fun as' W' r' W1' ⟨e1, e2, e3, e4⟩ => by subst e1 e2 e3 e4; exact h2) (X := X) ⟨B, W, as, r, W1, s, hw, ha, ⟨rfl, rfl, rfl, rfl⟩, q⟩ hDr
end Cs
namespace Cs
open PySem PySem.Spec L2
/-! ## a copy of a dict of lists and dicts, while it is locked -/
section
variable {K : PySem.W.Frag} {n : Nat} {W : Wo} {E : En}
abbrev RC := List V → Hp → VK → Prop
def rListO (K : PySem.W.Frag) : RC := fun xs H Q => ∃ (p : Addr) (ys : List V), xs = [.ref p] ∧ (SqL K H p ys ∨ SqT K H p ys) ∧ ∀ l, H l = none → Q (.ref l) (upd H l (.lst ys))
/-- the pair of a key and a copy of what stands there -/
abbrev tPair (K : PySem.W.Frag) (d k : Nat) (rD rL : RC) : TE := tTup (tCons (tVar k) (tCons (tIf (tTest (tOp (rIn K false) (tVar k) (tTup (tCons (tC (.str "made")) (tCons (tC (.str "root")) tNil))))) (tCB rD (tCons (tDGet (tVar d) (tVar k)) tNil)) (tCB rL (tCons (tDGet (tVar d) (tVar k)) tNil))) tNil))
def OkD (rD : RC) : Prop := ∀ a kvs H (Q : VK), H a = some (.dK kvs) → (∀ p, H p = none → Q (.ref p) (upd H p (.dK kvs))) → rD [.ref a] H Q
def OkL (rL : RC) : Prop := ∀ a xs H (Q : VK), H a = some (.lst xs) → (∀ p, H p = none → Q (.ref p) (upd H p (.lst xs))) → rL [.ref a] H Q
def OkP (rP : RC) : Prop := ∀ a (ps : List Addr) (kvs : List (Key × V)) H (Q : VK), H a = some (.lst (ps.map V.ref)) → Paired (fun p kv => H p = some (.tup [kV kv.1, kv.2])) ps kvs → (∀ p, H p = none → Q (.ref p) (upd H p (.dK (mergeK [] kvs)))) → rP [.ref a] H Q
theorem okL_of : OkL (rListO K) := fun a xs H Q h q => ⟨a, xs, rfl, .inl (SqL.of h), q⟩
theorem same_ne {H H1 : Hp} {a p : Addr} {o : HO} (s : Same H H1) (h : H a = some o) (hp : H1 p = none) : a ≠ p := fun z => by
  have := s _ _ h
  rw [z, hp] at this
  cases this
theorem pair_raw {rD rL : RC} (oD : OkD rD) (oL : OkL rL) {d k : Nat} {σ : L2.St} {H : Hp} {Q : VK} {x : Str} {D a : Addr} {ws : List (Key × V)} {u : HO} (hd : σ[d]? = some (some (.ref D))) (hk : σ[k]? = some (some (.str x))) (hg : Rd H D (.dK ws)) (hv : valV ws (.inr x) = some (.ref a)) (ha : H a = some u)
    (hu : (∃ xs, u = .lst xs ∧ ((["made", "root"] : List Str).any fun y => y == x) = false) ∨ ∃ kvs, u = .dK kvs ∧ ((["made", "root"] : List Str).any fun y => y == x) = true)
    (q : ∀ p c H4, Same H H4 → H p = none → H c = none → p ≠ c → H4 c = some u → H4 p = some (.tup [.str x, .ref c]) → Q (.ref p) H4) : tPair K d k rD rL σ H Q := by
  have tst := evT_inS (K := K) (n := σ.length) (W := W0) (E := fun i => if i = k then some (.fz (dat K (.str x))) else none) (x := x) (ws := ["made", "root"]) (ta := tVar k) (tb := tTup (tCons (tC (.str "made")) (tCons (tC (.str "root")) tNil))) (ev_var (if_pos rfl)) (ev_tupD (K := K) (ds := [.str "made", .str "root"]) (evAD_cons ev_str (evAD_cons ev_str evAD_nil)))
  have env : Env σ.length W0 (fun _ => none) H (fun _ => none) H σ (fun i => if i = k then some (.fz (dat K (.str x))) else none) := by
    refine ⟨.refl (fun _ _ z => by cases z), rfl, fun i r h => ?_, fun i j r q l ij h1 o1 h2 o2 => ?_, fun l o h => (by cases h), fun i r l h o => ?_⟩
    · by_cases c : i = k
      · rw [if_pos c] at h
        cases h
        exact ⟨_, by rw [c]; exact hk, .str x⟩
      · rw [if_neg c] at h
        cases h
    · by_cases c : i = k
      · rw [if_pos c] at h1
        cases h1
        cases o1
      · rw [if_neg c] at h1
        cases h1
    · by_cases c : i = k
      · rw [if_pos c] at h
        cases h
        cases o
      · rw [if_neg c] at h
        cases h
  refine ⟨.str x, hk, tst (fun _ => none) H (fun _ => none) H σ env _ fun B1 H1 x1 => ?_⟩
  have hg1 : Rd H1 D (.dK ws) := by
    rcases hg with h | ⟨o, h⟩
    · exact .inl (x1.h _ _ h)
    · exact .inr ⟨o, x1.h _ _ h⟩
  have ha1 := x1.h _ _ ha
  have fin : ∀ c, H1 c = none → ∀ p, (upd H1 c u) p = none → Q (.ref p) (upd (upd H1 c u) p (.tup [.str x, .ref c])) := fun c hc p hp => by
    have hpc : p ≠ c := fun z => by rw [z, upd_same] at hp; cases hp
    have hp1 : H1 p = none := by rw [upd_ne hpc] at hp; exact hp
    exact q p c _ ((x1.h.trans (same_upd hc)).trans (same_upd hp)) (x1.h.free hp1) (x1.h.free hc) hpc (by rw [upd_ne hpc.symm, upd_same]) upd_same
  rcases hu with ⟨xs, rfl, e⟩ | ⟨kvs, rfl, e⟩
  · rw [e]
    exact ⟨.ref D, hd, .str x, hk, D, .ref a, rfl, .inl ⟨ws, .inr x, hg1, rfl, hv.symm⟩, oL a xs H1 _ ha1 fun c hc => ⟨Nat.le_of_ble_eq_true rfl, fun p hp => fin c hc p hp⟩⟩
  · rw [e]
    exact ⟨.ref D, hd, .str x, hk, D, .ref a, rfl, .inl ⟨ws, .inr x, hg1, rfl, hv.symm⟩, oD a kvs H1 _ ha1 fun c hc => ⟨Nat.le_of_ble_eq_true rfl, fun p hp => fin c hc p hp⟩⟩
def hereV (n k m r : Addr) : List (Key × V) := [(.inr "names", .ref n), (.inr "known", .ref k), (.inr "made", .ref m), (.inr "root", .ref r)]
theorem same_frz {H H1 : Hp} {d : Addr} {u : HO} {od : Obj} (hd : H d = some u) (s : Same (upd H d (.frz od u)) H1) : Same H (upd H1 d u) := fun a o h => by
  by_cases c : a = d
  · rw [c] at h ⊢
    rw [hd] at h
    rw [upd_same]
    exact h
  · rw [upd_ne c]
    exact s _ _ (by rw [upd_ne c]; exact h)
/-- what is told of the copies so far -/
structure Cps (G H : Hp) (D : Addr) (us : List (Str × HO)) (es : List (Addr × Addr)) : Prop where
  nd : (es.map (·.2)).Nodup
  ok : ∀ (j : Nat) (p c : Addr), es[j]? = some (p, c) → ∃ x u, us[j]? = some (x, u) ∧ H p = some (.tup [.str x, .ref c]) ∧ H c = some u ∧ G c = none ∧ G p = none ∧ p ≠ D ∧ c ≠ D
theorem Cps.up {G H H1 : Hp} {D : Addr} {us : List (Str × HO)} {es : List (Addr × Addr)} (h : Cps G H D us es) (s : ∀ a o, a ≠ D → H a = some o → H1 a = some o) : Cps G H1 D us es :=
  ⟨h.nd, fun j p c e => let ⟨x, u, a, b, b2, g1, g2, n1, n2⟩ := h.ok j p c e; ⟨x, u, a, s _ _ n1 b, s _ _ n2 b2, g1, g2, n1, n2⟩⟩
theorem Cps.add {G H : Hp} {D p c : Addr} {us : List (Str × HO)} {es : List (Addr × Addr)} {x : Str} {u : HO} (h : Cps G H D us es) (hn : ∀ e ∈ es, e.2 ≠ c) (hu : us[es.length]? = some (x, u)) (hp : H p = some (.tup [.str x, .ref c])) (hc : H c = some u) (g1 : G c = none) (g2 : G p = none) (n1 : p ≠ D) (n2 : c ≠ D) : Cps G H D us (es ++ [(p, c)]) := by
  refine ⟨?_, fun j p2 c2 e => ?_⟩
  · rw [List.map_append, List.nodup_append]
    refine ⟨h.nd, List.nodup_cons.mpr ⟨List.not_mem_nil, List.nodup_nil⟩, fun a ha b hb z => ?_⟩
    obtain ⟨e, he, rfl⟩ := List.mem_map.mp ha
    rw [List.map_cons, List.map_nil, List.mem_singleton] at hb
    exact hn e he (by rw [z, hb])
  · rcases Nat.lt_or_ge j es.length with hj | hj
    · rw [List.getElem?_append_left hj] at e
      exact h.ok j p2 c2 e
    · rw [List.getElem?_append_right hj] at e
      have e0 : j - es.length = 0 := by
        rcases Nat.eq_zero_or_pos (j - es.length) with z | z
        · exact z
        · rw [List.getElem?_eq_none (by show 1 ≤ _; omega)] at e
          cases e
      rw [e0] at e
      cases e
      exact ⟨x, u, by rw [show j = es.length by omega]; exact hu, hp, hc, g1, g2, n1, n2⟩
theorem copy_raw {rD rL rP : RC} (oD : OkD rD) (oL : OkL rL) (oP : OkP rP) {s k : Nat} (sk : s ≠ k) {σ : L2.St} {H : Hp} {Q : VK} {d ln lk lm lr : Addr} {xs1 xs2 : List V} {kv1 kv2 : List (Key × V)} (h2 : σ[s]? = some (some (.ref d))) (hlen : k < σ.length)
    (hd : H d = some (.dK (hereV ln lk lm lr))) (hn : H ln = some (.lst xs1)) (hk : H lk = some (.lst xs2)) (hm : H lm = some (.dK kv1)) (hr : H lr = some (.dK kv2)) (ne : d ≠ ln ∧ d ≠ lk ∧ d ≠ lm ∧ d ≠ lr)
    (q : ∀ H9 h2 n2 k2 m2 r2, Same H H9 → [h2, n2, k2, m2, r2].Nodup → (∀ x ∈ [h2, n2, k2, m2, r2], H x = none) → H9 h2 = some (.dK (hereV n2 k2 m2 r2)) → H9 n2 = some (.lst xs1) → H9 k2 = some (.lst xs2) → H9 m2 = some (.dK kv1) → H9 r2 = some (.dK kv2) → Q (.ref h2) H9) :
    tCB rP (tCons (tLockE (tLc (iKeys (tVar s)) (gName k) tYes (tPair K s k rD rL) [k])) tNil) σ H Q := by
  refine ⟨d, _, hd, True.intro, fun od => ?_⟩
  obtain ⟨G, hG⟩ : ∃ G, upd H d (.frz od (.dK (hereV ln lk lm lr))) = G := ⟨_, rfl⟩
  have gd : G d = some (.frz od (.dK (hereV ln lk lm lr))) := by rw [← hG]; exact upd_same
  have gn : G ln = some (.lst xs1) := by rw [← hG, upd_ne ne.1.symm]; exact hn
  have gk : G lk = some (.lst xs2) := by rw [← hG, upd_ne ne.2.1.symm]; exact hk
  have gm : G lm = some (.dK kv1) := by rw [← hG, upd_ne ne.2.2.1.symm]; exact hm
  have gr : G lr = some (.dK kv2) := by rw [← hG, upd_ne ne.2.2.2.symm]; exact hr
  have gH : ∀ a, G a = none → H a = none := fun a h => by
    rw [← hG] at h
    by_cases c : a = d
    · rw [c, upd_same] at h; cases h
    · rw [upd_ne c] at h; exact h
  have sG : ∀ H1, Same G H1 → Same H (upd H1 d (.dK (hereV ln lk lm lr))) := fun H1 s1 => same_frz (od := od) hd (by rw [hG]; exact s1)
  rw [hG]
  refine ⟨.ref d, h2, d, od, rfl, .inl ⟨_, gd, fun D hD => ?_⟩⟩
  have nDd : D ≠ d := fun z => by rw [z, gd] at hD; cases hD
  refine ⟨fun i m H' => m = 4 - i ∧ i ≤ 4 ∧ Same G H' ∧ ∃ es : List (Addr × Addr), es.length = i ∧ H' D = some (.lst (es.map fun e => V.ref e.1)) ∧ Cps G H' D [("names", .lst xs1), ("known", .lst xs2), ("made", .dK kv1), ("root", .dK kv2)] es, ⟨4, rfl, Nat.zero_le _, same_upd hD, [], rfl, upd_same, ⟨List.nodup_nil, fun j p c e => by simp at e⟩⟩, ?_⟩
  rintro i m H' ⟨rfl, hi, s1, es, el, eD, cp⟩
  have eD' := eD
  by_cases hlt : i < 4
  · refine .inr ⟨⟨s1 _ _ gd, hlt⟩, fun H'' => Same G H'' ∧ ∃ es : List (Addr × Addr), es.length = i + 1 ∧ H'' D = some (.lst (es.map fun e => V.ref e.1)) ∧ Cps G H'' D [("names", .lst xs1), ("known", .lst xs2), ("made", .dK kv1), ("root", .dK kv2)] es, fun H'' p => ⟨4 - (i + 1), by omega, rfl, hlt, p⟩, ?_⟩
    rintro x H'' ⟨rfl, w, v, hw, rfl⟩
    refine ⟨(wipe_set (List.mem_singleton.mpr rfl)).trans wipe_wipe, ?_⟩
    have hs2 : ((wipe σ [k]).set k (some (kV w)))[s]? = some (some (.ref d)) := by
      rw [List.getElem?_set_ne (fun z => sk z.symm), wipe_get, if_neg (fun z => sk (List.mem_singleton.mp z))]
      exact h2
    have hk2 : ((wipe σ [k]).set k (some (kV w)))[k]? = some (some (kV w)) := by
      rw [List.getElem?_set_self (by rw [wipe_length]; exact hlen)]
    have go : ∀ (x : Str) (a : Addr) (u : HO), w = .inr x → ([("names", .lst xs1), ("known", .lst xs2), ("made", .dK kv1), ("root", .dK kv2)] : List (Str × HO))[es.length]? = some (x, u) → valV (hereV ln lk lm lr) (.inr x) = some (.ref a) → G a = some u → ((∃ xs, u = .lst xs ∧ ((["made", "root"] : List Str).any fun y => y == x) = false) ∨ ∃ kvs, u = .dK kvs ∧ ((["made", "root"] : List Str).any fun y => y == x) = true) →
        tPair K s k rD rL ((wipe σ [k]).set k (some (kV w))) H'' fun y H4 => ∃ acc, H4 D = some (.lst acc) ∧ acc.length < sizeLine ∧ (Same G (upd H4 D (.lst (acc ++ [y]))) ∧ ∃ es : List (Addr × Addr), es.length = i + 1 ∧ (upd H4 D (.lst (acc ++ [y]))) D = some (.lst (es.map fun e => V.ref e.1)) ∧ Cps G (upd H4 D (.lst (acc ++ [y]))) D [("names", .lst xs1), ("known", .lst xs2), ("made", .dK kv1), ("root", .dK kv2)] es) := by
      intro x a u ew hu hv ha hh
      rw [ew] at hs2 hk2 ⊢
      refine pair_raw oD oL hs2 hk2 (.inr ⟨od, s1 _ _ gd⟩) hv (s1 _ _ ha) hh fun p c H4 s4 hp hc hpc h4c h4p => ?_
      have pD : p ≠ D := (same_ne (Same.refl _) eD hp).symm
      have cD : c ≠ D := (same_ne (Same.refl _) eD hc).symm
      refine ⟨_, s4 _ _ eD, ?_, ?_, es ++ [(p, c)], by rw [List.length_append, el]; rfl, ?_, ?_⟩
      · rw [List.length_map, el]
        exact smaller (by omega)
      · intro b o hb
        by_cases c1 : b = D
        · rw [c1, hD] at hb; cases hb
        · rw [upd_ne c1]
          exact s4 _ _ (s1 _ _ hb)
      · rw [upd_same, List.map_append]
        rfl
      · refine (cp.up fun b o nb hb => by rw [upd_ne nb]; exact s4 _ _ hb).add (fun e he z => ?_) hu (by rw [upd_ne pD]; exact h4p) (by rw [upd_ne cD]; exact h4c) (s1.free hc) (s1.free hp) pD cD
        obtain ⟨j, hj⟩ := List.getElem?_of_mem he
        obtain ⟨x2, u2, _, _, q2, _⟩ := cp.ok j e.1 e.2 hj
        rw [z, hc] at q2
        cases q2
    subst el
    have h4 : es.length = 0 ∨ es.length = 1 ∨ es.length = 2 ∨ es.length = 3 := by omega
    rcases h4 with hes | hes | hes | hes
    · rw [hes] at hw
      cases hw
      exact go "names" ln _ rfl (by rw [hes]; rfl) rfl gn (.inl ⟨_, rfl, by decide +kernel⟩)
    · rw [hes] at hw
      cases hw
      exact go "known" lk _ rfl (by rw [hes]; rfl) (by rfl) gk (.inl ⟨_, rfl, by decide +kernel⟩)
    · rw [hes] at hw
      cases hw
      exact go "made" lm _ rfl (by rw [hes]; rfl) (by rfl) gm (.inr ⟨_, rfl, by decide +kernel⟩)
    · rw [hes] at hw
      cases hw
      exact go "root" lr _ rfl (by rw [hes]; rfl) (by rfl) gr (.inr ⟨_, rfl, by decide +kernel⟩)
  · obtain rfl : i = 4 := by omega
    refine .inl ⟨⟨s1 _ _ gd, Nat.le_refl _⟩, s1 _ _ gd, ?_⟩
    obtain ⟨⟨p1, c1⟩, ⟨p2, c2⟩, ⟨p3, c3⟩, ⟨p4, c4⟩, rfl⟩ : ∃ a b c d, es = [a, b, c, d] := by
      match es, el with
      | [a, b, c, d], _ => exact ⟨a, b, c, d, rfl⟩
    obtain ⟨_, _, z1, a1, b1, f1, g1, m1, n1⟩ := cp.ok 0 p1 c1 rfl
    obtain ⟨_, _, z2, a2, b2, f2, g2, m2, n2⟩ := cp.ok 1 p2 c2 rfl
    obtain ⟨_, _, z3, a3, b3, f3, g3, m3, n3⟩ := cp.ok 2 p3 c3 rfl
    obtain ⟨_, _, z4, a4, b4, f4, g4, m4, n4⟩ := cp.ok 3 p4 c4 rfl
    cases z1
    cases z2
    cases z3
    cases z4
    have nd : ∀ a, G a = none → a ≠ d := fun a h z => by rw [z, gd] at h; cases h
    have s2 := sG _ s1
    obtain ⟨H2, hH2⟩ : ∃ H2, upd H' d (.dK (hereV ln lk lm lr)) = H2 := ⟨_, rfl⟩
    rw [hH2] at s2
    have at2 : ∀ a o, G a = none → H' a = some o → H2 a = some o := fun a o h e => by rw [← hH2, upd_ne (nd a h)]; exact e
    show rP [.ref D] (upd H' d (.dK (hereV ln lk lm lr))) Q
    rw [hH2]
    refine oP D [p1, p2, p3, p4] (hereV c1 c2 c3 c4) H2 Q (at2 _ _ hD eD) (.cons (at2 _ _ g1 a1) (.cons (at2 _ _ g2 a2) (.cons (at2 _ _ g3 a3) (.cons (at2 _ _ g4 a4) .nil)))) fun p hp => ?_
    rw [show mergeK [] (hereV c1 c2 c3 c4) = hereV c1 c2 c3 c4 from merge_nodup _ [] (by show ([.inr "names", .inr "known", .inr "made", .inr "root"] : List Key).Nodup; decide +kernel)]
    have np : ∀ a o, H2 a = some o → p ≠ a := fun a o h z => by rw [z, h] at hp; cases hp
    have e1 := at2 _ _ f1 b1
    have e2 := at2 _ _ f2 b2
    have e3 := at2 _ _ f3 b3
    have e4 := at2 _ _ f4 b4
    have ndc := cp.nd
    refine q _ p c1 c2 c3 c4 (s2.trans (same_upd hp)) (List.nodup_cons.mpr ⟨?_, ndc⟩) ?_ upd_same (by rw [upd_ne (np _ _ e1).symm]; exact e1) (by rw [upd_ne (np _ _ e2).symm]; exact e2) (by rw [upd_ne (np _ _ e3).symm]; exact e3) (by rw [upd_ne (np _ _ e4).symm]; exact e4)
    · simp only [List.mem_cons, List.not_mem_nil, or_false, not_or]
      exact ⟨np _ _ e1, np _ _ e2, np _ _ e3, np _ _ e4⟩
    · intro x hx
      simp only [List.mem_cons, List.not_mem_nil, or_false] at hx
      rcases hx with rfl | rfl | rfl | rfl | rfl
      · exact s2.free hp
      · exact gH _ f1
      · exact gH _ f2
      · exact gH _ f3
      · exact gH _ f4
end
end Cs
namespace Cs
open PySem PySem.Spec L2
section
variable {K : PySem.W.Frag} {n : Nat} {W : Wo} {E : En}
/-- what is new to a heap that keeps to E -/
theorem Env.new {B0 H0 B H : Hp} {σ : L2.St} {l : Addr} (e : Env n W B0 H0 B H σ E) (hl : H l = none) : H0 l = none ∧ B l = none ∧ (∀ i r, E i = some r → r.isOwn = true → σ[i]? ≠ some (some (.ref l))) ∧ W l = none := by
  refine ⟨e.x.h.free hl, e.s.free hl, fun i r hi ho hm => ?_, e.no hl⟩
  obtain ⟨u, a, b⟩ := e.at_ i r hi
  obtain ⟨l2, o2, ev, _, _, hu⟩ := Rs.ownRef ho b
  rw [a, ev] at hm
  cases hm
  rw [hl] at hu
  cases hu
theorem Env.moreW {B0 H0 B H : Hp} {σ : L2.St} {l : Addr} {v : Ob} (e : Env n W B0 H0 B H σ E) (n0 : H0 l = none) (nB : B l = none) (wl : ∀ i r, E i = some r → r.isOwn = true → σ[i]? ≠ some (some (.ref l))) (hv : v.at B H l) : Env n (W.put l v) B0 H0 B H σ E :=
  ⟨e.x, e.len, e.at_, e.ne, fun m ob hm => by
    by_cases c : m = l
    · subst c
      rw [Wo.same] at hm
      cases hm
      exact ⟨n0, nB, hv⟩
    · rw [Wo.ne c] at hm
      exact e.w m ob hm, fun i r m hi ho hm => by
    rw [Wo.ne (fun z => wl i r hi ho (by rw [hm, z]))]
    exact e.wn i r m hi ho hm⟩
theorem ev_dnewO : Ev n W tDNewK E (.ownd []) := fun _ _ B H _ e Q q p hp => q _ B _ (.own e.s hp) ⟨p, [], rfl, hp, e.s.free hp, upd_same, rfl, .nil⟩
/-- list(t), t a tuple of data -/
theorem ev_listT {ta : TE} {ds : List PyData} (ha : EvD K n W ta E (.tuple ds)) : Ev n W (tCB (rListO K) (tCons ta tNil)) E (.own (ds.map (dat K))) := fun B0 H0 B H σ e Q q => ha B0 H0 B H σ e _ fun v B1 H1 x c => by
  obtain ⟨a, xs, ev, hs, hx⟩ := dat_tup c
  exact ⟨a, xs, by rw [ev], .inr (Same.tup x.s hs), fun p hp => q _ B1 _ (x.trans (.own x.s hp)) ⟨p, xs, rfl, x.h.free hp, x.s.free hp, upd_same, hx⟩⟩
/-- a written dict of two new lists and a new dict -/
theorem evs_disp3W {k1 k2 k3 : Str} {t1 t2 t3 : TE} {i : Nat} {ts : TS} {o : Out} {as1 as2 : List AV} {kvs3 : List (Key × AV)} (h1 : Ev n W t1 E (.own as1)) (h2 : Ev n W t2 E (.own as2)) (h3 : Ev n W t3 E (.ownd kvs3)) (hi : i < n) (hk : k1 ≠ k2 ∧ k1 ≠ k3 ∧ k2 ≠ k3)
    (h : ∀ a b c d, [a, b, c, d].Nodup → (∀ x ∈ [a, b, c, d], W x = none) → EvS n ((((W.put a (.dct [(.inr k1, eqA (.ref b)), (.inr k2, eqA (.ref c)), (.inr k3, eqA (.ref d))])).put b (.lst as1)).put c (.lst as2)).put d (.dct kvs3)) ts (E.put i (.fz (eqA (.ref a)))) o) :
    EvS n W (tSeq (tAsg (tDisp [(tC (.str k1), t1), (tC (.str k2), t2), (tC (.str k3), t3)]) (gName i)) ts) E o := fun B0 H0 B H σ e D q p hp => by
  have x0 := Ext.own (o := .dK []) e.s hp
  have nB : B p = none := e.s.free hp
  refine h1 B0 H0 B _ σ (e.ext x0) _ fun v1 B1 H1 x1 ⟨l1, xs1, ev1, m1, n1, e1, a1⟩ => h2 B0 H0 B1 H1 σ ((e.ext x0).ext x1) _ fun v2 B2 H2 x2 ⟨l2, xs2, ev2, m2, n2, e2, a2⟩ => h3 B0 H0 B2 H2 σ (((e.ext x0).ext x1).ext x2) _ fun v3 B3 H3 x3 ⟨l3, ws3, ev3, m3, n3, e3, k3', a3⟩ => ?_
  have x13 := x1.trans (x2.trans x3)
  have eH : H3 p = some (.dK []) := x13.h _ _ upd_same
  have nB3 : B3 p = none := x13.f _ nB (some_ne upd_same)
  refine ⟨eH, [(.inr k1, v1), (.inr k2, v2), (.inr k3, v3)], rfl, Nat.le_of_ble_eq_true rfl, ?_⟩
  rw [show mergeK [] [((.inr k1 : Key), v1), (.inr k2, v2), (.inr k3, v3)] = [(.inr k1, v1), (.inr k2, v2), (.inr k3, v3)] from merge_nodup _ [] (by
    simp only [List.map_cons, List.map_nil, List.nil_append, List.nodup_cons, List.mem_cons, List.not_mem_nil, or_false, not_or, not_false_eq_true, List.nodup_nil, and_true, Sum.inr.injEq]
    exact ⟨⟨hk.1, hk.2.1⟩, hk.2.2⟩)]
  have x4 : Ext B H B3 (upd H3 p (.dK [(.inr k1, v1), (.inr k2, v2), (.inr k3, v3)])) := new_append (x0.trans x13) hp nB3
  obtain ⟨H4, hH4⟩ : ∃ H4, upd H3 p (.dK [(.inr k1, v1), (.inr k2, v2), (.inr k3, v3)]) = H4 := ⟨_, rfl⟩
  rw [hH4] at x4 ⊢
  have q1 : l1 ≠ p := fun z => by rw [z, upd_same] at m1; cases m1
  have f1 : H l1 = none := by rw [upd_ne q1] at m1; exact m1
  have pH1 : H1 p ≠ none := some_ne (x1.h _ _ upd_same)
  have q2 : l2 ≠ p := fun z => pH1 (by rw [← z]; exact m2)
  have q21 : l2 ≠ l1 := fun z => by rw [z, e1] at m2; cases m2
  have f2 : H l2 = none := (x0.h.trans x1.h).free m2
  have pH2 : H2 p ≠ none := some_ne ((x1.h.trans x2.h) _ _ upd_same)
  have q3 : l3 ≠ p := fun z => pH2 (by rw [← z]; exact m3)
  have q31 : l3 ≠ l1 := fun z => by rw [z, x2.h _ _ e1] at m3; cases m3
  have q32 : l3 ≠ l2 := fun z => by rw [z, e2] at m3; cases m3
  have f3 : H l3 = none := (x0.h.trans (x1.h.trans x2.h)).free m3
  have g1 : H4 l1 = some (.lst xs1) := by rw [← hH4, upd_ne q1]; exact (x2.h.trans x3.h) _ _ e1
  have g2 : H4 l2 = some (.lst xs2) := by rw [← hH4, upd_ne q2]; exact x3.h _ _ e2
  have g3 : H4 l3 = some (.dK ws3) := by rw [← hH4, upd_ne q3]; exact e3
  have g0 : H4 p = some (.dK [(.inr k1, v1), (.inr k2, v2), (.inr k3, v3)]) := by rw [← hH4]; exact upd_same
  have b1 : B3 l1 = none := (x2.trans x3).f _ n1 (some_ne e1)
  have b2 : B3 l2 = none := x3.f _ n2 (some_ne e2)
  have e4 := e.ext x4
  obtain ⟨z0, _, w0, y0⟩ := e.new hp
  obtain ⟨z1, _, w1, y1⟩ := e.new f1
  obtain ⟨z2, _, w2, y2⟩ := e.new f2
  obtain ⟨z3, _, w3, y3⟩ := e.new f3
  have r1 := e4.moreW (v := .dct [(.inr k1, eqA (.ref l1)), (.inr k2, eqA (.ref l2)), (.inr k3, eqA (.ref l3))]) z0 nB3 w0 ⟨_, g0, rfl, .cons ev1 (.cons ev2 (.cons ev3 .nil))⟩
  have r2 := r1.moreW (v := .lst as1) z1 b1 w1 ⟨_, g1, a1.mono (x2.b.trans x3.b)⟩
  have r3 := r2.moreW (v := .lst as2) z2 b2 w2 ⟨_, g2, a2.mono x3.b⟩
  have r4 := r3.moreW (v := .dct kvs3) z3 n3 w3 ⟨_, g3, k3', a3⟩
  refine h p l1 l2 l3 ?_ ?_ B0 H0 B3 H4 _ (r4.put (.refl r4.s) hi (r := .fz (eqA (.ref p))) rfl) D (PostO.up x4.b q)
  · simp only [List.nodup_cons, List.mem_cons, List.not_mem_nil, or_false, not_or, not_false_eq_true, List.nodup_nil, and_true]
    exact ⟨⟨q1.symm, q2.symm, q3.symm⟩, ⟨q21.symm, q31.symm⟩, q32.symm⟩
  · intro x hx
    simp only [List.mem_cons, List.not_mem_nil, or_false] at hx
    rcases hx with rfl | rfl | rfl | rfl
    · exact y0
    · exact y1
    · exact y2
    · exact y3
/-- d[x] = a new dict -/
theorem evs_dputN {td ty tv : TE} {l : Addr} {kvs kvs2 : List (Key × AV)} {x : Str} {ts : TS} {o : Out} (hv : Ev n W tv E (.ownd kvs2)) (hd : Ev n W td E (.fz (eqA (.ref l)))) (hl : W l = some (.dct kvs)) (hy : EvD K n W ty E (.str x)) (hz : kvs.length < 1000000)
    (h : ∀ m, W m = none → EvS n ((W.put m (.dct kvs2)).put l (.dct (putA kvs (.inr x) (eqA (.ref m))))) ts E o) : EvS n W (tSeq (sDPut td ty tv) ts) E o := fun B0 H0 B H σ e D q => hv B0 H0 B H σ e _ fun v B1 H1 x1 ⟨m, ws2, ev, m0, mB, mH, mk, ma⟩ => hd B0 H0 B1 H1 σ (e.ext x1) _ fun v2 B2 H2 x2 c => hy B0 H0 B2 H2 σ ((e.ext x1).ext x2) _ fun y B3 H3 x3 c3 => by
  obtain rfl : v2 = .ref l := c
  cases c3
  have x13 := x1.trans (x2.trans x3)
  have e3 := e.ext x13
  obtain ⟨ws, eH, mk1, ma1⟩ := e3.dct hl
  have lw : ws.length = kvs.length := by have := congrArg List.length mk1; rw [List.length_map, List.length_map] at this; exact this
  refine ⟨l, _, rfl, .inl ⟨ws, .inr x, eH, rfl, small (by omega), rfl⟩, ?_⟩
  obtain ⟨z0, _, w0, y0⟩ := e.new m0
  have r1 := e3.moreW (v := .dct kvs2) z0 ((x2.trans x3).f _ mB (some_ne mH)) w0 ⟨ws2, (x2.trans x3).h _ _ mH, mk, ma.mono (x2.trans x3).b⟩
  have ml : l ≠ m := fun z => by rw [z, y0] at hl; cases hl
  have p2 := put_all (k := .inr x) (y := v) (a := eqA (.ref m)) mk1 ma1 ev
  have r2 := r1.chg (u := .dct kvs) (v := .dct (putA kvs (.inr x) (eqA (.ref m)))) (o := .dK (putK ws (.inr x) v)) (by rw [Wo.ne ml]; exact hl) ⟨_, upd_same, p2.1, p2.2⟩
  exact h m y0 B0 H0 B3 _ σ r2 D (PostO.up x13.b q)
def OkPK (K : PySem.W.Frag) (rP : RC) : Prop := ∀ a (ps : List Addr) (kvs : List (Key × V)) H (Q : VK), SqL K H a (ps.map V.ref) → Paired (fun p kv => SqT K H p [kV kv.1, kv.2]) ps kvs → (∀ p, H p = none → Q (.ref p) (upd H p (.dK (mergeK [] kvs)))) → rP [.ref a] H Q
theorem pairs_nn {B : Hp} : ∀ {xs : List Str} {vs : List V}, AllA B vs ((xs.map fun x => PyData.tuple [.str x, .str x]).map (dat K)) → ∃ ps : List Addr, vs = ps.map V.ref ∧ Paired (fun p (kv : Key × V) => SqT K B p [kV kv.1, kv.2]) ps (xs.map fun x => ((.inr x : Key), V.str x))
  | [], _, .nil => ⟨[], rfl, .nil⟩
  | x :: xs, _, .cons h t => by
    obtain ⟨ps, e, p⟩ := pairs_nn t
    obtain ⟨a, ys, ev, hs, hx⟩ := dat_tup h
    cases hx with
    | cons h1 t1 => cases t1 with
      | cons h2 t2 =>
        cases t2
        cases h1
        cases h2
        exact ⟨a :: ps, by rw [ev, e]; rfl, .cons hs p⟩
theorem all_nn {B : Hp} : ∀ xs : List Str, AllA B (xs.map V.str) (xs.map fun x => dat K (.str x))
  | [] => .nil
  | x :: xs => .cons (.str x) (all_nn xs)
/-- dict([(x, x), ..]) -/
theorem ev_dictNN {rP : RC} (oP : OkPK K rP) {ta : TE} {xs : List Str} (ha : Ev n W ta E (.own ((xs.map fun x => PyData.tuple [.str x, .str x]).map (dat K)))) (nd : xs.Nodup) : Ev n W (tCB rP (tCons ta tNil)) E (.ownd (xs.map fun x => ((.inr x : Key), dat K (.str x)))) := fun B0 H0 B H σ e Q q => ha B0 H0 B H σ e _ fun v B1 H1 x ⟨l, vs, ev, n0, nB, eH, hx⟩ => by
  obtain ⟨ps, rfl, hp⟩ := pairs_nn hx
  rw [ev]
  refine oP l ps _ H1 _ (SqL.of eH) (Paired.mono (fun _ _ z => Same.tup x.s z) hp) fun p hp => ?_
  rw [merge_nodup (xs.map fun x => ((.inr x : Key), V.str x)) [] (by
    rw [List.nil_append, List.map_map]
    exact List.pairwise_map.mpr (nd.imp fun n z => n (Sum.inr.inj z))), List.nil_append]
  refine q _ B1 _ (x.trans (.own x.s hp)) ⟨p, _, rfl, x.h.free hp, x.s.free hp, upd_same, by rw [List.map_map, List.map_map]; rfl, ?_⟩
  rw [List.map_map, List.map_map]
  exact all_nn xs
/-- return of what may change -/
theorem evs_retW {i : Nat} {l : Addr} {as : List AV} (hi : E i = some (.fz (eqA (.ref l)))) (hl : W l = some (.lst as)) : EvS n W (tRet (tVar i)) E (.rt (.own as) W0) := fun B0 H0 B H σ e D q => by
  obtain ⟨v, hv, rfl⟩ := e.at_ i _ hi
  obtain ⟨z0, zB, xs, eH, ha⟩ := e.w l _ hl
  exact ⟨_, hv, q _ B H e.x ⟨l, xs, rfl, z0, zB, eH, ha⟩ fun _ _ z => nomatch z⟩
end
end Cs
namespace Cs
open PySem PySem.Spec L2
/-! ## what is told with a change, within expressions; one of several -/
def numA (p : Int → Prop) : AV := ⟨fun v _ => ∃ i, v = .int i ∧ p i, fun _ h => h⟩
def imA (K : PySem.W.Frag) (d : PyData) : AV := ⟨fun v B => Im K B v d, fun s h => h.same (sameI_of s)⟩
def orA (as : List AV) : AV := ⟨fun v B => ∃ a ∈ as, a.p v B, fun s ⟨a, ha, h⟩ => ⟨a, ha, a.mono s h⟩⟩
def plA (as : List AV) : AV := ⟨fun v B => ∃ a xs, v = .ref a ∧ PlT B a xs ∧ AllA B xs as, fun s ⟨a, xs, e, h, t⟩ => ⟨a, xs, e, h.same s, t.mono s⟩⟩
def EvMA (n : Nat) (W : Wo) (ta : TA) (E : En) (as : List AV) (W1 : Wo) : Prop := ∀ B0 H0 B H σ, Env n W B0 H0 B H σ E → ∀ Q : List V → Hp → Prop, (∀ vs B1 H1, Same B B1 → Env n W1 B0 H0 B1 H1 σ E → AllA B1 vs as → Q vs H1) → ta σ H Q
section
variable {K : PySem.W.Frag} {n : Nat} {W W1 W2 : Wo} {E : En}
theorem evm_of {te : TE} {a : AV} (h : Ev n W te E (.fz a)) : EvM n W te E a W := fun B0 H0 B H σ e Q q => h B0 H0 B H σ e Q fun v B1 H1 x c => q v B1 H1 x.b (e.ext x) c
theorem evma_nil : EvMA n W tNil E [] W := fun B0 H0 B H σ e Q q => q [] B H (Same.refl _) e .nil
theorem evma_cons {te : TE} {ta : TA} {a : AV} {as : List AV} (h : EvM n W te E a W1) (t : EvMA n W1 ta E as W2) : EvMA n W (tCons te ta) E (a :: as) W2 := fun B0 H0 B H σ e Q q => h B0 H0 B H σ e _ fun v B1 H1 s e1 c => t B0 H0 B1 H1 σ e1 _ fun vs B2 H2 s2 e2 cs => q (v :: vs) B2 H2 (s.trans s2) e2 (.cons (a.mono s2 c) cs)
theorem evm_op {r : R2} {ta tb : TE} {a b c : AV} (ha : EvM n W ta E a W1) (hb : EvM n W1 tb E b W2) (h : ∀ v w B H, a.p v B → b.p w B → Same B H → ∀ Q : VK, (∀ u, c.p u B → Q u H) → r v w H Q) : EvM n W (tOp r ta tb) E c W2 := fun B0 H0 B H σ e Q q => ha B0 H0 B H σ e _ fun v B1 H1 s e1 c1 => hb B0 H0 B1 H1 σ e1 _ fun w B2 H2 s2 e2 c2 => h v w B2 H2 (a.mono s2 c1) c2 e2.s Q fun u cu => q u B2 H2 (s.trans s2) e2 cu
theorem im_all {B : Hp} : ∀ {xs : List V} {ds : List PyData}, AllA B xs (ds.map (imA K)) → ImAll K B xs ds
  | [], [], _ => .nil
  | _ :: _, _ :: _, .cons h t => .cons h (im_all t)
theorem evm_tupI {ta : TA} {ds : List PyData} (h : EvMA n W ta E (ds.map (imA K)) W1) (hl : Nat.ble ds.length 1000000 = true := by rfl) : EvM n W (tTup ta) E (imA K (.tuple ds)) W1 := fun B0 H0 B H σ e Q q => h B0 H0 B H σ e _ fun vs B1 H1 s e1 cs => by
  have hc := im_all cs
  refine ⟨small (by rw [hc.length]; exact Nat.le_of_ble_eq_true hl), fun p hp => ?_⟩
  have x := Ext.new (o := .tup vs) e1.s hp
  exact q _ _ _ (s.trans x.b) (e1.ext x) (.tup (.inl (.inl upd_same)) (hc.same (sameI_of x.b)))
theorem ev_tupI {ta : TA} {ds : List PyData} (h : EvA n W ta E (ds.map (imA K))) (hl : Nat.ble ds.length 1000000 = true := by rfl) : Ev n W (tTup ta) E (.fz (imA K (.tuple ds))) := (ev_tup (K := K) h (by rw [List.length_map]; exact hl)).of fun v B ⟨a, xs, ev, hs, hx⟩ => by
  rw [ev]
  exact .tup hs (im_all hx)
theorem ev_strI {x : Str} : Ev n W (tC (.str x)) E (.fz (imA K (.str x))) := ev_c fun _ => .str x
theorem ev_intI {x : Int} : Ev n W (tC (.int x)) E (.fz (imA K (.int x))) := ev_c fun _ => .int x
/-- [..][a drawn number] -/
theorem evm_pick {ta : TA} {tb : TE} {as : List AV} {m : Int} (ha : EvA n W ta E as) (hb : EvM n W tb E (numA fun d => 0 ≤ d ∧ d < m) W1) (hm : m = as.length) (hl : Nat.ble as.length 1000000 = true := by rfl) : EvM n W (tOp (rIxL K) (tLst ta) tb) E (orA as) W1 := evm_op (evm_of (ev_keep (K := K) (ev_lst ha hl))) hb fun v w B H ⟨p, xs, ev, hs, hx⟩ ⟨i, ew, h0, h1⟩ s Q q => by
  have lx := Paired.length hx
  obtain ⟨k, rfl⟩ : ∃ k : Nat, i = (k : Int) := ⟨i.toNat, by omega⟩
  have hk : k < as.length := by omega
  obtain ⟨y, hy1, hy2⟩ := paired_get' hx (List.getElem?_eq_getElem hk)
  exact ⟨p, xs, _, y, ev, ew, s.seq hs, atI_nat hy1, q y ⟨_, List.getElem_mem hk, hy2⟩⟩
/-- by what a name may be -/
theorem evs_cases {i : Nat} {as : List AV} {ts : TS} {o : Out} (hi : E i = some (.fz (orA as))) (h : ∀ a ∈ as, EvS n W ts (E.put i (.fz a)) o) : EvS n W ts E o := fun B0 H0 B H σ e D q => by
  obtain ⟨v, hv, a, ha, hp⟩ := e.at_ i _ hi
  refine h a ha B0 H0 B H σ ⟨e.x, e.len, fun j r hj => ?_, fun j k r q m jk hj oj hk ok => ?_, e.w, fun j r m hj oj hm => ?_⟩ D q
  · unfold En.put at hj
    by_cases c : j = i
    · rw [if_pos c] at hj
      cases hj
      exact ⟨v, by rw [c]; exact hv, hp⟩
    · rw [if_neg c] at hj
      exact e.at_ j r hj
  · unfold En.put at hj hk
    by_cases c : j = i
    · rw [if_pos c] at hj
      cases hj
      cases oj
    · by_cases d : k = i
      · rw [if_pos d] at hk
        cases hk
        cases ok
      · rw [if_neg c] at hj
        rw [if_neg d] at hk
        exact e.ne j k r q m jk hj oj hk ok
  · unfold En.put at hj
    by_cases c : j = i
    · rw [if_pos c] at hj
      cases hj
      cases oj
    · rw [if_neg c] at hj
      exact e.wn j r m hj oj hm
/-- a tuple without a dict -/
theorem ev_tupPl {ta : TA} {as : List AV} (h : EvA n W ta E as) (hl : Nat.ble as.length 1000000 = true := by rfl) : Ev n W (tTupF ta) E (.fz (plA as)) := fun B0 H0 B H σ e Q q => h B0 H0 B H σ e _ fun vs B1 H1 x cs => by
  have lx := Paired.length cs
  refine ⟨small (by rw [lx]; exact Nat.le_of_ble_eq_true hl), fun p its hp => ?_⟩
  have y := Ext.new (o := .frz (tupObj its) (.tup vs)) x.s hp
  exact q _ _ _ (x.trans y) ⟨p, vs, rfl, PlT.new, cs.mono y.b⟩
/-- where a drawn number stands -/
def scA (K : PySem.W.Frag) : AV := ⟨fun v B => ∃ (sc : Addr) (ns : List Int), v = .ref sc ∧ SqL K B sc (ns.map V.int), fun s ⟨sc, ns, e, h⟩ => ⟨sc, ns, e, s.seq h⟩⟩
def stO (K : PySem.W.Frag) : Ob := .lst [scA K, numA fun i => 0 ≤ i, numA fun m => 0 ≤ m ∧ m < 2147483647, numA fun r => 0 ≤ r]
theorem stO_dw {B H : Hp} {st : Addr} (h : (stO K).at B H st) : Dw K B H st := by
  obtain ⟨xs, eH, hx⟩ := h
  cases hx with
  | cons a t => cases t with
    | cons b t => cases t with
      | cons c t => cases t with
        | cons d t =>
          cases t
          obtain ⟨sc, ns, rfl, hs⟩ := a
          obtain ⟨i, rfl, hi⟩ := b
          obtain ⟨m, rfl, hm⟩ := c
          obtain ⟨r, rfl, hr⟩ := d
          exact ⟨sc, ns, i, m, r, eH, hs, hi, hm.1, hm.2, hr⟩
theorem dw_stO {B H : Hp} {st : Addr} (h : Dw K B H st) : (stO K).at B H st := by
  obtain ⟨sc, ns, i, mx, r, e, hs, h1, h2, h3, h4⟩ := h
  exact ⟨_, e, .cons ⟨sc, ns, rfl, hs⟩ (.cons ⟨i, rfl, h1⟩ (.cons ⟨mx, rfl, h2, h3⟩ (.cons ⟨r, rfl, h4⟩ .nil)))⟩
/-- what stays, but for one that may change -/
theorem Env.drawn {B0 H0 B H H1 : Hp} {σ : L2.St} {l : Addr} {u v : Ob} (e : Env n W B0 H0 B H σ E) (hl : W l = some u) (s : SameX l H H1) (hv : v.at B H1 l) : Env n (W.put l v) B0 H0 B H1 σ E := by
  obtain ⟨n0, nB, hat⟩ := e.w l u hl
  have noS : ∀ i r m, E i = some r → r.isOwn = true → σ[i]? = some (some (.ref m)) → m ≠ l := fun i r m hi ho hm z => by
    have := e.wn i r m hi ho hm
    rw [z, hl] at this
    cases this
  refine ⟨⟨e.x.b, fun b o h => s b o (fun z => by rw [z, n0] at h; cases h) (e.x.h b o h), fun b o h => s b o (fun z => by rw [z, nB] at h; cases h) (e.x.s b o h), e.x.f⟩, e.len, fun i r h => ?_, e.ne, fun m ob hm => ?_, fun i r m hi ho hm => ?_⟩
  · obtain ⟨x, a, b⟩ := e.at_ i r h
    refine ⟨x, a, ?_⟩
    cases r with
    | fz _ => exact b
    | own as =>
      obtain ⟨m, xs, ev, h0, hB, eH, ha⟩ := b
      exact ⟨m, xs, ev, h0, hB, s _ _ (noS i _ m h rfl (by rw [a, ev])) eH, ha⟩
    | ownd as =>
      obtain ⟨m, xs, ev, h0, hB, eH, ha⟩ := b
      exact ⟨m, xs, ev, h0, hB, s _ _ (noS i _ m h rfl (by rw [a, ev])) eH, ha⟩
  · by_cases c : m = l
    · subst c
      rw [Wo.same] at hm
      cases hm
      exact ⟨n0, nB, hv⟩
    · rw [Wo.ne c] at hm
      obtain ⟨a, b, d⟩ := e.w m ob hm
      exact ⟨a, b, Ob.move (Same.refl _) (fun u hu => s _ _ c hu) d⟩
  · rw [Wo.ne (noS i r m hi ho hm)]
    exact e.wn i r m hi ho hm
end
end Cs
namespace Cs
open PySem PySem.Spec L2
def topS (i : Nat) : Stmt := PySem.Challenge.pw_claimsieve_k02_clauses_by_own_walk.main.body.getD i (.Pass ⟨0, 0, 0, 0⟩)
abbrev s_w_start : Stmt := topS 45
abbrev N_w_start : List Str := ["_law_script", "_law_mixed", "_law_cell"]
abbrev P_w_start : List Str := ["_law_script"]
theorem sc_w_start : FnScope N_w_start P_w_start (defScope s_w_start) := ⟨rfl, rfl, rfl, by decide +kernel, rfl, by decide +kernel, by decide +kernel⟩
abbrev s_w_drawn : Stmt := topS 46
abbrev N_w_drawn : List Str := ["_law_state", "_law_many", "_law_found", "_law_cell"]
abbrev P_w_drawn : List Str := ["_law_state", "_law_many"]
theorem sc_w_drawn : FnScope N_w_drawn P_w_drawn (defScope s_w_drawn) := ⟨rfl, rfl, rfl, by decide +kernel, rfl, by decide +kernel, by decide +kernel⟩
abbrev s_w_of : Stmt := topS 48
abbrev N_w_of : List Str := ["_law_known", "_law_kind", "_law_name", "_law_sort"]
abbrev P_w_of : List Str := ["_law_known", "_law_kind"]
theorem sc_w_of : FnScope N_w_of P_w_of (defScope s_w_of) := ⟨rfl, rfl, rfl, by decide +kernel, rfl, by decide +kernel, by decide +kernel⟩
abbrev s_w_measure : Stmt := topS 49
abbrev N_w_measure : List Str := ["_law_state", "_law_known", "_law_some", "_law_name"]
abbrev P_w_measure : List Str := ["_law_state", "_law_known"]
theorem sc_w_measure : FnScope N_w_measure P_w_measure (defScope s_w_measure) := ⟨rfl, rfl, rfl, by decide +kernel, rfl, by decide +kernel, by decide +kernel⟩
abbrev s_w_deed : Stmt := topS 50
abbrev N_w_deed : List Str := ["_law_state", "_law_heads", "_law_known", "_law_those", "_law_lists", "_law_n", "_law_some", "_law_name", "_law_items", "_law_number", "_law_names", "_law_kind"]
abbrev P_w_deed : List Str := ["_law_state", "_law_heads", "_law_known"]
theorem sc_w_deed : FnScope N_w_deed P_w_deed (defScope s_w_deed) := ⟨rfl, rfl, rfl, by decide +kernel, rfl, by decide +kernel, by decide +kernel⟩
abbrev s_w_tree : Stmt := topS 51
abbrev N_w_tree : List Str := ["_law_state", "_law_heads", "_law_kind", "_law_known", "_law_deep", "_law_some", "_law_name", "_law_way", "_law_deed_here", "_law_sort", "_law_head", "_law_trees", "_law_k"]
abbrev P_w_tree : List Str := ["_law_state", "_law_heads", "_law_kind", "_law_known", "_law_deep"]
theorem sc_w_tree : FnScope N_w_tree P_w_tree (defScope s_w_tree) := ⟨rfl, rfl, rfl, by decide +kernel, rfl, by decide +kernel, by decide +kernel⟩
abbrev s_w_program : Stmt := topS 52
abbrev N_w_program : List Str := ["_law_state", "_law_many", "_law_deep", "_law_heads", "_law_number", "_law_kinds", "_law_params", "_law_k", "_law_head"]
abbrev P_w_program : List Str := ["_law_state", "_law_many", "_law_deep"]
theorem sc_w_program : FnScope N_w_program P_w_program (defScope s_w_program) := ⟨rfl, rfl, rfl, by decide +kernel, rfl, by decide +kernel, by decide +kernel⟩
abbrev s_w_same : Stmt := topS 47
abbrev N_w_same : List Str := ["_law_found", "_law_due", "_law_alike", "_law_k"]
abbrev P_w_same : List Str := ["_law_found", "_law_due"]
theorem sc_w_same : FnScope N_w_same P_w_same (defScope s_w_same) := ⟨rfl, rfl, rfl, by decide +kernel, rfl, by decide +kernel, by decide +kernel⟩
abbrev s_has_word : Stmt := topS 17
abbrev N_has_word : List Str := ["row"]
abbrev P_has_word : List Str := ["row"]
theorem sc_has_word : FnScope N_has_word P_has_word (defScope s_has_word) := ⟨rfl, rfl, rfl, by decide +kernel, rfl, by decide +kernel, by decide +kernel⟩
abbrev s_is_row : Stmt := topS 16
abbrev N_is_row : List Str := ["row", "many"]
abbrev P_is_row : List Str := ["row", "many"]
theorem sc_is_row : FnScope N_is_row P_is_row (defScope s_is_row) := ⟨rfl, rfl, rfl, by decide +kernel, rfl, by decide +kernel, by decide +kernel⟩
abbrev s_is_whole : Stmt := topS 14
abbrev N_is_whole : List Str := ["n"]
abbrev P_is_whole : List Str := ["n"]
theorem sc_is_whole : FnScope N_is_whole P_is_whole (defScope s_is_whole) := ⟨rfl, rfl, rfl, by decide +kernel, rfl, by decide +kernel, by decide +kernel⟩
abbrev s_is_between : Stmt := topS 15
abbrev N_is_between : List Str := ["n", "low", "high"]
abbrev P_is_between : List Str := ["n", "low", "high"]
theorem sc_is_between : FnScope N_is_between P_is_between (defScope s_is_between) := ⟨rfl, rfl, rfl, by decide +kernel, rfl, by decide +kernel, by decide +kernel⟩
abbrev s_is_near : Stmt := topS 26
abbrev N_is_near : List Str := ["n"]
abbrev P_is_near : List Str := ["n"]
theorem sc_is_near : FnScope N_is_near P_is_near (defScope s_is_near) := ⟨rfl, rfl, rfl, by decide +kernel, rfl, by decide +kernel, by decide +kernel⟩
abbrev s_stands : Stmt := topS 28
abbrev N_stands : List Str := ["name", "kind", "names"]
abbrev P_stands : List Str := ["name", "kind", "names"]
theorem sc_stands : FnScope N_stands P_stands (defScope s_stands) := ⟨rfl, rfl, rfl, by decide +kernel, rfl, by decide +kernel, by decide +kernel⟩
abbrev s_all_fit : Stmt := topS 32
abbrev N_all_fit : List Str := ["parts", "wants", "names", "part", "want"]
abbrev P_all_fit : List Str := ["parts", "wants", "names"]
theorem sc_all_fit : FnScope N_all_fit P_all_fit (defScope s_all_fit) := ⟨rfl, rfl, rfl, by decide +kernel, rfl, by decide +kernel, by decide +kernel⟩
abbrev s_kinds_ahead : Stmt := topS 31
abbrev N_kinds_ahead : List Str := ["function", "_", "kind"]
abbrev P_kinds_ahead : List Str := ["function"]
theorem sc_kinds_ahead : FnScope N_kinds_ahead P_kinds_ahead (defScope s_kinds_ahead) := ⟨rfl, rfl, rfl, by decide +kernel, rfl, by decide +kernel, by decide +kernel⟩
abbrev s_call_kind : Stmt := topS 30
abbrev N_call_kind : List Str := ["program", "deed", "names", "called"]
abbrev P_call_kind : List Str := ["program", "deed", "names"]
theorem sc_call_kind : FnScope N_call_kind P_call_kind (defScope s_call_kind) := ⟨rfl, rfl, rfl, by decide +kernel, rfl, by decide +kernel, by decide +kernel⟩
abbrev s_deed_kind : Stmt := topS 29
abbrev N_deed_kind : List Str := ["program", "deed", "names", "wants", "kind"]
abbrev P_deed_kind : List Str := ["program", "deed", "names"]
theorem sc_deed_kind : FnScope N_deed_kind P_deed_kind (defScope s_deed_kind) := ⟨rfl, rfl, rfl, by decide +kernel, rfl, by decide +kernel, by decide +kernel⟩
abbrev s_is_name : Stmt := topS 18
abbrev N_is_name : List Str := ["word", "sign"]
abbrev P_is_name : List Str := ["word"]
theorem sc_is_name : FnScope N_is_name P_is_name (defScope s_is_name) := ⟨rfl, rfl, rfl, by decide +kernel, rfl, by decide +kernel, by decide +kernel⟩
abbrev s_within_let : Stmt := topS 24
abbrev N_within_let : List Str := ["program", "tree", "names", "name", "deed", "inner", "kind"]
abbrev P_within_let : List Str := ["program", "tree", "names"]
theorem sc_within_let : FnScope N_within_let P_within_let (defScope s_within_let) := ⟨rfl, rfl, rfl, by decide +kernel, rfl, by decide +kernel, by decide +kernel⟩
abbrev s_is_measure : Stmt := topS 27
abbrev N_is_measure : List Str := ["measure", "names"]
abbrev P_is_measure : List Str := ["measure", "names"]
theorem sc_is_measure : FnScope N_is_measure P_is_measure (defScope s_is_measure) := ⟨rfl, rfl, rfl, by decide +kernel, rfl, by decide +kernel, by decide +kernel⟩
abbrev s_is_compared : Stmt := topS 25
abbrev N_is_compared : List Str := ["tree", "names", "_", "first", "second", "n"]
abbrev P_is_compared : List Str := ["tree", "names"]
theorem sc_is_compared : FnScope N_is_compared P_is_compared (defScope s_is_compared) := ⟨rfl, rfl, rfl, by decide +kernel, rfl, by decide +kernel, by decide +kernel⟩
abbrev s_trees_within : Stmt := topS 23
abbrev N_trees_within : List Str := ["program", "kind", "tree", "names", "inner"]
abbrev P_trees_within : List Str := ["program", "kind", "tree", "names"]
theorem sc_trees_within : FnScope N_trees_within P_trees_within (defScope s_trees_within) := ⟨rfl, rfl, rfl, by decide +kernel, rfl, by decide +kernel, by decide +kernel⟩
abbrev s_check_trees : Stmt := topS 22
abbrev N_check_trees : List Str := ["program", "number", "params", "kind", "outermost", "waiting", "place", "tree", "depth", "names", "within", "inner", "standing"]
abbrev P_check_trees : List Str := ["program", "number"]
theorem sc_check_trees : FnScope N_check_trees P_check_trees (defScope s_check_trees) := ⟨rfl, rfl, rfl, by decide +kernel, rfl, by decide +kernel, by decide +kernel⟩
abbrev s_is_param : Stmt := topS 21
abbrev N_is_param : List Str := ["param"]
abbrev P_is_param : List Str := ["param"]
theorem sc_is_param : FnScope N_is_param P_is_param (defScope s_is_param) := ⟨rfl, rfl, rfl, by decide +kernel, rfl, by decide +kernel, by decide +kernel⟩
abbrev s_is_headed : Stmt := topS 20
abbrev N_is_headed : List Str := ["function", "params", "kind", "_", "param"]
abbrev P_is_headed : List Str := ["function"]
theorem sc_is_headed : FnScope N_is_headed P_is_headed (defScope s_is_headed) := ⟨rfl, rfl, rfl, by decide +kernel, rfl, by decide +kernel, by decide +kernel⟩
abbrev s_check_program : Stmt := topS 19
abbrev N_check_program : List Str := ["program", "number", "function"]
abbrev P_check_program : List Str := ["program"]
theorem sc_check_program : FnScope N_check_program P_check_program (defScope s_check_program) := ⟨rfl, rfl, rfl, by decide +kernel, rfl, by decide +kernel, by decide +kernel⟩
abbrev s_deed_goals : Stmt := topS 38
abbrev N_deed_goals : List Str := ["deed", "whole", "name", "function", "names"]
abbrev P_deed_goals : List Str := ["deed"]
theorem sc_deed_goals : FnScope N_deed_goals P_deed_goals (defScope s_deed_goals) := ⟨rfl, rfl, rfl, by decide +kernel, rfl, by decide +kernel, by decide +kernel⟩
abbrev s_goals : Stmt := topS 37
abbrev N_goals : List Str := ["number", "names", "tree", "name", "first", "second", "n", "deed"]
abbrev P_goals : List Str := ["number", "names", "tree"]
theorem sc_goals : FnScope N_goals P_goals (defScope s_goals) := ⟨rfl, rfl, rfl, by decide +kernel, rfl, by decide +kernel, by decide +kernel⟩
abbrev s_both_ways : Stmt := topS 43
abbrev N_both_ways : List Str := ["term", "other", "n"]
abbrev P_both_ways : List Str := ["term", "other", "n"]
theorem sc_both_ways : FnScope N_both_ways P_both_ways (defScope s_both_ways) := ⟨rfl, rfl, rfl, by decide +kernel, rfl, by decide +kernel, by decide +kernel⟩
abbrev s_told_number : Stmt := topS 42
abbrev N_told_number : List Str := ["name", "other", "n", "link"]
abbrev P_told_number : List Str := ["name", "other", "n"]
theorem sc_told_number : FnScope N_told_number P_told_number (defScope s_told_number) := ⟨rfl, rfl, rfl, by decide +kernel, rfl, by decide +kernel, by decide +kernel⟩
abbrev s_told_by : Stmt := topS 41
abbrev N_told_by : List Str := ["name", "deed", "made", "n", "other", "whole", "number", "rest", "function", "names"]
abbrev P_told_by : List Str := ["name", "deed", "made"]
theorem sc_told_by : FnScope N_told_by P_told_by (defScope s_told_by) := ⟨rfl, rfl, rfl, by decide +kernel, rfl, by decide +kernel, by decide +kernel⟩
abbrev s_let_kind : Stmt := topS 40
abbrev N_let_kind : List Str := ["program", "deed"]
abbrev P_let_kind : List Str := ["program", "deed"]
theorem sc_let_kind : FnScope N_let_kind P_let_kind (defScope s_let_kind) := ⟨rfl, rfl, rfl, by decide +kernel, rfl, by decide +kernel, by decide +kernel⟩
abbrev s_trees_behind : Stmt := topS 39
abbrev N_trees_behind : List Str := ["program", "tree", "way", "_", "name", "deed", "inner", "first", "second", "n", "other"]
abbrev P_trees_behind : List Str := ["program", "tree", "way"]
theorem sc_trees_behind : FnScope N_trees_behind P_trees_behind (defScope s_trees_behind) := ⟨rfl, rfl, rfl, by decide +kernel, rfl, by decide +kernel, by decide +kernel⟩
abbrev s_function_clauses : Stmt := topS 35
abbrev N_function_clauses : List Str := ["program", "number", "params", "_", "outermost", "names", "waiting", "found", "place", "tree", "way", "goal", "inner", "name"]
abbrev P_function_clauses : List Str := ["program", "number"]
theorem sc_function_clauses : FnScope N_function_clauses P_function_clauses (defScope s_function_clauses) := ⟨rfl, rfl, rfl, by decide +kernel, rfl, by decide +kernel, by decide +kernel⟩
abbrev s_clauses : Stmt := topS 34
abbrev N_clauses : List Str := ["program", "number", "clause"]
abbrev P_clauses : List Str := ["program"]
theorem sc_clauses : FnScope N_clauses P_clauses (defScope s_clauses) := ⟨rfl, rfl, rfl, by decide +kernel, rfl, by decide +kernel, by decide +kernel⟩
abbrev s_w_size : Stmt := topS 53
abbrev N_w_size : List Str := ["_law_tree_here", "_law_part"]
abbrev P_w_size : List Str := ["_law_tree_here"]
theorem sc_w_size : FnScope N_w_size P_w_size (defScope s_w_size) := ⟨rfl, rfl, rfl, by decide +kernel, rfl, by decide +kernel, by decide +kernel⟩
abbrev s_w_wants : Stmt := topS 56
abbrev N_w_wants : List Str := ["_law_deed_here", "_law_here", "_law_at", "_law_name"]
abbrev P_w_wants : List Str := ["_law_deed_here", "_law_here"]
theorem sc_w_wants : FnScope N_w_wants P_w_wants (defScope s_w_wants) := ⟨rfl, rfl, rfl, by decide +kernel, rfl, by decide +kernel, by decide +kernel⟩
abbrev s_w_lets : Stmt := topS 57
abbrev N_w_lets : List Str := ["_law_program_here", "_law_name", "_law_deed_here", "_law_here", "_law_word", "_law_root", "_law_known", "_law_items", "_law_kind", "_law_other", "_law_n", "_law_one"]
abbrev P_w_lets : List Str := ["_law_program_here", "_law_name", "_law_deed_here", "_law_here"]
theorem sc_w_lets : FnScope N_w_lets P_w_lets (defScope s_w_lets) := ⟨rfl, rfl, rfl, by decide +kernel, rfl, by decide +kernel, by decide +kernel⟩
abbrev s_w_walk : Stmt := topS 55
abbrev N_w_walk : List Str := ["_law_w", "_law_tree_here", "_law_here", "_law_place", "_law_program_here", "_law_number", "_law_params", "_law_found", "_law_goal", "_law_ends", "_law_fact", "_law_other", "_law_one", "_law_key"]
abbrev P_w_walk : List Str := ["_law_w", "_law_tree_here", "_law_here", "_law_place"]
theorem sc_w_walk : FnScope N_w_walk P_w_walk (defScope s_w_walk) := ⟨rfl, rfl, rfl, by decide +kernel, rfl, by decide +kernel, by decide +kernel⟩
abbrev s_w_clauses : Stmt := topS 54
abbrev N_w_clauses : List Str := ["_law_program_here", "_law_found", "_law_number", "_law_params", "_law_here", "_law_name", "_law_kind"]
abbrev P_w_clauses : List Str := ["_law_program_here"]
theorem sc_w_clauses : FnScope N_w_clauses P_w_clauses (defScope s_w_clauses) := ⟨rfl, rfl, rfl, by decide +kernel, rfl, by decide +kernel, by decide +kernel⟩
abbrev s_w_branches : Stmt := topS 58
abbrev N_w_branches : List Str := ["_law_state", "_law_trees", "_law_k", "_law_list_deed", "_law_last", "_law_one", "_law_tree_here"]
abbrev P_w_branches : List Str := ["_law_state"]
theorem sc_w_branches : FnScope N_w_branches P_w_branches (defScope s_w_branches) := ⟨rfl, rfl, rfl, by decide +kernel, rfl, by decide +kernel, by decide +kernel⟩
abbrev s_law : Stmt := topS 59
abbrev N_law : List Str := ["_law_script", "_law_state", "_law_turn", "_law_program_here", "_law_due", "_law_again", "_law_found"]
abbrev P_law : List Str := ["_law_script"]
theorem sc_law : FnScope N_law P_law (defScope s_law) := ⟨rfl, rfl, rfl, by decide +kernel, rfl, by decide +kernel, by decide +kernel⟩
abbrev s_Way_init : Stmt := inClass (topS 36) 0
abbrev N_Way_init : List Str := ["self", "names", "known", "made", "meant"]
abbrev P_Way_init : List Str := ["self", "names", "known", "made", "meant"]
theorem sc_Way_init : FnScope N_Way_init P_Way_init (defScope s_Way_init) := ⟨rfl, rfl, rfl, by decide +kernel, rfl, by decide +kernel, by decide +kernel⟩
abbrev s_Way_meant_part : Stmt := inClass (topS 36) 5
abbrev N_Way_meant_part : List Str := ["self", "part", "name"]
abbrev P_Way_meant_part : List Str := ["self", "part"]
theorem sc_Way_meant_part : FnScope N_Way_meant_part P_Way_meant_part (defScope s_Way_meant_part) := ⟨rfl, rfl, rfl, by decide +kernel, rfl, by decide +kernel, by decide +kernel⟩
abbrev s_Way_meant_row : Stmt := inClass (topS 36) 4
abbrev N_Way_meant_row : List Str := ["self", "row", "part"]
abbrev P_Way_meant_row : List Str := ["self", "row"]
theorem sc_Way_meant_row : FnScope N_Way_meant_row P_Way_meant_row (defScope s_Way_meant_row) := ⟨rfl, rfl, rfl, by decide +kernel, rfl, by decide +kernel, by decide +kernel⟩
abbrev s_Way_meant_tree : Stmt := inClass (topS 36) 3
abbrev N_Way_meant_tree : List Str := ["self", "tree"]
abbrev P_Way_meant_tree : List Str := ["self", "tree"]
theorem sc_Way_meant_tree : FnScope N_Way_meant_tree P_Way_meant_tree (defScope s_Way_meant_tree) := ⟨rfl, rfl, rfl, by decide +kernel, rfl, by decide +kernel, by decide +kernel⟩
abbrev s_Way_knowing : Stmt := inClass (topS 36) 1
abbrev N_Way_knowing : List Str := ["self", "hypothesis"]
abbrev P_Way_knowing : List Str := ["self", "hypothesis"]
theorem sc_Way_knowing : FnScope N_Way_knowing P_Way_knowing (defScope s_Way_knowing) := ⟨rfl, rfl, rfl, by decide +kernel, rfl, by decide +kernel, by decide +kernel⟩
abbrev s_Way_letting : Stmt := inClass (topS 36) 2
abbrev N_Way_letting : List Str := ["self", "name", "deed", "kind", "number", "rest", "meant", "made", "known"]
abbrev P_Way_letting : List Str := ["self", "name", "deed", "kind"]
theorem sc_Way_letting : FnScope N_Way_letting P_Way_letting (defScope s_Way_letting) := ⟨rfl, rfl, rfl, by decide +kernel, rfl, by decide +kernel, by decide +kernel⟩
structure Adr where
  f_w_start : Addr
  fd_w_start : FuncData
  f_w_drawn : Addr
  fd_w_drawn : FuncData
  f_w_of : Addr
  fd_w_of : FuncData
  f_w_measure : Addr
  fd_w_measure : FuncData
  f_w_deed : Addr
  fd_w_deed : FuncData
  f_w_tree : Addr
  fd_w_tree : FuncData
  f_w_program : Addr
  fd_w_program : FuncData
  f_w_same : Addr
  fd_w_same : FuncData
  f_has_word : Addr
  fd_has_word : FuncData
  f_is_row : Addr
  fd_is_row : FuncData
  f_is_whole : Addr
  fd_is_whole : FuncData
  f_is_between : Addr
  fd_is_between : FuncData
  f_is_near : Addr
  fd_is_near : FuncData
  f_stands : Addr
  fd_stands : FuncData
  f_all_fit : Addr
  fd_all_fit : FuncData
  f_kinds_ahead : Addr
  fd_kinds_ahead : FuncData
  f_call_kind : Addr
  fd_call_kind : FuncData
  f_deed_kind : Addr
  fd_deed_kind : FuncData
  f_is_name : Addr
  fd_is_name : FuncData
  f_within_let : Addr
  fd_within_let : FuncData
  f_is_measure : Addr
  fd_is_measure : FuncData
  f_is_compared : Addr
  fd_is_compared : FuncData
  f_trees_within : Addr
  fd_trees_within : FuncData
  f_check_trees : Addr
  fd_check_trees : FuncData
  f_is_param : Addr
  fd_is_param : FuncData
  f_is_headed : Addr
  fd_is_headed : FuncData
  f_check_program : Addr
  fd_check_program : FuncData
  f_deed_goals : Addr
  fd_deed_goals : FuncData
  f_goals : Addr
  fd_goals : FuncData
  f_both_ways : Addr
  fd_both_ways : FuncData
  f_told_number : Addr
  fd_told_number : FuncData
  f_told_by : Addr
  fd_told_by : FuncData
  f_let_kind : Addr
  fd_let_kind : FuncData
  f_trees_behind : Addr
  fd_trees_behind : FuncData
  f_function_clauses : Addr
  fd_function_clauses : FuncData
  f_clauses : Addr
  fd_clauses : FuncData
  f_w_size : Addr
  fd_w_size : FuncData
  f_w_wants : Addr
  fd_w_wants : FuncData
  f_w_lets : Addr
  fd_w_lets : FuncData
  f_w_walk : Addr
  fd_w_walk : FuncData
  f_w_clauses : Addr
  fd_w_clauses : FuncData
  f_w_branches : Addr
  fd_w_branches : FuncData
  f_law : Addr
  fd_law : FuncData
  a_DEEDS : Addr
  e_DEEDS : Array DictEntry
  m_DEEDS : Nat
  a_DEEDS_num : Addr
  a_DEEDS_num_0 : Addr
  a_DEEDS_sum : Addr
  a_DEEDS_sum_0 : Addr
  a_DEEDS_len : Addr
  a_DEEDS_len_0 : Addr
  a_DEEDS_nil : Addr
  a_DEEDS_nil_0 : Addr
  a_DEEDS_put : Addr
  a_DEEDS_put_0 : Addr
  a_DEEDS_head : Addr
  a_DEEDS_head_0 : Addr
  a_DEEDS_tail : Addr
  a_DEEDS_tail_0 : Addr
  a_DEEDS_at : Addr
  a_DEEDS_at_0 : Addr
  a_DEEDS_ask : Addr
  a_DEEDS_ask_0 : Addr
  t_FARTHEST : Tok
  a_KINDS : Addr
  a_MEASURES : Addr
  e_MEASURES : Array DictEntry
  m_MEASURES : Nat
  t_MOST_DEPTH : Tok
  t_MOST_FUNCTIONS : Tok
  t_MOST_PARAMS : Tok
  t_MOST_SIGNS : Tok
  t_MOST_TREES : Tok
  a_TREES : Addr
  e_TREES : Array DictEntry
  m_TREES : Nat
  C_Way : Addr
  f_Way_init : Addr
  fd_Way_init : FuncData
  f_Way_meant_part : Addr
  fd_Way_meant_part : FuncData
  f_Way_meant_row : Addr
  fd_Way_meant_row : FuncData
  f_Way_meant_tree : Addr
  fd_Way_meant_tree : FuncData
  f_Way_knowing : Addr
  fd_Way_knowing : FuncData
  f_Way_letting : Addr
  fd_Way_letting : FuncData
structure Tx (K : PySem.W.Frag) (w : World) (mg : Str → Option Value) (A : Adr) : Prop where
  F_w_start : Fun K "_law_start" "_law_start" s_w_start A.f_w_start A.fd_w_start
  b_w_start : Binds K A.fd_w_start P_w_start []
  g_w_start : mg "_law_start" = some (.ref A.f_w_start)
  F_w_drawn : Fun K "_law_drawn" "_law_drawn" s_w_drawn A.f_w_drawn A.fd_w_drawn
  b_w_drawn : Binds K A.fd_w_drawn P_w_drawn []
  g_w_drawn : mg "_law_drawn" = some (.ref A.f_w_drawn)
  F_w_of : Fun K "_law_of" "_law_of" s_w_of A.f_w_of A.fd_w_of
  b_w_of : Binds K A.fd_w_of P_w_of []
  g_w_of : mg "_law_of" = some (.ref A.f_w_of)
  F_w_measure : Fun K "_law_measure" "_law_measure" s_w_measure A.f_w_measure A.fd_w_measure
  b_w_measure : Binds K A.fd_w_measure P_w_measure []
  g_w_measure : mg "_law_measure" = some (.ref A.f_w_measure)
  F_w_deed : Fun K "_law_deed" "_law_deed" s_w_deed A.f_w_deed A.fd_w_deed
  b_w_deed : Binds K A.fd_w_deed P_w_deed []
  g_w_deed : mg "_law_deed" = some (.ref A.f_w_deed)
  F_w_tree : Fun K "_law_tree" "_law_tree" s_w_tree A.f_w_tree A.fd_w_tree
  b_w_tree : Binds K A.fd_w_tree P_w_tree []
  g_w_tree : mg "_law_tree" = some (.ref A.f_w_tree)
  F_w_program : Fun K "_law_program" "_law_program" s_w_program A.f_w_program A.fd_w_program
  b_w_program : Binds K A.fd_w_program P_w_program []
  g_w_program : mg "_law_program" = some (.ref A.f_w_program)
  F_w_same : Fun K "_law_same" "_law_same" s_w_same A.f_w_same A.fd_w_same
  b_w_same : Binds K A.fd_w_same P_w_same []
  g_w_same : mg "_law_same" = some (.ref A.f_w_same)
  F_has_word : Fun K "has_word" "has_word" s_has_word A.f_has_word A.fd_has_word
  b_has_word : Binds K A.fd_has_word P_has_word []
  g_has_word : mg "has_word" = some (.ref A.f_has_word)
  F_is_row : Fun K "is_row" "is_row" s_is_row A.f_is_row A.fd_is_row
  b_is_row : Binds K A.fd_is_row P_is_row []
  g_is_row : mg "is_row" = some (.ref A.f_is_row)
  F_is_whole : Fun K "is_whole" "is_whole" s_is_whole A.f_is_whole A.fd_is_whole
  b_is_whole : Binds K A.fd_is_whole P_is_whole []
  g_is_whole : mg "is_whole" = some (.ref A.f_is_whole)
  F_is_between : Fun K "is_between" "is_between" s_is_between A.f_is_between A.fd_is_between
  b_is_between : Binds K A.fd_is_between P_is_between []
  g_is_between : mg "is_between" = some (.ref A.f_is_between)
  F_is_near : Fun K "is_near" "is_near" s_is_near A.f_is_near A.fd_is_near
  b_is_near : Binds K A.fd_is_near P_is_near []
  g_is_near : mg "is_near" = some (.ref A.f_is_near)
  F_stands : Fun K "stands" "stands" s_stands A.f_stands A.fd_stands
  b_stands : Binds K A.fd_stands P_stands []
  g_stands : mg "stands" = some (.ref A.f_stands)
  F_all_fit : Fun K "all_fit" "all_fit" s_all_fit A.f_all_fit A.fd_all_fit
  b_all_fit : Binds K A.fd_all_fit P_all_fit []
  g_all_fit : mg "all_fit" = some (.ref A.f_all_fit)
  F_kinds_ahead : Fun K "kinds_ahead" "kinds_ahead" s_kinds_ahead A.f_kinds_ahead A.fd_kinds_ahead
  b_kinds_ahead : Binds K A.fd_kinds_ahead P_kinds_ahead []
  g_kinds_ahead : mg "kinds_ahead" = some (.ref A.f_kinds_ahead)
  F_call_kind : Fun K "call_kind" "call_kind" s_call_kind A.f_call_kind A.fd_call_kind
  b_call_kind : Binds K A.fd_call_kind P_call_kind []
  g_call_kind : mg "call_kind" = some (.ref A.f_call_kind)
  F_deed_kind : Fun K "deed_kind" "deed_kind" s_deed_kind A.f_deed_kind A.fd_deed_kind
  b_deed_kind : Binds K A.fd_deed_kind P_deed_kind []
  g_deed_kind : mg "deed_kind" = some (.ref A.f_deed_kind)
  F_is_name : Fun K "is_name" "is_name" s_is_name A.f_is_name A.fd_is_name
  b_is_name : Binds K A.fd_is_name P_is_name []
  g_is_name : mg "is_name" = some (.ref A.f_is_name)
  F_within_let : Fun K "within_let" "within_let" s_within_let A.f_within_let A.fd_within_let
  b_within_let : Binds K A.fd_within_let P_within_let []
  g_within_let : mg "within_let" = some (.ref A.f_within_let)
  F_is_measure : Fun K "is_measure" "is_measure" s_is_measure A.f_is_measure A.fd_is_measure
  b_is_measure : Binds K A.fd_is_measure P_is_measure []
  g_is_measure : mg "is_measure" = some (.ref A.f_is_measure)
  F_is_compared : Fun K "is_compared" "is_compared" s_is_compared A.f_is_compared A.fd_is_compared
  b_is_compared : Binds K A.fd_is_compared P_is_compared []
  g_is_compared : mg "is_compared" = some (.ref A.f_is_compared)
  F_trees_within : Fun K "trees_within" "trees_within" s_trees_within A.f_trees_within A.fd_trees_within
  b_trees_within : Binds K A.fd_trees_within P_trees_within []
  g_trees_within : mg "trees_within" = some (.ref A.f_trees_within)
  F_check_trees : Fun K "check_trees" "check_trees" s_check_trees A.f_check_trees A.fd_check_trees
  b_check_trees : Binds K A.fd_check_trees P_check_trees []
  g_check_trees : mg "check_trees" = some (.ref A.f_check_trees)
  F_is_param : Fun K "is_param" "is_param" s_is_param A.f_is_param A.fd_is_param
  b_is_param : Binds K A.fd_is_param P_is_param []
  g_is_param : mg "is_param" = some (.ref A.f_is_param)
  F_is_headed : Fun K "is_headed" "is_headed" s_is_headed A.f_is_headed A.fd_is_headed
  b_is_headed : Binds K A.fd_is_headed P_is_headed []
  g_is_headed : mg "is_headed" = some (.ref A.f_is_headed)
  F_check_program : Fun K "check_program" "check_program" s_check_program A.f_check_program A.fd_check_program
  b_check_program : Binds K A.fd_check_program P_check_program []
  g_check_program : mg "check_program" = some (.ref A.f_check_program)
  F_deed_goals : Fun K "deed_goals" "deed_goals" s_deed_goals A.f_deed_goals A.fd_deed_goals
  b_deed_goals : Binds K A.fd_deed_goals P_deed_goals []
  g_deed_goals : mg "deed_goals" = some (.ref A.f_deed_goals)
  F_goals : Fun K "goals" "goals" s_goals A.f_goals A.fd_goals
  b_goals : Binds K A.fd_goals P_goals []
  g_goals : mg "goals" = some (.ref A.f_goals)
  F_both_ways : Fun K "both_ways" "both_ways" s_both_ways A.f_both_ways A.fd_both_ways
  b_both_ways : Binds K A.fd_both_ways P_both_ways []
  g_both_ways : mg "both_ways" = some (.ref A.f_both_ways)
  F_told_number : Fun K "told_number" "told_number" s_told_number A.f_told_number A.fd_told_number
  b_told_number : Binds K A.fd_told_number P_told_number []
  g_told_number : mg "told_number" = some (.ref A.f_told_number)
  F_told_by : Fun K "told_by" "told_by" s_told_by A.f_told_by A.fd_told_by
  b_told_by : Binds K A.fd_told_by P_told_by []
  g_told_by : mg "told_by" = some (.ref A.f_told_by)
  F_let_kind : Fun K "let_kind" "let_kind" s_let_kind A.f_let_kind A.fd_let_kind
  b_let_kind : Binds K A.fd_let_kind P_let_kind []
  g_let_kind : mg "let_kind" = some (.ref A.f_let_kind)
  F_trees_behind : Fun K "trees_behind" "trees_behind" s_trees_behind A.f_trees_behind A.fd_trees_behind
  b_trees_behind : Binds K A.fd_trees_behind P_trees_behind []
  g_trees_behind : mg "trees_behind" = some (.ref A.f_trees_behind)
  F_function_clauses : Fun K "function_clauses" "function_clauses" s_function_clauses A.f_function_clauses A.fd_function_clauses
  b_function_clauses : Binds K A.fd_function_clauses P_function_clauses []
  g_function_clauses : mg "function_clauses" = some (.ref A.f_function_clauses)
  F_clauses : Fun K "clauses" "clauses" s_clauses A.f_clauses A.fd_clauses
  b_clauses : Binds K A.fd_clauses P_clauses []
  g_clauses : mg "clauses" = some (.ref A.f_clauses)
  F_w_size : Fun K "_law_size" "_law_size" s_w_size A.f_w_size A.fd_w_size
  b_w_size : Binds K A.fd_w_size P_w_size []
  g_w_size : mg "_law_size" = some (.ref A.f_w_size)
  F_w_wants : Fun K "_law_wants" "_law_wants" s_w_wants A.f_w_wants A.fd_w_wants
  b_w_wants : Binds K A.fd_w_wants P_w_wants []
  g_w_wants : mg "_law_wants" = some (.ref A.f_w_wants)
  F_w_lets : Fun K "_law_lets" "_law_lets" s_w_lets A.f_w_lets A.fd_w_lets
  b_w_lets : Binds K A.fd_w_lets P_w_lets []
  g_w_lets : mg "_law_lets" = some (.ref A.f_w_lets)
  F_w_walk : Fun K "_law_walk" "_law_walk" s_w_walk A.f_w_walk A.fd_w_walk
  b_w_walk : Binds K A.fd_w_walk P_w_walk []
  g_w_walk : mg "_law_walk" = some (.ref A.f_w_walk)
  F_w_clauses : Fun K "_law_clauses" "_law_clauses" s_w_clauses A.f_w_clauses A.fd_w_clauses
  b_w_clauses : Binds K A.fd_w_clauses P_w_clauses []
  g_w_clauses : mg "_law_clauses" = some (.ref A.f_w_clauses)
  F_w_branches : Fun K "_law_branches" "_law_branches" s_w_branches A.f_w_branches A.fd_w_branches
  b_w_branches : Binds K A.fd_w_branches P_w_branches []
  g_w_branches : mg "_law_branches" = some (.ref A.f_w_branches)
  F_law : Fun K "law" "law" s_law A.f_law A.fd_law
  b_law : Binds K A.fd_law P_law []
  g_law : mg "law" = some (.ref A.f_law)
  n_all : mg "all" = none
  n_bool : mg "bool" = none
  n_dict : mg "dict" = none
  n_enumerate : mg "enumerate" = none
  n_int : mg "int" = none
  n_isinstance : mg "isinstance" = none
  n_len : mg "len" = none
  n_list : mg "list" = none
  n_max : mg "max" = none
  n_range : mg "range" = none
  n_reversed : mg "reversed" = none
  n_str : mg "str" = none
  n_sum : mg "sum" = none
  n_tuple : mg "tuple" = none
  n_zip : mg "zip" = none
  c_DEEDS : mg "DEEDS" = some (.ref A.a_DEEDS)
  d_DEEDS : KDict K w A.a_DEEDS A.e_DEEDS A.m_DEEDS
  q_DEEDS_num_0 : ∀ H, SqT K H A.a_DEEDS_num_0 [.str "n"]
  q_DEEDS_num : ∀ H, SqT K H A.a_DEEDS_num [.ref A.a_DEEDS_num_0, .str "number"]
  y_DEEDS_num : KDct K w A.a_DEEDS "num" (.ref A.a_DEEDS_num)
  q_DEEDS_sum_0 : ∀ H, SqT K H A.a_DEEDS_sum_0 [.str "number", .str "n"]
  q_DEEDS_sum : ∀ H, SqT K H A.a_DEEDS_sum [.ref A.a_DEEDS_sum_0, .str "number"]
  y_DEEDS_sum : KDct K w A.a_DEEDS "sum" (.ref A.a_DEEDS_sum)
  q_DEEDS_len_0 : ∀ H, SqT K H A.a_DEEDS_len_0 [.str "list"]
  q_DEEDS_len : ∀ H, SqT K H A.a_DEEDS_len [.ref A.a_DEEDS_len_0, .str "number"]
  y_DEEDS_len : KDct K w A.a_DEEDS "len" (.ref A.a_DEEDS_len)
  q_DEEDS_nil_0 : ∀ H, SqT K H A.a_DEEDS_nil_0 []
  q_DEEDS_nil : ∀ H, SqT K H A.a_DEEDS_nil [.ref A.a_DEEDS_nil_0, .str "list"]
  y_DEEDS_nil : KDct K w A.a_DEEDS "nil" (.ref A.a_DEEDS_nil)
  q_DEEDS_put_0 : ∀ H, SqT K H A.a_DEEDS_put_0 [.str "number", .str "list"]
  q_DEEDS_put : ∀ H, SqT K H A.a_DEEDS_put [.ref A.a_DEEDS_put_0, .str "list"]
  y_DEEDS_put : KDct K w A.a_DEEDS "put" (.ref A.a_DEEDS_put)
  q_DEEDS_head_0 : ∀ H, SqT K H A.a_DEEDS_head_0 [.str "list"]
  q_DEEDS_head : ∀ H, SqT K H A.a_DEEDS_head [.ref A.a_DEEDS_head_0, .str "number"]
  y_DEEDS_head : KDct K w A.a_DEEDS "head" (.ref A.a_DEEDS_head)
  q_DEEDS_tail_0 : ∀ H, SqT K H A.a_DEEDS_tail_0 [.str "list"]
  q_DEEDS_tail : ∀ H, SqT K H A.a_DEEDS_tail [.ref A.a_DEEDS_tail_0, .str "list"]
  y_DEEDS_tail : KDct K w A.a_DEEDS "tail" (.ref A.a_DEEDS_tail)
  q_DEEDS_at_0 : ∀ H, SqT K H A.a_DEEDS_at_0 [.str "list", .str "number"]
  q_DEEDS_at : ∀ H, SqT K H A.a_DEEDS_at [.ref A.a_DEEDS_at_0, .str "number"]
  y_DEEDS_at : KDct K w A.a_DEEDS "at" (.ref A.a_DEEDS_at)
  q_DEEDS_ask_0 : ∀ H, SqT K H A.a_DEEDS_ask_0 []
  q_DEEDS_ask : ∀ H, SqT K H A.a_DEEDS_ask [.ref A.a_DEEDS_ask_0, .str "number"]
  y_DEEDS_ask : KDct K w A.a_DEEDS "ask" (.ref A.a_DEEDS_ask)
  c_FARTHEST : mg "FARTHEST" = some (.int 99 A.t_FARTHEST)
  c_KINDS : mg "KINDS" = some (.ref A.a_KINDS)
  q_KINDS : ∀ H, SqT K H A.a_KINDS [.str "number", .str "list"]
  c_MEASURES : mg "MEASURES" = some (.ref A.a_MEASURES)
  d_MEASURES : KDict K w A.a_MEASURES A.e_MEASURES A.m_MEASURES
  y_MEASURES_of : KDct K w A.a_MEASURES "of" (.str "number")
  y_MEASURES_len : KDct K w A.a_MEASURES "len" (.str "list")
  c_MOST_DEPTH : mg "MOST_DEPTH" = some (.int 20 A.t_MOST_DEPTH)
  c_MOST_FUNCTIONS : mg "MOST_FUNCTIONS" = some (.int 6 A.t_MOST_FUNCTIONS)
  c_MOST_PARAMS : mg "MOST_PARAMS" = some (.int 4 A.t_MOST_PARAMS)
  c_MOST_SIGNS : mg "MOST_SIGNS" = some (.int 8 A.t_MOST_SIGNS)
  c_MOST_TREES : mg "MOST_TREES" = some (.int 60 A.t_MOST_TREES)
  c_TREES : mg "TREES" = some (.ref A.a_TREES)
  d_TREES : KDict K w A.a_TREES A.e_TREES A.m_TREES
  y_TREES_let : KDct K w A.a_TREES "let" (.int 4)
  y_TREES_if : KDct K w A.a_TREES "if" (.int 6)
  y_TREES_claim : KDct K w A.a_TREES "claim" (.int 5)
  y_TREES_tell : KDct K w A.a_TREES "tell" (.int 2)
  cl_Way : Cls K A.C_Way
  g_Way : mg "Way" = some (.ref A.C_Way)
  a_Way_names : NoAttr K A.C_Way "names"
  a_Way_known : NoAttr K A.C_Way "known"
  a_Way_made : NoAttr K A.C_Way "made"
  a_Way_meant : NoAttr K A.C_Way "meant"
  F_Way_init : Fun K "__init__" "Way.__init__" s_Way_init A.f_Way_init A.fd_Way_init
  b_Way_init : Binds K A.fd_Way_init P_Way_init []
  M_Way : Mk K A.C_Way A.f_Way_init
  F_Way_meant_part : Fun K "meant_part" "Way.meant_part" s_Way_meant_part A.f_Way_meant_part A.fd_Way_meant_part
  b_Way_meant_part : Binds K A.fd_Way_meant_part P_Way_meant_part []
  m_Way_meant_part : Meth K A.C_Way "meant_part" A.f_Way_meant_part
  F_Way_meant_row : Fun K "meant_row" "Way.meant_row" s_Way_meant_row A.f_Way_meant_row A.fd_Way_meant_row
  b_Way_meant_row : Binds K A.fd_Way_meant_row P_Way_meant_row []
  m_Way_meant_row : Meth K A.C_Way "meant_row" A.f_Way_meant_row
  F_Way_meant_tree : Fun K "meant_tree" "Way.meant_tree" s_Way_meant_tree A.f_Way_meant_tree A.fd_Way_meant_tree
  b_Way_meant_tree : Binds K A.fd_Way_meant_tree P_Way_meant_tree []
  m_Way_meant_tree : Meth K A.C_Way "meant_tree" A.f_Way_meant_tree
  F_Way_knowing : Fun K "knowing" "Way.knowing" s_Way_knowing A.f_Way_knowing A.fd_Way_knowing
  b_Way_knowing : Binds K A.fd_Way_knowing P_Way_knowing []
  m_Way_knowing : Meth K A.C_Way "knowing" A.f_Way_knowing
  F_Way_letting : Fun K "letting" "Way.letting" s_Way_letting A.f_Way_letting A.fd_Way_letting
  b_Way_letting : Binds K A.fd_Way_letting P_Way_letting []
  m_Way_letting : Meth K A.C_Way "letting" A.f_Way_letting
end Cs
namespace Cs
open PySem PySem.Spec L2
section
variable {P : Program} {w : World} {K : PySem.W.Frag} {mg : Str → Option Value} {base : Heap} {A : Adr}
def spWhole : Sp := fun vs H Q _ => ∃ n : Int, vs = [.int n] ∧ Q (.bl true) H
theorem ok_is_whole (T : Tx K w mg A) : FnOk P w K mg base CX0 1 A.f_is_whole A.fd_is_whole P_is_whole spWhole := by
  refine T.F_is_whole.ok sc_is_whole (fun vs H Q E h => ?_) (fun cdv AA outer s H vs Q E hr h => ?_)
  · obtain ⟨n, rfl, _⟩ := h
    rfl
  · obtain ⟨n, rfl, q⟩ := h
    refine ⟨_, (pss_one (ps_ret (pe_and (pe_callB call_isi (by rfl) T.n_isinstance (by decide +kernel) (pa_cons (pv 0) (pa_cons (pe_bltn (v := .ty "int") (u := .type "int") (by rfl) T.n_int (by decide +kernel) rfl) pa_nil))) (pe_one (pe_not (pe_callB call_isi (by rfl) T.n_isinstance (by decide +kernel) (pa_cons (pv 0) (pa_cons (pe_bltn (v := .ty "bool") (u := .type "bool") (by rfl) T.n_bool (by decide +kernel) rfl) pa_nil)))))))), ?_⟩
    refine ⟨_, rfl, _, _, _, _, true, rfl, .ty "int", .base (.int n), kv (by decide +kernel), true, rfl, ?_⟩
    rw [if_pos rfl]
    refine ⟨_, rfl, _, _, _, _, false, rfl, .ty "bool", .base (.int n), kv (by decide +kernel), false, rfl, ?_⟩
    exact q
def spBetween : Sp := fun vs H Q _ => ∃ n a b : Int, vs = [.int n, .int a, .int b] ∧ Q (.bl (decide (a ≤ n ∧ n ≤ b))) H
theorem ok_is_between (T : Tx K w mg A) : FnOk P w K mg base CX0 2 A.f_is_between A.fd_is_between P_is_between spBetween := by
  have G_is_whole := ok_is_whole (P := P) (base := base) T
  refine T.F_is_between.ok sc_is_between (fun vs H Q E h => ?_) (fun cdv AA outer s H vs Q E hr h => ?_)
  · obtain ⟨n, a, b, rfl, _⟩ := h
    rfl
  · obtain ⟨n, a, b, rfl, q⟩ := h
    refine ⟨_, (pss_one (ps_ret (pe_and (pe_call G_is_whole (hr.mono (by decide)) (by rfl) T.g_is_whole T.F_is_whole.kp T.b_is_whole .nil pass0 (pa_cons (pv 0) pa_nil)) (pe_one (pe_chain op_le op_le (pv 1) (pv 0) (pv 2)))))), ?_⟩
    refine ⟨_, rfl, n, rfl, true, rfl, ?_⟩
    rw [if_pos rfl]
    refine ⟨_, rfl, _, rfl, _, _, rfl, rfl, _, rfl, ?_⟩
    by_cases h1 : a ≤ n
    · rw [if_pos (decide_eq_true h1)]
      refine ⟨_, rfl, _, _, rfl, rfl, ?_⟩
      by_cases h2 : n ≤ b
      · rw [decide_eq_true (show a ≤ n ∧ n ≤ b from ⟨h1, h2⟩)] at q
        show Q (.bl (decide (n ≤ b))) H
        rw [decide_eq_true h2]
        exact q
      · rw [decide_eq_false (show ¬ (a ≤ n ∧ n ≤ b) from fun z => h2 z.2)] at q
        show Q (.bl (decide (n ≤ b))) H
        rw [decide_eq_false h2]
        exact q
    · rw [if_neg (by rw [decide_eq_false h1]; exact Bool.false_ne_true)]
      rw [decide_eq_false (show ¬ (a ≤ n ∧ n ≤ b) from fun z => h1 z.1)] at q
      exact q
def spNear : Sp := fun vs H Q _ => ∃ n : Int, vs = [.int n] ∧ near n ∧ Q (.bl true) H
theorem ok_is_near (T : Tx K w mg A) : FnOk P w K mg base CX0 3 A.f_is_near A.fd_is_near P_is_near spNear := by
  have G_is_between := ok_is_between (P := P) (base := base) T
  refine T.F_is_near.ok sc_is_near (fun vs H Q E h => ?_) (fun cdv AA outer s H vs Q E hr h => ?_)
  · obtain ⟨n, rfl, _⟩ := h
    rfl
  · obtain ⟨n, rfl, hn, q⟩ := h
    refine ⟨_, (pss_one (ps_ret (pe_call G_is_between (hr.mono (by decide)) (by rfl) T.g_is_between T.F_is_between.kp T.b_is_between .nil pass0 (pa_cons (pv 0) (pa_cons (pe_un un_neg (pe_glob (v := .int 99) rfl T.c_FARTHEST ⟨_, rfl⟩)) (pa_cons (pe_glob (v := .int 99) rfl T.c_FARTHEST ⟨_, rfl⟩) pa_nil)))))), ?_⟩
    refine ⟨_, rfl, 99, rfl, n, -99, 99, rfl, ?_⟩
    rw [decide_eq_true (show (-99 : Int) ≤ n ∧ n ≤ 99 from hn)]
    exact q
def spRow (K : PySem.W.Frag) : Sp := fun vs H Q _ => ∃ (a : Addr) (xs : List V) (m : Int), vs = [.ref a, .int m] ∧ SqT K H a xs ∧ Q (.bl (decide ((xs.length : Int) = m))) H
theorem ok_is_row (T : Tx K w mg A) : FnOk P w K mg base CX0 1 A.f_is_row A.fd_is_row P_is_row (spRow K) := by
  refine T.F_is_row.ok sc_is_row (fun vs H Q E h => ?_) (fun cdv AA outer s H vs Q E hr h => ?_)
  · obtain ⟨a, xs, m, rfl, _⟩ := h
    rfl
  · obtain ⟨a, xs, m, rfl, hx, q⟩ := h
    refine ⟨_, (pss_one (ps_ret (pe_and (pe_callB call_isi (by rfl) T.n_isinstance (by decide +kernel) (pa_cons (pv 0) (pa_cons (pe_bltn (v := .ty "tuple") (u := .type "tuple") (by rfl) T.n_tuple (by decide +kernel) rfl) pa_nil))) (pe_one (pe_cmpR op_eq (pe_callB call_len (by rfl) T.n_len (by decide +kernel) (pa_cons (pv 0) pa_nil)) (pv 1) (nomark _)))))), ?_⟩
    refine ⟨_, rfl, _, _, _, _, true, rfl, .ty "tuple", tyx_tup hx, kv (by decide +kernel), true, rfl, ?_⟩
    rw [if_pos rfl]
    refine ⟨_, rfl, _, xs.length, rfl, .inr ⟨xs, hx, rfl⟩, _, rfl, rfl, ?_⟩
    have e : decide (V.int (xs.length : Nat) = V.int m) = decide ((xs.length : Int) = m) := decide_eq_decide.mpr ⟨fun z => V.int.inj z, fun z => by rw [z]⟩
    rw [← e] at q
    exact q
def spWord (K : PySem.W.Frag) : Sp := fun vs H Q _ => ∃ (a : Addr) (x : Str) (xs : List V), vs = [.ref a] ∧ SqT K H a (.str x :: xs) ∧ Q (.bl true) H
theorem ok_has_word (T : Tx K w mg A) : FnOk P w K mg base CX0 1 A.f_has_word A.fd_has_word P_has_word (spWord K) := by
  refine T.F_has_word.ok sc_has_word (fun vs H Q E h => ?_) (fun cdv AA outer s H vs Q E hr h => ?_)
  · obtain ⟨a, x, xs, rfl, _⟩ := h
    rfl
  · obtain ⟨a, x, xs, rfl, hx, q⟩ := h
    refine ⟨_, (pss_one (ps_ret (pe_and (pe_callB call_isi (by rfl) T.n_isinstance (by decide +kernel) (pa_cons (pv 0) (pa_cons (pe_bltn (v := .ty "tuple") (u := .type "tuple") (by rfl) T.n_tuple (by decide +kernel) rfl) pa_nil))) (pe_and (pe_cmpR op_gt (pe_callB call_len (by rfl) T.n_len (by decide +kernel) (pa_cons (pv 0) pa_nil)) pe_int (nomark _)) (pe_one (pe_callB call_isi (by rfl) T.n_isinstance (by decide +kernel) (pa_cons (pe_ix ix_tup (pv 0) pe_int (fun _ _ => rfl)) (pa_cons (pe_bltn (v := .ty "str") (u := .type "str") (by rfl) T.n_str (by decide +kernel) rfl) pa_nil)))))))), ?_⟩
    refine ⟨_, rfl, _, _, _, _, true, rfl, .ty "tuple", tyx_tup hx, kv (by decide +kernel), true, rfl, ?_⟩
    rw [if_pos rfl]
    refine ⟨_, rfl, _, (xs.length + 1 : Nat), rfl, .inr ⟨_, hx, rfl⟩, _, _, rfl, rfl, true, ?_, ?_⟩
    · show V.bl (decide ((0 : Int) < ((xs.length + 1 : Nat) : Int))) = _
      rw [decide_eq_true (by omega)]
    rw [if_pos rfl]
    refine ⟨_, rfl, _, _, _, _, rfl, rfl, hx, atI_nat (j := 0) rfl, _, _, _, _, true, rfl, .ty "str", .base (.str x), kv (by decide +kernel), q⟩
end
end Cs
namespace Cs
open PySem PySem.Spec L2
section
variable {P : Program} {w : World} {K : PySem.W.Frag} {mg : Str → Option Value} {base : Heap} {A : Adr}
def spName : Sp := fun vs H Q _ => ∃ x : Str, vs = [.str x] ∧ okName x ∧ ∀ H1, Same H H1 → Q (.bl true) H1
theorem ok_is_name (T : Tx K w mg A) : FnOk P w K mg base CX0 1 A.f_is_name A.fd_is_name P_is_name spName := by
  refine T.F_is_name.ok sc_is_name (fun vs H Q E h => ?_) (fun cdv AA outer s H vs Q E hr h => ?_)
  · obtain ⟨x, rfl, _⟩ := h
    rfl
  · obtain ⟨x, rfl, ⟨h1, h2, h3⟩, q⟩ := h
    refine ⟨_, (pss_cons (ps_if (PW.pt (pw_or (pt_not (pt_val (pe_callB call_isi (by rfl) T.n_isinstance (by decide +kernel) (pa_cons (pv 0) (pa_cons (pe_bltn (v := .ty "str") (u := .type "str") (by rfl) T.n_str (by decide +kernel) rfl) pa_nil))))) (pw_or1 (pt_not (pt_chain op_le op_le pe_int (pe_callB call_len (by rfl) T.n_len (by decide +kernel) (pa_cons (pv 0) pa_nil)) (pe_glob (v := .int 8) rfl T.c_MOST_SIGNS ⟨_, rfl⟩))))))
  (pss_one (ps_ret pe_bl))
  pss_nil)
  (pss_one (ps_ret (pe_callB (cr_all rfl) (by rfl) T.n_all (by decide +kernel) (pa_cons (pe_lc (own := [("sign", 1)]) (g := (gName 1)) (tt := tYes) (te := _) rfl sc_is_name.nd (pi_str (pv 0)) (blkOk_by (N := N_is_name) (sc := defScope s_is_name) (by decide +kernel)) (fun _ _ _ _ _ => (pg_name (i := 1) sc_is_name.nd rfl (.inl rfl))) (fun _ _ _ _ _ => pts_nil) (fun _ _ _ _ _ => (pe_chain op_le_str op_le_str pe_str (pv 1) pe_str))) pa_nil))))), ?_⟩
    refine ⟨_, rfl, _, _, _, _, true, rfl, .ty "str", .base (.str x), kv (by decide +kernel), true, rfl, iteF ⟨_, rfl, _, x.length, rfl, ⟨small (by omega), rfl⟩, _, _, rfl, rfl, _, rfl, itd (by omega) ⟨_, _, rfl, rfl, _, rfl, itnd (by omega) ?_⟩⟩⟩
    refine ⟨_, rfl, x, rfl, fun D hD => lc_data (walk_str (z := x)) (fun _ y _ => y = .bl true) (fun _ _ _ _ _ e => e) hD (fun _ _ => trivial) (show x.length ≤ _ by omega) ?_ ?_⟩
    · rintro i y H1 H2 k hi s1 ⟨rfl, c, hc, rfl⟩ hk
      have hs : sign c := h3 c (List.mem_of_getElem? (by rw [Array.getElem?_toList]; exact hc))
      refine ⟨rfl, _, rfl, _, _, rfl, rfl, true, ?_, iteT ⟨_, _, rfl, rfl, hk _ _ (Same.refl _) ?_⟩⟩
      · show V.bl (!decide ([c] < [97])) = _
        rw [decide_eq_false (by intro z; have := hs.1; cases z <;> first | omega | contradiction)]
        rfl
      · show V.bl (!decide ([122] < [c])) = _
        rw [decide_eq_false (by intro z; have := hs.2; cases z <;> first | omega | contradiction)]
        rfl
    · rintro H1 acc s1 e1 hl hE
      refine ⟨D, List.replicate acc.length true, rfl, ?_, ?_⟩
      · refine .inl (.inl ?_)
        rw [e1]
        congr 2
        refine List.ext_getElem? fun j => ?_
        rw [List.getElem?_map, List.getElem?_replicate]
        cases hz : acc[j]? with
        | none =>
          rw [if_neg (by have := List.getElem?_eq_none_iff.mp hz; omega)]
          rfl
        | some y =>
          rw [if_pos (List.getElem?_eq_some_iff.mp hz).1, hE j y hz]
          rfl
      · have e : (List.replicate acc.length true).all id = true := by simp
        rw [e]
        exact q _ s1
def spStands (ns : Nm) : Sp := fun vs H Q _ => ∃ (x : Str) (kd : Kd) (d : Addr), vs = [.str x, kd.v, .ref d] ∧ H d = some (.dK (nmK ns)) ∧ look ns x = some kd ∧ Q (.bl true) H
theorem ok_stands (T : Tx K w mg A) (ns : Nm) : FnOk P w K mg base CX0 1 A.f_stands A.fd_stands P_stands (spStands ns) := by
  refine T.F_stands.ok sc_stands (fun vs H Q E h => ?_) (fun cdv AA outer s H vs Q E hr h => ?_)
  · obtain ⟨x, kd, d, rfl, _⟩ := h
    rfl
  · obtain ⟨x, kd, d, rfl, hd, hl, q⟩ := h
    refine ⟨_, (pss_one (ps_ret (pe_and (pe_callB call_isi (by rfl) T.n_isinstance (by decide +kernel) (pa_cons (pv 0) (pa_cons (pe_bltn (v := .ty "str") (u := .type "str") (by rfl) T.n_str (by decide +kernel) rfl) pa_nil))) (pe_one (pe_cmpR op_eq (pe_dget1 (hu_of hr) (pv 2) (pv 0) ⟨rfl, rfl, rfl, rfl⟩) (pv 1) (nomark _)))))), ?_⟩
    refine ⟨_, rfl, _, _, _, _, true, rfl, .ty "str", .base (.str x), kv (by decide +kernel), true, rfl, ?_⟩
    rw [if_pos rfl]
    refine ⟨_, rfl, d, rfl, .inl ⟨_, .inl hd⟩, _, rfl, _, DGet.k (k := .inr x) hd, _, rfl, ?_⟩
    rw [nmK_val, hl]
    refine ⟨rfl, ?_⟩
    show Q (.bl (decide (kd.v = kd.v))) H
    rw [decide_eq_true rfl]
    exact q
def spAhead (K : PySem.W.Frag) : Sp := fun vs H Q _ => ∃ (v : V) (f : Fn), vs = [v] ∧ FnAt K H v f ∧ f.ps.length ≤ 1000 ∧ ∀ H1 p, Same H H1 → H p = none → H1 p = some (.lst (f.ps.map fun x => x.2.v)) → Q (.ref p) H1
theorem ok_kinds_ahead (T : Tx K w mg A) : FnOk P w K mg base CX0 1 A.f_kinds_ahead A.fd_kinds_ahead P_kinds_ahead (spAhead K) := by
  refine T.F_kinds_ahead.ok sc_kinds_ahead (fun vs H Q E h => ?_) (fun cdv AA outer s H vs Q E hr h => ?_)
  · obtain ⟨v, f, rfl, _⟩ := h
    rfl
  · obtain ⟨v, f, rfl, ⟨a, p, tv, qs, rfl, ha, hp, hq, ht⟩, hlen, q⟩ := h
    refine ⟨_, (pss_one (ps_ret (pe_lc (own := [("_", 1), ("kind", 2)]) (g := (gTup K 2 (gCons (gName 1) (gCons (gName 2) gNil)))) (tt := tYes) (te := (tVar 2)) rfl sc_kinds_ahead.nd (pi_tup (pe_ix ix_tup (pv 0) pe_int (fun _ _ => rfl))) (blkOk_by (N := N_kinds_ahead) (sc := defScope s_kinds_ahead) (by decide +kernel)) (fun _ _ _ _ _ => (pg_tup (by rfl) (pgs_cons (pg_name (i := 1) sc_kinds_ahead.nd rfl (.inl rfl)) (pgs_cons (pg_name (i := 2) sc_kinds_ahead.nd rfl (.inl rfl)) pgs_nil)))) (fun _ _ _ _ _ => pts_nil) (fun _ _ _ _ _ => (pv 2))))), ?_⟩
    refine ⟨_, rfl, _, _, _, _, rfl, rfl, ha, atI_nat (j := 0) rfl, p, rfl, ⟨_, hp.sq⟩, fun D hD => ?_⟩
    refine lc_data (walk_tup (K := K) (a := p) (xs := qs.map V.ref)) (fun i y _ => ∃ x, f.ps[i]? = some x ∧ y = x.2.v) (fun _ _ _ _ _ e => e) hD (fun H1 s1 => Same.tup s1 hp.sq) (by rw [List.length_map, Paired.length hq]; omega) ?_ ?_
    · rintro i x H1 H2 k hi s1 ⟨rfl, hx⟩ hk
      rw [List.getElem?_map] at hx
      obtain ⟨t, ht2, rfl⟩ := Option.map_eq_some_iff.mp hx
      obtain ⟨pr, hpr, hat⟩ := paired_get hq ht2
      exact ⟨t, _, rfl, Same.tup s1 hat, rfl, _, _, rfl, _, _, rfl, rfl, rfl, _, rfl, hk _ _ (Same.refl _) ⟨pr, hpr, rfl⟩⟩
    · rintro H1 acc s1 e1 hl hE
      refine q H1 D s1 hD ?_
      rw [e1]
      congr 2
      refine List.ext_getElem? fun j => ?_
      rw [List.getElem?_map]
      cases hz : acc[j]? with
      | none =>
        have h1 := List.getElem?_eq_none_iff.mp hz
        rw [List.length_map, Paired.length hq] at hl
        rw [List.getElem?_eq_none (by omega)]
        rfl
      | some y =>
        obtain ⟨x, h1, rfl⟩ := hE j y hz
        rw [h1]
        rfl
end
end Cs
namespace Cs
open PySem PySem.Spec L2
/-- what a deed's part is to be -/
inductive Nd where
  | n | k (kd : Kd)
def Nd.s : Nd → Str
  | .n => "n"
  | .k kd => kd.s
def fits (ns : Nm) : V → Nd → Prop
  | .int i, .n => near i
  | .str x, .k kd => look ns x = some kd
  | _, _ => False
theorem kd_not_n (kd : Kd) : ¬ kd.s = ("n" : Str) := by cases kd <;> decide +kernel
section
variable {P : Program} {w : World} {K : PySem.W.Frag} {mg : Str → Option Value} {base : Heap} {A : Adr}
/-- a list of truths -/
theorem trues {H1 : Hp} {D : Addr} {acc : List V} (e1 : H1 D = some (.lst acc)) (h : ∀ (i : Nat) y, acc[i]? = some y → y = .bl true) : SqL K H1 D ((List.replicate acc.length true).map V.bl) := by
  refine .inl (.inl ?_)
  rw [e1]
  congr 2
  refine List.ext_getElem? fun j => ?_
  rw [List.getElem?_map, List.getElem?_replicate]
  cases hz : acc[j]? with
  | none =>
    rw [if_neg (by have := List.getElem?_eq_none_iff.mp hz; omega)]
    rfl
  | some y =>
    rw [if_pos (List.getElem?_eq_some_iff.mp hz).1, h j y hz]
    rfl
theorem trues_all (n : Nat) : (List.replicate n true).all id = true := by simp
def spFit (K : PySem.W.Frag) (ns : Nm) : Sp := fun vs H Q _ => ∃ (p a d : Addr) (parts : List V) (nds : List Nd), vs = [.ref p, .ref a, .ref d] ∧ SqT K H p parts ∧ (SqT K H a (nds.map fun x => .str x.s) ∨ SqL K H a (nds.map fun x => .str x.s)) ∧
  H d = some (.dK (nmK ns)) ∧ Paired (fits ns) parts nds ∧ parts.length ≤ 1000 ∧ ∀ H1, Same H H1 → Q (.bl true) H1
theorem ok_all_fit (T : Tx K w mg A) (ns : Nm) : FnOk P w K mg base CX0 4 A.f_all_fit A.fd_all_fit P_all_fit (spFit K ns) := by
  have G_is_near := ok_is_near (P := P) (base := base) T
  have G_stands := ok_stands (P := P) (base := base) T ns
  refine T.F_all_fit.ok sc_all_fit (fun vs H Q E h => ?_) (fun cdv AA outer s H vs Q E hr h => ?_)
  · obtain ⟨p, a, d, parts, nds, rfl, _⟩ := h
    rfl
  · obtain ⟨p, a, d, parts, nds, rfl, hp, ha, hd, hf, hlen, q⟩ := h
    have hl := Paired.length hf
    refine ⟨_, (pss_cons (ps_if (pt_cmpR op_ne (pe_callB call_len (by rfl) T.n_len (by decide +kernel) (pa_cons (pv 0) pa_nil)) (pe_callB call_len (by rfl) T.n_len (by decide +kernel) (pa_cons (pv 1) pa_nil)) (nomark _))
  (pss_one (ps_ret pe_bl))
  pss_nil)
  (pss_one (ps_ret (pe_callB (cr_all rfl) (by rfl) T.n_all (by decide +kernel) (pa_cons (pe_lc (own := [("part", 3), ("want", 4)]) (g := (gTup K 2 (gCons (gName 3) (gCons (gName 4) gNil)))) (tt := tYes) (te := _) rfl sc_all_fit.nd (pi_or (RZ.pi_zipA (by rfl) T.n_zip (pa_cons (pv 0) (pa_cons (pv 1) pa_nil))) (pi_zipM (by rfl) T.n_zip (pa_cons (pv 0) (pa_cons (pv 1) pa_nil)))) (blkOk_by (N := N_all_fit) (sc := defScope s_all_fit) (by decide +kernel)) (fun _ _ _ _ _ => (pg_tup (by rfl) (pgs_cons (pg_name (i := 3) sc_all_fit.nd rfl (.inl rfl)) (pgs_cons (pg_name (i := 4) sc_all_fit.nd rfl (.inl rfl)) pgs_nil)))) (fun _ _ _ _ _ => pts_nil) (fun _ _ _ _ _ => (pe_ifExp (pt_cmpR op_eq (pv 4) pe_str (nomark _)) (pe_call G_is_near (hr.mono (by decide)) (by rfl) T.g_is_near T.F_is_near.kp T.b_is_near .nil pass0 (pa_cons (pv 3) pa_nil)) (pe_call G_stands (hr.mono (by decide)) (by rfl) T.g_stands T.F_stands.kp T.b_stands .nil pass0 (pa_cons (pv 3) (pa_cons (pv 4) (pa_cons (pv 2) pa_nil))))))) pa_nil))))), ?_⟩
    refine ⟨_, rfl, _, parts.length, rfl, .inr ⟨_, hp, rfl⟩, _, rfl, _, parts.length, rfl, ?_, rfl, _, rfl, ?_⟩
    · rcases ha with ha | ha
      · exact .inr ⟨_, ha, by rw [List.length_map]; exact hl⟩
      · exact .inl ⟨_, ha, by rw [List.length_map]; exact hl⟩
    refine itnd rfl ?_
    -- one turn, whatever is walked
    have turn : ∀ (i : Nat) (x : V) (H1 H2 : Hp) (k : V → Hp → Prop), Same H H1 → (∃ T x' y', x = .ref T ∧ H1 T = none ∧ H2 = upd H1 T (.tup [x', y']) ∧ parts[i]? = some x' ∧ (nds.map fun x => V.str x.s)[i]? = some y') → (∀ y H4, Same H1 H4 → y = V.bl true → k y H4) →
        gTup K 2 (gCons (gName 3) (gCons (gName 4) gNil)) x (wipe (L2.start N_all_fit [.ref p, .ref a, .ref d]) [3, 4]) H2 fun σ2 H3 => wipe σ2 [3, 4] = wipe (L2.start N_all_fit [.ref p, .ref a, .ref d]) [3, 4] ∧
          tIf (tTest (tOp rEq (tVar 4) (tC (.str "n")))) (tCall spNear [] (fun _ _ _ => False) (tCons (tVar 3) tNil)) (tCall (spStands ns) [] (fun _ _ _ => False) (tCons (tVar 3) (tCons (tVar 4) (tCons (tVar 2) tNil)))) σ2 H3 k := by
      rintro i x H1 H2 k s1 ⟨T, x', y', rfl, hT, rfl, hx, hy⟩ hk
      rw [List.getElem?_map] at hy
      obtain ⟨nd, hnd, rfl⟩ := Option.map_eq_some_iff.mp hy
      obtain ⟨nd', hnd', hfit⟩ := paired_get hf hx
      rw [hnd] at hnd'
      cases hnd'
      refine ⟨T, [x', .str nd.s], rfl, .inl (.inl upd_same), rfl, x', _, rfl, .str nd.s, _, rfl, rfl, rfl, _, rfl, rfl, _, rfl, ?_⟩
      cases nd with
      | n =>
        cases x' <;> first | exact hfit.elim | skip
        refine itd (p := V.str Nd.n.s = V.str "n") rfl ⟨_, rfl, _, rfl, hfit, hk _ _ (same_upd hT) rfl⟩
      | k kd =>
        cases x' <;> first | exact hfit.elim | skip
        refine itn (p := V.str (Nd.k kd).s = V.str "n") (fun z => kd_not_n kd (V.str.inj z)) ⟨_, rfl, _, rfl, .ref d, rfl, _, kd, d, rfl, ?_, hfit, hk _ _ (same_upd hT) rfl⟩
        exact same_upd hT _ _ (s1 _ _ hd)
    have fin : ∀ (D : Addr) (H1 : Hp) (acc : List V), Same H H1 → H1 D = some (.lst acc) → (∀ (i : Nat) y, acc[i]? = some y → y = .bl true) → ∃ (a : Addr) (bs : List Bool), [V.ref D] = [V.ref a] ∧ SqL K H1 a (bs.map V.bl) ∧ Q (.bl (bs.all id)) H1 := fun D H1 acc s1 e1 hE => by
      refine ⟨D, List.replicate acc.length true, rfl, trues e1 hE, ?_⟩
      rw [trues_all]
      exact q _ s1
    rcases ha with ha | ha
    · refine .inl ⟨_, rfl, _, rfl, p, a, _, _, rfl, .inr ⟨hp, ha, fun D hD => ?_⟩⟩
      refine lc_data (n := parts.length) (G := fun H1 => Same H H1) (Y := fun i H v H' => ∃ T x' y', v = .ref T ∧ H T = none ∧ H' = upd H T (.tup [x', y']) ∧ parts[i]? = some x' ∧ (nds.map fun x => V.str x.s)[i]? = some y') ⟨?_, ?_, ?_⟩
        (fun _ y _ => y = .bl true) (fun _ _ _ _ _ e => e) hD (fun _ s1 => s1) (by omega) (fun i x H1 H2 k hi s1 hy hk => turn i x H1 H2 k s1 hy hk) (fun H1 acc s1 e1 _ hE => fin D H1 acc s1 e1 hE)
      · intro i H1 hi s1
        exact ⟨parts, _, _, _, Same.tup s1 hp, Same.tup s1 ha, List.getElem?_eq_getElem hi, List.getElem?_eq_getElem (by rw [List.length_map]; omega)⟩
      · intro H1 s1
        exact ⟨parts, _, Same.tup s1 hp, Same.tup s1 ha, .inl (Nat.le_refl _)⟩
      · rintro i H1 v H2 hi s1 ⟨T, x, y, rfl, hT, rfl, f1, f2⟩
        exact ⟨T, x, y, rfl, hT, rfl, f1 _ (Same.tup s1 hp), f2 _ (Same.tup s1 ha)⟩
    · refine .inr ⟨_, rfl, _, rfl, p, a, _, _, rfl, hp, ha, fun D hD => ?_⟩
      refine lc_data (n := parts.length) (G := fun H1 => Same H H1) (Y := fun i H v H' => ∃ T x' y', v = .ref T ∧ H T = none ∧ H' = upd H T (.tup [x', y']) ∧ parts[i]? = some x' ∧ (nds.map fun x => V.str x.s)[i]? = some y') ⟨?_, ?_, ?_⟩
        (fun _ y _ => y = .bl true) (fun _ _ _ _ _ e => e) hD (fun _ s1 => s1) (by omega) (fun i x H1 H2 k hi s1 hy hk => turn i x H1 H2 k s1 hy hk) (fun H1 acc s1 e1 _ hE => fin D H1 acc s1 e1 hE)
      · intro i H1 hi s1
        exact ⟨Same.tup s1 hp, s1.seq ha, by rw [List.length_map]; omega⟩
      · intro H1 s1
        exact ⟨Same.tup s1 hp, s1.seq ha, by rw [List.length_map]; omega⟩
      · rintro i H1 v H2 hi s1 y
        exact y
end
end Cs
namespace Cs
open PySem PySem.Spec L2
section
variable {P : Program} {w : World} {K : PySem.W.Frag} {mg : Str → Option Value} {base : Heap} {A : Adr}
theorem fits_map {ns : Nm} : ∀ {xs : List Str} {ks : List Kd}, Paired (fun x kd => look ns x = some kd) xs ks → Paired (fits ns) (xs.map V.str) (ks.map Nd.k)
  | _, _, .nil => .nil
  | _, _, .cons h t => .cons h (fits_map t)
theorem imAll_strs {H : Hp} : ∀ {vs : List V} {xs : List Str}, ImAll K H vs (xs.map .str) → vs = xs.map V.str
  | _, [], h => all0 h
  | _, x :: xs, h => by
    obtain ⟨v, r, rfl, h1, h2⟩ := all_cons h
    rw [im_str h1, imAll_strs h2]
    rfl
/-- all that deed_kind and the like are told -/
structure Ctx (K : PySem.W.Frag) (H : Hp) (pgv : V) (fs : List Fn) (d : Addr) (ns : Nm) : Prop where
  pg : PgAt K H pgv fs
  okl : fs.length ≤ 6
  few : ∀ f ∈ fs, f.ps.length ≤ 4
  nm : H d = some (.dK (nmK ns))
theorem Ctx.same {H H1 : Hp} {pgv : V} {fs : List Fn} {d : Addr} {ns : Nm} (c : Ctx K H pgv fs d ns) (s : Same H H1) : Ctx K H1 pgv fs d ns := ⟨c.pg.same (sameI_of s), c.okl, c.few, s _ _ c.nm⟩
def spDeed (K : PySem.W.Frag) (fs : List Fn) (ns : Nm) (dd : Dd) : Sp := fun vs H Q _ => ∃ (pgv dv : V) (d : Addr) (kd : Kd), vs = [pgv, dv, .ref d] ∧ Ctx K H pgv fs d ns ∧ Im K H dv dd.d ∧ dd.ok (fs.map Fn.hd) ns kd ∧ ∀ H1, Same H H1 → Q kd.v H1
theorem ok_call_kind (T : Tx K w mg A) (fs : List Fn) (ns : Nm) (f : Nat) (xs : List Str) : FnOk P w K mg base CX0 5 A.f_call_kind A.fd_call_kind P_call_kind (spDeed K fs ns (.call f xs)) := by
  have G_is_row := ok_is_row (P := P) (base := base) T
  have G_is_between := ok_is_between (P := P) (base := base) T
  have G_all_fit := ok_all_fit (P := P) (base := base) T ns
  have G_kinds_ahead := ok_kinds_ahead (P := P) (base := base) T
  refine T.F_call_kind.ok sc_call_kind (fun vs H Q E h => ?_) (fun cdv AA outer s H vs Q E hr h => ?_)
  · obtain ⟨pgv, dv, d, kd, rfl, _⟩ := h
    rfl
  · obtain ⟨pgv, dv, d, kd, rfl, C, hd, ⟨h1, h, hh, hf, rfl⟩, q⟩ := h
    obtain ⟨da, dxs, rfl, hdt, hall⟩ := im_tup hd
    obtain ⟨v0, r0, rfl, i0, hall⟩ := all_cons hall
    obtain ⟨v1, r1, rfl, i1, hall⟩ := all_cons hall
    obtain ⟨v2, r2, rfl, i2, hall⟩ := all_cons hall
    obtain rfl := all0 hall
    obtain rfl := im_str i0
    obtain rfl := im_int i1
    obtain ⟨na, nxs, rfl, hnt, hnall⟩ := im_tup i2
    obtain rfl := imAll_strs hnall
    obtain ⟨pa, pvs, rfl, hpt, hpall⟩ := C.pg
    have hlp := Paired.length hpall
    rw [List.getElem?_map] at hh
    obtain ⟨fn, hfn, rfl⟩ := Option.map_eq_some_iff.mp hh
    have hlt : f < fs.length := (List.getElem?_eq_some_iff.mp hfn).1
    obtain ⟨fv, hfv, hfat⟩ := paired_get' hpall hfn
    obtain ⟨fa, fp, ftv, fqs, rfl, hft, hfpl, hfps, hftr⟩ := id hfat
    have few := C.few fn (List.mem_of_getElem? hfn)
    refine ⟨_, (pss_cons (ps_if (PW.pt (pw_or (pt_not (pt_val (pe_call G_is_row (hr.mono (by decide)) (by rfl) T.g_is_row T.F_is_row.kp T.b_is_row .nil pass0 (pa_cons (pv 1) (pa_cons pe_int pa_nil))))) (pw_or1 (pt_not (pt_val (pe_call G_is_between (hr.mono (by decide)) (by rfl) T.g_is_between T.F_is_between.kp T.b_is_between .nil pass0 (pa_cons (pe_ix ix_tup (pv 1) pe_int (fun _ _ => rfl)) (pa_cons pe_int (pa_cons (pe_op op_sub (pe_callB call_len (by rfl) T.n_len (by decide +kernel) (pa_cons (pv 0) pa_nil)) pe_int) pa_nil)))))))))
  (pss_one (ps_ret pe_non))
  pss_nil)
  (pss_cons (ps_set (i := 3) sc_call_kind.nd rfl (.inl rfl) (pe_ix ix_tup (pv 0) (pe_ix ix_tup (pv 1) pe_int (fun _ _ => rfl)) (fun _ _ => rfl)))
  (pss_cons (ps_if (PW.pt (pw_or (pt_not (pt_val (pe_callB call_isi (by rfl) T.n_isinstance (by decide +kernel) (pa_cons (pe_ix ix_tup (pv 1) pe_int (fun _ _ => rfl)) (pa_cons (pe_bltn (v := .ty "tuple") (u := .type "tuple") (by rfl) T.n_tuple (by decide +kernel) rfl) pa_nil))))) (pw_or1 (pt_not (pt_val (pe_call G_all_fit (hr.mono (by decide)) (by rfl) T.g_all_fit T.F_all_fit.kp T.b_all_fit .nil pass0 (pa_cons (pe_ix ix_tup (pv 1) pe_int (fun _ _ => rfl)) (pa_cons (pe_call G_kinds_ahead (hr.mono (by decide)) (by rfl) T.g_kinds_ahead T.F_kinds_ahead.kp T.b_kinds_ahead .nil pass0 (pa_cons (pv 3) pa_nil)) (pa_cons (pv 2) pa_nil)))))))))
  (pss_one (ps_ret pe_non))
  pss_nil)
  (pss_one (ps_ret (pe_ix ix_tup (pv 3) pe_int (fun _ _ => rfl))))))), ?_⟩
    refine ⟨_, rfl, da, _, 3, rfl, hdt, _, rfl, iteF ⟨_, rfl, _, _, _, _, rfl, rfl, hdt, atI_nat (j := 1) rfl, .ref pa, rfl, _, pvs.length, rfl, .inr ⟨_, hpt, rfl⟩, _, _, rfl, rfl, (f : Int), 1, (pvs.length : Int) - 1, rfl, _, rfl, ?_⟩⟩
    rw [decide_eq_true (show (1 : Int) ≤ (f : Int) ∧ (f : Int) ≤ (pvs.length : Int) - 1 by omega)]
    refine iteF ?_
    refine ⟨_, rfl, _, rfl, _, _, _, _, rfl, rfl, hdt, atI_nat (j := 1) rfl, _, _, _, _, rfl, rfl, hpt, atI_nat hfv, ?_⟩
    refine ⟨_, rfl, _, _, _, _, rfl, rfl, hdt, atI_nat (j := 2) rfl, _, _, _, _, true, rfl, .ty "tuple", tyx_tup hnt, kv (by decide +kernel), true, rfl, iteF ?_⟩
    refine ⟨_, rfl, _, _, _, _, rfl, rfl, hdt, atI_nat (j := 2) rfl, .ref fa, rfl, .ref fa, fn, rfl, hfat, by omega, fun H1 l s1 nl el => ?_⟩
    have C1 := C.same s1
    refine ⟨_, rfl, na, l, d, xs.map V.str, fn.hd.1.map Nd.k, rfl, Same.tup s1 hnt, .inr (.inl (.inl ?_)), C1.nm, fits_map hf, ?_, fun H2 s2 => ⟨_, rfl, iteF ?_⟩⟩
    · rw [el]
      show _ = some (HO.lst (((fn.ps.map (·.2)).map Nd.k).map fun x => V.str x.s))
      rw [List.map_map, List.map_map]
      rfl
    · have e := Paired.length hf
      rw [List.length_map, e]
      show (fn.ps.map (·.2)).length ≤ 1000
      rw [List.length_map]
      omega
    · exact ⟨_, rfl, _, _, _, _, rfl, rfl, Same.tup s2 (Same.tup s1 hft), atI_nat (j := 1) rfl, q _ (s1.trans s2)⟩
end
end Cs
namespace Cs
open PySem PySem.Spec L2
section
variable {P : Program} {w : World} {K : PySem.W.Frag} {mg : Str → Option Value} {base : Heap} {A : Adr}
theorem im2 {H : Hp} {vs : List V} {d1 d2 : PyData} (h : ImAll K H vs [d1, d2]) : ∃ v1 v2, vs = [v1, v2] ∧ Im K H v1 d1 ∧ Im K H v2 d2 := by
  obtain ⟨v1, r1, rfl, h1, h⟩ := all_cons h
  obtain ⟨v2, r2, rfl, h2, h⟩ := all_cons h
  obtain rfl := all0 h
  exact ⟨v1, v2, rfl, h1, h2⟩
theorem im1 {H : Hp} {vs : List V} {d1 : PyData} (h : ImAll K H vs [d1]) : ∃ v1, vs = [v1] ∧ Im K H v1 d1 := by
  obtain ⟨v1, r1, rfl, h1, h⟩ := all_cons h
  obtain rfl := all0 h
  exact ⟨v1, rfl, h1⟩
/-- the row of the table for a deed that is no call -/
theorem deed_row (T : Tx K w mg A) {hs : Hd} {ns : Nm} {dd : Dd} {kd : Kd} (h : dd.ok hs ns kd) (hc : ∀ f xs, dd ≠ .call f xs) :
    ∃ (z : Str) (ds : List PyData) (nds : List Nd) (ea wa : Addr), dd.d = .tuple (.str z :: ds) ∧ z ≠ "call" ∧ KDct K w A.a_DEEDS z (.ref ea) ∧ (∀ H, SqT K H ea [.ref wa, kd.v]) ∧ (∀ H, SqT K H wa (nds.map fun x => .str x.s)) ∧ nds.length ≤ 2 ∧
      ∀ H vs, ImAll K H vs ds → Paired (fits ns) vs nds := by
  cases dd with
  | num n =>
    obtain ⟨h1, rfl⟩ := h
    refine ⟨_, _, [.n], _, _, rfl, by decide +kernel, T.y_DEEDS_num, T.q_DEEDS_num, T.q_DEEDS_num_0, by decide, fun H vs hv => ?_⟩
    obtain ⟨v1, rfl, i1⟩ := im1 hv
    obtain rfl := im_int i1
    exact .cons h1 .nil
  | sum x n =>
    obtain ⟨h1, h2, rfl⟩ := h
    refine ⟨_, _, [.k .num, .n], _, _, rfl, by decide +kernel, T.y_DEEDS_sum, T.q_DEEDS_sum, T.q_DEEDS_sum_0, by decide, fun H vs hv => ?_⟩
    obtain ⟨v1, v2, rfl, i1, i2⟩ := im2 hv
    obtain rfl := im_str i1
    obtain rfl := im_int i2
    exact .cons h1 (.cons h2 .nil)
  | len l =>
    obtain ⟨h1, rfl⟩ := h
    refine ⟨_, _, [.k .lst], _, _, rfl, by decide +kernel, T.y_DEEDS_len, T.q_DEEDS_len, T.q_DEEDS_len_0, by decide, fun H vs hv => ?_⟩
    obtain ⟨v1, rfl, i1⟩ := im1 hv
    obtain rfl := im_str i1
    exact .cons h1 .nil
  | nil =>
    obtain rfl := h
    refine ⟨_, _, [], _, _, rfl, by decide +kernel, T.y_DEEDS_nil, T.q_DEEDS_nil, T.q_DEEDS_nil_0, by decide, fun H vs hv => ?_⟩
    obtain rfl := all0 hv
    exact .nil
  | put x l =>
    obtain ⟨h1, h2, rfl⟩ := h
    refine ⟨_, _, [.k .num, .k .lst], _, _, rfl, by decide +kernel, T.y_DEEDS_put, T.q_DEEDS_put, T.q_DEEDS_put_0, by decide, fun H vs hv => ?_⟩
    obtain ⟨v1, v2, rfl, i1, i2⟩ := im2 hv
    obtain rfl := im_str i1
    obtain rfl := im_str i2
    exact .cons h1 (.cons h2 .nil)
  | head l =>
    obtain ⟨h1, rfl⟩ := h
    refine ⟨_, _, [.k .lst], _, _, rfl, by decide +kernel, T.y_DEEDS_head, T.q_DEEDS_head, T.q_DEEDS_head_0, by decide, fun H vs hv => ?_⟩
    obtain ⟨v1, rfl, i1⟩ := im1 hv
    obtain rfl := im_str i1
    exact .cons h1 .nil
  | tail l =>
    obtain ⟨h1, rfl⟩ := h
    refine ⟨_, _, [.k .lst], _, _, rfl, by decide +kernel, T.y_DEEDS_tail, T.q_DEEDS_tail, T.q_DEEDS_tail_0, by decide, fun H vs hv => ?_⟩
    obtain ⟨v1, rfl, i1⟩ := im1 hv
    obtain rfl := im_str i1
    exact .cons h1 .nil
  | at_ l x =>
    obtain ⟨h1, h2, rfl⟩ := h
    refine ⟨_, _, [.k .lst, .k .num], _, _, rfl, by decide +kernel, T.y_DEEDS_at, T.q_DEEDS_at, T.q_DEEDS_at_0, by decide, fun H vs hv => ?_⟩
    obtain ⟨v1, v2, rfl, i1, i2⟩ := im2 hv
    obtain rfl := im_str i1
    obtain rfl := im_str i2
    exact .cons h1 (.cons h2 .nil)
  | ask =>
    obtain rfl := h
    refine ⟨_, _, [], _, _, rfl, by decide +kernel, T.y_DEEDS_ask, T.q_DEEDS_ask, T.q_DEEDS_ask_0, by decide, fun H vs hv => ?_⟩
    obtain rfl := all0 hv
    exact .nil
  | call f xs => exact absurd rfl (hc f xs)
theorem ok_deed_kind (T : Tx K w mg A) (fs : List Fn) (ns : Nm) (dd : Dd) : FnOk P w K mg base CX0 6 A.f_deed_kind A.fd_deed_kind P_deed_kind (spDeed K fs ns dd) := by
  have G_has_word := ok_has_word (P := P) (base := base) T
  have G_all_fit := ok_all_fit (P := P) (base := base) T ns
  have G_call_kind : FnOk P w K mg base CX0 5 A.f_call_kind A.fd_call_kind P_call_kind (fun vs H Q E => ∃ f xs, dd = .call f xs ∧ spDeed K fs ns (.call f xs) vs H Q E) :=
    ⟨fun vs H Q E ⟨f, xs, _, h⟩ => (ok_call_kind (P := P) (base := base) T fs ns f xs).len vs H Q E h, fun AA outer s H args us vs Q E hr he hb hv ⟨f, xs, _, h⟩ => (ok_call_kind (P := P) (base := base) T fs ns f xs).run AA outer s H args us vs Q E hr he hb hv h⟩
  refine T.F_deed_kind.ok sc_deed_kind (fun vs H Q E h => ?_) (fun cdv AA outer s H vs Q E hr h => ?_)
  · obtain ⟨pgv, dv, d, kd, rfl, _⟩ := h
    rfl
  · obtain ⟨pgv, dv, d, kd, rfl, C, hd, hok, q⟩ := h
    refine ⟨_, (pss_cons (ps_if (pt_not (pt_val (pe_call G_has_word (hr.mono (by decide)) (by rfl) T.g_has_word T.F_has_word.kp T.b_has_word .nil pass0 (pa_cons (pv 1) pa_nil))))
  (pss_one (ps_ret pe_non))
  pss_nil)
  (pss_cons (ps_if (pt_cmpR op_eq (pe_ix ix_tup (pv 1) pe_int (fun _ _ => rfl)) pe_str (nomark _))
  (pss_one (ps_ret (pe_call G_call_kind (hr.mono (by decide)) (by rfl) T.g_call_kind T.F_call_kind.kp T.b_call_kind .nil pass0 (pa_cons (pv 0) (pa_cons (pv 1) (pa_cons (pv 2) pa_nil))))))
  pss_nil)
  (pss_cons (ps_if (pt_cmpR (op_notIn_kd T.d_DEEDS) (pe_ix ix_tup (pv 1) pe_int (fun _ _ => rfl)) (pe_glob (v := .ref A.a_DEEDS) rfl T.c_DEEDS rfl) (by rfl))
  (pss_one (ps_ret pe_non))
  pss_nil)
  (pss_cons (ps_asg (pe_ix ix_kdict (pe_glob (v := .ref A.a_DEEDS) rfl T.c_DEEDS rfl) (pe_ix ix_tup (pv 1) pe_int (fun _ _ => rfl)) (fun _ _ => rfl)) (pg_tup (by rfl) (pgs_cons (pg_name (i := 3) sc_deed_kind.nd rfl (.inl rfl)) (pgs_cons (pg_name (i := 4) sc_deed_kind.nd rfl (.inl rfl)) pgs_nil))))
  (pss_one (ps_ret (pe_ifExp (pt_val (pe_call G_all_fit (hr.mono (by decide)) (by rfl) T.g_all_fit T.F_all_fit.kp T.b_all_fit .nil pass0 (pa_cons (pe_slice sl_tup (pv 1) (po_some pe_int) po_none) (pa_cons (pv 3) (pa_cons (pv 2) pa_nil))))) (pv 4) pe_non))))))), ?_⟩
    by_cases hc : ∃ f xs, dd = .call f xs
    · obtain ⟨f, xs, rfl⟩ := hc
      obtain ⟨da, dxs, rfl, hdt, hall⟩ := im_tup hd
      obtain ⟨v0, r0, rfl, i0, _⟩ := all_cons hall
      obtain rfl := im_str i0
      refine ⟨_, rfl, da, _, _, rfl, hdt, _, rfl, iteF ?_⟩
      refine ⟨_, rfl, _, _, _, _, rfl, rfl, hdt, atI_nat (j := 0) rfl, rfl, _, rfl, itd (p := V.str "call" = V.str "call") rfl ?_⟩
      exact ⟨_, rfl, _, rfl, _, rfl, f, xs, rfl, pgv, _, d, kd, rfl, C, hd, hok, fun H1 s1 => q H1 s1⟩
    · obtain ⟨z, ds, nds, ea, wa, ed, hz, hk, he, hw, hl2, hf⟩ := deed_row T hok (fun f xs e => hc ⟨f, xs, e⟩)
      rw [ed] at hd
      obtain ⟨da, dxs, rfl, hdt, hall⟩ := im_tup hd
      obtain ⟨v0, r0, rfl, i0, hal2⟩ := all_cons hall
      obtain rfl := im_str i0
      have hfit := hf H r0 hal2
      refine ⟨_, rfl, da, _, _, rfl, hdt, _, rfl, iteF ?_⟩
      refine ⟨_, rfl, _, _, _, _, rfl, rfl, hdt, atI_nat (j := 0) rfl, rfl, _, rfl, itn (p := V.str z = V.str "call") (fun e => hz (V.str.inj e)) ?_⟩
      obtain ⟨es, n, u, k1, k2, k3, k4⟩ := id hk
      refine ⟨_, rfl, _, _, _, _, rfl, rfl, hdt, atI_nat (j := 0) rfl, z, _, rfl, rfl, k3, _, rfl, iteF ?_⟩
      refine ⟨_, rfl, _, _, _, _, rfl, rfl, hdt, atI_nat (j := 0) rfl, _, z, _, rfl, rfl, hk, ea, _, rfl, he _, rfl, .ref wa, _, rfl, kd.v, _, rfl, rfl, ?_⟩
      refine ⟨_, rfl, 1, rfl, da, _, rfl, hdt, ?_, fun p hp => ?_⟩
      · rintro ⟨e1, _⟩
        rw [show HT.sIx (V.str z :: r0).length 0 (some 1) = min 1 (V.str z :: r0).length from HT.sIx_nat _ 0 1] at e1
        rw [List.length_cons] at e1
        omega
      · have ec : cutV (V.str z :: r0) (some 1) none = r0 := by
          unfold cutV
          rw [show HT.sIx (V.str z :: r0).length 0 (some 1) = min 1 (V.str z :: r0).length from HT.sIx_nat _ 0 1, HT.sIx_none, List.length_cons, Nat.min_eq_left (by omega)]
          show List.take (r0.length + 1 - 1) r0 = r0
          rw [Nat.add_sub_cancel]
          exact List.take_length
        rw [ec]
        have s1 : Same H (upd H p (.tup r0)) := same_upd hp
        refine ⟨_, rfl, _, rfl, p, wa, d, r0, nds, rfl, .inl (.inl upd_same), .inl (hw _), s1 _ _ C.nm, hfit, ?_, fun H1 s2 => ⟨true, rfl, iteT ⟨_, rfl, q _ (s1.trans s2)⟩⟩⟩
        have := Paired.length hfit
        omega
end
end Cs
namespace Cs
open PySem PySem.Spec L2
section
variable {P : Program} {w : World} {K : PySem.W.Frag} {mg : Str → Option Value} {base : Heap} {A : Adr}
theorem cut1 (z : V) (r : List V) : cutV (z :: r) (some 1) none = r := by
  unfold cutV
  rw [show HT.sIx (z :: r).length 0 (some 1) = min 1 (z :: r).length from HT.sIx_nat _ 0 1, HT.sIx_none, List.length_cons, Nat.min_eq_left (by omega)]
  show List.take (r.length + 1 - 1) r = r
  rw [Nat.add_sub_cancel]
  exact List.take_length
theorem cut1_not (z : V) (r : List V) : ¬ (HT.sIx (z :: r).length 0 (some 1) = 0 ∧ HT.sIx (z :: r).length (z :: r).length none = (z :: r).length) := by
  rintro ⟨e1, _⟩
  rw [show HT.sIx (z :: r).length 0 (some 1) = min 1 (z :: r).length from HT.sIx_nat _ 0 1, List.length_cons] at e1
  omega
theorem cutTo (n : Nat) (xs ys : List V) (h : xs.length = n) : cutV (xs ++ ys) none (some (n : Int)) = xs := by
  unfold cutV
  rw [HT.sIx_none, show HT.sIx (xs ++ ys).length (xs ++ ys).length (some (n : Int)) = min n (xs ++ ys).length from HT.sIx_nat _ _ n, List.length_append, h, Nat.min_eq_left (by omega)]
  show List.take (n - 0) (xs ++ ys) = xs
  rw [Nat.sub_zero, ← h]
  simp
theorem cutFrom (n : Nat) (xs ys : List V) (h : xs.length = n) : cutV (xs ++ ys) (some (n : Int)) none = ys := by
  unfold cutV
  rw [HT.sIx_none, show HT.sIx (xs ++ ys).length 0 (some (n : Int)) = min n (xs ++ ys).length from HT.sIx_nat _ _ n, List.length_append, h, Nat.min_eq_left (by omega)]
  rw [← h, List.drop_left, Nat.add_sub_cancel_left]
  exact List.take_length
theorem sIx4 (xs : List V) (d : Nat) (n : Nat) : HT.sIx xs.length d (some (n : Int)) = min n xs.length := HT.sIx_nat _ _ n
def spMeasure (K : PySem.W.Frag) (ns : Nm) (m : Ms) : Sp := fun vs H Q _ => ∃ (mv : V) (d : Addr), vs = [mv, .ref d] ∧ Im K H mv m.d ∧ H d = some (.dK (nmK ns)) ∧ m.ok ns ∧ Q (.bl true) H
theorem ok_is_measure (T : Tx K w mg A) (ns : Nm) (m : Ms) : FnOk P w K mg base CX0 2 A.f_is_measure A.fd_is_measure P_is_measure (spMeasure K ns m) := by
  have G_is_row := ok_is_row (P := P) (base := base) T
  have G_has_word := ok_has_word (P := P) (base := base) T
  have G_stands := ok_stands (P := P) (base := base) T ns
  refine T.F_is_measure.ok sc_is_measure (fun vs H Q E h => ?_) (fun cdv AA outer s H vs Q E hr h => ?_)
  · obtain ⟨mv, d, rfl, _⟩ := h
    rfl
  · obtain ⟨mv, d, rfl, hm, hd, hok, q⟩ := h
    refine ⟨_, (pss_cons (ps_if (pt_val (pe_call G_is_row (hr.mono (by decide)) (by rfl) T.g_is_row T.F_is_row.kp T.b_is_row .nil pass0 (pa_cons (pv 0) (pa_cons pe_int pa_nil))))
  (pss_one (ps_ret pe_bl))
  pss_nil)
  (pss_cons (ps_if (PW.pt (pw_or (pt_not (pt_val (pe_call G_is_row (hr.mono (by decide)) (by rfl) T.g_is_row T.F_is_row.kp T.b_is_row .nil pass0 (pa_cons (pv 0) (pa_cons pe_int pa_nil))))) (pw_or (pt_not (pt_val (pe_call G_has_word (hr.mono (by decide)) (by rfl) T.g_has_word T.F_has_word.kp T.b_has_word .nil pass0 (pa_cons (pv 0) pa_nil)))) (pw_or1 (pt_cmpR (op_notIn_kd T.d_MEASURES) (pe_ix ix_tup (pv 0) pe_int (fun _ _ => rfl)) (pe_glob (v := .ref A.a_MEASURES) rfl T.c_MEASURES rfl) (by rfl))))))
  (pss_one (ps_ret pe_bl))
  pss_nil)
  (pss_one (ps_ret (pe_call G_stands (hr.mono (by decide)) (by rfl) T.g_stands T.F_stands.kp T.b_stands .nil pass0 (pa_cons (pe_ix ix_tup (pv 0) pe_int (fun _ _ => rfl)) (pa_cons (pe_ix ix_kdict (pe_glob (v := .ref A.a_MEASURES) rfl T.c_MEASURES rfl) (pe_ix ix_tup (pv 0) pe_int (fun _ _ => rfl)) (fun _ _ => rfl)) (pa_cons (pv 1) pa_nil)))))))), ?_⟩
    cases m with
    | zero =>
      obtain ⟨a, xs, rfl, ha, hall⟩ := im_tup hm
      obtain rfl := all0 hall
      exact ⟨_, rfl, a, _, 0, rfl, ha, _, rfl, iteT q⟩
    | of x =>
      obtain ⟨a, xs, rfl, ha, hall⟩ := im_tup hm
      obtain ⟨v1, v2, rfl, i1, i2⟩ := im2 hall
      obtain rfl := im_str i1
      obtain rfl := im_str i2
      have hk := T.y_MEASURES_of
      obtain ⟨es, n, u, k1, k2, k3, k4⟩ := id hk
      refine ⟨_, rfl, a, _, 0, rfl, ha, _, rfl, iteF ?_⟩
      refine ⟨_, rfl, a, _, 2, rfl, ha, _, rfl, iteF ⟨_, rfl, a, _, _, rfl, ha, _, rfl, iteF ⟨_, rfl, _, _, _, _, rfl, rfl, ha, atI_nat (j := 0) rfl, _, _, rfl, rfl, k3, _, rfl, iteF ?_⟩⟩⟩
      exact ⟨_, rfl, _, _, _, _, rfl, rfl, ha, atI_nat (j := 1) rfl, _, rfl, _, _, _, _, rfl, rfl, ha, atI_nat (j := 0) rfl, _, _, _, rfl, rfl, hk, _, rfl, x, .num, d, rfl, hd, hok, q⟩
    | len x =>
      obtain ⟨a, xs, rfl, ha, hall⟩ := im_tup hm
      obtain ⟨v1, v2, rfl, i1, i2⟩ := im2 hall
      obtain rfl := im_str i1
      obtain rfl := im_str i2
      have hk := T.y_MEASURES_len
      obtain ⟨es, n, u, k1, k2, k3, k4⟩ := id hk
      refine ⟨_, rfl, a, _, 0, rfl, ha, _, rfl, iteF ?_⟩
      refine ⟨_, rfl, a, _, 2, rfl, ha, _, rfl, iteF ⟨_, rfl, a, _, _, rfl, ha, _, rfl, iteF ⟨_, rfl, _, _, _, _, rfl, rfl, ha, atI_nat (j := 0) rfl, _, _, rfl, rfl, k3, _, rfl, iteF ?_⟩⟩⟩
      exact ⟨_, rfl, _, _, _, _, rfl, rfl, ha, atI_nat (j := 1) rfl, _, rfl, _, _, _, _, rfl, rfl, ha, atI_nat (j := 0) rfl, _, _, _, rfl, rfl, hk, _, rfl, x, .lst, d, rfl, hd, hok, q⟩
def spCompared (K : PySem.W.Frag) (ns : Nm) (a b : Ms) : Sp := fun vs H Q _ => ∃ (ta d : Addr) (w0 v1 v2 : V) (n : Int) (more : List V), vs = [.ref ta, .ref d] ∧ SqT K H ta ([w0, v1, v2, .int n] ++ more) ∧ more ≠ [] ∧ Im K H v1 a.d ∧ Im K H v2 b.d ∧ near n ∧ H d = some (.dK (nmK ns)) ∧ a.ok ns ∧ b.ok ns ∧
  ∀ H1, Same H H1 → Q (.bl true) H1
theorem ok_is_compared (T : Tx K w mg A) (ns : Nm) (a b : Ms) : FnOk P w K mg base CX0 4 A.f_is_compared A.fd_is_compared P_is_compared (spCompared K ns a b) := by
  have G_is_measure : FnOk P w K mg base CX0 2 A.f_is_measure A.fd_is_measure P_is_measure (fun vs H Q E => ∃ m, spMeasure K ns m vs H Q E) :=
    ⟨fun vs H Q E ⟨m, h⟩ => (ok_is_measure (P := P) (base := base) T ns m).len vs H Q E h, fun AA outer s H args us vs Q E hr he hb hv ⟨m, h⟩ => (ok_is_measure (P := P) (base := base) T ns m).run AA outer s H args us vs Q E hr he hb hv h⟩
  have G_is_near := ok_is_near (P := P) (base := base) T
  refine T.F_is_compared.ok sc_is_compared (fun vs H Q E h => ?_) (fun cdv AA outer s H vs Q E hr h => ?_)
  · obtain ⟨ta, d, w0, v1, v2, n, more, rfl, _⟩ := h
    rfl
  · obtain ⟨ta, d, w0, v1, v2, n, more, rfl, ha, hmore, i1, i2, hn, hd, o1, o2, q⟩ := h
    refine ⟨_, (pss_cons (ps_asg (pe_slice sl_tup (pv 0) po_none (po_some pe_int)) (pg_tup (by rfl) (pgs_cons (pg_name (i := 2) sc_is_compared.nd rfl (.inl rfl)) (pgs_cons (pg_name (i := 3) sc_is_compared.nd rfl (.inl rfl)) (pgs_cons (pg_name (i := 4) sc_is_compared.nd rfl (.inl rfl)) (pgs_cons (pg_name (i := 5) sc_is_compared.nd rfl (.inl rfl)) pgs_nil))))))
  (pss_one (ps_ret (pe_and (pe_call G_is_measure (hr.mono (by decide)) (by rfl) T.g_is_measure T.F_is_measure.kp T.b_is_measure .nil pass0 (pa_cons (pv 3) (pa_cons (pv 1) pa_nil))) (pe_and (pe_call G_is_measure (hr.mono (by decide)) (by rfl) T.g_is_measure T.F_is_measure.kp T.b_is_measure .nil pass0 (pa_cons (pv 4) (pa_cons (pv 1) pa_nil))) (pe_one (pe_call G_is_near (hr.mono (by decide)) (by rfl) T.g_is_near T.F_is_near.kp T.b_is_near .nil pass0 (pa_cons (pv 5) pa_nil)))))))), ?_⟩
    refine ⟨_, rfl, 4, rfl, ta, _, rfl, ha, ?_, fun p hp => ?_⟩
    · rintro ⟨_, e2⟩
      have e3 : HT.sIx ([w0, v1, v2, V.int n] ++ more).length ([w0, v1, v2, V.int n] ++ more).length (some 4) = min 4 ([w0, v1, v2, V.int n] ++ more).length := HT.sIx_nat _ _ 4
      rw [e3] at e2
      cases more with
      | nil => exact hmore rfl
      | cons x r =>
        rw [List.length_append, List.length_cons] at e2
        simp only [List.length_cons, List.length_nil] at e2
        omega
    · have ec : cutV ([w0, v1, v2, .int n] ++ more) none (some 4) = [w0, v1, v2, .int n] := cutTo 4 _ _ rfl
      have s1 : Same H (upd H p (.tup (cutV ([w0, v1, v2, .int n] ++ more) none (some 4)))) := same_upd hp
      rw [ec] at s1 ⊢
      refine ⟨p, _, rfl, .inl (.inl upd_same), rfl, _, _, rfl, _, _, rfl, _, _, rfl, _, _, rfl, rfl, ?_⟩
      exact ⟨_, rfl, _, rfl, a, v1, d, rfl, i1.same (sameI_of s1), s1 _ _ hd, o1, true, rfl, iteT ⟨_, rfl, _, rfl, b, v2, d, rfl, i2.same (sameI_of s1), s1 _ _ hd, o2, true, rfl, iteT ⟨_, rfl, n, rfl, hn, q _ s1⟩⟩⟩
end
end Cs
namespace Cs
open PySem PySem.Spec L2
section
variable {P : Program} {w : World} {K : PySem.W.Frag} {mg : Str → Option Value} {base : Heap} {A : Adr}
/-- a tree within, with the names that stand there -/
def KidAt (K : PySem.W.Frag) (H : Hp) (v : V) (q : Tr × Nm) : Prop := ∃ a tv d, v = .ref a ∧ SqT K H a [tv, .ref d] ∧ Im K H tv q.1.d ∧ H d = some (.dK (nmK q.2))
theorem KidAt.same {H H1 : Hp} (s : Same H H1) {v : V} {q : Tr × Nm} : KidAt K H v q → KidAt K H1 v q
  | ⟨a, tv, d, e, h1, h2, h3⟩ => ⟨a, tv, d, e, Same.tup s h1, h2.same (sameI_of s), s _ _ h3⟩
/-- what stands just within a tree -/
def Kids (hs : Hd) (kd : Kd) (ns : Nm) (t : Tr) (ks : List (Tr × Nm)) : Prop :=
  (∀ q ∈ ks, Tr.ok hs kd q.2 q.1 ∧ q.1.deep + 1 ≤ t.deep ∧ q.2.length ≤ ns.length + 1) ∧ (ks.map fun q => q.1.size).sum + 1 = t.size ∧ ks.length ≤ 2
def spWithin (K : PySem.W.Frag) (fs : List Fn) (ns : Nm) (kd : Kd) (t : Tr) : Hp → (V → Hp → Prop) → Prop := fun H Q =>
  ∀ H1 l acc ks, Same H H1 → H l = none → H1 l = some (.lst acc) → Paired (KidAt K H1) acc ks → Kids (fs.map Fn.hd) kd ns t ks → Q (.ref l) H1
def spLet (K : PySem.W.Frag) (fs : List Fn) (ns : Nm) (kd : Kd) (x : Str) (dd : Dd) (t : Tr) : Sp := fun vs H Q _ => ∃ (pgv tv : V) (d : Addr), vs = [pgv, tv, .ref d] ∧ Ctx K H pgv fs d ns ∧ Im K H tv (Tr.let_ x dd t).d ∧ Tr.ok (fs.map Fn.hd) kd ns (.let_ x dd t) ∧ ns.length ≤ 100 ∧
  spWithin K fs ns kd (.let_ x dd t) H Q
theorem ok_within_let (T : Tx K w mg A) (fs : List Fn) (ns : Nm) (kd : Kd) (x : Str) (dd : Dd) (t : Tr) : FnOk P w K mg base CX0 7 A.f_within_let A.fd_within_let P_within_let (spLet K fs ns kd x dd t) := by
  have G_is_name := ok_is_name (P := P) (base := base) T
  have G_deed_kind := ok_deed_kind (P := P) (base := base) T fs ns dd
  refine T.F_within_let.ok sc_within_let (fun vs H Q E h => ?_) (fun cdv AA outer s H vs Q E hr h => ?_)
  · obtain ⟨pgv, tv, d, rfl, _⟩ := h
    rfl
  · obtain ⟨pgv, tv, d, rfl, C, ht, ⟨hx, hlk, k, hdd, hin⟩, hns, q⟩ := h
    obtain ⟨ta, xs, rfl, hta, hall⟩ := im_tup ht
    obtain ⟨v0, r0, rfl, i0, hall⟩ := all_cons hall
    obtain ⟨v1, r1, rfl, i1, hall⟩ := all_cons hall
    obtain ⟨v2, r2, rfl, i2, hall⟩ := all_cons hall
    obtain ⟨v3, r3, rfl, i3, hall⟩ := all_cons hall
    obtain rfl := all0 hall
    obtain rfl := im_str i0
    obtain rfl := im_str i1
    refine ⟨_, (pss_cons (ps_asg (pe_slice sl_tup (pv 1) (po_some pe_int) po_none) (pg_tup (by rfl) (pgs_cons (pg_name (i := 3) sc_within_let.nd rfl (.inl rfl)) (pgs_cons (pg_name (i := 4) sc_within_let.nd rfl (.inl rfl)) (pgs_cons (pg_name (i := 5) sc_within_let.nd rfl (.inl rfl)) pgs_nil)))))
  (pss_cons (ps_if (PW.pt (pw_or (pt_not (pt_val (pe_call G_is_name (hr.mono (by decide)) (by rfl) T.g_is_name T.F_is_name.kp T.b_is_name .nil pass0 (pa_cons (pv 3) pa_nil)))) (pw_or1 (pt_cmp (pc_din (hu_of hr) (pv 3) (pv 2))))))
  (pss_one (ps_ret pe_non))
  pss_nil)
  (pss_cons (ps_set (i := 6) sc_within_let.nd rfl (.inl rfl) (pe_call G_deed_kind (hr.mono (by decide)) (by rfl) T.g_deed_kind T.F_deed_kind.kp T.b_deed_kind .nil pass0 (pa_cons (pv 0) (pa_cons (pv 4) (pa_cons (pv 2) pa_nil)))))
  (pss_cons (ps_if (pt_cmpR op_isN (pv 6) pe_non (nomark _))
  (pss_one (ps_ret pe_non))
  pss_nil)
  (pss_one (ps_ret (pe_lst (pa_cons (pe_tup (pa_cons (pv 5) (pa_cons (pe_splat (pv 2) (pv 3) (pv 6)) pa_nil))) pa_nil)))))))), ?_⟩
    refine ⟨_, rfl, 1, rfl, ta, _, rfl, hta, cut1_not _ _, fun p hp => ?_⟩
    have s1 : Same H (upd H p (.tup (cutV [.str "let", .str x, v2, v3] (some 1) none))) := same_upd hp
    rw [show cutV [.str "let", .str x, v2, v3] (some 1) none = [.str x, v2, v3] from cut1 _ _] at s1 ⊢
    refine ⟨p, _, rfl, .inl (.inl upd_same), rfl, _, _, rfl, _, _, rfl, _, _, rfl, rfl, ?_⟩
    refine ⟨_, rfl, x, rfl, hx, fun H2 s2 => ⟨true, rfl, iteF ?_⟩⟩
    have C2 := C.same (s1.trans s2)
    refine ⟨_, rfl, _, rfl, d, _, rfl, DGet.k (k := .inr x) C2.nm, _, rfl, ?_⟩
    rw [nmK_val, hlk]
    refine iteF ?_
    refine ⟨pgv, rfl, v2, rfl, _, rfl, pgv, v2, d, k, rfl, C2, i2.same (sameI_of (s1.trans s2)), hdd, fun H3 s3 => ?_⟩
    have C3 := C2.same s3
    refine ⟨_, rfl, rfl, _, rfl, ?_⟩
    refine itn (p := k.v = V.non) (fun z => nomatch z) ?_
    -- the answer
    refine ⟨v3, rfl, fun e he => ⟨_, rfl, d, nmK ns, rfl, ne_of_none C3.nm he, .inl ?_, upd_same, ?_, fun q2 hq2 => ⟨_, rfl, _, rfl, .inr x, k.v, rfl, upd_same, ?_, ?_, ?_⟩⟩⟩
    · rw [upd_ne (ne_of_none C3.nm he)]
      exact C3.nm
    · rw [List.length_map]
      omega
    · rw [upd_ne fun z => ?_, upd_same]
      rw [← z, upd_same] at hq2
      cases hq2
    · intro z
      rw [← z, upd_same] at hq2
      cases hq2
    · have neq : q2 ≠ e := fun z => by
        rw [z, upd_same] at hq2
        cases hq2
      rw [upd_ne neq, upd_ne neq] at hq2
      rw [nmK_put hlk]
      have s4 : Same H3 (upd (upd (upd (upd (upd H3 e (.dK [])) e (.dK (nmK ns))) q2 (.dK [])) q2 (.dK [(.inr x, k.v)])) e (.dK (nmK (ns ++ [(x, k)])))) := fun b o eb => by
        have h1 := ne_of_none eb he
        have h2 := ne_of_none eb hq2
        rw [upd_ne h1, upd_ne h2, upd_ne h2, upd_ne h1, upd_ne h1]
        exact eb
      generalize hH4 : upd (upd (upd (upd (upd H3 e (.dK [])) e (.dK (nmK ns))) q2 (.dK [])) q2 (.dK [(.inr x, k.v)])) e (.dK (nmK (ns ++ [(x, k)]))) = H4 at s4 ⊢
      have e4 : H4 e = some (.dK (nmK (ns ++ [(x, k)]))) := by rw [← hH4]; exact upd_same
      refine ⟨by show 2 ≤ sizeLine; decide, fun t1 ht1 => ⟨by show 1 ≤ sizeLine; decide, fun l hl => ?_⟩⟩
      have s5 : Same H4 (upd H4 t1 (.tup [v3, .ref e])) := same_upd ht1
      have s6 : Same (upd H4 t1 (.tup [v3, .ref e])) (upd (upd H4 t1 (.tup [v3, .ref e])) l (.lst [.ref t1])) := same_upd hl
      have sA := s1.trans (s2.trans (s3.trans (s4.trans (s5.trans s6))))
      refine q _ l [.ref t1] [(t, ns ++ [(x, k)])] sA ?_ upd_same (.cons ⟨t1, v3, e, rfl, .inl (.inl (s6 _ _ upd_same)), i3.same (sameI_of sA), s6 _ _ (s5 _ _ e4)⟩ .nil) ⟨?_, ?_, Nat.le_succ 1⟩
      · exact (s1.trans (s2.trans (s3.trans (s4.trans s5)))).free hl
      · intro q hq
        rw [List.mem_singleton.mp hq]
        exact ⟨hin, Nat.le_refl _, by rw [List.length_append]; exact Nat.le_refl _⟩
      · show t.size + 0 + 1 = t.size + 1
        omega
def spTrees (K : PySem.W.Frag) (fs : List Fn) (ns : Nm) (kd : Kd) (t : Tr) : Sp := fun vs H Q _ => ∃ (pgv tv : V) (d : Addr), vs = [pgv, kd.v, tv, .ref d] ∧ Ctx K H pgv fs d ns ∧ Im K H tv t.d ∧ Tr.ok (fs.map Fn.hd) kd ns t ∧ ns.length ≤ 100 ∧ spWithin K fs ns kd t H Q
theorem kids_at {H : Hp} {d : Addr} {ns : Nm} (hd : H d = some (.dK (nmK ns))) : ∀ {acc ivs : List V} {ts : List Tr}, ImAll K H ivs (ts.map Tr.d) → acc.length = ivs.length → (∀ (i : Nat) y, acc[i]? = some y → ∃ T iv, y = .ref T ∧ ivs[i]? = some iv ∧ SqT K H T [iv, .ref d]) →
    Paired (KidAt K H) acc (ts.map fun t => (t, ns))
  | [], [], [], _, _, _ => .nil
  | [], _ :: _, _, _, e, _ => nomatch e
  | _ :: _, [], _, _, e, _ => nomatch e
  | _, [], t :: ts, h, _, _ => by cases h
  | _, iv :: ivs, [], h, _, _ => by cases h
  | y :: acc, iv :: ivs, t :: ts, h, e, hy => by
    cases h with
    | cons h1 h2 =>
      obtain ⟨T, iv', rfl, e1, e2⟩ := hy 0 y rfl
      cases e1
      exact .cons ⟨T, iv, d, rfl, e2, h1, hd⟩ (kids_at hd h2 (Nat.succ.inj e) fun i y ey => hy (i + 1) y ey)
theorem ok_trees_within (T : Tx K w mg A) (fs : List Fn) (ns : Nm) (kd : Kd) (t : Tr) : FnOk P w K mg base CX0 8 A.f_trees_within A.fd_trees_within P_trees_within (spTrees K fs ns kd t) := by
  have G_has_word := ok_has_word (P := P) (base := base) T
  have G_stands := ok_stands (P := P) (base := base) T ns
  have G_within_let : FnOk P w K mg base CX0 7 A.f_within_let A.fd_within_let P_within_let (fun vs H Q E => ∃ x dd t, spLet K fs ns kd x dd t vs H Q E) :=
    ⟨fun vs H Q E ⟨x, dd, t, h⟩ => (ok_within_let (P := P) (base := base) T fs ns kd x dd t).len vs H Q E h, fun AA outer s H args us vs Q E hr he hb hv ⟨x, dd, t, h⟩ => (ok_within_let (P := P) (base := base) T fs ns kd x dd t).run AA outer s H args us vs Q E hr he hb hv h⟩
  have G_is_compared : FnOk P w K mg base CX0 4 A.f_is_compared A.fd_is_compared P_is_compared (fun vs H Q E => ∃ a b, spCompared K ns a b vs H Q E) :=
    ⟨fun vs H Q E ⟨a, b, h⟩ => (ok_is_compared (P := P) (base := base) T ns a b).len vs H Q E h, fun AA outer s H args us vs Q E hr he hb hv ⟨a, b, h⟩ => (ok_is_compared (P := P) (base := base) T ns a b).run AA outer s H args us vs Q E hr he hb hv h⟩
  refine T.F_trees_within.ok sc_trees_within (fun vs H Q E h => ?_) (fun cdv AA outer s H vs Q E hr h => ?_)
  · obtain ⟨pgv, tv, d, rfl, _⟩ := h
    rfl
  · obtain ⟨pgv, tv, d, rfl, C, ht, hok, hns, q⟩ := h
    refine ⟨_, (pss_cons (ps_if (PW.pt (pw_or (pt_not (pt_val (pe_call G_has_word (hr.mono (by decide)) (by rfl) T.g_has_word T.F_has_word.kp T.b_has_word .nil pass0 (pa_cons (pv 2) pa_nil)))) (pw_or1 (pt_cmpR op_ne (pe_callB call_len (by rfl) T.n_len (by decide +kernel) (pa_cons (pv 2) pa_nil)) (pe_kget T.d_TREES (pe_glob (v := .ref A.a_TREES) rfl T.c_TREES rfl) (pe_ix ix_tup (pv 2) pe_int (fun _ _ => rfl)) ⟨rfl, rfl, rfl, rfl⟩) (nomark _)))))
  (pss_one (ps_ret pe_non))
  pss_nil)
  (pss_cons (ps_if (pt_cmpR op_eq (pe_ix ix_tup (pv 2) pe_int (fun _ _ => rfl)) pe_str (nomark _))
  (pss_one (ps_ret (pe_ifExp (pt_val (pe_call G_stands (hr.mono (by decide)) (by rfl) T.g_stands T.F_stands.kp T.b_stands .nil pass0 (pa_cons (pe_ix ix_tup (pv 2) pe_int (fun _ _ => rfl)) (pa_cons (pv 1) (pa_cons (pv 3) pa_nil))))) (pe_lst pa_nil) pe_non)))
  pss_nil)
  (pss_cons (ps_if (pt_cmpR op_eq (pe_ix ix_tup (pv 2) pe_int (fun _ _ => rfl)) pe_str (nomark _))
  (pss_one (ps_ret (pe_call G_within_let (hr.mono (by decide)) (by rfl) T.g_within_let T.F_within_let.kp T.b_within_let .nil pass0 (pa_cons (pv 0) (pa_cons (pv 2) (pa_cons (pv 3) pa_nil))))))
  pss_nil)
  (pss_cons (ps_if (pt_not (pt_val (pe_call G_is_compared (hr.mono (by decide)) (by rfl) T.g_is_compared T.F_is_compared.kp T.b_is_compared .nil pass0 (pa_cons (pv 2) (pa_cons (pv 3) pa_nil)))))
  (pss_one (ps_ret pe_non))
  pss_nil)
  (pss_one (ps_ret (pe_lc (own := [("inner", 4)]) (g := (gName 4)) (tt := tYes) (te := _) rfl sc_trees_within.nd (pi_tup (pe_slice sl_tup (pv 2) (po_some pe_int) po_none)) (blkOk_by (N := N_trees_within) (sc := defScope s_trees_within) (by decide +kernel)) (fun _ _ _ _ _ => (pg_name (i := 4) sc_trees_within.nd rfl (.inl rfl))) (fun _ _ _ _ _ => pts_nil) (fun _ _ _ _ _ => (pe_tup (pa_cons (pv 4) (pa_cons (pv 3) pa_nil))))))))))), ?_⟩
    -- the trees behind an if or a claim
    have last : ∀ (z : Str) (a b : Ms) (v1 v2 : V) (n : Int) (ta : Addr) (more : List V) (ts : List Tr), SqT K H ta ([.str z, v1, v2, .int n] ++ more) → more ≠ [] → ImAll K H more (ts.map Tr.d) → Im K H v1 a.d → Im K H v2 b.d → near n → a.ok ns → b.ok ns → more.length ≤ 2 →
        Kids (fs.map Fn.hd) kd ns t (ts.map fun t => (t, ns)) →
        tIfS (tNot (tB (tCall (fun vs H Q E => ∃ a b, spCompared K ns a b vs H Q E) [] (fun _ _ _ => False) (tCons (tVar 2) (tCons (tVar 3) tNil))))) (tRet (tC .non)) tNext
          { nx := tRet (tLc (iTup K (tSl (rSlT K) (tVar 2) (tPart (tC (.int 4))) tNoPart)) (gName 4) tYes (tTup (tCons (tVar 4) (tCons (tVar 3) tNil))) [4]) { nx := fun _ H1 => Q .non H1, rt := Q }, rt := Q } (L2.start N_trees_within [pgv, kd.v, .ref ta, .ref d]) H := by
      intro z a b v1 v2 n ta more ts hta hm hma i1 i2 hn o1 o2 hml hk
      refine ⟨_, rfl, _, rfl, a, b, ta, d, _, v1, v2, n, more, rfl, hta, hm, i1, i2, hn, C.nm, o1, o2, fun H1 s1 => ⟨true, rfl, iteF ?_⟩⟩
      refine ⟨_, rfl, 4, rfl, ta, _, rfl, Same.tup s1 hta, ?_, fun p hp => ?_⟩
      · rintro ⟨e1, _⟩
        have e3 : HT.sIx ([.str z, v1, v2, V.int n] ++ more).length 0 (some 4) = min 4 ([.str z, v1, v2, V.int n] ++ more).length := HT.sIx_nat _ _ 4
        rw [e3, List.length_append] at e1
        simp only [List.length_cons, List.length_nil] at e1
        omega
      · have ec : cutV ([.str z, v1, v2, .int n] ++ more) (some 4) none = more := cutFrom 4 _ _ rfl
        have s2 : Same H1 (upd H1 p (.tup (cutV ([.str z, v1, v2, .int n] ++ more) (some 4) none))) := same_upd hp
        rw [ec] at s2 ⊢
        refine ⟨p, rfl, ⟨more, .inl (.inl upd_same)⟩, fun D hD => ?_⟩
        have sq : SqT K (upd H1 p (.tup more)) p more := .inl (.inl upd_same)
        refine lc_data (walk_tup (K := K) (a := p) (xs := more)) (fun i y H => ∃ T iv, y = .ref T ∧ more[i]? = some iv ∧ SqT K H T [iv, .ref d]) (fun i v H H2 si ⟨T, iv, e, e1, e2⟩ => ⟨T, iv, e, e1, si.tup e2⟩) hD (fun H3 s3 => Same.tup s3 sq) (by omega) ?_ ?_
        · rintro i x H3 H4 k hi s3 ⟨rfl, hx⟩ hk2
          exact ⟨rfl, _, rfl, _, rfl, by show 2 ≤ sizeLine; decide, fun T hT => hk2 _ _ (same_upd hT) ⟨T, x, rfl, hx, .inl (.inl upd_same)⟩⟩
        · rintro H3 acc s3 e3 hl hE
          have sA := (s1.trans s2).trans s3
          exact q H3 D acc _ sA ((s1.trans s2).free hD) e3 (kids_at (sA _ _ C.nm) (hma.same (sameI_of sA)) hl hE) hk
    cases t with
    | tell x =>
      obtain ⟨ta, xs, rfl, hta, hall⟩ := im_tup ht
      obtain ⟨v0, v1, rfl, i0, i1⟩ := im2 hall
      obtain rfl := im_str i0
      obtain rfl := im_str i1
      obtain ⟨es, n, u, k1, k2, k3, k4⟩ := T.y_TREES_tell
      refine ⟨_, rfl, ta, _, _, rfl, hta, true, rfl, iteF ⟨_, rfl, _, 2, rfl, .inr ⟨_, hta, rfl⟩, rfl, _, rfl, _, _, _, _, rfl, rfl, hta, atI_nat (j := 0) rfl, _, _, _, rfl, k3, k4, rfl, _, rfl, itnd rfl ?_⟩⟩
      refine ⟨_, rfl, _, _, _, _, rfl, rfl, hta, atI_nat (j := 0) rfl, rfl, _, rfl, itd (p := V.str "tell" = V.str "tell") rfl ?_⟩
      refine ⟨_, rfl, _, _, _, _, rfl, rfl, hta, atI_nat (j := 1) rfl, _, rfl, _, rfl, x, kd, d, rfl, C.nm, hok, true, rfl, iteT ⟨Nat.zero_le _, fun l hl => ?_⟩⟩
      exact q _ l [] [] (same_upd hl) hl upd_same .nil ⟨fun q hq => (by cases hq), rfl, Nat.zero_le _⟩
    | let_ x dd t =>
      obtain ⟨ta, xs, rfl, hta, hall⟩ := im_tup ht
      obtain ⟨v0, r0, rfl, i0, hal2⟩ := all_cons hall
      obtain rfl := im_str i0
      have hl0 : r0.length = 3 := ImAll.length hal2
      obtain ⟨es, n, u, k1, k2, k3, k4⟩ := T.y_TREES_let
      refine ⟨_, rfl, ta, _, _, rfl, hta, true, rfl, iteF ⟨_, rfl, _, 4, rfl, .inr ⟨_, hta, by rw [List.length_cons, hl0]⟩, rfl, _, rfl, _, _, _, _, rfl, rfl, hta, atI_nat (j := 0) rfl, _, _, _, rfl, k3, k4, rfl, _, rfl, itnd rfl ?_⟩⟩
      refine ⟨_, rfl, _, _, _, _, rfl, rfl, hta, atI_nat (j := 0) rfl, rfl, _, rfl, itn (p := V.str "let" = V.str "tell") (by decide +kernel) ?_⟩
      refine ⟨_, rfl, _, _, _, _, rfl, rfl, hta, atI_nat (j := 0) rfl, rfl, _, rfl, itd (p := V.str "let" = V.str "let") rfl ?_⟩
      exact ⟨_, rfl, _, rfl, _, rfl, x, dd, t, pgv, _, d, rfl, C, ht, hok, hns, q⟩
    | claim a b n t =>
      obtain ⟨ta, xs, rfl, hta, hall⟩ := im_tup ht
      obtain ⟨v0, r0, rfl, i0, hall⟩ := all_cons hall
      obtain ⟨v1, r1, rfl, i1, hall⟩ := all_cons hall
      obtain ⟨v2, r2, rfl, i2, hall⟩ := all_cons hall
      obtain ⟨v3, r3, rfl, i3, hall⟩ := all_cons hall
      obtain ⟨v4, rfl, i4⟩ := im1 hall
      obtain rfl := im_str i0
      obtain rfl := im_int i3
      obtain ⟨o1, o2, hn, hin⟩ := hok
      obtain ⟨es, n1, u, k1, k2, k3, k4⟩ := T.y_TREES_claim
      refine ⟨_, rfl, ta, _, _, rfl, hta, true, rfl, iteF ⟨_, rfl, _, 5, rfl, .inr ⟨_, hta, rfl⟩, rfl, _, rfl, _, _, _, _, rfl, rfl, hta, atI_nat (j := 0) rfl, _, _, _, rfl, k3, k4, rfl, _, rfl, itnd rfl ?_⟩⟩
      refine ⟨_, rfl, _, _, _, _, rfl, rfl, hta, atI_nat (j := 0) rfl, rfl, _, rfl, itn (p := V.str "claim" = V.str "tell") (by decide +kernel) ?_⟩
      refine ⟨_, rfl, _, _, _, _, rfl, rfl, hta, atI_nat (j := 0) rfl, rfl, _, rfl, itn (p := V.str "claim" = V.str "let") (by decide +kernel) ?_⟩
      exact last "claim" a b v1 v2 n ta [v4] [t] hta (fun z => nomatch z) (.cons i4 .nil) i1 i2 hn o1 o2 (Nat.le_succ 1) ⟨fun q hq => (by rw [List.mem_singleton.mp hq]; exact ⟨hin, Nat.le_refl _, Nat.le_succ _⟩), (by show t.size + 0 + 1 = t.size + 1; omega), Nat.le_succ 1⟩
    | if_ a b n t u =>
      obtain ⟨ta, xs, rfl, hta, hall⟩ := im_tup ht
      obtain ⟨v0, r0, rfl, i0, hall⟩ := all_cons hall
      obtain ⟨v1, r1, rfl, i1, hall⟩ := all_cons hall
      obtain ⟨v2, r2, rfl, i2, hall⟩ := all_cons hall
      obtain ⟨v3, r3, rfl, i3, hall⟩ := all_cons hall
      obtain ⟨v4, v5, rfl, i4, i5⟩ := im2 hall
      obtain rfl := im_str i0
      obtain rfl := im_int i3
      obtain ⟨o1, o2, hn, h4, h5⟩ := hok
      obtain ⟨es, n1, w1, k1, k2, k3, k4⟩ := T.y_TREES_if
      refine ⟨_, rfl, ta, _, _, rfl, hta, true, rfl, iteF ⟨_, rfl, _, 6, rfl, .inr ⟨_, hta, rfl⟩, rfl, _, rfl, _, _, _, _, rfl, rfl, hta, atI_nat (j := 0) rfl, _, _, _, rfl, k3, k4, rfl, _, rfl, itnd rfl ?_⟩⟩
      refine ⟨_, rfl, _, _, _, _, rfl, rfl, hta, atI_nat (j := 0) rfl, rfl, _, rfl, itn (p := V.str "if" = V.str "tell") (by decide +kernel) ?_⟩
      refine ⟨_, rfl, _, _, _, _, rfl, rfl, hta, atI_nat (j := 0) rfl, rfl, _, rfl, itn (p := V.str "if" = V.str "let") (by decide +kernel) ?_⟩
      refine last "if" a b v1 v2 n ta [v4, v5] [t, u] hta (fun z => nomatch z) (.cons i4 (.cons i5 .nil)) i1 i2 hn o1 o2 (Nat.le_refl 2) ⟨fun q hq => ?_, (by show t.size + (u.size + 0) + 1 = t.size + u.size + 1; omega), Nat.le_refl 2⟩
      rcases List.mem_cons.mp hq with z | z
      · rw [z]
        exact ⟨h4, Nat.succ_le_succ (Nat.le_max_left _ _), Nat.le_succ _⟩
      · rw [List.mem_singleton.mp z]
        exact ⟨h5, Nat.succ_le_succ (Nat.le_max_right _ _), Nat.le_succ _⟩
end
end Cs
namespace Cs
open PySem PySem.Spec L2
/-- a tree that waits: its depth, the names there -/
def StAt (K : PySem.W.Frag) (H : Hp) (v : V) (q : Tr × Nat × Nm) : Prop := ∃ a tv d, v = .ref a ∧ SqT K H a [tv, .int (q.2.1 : Nat), .ref d] ∧ Im K H tv q.1.d ∧ H d = some (.dK (nmK q.2.2))
theorem StAt.step {K : PySem.W.Frag} {l : Addr} {H H1 : Hp} {xs : List V} (s : SameX l H H1) (h : H l = some (.lst xs)) {v : V} {q : Tr × Nat × Nm} : StAt K H v q → StAt K H1 v q
  | ⟨a, tv, d, e, h1, h2, h3⟩ => ⟨a, tv, d, e, (s.i h id).tup h1, h2.same (s.i h id), s _ _ (ne_of h3 h (by intro z; cases z)) h3⟩
theorem StAt.all {K : PySem.W.Frag} {l : Addr} {H H1 : Hp} {xs : List V} (s : SameX l H H1) (h : H l = some (.lst xs)) {vs : List V} {qs : List (Tr × Nat × Nm)} (p : Paired (StAt K H) vs qs) : Paired (StAt K H1) vs qs := Paired.mapP p fun _ _ z => z.step s h
abbrev weight (st : List (Tr × Nat × Nm)) : Nat := (st.map fun q => q.1.size).sum
theorem weight_append (a b : List (Tr × Nat × Nm)) : weight (a ++ b) = weight a + weight b := by
  unfold weight
  rw [List.map_append, List.sum_append_nat]
theorem size_pos (t : Tr) : 1 ≤ t.size := by cases t <;> simp [Tr.size]
theorem len_weight : ∀ st : List (Tr × Nat × Nm), st.length ≤ weight st
  | [] => Nat.le_refl _
  | q :: r => by
    have h := len_weight r
    have := size_pos q.1
    show r.length + 1 ≤ q.1.size + weight r
    omega
theorem deep_pos (t : Tr) : 1 ≤ t.deep := by cases t <;> simp [Tr.deep]
section
variable {P : Program} {w : World} {K : PySem.W.Frag} {mg : Str → Option Value} {base : Heap} {A : Adr}
def spChTrees (K : PySem.W.Frag) (fs : List Fn) (i : Nat) (fn : Fn) : Sp := fun vs H Q _ => ∃ (pgv : V), vs = [pgv, .int (i : Nat)] ∧ PgAt K H pgv fs ∧ okPg fs ∧ fs[i]? = some fn ∧ ∀ H1, Same H H1 → Q .non H1
theorem mergeK_nodup : ∀ (kvs acc : List (Key × V)), (acc ++ kvs).map (·.1) |>.Nodup → mergeK acc kvs = acc ++ kvs
  | [], acc, _ => (List.append_nil acc).symm
  | (k, v) :: r, acc, h => by
    show mergeK (putK acc k v) r = _
    have hn : valV acc k = none := by
      cases e : valV acc k with
      | none => rfl
      | some u =>
        have z := valV_any k acc
        rw [e] at z
        obtain ⟨x, hx, ex⟩ := List.any_eq_true.mp z
        rw [List.map_append, List.map_cons, List.nodup_append] at h
        exact absurd (of_decide_eq_true ex) (h.2.2 x.1 (List.mem_map.mpr ⟨x, hx, rfl⟩) k (List.mem_cons_self ..))
    rw [putK_new hn, mergeK_nodup r (acc ++ [(k, v)]) (by rw [List.append_assoc]; exact h), List.append_assoc]
    rfl
theorem nmK_merge {ns : Nm} (h : (ns.map (·.1)).Nodup) : mergeK [] (nmK ns) = nmK ns := by
  have z := mergeK_nodup (nmK ns) [] (by
    show ((nmK ns).map (·.1)).Nodup
    unfold nmK
    rw [List.map_map]
    show (ns.map fun p => (Sum.inr p.1 : Key)).Nodup
    have e : (ns.map fun p => (Sum.inr p.1 : Key)) = (ns.map (·.1)).map Sum.inr := by rw [List.map_map]; rfl
    rw [e]
    exact List.pairwise_map.mpr (h.imp fun n z => n (Sum.inr.inj z)))
  exact z
theorem pairs_pr {H : Hp} : ∀ {qs : List Addr} {ps : Nm}, Paired (PrAt K H) qs ps → Paired (fun p (kv : Key × V) => SqT K H p [kV kv.1, kv.2]) qs (nmK ps)
  | _, _, .nil => .nil
  | _, _, .cons h t => .cons h (pairs_pr t)
theorem ok_check_trees (T : Tx K w mg A) (fs : List Fn) (i : Nat) (fn : Fn) : FnOk P w K mg base CX0 9 A.f_check_trees A.fd_check_trees P_check_trees (spChTrees K fs i fn) := by
  have G_trees_within : FnOk P w K mg base CX0 8 A.f_trees_within A.fd_trees_within P_trees_within (fun vs H Q E => ∃ ns t, spTrees K fs ns fn.kd t vs H Q E) :=
    ⟨fun vs H Q E ⟨ns, t, h⟩ => (ok_trees_within (P := P) (base := base) T fs ns fn.kd t).len vs H Q E h, fun AA outer s H args us vs Q E hr he hb hv ⟨ns, t, h⟩ => (ok_trees_within (P := P) (base := base) T fs ns fn.kd t).run AA outer s H args us vs Q E hr he hb hv h⟩
  refine T.F_check_trees.ok sc_check_trees (fun vs H Q E h => ?_) (fun cdv AA outer s H vs Q E hr h => ?_)
  · obtain ⟨pgv, rfl, _⟩ := h
    rfl
  · obtain ⟨pgv, rfl, hpg, hok, hfn, q⟩ := h
    obtain ⟨pa, pvs, rfl, hpt, hpall⟩ := id hpg
    obtain ⟨fv, hfv, hfat⟩ := paired_get' hpall hfn
    obtain ⟨fa, fp, ftv, fqs, rfl, hft, hfpl, hfps, hftr⟩ := hfat
    obtain ⟨k1, k2, kall⟩ := id hok
    obtain ⟨f1, f2, f3, f4, f5, f6⟩ := kall fn (List.mem_of_getElem? hfn)
    refine ⟨_, (pss_cons (ps_asg (pe_ix ix_tup (pv 0) (pv 1) (fun _ _ => rfl)) (pg_tup (by rfl) (pgs_cons (pg_name (i := 2) sc_check_trees.nd rfl (.inl rfl)) (pgs_cons (pg_name (i := 3) sc_check_trees.nd rfl (.inl rfl)) (pgs_cons (pg_name (i := 4) sc_check_trees.nd rfl (.inl rfl)) pgs_nil)))))
  (pss_cons (ps_set (i := 5) sc_check_trees.nd rfl (.inl rfl) (pe_lst (pa_cons (pe_tup (pa_cons (pv 4) (pa_cons pe_int (pa_cons (pe_callTy (cr_dictT rfl) (by rfl) T.n_dict (by decide +kernel) (pa_cons (pv 2) pa_nil)) pa_nil)))) pa_nil)))
  (pss_cons (ps_set (i := 6) sc_check_trees.nd rfl (.inl rfl) pe_int)
  (pss_one (ps_while PassesOwn.never (pt_truth (pv 5) (by intro _; rfl))
  (pss_cons (ps_asg (pe_bm0 PySem.F.plainAttrs_list PySem.F.slot_list_pop PySem.F.type_list_pop mt_pop (pv 5)) (pg_tup (by rfl) (pgs_cons (pg_name (i := 7) sc_check_trees.nd rfl (.inl rfl)) (pgs_cons (pg_name (i := 8) sc_check_trees.nd rfl (.inl rfl)) (pgs_cons (pg_name (i := 9) sc_check_trees.nd rfl (.inl rfl)) pgs_nil)))))
  (pss_cons (ps_if (PW.pt (pw_or (pt_cmpR op_ge (pv 6) (pe_glob (v := .int 60) rfl T.c_MOST_TREES ⟨_, rfl⟩) (nomark _)) (pw_or1 (pt_cmpR op_gt (pv 8) (pe_glob (v := .int 20) rfl T.c_MOST_DEPTH ⟨_, rfl⟩) (nomark _)))))
  pss_never
  pss_nil)
  (pss_cons (ps_set (i := 10) sc_check_trees.nd rfl (.inl rfl) (pe_call G_trees_within (hr.mono (by decide)) (by rfl) T.g_trees_within T.F_trees_within.kp T.b_trees_within .nil pass0 (pa_cons (pv 0) (pa_cons (pv 3) (pa_cons (pv 7) (pa_cons (pv 9) pa_nil))))))
  (pss_cons (ps_if (pt_cmpR op_isN (pv 10) pe_non (nomark _))
  pss_never
  pss_nil)
  (pss_cons (ps_for PassesOwn.never rfl (pi_reversed (by rfl) T.n_reversed (pa_cons (pv 10) pa_nil)) (pg_tup (by rfl) (pgs_cons (pg_name (i := 11) sc_check_trees.nd rfl (.inl rfl)) (pgs_cons (pg_name (i := 12) sc_check_trees.nd rfl (.inl rfl)) pgs_nil)))
  (pss_one (ps_expr (pe_bm PySem.F.plainAttrs_list PySem.F.slot_list_append PySem.F.type_list_append mt_append (pv 5) (pa_cons (pe_tup (pa_cons (pv 11) (pa_cons (pe_op op_add (pv 8) pe_int) (pa_cons (pv 12) pa_nil)))) pa_nil)))))
  (pss_one (ps_aug (i := 6) sc_check_trees.nd rfl (.inl rfl) pe_int ip_add)))))))))))), ?_⟩
    refine ⟨_, rfl, _, rfl, _, _, _, _, rfl, rfl, hpt, atI_nat hfv, fa, _, rfl, hft, rfl, _, _, rfl, _, _, rfl, _, _, rfl, rfl, ?_⟩
    refine ⟨_, rfl, _, rfl, fp, fqs, nmK fn.ps, rfl, hfpl, pairs_pr hfps, fun d hd => ?_⟩
    rw [nmK_merge f3]
    have s1 : Same H (upd H d (.dK (nmK fn.ps))) := same_upd hd
    refine ⟨by show 3 ≤ sizeLine; decide, fun t0 ht0 => ⟨by show 1 ≤ sizeLine; decide, fun wl hwl => ?_⟩⟩
    have s2 : Same (upd H d (.dK (nmK fn.ps))) (upd (upd H d (.dK (nmK fn.ps))) t0 (.tup [ftv, .int 1, .ref d])) := same_upd ht0
    have s3 : Same (upd (upd H d (.dK (nmK fn.ps))) t0 (.tup [ftv, .int 1, .ref d])) (upd (upd (upd H d (.dK (nmK fn.ps))) t0 (.tup [ftv, .int 1, .ref d])) wl (.lst [.ref t0])) := same_upd hwl
    have nwl : H wl = none := (s1.trans s2).free hwl
    refine ⟨fun m σ H1 => ∃ vs st place y7 y8 y9 y10 y11 y12, σ = [some (.ref pa), some (.int (i : Nat)), some (.ref fp), some fn.kd.v, some ftv, some (.ref wl), some (.int (place : Nat)), y7, y8, y9, y10, y11, y12] ∧
        Same H H1 ∧ H1 wl = some (.lst vs) ∧ Paired (StAt K H1) vs st ∧ (∀ q ∈ st, Tr.ok (fs.map Fn.hd) fn.kd q.2.2 q.1 ∧ 1 ≤ q.2.1 ∧ q.2.1 + q.1.deep ≤ 21 ∧ q.2.2.length ≤ q.2.1 + 4) ∧ place + weight st ≤ 60 ∧ m = weight st,
      ⟨_, [.ref t0], [(fn.tr, 1, fn.ps)], 0, none, none, none, none, none, none, rfl, s1.trans (s2.trans s3), upd_same, .cons ⟨t0, ftv, d, rfl, .inl (.inl (s3 _ _ upd_same)), hftr.same (sameI_of (s1.trans (s2.trans s3))), s3 _ _ (s2 _ _ upd_same)⟩ .nil, ?_, ?_, rfl⟩, ?_⟩
    · intro q hq
      rw [List.mem_singleton.mp hq]
      exact ⟨f4, Nat.le_refl _, by show 1 + fn.tr.deep ≤ 21; omega, by show fn.ps.length ≤ 1 + 4; omega⟩
    · show 0 + (fn.tr.size + 0) ≤ 60
      omega
    rintro m σ H1 ⟨vs, st, place, y7, y8, y9, y10, y11, y12, rfl, sH, ewl, hst, hall, hpl, rfl⟩
    refine ⟨_, rfl, _, .inl ⟨vs, SqL.of ewl, rfl⟩, ?_⟩
    rcases List.eq_nil_or_concat vs with rfl | ⟨vs1, v, rfl⟩
    · exact iteF (q H1 sH)
    rw [List.concat_eq_append] at *
    obtain ⟨st1, ⟨t, dep, ns⟩, rfl, hst1, a, tv, d1, rfl, hat, htv, hd1⟩ := paired_last hst
    have hne : (!(vs1 ++ [V.ref a]).isEmpty) = true := by cases vs1 <;> rfl
    rw [hne]
    obtain ⟨o1, o2, o3, o4⟩ := hall (t, dep, ns) (List.mem_append_right _ (List.mem_singleton.mpr rfl))
    have o2 : 1 ≤ dep := o2
    have o3 : dep + t.deep ≤ 21 := o3
    have o4 : ns.length ≤ dep + 4 := o4
    have hw : weight (st1 ++ [(t, dep, ns)]) = weight st1 + t.size := by
      rw [weight_append]
      rfl
    have hsz := size_pos t
    have hdp := deep_pos t
    rw [hw] at hpl ⊢
    refine iteT ?_
    -- tree, depth, names = waiting.pop()
    have x1 : SameX wl H1 (upd H1 wl (.lst vs1)) := sameX_upd
    have sH1 : Same H (upd H1 wl (.lst vs1)) := x1.same sH nwl
    refine ⟨fun σ' H' => ∃ m', m' < weight st1 + t.size ∧ ∃ vs st place y7 y8 y9 y10 y11 y12, σ' = [some (.ref pa), some (.int (i : Nat)), some (.ref fp), some fn.kd.v, some ftv, some (.ref wl), some (.int (place : Nat)), y7, y8, y9, y10, y11, y12] ∧
        Same H H' ∧ H' wl = some (.lst vs) ∧ Paired (StAt K H') vs st ∧ (∀ q ∈ st, Tr.ok (fs.map Fn.hd) fn.kd q.2.2 q.1 ∧ 1 ≤ q.2.1 ∧ q.2.1 + q.1.deep ≤ 21 ∧ q.2.2.length ≤ q.2.1 + 4) ∧ place + weight st ≤ 60 ∧ m' = weight st, fun σ' H' z => z, ?_⟩
    refine ⟨_, rfl, .inl ⟨rfl, _, SqL.of ewl⟩, wl, _, .ref a, rfl, rfl, ewl, by simp, ?_⟩
    rw [List.dropLast_concat]
    have hat1 : SqT K (upd H1 wl (.lst vs1)) a [tv, .int (dep : Nat), .ref d1] := (x1.i ewl id).tup hat
    refine ⟨a, _, rfl, hat1, rfl, _, _, rfl, _, _, rfl, _, _, rfl, rfl, ?_⟩
    -- if place >= MOST_TREES or depth > MOST_DEPTH
    refine ⟨_, rfl, _, _, rfl, rfl, _, rfl, itn (show ¬ (60 : Int) ≤ (place : Int) by omega) ⟨_, rfl, _, _, rfl, rfl, _, rfl, itn (show ¬ (20 : Int) < (dep : Int) by omega) ?_⟩⟩
    -- within = trees_within(program, kind, tree, names)
    have C1 : Ctx K (upd H1 wl (.lst vs1)) (.ref pa) fs d1 ns := ⟨hpg.same (sameI_of sH1), k2, fun f hf => (kall f hf).1, x1 _ _ (ne_of hd1 ewl (by intro z; cases z)) hd1⟩
    refine ⟨_, rfl, _, rfl, _, rfl, _, rfl, ns, t, .ref pa, tv, d1, rfl, C1, htv.same (x1.i ewl id), o1, by omega, fun H3 l acc ks s3 nl el hks hk => ?_⟩
    obtain ⟨kid1, kid2, kid3⟩ := hk
    refine ⟨_, rfl, rfl, _, rfl, itn (p := V.ref l = V.non) (fun z => nomatch z) ?_⟩
    -- for inner, standing in reversed(within)
    have nlw : l ≠ wl := fun z => by
      rw [z, upd_same] at nl
      cases nl
    have ewl3 : H3 wl = some (.lst vs1) := s3 _ _ upd_same
    have st3 : Paired (StAt K H3) vs1 st1 := StAt.all (sameX_of s3) upd_same (StAt.all x1 ewl hst1)
    have sH3 : Same H H3 := sH1.trans s3
    have hks2 := paired_reverse hks
    have hlk := Paired.length hks
    refine ⟨_, rfl, l, acc, rfl, SqL.of el, for_it (walk_rev (K := K) (a := l) (xs := acc)) (fun j σ' H' => ∃ us y11 y12, σ' = [some (.ref pa), some (.int (i : Nat)), some (.ref fp), some fn.kd.v, some ftv, some (.ref wl), some (.int (place : Nat)), some tv, some (.int (dep : Nat)), some (.ref d1), some (.ref l), y11, y12] ∧
        SameX wl H3 H' ∧ H' wl = some (.lst (vs1 ++ us)) ∧ Paired (StAt K H') us ((ks.reverse.take j).map fun q => (q.1, dep + 1, q.2)))
      ⟨[], y11, y12, rfl, SameX.refl _ _, by rw [List.append_nil]; exact ewl3, .nil⟩ (fun j σ' H' _ ⟨us, z11, z12, _, xx, _⟩ => SqL.of (xx _ _ nlw el)) ?_ ?_⟩
    · rintro j x σ' H5 H4 hj ⟨us, z11, z12, rfl, xx, e4, hus⟩ ⟨rfl, hx⟩
      have hx2 : acc.reverse[j]? = some x := by
        rw [List.getElem?_reverse hj]
        exact hx
      obtain ⟨kq, hkq, ka, ktv, kd1, rfl, hka, hktv, hkd⟩ := paired_get hks2 hx2
      have xi := xx.i ewl3 id
      refine ⟨ka, _, rfl, xi.tup hka, rfl, _, _, rfl, _, _, rfl, rfl, ?_⟩
      refine ⟨_, rfl, .inl ⟨rfl, _, SqL.of e4⟩, _, rfl, _, rfl, _, _, rfl, rfl, _, rfl, by show 3 ≤ sizeLine; decide, fun nt hnt => ?_⟩
      have nne : wl ≠ nt := ne_of_none e4 hnt
      have e6 : (upd H4 nt (.tup [ktv, .int ((dep : Nat) + 1), .ref kd1])) wl = some (.lst (vs1 ++ us)) := by rw [upd_ne nne]; exact e4
      have s6 : Same H4 (upd H4 nt (.tup [ktv, .int ((dep : Nat) + 1), .ref kd1])) := same_upd hnt
      refine ⟨wl, _, _, rfl, rfl, e6, ?_, ?_⟩
      · have l1 := Paired.length hus
        have l2 := Paired.length hst1
        have l3 : weight st1 ≤ 60 := by omega
        rw [List.length_append, l1, List.length_map, List.length_take]
        have l4 : vs1.length ≤ weight st1 := by
          rw [l2]
          exact len_weight st1
        exact smaller (by omega)
      · have x7 : SameX wl (upd H4 nt (.tup [ktv, .int ((dep : Nat) + 1), .ref kd1])) (upd (upd H4 nt (.tup [ktv, .int ((dep : Nat) + 1), .ref kd1])) wl (.lst ((vs1 ++ us) ++ [.ref nt]))) := sameX_upd
        have x8 : SameX wl H4 (upd (upd H4 nt (.tup [ktv, .int ((dep : Nat) + 1), .ref kd1])) wl (.lst ((vs1 ++ us) ++ [.ref nt]))) := (sameX_of s6).trans x7
        refine ⟨us ++ [.ref nt], _, _, rfl, xx.trans x8, by rw [upd_same, List.append_assoc], ?_⟩
        rw [List.take_add_one, hkq, List.map_append]
        refine paired_append (StAt.all x8 e4 hus) (.cons ⟨nt, ktv, kd1, rfl, (x7.i e6 id).tup (.inl (.inl upd_same)), hktv.same (xi.trans (x8.i e4 id)), (xx.trans x8) _ _ (ne_of hkd ewl3 (by intro z; cases z)) hkd⟩ .nil)
    · rintro σ' H4 ⟨us, z11, z12, rfl, xx, e4, hus⟩
      have etake : ks.reverse.take acc.length = ks.reverse := List.take_of_length_le (by rw [List.length_reverse, hlk]; exact Nat.le_refl _)
      rw [etake] at hus
      have hwk : weight (ks.reverse.map fun q => (q.1, dep + 1, q.2)) + 1 = t.size := by
        rw [← kid2]
        unfold weight
        rw [List.map_map, List.map_reverse, List.sum_reverse]
        rfl
      -- place += 1
      refine ⟨_, rfl, _, _, rfl, rfl, ?_⟩
      refine ⟨_, ?_, vs1 ++ us, st1 ++ (ks.reverse.map fun q => (q.1, dep + 1, q.2)), place + 1, _, _, _, _, _, _, rfl, xx.same sH3 nwl, e4, paired_append (StAt.all xx ewl3 st3) hus, ?_, ?_, rfl⟩
      · rw [weight_append]
        omega
      · intro q hq
        rcases List.mem_append.mp hq with hq | hq
        · exact hall q (List.mem_append_left _ hq)
        · obtain ⟨kq, hkq, rfl⟩ := List.mem_map.mp hq
          obtain ⟨g1, g2, g3⟩ := kid1 kq (List.mem_reverse.mp hkq)
          exact ⟨g1, by show 1 ≤ dep + 1; omega, by show dep + 1 + kq.1.deep ≤ 21; omega, by show kq.2.length ≤ dep + 1 + 4; omega⟩
      · rw [weight_append]
        omega
end
end Cs
namespace Cs
open PySem PySem.Spec L2
theorem walk_enumT {K : PySem.W.Frag} {a : Addr} {xs : List V} : Walk (IteT K a) xs.length (fun H => SqT K H a xs) (YPair (fun i => some (.int (i : Nat))) (fun i => xs[i]?)) :=
  ⟨fun i H hi h => ⟨xs, xs[i], h, List.getElem?_eq_getElem hi⟩, fun H h => ⟨xs, h, Nat.le_refl _⟩, fun i H x H' hi h ⟨T, y, e, hT, eH, f⟩ => ⟨T, _, y, e, hT, eH, rfl, f _ h⟩⟩
section
variable {P : Program} {w : World} {K : PySem.W.Frag} {mg : Str → Option Value} {base : Heap} {A : Adr}
theorem kinds_in (kd : Kd) : inV kd.v [.str "number", .str "list"] = true := by cases kd <;> decide +kernel
def spParam (K : PySem.W.Frag) : Sp := fun vs H Q _ => ∃ (a : Addr) (p : Str × Kd), vs = [.ref a] ∧ PrAt K H a p ∧ okName p.1 ∧ ∀ H1, Same H H1 → Q (.bl true) H1
theorem ok_is_param (T : Tx K w mg A) : FnOk P w K mg base CX0 2 A.f_is_param A.fd_is_param P_is_param (spParam K) := by
  have G_is_row := ok_is_row (P := P) (base := base) T
  have G_is_name := ok_is_name (P := P) (base := base) T
  refine T.F_is_param.ok sc_is_param (fun vs H Q E h => ?_) (fun cdv AA outer s H vs Q E hr h => ?_)
  · obtain ⟨a, p, rfl, _⟩ := h
    rfl
  · obtain ⟨a, p, rfl, ha, hn, q⟩ := h
    have ha : SqT K H a [.str p.1, p.2.v] := ha
    refine ⟨_, (pss_one (ps_ret (pe_and (pe_call G_is_row (hr.mono (by decide)) (by rfl) T.g_is_row T.F_is_row.kp T.b_is_row .nil pass0 (pa_cons (pv 0) (pa_cons pe_int pa_nil))) (pe_and (pe_call G_is_name (hr.mono (by decide)) (by rfl) T.g_is_name T.F_is_name.kp T.b_is_name .nil pass0 (pa_cons (pe_ix ix_tup (pv 0) pe_int (fun _ _ => rfl)) pa_nil)) (pe_one (pe_cmpR op_in_seq (pe_ix ix_tup (pv 0) pe_int (fun _ _ => rfl)) (pe_glob (v := .ref A.a_KINDS) rfl T.c_KINDS rfl) (by rfl))))))), ?_⟩
    refine ⟨_, rfl, a, _, 2, rfl, ha, true, rfl, iteT ⟨_, rfl, _, _, _, _, rfl, rfl, ha, atI_nat (j := 0) rfl, p.1, rfl, hn, fun H1 s1 => ⟨true, rfl, iteT ⟨_, rfl, _, _, _, _, rfl, rfl, Same.tup s1 ha, atI_nat (j := 1) rfl, _, _, rfl, .inr (T.q_KINDS _), rfl, rfl, ?_⟩⟩⟩⟩
    show Q (.bl (inV p.2.v [.str "number", .str "list"])) H1
    rw [kinds_in]
    exact q _ s1
def spHeaded (K : PySem.W.Frag) : Sp := fun vs H Q _ => ∃ (v : V) (fn : Fn), vs = [v] ∧ FnAt K H v fn ∧ fn.ps.length ≤ 4 ∧ (∀ p ∈ fn.ps, okName p.1) ∧ (fn.ps.map (·.1)).Nodup ∧ ∀ H1, Same H H1 → Q (.bl true) H1
theorem ok_is_headed (T : Tx K w mg A) : FnOk P w K mg base CX0 3 A.f_is_headed A.fd_is_headed P_is_headed (spHeaded K) := by
  have G_is_row := ok_is_row (P := P) (base := base) T
  have G_is_param := ok_is_param (P := P) (base := base) T
  refine T.F_is_headed.ok sc_is_headed (fun vs H Q E h => ?_) (fun cdv AA outer s H vs Q E hr h => ?_)
  · obtain ⟨v, fn, rfl, _⟩ := h
    rfl
  · obtain ⟨v, fn, rfl, ⟨fa, fp, ftv, fqs, rfl, hft, hfpl, hfps, hftr⟩, h4, hn, hnd, q⟩ := h
    have hl := Paired.length hfps
    refine ⟨_, (pss_cons (ps_if (pt_not (pt_val (pe_call G_is_row (hr.mono (by decide)) (by rfl) T.g_is_row T.F_is_row.kp T.b_is_row .nil pass0 (pa_cons (pv 0) (pa_cons pe_int pa_nil)))))
  (pss_one (ps_ret pe_bl))
  pss_nil)
  (pss_cons (ps_asg (pv 0) (pg_tup (by rfl) (pgs_cons (pg_name (i := 1) sc_is_headed.nd rfl (.inl rfl)) (pgs_cons (pg_name (i := 2) sc_is_headed.nd rfl (.inl rfl)) (pgs_cons (pg_name (i := 3) sc_is_headed.nd rfl (.inl rfl)) pgs_nil)))))
  (pss_cons (ps_if (PW.pt (pw_or (pt_not (pt_val (pe_callB call_isi (by rfl) T.n_isinstance (by decide +kernel) (pa_cons (pv 1) (pa_cons (pe_bltn (v := .ty "tuple") (u := .type "tuple") (by rfl) T.n_tuple (by decide +kernel) rfl) pa_nil))))) (pw_or1 (pt_cmpR op_gt (pe_callB call_len (by rfl) T.n_len (by decide +kernel) (pa_cons (pv 1) pa_nil)) (pe_glob (v := .int 4) rfl T.c_MOST_PARAMS ⟨_, rfl⟩) (nomark _)))))
  (pss_one (ps_ret pe_bl))
  pss_nil)
  (pss_cons (ps_if (pt_not (pt_val (pe_callB (cr_all rfl) (by rfl) T.n_all (by decide +kernel) (pa_cons (pe_lc (own := [("param", 4)]) (g := (gName 4)) (tt := tYes) (te := _) rfl sc_is_headed.nd (pi_tup (pv 1)) (blkOk_by (N := N_is_headed) (sc := defScope s_is_headed) (by decide +kernel)) (fun _ _ _ _ _ => (pg_name (i := 4) sc_is_headed.nd rfl (.inl rfl))) (fun _ _ _ _ _ => pts_nil) (fun _ _ _ _ _ => (pe_call G_is_param (hr.mono (by decide)) (by rfl) T.g_is_param T.F_is_param.kp T.b_is_param .nil pass0 (pa_cons (pv 4) pa_nil)))) pa_nil))))
  (pss_one (ps_ret pe_bl))
  pss_nil)
  (pss_one (ps_ret (pe_and (pe_cmpR op_eq (pe_callB call_lenD (by rfl) T.n_len (by decide +kernel) (pa_cons (pe_callTy (cr_dictT rfl) (by rfl) T.n_dict (by decide +kernel) (pa_cons (pv 1) pa_nil)) pa_nil)) (pe_callB call_len (by rfl) T.n_len (by decide +kernel) (pa_cons (pv 1) pa_nil)) (nomark _)) (pe_one (pe_cmpR op_in_seq (pv 2) (pe_glob (v := .ref A.a_KINDS) rfl T.c_KINDS rfl) (by rfl)))))))))), ?_⟩
    refine ⟨_, rfl, fa, _, 3, rfl, hft, true, rfl, iteF ?_⟩
    refine ⟨_, rfl, fa, _, rfl, hft, rfl, _, _, rfl, _, _, rfl, _, _, rfl, rfl, ?_⟩
    refine ⟨_, rfl, _, _, _, _, true, rfl, .ty "tuple", tyx_tup hfpl.sq, kv (by decide +kernel), true, rfl, iteF ⟨_, rfl, _, fn.ps.length, rfl, .inr ⟨_, hfpl.sq, by rw [List.length_map, hl]⟩, _, _, rfl, rfl, _, rfl, itn (by omega) ?_⟩⟩
    refine ⟨_, rfl, fp, rfl, ⟨_, hfpl.sq⟩, fun D hD => ?_⟩
    refine lc_data (walk_tup (K := K) (a := fp) (xs := fqs.map V.ref)) (fun _ y _ => y = .bl true) (fun _ _ _ _ _ e => e) hD (fun H1 s1 => Same.tup s1 hfpl.sq) (by rw [List.length_map]; omega) ?_ ?_
    · rintro i x H1 H2 k hi s1 ⟨rfl, hx⟩ hk
      rw [List.getElem?_map] at hx
      obtain ⟨t, ht, rfl⟩ := Option.map_eq_some_iff.mp hx
      obtain ⟨pr, hpr, hat⟩ := paired_get hfps ht
      exact ⟨rfl, _, rfl, t, pr, rfl, hat.same (sameI_of s1), hn pr (List.mem_of_getElem? hpr), fun H3 s3 => hk _ _ s3 rfl⟩
    · rintro H1 acc s1 e1 hla hE
      refine ⟨D, List.replicate acc.length true, rfl, trues e1 hE, true, ?_, iteF ?_⟩
      · rw [trues_all]
      refine ⟨_, rfl, fp, fqs, nmK fn.ps, rfl, hfpl.same s1, ?_, fun d hd => ?_⟩
      · exact pairs_pr (Paired.mapP hfps fun _ _ z => z.same (sameI_of s1))
      have s2 : Same H1 (upd H1 d (.dK (mergeK [] (nmK fn.ps)))) := same_upd hd
      rw [nmK_merge hnd] at s2 ⊢
      refine ⟨d, nmK fn.ps, rfl, upd_same, _, rfl, _, fn.ps.length, rfl, .inr ⟨_, (hfpl.same (s1.trans s2)).sq, by rw [List.length_map, hl]⟩, rfl, true, ?_, iteT ⟨_, rfl, _, _, rfl, .inr (T.q_KINDS _), rfl, rfl, ?_⟩⟩
      · rw [List.length_map, decide_eq_true rfl]
      · show Q (.bl (inV fn.kd.v [.str "number", .str "list"])) _
        rw [kinds_in]
        exact q _ (s1.trans s2)
def spProgram (K : PySem.W.Frag) : Sp := fun vs H Q _ => ∃ (pgv : V) (fs : List Fn), vs = [pgv] ∧ PgAt K H pgv fs ∧ okPg fs ∧ ∀ H1, Same H H1 → Q .non H1
theorem ok_check_program (T : Tx K w mg A) : FnOk P w K mg base CX0 10 A.f_check_program A.fd_check_program P_check_program (spProgram K) := by
  have G_is_headed := ok_is_headed (P := P) (base := base) T
  have G_check_trees : FnOk P w K mg base CX0 9 A.f_check_trees A.fd_check_trees P_check_trees (fun vs H Q E => ∃ fs i fn, spChTrees K fs i fn vs H Q E) :=
    ⟨fun vs H Q E ⟨fs, i, fn, h⟩ => (ok_check_trees (P := P) (base := base) T fs i fn).len vs H Q E h, fun AA outer s H args us vs Q E hr he hb hv ⟨fs, i, fn, h⟩ => (ok_check_trees (P := P) (base := base) T fs i fn).run AA outer s H args us vs Q E hr he hb hv h⟩
  refine T.F_check_program.ok sc_check_program (fun vs H Q E h => ?_) (fun cdv AA outer s H vs Q E hr h => ?_)
  · obtain ⟨pgv, fs, rfl, _⟩ := h
    rfl
  · obtain ⟨pgv, fs, rfl, hpg, hok, q⟩ := h
    obtain ⟨pa, pvs, rfl, hpt, hpall⟩ := id hpg
    obtain ⟨k1, k2, kall⟩ := id hok
    have hl := Paired.length hpall
    refine ⟨_, (pss_cons (ps_if (PW.pt (pw_or (pt_not (pt_val (pe_callB call_isi (by rfl) T.n_isinstance (by decide +kernel) (pa_cons (pv 0) (pa_cons (pe_bltn (v := .ty "tuple") (u := .type "tuple") (by rfl) T.n_tuple (by decide +kernel) rfl) pa_nil))))) (pw_or1 (pt_cmpR op_eq (pe_callB call_len (by rfl) T.n_len (by decide +kernel) (pa_cons (pv 0) pa_nil)) pe_int (nomark _)))))
  pss_never
  pss_nil)
  (pss_cons (ps_for PassesOwn.never rfl (pi_enumT (by rfl) T.n_enumerate (pa_cons (pv 0) pa_nil)) (pg_tup (by rfl) (pgs_cons (pg_name (i := 1) sc_check_program.nd rfl (.inl rfl)) (pgs_cons (pg_name (i := 2) sc_check_program.nd rfl (.inl rfl)) pgs_nil)))
  (pss_one (ps_if (PW.pt (pw_or (pt_cmpR op_ge (pv 1) (pe_glob (v := .int 6) rfl T.c_MOST_FUNCTIONS ⟨_, rfl⟩) (nomark _)) (pw_or1 (pt_not (pt_val (pe_call G_is_headed (hr.mono (by decide)) (by rfl) T.g_is_headed T.F_is_headed.kp T.b_is_headed .nil pass0 (pa_cons (pv 2) pa_nil)))))))
  pss_never
  pss_nil)))
  (pss_one (ps_for PassesOwn.never rfl (pi_range1 (by rfl) T.n_range (pa_cons (pe_callB call_len (by rfl) T.n_len (by decide +kernel) (pa_cons (pv 0) pa_nil)) pa_nil)) (pg_name (i := 1) sc_check_program.nd rfl (.inl rfl))
  (pss_one (ps_expr (pe_call G_check_trees (hr.mono (by decide)) (by rfl) T.g_check_trees T.F_check_trees.kp T.b_check_trees .nil pass0 (pa_cons (pv 0) (pa_cons (pv 1) pa_nil))))))))), ?_⟩
    refine ⟨_, rfl, _, _, _, _, true, rfl, .ty "tuple", tyx_tup hpt, kv (by decide +kernel), true, rfl, iteF ⟨_, rfl, _, pvs.length, rfl, .inr ⟨_, hpt, rfl⟩, rfl, _, rfl, itn (p := V.int (pvs.length : Nat) = V.int 0) (fun z => by have := V.int.inj z; omega) ?_⟩⟩
    refine ⟨_, rfl, pa, pvs, rfl, hpt, for_it walk_enumT (fun i σ H1 => ∃ y1 y2, σ = [some (.ref pa), y1, y2] ∧ Same H H1) ⟨none, none, rfl, Same.refl _⟩ (fun i σ H1 _ ⟨_, _, _, s1⟩ => Same.tup s1 hpt) ?_ ?_⟩
    · rintro i x σ H2 H1 hi ⟨y1, y2, rfl, s1⟩ ⟨T1, u1, u2, rfl, hT, rfl, e1, e2⟩
      cases e1
      obtain ⟨fn, hfn, hat⟩ := paired_get hpall e2
      obtain ⟨f1, f2, f3, f4, f5, f6⟩ := kall fn (List.mem_of_getElem? hfn)
      have s2 : Same H2 (upd H2 T1 (.tup [.int (i : Nat), u2])) := same_upd hT
      refine ⟨T1, _, rfl, .inl (.inl upd_same), rfl, _, _, rfl, _, _, rfl, rfl, ?_⟩
      refine ⟨_, rfl, _, _, rfl, rfl, _, rfl, itn (show ¬ (6 : Int) ≤ (i : Int) by omega) ⟨_, rfl, u2, fn, rfl, hat.same (sameI_of (s1.trans s2)), f1, f2, f3, fun H3 s3 => ⟨true, rfl, iteF ⟨_, _, rfl, (s1.trans s2).trans s3⟩⟩⟩⟩
    · rintro σ H1 ⟨y1, y2, rfl, s1⟩
      refine ⟨_, rfl, _, pvs.length, rfl, .inr ⟨_, Same.tup s1 hpt, rfl⟩, _, rfl, by omega, by omega, ?_⟩
      refine for_it (walk_range (lo := 0) (n := ((pvs.length : Int)).toNat)) (fun i σ H1 => ∃ y1 y2, σ = [some (.ref pa), y1, y2] ∧ Same H H1) ⟨_, _, rfl, s1⟩ (fun _ _ _ _ _ => trivial) ?_ ?_
      · rintro i x σ H3 H2 hi ⟨z1, z2, rfl, s2⟩ ⟨rfl, rfl⟩
        have hi2 : i < fs.length := by omega
        have e0 : (0 : Int) + (i : Nat) = (i : Nat) := by omega
        refine ⟨_, rfl, _, rfl, fs, i, fs[i], .ref pa, by show [V.ref pa, V.int (0 + (i : Nat))] = _; rw [e0], hpg.same (sameI_of s2), hok, List.getElem?_eq_getElem hi2, fun H3 s3 => ⟨_, _, rfl, s2.trans s3⟩⟩
      · rintro σ H2 ⟨z1, z2, rfl, s2⟩
        exact q _ s2
end
end Cs
namespace Cs
open PySem PySem.Spec L2
section
variable {P : Program} {w : World} {K : PySem.W.Frag} {mg : Str → Option Value} {base : Heap} {A : Adr}
def spStart (K : PySem.W.Frag) : Sp := fun vs H Q _ => ∃ (a : Addr) (ns : List Int), vs = [.ref a] ∧ SqL K H a (ns.map V.int) ∧ ns.length ≤ 1000 ∧ ∀ H1 p, Same H H1 → H p = none → Dw K H H1 p → Q (.ref p) H1
theorem ok_w_start (T : Tx K w mg A) : FnOk P w K mg base CX0 1 A.f_w_start A.fd_w_start P_w_start (spStart K) := by
  refine T.F_w_start.ok sc_w_start (fun vs H Q E h => ?_) (fun cdv AA outer s H vs Q E hr h => ?_)
  · obtain ⟨a, ns, rfl, _⟩ := h
    rfl
  · obtain ⟨a, ns, rfl, ha, hn, q⟩ := h
    refine ⟨_, (pss_cons (ps_set (i := 1) sc_w_start.nd rfl (.inl rfl) pe_int)
  (pss_cons (ps_for PassesOwn.never rfl (pi_list (pv 0)) (pg_name (i := 2) sc_w_start.nd rfl (.inl rfl))
  (pss_one (ps_set (i := 1) sc_w_start.nd rfl (.inl rfl) (pe_op op_modN (pe_op op_add (pe_op op_add (pe_op op_mul (pv 1) pe_int) (pv 2)) pe_int) pe_int))))
  (pss_one (ps_ret (pe_lst (pa_cons (pv 0) (pa_cons pe_int (pa_cons (pv 1) (pa_cons pe_int pa_nil))))))))), ?_⟩
    refine ⟨_, rfl, a, rfl, ⟨_, ha⟩, for_it (walk_list (K := K) (a := a) (xs := ns.map V.int)) (fun i σ H1 => ∃ m y2, σ = [some (.ref a), some (.int m), y2] ∧ 0 ≤ m ∧ m < 2147483647 ∧ H1 = H)
      ⟨1, none, rfl, by decide, by decide, rfl⟩ (fun i σ H1 _ ⟨_, _, _, _, _, e⟩ => by rw [e]; exact ha) ?_ ?_⟩
    · rintro i x σ H2 H1 hi ⟨m, y2, rfl, m0, m1, rfl⟩ ⟨rfl, hx⟩
      rw [List.getElem?_map] at hx
      obtain ⟨n, hn2, rfl⟩ := Option.map_eq_some_iff.mp hx
      refine ⟨_, rfl, _, _, rfl, rfl, .inl ⟨by omega, by omega⟩, _, rfl, _, _, rfl, rfl, _, _, rfl, rfl, _, _, rfl, rfl, by show (2147483647 : Int) ≠ 0; decide, ?_⟩
      exact ⟨_, _, rfl, Int.fmod_nonneg_of_pos _ (by decide), Int.fmod_lt_of_pos _ (by decide), rfl⟩
    · rintro σ H2 ⟨m, y2, rfl, m0, m1, rfl⟩
      refine ⟨_, rfl, _, rfl, by show 4 ≤ sizeLine; decide, fun p hp => ?_⟩
      have s1 := same_upd (o := .lst [.ref a, .int 0, .int m, .int 0]) hp
      exact q _ p s1 hp ⟨a, ns, 0, m, 0, upd_same, ha, Int.le_refl _, m0, m1, Int.le_refl _⟩
def spDrawn (K : PySem.W.Frag) : Sp := fun vs H Q _ => ∃ (B : Hp) (st : Addr) (m : Int), vs = [.ref st, .int m] ∧ Same B H ∧ B st = none ∧ Dw K B H st ∧ 1 ≤ m ∧ m ≤ 1000000 ∧ ∀ H1 d, 0 ≤ d → d < m → SameX st H H1 → Dw K B H1 st → Q (.int d) H1
theorem ok_w_drawn (T : Tx K w mg A) : FnOk P w K mg base CX0 1 A.f_w_drawn A.fd_w_drawn P_w_drawn (spDrawn K) := by
  refine T.F_w_drawn.ok sc_w_drawn (fun vs H Q E h => ?_) (fun cdv AA outer s H vs Q E hr h => ?_)
  · obtain ⟨B, a, ns, rfl, _⟩ := h
    rfl
  · obtain ⟨B, st, m, rfl, sB, nB, ⟨sc, ns, i, mx, r, e, hB, i0, m0, m1, r0⟩, h1, h2, q⟩ := h
    have hsc : ∀ H3, SameX st H H3 → SqL K H3 sc (ns.map V.int) := fun H3 x => (SameX.same sB x nB).seq hB
    refine ⟨_, (pss_cons (ps_if (pt_cmpR op_gt (pe_ix ix_list (pv 0) pe_int (fun _ _ => rfl)) pe_int (nomark _))
  (pss_cons (ps_set (i := 2) sc_w_drawn.nd rfl (.inl rfl) (pe_op op_modN (pe_ix ix_list (pv 0) pe_int (fun _ _ => rfl)) (pv 1)))
  (pss_cons (ps_asg (pe_op op_fdivN (pe_ix ix_list (pv 0) pe_int (fun _ _ => rfl)) (pv 1)) (pg_sub (pv 0) pe_int set_list))
  (pss_one (ps_ret (pv 2)))))
  pss_nil)
  (pss_cons (ps_asg (pe_op op_add (pe_ix ix_list (pv 0) pe_int (fun _ _ => rfl)) pe_int) (pg_sub (pv 0) pe_int set_list))
  (pss_cons (ps_if (pt_cmpR op_le (pe_ix ix_list (pv 0) pe_int (fun _ _ => rfl)) (pe_callB call_len (by rfl) T.n_len (by decide +kernel) (pa_cons (pe_ix ix_list (pv 0) pe_int (fun _ _ => rfl)) pa_nil)) (nomark _))
  (pss_cons (ps_set (i := 3) sc_w_drawn.nd rfl (.inl rfl) (pe_ix ix_list (pe_ix ix_list (pv 0) pe_int (fun _ _ => rfl)) (pe_op op_sub (pe_ix ix_list (pv 0) pe_int (fun _ _ => rfl)) pe_int) (fun _ _ => rfl)))
  (pss_cons (ps_asg (pe_ifExp (pt_cmpR op_ge (pv 3) (pe_op op_pow pe_int pe_int) (nomark _)) (pe_op op_fdivN (pv 3) (pv 1)) pe_int) (pg_sub (pv 0) pe_int set_list))
  (pss_one (ps_ret (pe_op op_modN (pv 3) (pv 1))))))
  pss_nil)
  (pss_cons (ps_asg (pe_op op_modN (pe_op op_add (pe_op op_mul (pe_ix ix_list (pv 0) pe_int (fun _ _ => rfl)) pe_int) pe_int) pe_int) (pg_sub (pv 0) pe_int set_list))
  (pss_one (ps_ret (pe_op op_modN (pe_op op_fdivN (pe_ix ix_list (pv 0) pe_int (fun _ _ => rfl)) pe_int) (pv 1)))))))), ?_⟩
    have hst : ∀ {H' : Hp} {xs : List V}, H' st = some (.lst xs) → SqL K H' st xs := fun z => SqL.of z
    have hm : m ≠ 0 := by omega
    have hma : m.natAbs < 1073741824 := by omega
    refine ⟨_, rfl, _, _, _, _, rfl, rfl, SqL.of e, atI_nat (j := 3) rfl, _, _, rfl, rfl, _, rfl, ite2 (fun hp => ?_) (fun hp => ?_)⟩
    · have hr0 : 0 < r := of_decide_eq_true hp
      refine ⟨_, rfl, _, _, _, _, rfl, rfl, SqL.of e, atI_nat (j := 3) rfl, _, rfl, _, _, rfl, rfl, hm, ?_⟩
      refine ⟨_, rfl, _, _, _, _, rfl, rfl, SqL.of e, atI_nat (j := 3) rfl, _, rfl, _, _, rfl, rfl, ⟨hm, hma⟩, _, rfl, st, _, 3, 3, rfl, rfl, e, rfl, ?_⟩
      refine ⟨_, rfl, q _ _ (Int.fmod_nonneg_of_pos _ (by omega)) (Int.fmod_lt_of_pos _ (by omega)) sameX_upd ⟨sc, ns, i, mx, r.fdiv m, upd_same, hB, i0, m0, m1, Int.fdiv_nonneg r0 (by omega)⟩⟩
    · refine ⟨_, rfl, _, _, _, _, rfl, rfl, SqL.of e, atI_nat (j := 1) rfl, _, _, rfl, rfl, _, rfl, st, _, 1, 1, rfl, rfl, e, rfl, ?_⟩
      generalize hH1 : upd H st (.lst ([V.ref sc, .int i, .int mx, .int r].set 1 (.int (i + 1)))) = H1
      have e1 : H1 st = some (.lst [.ref sc, .int (i + 1), .int mx, .int r]) := by rw [← hH1]; exact upd_same
      have x1 : SameX st H H1 := by rw [← hH1]; exact sameX_upd
      have hsc1 : SqL K H1 sc (ns.map V.int) := hsc H1 x1
      refine ⟨_, rfl, _, _, _, _, rfl, rfl, SqL.of e1, atI_nat (j := 1) rfl, _, rfl, _, _, _, _, rfl, rfl, SqL.of e1, atI_nat (j := 0) rfl, _, ns.length, rfl, .inl ⟨_, hsc1, (List.length_map _).symm⟩, _, _, rfl, rfl, _, rfl, ite2 (fun hp2 => ?_) (fun hp2 => ?_)⟩
      · have hlt : i + 1 ≤ ns.length := of_decide_eq_true hp2
        obtain ⟨j, rfl⟩ := Int.eq_ofNat_of_zero_le i0
        have hj : j < ns.length := by omega
        have hget : (ns.map V.int)[j]? = some (.int ns[j]) := by rw [List.getElem?_map, List.getElem?_eq_getElem hj]; rfl
        have hat : atI (ns.map V.int) (((j : Nat) : Int) + 1 - 1) = some (.int ns[j]) := by rw [Int.add_sub_cancel]; exact atI_nat hget
        refine ⟨_, rfl, _, _, _, _, rfl, rfl, SqL.of e1, atI_nat (j := 0) rfl, _, rfl, _, _, _, _, rfl, rfl, SqL.of e1, atI_nat (j := 1) rfl, _, _, rfl, rfl, _, _, _, _, rfl, rfl, hsc1, hat, ?_⟩
        refine ⟨_, rfl, _, _, rfl, rfl, ⟨by decide, by decide, by decide⟩, _, _, rfl, rfl, _, rfl, ?_⟩
        have fin : ∀ r1 : Int, 0 ≤ r1 → Q (.int (ns[j].fmod m)) (upd H1 st (.lst [.ref sc, .int ((j : Nat) + 1), .int mx, .int r1])) := fun r1 hr1 =>
          q _ _ (Int.fmod_nonneg_of_pos _ (by omega)) (Int.fmod_lt_of_pos _ (by omega)) (x1.trans sameX_upd) ⟨sc, ns, _, mx, r1, upd_same, hB, by omega, m0, m1, hr1⟩
        refine ite2 (fun hp3 => ?_) (fun hp3 => ?_)
        · have h18 : (10 : Int) ^ 18 ≤ ns[j] := of_decide_eq_true hp3
          refine ⟨_, rfl, _, rfl, _, _, rfl, rfl, ⟨hm, hma⟩, _, rfl, st, _, 3, 3, rfl, rfl, e1, rfl, _, rfl, _, rfl, _, _, rfl, rfl, hm, ?_⟩
          exact fin _ (Int.fdiv_nonneg (by omega) (by omega))
        · refine ⟨_, rfl, st, _, 3, 3, rfl, rfl, e1, rfl, _, rfl, _, rfl, _, _, rfl, rfl, hm, ?_⟩
          exact fin _ (Int.le_refl _)
      · refine ⟨_, rfl, _, _, _, _, rfl, rfl, SqL.of e1, atI_nat (j := 2) rfl, _, _, rfl, rfl, .inl ⟨by omega, by omega⟩, _, _, rfl, rfl, _, _, rfl, rfl, by show (2147483647 : Int) ≠ 0; decide, _, rfl, st, _, 2, 2, rfl, rfl, e1, rfl, ?_⟩
        refine ⟨_, rfl, _, _, _, _, rfl, rfl, SqL.of upd_same, atI_nat (j := 2) rfl, _, _, rfl, rfl, ⟨by decide, by decide⟩, _, rfl, _, _, rfl, rfl, hm, ?_⟩
        exact q _ _ (Int.fmod_nonneg_of_pos _ (by omega)) (Int.fmod_lt_of_pos _ (by omega)) (x1.trans sameX_upd) ⟨sc, ns, _, _, r, upd_same, hB, by omega, Int.fmod_nonneg_of_pos _ (by decide), Int.fmod_lt_of_pos _ (by decide), r0⟩
end
end Cs
namespace Cs
open PySem PySem.Spec L2
section
variable {P : Program} {w : World} {K : PySem.W.Frag} {mg : Str → Option Value} {base : Heap} {A : Adr}
def spSame (K : PySem.W.Frag) (n : Nat) : Sp := fun vs H Q _ => ∃ (v1 v2 : V) (d : PyData), vs = [v1, v2] ∧ Dp K H v1 d ∧ Dp K H v2 d ∧ Sized n d ∧ ∀ H1, Same H H1 → Q (.bl true) H1
theorem step_w_same (T : Tx K w mg A) (n : Nat) (sp : Sp) (G_w_same : FnOk P w K mg base CX0 n A.f_w_same A.fd_w_same P_w_same sp) (hG : ∀ vs H Q E m, n = m + 1 → spSame K m vs H Q E → sp vs H Q E) :
    FnOk P w K mg base CX0 (n + 1) A.f_w_same A.fd_w_same P_w_same (spSame K n) := by
  refine T.F_w_same.ok sc_w_same (fun vs H Q E h => ?_) (fun cdv AA outer s H vs Q E hr h => ?_)
  · obtain ⟨a, b, d, rfl, _⟩ := h
    rfl
  · obtain ⟨v1, v2, d, rfl, h1, h2, hz, q⟩ := h
    refine ⟨_, (pss_cons (ps_if (pt_val (pe_callB call_isiT (by rfl) T.n_isinstance (by decide +kernel) (pa_cons (pv 1) (pa_cons (pe_tup (pa_cons (pe_bltn (v := .ty "tuple") (u := .type "tuple") (by rfl) T.n_tuple (by decide +kernel) rfl) (pa_cons (pe_bltn (v := .ty "list") (u := .type "list") (by rfl) T.n_list (by decide +kernel) rfl) pa_nil))) pa_nil))))
  (pss_cons (ps_if (PW.pt (pw_or (pt_not (pt_val (pe_callB call_isiT (by rfl) T.n_isinstance (by decide +kernel) (pa_cons (pv 0) (pa_cons (pe_tup (pa_cons (pe_bltn (v := .ty "tuple") (u := .type "tuple") (by rfl) T.n_tuple (by decide +kernel) rfl) (pa_cons (pe_bltn (v := .ty "list") (u := .type "list") (by rfl) T.n_list (by decide +kernel) rfl) pa_nil))) pa_nil))))) (pw_or1 (pt_cmpR op_ne (pe_callB call_isi (by rfl) T.n_isinstance (by decide +kernel) (pa_cons (pv 0) (pa_cons (pe_bltn (v := .ty "list") (u := .type "list") (by rfl) T.n_list (by decide +kernel) rfl) pa_nil))) (pe_callB call_isi (by rfl) T.n_isinstance (by decide +kernel) (pa_cons (pv 1) (pa_cons (pe_bltn (v := .ty "list") (u := .type "list") (by rfl) T.n_list (by decide +kernel) rfl) pa_nil))) (nomark _)))))
  (pss_one (ps_ret pe_bl))
  pss_nil)
  (pss_cons (ps_if (pt_cmpR op_ne (pe_callB call_len (by rfl) T.n_len (by decide +kernel) (pa_cons (pv 0) pa_nil)) (pe_callB call_len (by rfl) T.n_len (by decide +kernel) (pa_cons (pv 1) pa_nil)) (nomark _))
  (pss_one (ps_ret pe_bl))
  pss_nil)
  (pss_one (ps_ret (pe_cmpR (op_eqD hr.units) (pe_lc (own := [("_law_k", 3)]) (g := (gName 3)) (tt := (tNot (tB (tCall _ _ _ (tCons (tOp (rIx K) (tVar 0) (tVar 3)) (tCons (tOp (rIx K) (tVar 1) (tVar 3)) tNil)))))) (te := (tVar 3)) rfl sc_w_same.nd (pi_range1 (by rfl) T.n_range (pa_cons (pe_callB call_len (by rfl) T.n_len (by decide +kernel) (pa_cons (pv 1) pa_nil)) pa_nil)) (blkOk_by (N := N_w_same) (sc := defScope s_w_same) (by decide +kernel)) (fun _ _ _ _ _ => (pg_name (i := 3) sc_w_same.nd rfl (.inl rfl))) (fun _ _ _ _ _ => (pts_one (pt_not (pt_val (pe_call G_w_same hr (by rfl) T.g_w_same T.F_w_same.kp T.b_w_same .nil pass0 (pa_cons (pe_ix ix_seq (pv 0) (pv 3) (fun _ _ => rfl)) (pa_cons (pe_ix ix_seq (pv 1) (pv 3) (fun _ _ => rfl)) pa_nil))))))) (fun _ _ _ _ _ => (pv 3))) (pe_lst pa_nil) (nomark _))))))
  pss_nil)
  (pss_cons (ps_set (i := 2) sc_w_same.nd rfl (.inl rfl) (pe_and (pe_cmpR op_eq (pe_callB call_isi (by rfl) T.n_isinstance (by decide +kernel) (pa_cons (pv 0) (pa_cons (pe_bltn (v := .ty "bool") (u := .type "bool") (by rfl) T.n_bool (by decide +kernel) rfl) pa_nil))) (pe_callB call_isi (by rfl) T.n_isinstance (by decide +kernel) (pa_cons (pv 1) (pa_cons (pe_bltn (v := .ty "bool") (u := .type "bool") (by rfl) T.n_bool (by decide +kernel) rfl) pa_nil))) (nomark _)) (pe_one (pe_cmpR op_eq (pe_callB call_isi (by rfl) T.n_isinstance (by decide +kernel) (pa_cons (pv 0) (pa_cons (pe_bltn (v := .ty "int") (u := .type "int") (by rfl) T.n_int (by decide +kernel) rfl) pa_nil))) (pe_callB call_isi (by rfl) T.n_isinstance (by decide +kernel) (pa_cons (pv 1) (pa_cons (pe_bltn (v := .ty "int") (u := .type "int") (by rfl) T.n_int (by decide +kernel) rfl) pa_nil))) (nomark _)))))
  (pss_one (ps_ret (pe_and (pv 2) (pe_one (pe_cmpR op_eq (pv 0) (pv 1) (nomark _)))))))), ?_⟩
    have key : Scal d ∨ ∃ (m : Nat) (b : Bool) (a1 a2 : Addr) (xs1 xs2 : List V) (ds : List PyData), n = m + 1 ∧ v1 = .ref a1 ∧ v2 = .ref a2 ∧ Sq K b H a1 xs1 ∧ Sq K b H a2 xs2 ∧ DpAll K H xs1 ds ∧ DpAll K H xs2 ds ∧ ds.length ≤ 1000000 ∧ ∀ d ∈ ds, Sized m d := by
      cases hz with
      | sc h => exact .inl h
      | tup hl hds =>
        cases h1 with
        | tup q1 d1 =>
          cases h2 with
          | tup q2 d2 => exact .inr ⟨_, false, _, _, _, _, _, rfl, rfl, rfl, q1, q2, d1, d2, hl, hds⟩
      | lst hl hds =>
        cases h1 with
        | lst q1 d1 =>
          cases h2 with
          | lst q2 d2 => exact .inr ⟨_, true, _, _, _, _, _, rfl, rfl, rfl, q1, q2, d1, d2, hl, hds⟩
    rcases key with hs | ⟨m, b, a1, a2, xs1, xs2, ds, em, rfl, rfl, q1, q2, d1, d2, hl, hds⟩
    · have nt : ∃ (x : String) (c1 c2 : Bool), (∀ H, TyX K H v1 (.type x)) ∧ v2 = v1 ∧ scal v1 v1 = true ∧ kitB x "tuple" = some false ∧ kitB x "list" = some false ∧ kitB x "bool" = some c1 ∧ kitB x "int" = some c2 := by
        cases h1 with
        | non => cases h2; exact ⟨"NoneType", false, false, fun H => .base .non, rfl, rfl, by decide +kernel, by decide +kernel, by decide +kernel, by decide +kernel⟩
        | bl b => cases h2; exact ⟨"bool", true, true, fun H => .base (.bl b), rfl, rfl, by decide +kernel, by decide +kernel, by decide +kernel, by decide +kernel⟩
        | int b => cases h2; exact ⟨"int", false, true, fun H => .base (.int b), rfl, rfl, by decide +kernel, by decide +kernel, by decide +kernel, by decide +kernel⟩
        | str b => cases h2; exact ⟨"str", false, false, fun H => .base (.str b), rfl, rfl, by decide +kernel, by decide +kernel, by decide +kernel, by decide +kernel⟩
        | tup _ _ => exact hs.elim
        | lst _ _ => exact hs.elim
      obtain ⟨x, c1, c2, ty, rfl, fl, k1, k2, k3, k4⟩ := nt
      refine ⟨_, rfl, by show 2 ≤ sizeLine; decide, fun tp htp => ⟨_, tp, _, _, _, _, rfl, upd_same, .cons (.ty _) (.cons (.ty _) .nil), ty _, kany k1 k2, false, rfl, iteF ?_⟩⟩
      have s1 := same_upd (o := .tup [.ty "tuple", .ty "list"]) htp
      refine ⟨_, rfl, _, _, _, _, c1, rfl, .ty "bool", ty _, kv k3, _, rfl, _, _, _, _, c1, rfl, .ty "bool", ty _, kv k3, rfl, _, rfl, ?_⟩
      rw [if_pos (decide_eq_true rfl)]
      refine ⟨_, rfl, _, _, _, _, c2, rfl, .ty "int", ty _, kv k4, _, rfl, _, _, _, _, c2, rfl, .ty "int", ty _, kv k4, rfl, ?_⟩
      refine ⟨_, rfl, true, ?_, ?_⟩
      · show V.bl (decide (V.bl c2 = V.bl c2)) = _
        rw [decide_eq_true rfl]
      rw [if_pos rfl]
      refine ⟨_, rfl, _, rfl, fl, ?_⟩
      rw [decide_eq_true rfl]
      exact q _ s1
    · have l1 : xs1.length = ds.length := DpAll.length d1
      have l2 : xs2.length = ds.length := DpAll.length d2
      refine ⟨_, rfl, by show 2 ≤ sizeLine; decide, fun tp htp => ⟨_, tp, _, _, _, _, rfl, upd_same, .cons (.ty _) (.cons (.ty _) .nil), (q2.same (same_upd htp)).ty, kany (r1 := !b) (r2 := b) (by cases b <;> decide +kernel) (by cases b <;> decide +kernel), true, by cases b <;> rfl, iteT ?_⟩⟩
      have s1 := same_upd (o := .tup [.ty "tuple", .ty "list"]) htp
      refine ⟨_, rfl, by show 2 ≤ sizeLine; decide, fun tp2 htp2 => ⟨_, tp2, _, _, _, _, rfl, upd_same, .cons (.ty _) (.cons (.ty _) .nil), (q1.same (s1.trans (same_upd htp2))).ty, kany (r1 := !b) (r2 := b) (by cases b <;> decide +kernel) (by cases b <;> decide +kernel), true, by cases b <;> rfl, iteF ?_⟩⟩
      have s2 := s1.trans (same_upd (o := .tup [.ty "tuple", .ty "list"]) htp2)
      generalize upd (upd H tp (.tup [.ty "tuple", .ty "list"])) tp2 (.tup [.ty "tuple", .ty "list"]) = H2 at s2 ⊢
      have kl : kitB (seqTy b) "list" = some b := by cases b <;> decide +kernel
      refine ⟨_, rfl, _, _, _, _, b, rfl, .ty "list", (q1.same s2).ty, kv kl, _, rfl, _, _, _, _, b, rfl, .ty "list", (q2.same s2).ty, kv kl, rfl, _, rfl, itnd rfl ?_⟩
      refine ⟨_, rfl, _, _, rfl, (q1.same s2).len, _, rfl, _, _, rfl, (q2.same s2).len, rfl, _, rfl, itnd (by rw [l1, l2]) ?_⟩
      refine ⟨_, rfl, _, _, rfl, (q2.same s2).len, _, rfl, by omega, by omega, fun D hD => ?_⟩
      refine walk_by (walk_range (n := xs2.length)) (fun i H3 => Same H2 H3 ∧ H3 D = some (.lst [])) ⟨same_upd hD, upd_same⟩ (fun _ _ _ _ => True.intro) ?_ ?_
      · rintro i x H3 H4 hi ⟨s3, eD⟩ ⟨rfl, hx⟩
        have s3' := s2.trans s3
        have hi1 : i < xs1.length := by omega
        obtain ⟨e1, he1, f1⟩ := DpAll.get d1 (List.getElem?_eq_getElem hi1)
        obtain ⟨e2, he2, f2⟩ := DpAll.get d2 (List.getElem?_eq_getElem hi)
        rw [he1] at he2
        cases he2
        obtain rfl : x = .int (i : Nat) := by
          rw [hx]
          show V.int ((0 : Int) + ((i : Nat) : Int)) = _
          rw [Int.zero_add]
        refine ⟨rfl, _, rfl, _, rfl, (q1.same s3').ix (List.getElem?_eq_getElem hi1) ⟨_, rfl, _, rfl, (q2.same s3').ix (List.getElem?_eq_getElem hi) ?_⟩⟩
        refine hG _ _ _ _ m em ⟨_, _, e1, rfl, Dp.same s3' f1, Dp.same s3' f2, hds _ (List.mem_of_getElem? he1), fun H5 s5 => ⟨true, rfl, iteF ⟨s3.trans s5, s5 _ _ eD⟩⟩⟩
      · rintro H3 ⟨s3, eD⟩
        refine ⟨by show 0 ≤ sizeLine; decide, fun l2 hl2 => ⟨.list [], .list [], .lst (SqL.of (same_upd hl2 _ _ eD)) .nil, .lst (SqL.of upd_same) .nil, by decide +kernel, by decide +kernel, ?_⟩⟩
        exact q _ (s2.trans (s3.trans (same_upd hl2)))
theorem ok_w_same (T : Tx K w mg A) : ∀ n : Nat, FnOk P w K mg base CX0 (n + 1) A.f_w_same A.fd_w_same P_w_same (spSame K n)
  | 0 => step_w_same (P := P) (base := base) T 0 (fun _ _ _ _ => False) ⟨fun _ _ _ _ h => h.elim, fun _ _ _ _ _ _ _ _ _ _ _ _ _ h => h.elim⟩ fun _ _ _ _ _ e => nomatch e
  | n + 1 => step_w_same (P := P) (base := base) T (n + 1) (spSame K n) (ok_w_same T n) fun _ _ _ _ _ e h => by
    cases e
    exact h
end
end Cs
namespace Cs
open PySem PySem.Spec L2
/-! ## names in their order: a, b, c .. -/
instance okName_dec (x : Str) : Decidable (okName x) := by unfold okName sign; infer_instance
def lt (i : Nat) : Str := ⟨#[97 + i]⟩
theorem lt_ok : ∀ i < 26, okName (lt i) := by decide +kernel
theorem lt_len (i : Nat) : (lt i).length = 1 := rfl
/-- names of one sign -/
def Tr.one : Tr → Prop
  | .let_ x _ t => x.length = 1 ∧ t.one
  | .if_ _ _ _ t u => t.one ∧ u.one
  | .claim _ _ _ t => t.one
  | .tell _ => True
def Tr.ok1 (hs : Hd) (kd : Kd) (ns : Nm) (t : Tr) : Prop := t.ok hs kd ns ∧ t.one
def Fn.one (f : Fn) : Prop := (∀ p ∈ f.ps, p.1.length = 1) ∧ f.tr.one
theorem lt_inj {i j : Nat} (h : lt i = lt j) : i = j := by
  have h2 : (lt i).cps.toList = (lt j).cps.toList := by rw [h]
  simp [lt] at h2
  omega
theorem abc_at : ∀ i < 26, ("abcdefghijklmnopqrstuvwxyz" : Str).cps.toList[i]? = some (97 + i) := by decide +kernel
theorem abc3_at : ∀ i < 3, ("abc" : Str).cps.toList[i]? = some (97 + i) := by decide +kernel
/-- the i-th name is the i-th letter -/
def KnOk (ns : Nm) : Prop := ∀ (i : Nat) p, ns[i]? = some p → p.1 = lt i
theorem KnOk.look {ns : Nm} (h : KnOk ns) {x : Str} {kd : Kd} (hm : (x, kd) ∈ ns) : Cs.look ns x = some kd := by
  obtain ⟨i, hi, e⟩ := List.mem_iff_getElem.mp hm
  have e1 : ns[i]? = some (x, kd) := by rw [List.getElem?_eq_getElem hi, e]
  have x1 : x = lt i := h i _ e1
  unfold Cs.look
  have f : ns.find? (fun p => decide (p.1 = x)) = some (x, kd) := by
    rw [List.find?_eq_some_iff_getElem]
    refine ⟨decide_eq_true rfl, i, hi, e, fun j hj => ?_⟩
    have hj2 : j < ns.length := Nat.lt_trans hj hi
    have xj : (ns[j]).1 = lt j := h j _ (List.getElem?_eq_getElem hj2)
    rw [xj, x1]
    rw [decide_eq_false fun z => by have := lt_inj z; omega]
    rfl
  rw [f]
  rfl
theorem KnOk.fresh {ns : Nm} (h : KnOk ns) : Cs.look ns (lt ns.length) = none := by
  unfold Cs.look
  rw [Option.map_eq_none_iff, List.find?_eq_none]
  intro p hp
  obtain ⟨i, hi, e⟩ := List.mem_iff_getElem.mp hp
  have x1 : p.1 = lt i := h i _ (by rw [List.getElem?_eq_getElem hi, e])
  rw [decide_eq_true_iff, x1]
  intro z
  have := lt_inj z
  omega
theorem KnOk.snoc {ns : Nm} (h : KnOk ns) (kd : Kd) : KnOk (ns ++ [(lt ns.length, kd)]) := fun i p e => by
  rcases Nat.lt_or_ge i ns.length with hi | hi
  · rw [List.getElem?_append_left hi] at e
    exact h i p e
  · rw [List.getElem?_append_right hi] at e
    have e0 : i - ns.length = 0 := by
      rcases Nat.eq_zero_or_pos (i - ns.length) with h | h
      · exact h
      · rw [List.getElem?_eq_none (by show 1 ≤ _; exact h)] at e
        cases e
    rw [e0] at e
    cases e
    show lt ns.length = lt i
    rw [show i = ns.length by omega]
theorem itd_true {A B : Prop} {b : Bool} (a : A) (h : b = true := by rfl) : if b = true then A else B := by rw [if_pos h]; exact a
theorem itn_false {A B : Prop} {b : Bool} (x : B) (h : b = false := by rfl) : if b = true then A else B := by rw [if_neg (by rw [h]; exact Bool.false_ne_true)]; exact x
theorem look_snoc {ns : Nm} {x : Str} {kd : Kd} (h : look ns x = none) : look (ns ++ [(x, kd)]) x = some kd := by
  unfold look at *
  rw [Option.map_eq_none_iff] at h
  rw [List.find?_append, h]
  simp
/-- the names of a kind -/
def namesOf (ns : Nm) (kd : Kd) : List Str := (ns.filter fun p => decide (p.2 = kd)).map (·.1)
theorem namesOf_look {ns : Nm} (h : KnOk ns) {kd : Kd} {x : Str} (hm : x ∈ namesOf ns kd) : Cs.look ns x = some kd := by
  obtain ⟨p, hp, rfl⟩ := List.mem_map.mp hm
  obtain ⟨h1, h2⟩ := List.mem_filter.mp hp
  have e : p.2 = kd := of_decide_eq_true h2
  exact h.look (show (p.1, kd) ∈ ns by rw [← e]; exact h1)
theorem namesOf_len (ns : Nm) (kd : Kd) : (namesOf ns kd).length ≤ ns.length := by
  unfold namesOf
  rw [List.length_map]
  exact List.length_filter_le _ _
theorem namesOf_take {ns : Nm} {i : Nat} {p : Str × Kd} (kd : Kd) (h : ns[i]? = some p) : namesOf (ns.take (i + 1)) kd = namesOf (ns.take i) kd ++ if p.2 = kd then [p.1] else [] := by
  unfold namesOf
  rw [List.take_add_one, h]
  show List.map _ (List.filter _ (ns.take i ++ [p])) = _
  rw [List.filter_append, List.map_append]
  by_cases e : p.2 = kd
  · rw [List.filter_cons_of_pos (by exact decide_eq_true e), if_pos e]
    rfl
  · rw [List.filter_cons_of_neg (by rw [decide_eq_false e]; exact Bool.false_ne_true), if_neg e]
    rfl
section
variable {K : PySem.W.Frag} {H H1 : Hp}
/-- the list of (name, kind) -/
def KnAt (K : PySem.W.Frag) (H : Hp) (l : Addr) (ns : Nm) : Prop := ∃ qs : List Addr, H l = some (.lst (qs.map V.ref)) ∧ Paired (PrAt K H) qs ns
theorem KnAt.same {l : Addr} {ns : Nm} (s : Same H H1) : KnAt K H l ns → KnAt K H1 l ns
  | ⟨qs, h1, h2⟩ => ⟨qs, s _ _ h1, Paired.mapP h2 fun _ _ q => q.same (sameI_of s)⟩
/-- a list that isn't the drawing state stays -/
theorem Dw.seq {B : Hp} {st l : Addr} {xs : List V} (d : Dw K B H st) (s : SameX st H H1) (n : ∀ a i, V.int i ∉ xs ∨ V.ref a ∉ xs) (h : SqL K H l xs) : SqL K H1 l xs := by
  obtain ⟨sc, ns, i, mx, r, e, _⟩ := d
  have key : ∀ o, (o = .lst xs ∨ ∃ u, o = .frz u (.lst xs)) → H l = some o → H1 l = some o := fun o ho hl => by
    refine s l o (fun z => ?_) hl
    rw [z, e] at hl
    cases hl
    rcases ho with ho | ⟨u, ho⟩
    · injection ho with ho
      rcases n sc i with n | n
      · exact n (by rw [← ho]; simp)
      · exact n (by rw [← ho]; simp)
    · cases ho
  rcases h with (h | ⟨o, h⟩) | h
  · exact .inl (.inl (key _ (.inl rfl) h))
  · exact .inl (.inr ⟨o, key _ (.inr ⟨o, rfl⟩) h⟩)
  · exact .inr h
theorem refs_no (qs : List Addr) (a : Addr) (i : Int) : V.int i ∉ qs.map V.ref ∨ V.ref a ∉ qs.map V.ref := .inl fun h => by
  obtain ⟨_, _, e⟩ := List.mem_map.mp h
  cases e
theorem KnAt.step {B : Hp} {st l : Addr} {ns : Nm} (d : Dw K B H st) (s : SameX st H H1) : KnAt K H l ns → KnAt K H1 l ns
  | ⟨qs, h1, h2⟩ => ⟨qs, s _ _ (fun z => by
      obtain ⟨sc, ns', i, mx, r, e, _⟩ := d
      rw [z, e] at h1
      have h3 : [V.ref sc, .int i, .int mx, .int r] = qs.map V.ref := by injection (Option.some.inj h1)
      rcases refs_no qs sc i with h | h
      · exact h (by rw [← h3]; simp)
      · exact h (by rw [← h3]; simp)) h1, Paired.mapP h2 fun _ _ q => q.same (d.i s)⟩
end
end Cs
namespace Cs
open PySem PySem.Spec L2
/-! ## programs that can be, by a check -/
def Dd.chk (hs : Hd) (ns : Nm) : Dd → Option Kd
  | .num n => if near n then some .num else none
  | .sum x n => if look ns x = some .num ∧ near n then some .num else none
  | .len l => if look ns l = some .lst then some .num else none
  | .nil => some .lst
  | .put x l => if look ns x = some .num ∧ look ns l = some .lst then some .lst else none
  | .head l => if look ns l = some .lst then some .num else none
  | .tail l => if look ns l = some .lst then some .lst else none
  | .at_ l x => if look ns l = some .lst ∧ look ns x = some .num then some .num else none
  | .ask => some .num
  | .call f xs => if 1 ≤ f then (match hs[f]? with
    | some h => if xs.map (look ns) = h.1.map some then some h.2 else none
    | none => none) else none
theorem paired_of_map {ns : Nm} : ∀ {xs : List Str} {ks : List Kd}, xs.map (look ns) = ks.map some → Paired (fun x kd => look ns x = some kd) xs ks
  | [], [], _ => .nil
  | [], _ :: _, e => by cases e
  | _ :: _, [], e => by cases e
  | x :: xs, k :: ks, e => by
    rw [List.map_cons, List.map_cons] at e
    injection e with e1 e2
    exact .cons e1 (paired_of_map e2)
theorem ite_some {c : Prop} [Decidable c] {a k : Kd} (h : (if c then some a else none) = some k) : c ∧ a = k := by
  by_cases g : c
  · rw [if_pos g] at h
    cases h
    exact ⟨g, rfl⟩
  · rw [if_neg g] at h
    cases h
theorem Dd.chk_ok {hs : Hd} {ns : Nm} {d : Dd} {k : Kd} (h : d.chk hs ns = some k) : d.ok hs ns k := by
  cases d with
  | num n => obtain ⟨g, e⟩ := ite_some (c := near n) (a := .num) h; exact ⟨g, e.symm⟩
  | sum x n => obtain ⟨g, e⟩ := ite_some (c := look ns x = some .num ∧ near n) (a := .num) h; exact ⟨g.1, g.2, e.symm⟩
  | len l => obtain ⟨g, e⟩ := ite_some (c := look ns l = some .lst) (a := .num) h; exact ⟨g, e.symm⟩
  | nil => exact (Option.some.inj h).symm
  | put x l => obtain ⟨g, e⟩ := ite_some (c := look ns x = some .num ∧ look ns l = some .lst) (a := .lst) h; exact ⟨g.1, g.2, e.symm⟩
  | head l => obtain ⟨g, e⟩ := ite_some (c := look ns l = some .lst) (a := .num) h; exact ⟨g, e.symm⟩
  | tail l => obtain ⟨g, e⟩ := ite_some (c := look ns l = some .lst) (a := .lst) h; exact ⟨g, e.symm⟩
  | at_ l x => obtain ⟨g, e⟩ := ite_some (c := look ns l = some .lst ∧ look ns x = some .num) (a := .num) h; exact ⟨g.1, g.2, e.symm⟩
  | ask => exact (Option.some.inj h).symm
  | call f xs =>
    change (if 1 ≤ f then (match hs[f]? with
      | some h => if xs.map (look ns) = h.1.map some then some h.2 else none
      | none => none) else none) = some k at h
    by_cases g : 1 ≤ f
    · rw [if_pos g] at h
      cases eh : hs[f]? with
      | none => rw [eh] at h; cases h
      | some hh =>
        rw [eh] at h
        obtain ⟨e, e2⟩ := ite_some (c := xs.map (look ns) = hh.1.map some) (a := hh.2) h
        exact ⟨g, hh, eh, paired_of_map e, e2.symm⟩
    · rw [if_neg g] at h
      cases h
def Ms.chk (ns : Nm) : Ms → Bool
  | .zero => true
  | .of x => decide (look ns x = some .num)
  | .len x => decide (look ns x = some .lst)
theorem Ms.chk_ok {ns : Nm} {m : Ms} (h : m.chk ns = true) : m.ok ns := by
  cases m with
  | zero => exact True.intro
  | of x => exact of_decide_eq_true (p := look ns x = some .num) h
  | len x => exact of_decide_eq_true (p := look ns x = some .lst) h
def Tr.chk (hs : Hd) (k : Kd) : Nm → Tr → Bool
  | ns, .let_ x d t => decide (okName x) && decide (look ns x = none) && (match d.chk hs ns with
    | some kd => Tr.chk hs k (ns ++ [(x, kd)]) t
    | none => false)
  | ns, .if_ a b n t u => a.chk ns && b.chk ns && decide (near n) && Tr.chk hs k ns t && Tr.chk hs k ns u
  | ns, .claim a b n t => a.chk ns && b.chk ns && decide (near n) && Tr.chk hs k ns t
  | ns, .tell x => decide (look ns x = some k)
theorem Tr.chk_ok {hs : Hd} {k : Kd} : ∀ {t : Tr} {ns : Nm}, Tr.chk hs k ns t = true → t.ok hs k ns
  | .let_ x d t, ns, h => by
    unfold Tr.chk at h
    rw [Bool.and_eq_true, Bool.and_eq_true] at h
    obtain ⟨⟨h1, h2⟩, h3⟩ := h
    split at h3
    · rename_i kd e
      exact ⟨of_decide_eq_true h1, of_decide_eq_true h2, kd, Dd.chk_ok e, Tr.chk_ok h3⟩
    · cases h3
  | .if_ a b n t u, ns, h => by
    unfold Tr.chk at h
    rw [Bool.and_eq_true, Bool.and_eq_true, Bool.and_eq_true, Bool.and_eq_true] at h
    obtain ⟨⟨⟨⟨h1, h2⟩, h3⟩, h4⟩, h5⟩ := h
    exact ⟨Ms.chk_ok h1, Ms.chk_ok h2, of_decide_eq_true h3, Tr.chk_ok h4, Tr.chk_ok h5⟩
  | .claim a b n t, ns, h => by
    unfold Tr.chk at h
    rw [Bool.and_eq_true, Bool.and_eq_true, Bool.and_eq_true] at h
    obtain ⟨⟨⟨h1, h2⟩, h3⟩, h4⟩ := h
    exact ⟨Ms.chk_ok h1, Ms.chk_ok h2, of_decide_eq_true h3, Tr.chk_ok h4⟩
  | .tell x, ns, h => of_decide_eq_true (p := look ns x = some k) h
def Fn.chk (hs : Hd) (f : Fn) : Bool := decide (f.ps.length ≤ 4) && decide (∀ p ∈ f.ps, okName p.1) && decide ((f.ps.map (·.1)).Nodup) && f.tr.chk hs f.kd f.ps && decide (f.tr.size ≤ 60) && decide (f.tr.deep ≤ 20)
theorem Fn.chk_ok {hs : Hd} {f : Fn} (h : f.chk hs = true) : f.ok hs := by
  unfold Fn.chk at h
  simp only [Bool.and_eq_true, decide_eq_true_eq] at h
  obtain ⟨⟨⟨⟨⟨h1, h2⟩, h3⟩, h4⟩, h5⟩, h6⟩ := h
  exact ⟨h1, h2, h3, Tr.chk_ok h4, h5, h6⟩
def chkPg (fs : List Fn) : Bool := decide (1 ≤ fs.length) && decide (fs.length ≤ 6) && fs.all fun f => f.chk (fs.map Fn.hd)
theorem chkPg_ok {fs : List Fn} (h : chkPg fs = true) : okPg fs := by
  unfold chkPg at h
  simp only [Bool.and_eq_true, decide_eq_true_eq, List.all_eq_true] at h
  exact ⟨h.1.1, h.1.2, fun f hf => Fn.chk_ok (h.2 f hf)⟩
/-! ## the four loops -/
def tDown : Tr := .if_ (.of "n") .zero 0 (.let_ "e" .nil (.tell "e")) (.let_ "a" (.sum "n" (-1)) (.let_ "b" (.call 1 ["a"]) (.let_ "c" (.put "n" "b") (.tell "c"))))
def pRange : List Fn := [⟨[("n", .num)], .lst, .let_ "x" (.call 1 ["n"]) (.tell "x")⟩, ⟨[("n", .num)], .lst, tDown⟩]
def tGo (m : Int) : Tr := .if_ (.len "l") (.of "i") m (.let_ "z" (.num 0) (.tell "z")) (.let_ "x" (.at_ "l" "i") (.let_ "j" (.sum "i" 1) (.let_ "y" (.call 1 ["l", "j"]) (.tell "y"))))
def tBegun (n : Int) : Tr := .let_ "i" (.num n) (.let_ "x" (.call 1 ["l", "i"]) (.tell "x"))
def pOver (n m : Int) : List Fn := [⟨[("l", .lst)], .num, tBegun n⟩, ⟨[("l", .lst), ("i", .num)], .num, tGo m⟩]
def tCopy (n m : Int) : Tr := .if_ (.len "l") .zero m (.let_ "e" .nil (.tell "e")) (.let_ "h" (.head "l") (.let_ "t" (.tail "l") (.let_ "r" (.call 1 ["t"]) (.let_ "s" (.sum "h" n) (.let_ "o" (.put "s" "r") (.tell "o"))))))
def pCopies (n m : Int) : List Fn := [⟨[("l", .lst)], .lst, .let_ "r" (.call 1 ["l"]) (.claim (.len "r") (.len "l") 0 (.tell "r"))⟩, ⟨[("l", .lst)], .lst, tCopy n m⟩]
def tLeast (m : Int) : Tr := .if_ (.len "l") .zero 1 (.let_ "h" (.head "l") (.tell "h")) (.let_ "h" (.head "l") (.let_ "t" (.tail "l") (.let_ "r" (.call 1 ["t"]) (.if_ (.of "h") (.of "r") m (.tell "h") (.tell "r")))))
def pLeasts (m : Int) : List Fn := [⟨[("l", .lst)], .num, .if_ (.len "l") .zero 0 (.let_ "z" (.num 0) (.tell "z")) (.let_ "x" (.call 1 ["l"]) (.tell "x"))⟩, ⟨[("l", .lst)], .num, tLeast m⟩]
theorem pRange_ok : okPg pRange := chkPg_ok (by decide +kernel)
theorem three {P : Int → Prop} {n : Int} (a b : Int) (h0 : a ≤ n) (h1 : n < a + 3) (p0 : P a) (p1 : P (a + 1)) (p2 : P (a + 2)) : P n := by
  by_cases e : n = a
  · rw [e]; exact p0
  · by_cases e2 : n = a + 1
    · rw [e2]; exact p1
    · rw [show n = a + 2 by omega]; exact p2
theorem pOver_ok {n m : Int} (n0 : 0 ≤ n) (n3 : n < 0 + 3) (m0 : -1 ≤ m) (m3 : m < -1 + 3) : okPg (pOver n m) := by
  refine three (P := fun n => okPg (pOver n m)) 0 0 n0 n3 ?_ ?_ ?_ <;> refine three (P := fun m => okPg (pOver _ m)) (-1) 0 m0 m3 ?_ ?_ ?_ <;> exact chkPg_ok (by decide +kernel)
theorem pCopies_ok {n m : Int} (n0 : 0 ≤ n) (n3 : n < 0 + 3) (m0 : -1 ≤ m) (m3 : m < -1 + 3) : okPg (pCopies n m) := by
  refine three (P := fun n => okPg (pCopies n m)) 0 0 n0 n3 ?_ ?_ ?_ <;> refine three (P := fun m => okPg (pCopies _ m)) (-1) 0 m0 m3 ?_ ?_ ?_ <;> exact chkPg_ok (by decide +kernel)
theorem pLeasts_ok {m : Int} (m0 : -1 ≤ m) (m3 : m < -1 + 3) : okPg (pLeasts m) := by
  refine three (P := fun m => okPg (pLeasts m)) (-1) 0 m0 m3 ?_ ?_ ?_ <;> exact chkPg_ok (by decide +kernel)
end Cs
namespace Cs
open PySem PySem.Spec L2
section
variable {P : Program} {w : World} {K : PySem.W.Frag} {mg : Str → Option Value} {base : Heap} {A : Adr}
def spOf (K : PySem.W.Frag) : Sp := fun vs H Q _ => ∃ (l : Addr) (kd : Kd) (ns : Nm), vs = [.ref l, kd.v] ∧ KnAt K H l ns ∧ ns.length ≤ 1000 ∧ ∀ H1 p, Same H H1 → H p = none → H1 p = some (.lst ((namesOf ns kd).map V.str)) → Q (.ref p) H1
theorem ok_w_of (T : Tx K w mg A) : FnOk P w K mg base CX0 1 A.f_w_of A.fd_w_of P_w_of (spOf K) := by
  refine T.F_w_of.ok sc_w_of (fun vs H Q E h => ?_) (fun cdv AA outer s H vs Q E hr h => ?_)
  · obtain ⟨l, kd, ns, rfl, _⟩ := h
    rfl
  · obtain ⟨l, kd, ns, rfl, ⟨qs, hl, hq⟩, hn, q⟩ := h
    refine ⟨_, (pss_one (ps_ret (pe_lc (own := [("_law_name", 2), ("_law_sort", 3)]) (g := (gTup K 2 (gCons (gName 2) (gCons (gName 3) gNil)))) (tt := _) (te := (tVar 2)) rfl sc_w_of.nd (pi_list (pv 0)) (blkOk_by (N := N_w_of) (sc := defScope s_w_of) (by decide +kernel)) (fun _ _ _ _ _ => (pg_tup (by rfl) (pgs_cons (pg_name (i := 2) sc_w_of.nd rfl (.inl rfl)) (pgs_cons (pg_name (i := 3) sc_w_of.nd rfl (.inl rfl)) pgs_nil)))) (fun _ _ _ _ _ => (pts_one (pt_cmpR op_eq (pv 3) (pv 1) (nomark _)))) (fun _ _ _ _ _ => (pv 2))))), ?_⟩
    have lq : qs.length = ns.length := Paired.length hq
    have hl := SqL.of (K := K) hl
    refine ⟨_, rfl, l, rfl, ⟨_, hl⟩, fun D hD => ?_⟩
    refine walk_by (walk_list (K := K) (a := l) (xs := qs.map V.ref)) (fun i H1 => Same H H1 ∧ H1 D = some (.lst ((namesOf (ns.take i) kd).map V.str))) ⟨same_upd hD, upd_same⟩ (fun _ _ _ h => h.1.seq hl) ?_ ?_
    · rintro i x H1 H2 hi ⟨s1, e1⟩ ⟨rfl, hx⟩
      rw [List.getElem?_map] at hx
      obtain ⟨t, ht, rfl⟩ := Option.map_eq_some_iff.mp hx
      obtain ⟨p, hp, hat⟩ := paired_get hq ht
      have hlen : (namesOf (ns.take i) kd).length ≤ 1000 := by
        have h1 := namesOf_len (ns.take i) kd
        rw [List.length_take] at h1
        omega
      refine ⟨t, _, rfl, Same.tup s1 hat, rfl, _, _, rfl, _, _, rfl, rfl, rfl, _, rfl, _, rfl, rfl, _, rfl, ?_⟩
      by_cases e : p.2 = kd
      · refine itd (by rw [e]) ⟨_, rfl, _, e1, smaller (by rw [List.length_map]; omega), Same.old s1 hD, ?_⟩
        rw [upd_same, namesOf_take kd hp, if_pos e, List.map_append]
        rfl
      · refine itn (fun z => e (Kd.v_inj (V.str.inj z))) ⟨s1, ?_⟩
        rw [namesOf_take kd hp, if_neg e, List.append_nil]
        exact e1
    · rintro H1 ⟨s1, e1⟩
      rw [List.length_map, lq, List.take_length] at e1
      exact q _ D s1 hD e1
def spMeas (K : PySem.W.Frag) : Sp := fun vs H Q _ => ∃ (B : Hp) (st l : Addr) (ns : Nm), vs = [.ref st, .ref l] ∧ Same B H ∧ B st = none ∧ Dw K B H st ∧ KnAt K H l ns ∧ KnOk ns ∧ ns.length ≤ 1000 ∧
  ∀ H1 mv m, SameX st H H1 → Dw K B H1 st → Im K H1 mv (Ms.d m) → m.ok ns → Q mv H1
theorem ok_w_measure (T : Tx K w mg A) : FnOk P w K mg base CX0 2 A.f_w_measure A.fd_w_measure P_w_measure (spMeas K) := by
  have G_w_of := ok_w_of (P := P) (base := base) T
  have G_w_drawn := ok_w_drawn (P := P) (base := base) T
  refine T.F_w_measure.ok sc_w_measure (fun vs H Q E h => ?_) (fun cdv AA outer s H vs Q E hr h => ?_)
  · obtain ⟨B, st, l, ns, rfl, _⟩ := h
    rfl
  · obtain ⟨B, st, l, ns, rfl, sB, nB, dw, hkn, hok, hlen, q⟩ := h
    refine ⟨_, (pss_cons (ps_set (i := 2) sc_w_measure.nd rfl (.inl rfl) (pe_op op_cat (pe_lst (pa_cons (pe_tup pa_nil) pa_nil)) (pe_lc (own := [("_law_name", 3)]) (g := (gName 3)) (tt := tYes) (te := _) rfl sc_w_measure.nd (pi_list (pe_call G_w_of (hr.mono (by decide)) (by rfl) T.g_w_of T.F_w_of.kp T.b_w_of .nil pass0 (pa_cons (pv 1) (pa_cons pe_str pa_nil)))) (blkOk_by (N := N_w_measure) (sc := defScope s_w_measure) (by decide +kernel)) (fun _ _ _ _ _ => (pg_name (i := 3) sc_w_measure.nd rfl (.inl rfl))) (fun _ _ _ _ _ => pts_nil) (fun _ _ _ _ _ => (pe_tup (pa_cons pe_str (pa_cons (pv 3) pa_nil)))))))
  (pss_cons (ps_set (i := 2) sc_w_measure.nd rfl (.inl rfl) (pe_op op_cat (pv 2) (pe_lc (own := [("_law_name", 3)]) (g := (gName 3)) (tt := tYes) (te := _) rfl sc_w_measure.nd (pi_list (pe_call G_w_of (hr.mono (by decide)) (by rfl) T.g_w_of T.F_w_of.kp T.b_w_of .nil pass0 (pa_cons (pv 1) (pa_cons pe_str pa_nil)))) (blkOk_by (N := N_w_measure) (sc := defScope s_w_measure) (by decide +kernel)) (fun _ _ _ _ _ => (pg_name (i := 3) sc_w_measure.nd rfl (.inl rfl))) (fun _ _ _ _ _ => pts_nil) (fun _ _ _ _ _ => (pe_tup (pa_cons pe_str (pa_cons (pv 3) pa_nil)))))))
  (pss_one (ps_ret (pe_ix ix_list (pv 2) (pe_call G_w_drawn (hr.mono (by decide)) (by rfl) T.g_w_drawn T.F_w_drawn.kp T.b_w_drawn .nil pass0 (pa_cons (pv 0) (pa_cons (pe_callB call_len (by rfl) T.n_len (by decide +kernel) (pa_cons (pv 2) pa_nil)) pa_nil))) (fun _ _ => rfl)))))), ?_⟩
    refine ⟨by show 0 ≤ sizeLine; decide, fun z hz => ⟨by show 1 ≤ sizeLine; decide, fun l0 hl0 => ?_⟩⟩
    have s1 := (same_upd (o := .tup []) hz).trans (same_upd (o := .lst [.ref z]) hl0)
    have ez : upd (upd H z (.tup [])) l0 (.lst [.ref z]) z = some (.tup []) := same_upd hl0 _ _ upd_same
    have e0 : upd (upd H z (.tup [])) l0 (.lst [.ref z]) l0 = some (.lst [.ref z]) := upd_same
    generalize upd (upd H z (.tup [])) l0 (.lst [.ref z]) = H1 at s1 ez e0 ⊢
    refine ⟨_, rfl, l, .num, ns, rfl, hkn.same s1, hlen, fun H2 p2 s2 n2 e2 => ⟨p2, rfl, ⟨_, SqL.of e2⟩, fun D hD => ?_⟩⟩
    have ln1 := namesOf_len ns .num
    have ln2 := namesOf_len ns .lst
    refine lc_data (walk_list (K := K) (a := p2) (xs := (namesOf ns .num).map V.str)) (fun _ y H => ∃ m : Ms, m.ok ns ∧ Im K H y m.d) (fun _ _ _ _ si ⟨m, h1, h2⟩ => ⟨m, h1, h2.same si⟩) hD (fun H1 s1 => SqL.of (s1 _ _ e2)) (by rw [List.length_map]; omega) ?_ ?_
    · rintro i x H3 H4 k hi s3 ⟨rfl, hx⟩ hk
      rw [List.getElem?_map] at hx
      obtain ⟨nme, hnm, rfl⟩ := Option.map_eq_some_iff.mp hx
      refine ⟨rfl, _, rfl, by show 2 ≤ sizeLine; decide, fun t ht => hk _ _ (same_upd ht) ⟨.of nme, namesOf_look hok (List.mem_of_getElem? hnm), .tup (.inl (.inl upd_same)) (.cons (.str _) (.cons (.str _) .nil))⟩⟩
    · rintro H3 acc s3 e3 l3 hE3
      have s13 := s2.trans s3
      refine ⟨l0, D, _, _, rfl, rfl, s13 _ _ e0, e3, small (by rw [l3, List.length_map]; show 1 + _ ≤ _; omega), fun p3 hp3 => ?_⟩
      have s4 := same_upd (o := .lst ([.ref z] ++ acc)) hp3
      have e4 : upd H3 p3 (.lst ([.ref z] ++ acc)) p3 = some (.lst ([.ref z] ++ acc)) := upd_same
      generalize upd H3 p3 (.lst ([.ref z] ++ acc)) = H4 at s4 e4 ⊢
      have s14 := s1.trans (s13.trans s4)
      refine ⟨_, rfl, _, rfl, l, .lst, ns, rfl, hkn.same s14, hlen, fun H5 p5 s5 n5 e5 => ⟨p5, rfl, ⟨_, SqL.of e5⟩, fun D2 hD2 => ?_⟩⟩
      refine lc_data (walk_list (K := K) (a := p5) (xs := (namesOf ns .lst).map V.str)) (fun _ y H => ∃ m : Ms, m.ok ns ∧ Im K H y m.d) (fun _ _ _ _ si ⟨m, h1, h2⟩ => ⟨m, h1, h2.same si⟩) hD2 (fun H1 s1 => SqL.of (s1 _ _ e5)) (by rw [List.length_map]; omega) ?_ ?_
      · rintro i x H6 H7 k hi s6 ⟨rfl, hx⟩ hk
        rw [List.getElem?_map] at hx
        obtain ⟨nme, hnm, rfl⟩ := Option.map_eq_some_iff.mp hx
        refine ⟨rfl, _, rfl, by show 2 ≤ sizeLine; decide, fun t ht => hk _ _ (same_upd ht) ⟨.len nme, namesOf_look hok (List.mem_of_getElem? hnm), .tup (.inl (.inl upd_same)) (.cons (.str _) (.cons (.str _) .nil))⟩⟩
      · rintro H6 acc2 s6 e6 l6 hE6
        have s46 := s5.trans s6
        rw [List.length_map] at l3 l6
        refine ⟨p3, D2, _, _, rfl, rfl, s46 _ _ e4, e6, small (by rw [List.length_append, l3, l6]; show 1 + _ + _ ≤ _; omega), fun p7 hp7 => ?_⟩
        have s7 := same_upd (o := .lst (([.ref z] ++ acc) ++ acc2)) hp7
        have e7 : upd H6 p7 (.lst (([.ref z] ++ acc) ++ acc2)) p7 = some (.lst (([.ref z] ++ acc) ++ acc2)) := upd_same
        generalize upd H6 p7 (.lst (([.ref z] ++ acc) ++ acc2)) = H7 at s7 e7 ⊢
        have s17 := s14.trans (s46.trans s7)
        have all : ∀ y ∈ ([V.ref z] ++ acc) ++ acc2, ∃ m : Ms, m.ok ns ∧ Im K H7 y m.d := by
          intro y hy
          rcases List.mem_append.mp hy with h | h
          · rcases List.mem_append.mp h with h | h
            · rw [List.mem_singleton.mp h]
              exact ⟨.zero, True.intro, .tup (.inl (.inl ((s13.trans (s4.trans (s46.trans s7))) _ _ ez))) .nil⟩
            · obtain ⟨i, hi, e⟩ := List.mem_iff_getElem.mp h
              obtain ⟨m, h1, h2⟩ := hE3 i y (by rw [List.getElem?_eq_getElem hi, e])
              exact ⟨m, h1, h2.same (sameI_of (s4.trans (s46.trans s7)))⟩
          · obtain ⟨i, hi, e⟩ := List.mem_iff_getElem.mp h
            obtain ⟨m, h1, h2⟩ := hE6 i y (by rw [List.getElem?_eq_getElem hi, e])
            exact ⟨m, h1, h2.same (sameI_of s7)⟩
        have dw7 := dw.step s17
        have lall : (([V.ref z] ++ acc) ++ acc2).length = 1 + acc.length + acc2.length := by rw [List.length_append, List.length_append]; rfl
        generalize ([V.ref z] ++ acc) ++ acc2 = xs at e7 all lall ⊢
        refine ⟨_, rfl, _, rfl, _, rfl, _, xs.length, rfl, .inl ⟨_, SqL.of e7, rfl⟩, B, st, _, rfl, sB.trans s17, nB, dw7, by omega, by omega, fun H8 d d0 d1 x8 dw8 => ?_⟩
        have ne : p7 ≠ st := (dw.step (s14.trans s46)).ne hp7
        obtain ⟨j, rfl⟩ := Int.eq_ofNat_of_zero_le d0
        have hj : j < xs.length := by omega
        obtain ⟨m, m1, m2⟩ := all _ (List.getElem_mem hj)
        exact ⟨p7, xs, _, _, rfl, rfl, SqL.of (x8 _ _ ne e7), atI_nat (List.getElem?_eq_getElem hj), q _ _ m ((sameX_of s17).trans x8) dw8 (m2.same (dw7.i x8)) m1⟩
end
end Cs
namespace Cs
open PySem PySem.Spec L2
section
variable {P : Program} {w : World} {K : PySem.W.Frag} {mg : Str → Option Value} {base : Heap} {A : Adr}
/-- a deed with the kind that it tells -/
def DeedIt (K : PySem.W.Frag) (hs : Hd) (ns : Nm) (H : Hp) (y : V) : Prop := ∃ (dd : Dd) (kd : Kd) (t1 t2 : Addr) (xs : List V) (ds : List PyData), y = .ref t2 ∧ SqT K H t2 [.ref t1, kd.v] ∧ SqT K H t1 xs ∧ ImAll K H xs ds ∧ dd.d = .tuple ds ∧ dd.ok hs ns kd
theorem DeedIt.same {hs : Hd} {ns : Nm} {H H1 : Hp} {y : V} (s : SameI H H1) : DeedIt K hs ns H y → DeedIt K hs ns H1 y
  | ⟨dd, kd, t1, t2, xs, ds, e, h1, h2, h3, h4, h5⟩ => ⟨dd, kd, t1, t2, xs, ds, e, s.tup h1, s.tup h2, h3.same s, h4, h5⟩
theorem DeedIt.mk {hs : Hd} {ns : Nm} {H H1 : Hp} {t1 t2 : Addr} {xs : List V} {ds : List PyData} (dd : Dd) (kd : Kd) (s : Same H H1) (e1 : H t1 = some (.tup xs)) (e2 : H1 t2 = some (.tup [.ref t1, kd.v])) (h3 : ImAll K H xs ds) (h4 : dd.d = .tuple ds) (h5 : dd.ok hs ns kd) : DeedIt K hs ns H1 (.ref t2) :=
  ⟨dd, kd, t1, t2, xs, ds, rfl, .inl (.inl e2), .inl (.inl (s _ _ e1)), h3.same (sameI_of s), h4, h5⟩
/-- the head of a function as the law keeps it -/
def HdAt (K : PySem.W.Frag) (H : Hp) (v : V) (h : Nm × Kd) : Prop := ∃ (a p : Addr) (qs : List Addr), v = .ref a ∧ SqT K H a [.ref p, h.2.v] ∧ PlT H p (qs.map V.ref) ∧ Paired (PrAt K H) qs h.1
theorem HdAt.same {H H1 : Hp} {v : V} {h : Nm × Kd} (s : SameI H H1) : HdAt K H v h → HdAt K H1 v h
  | ⟨a, p, qs, e, h1, h2, h3⟩ => ⟨a, p, qs, e, s.tup h1, s.pl h2, Paired.mapP h3 fun _ _ q => q.same s⟩
abbrev hdsOf (hs : List (Nm × Kd)) : Hd := hs.map fun h => (h.1.map (·.2), h.2)
def HdsAt (K : PySem.W.Frag) (H : Hp) (l : Addr) (hs : List (Nm × Kd)) : Prop := ∃ vs, SqL K H l vs ∧ Paired (HdAt K H) vs hs
theorem HdsAt.same {H H1 : Hp} {l : Addr} {hs : List (Nm × Kd)} (s : Same H H1) : HdsAt K H l hs → HdsAt K H1 l hs
  | ⟨vs, h1, h2⟩ => ⟨vs, s.seq h1, Paired.mapP h2 fun _ _ q => q.same (sameI_of s)⟩
theorem hd_no {H : Hp} : ∀ {vs : List V} {hs : List (Nm × Kd)}, Paired (HdAt K H) vs hs → ∀ i : Int, V.int i ∉ vs
  | _, _, .nil, _, h => by cases h
  | _, _, .cons ⟨a, _, _, e, _⟩ t, i, h => by
    rcases List.mem_cons.mp h with h | h
    · rw [e] at h
      cases h
    · exact hd_no t i h
theorem HdsAt.step {B H H1 : Hp} {st l : Addr} {hs : List (Nm × Kd)} (d : Dw K B H st) (s : SameX st H H1) : HdsAt K H l hs → HdsAt K H1 l hs
  | ⟨vs, h1, h2⟩ => ⟨vs, d.seq s (fun _ i => .inl (hd_no h2 i)) h1, Paired.mapP h2 fun _ _ q => q.same (d.i s)⟩
theorem cut_str (l : List Str) (lo hi : Option Int) : ∃ m : List Str, cutV (l.map V.str) lo hi = m.map V.str ∧ (∀ x ∈ m, x ∈ l) ∧ m.length ≤ l.length := by
  refine ⟨(l.drop (HT.sIx (l.map V.str).length 0 lo)).take (HT.sIx (l.map V.str).length (l.map V.str).length hi - HT.sIx (l.map V.str).length 0 lo), ?_, fun x hx => List.mem_of_mem_drop (List.mem_of_mem_take hx), ?_⟩
  · unfold cutV
    rw [← List.map_drop, ← List.map_take]
  · rw [List.length_take, List.length_drop]
    omega
theorem cut_one (xs : List V) : (cutV xs none (some 1)).length ≤ 1 := by
  unfold cutV
  rw [show HT.sIx xs.length xs.length (some 1) = min 1 xs.length from HT.sIx_nat _ _ 1, List.length_take]
  omega
def spDeedW (K : PySem.W.Frag) : Sp := fun vs H Q _ => ∃ (B : Hp) (st hl l : Addr) (hs : List (Nm × Kd)) (ns : Nm), vs = [.ref st, .ref hl, .ref l] ∧ Same B H ∧ B st = none ∧ Dw K B H st ∧ HdsAt K H hl hs ∧ hs.length ≤ 10 ∧ (∀ h ∈ hs, h.1.length ≤ 10) ∧ KnAt K H l ns ∧ KnOk ns ∧ ns.length ≤ 26 ∧
  ∀ H1 y, SameX st H H1 → Dw K B H1 st → DeedIt K (hdsOf hs) ns H1 y → Q y H1
set_option maxHeartbeats 8000000 in
theorem ok_w_deed (T : Tx K w mg A) : FnOk P w K mg base CX0 2 A.f_w_deed A.fd_w_deed P_w_deed (spDeedW K) := by
  have G_w_of := ok_w_of (P := P) (base := base) T
  have G_w_drawn := ok_w_drawn (P := P) (base := base) T
  refine T.F_w_deed.ok sc_w_deed (fun vs H Q E h => ?_) (fun cdv AA outer s H vs Q E hr h => ?_)
  · obtain ⟨B, st, hl, l, hs, ns, rfl, _⟩ := h
    rfl
  · obtain ⟨B, st, hl, l, hs, ns, rfl, sB, nB, dw, hhs, lhs, lpar, hkn, hok, hlen, q⟩ := h
    refine ⟨_, (pss_cons (ps_par (i := 3) (j := 4) (by rfl) sc_w_deed.nd rfl rfl (by decide) rfl rfl (pa_cons (pe_call G_w_of (hr.mono (by decide)) (by rfl) T.g_w_of T.F_w_of.kp T.b_w_of .nil pass0 (pa_cons (pv 2) (pa_cons pe_str pa_nil))) (pa_cons (pe_call G_w_of (hr.mono (by decide)) (by rfl) T.g_w_of T.F_w_of.kp T.b_w_of .nil pass0 (pa_cons (pv 2) (pa_cons pe_str pa_nil))) pa_nil)) (by rfl))
  (pss_cons (ps_set (i := 5) sc_w_deed.nd rfl (.inl rfl) (pe_op op_sub (pe_call G_w_drawn (hr.mono (by decide)) (by rfl) T.g_w_drawn T.F_w_drawn.kp T.b_w_drawn .nil pass0 (pa_cons (pv 0) (pa_cons pe_int pa_nil))) pe_int))
  (pss_cons (ps_set (i := 6) sc_w_deed.nd rfl (.inl rfl) (pe_lst (pa_cons (pe_tup (pa_cons (pe_tup (pa_cons pe_str (pa_cons (pv 5) pa_nil))) (pa_cons pe_str pa_nil))) (pa_cons (pe_tup (pa_cons (pe_tup (pa_cons pe_str pa_nil)) (pa_cons pe_str pa_nil))) (pa_cons (pe_tup (pa_cons (pe_tup (pa_cons pe_str pa_nil)) (pa_cons pe_str pa_nil))) pa_nil)))))
  (pss_cons (ps_for PassesOwn.never rfl (pi_list (pv 3)) (pg_name (i := 7) sc_w_deed.nd rfl (.inr rfl))
  (pss_cons (ps_expr (pe_bm PySem.F.plainAttrs_list PySem.F.slot_list_append PySem.F.type_list_append mt_append (pv 6) (pa_cons (pe_tup (pa_cons (pe_tup (pa_cons pe_str (pa_cons (pv 7) (pa_cons (pv 5) pa_nil)))) (pa_cons pe_str pa_nil))) pa_nil)))
  (pss_cons (ps_set (i := 6) sc_w_deed.nd rfl (.inl rfl) (pe_op op_cat (pv 6) (pe_lc (own := [("_law_items", 8)]) (g := (gName 8)) (tt := tYes) (te := _) rfl sc_w_deed.nd (pi_list (pv 4)) (blkOk_by (N := N_w_deed) (sc := defScope s_w_deed) (by decide +kernel)) (fun _ _ _ _ _ => (pg_name (i := 8) sc_w_deed.nd rfl (.inl rfl))) (fun _ _ _ _ _ => pts_nil) (fun _ _ _ _ _ => (pe_tup (pa_cons (pe_tup (pa_cons pe_str (pa_cons (pv 7) (pa_cons (pv 8) pa_nil)))) (pa_cons pe_str pa_nil)))))))
  (pss_one (ps_set (i := 6) sc_w_deed.nd rfl (.inl rfl) (pe_op op_cat (pv 6) (pe_lc (own := [("_law_items", 8)]) (g := (gName 8)) (tt := tYes) (te := _) rfl sc_w_deed.nd (pi_list (pv 4)) (blkOk_by (N := N_w_deed) (sc := defScope s_w_deed) (by decide +kernel)) (fun _ _ _ _ _ => (pg_name (i := 8) sc_w_deed.nd rfl (.inl rfl))) (fun _ _ _ _ _ => pts_nil) (fun _ _ _ _ _ => (pe_tup (pa_cons (pe_tup (pa_cons pe_str (pa_cons (pv 8) (pa_cons (pv 7) pa_nil)))) (pa_cons pe_str pa_nil)))))))))))
  (pss_cons (ps_for PassesOwn.never rfl (pi_list (pv 4)) (pg_name (i := 8) sc_w_deed.nd rfl (.inl rfl))
  (pss_one (ps_set (i := 6) sc_w_deed.nd rfl (.inl rfl) (pe_op op_cat (pv 6) (pe_lst (pa_cons (pe_tup (pa_cons (pe_tup (pa_cons pe_str (pa_cons (pv 8) pa_nil))) (pa_cons pe_str pa_nil))) (pa_cons (pe_tup (pa_cons (pe_tup (pa_cons pe_str (pa_cons (pv 8) pa_nil))) (pa_cons pe_str pa_nil))) (pa_cons (pe_tup (pa_cons (pe_tup (pa_cons pe_str (pa_cons (pv 8) pa_nil))) (pa_cons pe_str pa_nil))) pa_nil))))))))
  (pss_cons (ps_for PassesOwn.never rfl (pi_range2 (by rfl) T.n_range (pa_cons pe_int (pa_cons (pe_callB call_len (by rfl) T.n_len (by decide +kernel) (pa_cons (pv 1) pa_nil)) pa_nil))) (pg_name (i := 9) sc_w_deed.nd rfl (.inl rfl))
  (pss_cons (ps_set (i := 10) sc_w_deed.nd rfl (.inl rfl) (pe_lst pa_nil))
  (pss_cons (ps_for PassesOwn.never rfl (pi_tup (pe_ix ix_tup (pe_ix ix_list (pv 1) (pv 9) (fun _ _ => rfl)) pe_int (fun _ _ => rfl))) (pg_tup (by rfl) (pgs_cons (pg_name (i := 7) sc_w_deed.nd rfl (.inr rfl)) (pgs_cons (pg_name (i := 11) sc_w_deed.nd rfl (.inl rfl)) pgs_nil)))
  (pss_one (ps_set (i := 10) sc_w_deed.nd rfl (.inl rfl) (pe_op op_cat (pv 10) (pe_slice sl_list (pe_slice sl_list (pe_call G_w_of (hr.mono (by decide)) (by rfl) T.g_w_of T.F_w_of.kp T.b_w_of .nil pass0 (pa_cons (pv 2) (pa_cons (pv 11) pa_nil))) (po_some (pe_op op_modN (pe_call G_w_drawn (hr.mono (by decide)) (by rfl) T.g_w_drawn T.F_w_drawn.kp T.b_w_drawn .nil pass0 (pa_cons (pv 0) (pa_cons pe_int pa_nil))) (pe_callB (call_max2 rfl) (by rfl) T.n_max (by decide +kernel) (pa_cons pe_int (pa_cons (pe_callB call_len (by rfl) T.n_len (by decide +kernel) (pa_cons (pe_call G_w_of (hr.mono (by decide)) (by rfl) T.g_w_of T.F_w_of.kp T.b_w_of .nil pass0 (pa_cons (pv 2) (pa_cons (pv 11) pa_nil))) pa_nil)) pa_nil))))) po_none) po_none (po_some pe_int))))))
  (pss_one (ps_if (pt_cmpR op_eq (pe_callB call_len (by rfl) T.n_len (by decide +kernel) (pa_cons (pv 10) pa_nil)) (pe_callB call_len (by rfl) T.n_len (by decide +kernel) (pa_cons (pe_ix ix_tup (pe_ix ix_list (pv 1) (pv 9) (fun _ _ => rfl)) pe_int (fun _ _ => rfl)) pa_nil)) (nomark _))
  (pss_one (ps_set (i := 6) sc_w_deed.nd rfl (.inl rfl) (pe_op op_cat (pv 6) (pe_op op_rep (pe_lst (pa_cons (pe_tup (pa_cons (pe_tup (pa_cons pe_str (pa_cons (pv 9) (pa_cons (pe_callTy cr_tupF (by rfl) T.n_tuple (by decide +kernel) (pa_cons (pv 10) pa_nil)) pa_nil)))) (pa_cons (pe_ix ix_tup (pe_ix ix_list (pv 1) (pv 9) (fun _ _ => rfl)) pe_int (fun _ _ => rfl)) pa_nil))) pa_nil)) pe_int))))
  pss_nil)))))
  (pss_one (ps_ret (pe_ix ix_list (pv 6) (pe_call G_w_drawn (hr.mono (by decide)) (by rfl) T.g_w_drawn T.F_w_drawn.kp T.b_w_drawn .nil pass0 (pa_cons (pv 0) (pa_cons (pe_callB call_len (by rfl) T.n_len (by decide +kernel) (pa_cons (pv 6) pa_nil)) pa_nil))) (fun _ _ => rfl)))))))))), ?_⟩

    -- those, lists
    refine ⟨_, rfl, l, .num, ns, rfl, hkn, by omega, fun H1 p1 s1 n1 e1 => ?_⟩
    refine ⟨_, rfl, l, .lst, ns, rfl, hkn.same s1, by omega, fun H2 p2 s2 n2 e2 => ?_⟩
    have ln1 := namesOf_len ns .num
    have ln2 := namesOf_len ns .lst
    have nx1 : ∀ x ∈ namesOf ns .num, look ns x = some .num := fun x hx => namesOf_look hok hx
    have nx2 : ∀ x ∈ namesOf ns .lst, look ns x = some .lst := fun x hx => namesOf_look hok hx
    generalize hN1 : namesOf ns .num = N1 at e1 ln1 nx1
    generalize hN2 : namesOf ns .lst = N2 at e2 ln2 nx2
    have s02 := s1.trans s2
    have dw2 := dw.step s02
    -- n
    refine ⟨_, _, rfl, _, rfl, B, st, 5, rfl, sB.trans s02, nB, dw2, by decide, by decide, fun H3 d d0 d5 x3 dw3 => ⟨_, _, rfl, rfl, ?_⟩⟩
    have p1st : p1 ≠ st := dw.ne n1
    have p2st : p2 ≠ st := (dw.step s1).ne n2
    have e1' : H3 p1 = some (.lst (N1.map V.str)) := x3 _ _ p1st (s2 _ _ e1)
    have e2' : H3 p2 = some (.lst (N2.map V.str)) := x3 _ _ p2st e2
    have nr : near (d - 2) := by unfold near; omega
    have sB3 : Same B H3 := SameX.same (sB.trans s02) x3 nB
    have x03 : SameX st H H3 := (sameX_of s02).trans x3
    have hkn3 := hkn.step dw x03
    have hhs3 := hhs.step dw x03
    -- some
    refine ⟨_, rfl, by show 2 ≤ sizeLine; decide, fun t1 h1 => ⟨by show 2 ≤ sizeLine; decide, fun t2 h2 => ⟨by show 1 ≤ sizeLine; decide, fun t3 h3 => ⟨by show 2 ≤ sizeLine; decide, fun t4 h4 => ⟨by show 1 ≤ sizeLine; decide, fun t5 h5 => ⟨by show 2 ≤ sizeLine; decide, fun t6 h6 => ⟨by show 3 ≤ sizeLine; decide, fun sl hsl => ?_⟩⟩⟩⟩⟩⟩⟩
    have a1 := same_upd (o := .tup [.str "num", .int (d - 2)]) h1
    have a2 := same_upd (o := .tup [.ref t1, .str "number"]) h2
    have a3 := same_upd (o := .tup [.str "nil"]) h3
    have a4 := same_upd (o := .tup [.ref t3, .str "list"]) h4
    have a5 := same_upd (o := .tup [.str "ask"]) h5
    have a6 := same_upd (o := .tup [.ref t5, .str "number"]) h6
    have a7 := same_upd (o := .lst [.ref t2, .ref t4, .ref t6]) hsl
    have y1 : DeedIt K (hdsOf hs) ns _ (.ref t2) := .mk (.num (d - 2)) .num a2 upd_same upd_same (.cons (.str _) (.cons (.int _) .nil)) rfl ⟨nr, rfl⟩
    have y2 : DeedIt K (hdsOf hs) ns _ (.ref t4) := .mk .nil .lst a4 upd_same upd_same (.cons (.str _) .nil) rfl rfl
    have y3 : DeedIt K (hdsOf hs) ns _ (.ref t6) := .mk .ask .num a6 upd_same upd_same (.cons (.str _) .nil) rfl rfl
    have sx : Same H3 _ := a1.trans (a2.trans (a3.trans (a4.trans (a5.trans (a6.trans a7)))))
    have ysx : ∀ y ∈ [V.ref t2, V.ref t4, V.ref t6], DeedIt K (hdsOf hs) ns _ y := fun y hy => by
      rcases List.mem_cons.mp hy with e | hy
      · rw [e]; exact y1.same (sameI_of (a3.trans (a4.trans (a5.trans (a6.trans a7)))))
      · rcases List.mem_cons.mp hy with e | hy
        · rw [e]; exact y2.same (sameI_of (a5.trans (a6.trans a7)))
        · rw [List.mem_singleton.mp hy]; exact y3.same (sameI_of a7)
    have nsl : H3 sl = none := (a1.trans (a2.trans (a3.trans (a4.trans (a5.trans a6))))).free hsl
    -- names
    refine ⟨_, rfl, p1, rfl, ⟨_, SqL.of (sx _ _ e1')⟩, for_it (walk_list (K := K) (a := p1) (xs := N1.map V.str)) (fun i σ H4 => ∃ sl xs y7, σ = [some (.ref st), some (.ref hl), some (.ref l), some (.ref p1), some (.ref p2), some (.int (d - 2)), some (.ref sl), y7, none, none, none, none] ∧ Same H3 H4 ∧ H3 sl = none ∧ H4 sl = some (.lst xs) ∧ (1 ≤ xs.length ∧ xs.length ≤ 3 + i * 100) ∧ ∀ y ∈ xs, DeedIt K (hdsOf hs) ns H4 y)
      ⟨sl, _, none, rfl, sx, nsl, upd_same, ⟨by simp, Nat.le_refl _⟩, ysx⟩ (fun i σ H4 _ ⟨_, _, _, _, h, _⟩ => SqL.of (h _ _ e1')) ?_ ?_⟩
    · rintro i v7 σ H4p H4 hi ⟨sl, xs, y7, rfl, s4, nsl, esl, ⟨l0, lxs⟩, hxs⟩ ⟨rfl, hv⟩
      rw [List.getElem?_map] at hv
      obtain ⟨x, hx, rfl⟩ := Option.map_eq_some_iff.mp hv
      rw [List.length_map] at hi
      have kx : look ns x = some .num := nx1 x (List.mem_of_getElem? hx)
      -- append
      refine ⟨_, rfl, .inl ⟨rfl, _, SqL.of esl⟩, _, rfl, _, rfl, by show 3 ≤ sizeLine; decide, fun t1 h1 => ⟨by show 2 ≤ sizeLine; decide, fun t2 h2 => ?_⟩⟩
      have a1 := same_upd (o := .tup [.str "sum", .str x, .int (d - 2)]) h1
      have a2 := same_upd (o := .tup [.ref t1, .str "number"]) h2
      have z1 : DeedIt K (hdsOf hs) ns _ (.ref t2) := .mk (.sum x (d - 2)) .num a2 upd_same upd_same (.cons (.str _) (.cons (.str _) (.cons (.int _) .nil))) rfl ⟨kx, nr, rfl⟩
      have a12 := a1.trans a2
      generalize upd (upd H4 t1 (.tup [.str "sum", .str x, .int (d - 2)])) t2 (.tup [.ref t1, .str "number"]) = H5 at a12 z1 ⊢
      have esl5 := a12 _ _ esl
      refine ⟨sl, xs, _, rfl, rfl, esl5, smaller (by omega), ?_⟩
      have i5 := sameI_upd (o := .lst (xs ++ [.ref t2])) esl5 id
      have s6 : Same H3 (upd H5 sl (.lst (xs ++ [.ref t2]))) := Same.old (s4.trans a12) nsl
      have e6 : upd H5 sl (.lst (xs ++ [.ref t2])) sl = some (.lst (xs ++ [.ref t2])) := upd_same
      have h6 : ∀ y ∈ xs ++ [.ref t2], DeedIt K (hdsOf hs) ns (upd H5 sl (.lst (xs ++ [.ref t2]))) y := fun y hy => by
        rcases List.mem_append.mp hy with h | h
        · exact (hxs y h).same ((sameI_of a12).trans i5)
        · rw [List.mem_singleton.mp h]; exact z1.same i5
      have l6 : (xs ++ [V.ref t2]).length ≤ 4 + i * 100 := by rw [List.length_append]; show _ + 1 ≤ _; omega
      have l6' : 1 ≤ (xs ++ [V.ref t2]).length := by rw [List.length_append]; omega
      generalize xs ++ [V.ref t2] = ys at s6 e6 h6 l6 l6' ⊢
      generalize upd H5 sl (.lst ys) = H6 at s6 e6 h6 ⊢
      -- put
      refine ⟨_, rfl, _, rfl, p2, rfl, ⟨_, SqL.of (s6 _ _ e2')⟩, fun D hD => ?_⟩
      refine lc_data (walk_list (K := K) (a := p2) (xs := N2.map V.str)) (fun _ y H => DeedIt K (hdsOf hs) ns H y) (fun _ _ _ _ si h => h.same si) hD (fun H1 s1 => SqL.of (s1 _ _ (s6 _ _ e2'))) (by rw [List.length_map]; omega) ?_ ?_
      · rintro j v8 H7p H7 k hj s7 ⟨rfl, hv8⟩ hk
        rw [List.getElem?_map] at hv8
        obtain ⟨z, hz, rfl⟩ := Option.map_eq_some_iff.mp hv8
        have kz : look ns z = some .lst := nx2 z (List.mem_of_getElem? hz)
        refine ⟨rfl, _, rfl, _, rfl, by show 3 ≤ sizeLine; decide, fun t1 h1 => ⟨by show 2 ≤ sizeLine; decide, fun t2 h2 => ?_⟩⟩
        have a1 := same_upd (o := .tup [.str "put", .str x, .str z]) h1
        have a2 := same_upd (o := .tup [.ref t1, .str "list"]) h2
        exact hk _ _ (a1.trans a2) (.mk (.put x z) .lst a2 upd_same upd_same (.cons (.str _) (.cons (.str _) (.cons (.str _) .nil))) rfl ⟨kx, kz, rfl⟩)
      rintro H7 acc s7 e7 l7 hE7
      rw [List.length_map] at l7
      refine ⟨sl, D, ys, acc, rfl, rfl, s7 _ _ e6, e7, small (by omega), fun q8 hq8 => ?_⟩
      have s8 := same_upd (o := .lst (ys ++ acc)) hq8
      have h8 : ∀ y ∈ ys ++ acc, DeedIt K (hdsOf hs) ns (upd H7 q8 (.lst (ys ++ acc))) y := fun y hy => by
        rcases List.mem_append.mp hy with h | h
        · exact (h6 y h).same (sameI_of (s7.trans s8))
        · obtain ⟨j, hj, e⟩ := List.mem_iff_getElem.mp h
          exact (hE7 j y (by rw [List.getElem?_eq_getElem hj, e])).same (sameI_of s8)
      have l8 : (ys ++ acc).length ≤ 30 + i * 100 := by rw [List.length_append]; omega
      have s38 : Same H3 (upd H7 q8 (.lst (ys ++ acc))) := s6.trans (s7.trans s8)
      have e8 : upd H7 q8 (.lst (ys ++ acc)) q8 = some (.lst (ys ++ acc)) := upd_same
      have n8 : H3 q8 = none := (s6.trans s7).free hq8
      have l8' : 1 ≤ (ys ++ acc).length := by rw [List.length_append]; omega
      generalize ys ++ acc = ws at s38 e8 h8 l8 l8' ⊢
      generalize upd H7 q8 (.lst ws) = H8 at s38 e8 h8 ⊢
      -- at
      refine ⟨_, rfl, _, rfl, p2, rfl, ⟨_, SqL.of (s38 _ _ e2')⟩, fun D hD => ?_⟩
      refine lc_data (walk_list (K := K) (a := p2) (xs := N2.map V.str)) (fun _ y H => DeedIt K (hdsOf hs) ns H y) (fun _ _ _ _ si h => h.same si) hD (fun H1 s1 => SqL.of (s1 _ _ (s38 _ _ e2'))) (by rw [List.length_map]; omega) ?_ ?_
      · rintro j v8 H9p H9 k hj s9 ⟨rfl, hv8⟩ hk
        rw [List.getElem?_map] at hv8
        obtain ⟨z, hz, rfl⟩ := Option.map_eq_some_iff.mp hv8
        have kz : look ns z = some .lst := nx2 z (List.mem_of_getElem? hz)
        refine ⟨rfl, _, rfl, _, rfl, by show 3 ≤ sizeLine; decide, fun t1 h1 => ⟨by show 2 ≤ sizeLine; decide, fun t2 h2 => ?_⟩⟩
        have a1 := same_upd (o := .tup [.str "at", .str z, .str x]) h1
        have a2 := same_upd (o := .tup [.ref t1, .str "number"]) h2
        exact hk _ _ (a1.trans a2) (.mk (.at_ z x) .num a2 upd_same upd_same (.cons (.str _) (.cons (.str _) (.cons (.str _) .nil))) rfl ⟨kz, kx, rfl⟩)
      rintro H9 acc2 s9 e9 l9 hE9
      rw [List.length_map] at l9
      refine ⟨q8, D, ws, acc2, rfl, rfl, s9 _ _ e8, e9, small (by omega), fun q10 hq10 => ?_⟩
      have s10 := same_upd (o := .lst (ws ++ acc2)) hq10
      refine ⟨q10, ws ++ acc2, _, rfl, s38.trans (s9.trans s10), (s38.trans s9).free hq10, upd_same, ⟨by rw [List.length_append]; omega, by rw [List.length_append]; omega⟩, fun y hy => ?_⟩
      rcases List.mem_append.mp hy with h | h
      · exact (h8 y h).same (sameI_of (s9.trans s10))
      · obtain ⟨j, hj, e⟩ := List.mem_iff_getElem.mp h
        exact (hE9 j y (by rw [List.getElem?_eq_getElem hj, e])).same (sameI_of s10)
    rintro σ H4 ⟨sl, xs, y7, rfl, s4, nsl, esl, ⟨l0, lxs⟩, hxs⟩
    rw [List.length_map] at lxs
    -- lists
    refine ⟨_, rfl, p2, rfl, ⟨_, SqL.of (s4 _ _ e2')⟩, for_it (walk_list (K := K) (a := p2) (xs := N2.map V.str)) (fun i σ H4 => ∃ sl xs y8, σ = [some (.ref st), some (.ref hl), some (.ref l), some (.ref p1), some (.ref p2), some (.int (d - 2)), some (.ref sl), y7, y8, none, none, none] ∧ Same H3 H4 ∧ H4 sl = some (.lst xs) ∧ (1 ≤ xs.length ∧ xs.length ≤ 3003 + i * 3) ∧ ∀ y ∈ xs, DeedIt K (hdsOf hs) ns H4 y)
      ⟨sl, xs, none, rfl, s4, esl, ⟨l0, by omega⟩, hxs⟩ (fun i σ H4 _ ⟨_, _, _, _, h, _⟩ => SqL.of (h _ _ e2')) ?_ ?_⟩
    · clear hxs lxs l0 esl nsl s4
      rintro i v8 σ H4p H4 hi ⟨sl, xs, y8, rfl, s4, esl, ⟨l0, lxs⟩, hxs⟩ ⟨rfl, hv⟩
      rw [List.getElem?_map] at hv
      obtain ⟨z, hz, rfl⟩ := Option.map_eq_some_iff.mp hv
      rw [List.length_map] at hi
      have kz : look ns z = some .lst := nx2 z (List.mem_of_getElem? hz)
      refine ⟨_, rfl, _, rfl, by show 2 ≤ sizeLine; decide, fun t1 h1 => ⟨by show 2 ≤ sizeLine; decide, fun t2 h2 => ⟨_, rfl, by show 2 ≤ sizeLine; decide, fun t3 h3 => ⟨by show 2 ≤ sizeLine; decide, fun t4 h4 => ⟨_, rfl, by show 2 ≤ sizeLine; decide, fun t5 h5 => ⟨by show 2 ≤ sizeLine; decide, fun t6 h6 => ⟨by show 3 ≤ sizeLine; decide, fun l7 hl7 => ?_⟩⟩⟩⟩⟩⟩⟩
      have a1 := same_upd (o := .tup [.str "len", .str z]) h1
      have a2 := same_upd (o := .tup [.ref t1, .str "number"]) h2
      have a3 := same_upd (o := .tup [.str "head", .str z]) h3
      have a4 := same_upd (o := .tup [.ref t3, .str "number"]) h4
      have a5 := same_upd (o := .tup [.str "tail", .str z]) h5
      have a6 := same_upd (o := .tup [.ref t5, .str "list"]) h6
      have a7 := same_upd (o := .lst [.ref t2, .ref t4, .ref t6]) hl7
      have y1 : DeedIt K (hdsOf hs) ns _ (.ref t2) := .mk (.len z) .num a2 upd_same upd_same (.cons (.str _) (.cons (.str _) .nil)) rfl ⟨kz, rfl⟩
      have y2 : DeedIt K (hdsOf hs) ns _ (.ref t4) := .mk (.head z) .num a4 upd_same upd_same (.cons (.str _) (.cons (.str _) .nil)) rfl ⟨kz, rfl⟩
      have y3 : DeedIt K (hdsOf hs) ns _ (.ref t6) := .mk (.tail z) .lst a6 upd_same upd_same (.cons (.str _) (.cons (.str _) .nil)) rfl ⟨kz, rfl⟩
      have sx : Same H4 _ := a1.trans (a2.trans (a3.trans (a4.trans (a5.trans (a6.trans a7)))))
      refine ⟨sl, l7, xs, [.ref t2, .ref t4, .ref t6], rfl, rfl, sx _ _ esl, upd_same, small (by show xs.length + 3 ≤ _; omega), fun q8 hq8 => ?_⟩
      have s8 := same_upd (o := .lst (xs ++ [.ref t2, .ref t4, .ref t6])) hq8
      refine ⟨q8, _, _, rfl, s4.trans (sx.trans s8), upd_same, ⟨by rw [List.length_append]; omega, by rw [List.length_append]; show _ + 3 ≤ _; omega⟩, fun y hy => ?_⟩
      rcases List.mem_append.mp hy with h | hy
      · exact (hxs y h).same (sameI_of (sx.trans s8))
      · rcases List.mem_cons.mp hy with e | hy
        · rw [e]; exact y1.same (sameI_of (a3.trans (a4.trans (a5.trans (a6.trans (a7.trans s8))))))
        · rcases List.mem_cons.mp hy with e | hy
          · rw [e]; exact y2.same (sameI_of (a5.trans (a6.trans (a7.trans s8))))
          · rw [List.mem_singleton.mp hy]; exact y3.same (sameI_of (a7.trans s8))
    clear hxs lxs l0 esl nsl s4
    rintro σ H4 ⟨sl, xs, y8, rfl, s4, esl, ⟨l0, lxs⟩, hxs⟩
    rw [List.length_map] at lxs
    obtain ⟨hvs, hsq, hpd⟩ := id hhs3
    have lhv : hvs.length = hs.length := Paired.length hpd
    have slst : sl ≠ st := by
      obtain ⟨sc, ns', i', mx, r, ee, _⟩ := dw3.step s4
      intro z
      rw [z, ee] at esl
      have ex : xs = [.ref sc, .int i', .int mx, .int r] := by injection (Option.some.inj esl).symm
      obtain ⟨dd, kd, a1, a2, _, _, ez, _⟩ := hxs (.int i') (by rw [ex]; simp)
      cases ez
    -- calls
    refine ⟨_, rfl, _, _, rfl, .inl ⟨hvs, s4.seq hsq, rfl⟩, 1, (hvs.length : Nat), rfl, ⟨by decide, by decide, by omega, by omega⟩, for_it (walk_range (lo := 1) (n := (((hvs.length : Nat) : Int) - 1).toNat)) (fun i σ H5 => ∃ sl xs y7 y9 y10 y11, σ = [some (.ref st), some (.ref hl), some (.ref l), some (.ref p1), some (.ref p2), some (.int (d - 2)), some (.ref sl), y7, y8, y9, y10, y11] ∧ SameX st H3 H5 ∧ Dw K B H5 st ∧ sl ≠ st ∧ H5 sl = some (.lst xs) ∧ (1 ≤ xs.length ∧ xs.length ≤ 4000 + i * 3) ∧ ∀ y ∈ xs, DeedIt K (hdsOf hs) ns H5 y)
      ⟨sl, xs, y7, none, none, none, rfl, sameX_of s4, dw3.step s4, slst, esl, ⟨l0, by omega⟩, hxs⟩ (fun _ _ _ _ _ => True.intro) ?_ ?_⟩
    · clear hxs lxs l0 esl slst s4
      rintro i v9 σ H4p H4 hi ⟨sl, xs, y7, y9, y10, y11, rfl, x4, dw4, slst, esl, ⟨l0, lxs⟩, hxs⟩ ⟨rfl, hx9⟩
      obtain rfl : v9 = .int ((i + 1 : Nat) : Int) := by
        rw [hx9]
        show V.int ((1 : Int) + ((i : Nat) : Int)) = _
        congr 1
        omega
      have hi2 : i + 1 < hvs.length := by omega
      obtain ⟨hv, hhv⟩ : ∃ hv, hvs[i + 1]? = some hv := ⟨_, List.getElem?_eq_getElem hi2⟩
      obtain ⟨h, hh, ha, hpp, hqs, rfl, g1, g2, g3⟩ := paired_get hpd hhv
      have lph : h.1.length ≤ 10 := lpar h (List.mem_of_getElem? hh)
      have lq : hqs.length = h.1.length := Paired.length g3
      have seqH : ∀ {H' : Hp}, SameX st H3 H' → SqL K H' hl hvs := fun x => dw3.seq x (fun _ i => .inl (hd_no hpd i)) hsq
      refine ⟨by show 0 ≤ sizeLine; decide, fun nl hnl => ?_⟩
      have nlst : nl ≠ st := dw4.ne hnl
      have s5 := same_upd (o := .lst []) hnl
      have e5 : upd H4 nl (.lst []) nl = some (.lst []) := upd_same
      generalize upd H4 nl (.lst []) = H5 at s5 e5 ⊢
      have x35 : SameX st H3 H5 := x4.trans (sameX_of s5)
      have dw5 : Dw K B H5 st := dw4.step s5
      have esl5 := s5 _ _ esl
      have hxs5 : ∀ y ∈ xs, DeedIt K (hdsOf hs) ns H5 y := fun y hy => (hxs y hy).same (sameI_of s5)
      refine ⟨_, rfl, _, rfl, _, _, _, _, rfl, rfl, seqH x35, atI_nat hhv, _, _, _, _, rfl, rfl, (dw3.i x35).tup g1, atI_nat (j := 0) rfl, hpp, rfl, ⟨_, ((dw3.i x35).pl g2).sq⟩, for_it (walk_tup (K := K) (a := hpp) (xs := hqs.map V.ref)) (fun m σ H6 => ∃ y7 nl nms y11, σ = [some (.ref st), some (.ref hl), some (.ref l), some (.ref p1), some (.ref p2), some (.int (d - 2)), some (.ref sl), y7, y8, some (.int ((i + 1 : Nat) : Int)), some (.ref nl), y11] ∧
          SameX st H5 H6 ∧ Dw K B H6 st ∧ nl ≠ st ∧ H6 nl = some (.lst (nms.map V.str)) ∧ nms.length ≤ m ∧ (nms.length = m → Paired (fun x kd => look ns x = some kd) nms ((h.1.map (·.2)).take m)))
        ⟨y7, nl, [], y11, rfl, SameX.refl _ _, dw5, nlst, e5, Nat.le_refl _, fun _ => .nil⟩ (fun m σ H6 _ ⟨_, _, _, _, _, x6, _⟩ => ((dw3.i (x35.trans x6)).pl g2).sq) ?_ ?_⟩
      · clear e5 nlst hnl
        rintro m v σ H6p H6 hm ⟨y7, nl, nms, y11, rfl, x6, dw6, nlst, enl, lnm, hnm⟩ ⟨rfl, hv⟩
        rw [List.getElem?_map] at hv
        obtain ⟨t, ht, rfl⟩ := Option.map_eq_some_iff.mp hv
        obtain ⟨pr, hpr, hat⟩ := paired_get g3 ht
        have x36 := x35.trans x6
        refine ⟨t, _, rfl, (dw3.i x36).tup hat, rfl, _, _, rfl, _, _, rfl, rfl, ?_⟩
        have sB6 : Same B H6 := SameX.same sB3 x36 nB
        have hkn6 : KnAt K H6 l ns := hkn3.step dw3 x36
        refine ⟨_, rfl, _, rfl, _, rfl, l, pr.2, ns, rfl, hkn6, by omega, fun H7 p7 s7 n7 e7 => ?_⟩
        refine ⟨_, rfl, B, st, 9, rfl, sB6.trans s7, nB, dw6.step s7, by decide, by decide, fun H8 d8 d80 d89 x8 dw8 => ?_⟩
        have x68 : SameX st H6 H8 := (sameX_of s7).trans x8
        refine ⟨_, rfl, _, rfl, l, pr.2, ns, rfl, hkn6.step dw6 x68, by omega, fun H9 p9 s9 n9 e9 => ?_⟩
        refine ⟨_, _, rfl, .inl ⟨_, SqL.of e9, rfl⟩, _, _, rfl, _, _, rfl, rfl, ?_, _, rfl, ?_⟩
        · show (if ((((namesOf ns pr.2).map V.str).length : Nat) : Int) > 1 then ((((namesOf ns pr.2).map V.str).length : Nat) : Int) else (1 : Int)) ≠ 0
          split <;> omega
        have p7st : p7 ≠ st := dw6.ne n7
        have x69 : SameX st H6 H9 := x68.trans (sameX_of s9)
        have e7' : H9 p7 = some (.lst ((namesOf ns pr.2).map V.str)) := s9 _ _ (x8 _ _ p7st e7)
        obtain ⟨c1, ec1, mc1, lc1⟩ := cut_str (namesOf ns pr.2) (some (d8.fmod (if ((((namesOf ns pr.2).map V.str).length : Nat) : Int) > 1 then ((((namesOf ns pr.2).map V.str).length : Nat) : Int) else (1 : Int)))) none
        refine ⟨p7, _, rfl, SqL.of e7', fun p10 hp10 => ?_⟩
        rw [ec1]
        have s10 := same_upd (o := .lst (c1.map V.str)) hp10
        have e10 : upd H9 p10 (.lst (c1.map V.str)) p10 = some (.lst (c1.map V.str)) := upd_same
        generalize upd H9 p10 (.lst (c1.map V.str)) = H10 at s10 e10 ⊢
        refine ⟨1, rfl, p10, _, rfl, SqL.of e10, fun p11 hp11 => ?_⟩
        obtain ⟨c2, ec2, mc2, lc2⟩ := cut_str c1 none (some 1)
        have one : c2.length ≤ 1 := by
          have h1 := cut_one (c1.map V.str)
          rw [ec2, List.length_map] at h1
          exact h1
        rw [ec2]
        have s11 := same_upd (o := .lst (c2.map V.str)) hp11
        have e11 : upd H10 p11 (.lst (c2.map V.str)) p11 = some (.lst (c2.map V.str)) := upd_same
        generalize upd H10 p11 (.lst (c2.map V.str)) = H11 at s11 e11 ⊢
        have x611 : SameX st H6 H11 := x69.trans (sameX_of (s10.trans s11))
        have lm10 : m < 10 := by rw [List.length_map] at hm; omega
        refine ⟨nl, p11, nms.map V.str, c2.map V.str, rfl, rfl, x611 _ _ nlst enl, e11, small (by rw [List.length_map, List.length_map]; omega), fun p12 hp12 => ?_⟩
        have s12 := same_upd (o := .lst (nms.map V.str ++ c2.map V.str)) hp12
        have dw11 : Dw K B H11 st := (dw8.step s9).step (s10.trans s11)
        refine ⟨_, p12, nms ++ c2, _, rfl, x6.trans (x611.trans (sameX_of s12)), dw11.step s12, dw11.ne hp12, by rw [upd_same, List.map_append], by rw [List.length_append]; omega, fun hlen2 => ?_⟩
        rw [List.length_append] at hlen2
        have hpk : (h.1.map (·.2))[m]? = some pr.2 := by rw [List.getElem?_map, hpr]; rfl
        rw [List.take_add_one, hpk]
        match c2, one, hlen2, mc2 with
        | [], _, hl2, _ => exact absurd hl2 (by show ¬ nms.length + 0 = m + 1; omega)
        | [x2], _, hl2, mc => exact paired_append (hnm (by have : nms.length + 1 = m + 1 := hl2; omega)) (.cons (namesOf_look hok (mc1 x2 (mc x2 (List.mem_singleton.mpr rfl)))) .nil)
      · rintro σ H6 ⟨y7, nl, nms, y11, rfl, x6, dw6, nlst, enl, lnm, hnm⟩
        rw [List.length_map, lq] at lnm hnm
        have x36 := x35.trans x6
        have esl6 : H6 sl = some (.lst xs) := x6 _ _ slst esl5
        have hxs6 : ∀ y ∈ xs, DeedIt K (hdsOf hs) ns H6 y := fun y hy => (hxs5 y hy).same (dw5.i x6)
        refine ⟨_, rfl, _, _, rfl, .inl ⟨_, SqL.of enl, rfl⟩, _, rfl, _, rfl, _, _, _, _, rfl, rfl, seqH x36, atI_nat hhv, _, _, _, _, rfl, rfl, (dw3.i x36).tup g1, atI_nat (j := 0) rfl, _, _, rfl, .inr ⟨_, ((dw3.i x36).pl g2).sq, rfl⟩, rfl, _, rfl, ite2 (fun hp => ?_) (fun hp => ?_)⟩
        · have eln : nms.length = h.1.length := by
            have := V.int.inj (of_decide_eq_true hp)
            rw [List.length_map, List.length_map, lq] at this
            omega
          have hpr := hnm eln
          rw [List.take_of_length_le (by rw [List.length_map]; exact Nat.le_refl _)] at hpr
          refine ⟨_, rfl, _, rfl, _, rfl, nl, _, rfl, SqL.of enl, fun t1 its1 h1 => ⟨by show 3 ≤ sizeLine; decide, fun t2 h2 => ?_⟩⟩
          have a1 := same_upd (o := .frz (tupObj its1) (.tup (nms.map V.str))) h1
          have a2 := same_upd (o := .tup [.str "call", .int ((i + 1 : Nat) : Int), .ref t1]) h2
          have i1 : Im K (upd H6 t1 (.frz (tupObj its1) (.tup (nms.map V.str)))) (.ref t1) (.tuple (nms.map .str)) := .tup (.inl (.inr ⟨_, upd_same⟩)) (ImAll.of (by rw [List.length_map, List.length_map]) fun j x d e1 e2 => by
            rw [List.getElem?_map] at e1 e2
            obtain ⟨z, hz, rfl⟩ := Option.map_eq_some_iff.mp e1
            rw [hz] at e2
            cases e2
            exact .str z)
          have a12 := a1.trans a2
          have e2 : upd (upd H6 t1 (.frz (tupObj its1) (.tup (nms.map V.str)))) t2 (.tup [.str "call", .int ((i + 1 : Nat) : Int), .ref t1]) t2 = some (.tup [.str "call", .int ((i + 1 : Nat) : Int), .ref t1]) := upd_same
          have i2 := i1.same (sameI_of a2)
          generalize upd (upd H6 t1 (.frz (tupObj its1) (.tup (nms.map V.str)))) t2 (.tup [.str "call", .int ((i + 1 : Nat) : Int), .ref t1]) = H7 at a12 e2 i2 ⊢
          have x37 : SameX st H3 H7 := x36.trans (sameX_of a12)
          refine ⟨_, rfl, _, rfl, _, _, _, _, rfl, rfl, seqH x37, atI_nat hhv, _, _, _, _, rfl, rfl, (dw3.i x37).tup g1, atI_nat (j := 1) rfl, by show 2 ≤ sizeLine; decide, fun t3 h3 => ⟨by show 1 ≤ sizeLine; decide, fun l4 h4 => ⟨l4, 3, _, rfl, rfl, upd_same, by decide, by decide, by show 3 ≤ sizeLine; decide, fun l5 h5 => ?_⟩⟩⟩
          have a3 := same_upd (o := .tup [.ref t2, h.2.v]) h3
          have a4 := same_upd (o := .lst [.ref t3]) h4
          have a5 := same_upd (o := .lst (List.replicate (3 : Int).toNat [V.ref t3]).flatten) h5
          have z3 : DeedIt K (hdsOf hs) ns _ (.ref t3) := .mk (.call (i + 1) nms) h.2 a3 e2 upd_same (.cons (.str _) (.cons (.int _) (.cons i2 .nil))) rfl ⟨by omega, (h.1.map (·.2), h.2), by rw [List.getElem?_map, hh]; rfl, hpr, rfl⟩
          have a75 := a3.trans (a4.trans a5)
          have a65 := a12.trans a75
          refine ⟨sl, l5, xs, _, rfl, rfl, a65 _ _ esl6, upd_same, small (by show xs.length + 3 ≤ _; omega), fun q6 h6 => ?_⟩
          have a6 := same_upd (o := .lst (xs ++ (List.replicate (3 : Int).toNat [V.ref t3]).flatten)) h6
          have dw7 := dw6.step a65
          refine ⟨q6, _, _, _, _, _, rfl, x36.trans (sameX_of (a65.trans a6)), dw7.step a6, dw7.ne h6, upd_same, ⟨by rw [List.length_append]; omega, by rw [List.length_append]; show xs.length + 3 ≤ _; omega⟩, fun y hy => ?_⟩
          rcases List.mem_append.mp hy with hh2 | hh2
          · exact (hxs6 y hh2).same (sameI_of (a65.trans a6))
          · have : y = .ref t3 := by
              rcases List.mem_cons.mp (show y ∈ [V.ref t3, V.ref t3, V.ref t3] from hh2) with e | h
              · exact e
              · rcases List.mem_cons.mp h with e | h
                · exact e
                · exact List.mem_singleton.mp h
            rw [this]
            exact z3.same (sameI_of (a4.trans (a5.trans a6)))
        · exact ⟨sl, xs, _, _, _, _, rfl, x36, dw6, slst, esl6, ⟨l0, by omega⟩, hxs6⟩
    clear hxs lxs l0 esl slst s4
    rintro σ H4 ⟨sl, xs, y7, y9, y10, y11, rfl, x4, dw4, slst, esl, ⟨l0, lxs⟩, hxs⟩
    have lx : xs.length ≤ 1000000 := by omega
    refine ⟨_, rfl, _, rfl, _, rfl, _, xs.length, rfl, .inl ⟨_, SqL.of esl, rfl⟩, B, st, _, rfl, SameX.same sB3 x4 nB, nB, dw4, by omega, by omega, fun H5 k k0 k1 x5 dw5 => ?_⟩
    obtain ⟨j, rfl⟩ := Int.eq_ofNat_of_zero_le k0
    have hj : j < xs.length := by omega
    exact ⟨sl, xs, _, _, rfl, rfl, SqL.of (x5 _ _ slst esl), atI_nat (List.getElem?_eq_getElem hj), q _ _ (x03.trans (x4.trans x5)) dw5 ((hxs _ (List.getElem_mem hj)).same (dw4.i x5))⟩
end
end Cs
namespace Cs
open PySem PySem.Spec L2
/-- how many trees a drawn tree has at most -/
def tsz : Nat → Nat
  | 0 => 2
  | 1 => 5
  | n + 2 => 1 + tsz (n + 1) + tsz n
theorem tsz_two : ∀ n : Nat, 2 ≤ tsz n
  | 0 => Nat.le_refl _
  | 1 => by decide
  | n + 2 => by show 2 ≤ 1 + tsz (n + 1) + tsz n; have := tsz_two n; omega
theorem tsz_up : ∀ n : Nat, tsz n + 1 ≤ tsz (n + 1)
  | 0 => by decide
  | 1 => by decide
  | n + 2 => by show tsz (n + 2) + 1 ≤ 1 + tsz (n + 2) + tsz (n + 1); have := tsz_two (n + 1); omega
/-- with two trees within -/
theorem tsz_if (n : Nat) (h : 1 ≤ n) : 1 + tsz (n - 1) + tsz (n - 2) ≤ tsz n := by
  match n, h with
  | 1, _ => decide
  | n + 2, _ => exact Nat.le_refl _
theorem strs_depth : ∀ l : List Str, PyData.depthAll (l.map PyData.str) ≤ 1
  | [] => by simp [PyData.depthAll]
  | x :: r => by
    have := strs_depth r
    simp only [List.map_cons, PyData.depthAll, PyData.depth]
    omega
theorem strs_lay : ∀ l : List Str, (∀ x ∈ l, PyData.strOk x = true) → PyData.canLayAll0 (l.map PyData.str) = true
  | [], _ => rfl
  | x :: r, h => by
    have := strs_lay r fun y hy => h y (List.mem_cons_of_mem _ hy)
    have h0 := h x (List.mem_cons_self ..)
    simp [PyData.canLayAll0, PyData.canLay0, this, h0]
theorem lt_strOk : ∀ i < 26, PyData.strOk (lt i) = true := by decide +kernel
theorem names_strOk {ns : Nm} (h : KnOk ns) (hl : ns.length ≤ 26) (kd : Kd) : ∀ x ∈ namesOf ns kd, PyData.strOk x = true := fun x hx => by
  obtain ⟨p, hp, rfl⟩ := List.mem_map.mp hx
  obtain ⟨i, hi, e⟩ := List.mem_iff_getElem.mp (List.mem_filter.mp hp).1
  rw [h i p (by rw [List.getElem?_eq_getElem hi, e])]
  exact lt_strOk i (by omega)
theorem strs_shaped (l : List Str) (h : ∀ x ∈ l, PyData.strOk x = true) : SeqAt.shaped (.list (l.map PyData.str)) = true := by
  unfold SeqAt.shaped
  have h1 := strs_depth l
  have h2 := strs_lay l h
  simp [PyData.canLay0, PyData.depth, h2]
  omega
section
variable {P : Program} {w : World} {K : PySem.W.Frag} {mg : Str → Option Value} {base : Heap} {A : Adr}
theorem strs_dp {H : Hp} {l : Addr} {xs : List Str} (h : H l = some (.lst (xs.map V.str))) : Dp K H (.ref l) (.list (xs.map PyData.str)) := by
  refine .lst (SqL.of h) ?_
  clear h
  induction xs with
  | nil => exact .nil
  | cons x r ih => exact .cons (.str x) ih
theorem gen_heap {H6 H' : Hp} {th : Addr} {o : HO} {v1 v2 : V} {d1 d2 : PyData} {G : Hp → Prop} (h : ∀ H7, Same H6 H7 → H7 th = some o → Im K H7 v1 d1 → Im K H7 v2 d2 → G H7) (sh : Same H6 H') (eh : H' th = some o) (i1 : Im K H' v1 d1) (i2 : Im K H' v2 d2) : G H' := h H' sh eh i1 i2
def spTreeW (K : PySem.W.Frag) (n : Nat) : Sp := fun vs H Q _ => ∃ (B : Hp) (st hl l : Addr) (kd : Kd) (hs : List (Nm × Kd)) (ns : Nm) (deep : Int), vs = [.ref st, .ref hl, kd.v, .ref l, .int deep] ∧ deep.toNat ≤ n ∧ n ≤ 10 ∧ -10 ≤ deep ∧ Same B H ∧ B st = none ∧ Dw K B H st ∧ HdsAt K H hl hs ∧ hs.length ≤ 10 ∧ (∀ h ∈ hs, h.1.length ≤ 10) ∧
  KnAt K H l ns ∧ KnOk ns ∧ ns.length + deep.toNat ≤ 20 ∧
  ∀ H1 y t, SameX st H H1 → Dw K B H1 st → Im K H1 y (Tr.d t) → Tr.ok1 (hdsOf hs) kd ns t → t.size ≤ tsz deep.toNat → t.deep ≤ deep.toNat + 2 → Q y H1
set_option maxHeartbeats 8000000 in
theorem step_w_tree (T : Tx K w mg A) (n : Nat) (sp : Sp) (G_w_tree : FnOk P w K mg base CX0 (n + 2) A.f_w_tree A.fd_w_tree P_w_tree sp) (hG : ∀ vs H Q E m, n = m + 1 → spTreeW K m vs H Q E → sp vs H Q E) :
    FnOk P w K mg base CX0 (n + 3) A.f_w_tree A.fd_w_tree P_w_tree (spTreeW K n) := by
  have G_w_of := ok_w_of (P := P) (base := base) T
  have G_w_drawn := ok_w_drawn (P := P) (base := base) T
  have G_w_deed := ok_w_deed (P := P) (base := base) T
  have G_w_measure := ok_w_measure (P := P) (base := base) T
  refine T.F_w_tree.ok sc_w_tree (fun vs H Q E h => ?_) (fun cdv AA outer s H vs Q E hr h => ?_)
  · obtain ⟨B, st, hl, l, kd, hs, ns, deep, rfl, _⟩ := h
    rfl
  · obtain ⟨B, st, hl, l, kd, hs, ns, deep, rfl, hdn, hn10, hdm, sB, nB, dw, hhs, lhs, lpar, hkn, hok, hlen, q⟩ := h
    refine ⟨_, (pss_cons (ps_set (i := 5) sc_w_tree.nd rfl (.inl rfl) (pe_call G_w_of (hr.mono (by omega)) (by rfl) T.g_w_of T.F_w_of.kp T.b_w_of .nil pass0 (pa_cons (pv 3) (pa_cons (pv 2) pa_nil))))
  (pss_cons (ps_set (i := 6) sc_w_tree.nd rfl (.inl rfl) (pe_ix ix_str pe_str (pe_callB call_len (by rfl) T.n_len (by decide +kernel) (pa_cons (pv 3) pa_nil)) (fun _ _ => rfl)))
  (pss_cons (ps_if (PW.pt (pw_and (pt_cmpR op_le (pv 4) pe_int (nomark _)) (pw_and1 (pt_cmpR (op_eqD hr.units) (pv 5) (pe_lst pa_nil) (nomark _)))))
  (pss_one (ps_ret (pe_tup (pa_cons pe_str (pa_cons (pv 6) (pa_cons (pe_ifExp (pt_cmpR op_eq (pv 2) pe_str (nomark _)) (pe_tup (pa_cons pe_str (pa_cons pe_int pa_nil))) (pe_tup (pa_cons pe_str pa_nil))) (pa_cons (pe_tup (pa_cons pe_str (pa_cons (pv 6) pa_nil))) pa_nil)))))))
  pss_nil)
  (pss_cons (ps_if (PW.pt (pw_or (pt_cmpR op_le (pv 4) pe_int (nomark _)) (pw_or1 (PW.pt (pw_and (pt_cmpR (op_neD hr.units) (pv 5) (pe_lst pa_nil) (nomark _)) (pw_and1 (pt_cmpR op_eq (pe_call G_w_drawn (hr.mono (by omega)) (by rfl) T.g_w_drawn T.F_w_drawn.kp T.b_w_drawn .nil pass0 (pa_cons (pv 0) (pa_cons pe_int pa_nil))) pe_int (nomark _))))))))
  (pss_one (ps_ret (pe_tup (pa_cons pe_str (pa_cons (pe_ix ix_list (pv 5) (pe_call G_w_drawn (hr.mono (by omega)) (by rfl) T.g_w_drawn T.F_w_drawn.kp T.b_w_drawn .nil pass0 (pa_cons (pv 0) (pa_cons (pe_callB call_len (by rfl) T.n_len (by decide +kernel) (pa_cons (pv 5) pa_nil)) pa_nil))) (fun _ _ => rfl)) pa_nil)))))
  pss_nil)
  (pss_cons (ps_set (i := 7) sc_w_tree.nd rfl (.inl rfl) (pe_call G_w_drawn (hr.mono (by omega)) (by rfl) T.g_w_drawn T.F_w_drawn.kp T.b_w_drawn .nil pass0 (pa_cons (pv 0) (pa_cons pe_int pa_nil))))
  (pss_cons (ps_if (pt_cmpR op_lt (pv 7) pe_int (nomark _))
  (pss_cons (ps_asg (pe_call G_w_deed (hr.mono (by omega)) (by rfl) T.g_w_deed T.F_w_deed.kp T.b_w_deed .nil pass0 (pa_cons (pv 0) (pa_cons (pv 1) (pa_cons (pv 3) pa_nil)))) (pg_tup (by rfl) (pgs_cons (pg_name (i := 8) sc_w_tree.nd rfl (.inl rfl)) (pgs_cons (pg_name (i := 9) sc_w_tree.nd rfl (.inl rfl)) pgs_nil))))
  (pss_one (ps_ret (pe_tup (pa_cons pe_str (pa_cons (pv 6) (pa_cons (pv 8) (pa_cons (pe_call G_w_tree (hr.mono (by omega)) (by rfl) T.g_w_tree T.F_w_tree.kp T.b_w_tree .nil pass0 (pa_cons (pv 0) (pa_cons (pv 1) (pa_cons (pv 2) (pa_cons (pe_op op_cat (pv 3) (pe_lst (pa_cons (pe_tup (pa_cons (pv 6) (pa_cons (pv 9) pa_nil))) pa_nil))) (pa_cons (pe_op op_sub (pv 4) pe_int) pa_nil)))))) pa_nil))))))))
  pss_nil)
  (pss_cons (ps_set (i := 10) sc_w_tree.nd rfl (.inl rfl) (pe_tup (pa_cons (pe_ix ix_list (pe_lst (pa_cons pe_str (pa_cons pe_str pa_nil))) (pe_op op_sub (pv 7) pe_int) (fun _ _ => rfl)) (pa_cons (pe_call G_w_measure (hr.mono (by omega)) (by rfl) T.g_w_measure T.F_w_measure.kp T.b_w_measure .nil pass0 (pa_cons (pv 0) (pa_cons (pv 3) pa_nil))) (pa_cons (pe_call G_w_measure (hr.mono (by omega)) (by rfl) T.g_w_measure T.F_w_measure.kp T.b_w_measure .nil pass0 (pa_cons (pv 0) (pa_cons (pv 3) pa_nil))) (pa_cons (pe_op op_sub (pe_call G_w_drawn (hr.mono (by omega)) (by rfl) T.g_w_drawn T.F_w_drawn.kp T.b_w_drawn .nil pass0 (pa_cons (pv 0) (pa_cons pe_int pa_nil))) pe_int) pa_nil))))))
  (pss_cons (ps_setLc (i := 11) (own := [("_law_k", 12)]) (g := (gName 12)) (tt := tYes) (te := _) rfl sc_w_tree.nd rfl rfl (sw_true rfl rfl rfl (by decide +kernel)) (pi_range1 (by rfl) T.n_range (pa_cons (pe_op op_sub pe_int (pv 7)) pa_nil)) (blkOk_by (N := N_w_tree) (sc := defScope s_w_tree) (by decide +kernel)) (fun _ _ _ _ _ => (pg_name (i := 12) sc_w_tree.nd rfl (.inl rfl))) (fun _ _ _ _ _ => pts_nil) (fun _ _ _ _ _ => (pe_call G_w_tree (hr.mono (by omega)) (by rfl) T.g_w_tree T.F_w_tree.kp T.b_w_tree .nil pass0 (pa_cons (pv 0) (pa_cons (pv 1) (pa_cons (pv 2) (pa_cons (pv 3) (pa_cons (pe_op op_sub (pe_op op_sub (pv 4) pe_int) (pv 12)) pa_nil))))))))
  (pss_one (ps_ret (pe_op op_catT (pv 10) (pe_callTy cr_tupF (by rfl) T.n_tuple (by decide +kernel) (pa_cons (pv 11) pa_nil))))))))))))), ?_⟩
    refine ⟨_, rfl, _, rfl, l, kd, ns, rfl, hkn, by omega, fun H0 p5 s0 n5 e5 => ?_⟩
    have p5st : p5 ≠ st := dw.ne n5
    have nx : ∀ x ∈ namesOf ns kd, look ns x = some kd := fun x hx => namesOf_look hok hx
    have lnm := namesOf_len ns kd
    have hkn0 : KnAt K H0 l ns := hkn.same s0
    have dw0 : Dw K B H0 st := dw.step s0
    have hhs0 := hhs.same s0
    have sB0 : Same B H0 := sB.trans s0
    obtain ⟨qs, eqs, hqs⟩ := id hkn0
    have lqs : qs.length = ns.length := Paired.length hqs
    refine ⟨_, rfl, _, _, rfl, .inl ⟨_, SqL.of eqs, rfl⟩, _, _, _, rfl, rfl, by decide +kernel, atI_nat (by rw [List.length_map, lqs]; exact abc_at ns.length (by omega)), ?_⟩
    have nmok : okName (lt ns.length) := lt_ok _ (by omega)
    have nmfr := hok.fresh
    have t2 := tsz_two deep.toNat
    by_cases hdeep : deep ≤ 0
    · have e0 : deep.toNat = 0 := by omega
      refine ⟨_, rfl, _, _, rfl, rfl, _, rfl, itd hdeep ⟨_, rfl, by show 0 ≤ sizeLine; decide, fun l2 hl2 => ?_⟩⟩
      have sl2 := same_upd (o := .lst []) hl2
      have eL := sl2 _ _ e5
      have el2 : upd H0 l2 (.lst []) l2 = some (.lst []) := upd_same
      generalize upd H0 l2 (.lst []) = HL at sl2 eL el2 ⊢
      refine ⟨.list ((namesOf ns kd).map PyData.str), .list [], strs_dp eL, .lst (SqL.of el2) .nil, strs_shaped _ (names_strOk hok (by omega) kd), by decide +kernel, _, rfl, ?_⟩
      have xL : SameX st H0 HL := sameX_of sl2
      have dwL : Dw K B HL st := dw0.step sl2
      generalize namesOf ns kd = N at eL nx lnm ⊢
      cases N with
      | nil =>
        have q3 : ∀ (td : Addr) (H3 : Hp) (dd : Dd), Same HL H3 → Im K H3 (.ref td) dd.d → dd.ok (hdsOf hs) ns kd → ∀ t4 t5, H3 t4 = none → upd H3 t4 (.tup [.str "tell", .str (lt ns.length)]) t5 = none →
            Q (.ref t5) (upd (upd H3 t4 (.tup [.str "tell", .str (lt ns.length)])) t5 (.tup [.str "let", .str (lt ns.length), .ref td, .ref t4])) := fun td H3 dd s3 i3 ok3 t4 t5 h4 h5 => by
          have s4 := same_upd (o := .tup [.str "tell", .str (lt ns.length)]) h4
          have s5 := same_upd (o := .tup [.str "let", .str (lt ns.length), .ref td, .ref t4]) h5
          have i4 : Im K (upd H3 t4 (.tup [.str "tell", .str (lt ns.length)])) (.ref t4) (.tuple [.str "tell", .str (lt ns.length)]) := .tup (.inl (.inl upd_same)) (.cons (.str _) (.cons (.str _) .nil))
          have sA := sl2.trans (s3.trans (s4.trans s5))
          exact q _ _ (.let_ (lt ns.length) dd (.tell (lt ns.length))) (sameX_of (s0.trans sA)) (dw0.step sA) (.tup (.inl (.inl upd_same)) (.cons (.str _) (.cons (.str _) (.cons (i3.same (sameI_of (s4.trans s5))) (.cons (i4.same (sameI_of s5)) .nil)))))
            ⟨⟨nmok, nmfr, kd, ok3, look_snoc nmfr⟩, lt_len _, True.intro⟩ (by show 1 + 1 ≤ _; omega) (by show 1 + 1 ≤ _; omega)
        refine itd_true ?_
        refine ⟨_, rfl, _, rfl, rfl, _, rfl, ?_⟩
        cases kd with
        | num =>
          refine itd (p := Kd.num.v = V.str "number") rfl ⟨by show 2 ≤ sizeLine; decide, fun td htd => ⟨_, rfl, by show 2 ≤ sizeLine; decide, fun t4 h4 => ⟨by show 4 ≤ sizeLine; decide, fun t5 h5 => ?_⟩⟩⟩
          exact q3 td _ (.num 1) (same_upd htd) (.tup (.inl (.inl upd_same)) (.cons (.str _) (.cons (.int _) .nil))) ⟨by unfold near; decide, rfl⟩ t4 t5 h4 h5
        | lst =>
          refine itn (p := Kd.lst.v = V.str "number") (by decide +kernel) ⟨by show 1 ≤ sizeLine; decide, fun td htd => ⟨_, rfl, by show 2 ≤ sizeLine; decide, fun t4 h4 => ⟨by show 4 ≤ sizeLine; decide, fun t5 h5 => ?_⟩⟩⟩
          exact q3 td _ .nil (same_upd htd) (.tup (.inl (.inl upd_same)) (.cons (.str _) .nil)) rfl t4 t5 h4 h5
      | cons x0 r0 =>
        refine itn_false ?_
        refine ⟨_, rfl, _, _, rfl, rfl, _, rfl, itd hdeep ?_⟩
        · refine iteT ?_
          have lN : 1 ≤ (x0 :: r0).length := by simp
          refine ⟨_, rfl, _, rfl, _, rfl, _, (x0 :: r0).length, rfl, .inl ⟨_, SqL.of eL, (List.length_map _).symm⟩, B, st, _, rfl, SameX.same sB0 xL nB, nB, dwL, by omega, by omega, fun HT k k0 k1 xT dwT => ?_⟩
          obtain ⟨j, rfl⟩ := Int.eq_ofNat_of_zero_le k0
          have hj : j < (x0 :: r0).length := by omega
          refine ⟨p5, _, _, _, rfl, rfl, SqL.of (xT _ _ p5st eL), atI_nat (by rw [List.getElem?_map, List.getElem?_eq_getElem hj]; rfl), by show 2 ≤ sizeLine; decide, fun tt htt => ?_⟩
          have sT := same_upd (o := .tup [.str "tell", .str (x0 :: r0)[j]]) htt
          exact q _ _ (.tell (x0 :: r0)[j]) ((sameX_of s0).trans (xL.trans (xT.trans (sameX_of sT)))) (dwT.step sT) (.tup (.inl (.inl upd_same)) (.cons (.str _) (.cons (.str _) .nil))) ⟨nx _ (List.getElem_mem hj), True.intro⟩ (by show 1 ≤ _; omega) (by show 1 ≤ _; omega)
    · refine ⟨_, rfl, _, _, rfl, rfl, _, rfl, itn hdeep (iteF ?_)⟩
      refine ⟨_, rfl, _, _, rfl, rfl, _, rfl, itn hdeep ⟨_, rfl, by show 0 ≤ sizeLine; decide, fun l2 hl2 => ?_⟩⟩
      have sl2 := same_upd (o := .lst []) hl2
      have eL := sl2 _ _ e5
      have el2 : upd H0 l2 (.lst []) l2 = some (.lst []) := upd_same
      generalize upd H0 l2 (.lst []) = HL at sl2 eL el2 ⊢
      refine ⟨.list ((namesOf ns kd).map PyData.str), .list [], strs_dp eL, .lst (SqL.of el2) .nil, strs_shaped _ (names_strOk hok (by omega) kd), by decide +kernel, _, rfl, ?_⟩
      have xL : SameX st H0 HL := sameX_of sl2
      have dwL : Dw K B HL st := dw0.step sl2
      generalize namesOf ns kd = N at eL nx lnm ⊢
      cases N with
      | nil =>
        refine iteF (iteF ?_)
        have x1 := xL
        have dw1 := dwL
        generalize HL = H1 at x1 dw1 ⊢
        refine ⟨_, rfl, B, st, 6, rfl, SameX.same sB0 x1 nB, nB, dw1, by decide, by decide, fun H2 wy w0 w6 x2 dw2 => ?_⟩
        have x12 := x1.trans x2
        have hkn2 := hkn0.step dw0 x12
        have hhs2 := hhs0.step dw0 x12
        have sB2 := SameX.same sB0 x12 nB
        have d1 : 1 ≤ deep.toNat := by omega
        refine ⟨_, rfl, _, _, rfl, rfl, _, rfl, ite2 (fun hw => ?_) (fun hw => ?_)⟩
        · refine ⟨_, rfl, _, rfl, _, rfl, B, st, hl, l, hs, ns, rfl, sB2, nB, dw2, hhs2, lhs, lpar, hkn2, hok, by omega, fun H3 y x3 dw3 ⟨dd, kd2, t1, t2, xs, ds, ey, q1, q2, q3, q4, q5⟩ => ?_⟩
          subst ey
          refine ⟨t2, _, rfl, q1, rfl, _, _, rfl, _, _, rfl, rfl, ?_⟩
          have x13 := x12.trans x3
          obtain ⟨qs3, eq3, hq3⟩ := hkn0.step dw0 x13
          have lq3 : qs3.length = ns.length := Paired.length hq3
          refine ⟨_, rfl, _, rfl, _, rfl, _, rfl, _, rfl, _, rfl, _, rfl, _, rfl, by show 2 ≤ sizeLine; decide, fun tp htp => ⟨by show 1 ≤ sizeLine; decide, fun l1 hl1 => ?_⟩⟩
          have sp1 := same_upd (o := .tup [.str (lt ns.length), kd2.v]) htp
          have sp2 := same_upd (o := .lst [.ref tp]) hl1
          refine ⟨l, l1, qs3.map V.ref, [.ref tp], rfl, rfl, sp2 _ _ (sp1 _ _ eq3), upd_same, small (by rw [List.length_map]; show qs3.length + 1 ≤ _; omega), fun l3 hl3 => ?_⟩
          have sp3 := same_upd (o := .lst (qs3.map V.ref ++ [.ref tp])) hl3
          have sp := sp1.trans (sp2.trans sp3)
          have kn4 : KnAt K _ l3 (ns ++ [(lt ns.length, kd2)]) := ⟨qs3 ++ [tp], by rw [List.map_append]; exact upd_same, paired_append (Paired.mapP hq3 fun _ _ q => q.same (sameI_of sp)) (.cons (show PrAt K _ tp (lt ns.length, kd2) from .inl (.inl ((sp2.trans sp3) _ _ upd_same))) .nil)⟩
          have hhs4 := (hhs0.step dw0 x13).same sp
          have dw4 := dw3.step sp
          have sB4 := (SameX.same sB0 x13 nB).trans sp
          have q1' := (sameI_of sp).tup q1
          have q2' := (sameI_of sp).tup q2
          have q3' := q3.same (sameI_of sp)
          refine ⟨_, rfl, _, _, rfl, rfl, hG _ _ _ _ (n - 1) (by omega) ⟨B, st, hl, l3, kd, hs, ns ++ [(lt ns.length, kd2)], deep - 1, rfl, by omega, by omega, by omega, sB4, nB, dw4, hhs4, lhs, lpar, kn4, hok.snoc kd2, by rw [List.length_append]; show ns.length + 1 + _ ≤ _; omega, fun H5 y5 t5 x5 dw5 i5 ok5 sz5 dp5 => ⟨by show 4 ≤ sizeLine; decide, fun t6 ht6 => ?_⟩⟩⟩
          have s6 := same_upd (o := .tup [.str "let", .str (lt ns.length), .ref t1, y5]) ht6
          have e1 : (deep - 1).toNat = deep.toNat - 1 := by omega
          rw [e1] at sz5 dp5
          have up := tsz_up (deep.toNat - 1)
          rw [Nat.sub_add_cancel d1] at up
          have idd : Im K H5 (.ref t1) dd.d := by rw [q4]; exact (Im.tup q2' q3').same (dw4.i x5)
          exact q _ _ (.let_ (lt ns.length) dd t5) ((sameX_of s0).trans (x13.trans ((sameX_of sp).trans (x5.trans (sameX_of s6))))) (dw5.step s6)
            (.tup (.inl (.inl upd_same)) (.cons (.str _) (.cons (.str _) (.cons (idd.same (sameI_of s6)) (.cons (i5.same (sameI_of s6)) .nil))))) ⟨⟨nmok, nmfr, kd2, q5, ok5.1⟩, lt_len _, ok5.2⟩ (by show t5.size + 1 ≤ _; omega) (by show t5.deep + 1 ≤ _; omega)
        · have w4 : 4 ≤ wy := by have : ¬ wy < 4 := fun z => hw (decide_eq_true z); omega
          refine ⟨by show 2 ≤ sizeLine; decide, fun L hL => ?_⟩
          have sL := same_upd (o := .lst [.str "if", .str "claim"]) hL
          have eLL : upd H2 L (.lst [.str "if", .str "claim"]) L = some (.lst [.str "if", .str "claim"]) := upd_same
          generalize upd H2 L (.lst [.str "if", .str "claim"]) = H3 at sL eLL ⊢
          have x13 := x12.trans (sameX_of sL)
          have dw3 := dw2.step sL
          have hw : ∃ wd : Str, atI [V.str "if", V.str "claim"] (wy - 4) = some (.str wd) ∧ ((wy = 4 ∧ wd = "if") ∨ (wy = 5 ∧ wd = "claim")) := by
            by_cases e : wy = 4
            · subst e
              exact ⟨_, rfl, .inl ⟨rfl, rfl⟩⟩
            · obtain rfl : wy = 5 := by omega
              exact ⟨_, rfl, .inr ⟨rfl, rfl⟩⟩
          obtain ⟨wd, hwd, hwy⟩ := hw
          refine ⟨_, rfl, _, _, rfl, rfl, L, _, _, _, rfl, rfl, SqL.of eLL, hwd, ?_⟩
          refine ⟨_, rfl, _, rfl, B, st, l, ns, rfl, SameX.same sB0 x13 nB, nB, dw3, hkn0.step dw0 x13, hok, by omega, fun H4 v1 m1 x4 dw4 i1 ok1 => ?_⟩
          have x14 := x13.trans x4
          refine ⟨_, rfl, _, rfl, B, st, l, ns, rfl, SameX.same sB0 x14 nB, nB, dw4, hkn0.step dw0 x14, hok, by omega, fun H5 v2 m2 x5 dw5 i2 ok2 => ?_⟩
          have x15 := x14.trans x5
          refine ⟨_, rfl, B, st, 5, rfl, SameX.same sB0 x15 nB, nB, dw5, by decide, by decide, fun H6 d d0 d5 x6 dw6 => ⟨_, _, rfl, rfl, by show 4 ≤ sizeLine; decide, fun th hth => ?_⟩⟩
          have nr : near (d - 2) := by unfold near; omega
          have sh := same_upd (o := .tup [.str wd, v1, v2, .int (d - 2)]) hth
          have eh : upd H6 th (.tup [.str wd, v1, v2, .int (d - 2)]) th = some (.tup [.str wd, v1, v2, .int (d - 2)]) := upd_same
          have i1' : Im K (upd H6 th (.tup [.str wd, v1, v2, .int (d - 2)])) v1 m1.d := ((i1.same (dw4.i x5)).same (dw5.i x6)).same (sameI_of sh)
          have i2' : Im K (upd H6 th (.tup [.str wd, v1, v2, .int (d - 2)])) v2 m2.d := (i2.same (dw5.i x6)).same (sameI_of sh)
          refine gen_heap (H' := upd H6 th (.tup [.str wd, v1, v2, .int (d - 2)])) (fun H7 sh eh i1' i2' => ?_) sh eh i1' i2'
          have x17 := x15.trans (x6.trans (sameX_of sh))
          have dw7 := dw6.step sh
          refine ⟨_, rfl, _, _, rfl, rfl, _, rfl, by omega, by omega, fun D hD => ?_⟩
          have dst : D ≠ st := dw7.ne hD
          refine walk_by (walk_range (n := (6 - wy).toNat)) (fun k H8 => SameX st H7 H8 ∧ Dw K B H8 st ∧ ∃ acc, H8 D = some (.lst acc) ∧ acc.length = k ∧ ∀ (j : Nat) y, acc[j]? = some y → ∃ t : Tr, Im K H8 y t.d ∧ t.ok1 (hdsOf hs) kd ns ∧ t.size ≤ tsz (deep.toNat - 1 - j) ∧ t.deep ≤ deep.toNat + 1)
            ⟨(SameX.refl _ _).new hD, dw7.upd dst, [], upd_same, rfl, fun j y e => by simp at e⟩ (fun _ _ _ _ => True.intro) ?_ ?_
          · rintro k vk H8 H8p hk ⟨x8, dw8, acc, eD, lacc, hacc⟩ ⟨rfl, hvk⟩
            obtain rfl : vk = .int (k : Nat) := by
              rw [hvk]
              show V.int ((0 : Int) + ((k : Nat) : Int)) = _
              rw [Int.zero_add]
            have x18 := x17.trans x8
            refine ⟨rfl, yes_te ⟨_, rfl, _, rfl, _, rfl, _, rfl, _, rfl, _, _, rfl, rfl, _, rfl, _, _, rfl, rfl, hG _ _ _ _ (n - 1) (by omega) ⟨B, st, hl, l, kd, hs, ns, deep - 1 - (k : Nat), rfl, by omega, by omega, by omega, SameX.same sB0 x18 nB, nB, dw8, hhs0.step dw0 x18, lhs, lpar, hkn0.step dw0 x18, hok, by omega, fun H9 y9 t9 x9 dw9 i9 ok9 sz9 dp9 => ?_⟩⟩⟩
            have e9 : H9 D = some (.lst acc) := x9 _ _ dst eD
            have si := sameI_upd (o := .lst (acc ++ [y9])) e9 id
            have ek : (deep - 1 - ((k : Nat) : Int)).toNat = deep.toNat - 1 - k := by omega
            rw [ek] at sz9 dp9
            refine ⟨acc, e9, smaller (by omega), (x8.trans x9).old hD, dw9.upd dst, acc ++ [y9], upd_same, by rw [List.length_append, lacc]; rfl, fun j y hy => ?_⟩
            rcases Nat.lt_or_ge j acc.length with hj | hj
            · rw [List.getElem?_append_left hj] at hy
              obtain ⟨t, h1, h2⟩ := hacc j y hy
              exact ⟨t, (h1.same (dw8.i x9)).same si, h2⟩
            · rw [List.getElem?_append_right hj] at hy
              have e0 : j - acc.length = 0 := by
                rcases Nat.eq_zero_or_pos (j - acc.length) with h | h
                · exact h
                · rw [List.getElem?_eq_none (by show 1 ≤ _; exact h)] at hy
                  cases hy
              rw [e0] at hy
              cases hy
              have ej : j = k := by omega
              rw [ej]
              exact ⟨t9, i9.same si, ok9, sz9, by omega⟩
          · rintro H8 ⟨x8, dw8, acc, eD, lacc, hacc⟩
            have x18 := x17.trans x8
            have i1'' := i1'.same (dw7.i x8)
            have i2'' := i2'.same (dw7.i x8)
            have hth7 : SqT K H7 th _ := .inl (.inl eh)
            have hth8 := (dw7.i x8).tup hth7
            refine ⟨_, rfl, _, rfl, D, _, rfl, SqL.of eD, fun t8 its8 ht8 => ?_⟩
            have s8 := same_upd (o := .frz (tupObj its8) (.tup acc)) ht8
            have e8 : SqT K (upd H8 t8 (.frz (tupObj its8) (.tup acc))) t8 acc := .inl (.inr ⟨_, upd_same⟩)
            refine ⟨th, t8, _, acc, rfl, rfl, Same.tup s8 hth8, e8, List.cons_ne_nil _ _, small (by show 4 + acc.length ≤ _; omega), fun e => ?_, fun _ p hp => ?_⟩
            · rw [e] at lacc
              have : (0 : Nat) = (6 - wy).toNat := lacc
              omega
            have s9 := same_upd (o := .tup ([.str wd, v1, v2, .int (d - 2)] ++ acc)) hp
            have s89 := s8.trans s9
            have up := tsz_if deep.toNat d1
            have fin : SameX st H (upd (upd H8 t8 (.frz (tupObj its8) (.tup acc))) p (.tup ([.str wd, v1, v2, .int (d - 2)] ++ acc))) := (sameX_of s0).trans (x18.trans (sameX_of s89))
            have dwf := dw8.step s89
            rcases hwy with ⟨e4, rfl⟩ | ⟨e5, rfl⟩
            · have l2 : acc.length = 2 := by rw [lacc, e4]; rfl
              obtain ⟨y0, y1, rfl⟩ : ∃ y0 y1, acc = [y0, y1] := by
                match acc, l2 with
                | [y0, y1], _ => exact ⟨y0, y1, rfl⟩
              obtain ⟨ta, a1, a2, a3, a4⟩ := hacc 0 y0 rfl
              obtain ⟨tb, b1, b2, b3, b4⟩ := hacc 1 y1 rfl
              refine q _ _ (.if_ m1 m2 (d - 2) ta tb) fin dwf ?_ ⟨⟨ok1, ok2, nr, a2.1, b2.1⟩, a2.2, b2.2⟩ ?_ ?_
              · exact .tup (.inl (.inl upd_same)) (.cons (.str _) (.cons (i1''.same (sameI_of s89)) (.cons (i2''.same (sameI_of s89)) (.cons (.int _) (.cons (a1.same (sameI_of s89)) (.cons (b1.same (sameI_of s89)) .nil))))))
              · show ta.size + tb.size + 1 ≤ _
                have h1 : deep.toNat - 1 - 0 = deep.toNat - 1 := rfl
                have h2 : deep.toNat - 1 - 1 = deep.toNat - 2 := by omega
                rw [h1] at a3
                rw [h2] at b3
                omega
              · show max ta.deep tb.deep + 1 ≤ _
                omega
            · have l1 : acc.length = 1 := by rw [lacc, e5]; rfl
              obtain ⟨y0, rfl⟩ : ∃ y0, acc = [y0] := by
                match acc, l1 with
                | [y0], _ => exact ⟨y0, rfl⟩
              obtain ⟨ta, a1, a2, a3, a4⟩ := hacc 0 y0 rfl
              refine q _ _ (.claim m1 m2 (d - 2) ta) fin dwf ?_ ⟨⟨ok1, ok2, nr, a2.1⟩, a2.2⟩ ?_ ?_
              · exact .tup (.inl (.inl upd_same)) (.cons (.str _) (.cons (i1''.same (sameI_of s89)) (.cons (i2''.same (sameI_of s89)) (.cons (.int _) (.cons (a1.same (sameI_of s89)) .nil)))))
              · show ta.size + 1 ≤ _
                have h1 : deep.toNat - 1 - 0 = deep.toNat - 1 := rfl
                rw [h1] at a3
                omega
              · show ta.deep + 1 ≤ _
                omega
      | cons x0 r0 =>
        refine iteT ⟨_, rfl, B, st, 5, rfl, SameX.same sB0 xL nB, nB, dwL, by decide, by decide, fun HK dk dk0 dk5 xk dwK => ⟨rfl, _, rfl, ite2 (fun hk => ?_) (fun hk => ?_)⟩⟩
        · replace eL := xk _ _ p5st eL
          replace xL := xL.trans xk
          replace dwL := dwK
          have lN : 1 ≤ (x0 :: r0).length := by simp
          refine ⟨_, rfl, _, rfl, _, rfl, _, (x0 :: r0).length, rfl, .inl ⟨_, SqL.of eL, (List.length_map _).symm⟩, B, st, _, rfl, SameX.same sB0 xL nB, nB, dwL, by omega, by omega, fun HT k k0 k1 xT dwT => ?_⟩
          obtain ⟨j, rfl⟩ := Int.eq_ofNat_of_zero_le k0
          have hj : j < (x0 :: r0).length := by omega
          refine ⟨p5, _, _, _, rfl, rfl, SqL.of (xT _ _ p5st eL), atI_nat (by rw [List.getElem?_map, List.getElem?_eq_getElem hj]; rfl), by show 2 ≤ sizeLine; decide, fun tt htt => ?_⟩
          have sT := same_upd (o := .tup [.str "tell", .str (x0 :: r0)[j]]) htt
          exact q _ _ (.tell (x0 :: r0)[j]) ((sameX_of s0).trans (xL.trans (xT.trans (sameX_of sT)))) (dwT.step sT) (.tup (.inl (.inl upd_same)) (.cons (.str _) (.cons (.str _) .nil))) ⟨nx _ (List.getElem_mem hj), True.intro⟩ (by show 1 ≤ _; omega) (by show 1 ≤ _; omega)
        · have x1 := xL.trans xk
          have dw1 := dwK
          generalize HK = H1 at x1 dw1 ⊢
          refine ⟨_, rfl, B, st, 6, rfl, SameX.same sB0 x1 nB, nB, dw1, by decide, by decide, fun H2 wy w0 w6 x2 dw2 => ?_⟩
          have x12 := x1.trans x2
          have hkn2 := hkn0.step dw0 x12
          have hhs2 := hhs0.step dw0 x12
          have sB2 := SameX.same sB0 x12 nB
          have d1 : 1 ≤ deep.toNat := by omega
          refine ⟨_, rfl, _, _, rfl, rfl, _, rfl, ite2 (fun hw => ?_) (fun hw => ?_)⟩
          · refine ⟨_, rfl, _, rfl, _, rfl, B, st, hl, l, hs, ns, rfl, sB2, nB, dw2, hhs2, lhs, lpar, hkn2, hok, by omega, fun H3 y x3 dw3 ⟨dd, kd2, t1, t2, xs, ds, ey, q1, q2, q3, q4, q5⟩ => ?_⟩
            subst ey
            refine ⟨t2, _, rfl, q1, rfl, _, _, rfl, _, _, rfl, rfl, ?_⟩
            have x13 := x12.trans x3
            obtain ⟨qs3, eq3, hq3⟩ := hkn0.step dw0 x13
            have lq3 : qs3.length = ns.length := Paired.length hq3
            refine ⟨_, rfl, _, rfl, _, rfl, _, rfl, _, rfl, _, rfl, _, rfl, _, rfl, by show 2 ≤ sizeLine; decide, fun tp htp => ⟨by show 1 ≤ sizeLine; decide, fun l1 hl1 => ?_⟩⟩
            have sp1 := same_upd (o := .tup [.str (lt ns.length), kd2.v]) htp
            have sp2 := same_upd (o := .lst [.ref tp]) hl1
            refine ⟨l, l1, qs3.map V.ref, [.ref tp], rfl, rfl, sp2 _ _ (sp1 _ _ eq3), upd_same, small (by rw [List.length_map]; show qs3.length + 1 ≤ _; omega), fun l3 hl3 => ?_⟩
            have sp3 := same_upd (o := .lst (qs3.map V.ref ++ [.ref tp])) hl3
            have sp := sp1.trans (sp2.trans sp3)
            have kn4 : KnAt K _ l3 (ns ++ [(lt ns.length, kd2)]) := ⟨qs3 ++ [tp], by rw [List.map_append]; exact upd_same, paired_append (Paired.mapP hq3 fun _ _ q => q.same (sameI_of sp)) (.cons (show PrAt K _ tp (lt ns.length, kd2) from .inl (.inl ((sp2.trans sp3) _ _ upd_same))) .nil)⟩
            have hhs4 := (hhs0.step dw0 x13).same sp
            have dw4 := dw3.step sp
            have sB4 := (SameX.same sB0 x13 nB).trans sp
            have q1' := (sameI_of sp).tup q1
            have q2' := (sameI_of sp).tup q2
            have q3' := q3.same (sameI_of sp)
            refine ⟨_, rfl, _, _, rfl, rfl, hG _ _ _ _ (n - 1) (by omega) ⟨B, st, hl, l3, kd, hs, ns ++ [(lt ns.length, kd2)], deep - 1, rfl, by omega, by omega, by omega, sB4, nB, dw4, hhs4, lhs, lpar, kn4, hok.snoc kd2, by rw [List.length_append]; show ns.length + 1 + _ ≤ _; omega, fun H5 y5 t5 x5 dw5 i5 ok5 sz5 dp5 => ⟨by show 4 ≤ sizeLine; decide, fun t6 ht6 => ?_⟩⟩⟩
            have s6 := same_upd (o := .tup [.str "let", .str (lt ns.length), .ref t1, y5]) ht6
            have e1 : (deep - 1).toNat = deep.toNat - 1 := by omega
            rw [e1] at sz5 dp5
            have up := tsz_up (deep.toNat - 1)
            rw [Nat.sub_add_cancel d1] at up
            have idd : Im K H5 (.ref t1) dd.d := by rw [q4]; exact (Im.tup q2' q3').same (dw4.i x5)
            exact q _ _ (.let_ (lt ns.length) dd t5) ((sameX_of s0).trans (x13.trans ((sameX_of sp).trans (x5.trans (sameX_of s6))))) (dw5.step s6)
              (.tup (.inl (.inl upd_same)) (.cons (.str _) (.cons (.str _) (.cons (idd.same (sameI_of s6)) (.cons (i5.same (sameI_of s6)) .nil))))) ⟨⟨nmok, nmfr, kd2, q5, ok5.1⟩, lt_len _, ok5.2⟩ (by show t5.size + 1 ≤ _; omega) (by show t5.deep + 1 ≤ _; omega)
          · have w4 : 4 ≤ wy := by have : ¬ wy < 4 := fun z => hw (decide_eq_true z); omega
            refine ⟨by show 2 ≤ sizeLine; decide, fun L hL => ?_⟩
            have sL := same_upd (o := .lst [.str "if", .str "claim"]) hL
            have eLL : upd H2 L (.lst [.str "if", .str "claim"]) L = some (.lst [.str "if", .str "claim"]) := upd_same
            generalize upd H2 L (.lst [.str "if", .str "claim"]) = H3 at sL eLL ⊢
            have x13 := x12.trans (sameX_of sL)
            have dw3 := dw2.step sL
            have hw : ∃ wd : Str, atI [V.str "if", V.str "claim"] (wy - 4) = some (.str wd) ∧ ((wy = 4 ∧ wd = "if") ∨ (wy = 5 ∧ wd = "claim")) := by
              by_cases e : wy = 4
              · subst e
                exact ⟨_, rfl, .inl ⟨rfl, rfl⟩⟩
              · obtain rfl : wy = 5 := by omega
                exact ⟨_, rfl, .inr ⟨rfl, rfl⟩⟩
            obtain ⟨wd, hwd, hwy⟩ := hw
            refine ⟨_, rfl, _, _, rfl, rfl, L, _, _, _, rfl, rfl, SqL.of eLL, hwd, ?_⟩
            refine ⟨_, rfl, _, rfl, B, st, l, ns, rfl, SameX.same sB0 x13 nB, nB, dw3, hkn0.step dw0 x13, hok, by omega, fun H4 v1 m1 x4 dw4 i1 ok1 => ?_⟩
            have x14 := x13.trans x4
            refine ⟨_, rfl, _, rfl, B, st, l, ns, rfl, SameX.same sB0 x14 nB, nB, dw4, hkn0.step dw0 x14, hok, by omega, fun H5 v2 m2 x5 dw5 i2 ok2 => ?_⟩
            have x15 := x14.trans x5
            refine ⟨_, rfl, B, st, 5, rfl, SameX.same sB0 x15 nB, nB, dw5, by decide, by decide, fun H6 d d0 d5 x6 dw6 => ⟨_, _, rfl, rfl, by show 4 ≤ sizeLine; decide, fun th hth => ?_⟩⟩
            have nr : near (d - 2) := by unfold near; omega
            have sh := same_upd (o := .tup [.str wd, v1, v2, .int (d - 2)]) hth
            have eh : upd H6 th (.tup [.str wd, v1, v2, .int (d - 2)]) th = some (.tup [.str wd, v1, v2, .int (d - 2)]) := upd_same
            have i1' : Im K (upd H6 th (.tup [.str wd, v1, v2, .int (d - 2)])) v1 m1.d := ((i1.same (dw4.i x5)).same (dw5.i x6)).same (sameI_of sh)
            have i2' : Im K (upd H6 th (.tup [.str wd, v1, v2, .int (d - 2)])) v2 m2.d := (i2.same (dw5.i x6)).same (sameI_of sh)
            refine gen_heap (H' := upd H6 th (.tup [.str wd, v1, v2, .int (d - 2)])) (fun H7 sh eh i1' i2' => ?_) sh eh i1' i2'
            have x17 := x15.trans (x6.trans (sameX_of sh))
            have dw7 := dw6.step sh
            refine ⟨_, rfl, _, _, rfl, rfl, _, rfl, by omega, by omega, fun D hD => ?_⟩
            have dst : D ≠ st := dw7.ne hD
            refine walk_by (walk_range (n := (6 - wy).toNat)) (fun k H8 => SameX st H7 H8 ∧ Dw K B H8 st ∧ ∃ acc, H8 D = some (.lst acc) ∧ acc.length = k ∧ ∀ (j : Nat) y, acc[j]? = some y → ∃ t : Tr, Im K H8 y t.d ∧ t.ok1 (hdsOf hs) kd ns ∧ t.size ≤ tsz (deep.toNat - 1 - j) ∧ t.deep ≤ deep.toNat + 1)
              ⟨(SameX.refl _ _).new hD, dw7.upd dst, [], upd_same, rfl, fun j y e => by simp at e⟩ (fun _ _ _ _ => True.intro) ?_ ?_
            · rintro k vk H8 H8p hk ⟨x8, dw8, acc, eD, lacc, hacc⟩ ⟨rfl, hvk⟩
              obtain rfl : vk = .int (k : Nat) := by
                rw [hvk]
                show V.int ((0 : Int) + ((k : Nat) : Int)) = _
                rw [Int.zero_add]
              have x18 := x17.trans x8
              refine ⟨rfl, yes_te ⟨_, rfl, _, rfl, _, rfl, _, rfl, _, rfl, _, _, rfl, rfl, _, rfl, _, _, rfl, rfl, hG _ _ _ _ (n - 1) (by omega) ⟨B, st, hl, l, kd, hs, ns, deep - 1 - (k : Nat), rfl, by omega, by omega, by omega, SameX.same sB0 x18 nB, nB, dw8, hhs0.step dw0 x18, lhs, lpar, hkn0.step dw0 x18, hok, by omega, fun H9 y9 t9 x9 dw9 i9 ok9 sz9 dp9 => ?_⟩⟩⟩
              have e9 : H9 D = some (.lst acc) := x9 _ _ dst eD
              have si := sameI_upd (o := .lst (acc ++ [y9])) e9 id
              have ek : (deep - 1 - ((k : Nat) : Int)).toNat = deep.toNat - 1 - k := by omega
              rw [ek] at sz9 dp9
              refine ⟨acc, e9, smaller (by omega), (x8.trans x9).old hD, dw9.upd dst, acc ++ [y9], upd_same, by rw [List.length_append, lacc]; rfl, fun j y hy => ?_⟩
              rcases Nat.lt_or_ge j acc.length with hj | hj
              · rw [List.getElem?_append_left hj] at hy
                obtain ⟨t, h1, h2⟩ := hacc j y hy
                exact ⟨t, (h1.same (dw8.i x9)).same si, h2⟩
              · rw [List.getElem?_append_right hj] at hy
                have e0 : j - acc.length = 0 := by
                  rcases Nat.eq_zero_or_pos (j - acc.length) with h | h
                  · exact h
                  · rw [List.getElem?_eq_none (by show 1 ≤ _; exact h)] at hy
                    cases hy
                rw [e0] at hy
                cases hy
                have ej : j = k := by omega
                rw [ej]
                exact ⟨t9, i9.same si, ok9, sz9, by omega⟩
            · rintro H8 ⟨x8, dw8, acc, eD, lacc, hacc⟩
              have x18 := x17.trans x8
              have i1'' := i1'.same (dw7.i x8)
              have i2'' := i2'.same (dw7.i x8)
              have hth7 : SqT K H7 th _ := .inl (.inl eh)
              have hth8 := (dw7.i x8).tup hth7
              refine ⟨_, rfl, _, rfl, D, _, rfl, SqL.of eD, fun t8 its8 ht8 => ?_⟩
              have s8 := same_upd (o := .frz (tupObj its8) (.tup acc)) ht8
              have e8 : SqT K (upd H8 t8 (.frz (tupObj its8) (.tup acc))) t8 acc := .inl (.inr ⟨_, upd_same⟩)
              refine ⟨th, t8, _, acc, rfl, rfl, Same.tup s8 hth8, e8, List.cons_ne_nil _ _, small (by show 4 + acc.length ≤ _; omega), fun e => ?_, fun _ p hp => ?_⟩
              · rw [e] at lacc
                have : (0 : Nat) = (6 - wy).toNat := lacc
                omega
              have s9 := same_upd (o := .tup ([.str wd, v1, v2, .int (d - 2)] ++ acc)) hp
              have s89 := s8.trans s9
              have up := tsz_if deep.toNat d1
              have fin : SameX st H (upd (upd H8 t8 (.frz (tupObj its8) (.tup acc))) p (.tup ([.str wd, v1, v2, .int (d - 2)] ++ acc))) := (sameX_of s0).trans (x18.trans (sameX_of s89))
              have dwf := dw8.step s89
              rcases hwy with ⟨e4, rfl⟩ | ⟨e5, rfl⟩
              · have l2 : acc.length = 2 := by rw [lacc, e4]; rfl
                obtain ⟨y0, y1, rfl⟩ : ∃ y0 y1, acc = [y0, y1] := by
                  match acc, l2 with
                  | [y0, y1], _ => exact ⟨y0, y1, rfl⟩
                obtain ⟨ta, a1, a2, a3, a4⟩ := hacc 0 y0 rfl
                obtain ⟨tb, b1, b2, b3, b4⟩ := hacc 1 y1 rfl
                refine q _ _ (.if_ m1 m2 (d - 2) ta tb) fin dwf ?_ ⟨⟨ok1, ok2, nr, a2.1, b2.1⟩, a2.2, b2.2⟩ ?_ ?_
                · exact .tup (.inl (.inl upd_same)) (.cons (.str _) (.cons (i1''.same (sameI_of s89)) (.cons (i2''.same (sameI_of s89)) (.cons (.int _) (.cons (a1.same (sameI_of s89)) (.cons (b1.same (sameI_of s89)) .nil))))))
                · show ta.size + tb.size + 1 ≤ _
                  have h1 : deep.toNat - 1 - 0 = deep.toNat - 1 := rfl
                  have h2 : deep.toNat - 1 - 1 = deep.toNat - 2 := by omega
                  rw [h1] at a3
                  rw [h2] at b3
                  omega
                · show max ta.deep tb.deep + 1 ≤ _
                  omega
              · have l1 : acc.length = 1 := by rw [lacc, e5]; rfl
                obtain ⟨y0, rfl⟩ : ∃ y0, acc = [y0] := by
                  match acc, l1 with
                  | [y0], _ => exact ⟨y0, rfl⟩
                obtain ⟨ta, a1, a2, a3, a4⟩ := hacc 0 y0 rfl
                refine q _ _ (.claim m1 m2 (d - 2) ta) fin dwf ?_ ⟨⟨ok1, ok2, nr, a2.1⟩, a2.2⟩ ?_ ?_
                · exact .tup (.inl (.inl upd_same)) (.cons (.str _) (.cons (i1''.same (sameI_of s89)) (.cons (i2''.same (sameI_of s89)) (.cons (.int _) (.cons (a1.same (sameI_of s89)) .nil)))))
                · show ta.size + 1 ≤ _
                  have h1 : deep.toNat - 1 - 0 = deep.toNat - 1 := rfl
                  rw [h1] at a3
                  omega
                · show ta.deep + 1 ≤ _
                  omega
theorem ok_w_tree (T : Tx K w mg A) : ∀ n : Nat, FnOk P w K mg base CX0 (n + 3) A.f_w_tree A.fd_w_tree P_w_tree (spTreeW K n)
  | 0 => step_w_tree (P := P) (base := base) T 0 (fun _ _ _ _ => False) ⟨fun _ _ _ _ h => h.elim, fun _ _ _ _ _ _ _ _ _ _ _ _ _ h => h.elim⟩ fun _ _ _ _ _ e => nomatch e
  | n + 1 => step_w_tree (P := P) (base := base) T (n + 1) (spTreeW K n) (ok_w_tree T n) fun _ _ _ _ _ e h => by
    cases e
    exact h
end
end Cs
namespace Cs
open PySem PySem.Spec L2
abbrev rListOf (K : PySem.W.Frag) : List V → Hp → VK → Prop := fun xs H Q => ∃ p ys, xs = [.ref p] ∧ (SqL K H p ys ∨ SqT K H p ys) ∧ ∀ l, H l = none → Q (.ref l) (upd H l (.lst ys))
def kdOf (d : Int) : Kd := if d = 0 then .num else .lst
theorem kd_at {d : Int} (h0 : 0 ≤ d) (h2 : d < 2) : atI [V.str "number", V.str "list"] d = some (kdOf d).v := by
  by_cases h : d = 0
  · subst h
    rfl
  · obtain rfl : d = 1 := by omega
    rfl
def mkL (ks : List Kd) : Nm := ks.mapIdx fun k kd => (lt k, kd)
theorem mkL_len (ks : List Kd) : (mkL ks).length = ks.length := List.length_mapIdx
theorem mkL_at {ks : List Kd} {k : Nat} {kd : Kd} (h : ks[k]? = some kd) : (mkL ks)[k]? = some (lt k, kd) := by
  unfold mkL
  rw [List.getElem?_mapIdx, h]
  rfl
theorem mkL_ok (ks : List Kd) : KnOk (mkL ks) := fun i p h => by
  unfold mkL at h
  rw [List.getElem?_mapIdx] at h
  obtain ⟨kd, _, rfl⟩ := Option.map_eq_some_iff.mp h
  rfl
theorem KnOk.names {ns : Nm} (h : KnOk ns) (hl : ns.length ≤ 26) : (∀ p ∈ ns, okName p.1) ∧ (ns.map (·.1)).Nodup := by
  refine ⟨fun p hp => ?_, ?_⟩
  · obtain ⟨i, hi, e⟩ := List.mem_iff_getElem.mp hp
    rw [h i p (by rw [List.getElem?_eq_getElem hi, e])]
    exact lt_ok i (by omega)
  · rw [List.nodup_iff_pairwise_ne, List.pairwise_iff_getElem]
    intro i j hi hj hij
    rw [List.getElem_map, List.getElem_map]
    rw [List.length_map] at hi hj
    rw [h i _ (List.getElem?_eq_getElem hi), h j _ (List.getElem?_eq_getElem hj)]
    intro z
    have := lt_inj z
    omega
section
variable {P : Program} {w : World} {K : PySem.W.Frag} {mg : Str → Option Value} {base : Heap} {A : Adr}
theorem fns_of {H : Hp} {hs : List (Nm × Kd)} {R : Fn → Prop} : ∀ (acc : List V) (l : List (Nm × Kd)), acc.length = l.length → (∀ (i : Nat) y, acc[i]? = some y → ∃ h t, l[i]? = some h ∧ FnAt K H y ⟨h.1, h.2, t⟩ ∧ R ⟨h.1, h.2, t⟩) →
    ∃ fs : List Fn, Paired (FnAt K H) acc fs ∧ fs.map (fun f => (f.ps, f.kd)) = l ∧ ∀ f ∈ fs, R f
  | [], [], _, _ => ⟨[], .nil, rfl, fun _ h => by cases h⟩
  | [], _ :: _, e, _ => nomatch e
  | _ :: _, [], e, _ => nomatch e
  | y :: acc, x :: l, e, h => by
    obtain ⟨h1, t, e1, f1, f2⟩ := h 0 y rfl
    cases e1
    obtain ⟨fs, g1, g2, g3⟩ := fns_of (hs := hs) (R := R) acc l (Nat.succ.inj e) fun i y hy => h (i + 1) y hy
    refine ⟨⟨x.1, x.2, t⟩ :: fs, .cons f1 g1, by rw [List.map_cons, g2], fun f hf => ?_⟩
    rcases List.mem_cons.mp hf with e | hf
    · rw [e]; exact f2
    · exact g3 f hf
/-- the heads that are drawn -/
def HdOk (h : Nm × Kd) : Prop := KnOk h.1 ∧ h.1.length ≤ 2
def spProgW (K : PySem.W.Frag) : Sp := fun vs H Q _ => ∃ (B : Hp) (st : Addr) (many deep : Int), vs = [.ref st, .int many, .int deep] ∧ 1 ≤ many ∧ many ≤ 6 ∧ 0 ≤ deep ∧ deep ≤ 5 ∧ Same B H ∧ B st = none ∧ Dw K B H st ∧
  ∀ H1 v fs, SameX st H H1 → Dw K B H1 st → PgAt K H1 v fs → okPg fs → (fs.length : Int) ≤ many → (∀ f ∈ fs, f.ps.length ≤ 2) → (∀ f ∈ fs, f.one) → Q v H1
set_option maxHeartbeats 8000000 in
theorem ok_w_program (T : Tx K w mg A) : FnOk P w K mg base CX0 9 A.f_w_program A.fd_w_program P_w_program (spProgW K) := by
  have G_w_drawn := ok_w_drawn (P := P) (base := base) T
  have G_w_tree := ok_w_tree (P := P) (base := base) T 5
  refine T.F_w_program.ok sc_w_program (fun vs H Q E h => ?_) (fun cdv AA outer s H vs Q E hr h => ?_)
  · obtain ⟨B, st, many, deep, rfl, _⟩ := h
    rfl
  · obtain ⟨B, st, many, deep, rfl, m1, m6, dp0, dp5, sB, nB, dw, q⟩ := h
    refine ⟨_, (pss_cons (ps_set (i := 3) sc_w_program.nd rfl (.inr rfl) (pe_lst pa_nil))
  (pss_cons (ps_for PassesOwn.never rfl (pi_range1 (by rfl) T.n_range (pa_cons (pe_op op_add pe_int (pe_call G_w_drawn (hr.mono (by decide)) (by rfl) T.g_w_drawn T.F_w_drawn.kp T.b_w_drawn .nil pass0 (pa_cons (pv 0) (pa_cons (pv 1) pa_nil)))) pa_nil)) (pg_name (i := 4) sc_w_program.nd rfl (.inl rfl))
  (pss_cons (ps_set (i := 5) sc_w_program.nd rfl (.inr rfl) (pe_lc (own := [("_law_k", 7)]) (g := (gName 7)) (tt := tYes) (te := (tOp (rIxL K) _ _)) rfl sc_w_program.nd (pi_range1 (by rfl) T.n_range (pa_cons (pe_call G_w_drawn (hr.mono (by decide)) (by rfl) T.g_w_drawn T.F_w_drawn.kp T.b_w_drawn .nil pass0 (pa_cons (pv 0) (pa_cons pe_int pa_nil))) pa_nil)) (blkOk_by (N := N_w_program) (sc := defScope s_w_program) (by decide +kernel)) (fun _ _ _ _ _ => (pg_name (i := 7) sc_w_program.nd rfl (.inl rfl))) (fun _ _ _ _ _ => pts_nil) (fun _ _ _ _ _ => (pe_ix ix_list (pe_lst (pa_cons pe_str (pa_cons pe_str pa_nil))) (pe_call G_w_drawn (hr.mono (by decide)) (by rfl) T.g_w_drawn T.F_w_drawn.kp T.b_w_drawn .nil pass0 (pa_cons (pv 0) (pa_cons pe_int pa_nil))) (fun _ _ => rfl)))))
  (pss_cons (ps_set (i := 6) sc_w_program.nd rfl (.inl rfl) (pe_callTy cr_tupF (by rfl) T.n_tuple (by decide +kernel) (pa_cons (pe_lc (own := [("_law_k", 7)]) (g := (gName 7)) (tt := tYes) (te := (tTup (tCons (tOp rIxS _ (tVar 7)) (tCons (tOp (rIxL K) (tVar 5) (tVar 7)) tNil)))) rfl sc_w_program.nd (pi_range1 (by rfl) T.n_range (pa_cons (pe_callB call_len (by rfl) T.n_len (by decide +kernel) (pa_cons (pv 5) pa_nil)) pa_nil)) (blkOk_by (N := N_w_program) (sc := defScope s_w_program) (by decide +kernel)) (fun _ _ _ _ _ => (pg_name (i := 7) sc_w_program.nd rfl (.inl rfl))) (fun _ _ _ _ _ => pts_nil) (fun _ _ _ _ _ => (pe_tup (pa_cons (pe_ix ix_str pe_str (pv 7) (fun _ _ => rfl)) (pa_cons (pe_ix ix_list (pv 5) (pv 7) (fun _ _ => rfl)) pa_nil))))) pa_nil)))
  (pss_one (ps_expr (pe_bm PySem.F.plainAttrs_list PySem.F.slot_list_append PySem.F.type_list_append mt_append (pv 3) (pa_cons (pe_tup (pa_cons (pv 6) (pa_cons (pe_ix ix_list (pe_lst (pa_cons pe_str (pa_cons pe_str pa_nil))) (pe_call G_w_drawn (hr.mono (by decide)) (by rfl) T.g_w_drawn T.F_w_drawn.kp T.b_w_drawn .nil pass0 (pa_cons (pv 0) (pa_cons pe_int pa_nil))) (fun _ _ => rfl)) pa_nil))) pa_nil)))))))
  (pss_one (ps_ret (pe_callTy cr_tupF (by rfl) T.n_tuple (by decide +kernel) (pa_cons (pe_lc (own := [("_law_head", 8)]) (g := (gName 8)) (tt := tYes) (te := (tOp (rCatT K) (tVar 8) (tTup (tCons (tCall _ _ _ (tCons (tVar 0) (tCons (tVar 3) (tCons (tOp (rIxT K) (tVar 8) _) (tCons (tCB (rListOf K) (tCons (tOp (rIxT K) (tVar 8) _) tNil)) (tCons (tVar 2) tNil)))))) tNil)))) rfl sc_w_program.nd (pi_list (pv 3)) (blkOk_by (N := N_w_program) (sc := defScope s_w_program) (by decide +kernel)) (fun _ _ _ _ _ => (pg_name (i := 8) sc_w_program.nd rfl (.inl rfl))) (fun _ _ _ _ _ => pts_nil) (fun _ _ _ _ _ => (pe_op op_catT (pv 8) (pe_tup (pa_cons (pe_call G_w_tree (hr.mono (by decide)) (by rfl) T.g_w_tree T.F_w_tree.kp T.b_w_tree .nil pass0 (pa_cons (pv 0) (pa_cons (pv 3) (pa_cons (pe_ix ix_tup (pv 8) pe_int (fun _ _ => rfl)) (pa_cons (pe_callTy call_list_of (by rfl) T.n_list (by decide +kernel) (pa_cons (pe_ix ix_tup (pv 8) pe_int (fun _ _ => rfl)) pa_nil)) (pa_cons (pv 2) pa_nil)))))) pa_nil))))) pa_nil)))))), ?_⟩
    refine ⟨by show 0 ≤ sizeLine; decide, fun hl hhl => ?_⟩
    have hlst : hl ≠ st := dw.ne hhl
    have sA := same_upd (o := .lst []) hhl
    have eA : upd H hl (.lst []) hl = some (.lst []) := upd_same
    generalize upd H hl (.lst []) = HA at sA eA ⊢
    refine ⟨_, rfl, _, rfl, B, st, many, rfl, sB.trans sA, nB, dw.step sA, by omega, by omega, fun H1 d d0 d1 x1 dw1 => ⟨_, _, rfl, rfl, _, rfl, by omega, by omega, ?_⟩⟩
    have x01 : SameX st H H1 := (sameX_of sA).trans x1
    refine for_it (walk_range (n := (1 + d).toNat)) (fun i σ H2 => ∃ y4 y5 y6 vs hs, σ = [some (.ref st), some (.int many), some (.int deep), some (.ref hl), y4, y5, y6, none, none] ∧ SameX st H H2 ∧ Dw K B H2 st ∧ H2 hl = some (.lst vs) ∧ Paired (HdAt K H2) vs hs ∧ hs.length = i ∧ ∀ h ∈ hs, HdOk h)
      ⟨none, none, none, [], [], rfl, x01, dw1, x1 _ _ hlst eA, .nil, rfl, fun _ h => by cases h⟩ (fun _ _ _ _ _ => True.intro) ?_ ?_
    · rintro i v4 σ H2p H2 hi ⟨y4, y5, y6, hvs, hs, rfl, x2, dw2, ehl, hp, lhs, hok⟩ ⟨rfl, -⟩
      have sB2 := SameX.same sB x2 nB
      refine ⟨_, rfl, B, st, 3, rfl, sB2, nB, dw2, by decide, by decide, fun H3 k k0 k3 x3 dw3 => ⟨_, rfl, by omega, by omega, fun D hD => ?_⟩⟩
      have dst : D ≠ st := dw3.ne hD
      have x03 := x2.trans x3
      have sB3 := SameX.same sB x03 nB
      have ehl3 : H3 hl = some (.lst hvs) := x3 _ _ hlst ehl
      have hp3 : Paired (HdAt K H3) hvs hs := Paired.mapP hp fun _ _ q => q.same (dw2.i x3)
      refine walk_by (walk_range (n := k.toNat)) (fun j H6 => SameX st H3 H6 ∧ Dw K B H6 st ∧ ∃ ks : List Kd, H6 D = some (.lst (ks.map Kd.v)) ∧ ks.length = j)
        ⟨(SameX.refl _ _).new hD, dw3.upd dst, [], upd_same, rfl⟩ (fun _ _ _ _ => True.intro) ?_ ?_
      · rintro j vj H6 H6p hj ⟨x6, dw6, ks, e6, lks⟩ ⟨rfl, -⟩
        refine ⟨rfl, yes_te ⟨by show 2 ≤ sizeLine; decide, fun L hL => ⟨_, rfl, B, st, 2, rfl, SameX.same sB3 (x6.new hL) nB, nB, dw6.upd (dw6.ne hL), by decide, by decide, fun H7 d7 d70 d72 x7 dw7 => ?_⟩⟩⟩
        have lL : L ≠ st := dw6.ne hL
        have eL : H7 L = some (.lst [.str "number", .str "list"]) := x7 _ _ lL upd_same
        have e7 : H7 D = some (.lst (ks.map Kd.v)) := x7 _ _ dst (same_upd hL _ _ e6)
        refine ⟨L, _, d7, (kdOf d7).v, rfl, rfl, SqL.of eL, kd_at d70 d72, _, e7, smaller (by rw [List.length_map]; omega), ?_⟩
        refine ⟨((x6.new hL).trans x7).old hD, dw7.upd dst, ks ++ [kdOf d7], ?_, by rw [List.length_append, lks]; rfl⟩
        rw [upd_same, List.map_append]
        rfl
      · rintro H6 ⟨x6, dw6, ks, e6, lks⟩
        have lk2 : ks.length ≤ 2 := by omega
        have x06 := x03.trans x6
        have ehl6 : H6 hl = some (.lst hvs) := x6 _ _ hlst ehl3
        have hp6 : Paired (HdAt K H6) hvs hs := Paired.mapP hp3 fun _ _ q => q.same (dw3.i x6)
        refine ⟨_, rfl, _, _, rfl, .inl ⟨_, SqL.of e6, (List.length_map _).symm⟩, (ks.length : Nat), rfl, by omega, by omega, fun D2 hD2 => ?_⟩
        refine lc_data (walk_range (n := ks.length)) (fun i y H => ∃ p kd, y = .ref p ∧ ks[i]? = some kd ∧ PrAt K H p (lt i, kd)) (fun i v H H2 si ⟨p, kd, h1, h2, h3⟩ => ⟨p, kd, h1, h2, h3.same si⟩) hD2 (fun _ _ => True.intro) (by omega) ?_ ?_
        · rintro i x8 H8 H8' k8 hi s8 ⟨rfl, hx8⟩ hk
          obtain rfl : x8 = .int (i : Nat) := by
            rw [hx8]
            show V.int ((0 : Int) + ((i : Nat) : Int)) = _
            rw [Int.zero_add]
          obtain ⟨ki, hki⟩ : ∃ ki, ks[i]? = some ki := ⟨_, List.getElem?_eq_getElem hi⟩
          refine ⟨rfl, _, rfl, _, _, _, rfl, rfl, by decide +kernel, atI_nat (abc3_at i (by omega)), _, rfl, _, rfl, _, _, _, _, rfl, rfl, SqL.of (s8 _ _ e6), atI_nat (j := i) (by rw [List.getElem?_map, hki]; rfl), by show 2 ≤ sizeLine; decide, fun t2 ht2 => ?_⟩
          exact hk _ _ (same_upd ht2) ⟨t2, ki, rfl, hki, .inl (.inl upd_same)⟩
        · rintro H8 acc s8 e8 l8 hE8
          obtain ⟨qs, rfl, hqs⟩ : ∃ qs : List Addr, acc = qs.map V.ref ∧ Paired (PrAt K H8) qs (mkL ks) := by
            refine refs_of (by rw [mkL_len]; exact l8) fun i y hy => ?_
            obtain ⟨p, ki, h1, h2, h3⟩ := hE8 i y hy
            exact ⟨p, _, h1, mkL_at h2, h3⟩
          refine ⟨D2, _, rfl, SqL.of e8, fun pa its hpa => ?_⟩
          have s9 := same_upd (o := .frz (tupObj its) (.tup (qs.map V.ref))) hpa
          have hpl9 : PlT (upd H8 pa (.frz (tupObj its) (.tup (qs.map V.ref)))) pa (qs.map V.ref) := PlT.new
          generalize upd H8 pa (.frz (tupObj its) (.tup (qs.map V.ref))) = H9 at s9 hpl9 ⊢
          have hqs9 : Paired (PrAt K H9) qs (mkL ks) := Paired.mapP hqs fun _ _ q => q.same (sameI_of s9)
          have s69 : Same H6 H9 := s8.trans s9
          have ehl9 := s69 _ _ ehl6
          have x09 := x06.trans (sameX_of s69)
          have dw9 := dw6.step s69
          refine ⟨_, rfl, .inl ⟨rfl, _, SqL.of ehl9⟩, _, rfl, by show 2 ≤ sizeLine; decide, fun L hL => ⟨_, rfl, B, st, 2, rfl, SameX.same sB (x09.new hL) nB, nB, dw9.upd (dw9.ne hL), by decide, by decide, fun H10 d10 d100 d102 x10 dw10 => ?_⟩⟩
          have lL : L ≠ st := dw9.ne hL
          have eL : H10 L = some (.lst [.str "number", .str "list"]) := x10 _ _ lL upd_same
          refine ⟨L, _, d10, (kdOf d10).v, rfl, rfl, SqL.of eL, kd_at d100 d102, by show 2 ≤ sizeLine; decide, fun t3 ht3 => ?_⟩
          have x910 : SameX st H9 H10 := ((SameX.refl _ _).new hL).trans x10
          have s11 := same_upd (o := .tup [.ref pa, (kdOf d10).v]) ht3
          have e11 : upd H10 t3 (.tup [.ref pa, (kdOf d10).v]) t3 = some (.tup [.ref pa, (kdOf d10).v]) := upd_same
          generalize upd H10 t3 (.tup [.ref pa, (kdOf d10).v]) = H11 at s11 e11 ⊢
          have x911 : SameX st H9 H11 := x910.trans (sameX_of s11)
          have i911 := dw9.i x911
          have ehl11 := x911 _ _ hlst ehl9
          have dw11 := dw10.step s11
          have lv : hvs.length = hs.length := Paired.length hp6
          refine ⟨hl, hvs, _, rfl, rfl, ehl11, smaller (by omega), ?_⟩
          have si := sameI_upd (o := .lst (hvs ++ [.ref t3])) ehl11 id
          refine ⟨_, _, _, hvs ++ [.ref t3], hs ++ [(mkL ks, kdOf d10)], rfl, ?_, dw11.upd hlst, upd_same, ?_, by rw [List.length_append, lhs]; rfl, fun h hh => ?_⟩
          · exact (x09.trans x911).old hhl
          · refine paired_append (Paired.mapP hp6 fun _ _ q => q.same (((sameI_of s69).trans i911).trans si)) (.cons ⟨t3, pa, qs, rfl, si.tup (.inl (.inl e11)), (i911.trans si).pl hpl9, Paired.mapP hqs9 fun _ _ q => q.same (i911.trans si)⟩ .nil)
          · rcases List.mem_append.mp hh with h1 | h1
            · exact hok h h1
            · rw [List.mem_singleton.mp h1]
              exact ⟨mkL_ok ks, by rw [show (mkL ks, kdOf d10).1 = mkL ks from rfl, mkL_len]; exact lk2⟩
    · rintro σ H2 ⟨y4, y5, y6, hvs, hs, rfl, x2, dw2, ehl, hp, lhs, hok⟩
      have lv : hvs.length = hs.length := Paired.length hp
      have sB2 := SameX.same sB x2 nB
      have lh10 : hs.length ≤ 10 := by omega
      have hp10 : ∀ h ∈ hs, h.1.length ≤ 10 := fun h hh => Nat.le_trans (hok h hh).2 (by decide)
      refine ⟨_, rfl, hl, rfl, ⟨_, SqL.of ehl⟩, fun D hD => ?_⟩
      have dst : D ≠ st := dw2.ne hD
      refine walk_by (walk_list (K := K) (a := hl) (xs := hvs)) (fun j H6 => SameX st H2 H6 ∧ Dw K B H6 st ∧ ∃ acc, H6 D = some (.lst acc) ∧ acc.length = j ∧ ∀ (i : Nat) y, acc[i]? = some y → ∃ h t, hs[i]? = some h ∧ FnAt K H6 y ⟨h.1, h.2, t⟩ ∧ t.ok1 (hdsOf hs) h.2 h.1 ∧ t.size ≤ 60 ∧ t.deep ≤ 20)
        ⟨(SameX.refl _ _).new hD, dw2.upd dst, [], upd_same, rfl, fun i y e => by simp at e⟩ (fun _ _ _ h => SqL.of (h.1 _ _ hlst ehl)) ?_ ?_
      · rintro j v8 H6p H6 hj ⟨x6, dw6, acc, eD, lacc, hacc⟩ ⟨rfl, hv⟩
        obtain ⟨h, hh, a, p, qs, rfl, g1, g2, g3⟩ := paired_get hp hv
        obtain ⟨kok, kl⟩ := hok h (List.mem_of_getElem? hh)
        have x06 := x2.trans x6
        have g1' := (dw2.i x6).tup g1
        have g2' := (dw2.i x6).pl g2
        have g3' : Paired (PrAt K H6) qs h.1 := Paired.mapP g3 fun _ _ q => q.same (dw2.i x6)
        refine ⟨rfl, yes_te ⟨_, rfl, _, rfl, _, rfl, _, rfl, _, _, _, _, rfl, rfl, g1', atI_nat (j := 1) rfl, _, rfl, _, _, _, _, rfl, rfl, g1', atI_nat (j := 0) rfl, p, _, rfl, .inr g2'.sq, fun l7 hl7 => ⟨_, rfl, ?_⟩⟩⟩
        have s7 := same_upd (o := .lst (qs.map V.ref)) hl7
        have e7 : upd H6 l7 (.lst (qs.map V.ref)) l7 = some (.lst (qs.map V.ref)) := upd_same
        generalize upd H6 l7 (.lst (qs.map V.ref)) = H7 at s7 e7 ⊢
        have x07 := x06.trans (sameX_of s7)
        have dw7 := dw6.step s7
        refine ⟨B, st, hl, l7, h.2, hs, h.1, deep, rfl, by omega, by decide, by omega, SameX.same sB x07 nB, nB, dw7, ⟨hvs, SqL.of (s7 _ _ (x6 _ _ hlst ehl)), Paired.mapP hp fun _ _ q => q.same ((dw2.i x6).trans (sameI_of s7))⟩, lh10, hp10, ⟨qs, e7, Paired.mapP g3' fun _ _ q => q.same (sameI_of s7)⟩, kok, by omega, fun H8 y8 t8 x8 dw8 i8 ok8 sz8 dp8 => ?_⟩
        refine ⟨by show 1 ≤ sizeLine; decide, fun t9 ht9 => ?_⟩
        have s9 := same_upd (o := .tup [y8]) ht9
        have i69 := ((sameI_of s7).trans (dw7.i x8)).trans (sameI_of s9)
        refine ⟨a, t9, _, [y8], rfl, rfl, i69.tup g1', .inl (.inl upd_same), List.cons_ne_nil _ _, by show 3 ≤ sizeLine; decide, (fun e => by cases e), fun _ t10 ht10 => ?_⟩
        have s10 := same_upd (o := .tup ([.ref p, h.2.v] ++ [y8])) ht10
        have e10 : upd (upd H8 t9 (.tup [y8])) t10 (.tup ([.ref p, h.2.v] ++ [y8])) t10 = some (.tup [.ref p, h.2.v, y8]) := upd_same
        have x610 : SameX st H6 (upd (upd H8 t9 (.tup [y8])) t10 (.tup ([.ref p, h.2.v] ++ [y8]))) := (sameX_of s7).trans (x8.trans (sameX_of (s9.trans s10)))
        have dw10 := dw8.step (s9.trans s10)
        have i8' := i8.same (sameI_of (s9.trans s10))
        generalize upd (upd H8 t9 (.tup [y8])) t10 (.tup ([.ref p, h.2.v] ++ [y8])) = H10 at x610 e10 dw10 i8' ⊢
        have i610 := dw6.i x610
        have eD10 := x610 _ _ dst eD
        have si := sameI_upd (o := .lst (acc ++ [.ref t10])) eD10 id
        have sz38 : tsz deep.toNat ≤ 60 := by
          have : deep.toNat ≤ 5 := by omega
          match deep.toNat, this with
          | 0, _ => decide
          | 1, _ => decide
          | 2, _ => decide
          | 3, _ => decide
          | 4, _ => decide
          | 5, _ => decide
        have fn10 : FnAt K (upd H10 D (.lst (acc ++ [.ref t10]))) (.ref t10) ⟨h.1, h.2, t8⟩ := ⟨t10, p, y8, qs, rfl, si.tup (.inl (.inl e10)), (i610.trans si).pl g2', Paired.mapP g3' fun _ _ q => q.same (i610.trans si), i8'.same si⟩
        refine ⟨acc, eD10, smaller (by omega), (x6.trans x610).old hD, dw10.upd dst, acc ++ [.ref t10], upd_same, by rw [List.length_append, lacc]; rfl, fun i y hy => ?_⟩
        rcases Nat.lt_or_ge i acc.length with hi | hi
        · rw [List.getElem?_append_left hi] at hy
          obtain ⟨h1, t1, e1, f1, f2⟩ := hacc i y hy
          exact ⟨h1, t1, e1, f1.same (i610.trans si), f2⟩
        · rw [List.getElem?_append_right hi] at hy
          have e0 : i - acc.length = 0 := by
            rcases Nat.eq_zero_or_pos (i - acc.length) with h | h
            · exact h
            · rw [List.getElem?_eq_none (by show 1 ≤ _; exact h)] at hy
              cases hy
          rw [e0] at hy
          cases hy
          have ei : i = j := by omega
          rw [ei]
          exact ⟨h, t8, hh, fn10, ok8, by omega, by omega⟩
      · rintro H6 ⟨x6, dw6, acc, eD, lacc, hacc⟩
        refine ⟨D, acc, rfl, SqL.of eD, fun tt its htt => ?_⟩
        have s7 := same_upd (o := .frz (tupObj its) (.tup acc)) htt
        obtain ⟨fs, hfs, ehs, hfok⟩ : ∃ fs : List Fn, Paired (FnAt K H6) acc fs ∧ fs.map (fun f => (f.ps, f.kd)) = hs ∧ ∀ f ∈ fs, f.tr.ok1 (hdsOf hs) f.kd f.ps ∧ f.tr.size ≤ 60 ∧ f.tr.deep ≤ 20 := by
          have := fns_of (hs := hs) (R := fun f => f.tr.ok1 (hdsOf hs) f.kd f.ps ∧ f.tr.size ≤ 60 ∧ f.tr.deep ≤ 20) acc hs (by rw [lacc]; exact lv) fun i y hy => by
            obtain ⟨h, t, e1, f1, f2⟩ := hacc i y hy
            exact ⟨h, t, e1, f1, f2⟩
          exact this
        have lfs : fs.length = hs.length := by rw [← ehs, List.length_map]
        have ehd : fs.map Fn.hd = hdsOf hs := by
          rw [← ehs]
          show _ = (fs.map fun f => (f.ps, f.kd)).map _
          rw [List.map_map]
          rfl
        have pok : ∀ f ∈ fs, HdOk (f.ps, f.kd) := fun f hf => hok _ (by rw [← ehs]; exact List.mem_map.mpr ⟨f, hf, rfl⟩)
        have lpos : 1 ≤ hs.length := by omega
        refine q _ _ fs (x2.trans (x6.trans (sameX_of s7))) (dw6.step s7) ⟨tt, acc, rfl, .inl (.inr ⟨_, upd_same⟩), Paired.mapP hfs fun _ _ q => q.same (sameI_of s7)⟩ ⟨by omega, by omega, fun f hf => ?_⟩ (by omega) (fun f hf => (pok f hf).2) (fun f hf => ⟨fun p hp => ?_, (hfok f hf).1.2⟩)
        rotate_left
        · obtain ⟨i, hi, e⟩ := List.mem_iff_getElem.mp hp
          rw [(pok f hf).1 i p (by rw [List.getElem?_eq_getElem hi, e])]
          exact lt_len i
        obtain ⟨k1, k2⟩ := pok f hf
        obtain ⟨n1, n2⟩ := KnOk.names k1 (Nat.le_trans k2 (by decide))
        obtain ⟨o1, o2, o3⟩ := hfok f hf
        rw [ehd]
        exact ⟨Nat.le_trans k2 (by decide), n1, n2, o1.1, o2, o3⟩
end
end Cs
namespace Cs
open PySem PySem.Spec L2
/-! ## ways -/
structure Wy where
  names : Nm
  known : List PyData
  made : List (Str × Str × Str)
  meant : List (Str × Str)
def Wy.mo (w : Wy) (x : Str) : Str := (w.meant.lookup x).getD x
def prD (p : Str × Kd) : PyData := .tuple [.str p.1, .str p.2.s]
def nsD (ns : Nm) : PyData := .tuple (ns.map prD)
def strsD (xs : List Str) : PyData := .tuple (xs.map .str)
section
variable {P : Program} {w : World} {K : PySem.W.Frag} {mg : Str → Option Value} {base : Heap} {A : Adr}
def madeK (K : PySem.W.Frag) (m : List (Str × Str × Str)) : List (Key × AV) := m.map fun p => (.inr p.1, dat K (strsD [p.2.1, p.2.2]))
def meantK (K : PySem.W.Frag) (m : List (Str × Str)) : List (Key × AV) := m.map fun p => (.inr p.1, dat K (.str p.2))
def wayF (K : PySem.W.Frag) (y : Wy) : List (Str × AV) := [("names", dat K (nsD y.names)), ("known", dat K (.tuple y.known)), ("made", dctA (madeK K y.made)), ("meant", dctA (meantK K y.meant))]
def wayA (K : PySem.W.Frag) (A : Adr) (y : Wy) : AV := insA A.C_Way (wayF K y)
theorem valA_map {α : Type} (f : α → AV) : ∀ (m : List (Str × α)) (x : Str), valA (m.map fun p => ((.inr p.1 : Key), f p.2)) (.inr x) = (m.lookup x).map f
  | [], _ => rfl
  | (k, a) :: r, x => by
    show (if (Sum.inr k : Key) = .inr x then some (f a) else valA _ _) = ((match x == k with | true => some a | false => r.lookup x).map f)
    by_cases c : x = k
    · subst c
      rw [if_pos rfl, beq_self_eq_true]
      rfl
    · rw [if_neg (fun z => c (Sum.inr.inj z).symm), beq_false_of_ne c]
      exact valA_map f r x
theorem valA_int {α : Type} (f : α → AV) : ∀ (m : List (Str × α)) (i : Int), valA (m.map fun p => ((.inr p.1 : Key), f p.2)) (.inl i) = none
  | [], _ => rfl
  | (k, a) :: r, i => by
    show (if (Sum.inr k : Key) = .inl i then some (f a) else valA _ _) = none
    rw [if_neg (fun z => nomatch z)]
    exact valA_int f r i
theorem made_val (m : List (Str × Str × Str)) (x : Str) : valA (madeK K m) (.inr x) = (m.lookup x).map fun p => dat K (strsD [p.1, p.2]) := valA_map (fun p : Str × Str => dat K (strsD [p.1, p.2])) m x
theorem meant_val (m : List (Str × Str)) (x : Str) : valA (meantK K m) (.inr x) = (m.lookup x).map fun p => dat K (.str p) := valA_map (fun p : Str => dat K (.str p)) m x
theorem meant_int (m : List (Str × Str)) (i : Int) : valA (meantK K m) (.inl i) = none := valA_int (fun p : Str => dat K (.str p)) m i
/-! ### Way.__init__ -/
theorem ok_Way_init (T : Tx K w mg A) : FnOk P w K mg base CX0 1 A.f_Way_init A.fd_Way_init P_Way_init (spI A.C_Way ["names", "known", "made", "meant"]) := by
  refine T.F_Way_init.ok sc_Way_init (fun vs H Q E h => ?_) (fun cdv AA outer s H vs Q E hr h => ?_)
  · obtain ⟨p, dx, ws, rfl, _, hl, _⟩ := h
    show ws.length + 1 = 5
    rw [hl]
    rfl
  · obtain ⟨p, dx, ws, rfl, hp, hl, q⟩ := h
    refine ⟨_, (pss_cons (ps_fld (pv 0) (pv 1) rfl)
  (pss_cons (ps_fld (pv 0) (pv 2) rfl)
  (pss_cons (ps_fld (pv 0) (pv 3) rfl)
  (pss_one (ps_fld (pv 0) (pv 4) rfl))))), ?_⟩
    match ws, hl with
    | [a, b, c, d], _ =>
      refine ⟨_, rfl, _, rfl, p, _, dx, _, rfl, hp, T.cl_Way, T.a_Way_names, by show 0 < 1000; decide, ?_⟩
      refine ⟨_, rfl, _, rfl, p, _, dx, _, rfl, upd_same, T.cl_Way, T.a_Way_known, by show 1 < 1000; decide, ?_⟩
      refine ⟨_, rfl, _, rfl, p, _, dx, _, rfl, upd_same, T.cl_Way, T.a_Way_made, by show 2 < 1000; decide, ?_⟩
      refine ⟨_, rfl, _, rfl, p, _, dx, _, rfl, upd_same, T.cl_Way, T.a_Way_meant, by show 3 < 1000; decide, ?_⟩
      rw [upd_upd, upd_upd, upd_upd]
      exact q
/-! ### what is meant -/
inductive Part : Nat → Wy → PyData → PyData → Prop
  | str {n : Nat} (y : Wy) (x : Str) : Part n y (.str x) (.str (y.mo x))
  | int {n : Nat} (y : Wy) (i : Int) : Part n y (.int i) (.int i)
  | tup {n : Nat} (y : Wy) (xs : List Str) : xs.length ≤ 1000 → Part (n + 1) y (strsD xs) (strsD (xs.map y.mo))
def RmeantPart (K : PySem.W.Frag) (A : Adr) (n : Nat) : List AV → Rs → Prop := fun as r => ∃ y d e, as = [wayA K A y, dat K d] ∧ r = .fz (dat K e) ∧ Part n y d e
theorem len_mp {n : Nat} : ∀ as r, RmeantPart K A n as r → as.length = 2 := fun as r ⟨_, _, _, e, _⟩ => by rw [e]; rfl
theorem strs_map (K : PySem.W.Frag) (xs : List Str) : (xs.map PyData.str).map (dat K) = xs.map fun x => dat K (.str x) := by rw [List.map_map]; rfl
theorem strs_map2 (K : PySem.W.Frag) (f : Str → Str) (xs : List Str) : ((xs.map f).map PyData.str).map (dat K) = xs.map fun x => dat K (.str (f x)) := by rw [List.map_map, List.map_map]; rfl
theorem fld_meant (T : Tx K w mg A) {n : Nat} {W : Wo} {E : En} {i : Nat} {y : Wy} (h : E i = some (.fz (wayA K A y))) : Ev n W (tFld K (tVar i) "meant") E (.fz (dctA (meantK K y.meant))) := ev_fld (ev_var h) T.cl_Way T.a_Way_meant (by show [_, _, _, _].lookup _ = _; rfl)
theorem mo_get (y : Wy) (x : Str) : (valA (meantK K y.meant) (.inr x)).getD (dat K (.str x)) = dat K (.str (y.mo x)) := by
  rw [meant_val]
  unfold Wy.mo
  cases y.meant.lookup x <;> rfl
theorem step_meant_part (T : Tx K w mg A) (n k : Nat) (R : List AV → Rs → Prop) (G_Way_meant_part : FnOk P w K mg base CX0 k A.f_Way_meant_part A.fd_Way_meant_part P_Way_meant_part (spA R)) (hG : ∀ m, n = m + 1 → ∀ as r, RmeantPart K A m as r → R as r) :
    FnOk P w K mg base CX0 (k + 1) A.f_Way_meant_part A.fd_Way_meant_part P_Way_meant_part (spA (RmeantPart K A n)) := by
  refine T.F_Way_meant_part.ok sc_Way_meant_part (fun vs H Q E h => spA_len len_mp h) (fun cdv AA outer s H vs Q E hr h => ?_)
  refine ⟨_, (pss_cons (ps_if (pt_val (pe_callB call_isi (by rfl) T.n_isinstance (by decide +kernel) (pa_cons (pv 1) (pa_cons (pe_bltn (v := .ty "tuple") (u := .type "tuple") (by rfl) T.n_tuple (by decide +kernel) rfl) pa_nil))))
  (pss_one (ps_ret (pe_callTy cr_tupF (by rfl) T.n_tuple (by decide +kernel) (pa_cons (pe_lc (own := [("name", 2)]) (g := (gName 2)) (tt := tYes) (te := (tMeth _ _ _ _ _ (tVar 0) (tCons (tVar 2) tNil))) rfl sc_Way_meant_part.nd (pi_tup (pv 1)) (blkOk_by (N := N_Way_meant_part) (sc := defScope s_Way_meant_part) (by decide +kernel)) (fun _ _ _ _ _ => (pg_name (i := 2) sc_Way_meant_part.nd rfl (.inl rfl))) (fun _ _ _ _ _ => pts_nil) (fun _ _ _ _ _ => (pe_meth (pv 0) T.cl_Way T.m_Way_meant_part G_Way_meant_part hr T.b_Way_meant_part .nil pass0 (pa_cons (pv 2) pa_nil)))) pa_nil))))
  pss_nil)
  (pss_one (ps_ret (pe_dget2 (hu_of hr) (pe_fld (pv 0) rfl) (pv 1) (pv 1) ⟨rfl, rfl, rfl, rfl⟩)))), ?_⟩
  refine fn_go len_mp rfl (fun as r ⟨y, d, e, e1, e2, hp⟩ => ?_) h rfl
  subst e1 e2
  cases hp with
  | str _ x =>
    refine evs_seq (evs_if (evT_test (ev_isi (b := false) (ev_var rfl) (fun _ _ _ h => h) fun v B H hv _ => ?_)) (fun h => nomatch h) fun _ => evs_next) ?_
    · cases hv
      exact ⟨"str", .base (.str _), by decide +kernel⟩
    · exact evs_ret (ev_dget2 (fld_meant T rfl) (ev_var rfl) (ev_var rfl) (mo_get y x))
  | int _ i =>
    refine evs_seq (evs_if (evT_test (ev_isi (b := false) (ev_var rfl) (fun _ _ _ h => h) fun v B H hv _ => ?_)) (fun h => nomatch h) fun _ => evs_next) ?_
    · cases hv
      exact ⟨"int", .base (.int _), by decide +kernel⟩
    · exact evs_ret (ev_dget2I (fld_meant T rfl) (ev_var rfl) (ev_var rfl) (by rw [meant_int]; rfl))
  | @tup m _ xs hx =>
    refine evs_seqR (evs_if (evT_test (ev_isi (b := true) (ev_var rfl) (fun _ _ _ h => h) fun v B H hv s => ⟨"tuple", isi_tup hv s, by decide +kernel⟩)) (fun _ => ?_) fun h => nomatch h)
    refine evs_ret (ev_tupFD (K := K) (Ev.cong (ev_lcM (fun x => dat K (.str x)) (fun x => dat K (.str (y.mo x))) ?_ (Nat.le_trans hx (by decide)) fun x _ => ⟨_, evg_name, ev_meth (ev_var rfl) rfl (evA_cons (ev_var rfl) evA_nil) (hG m rfl _ _ ⟨y, _, _, rfl, rfl, .str y x⟩)⟩) (congrArg Rs.own (strs_map2 K y.mo xs).symm)))
    rw [← strs_map]
    exact evi_tupD (ev_var rfl)
theorem ok_Way_meant_part (T : Tx K w mg A) : FnOk P w K mg base CX0 2 A.f_Way_meant_part A.fd_Way_meant_part P_Way_meant_part (spA (RmeantPart K A 1)) :=
  step_meant_part T 1 1 _ (step_meant_part T 0 0 _ fn_false fun _ h => nomatch h) fun m h as r hr => by cases h; exact hr
/-! a row: its word stays -/
def RmeantRow (K : PySem.W.Frag) (A : Adr) : List AV → Rs → Prop := fun as r => ∃ y ds es, as = [wayA K A y, dat K (.tuple ds)] ∧ r = .fz (dat K (.tuple es)) ∧ ((ds = [] ∧ es = []) ∨ ∃ x ds1 es1, ds = .str x :: ds1 ∧ es = .str x :: es1 ∧ Paired (Part 1 y) ds1 es1 ∧ ds1.length ≤ 1000)
theorem len_mr : ∀ as r, RmeantRow K A as r → as.length = 2 := fun as r ⟨_, _, _, e, _⟩ => by rw [e]; rfl
theorem ok_Way_meant_row (T : Tx K w mg A) : FnOk P w K mg base CX0 3 A.f_Way_meant_row A.fd_Way_meant_row P_Way_meant_row (spA (RmeantRow K A)) := by
  have G_Way_meant_part := ok_Way_meant_part (P := P) (base := base) T
  refine T.F_Way_meant_row.ok sc_Way_meant_row (fun vs H Q E h => spA_len len_mr h) (fun cdv AA outer s H vs Q E hr h => ?_)
  refine ⟨_, (pss_one (ps_ret (pe_tup (StX.pa_star (pe_slice sl_tupA (pv 1) po_none (po_some pe_int)) (StX.pa_star (pe_lc (own := [("part", 2)]) (g := (gName 2)) (tt := tYes) (te := (tMeth _ _ _ _ _ (tVar 0) (tCons (tVar 2) tNil))) rfl sc_Way_meant_row.nd (pi_tup (pe_slice sl_tupA (pv 1) (po_some pe_int) po_none)) (blkOk_by (N := N_Way_meant_row) (sc := defScope s_Way_meant_row) (by decide +kernel)) (fun _ _ _ _ _ => (pg_name (i := 2) sc_Way_meant_row.nd rfl (.inl rfl))) (fun _ _ _ _ _ => pts_nil) (fun _ _ _ _ _ => (pe_meth (pv 0) T.cl_Way T.m_Way_meant_part G_Way_meant_part (hr.mono (by decide)) T.b_Way_meant_part .nil pass0 (pa_cons (pv 2) pa_nil)))) pa_nil))))), ?_⟩
  refine fn_go len_mr rfl (fun as r ⟨y, ds, es, e1, e2, hp⟩ => ?_) h rfl
  subst e1 e2
  rcases hp with ⟨rfl, rfl⟩ | ⟨x, ds1, es1, rfl, rfl, hp, hl⟩
  · refine evs_ret (ev_tupD (K := K) (ds := []) (evAD_star (K := K) (ds := []) (ev_take (ds := []) (ev_var rfl) 1) (evAD_starL (K := K) (ds := []) (es := []) (ev_lcP (as := []) (bs := []) (evi_tupD (ds := []) (ev_drop (ds := []) (ev_var rfl) 1)) (Nat.zero_le _) rfl fun i a b h => by simp at h) evAD_nil)))
  · have le := Paired.length hp
    refine evs_ret ((ev_tupD (K := K) (evAD_star (K := K) (ds := [.str x]) (ev_take (ds := .str x :: ds1) (ev_var rfl) 1) (evAD_starL (K := K) (ds := es1) (es := []) (ev_lcP (as := ds1.map (dat K)) (evi_tupD (ds := ds1) (ev_drop (ds := .str x :: ds1) (ev_var rfl) 1)) (by rw [List.length_map]; omega) (by rw [List.length_map, List.length_map, le]) fun i a b ha hb => ?_) evAD_nil)) ?_).cong (by rw [List.append_nil]; rfl))
    · rw [List.getElem?_map] at ha hb
      obtain ⟨d, hd, rfl⟩ := Option.map_eq_some_iff.mp ha
      obtain ⟨e, he, rfl⟩ := Option.map_eq_some_iff.mp hb
      obtain ⟨e2, he2, hpe⟩ := paired_get hp hd
      rw [he] at he2
      cases he2
      exact ⟨_, evg_name, ev_meth (ev_var rfl) rfl (evA_cons (ev_var rfl) evA_nil) ⟨y, d, e, rfl, rfl, hpe⟩⟩
    · rw [List.append_nil]
      exact Nat.ble_eq_true_of_le (by show es1.length + 1 ≤ _; omega)
end
end Cs
namespace Cs
open PySem PySem.Spec L2
/-! ## trees by what is meant -/
def Ms.mn (f : Str → Str) : Ms → Ms
  | .zero => .zero
  | .of x => .of (f x)
  | .len x => .len (f x)
def Dd.mn (f : Str → Str) : Dd → Dd
  | .num n => .num n
  | .sum x n => .sum (f x) n
  | .len l => .len (f l)
  | .nil => .nil
  | .put x l => .put (f x) (f l)
  | .head l => .head (f l)
  | .tail l => .tail (f l)
  | .at_ l x => .at_ (f l) (f x)
  | .ask => .ask
  | .call g xs => .call g (xs.map f)
def Tr.mn (f : Str → Str) : Tr → Tr
  | .let_ x d t => .let_ x (d.mn f) t
  | .if_ a b n t u => .if_ (a.mn f) (b.mn f) n t u
  | .claim a b n t => .claim (a.mn f) (b.mn f) n t
  | .tell x => .tell (f x)
/-- few names in a call -/
def Dd.few : Dd → Prop
  | .call _ xs => xs.length ≤ 4
  | _ => True
def Tr.few : Tr → Prop
  | .let_ _ d t => d.few ∧ t.few
  | .if_ _ _ _ t u => t.few ∧ u.few
  | .claim _ _ _ t => t.few
  | .tell _ => True
section
variable {P : Program} {w : World} {K : PySem.W.Frag} {mg : Str → Option Value} {base : Heap} {A : Adr}
theorem ms_row (y : Wy) (a : Ms) {ds : List PyData} (h : a.d = .tuple ds) : ∃ es, (a.mn y.mo).d = .tuple es ∧ ((ds = [] ∧ es = []) ∨ ∃ x ds1 es1, ds = .str x :: ds1 ∧ es = .str x :: es1 ∧ Paired (Part 1 y) ds1 es1 ∧ ds1.length ≤ 1000) := by
  cases a with
  | zero => cases h; exact ⟨[], rfl, .inl ⟨rfl, rfl⟩⟩
  | of x => cases h; exact ⟨_, rfl, .inr ⟨_, _, _, rfl, rfl, .cons (.str y x) .nil, Nat.le_of_ble_eq_true rfl⟩⟩
  | len x => cases h; exact ⟨_, rfl, .inr ⟨_, _, _, rfl, rfl, .cons (.str y x) .nil, Nat.le_of_ble_eq_true rfl⟩⟩
theorem dd_row (y : Wy) (d : Dd) (hf : d.few) {ds : List PyData} (h : d.d = .tuple ds) : ∃ es, (d.mn y.mo).d = .tuple es ∧ ((ds = [] ∧ es = []) ∨ ∃ x ds1 es1, ds = .str x :: ds1 ∧ es = .str x :: es1 ∧ Paired (Part 1 y) ds1 es1 ∧ ds1.length ≤ 1000) := by
  cases d with
  | num n => cases h; exact ⟨_, rfl, .inr ⟨_, _, _, rfl, rfl, .cons (.int y _) .nil, Nat.le_of_ble_eq_true rfl⟩⟩
  | sum x n => cases h; exact ⟨_, rfl, .inr ⟨_, _, _, rfl, rfl, .cons (.str y _) (.cons (.int y _) .nil), Nat.le_of_ble_eq_true rfl⟩⟩
  | len x => cases h; exact ⟨_, rfl, .inr ⟨_, _, _, rfl, rfl, .cons (.str y _) .nil, Nat.le_of_ble_eq_true rfl⟩⟩
  | nil => cases h; exact ⟨_, rfl, .inr ⟨_, _, _, rfl, rfl, .nil, Nat.le_of_ble_eq_true rfl⟩⟩
  | put x l => cases h; exact ⟨_, rfl, .inr ⟨_, _, _, rfl, rfl, .cons (.str y _) (.cons (.str y _) .nil), Nat.le_of_ble_eq_true rfl⟩⟩
  | head x => cases h; exact ⟨_, rfl, .inr ⟨_, _, _, rfl, rfl, .cons (.str y _) .nil, Nat.le_of_ble_eq_true rfl⟩⟩
  | tail x => cases h; exact ⟨_, rfl, .inr ⟨_, _, _, rfl, rfl, .cons (.str y _) .nil, Nat.le_of_ble_eq_true rfl⟩⟩
  | at_ x l => cases h; exact ⟨_, rfl, .inr ⟨_, _, _, rfl, rfl, .cons (.str y _) (.cons (.str y _) .nil), Nat.le_of_ble_eq_true rfl⟩⟩
  | ask => cases h; exact ⟨_, rfl, .inr ⟨_, _, _, rfl, rfl, .nil, Nat.le_of_ble_eq_true rfl⟩⟩
  | call g xs => cases h; exact ⟨_, rfl, .inr ⟨_, _, _, rfl, rfl, .cons (.int y _) (.cons (.tup y xs (Nat.le_trans hf (by decide))) .nil), Nat.le_of_ble_eq_true rfl⟩⟩
theorem row_ms (y : Wy) (a : Ms) : RmeantRow K A [wayA K A y, dat K a.d] (.fz (dat K (a.mn y.mo).d)) := by
  obtain ⟨ds, h⟩ : ∃ ds, a.d = .tuple ds := by cases a <;> exact ⟨_, rfl⟩
  obtain ⟨es, h2, h3⟩ := ms_row y a h
  exact ⟨y, ds, es, by rw [h], by rw [h2], h3⟩
theorem row_dd (y : Wy) (d : Dd) (hf : d.few) : RmeantRow K A [wayA K A y, dat K d.d] (.fz (dat K (d.mn y.mo).d)) := by
  obtain ⟨ds, h⟩ : ∃ ds, d.d = .tuple ds := by cases d <;> exact ⟨_, rfl⟩
  obtain ⟨es, h2, h3⟩ := dd_row y d hf h
  exact ⟨y, ds, es, by rw [h], by rw [h2], h3⟩
def RmeantTree (K : PySem.W.Frag) (A : Adr) : List AV → Rs → Prop := fun as r => ∃ (y : Wy) (t : Tr), as = [wayA K A y, dat K t.d] ∧ r = .fz (dat K (t.mn y.mo).d) ∧ t.few
theorem len_mt : ∀ as r, RmeantTree K A as r → as.length = 2 := fun as r ⟨_, _, e, _⟩ => by rw [e]; rfl
theorem ok_Way_meant_tree (T : Tx K w mg A) : FnOk P w K mg base CX0 4 A.f_Way_meant_tree A.fd_Way_meant_tree P_Way_meant_tree (spA (RmeantTree K A)) := by
  have G_Way_meant_part := ok_Way_meant_part (P := P) (base := base) T
  have G_Way_meant_row := ok_Way_meant_row (P := P) (base := base) T
  refine T.F_Way_meant_tree.ok sc_Way_meant_tree (fun vs H Q E h => spA_len len_mt h) (fun cdv AA outer s H vs Q E hr h => ?_)
  refine ⟨_, (pss_cons (ps_if (pt_cmpR op_eq (pe_ix ix_tup (pv 1) pe_int (fun _ _ => rfl)) pe_str (nomark _))
  (pss_one (ps_ret (pe_tup (pa_cons pe_str (pa_cons (pe_meth (pv 0) T.cl_Way T.m_Way_meant_part G_Way_meant_part (hr.mono (by decide)) T.b_Way_meant_part .nil pass0 (pa_cons (pe_ix ix_tup (pv 1) pe_int (fun _ _ => rfl)) pa_nil)) pa_nil)))))
  pss_nil)
  (pss_cons (ps_if (pt_cmpR op_eq (pe_ix ix_tup (pv 1) pe_int (fun _ _ => rfl)) pe_str (nomark _))
  (pss_one (ps_ret (pe_tup (pa_cons pe_str (pa_cons (pe_ix ix_tup (pv 1) pe_int (fun _ _ => rfl)) (pa_cons (pe_meth (pv 0) T.cl_Way T.m_Way_meant_row G_Way_meant_row (hr.mono (by decide)) T.b_Way_meant_row .nil pass0 (pa_cons (pe_ix ix_tup (pv 1) pe_int (fun _ _ => rfl)) pa_nil)) (pa_cons (pe_ix ix_tup (pv 1) pe_int (fun _ _ => rfl)) pa_nil)))))))
  pss_nil)
  (pss_one (ps_ret (pe_tup (pa_cons (pe_ix ix_tup (pv 1) pe_int (fun _ _ => rfl)) (pa_cons (pe_meth (pv 0) T.cl_Way T.m_Way_meant_row G_Way_meant_row (hr.mono (by decide)) T.b_Way_meant_row .nil pass0 (pa_cons (pe_ix ix_tup (pv 1) pe_int (fun _ _ => rfl)) pa_nil)) (pa_cons (pe_meth (pv 0) T.cl_Way T.m_Way_meant_row G_Way_meant_row (hr.mono (by decide)) T.b_Way_meant_row .nil pass0 (pa_cons (pe_ix ix_tup (pv 1) pe_int (fun _ _ => rfl)) pa_nil)) (StX.pa_star (pe_slice sl_tup (pv 1) (po_some pe_int) po_none) pa_nil))))))))), ?_⟩
  refine fn_go len_mt rfl (fun as r ⟨y, t, e1, e2, hf⟩ => ?_) h rfl
  subst e1 e2
  cases t with
  | tell x =>
    refine evs_seqR (evs_if (evT_str (x := "tell") (y := "tell") (ev_ixc 0 (ev_var rfl) rfl) ev_str) (fun _ => ?_) (fun h => absurd h (by decide +kernel)))
    exact evs_ret (ev_tupD (K := K) (evAD_cons ev_str (evAD_cons (ev_meth (ev_var rfl) rfl (evA_cons (ev_ixc (K := K) 1 (ds := [.str "tell", .str x]) (ev_var rfl) rfl) evA_nil) ⟨y, _, _, rfl, rfl, .str y x⟩) evAD_nil)))
  | let_ x d t =>
    refine evs_seq (evs_if (evT_str (x := "let") (y := "tell") (ev_ixc 0 (ev_var rfl) rfl) ev_str) (fun h => absurd h (by decide +kernel)) (fun _ => evs_next)) ?_
    refine evs_seqR (evs_if (evT_str (x := "let") (y := "let") (ev_ixc 0 (ev_var rfl) rfl) ev_str) (fun _ => ?_) (fun h => absurd h (by decide +kernel)))
    refine evs_ret (ev_tupD (K := K) (evAD_cons ev_str (evAD_cons (ev_ixc 1 (ev_var rfl) rfl) (evAD_cons (ev_meth (ev_var rfl) rfl (evA_cons (ev_ixc (K := K) 2 (ds := [.str "let", .str x, d.d, t.d]) (ev_var rfl) rfl) evA_nil) (row_dd y d hf.1)) (evAD_cons (ev_ixc 3 (ev_var rfl) rfl) evAD_nil)))))
  | if_ a b n t u =>
    refine evs_seq (evs_if (evT_str (x := "if") (y := "tell") (ev_ixc 0 (ev_var rfl) rfl) ev_str) (fun h => absurd h (by decide +kernel)) (fun _ => evs_next)) ?_
    refine evs_seq (evs_if (evT_str (x := "if") (y := "let") (ev_ixc 0 (ev_var rfl) rfl) ev_str) (fun h => absurd h (by decide +kernel)) (fun _ => evs_next)) ?_
    refine evs_ret (ev_tupD (K := K) (evAD_cons (ev_ixc 0 (ev_var rfl) rfl) (evAD_cons (ev_meth (ev_var rfl) rfl (evA_cons (ev_ixc (K := K) 1 (ds := [.str "if", a.d, b.d, .int n, t.d, u.d]) (ev_var rfl) rfl) evA_nil) (row_ms y a)) (evAD_cons (ev_meth (ev_var rfl) rfl (evA_cons (ev_ixc (K := K) 2 (ds := [.str "if", a.d, b.d, .int n, t.d, u.d]) (ev_var rfl) rfl) evA_nil) (row_ms y b)) (evAD_star (ds := [.int n, t.d, u.d]) (ev_dropT (ds := [.str "if", a.d, b.d, .int n, t.d, u.d]) (ev_var rfl) 3 (by decide) (by show 1 ≤ 6; decide)) evAD_nil)))))
  | claim a b n t =>
    refine evs_seq (evs_if (evT_str (x := "claim") (y := "tell") (ev_ixc 0 (ev_var rfl) rfl) ev_str) (fun h => absurd h (by decide +kernel)) (fun _ => evs_next)) ?_
    refine evs_seq (evs_if (evT_str (x := "claim") (y := "let") (ev_ixc 0 (ev_var rfl) rfl) ev_str) (fun h => absurd h (by decide +kernel)) (fun _ => evs_next)) ?_
    refine evs_ret (ev_tupD (K := K) (evAD_cons (ev_ixc 0 (ev_var rfl) rfl) (evAD_cons (ev_meth (ev_var rfl) rfl (evA_cons (ev_ixc (K := K) 1 (ds := [.str "claim", a.d, b.d, .int n, t.d]) (ev_var rfl) rfl) evA_nil) (row_ms y a)) (evAD_cons (ev_meth (ev_var rfl) rfl (evA_cons (ev_ixc (K := K) 2 (ds := [.str "claim", a.d, b.d, .int n, t.d]) (ev_var rfl) rfl) evA_nil) (row_ms y b)) (evAD_star (ds := [.int n, t.d]) (ev_dropT (ds := [.str "claim", a.d, b.d, .int n, t.d]) (ev_var rfl) 3 (by decide) (by show 1 ≤ 5; decide)) evAD_nil)))))
end
end Cs
namespace Cs
open PySem PySem.Spec L2
/-! ## what is known, what is wanted -/
def mostD (a b : PyData) (n : Int) : PyData := .tuple [.str "most", a, b, .int n]
def ofD (x : Str) : PyData := .tuple [.str "of", .str x]
def lenD (x : Str) : PyData := .tuple [.str "len", .str x]
def two (x : Str) (o : PyData) (n : Int) : List PyData := [mostD (ofD x) o n, mostD o (ofD x) (-n)]
def toldD (x : Str) (made : List (Str × Str × Str)) : Dd → List PyData
  | .num n => two x (.tuple []) n
  | .sum z n => two x (ofD z) n
  | .len l => two x (lenD l) 0
  | .nil => [.tuple [.str "none", .str x]]
  | .put n r => [.tuple [.str "made", .str x, .str n, .str r]]
  | .tail l => [.tuple [.str "part", .str x, .str l]]
  | .call g xs => [.tuple [.str "behind", .int g, strsD xs, .str x]]
  | .head l => [.tuple [.str "one", .str x, .str l]]
  | .at_ l _ => if (made.lookup l).isSome then [] else [.tuple [.str "one", .str x, .str l]]
  | .ask => []
def Dd.wants : Dd → List PyData
  | .head l => [mostD (.tuple []) (lenD l) (-1)]
  | .tail l => [mostD (.tuple []) (lenD l) (-1)]
  | .at_ l x => [mostD (.tuple []) (ofD x) 0, mostD (ofD x) (lenD l) (-1)]
  | .call f xs => [.tuple [.str "ahead", .int f, strsD xs]]
  | _ => []
def Tr.wants (i : Nat) (ps : List Str) : Tr → List PyData
  | .tell x => [.tuple [.str "behind", .int i, strsD ps, .str x]]
  | .claim a b n _ => [mostD a.d b.d n]
  | .let_ _ d _ => d.wants
  | .if_ _ _ _ _ _ => []
def Wy.know (y : Wy) (h : PyData) : Wy := { y with known := y.known ++ [h] }
def Dd.opened (y : Wy) : Dd → Option Str
  | .head l => (y.made.lookup l).map (·.1)
  | .tail l => (y.made.lookup l).map (·.2)
  | _ => none
def Dd.mades (y : Wy) (x : Str) : Dd → List (Str × Str × Str)
  | .put n l => y.made ++ [(x, n, l)]
  | _ => y.made
def Wy.lets (y : Wy) (x : Str) (d : Dd) (k : Kd) : Wy := match d.opened y with
  | some z => { y with meant := y.meant ++ [(x, z)] }
  | none => { names := y.names ++ [(x, k)], known := y.known ++ toldD x y.made d, made := d.mades y x, meant := y.meant }
section
variable {P : Program} {w : World} {K : PySem.W.Frag} {mg : Str → Option Value} {base : Heap} {A : Adr}
/-! ### Way.knowing -/
def RwayKnow (K : PySem.W.Frag) (A : Adr) : List AV → Rs → Prop := fun as r => ∃ (y : Wy) (h : PyData), as = [wayA K A y, dat K h] ∧ r = .fz (wayA K A (y.know h)) ∧ y.known.length ≤ 1000
theorem len_wk : ∀ as r, RwayKnow K A as r → as.length = 2 := fun as r ⟨_, _, e, _⟩ => by rw [e]; rfl
theorem f_names (T : Tx K w mg A) {n : Nat} {W : Wo} {E : En} {i : Nat} {y : Wy} (h : E i = some (.fz (wayA K A y))) : EvD K n W (tFld K (tVar i) "names") E (nsD y.names) := ev_fld (ev_var h) T.cl_Way T.a_Way_names (by show [_, _, _, _].lookup _ = _; rfl)
theorem f_known (T : Tx K w mg A) {n : Nat} {W : Wo} {E : En} {i : Nat} {y : Wy} (h : E i = some (.fz (wayA K A y))) : EvD K n W (tFld K (tVar i) "known") E (.tuple y.known) := ev_fld (ev_var h) T.cl_Way T.a_Way_known (by show [_, _, _, _].lookup _ = _; rfl)
theorem f_made (T : Tx K w mg A) {n : Nat} {W : Wo} {E : En} {i : Nat} {y : Wy} (h : E i = some (.fz (wayA K A y))) : Ev n W (tFld K (tVar i) "made") E (.fz (dctA (madeK K y.made))) := ev_fld (ev_var h) T.cl_Way T.a_Way_made (by show [_, _, _, _].lookup _ = _; rfl)
theorem ok_Way_knowing (T : Tx K w mg A) : FnOk P w K mg base CX0 3 A.f_Way_knowing A.fd_Way_knowing P_Way_knowing (spA (RwayKnow K A)) := by
  have G_Way_init := ok_Way_init (P := P) (base := base) T
  refine T.F_Way_knowing.ok sc_Way_knowing (fun vs H Q E h => spA_len len_wk h) (fun cdv AA outer s H vs Q E hr h => ?_)
  refine ⟨_, (pss_one (ps_ret (pe_make T.M_Way G_Way_init (hr.mono (by decide)) (by rfl) T.g_Way T.b_Way_init .nil pass0 (pa_cons (pe_fld (pv 0) rfl) (pa_cons (pe_tup (StX.pa_star (pe_fld (pv 0) rfl) (pa_cons (pv 1) pa_nil))) (pa_cons (pe_fld (pv 0) rfl) (pa_cons (pe_fld (pv 0) rfl) pa_nil))))))), ?_⟩
  refine fn_go len_wk rfl (fun as r ⟨y, h, e1, e2, hk⟩ => ?_) h rfl
  subst e1 e2
  refine evs_ret (ev_make (as := [dat K (nsD y.names), dat K (.tuple (y.known ++ [h])), dctA (madeK K y.made), dctA (meantK K y.meant)]) (evA_cons (f_names T rfl) (evA_cons (ev_tupD (evAD_star (f_known T rfl) (evAD_cons (ev_var rfl) evAD_nil)) (Nat.ble_eq_true_of_le (by rw [List.length_append]; show _ + 1 ≤ _; omega))) (evA_cons (f_made T rfl) (evA_cons (fld_meant T rfl) evA_nil)))))
/-! ### both_ways, told_number -/
def RbothWays (K : PySem.W.Frag) : List AV → Rs → Prop := fun as r => ∃ (a b : PyData) (n : Int), as = [dat K a, dat K b, dat K (.int n)] ∧ r = .own ([.tuple [a, b, .int n], .tuple [b, a, .int (-n)]].map (dat K))
theorem len_bw : ∀ as r, RbothWays K as r → as.length = 3 := fun as r ⟨_, _, _, e, _⟩ => by rw [e]; rfl
theorem ok_both_ways (T : Tx K w mg A) : FnOk P w K mg base CX0 1 A.f_both_ways A.fd_both_ways P_both_ways (spA (RbothWays K)) := by
  refine T.F_both_ways.ok sc_both_ways (fun vs H Q E h => spA_len len_bw h) (fun cdv AA outer s H vs Q E hr h => ?_)
  refine ⟨_, (pss_one (ps_ret (pe_lst (pa_cons (pe_tup (pa_cons (pv 0) (pa_cons (pv 1) (pa_cons (pv 2) pa_nil)))) (pa_cons (pe_tup (pa_cons (pv 1) (pa_cons (pv 0) (pa_cons (pe_un un_neg (pv 2)) pa_nil)))) pa_nil))))), ?_⟩
  refine fn_go len_bw rfl (fun as r ⟨a, b, n, e1, e2⟩ => ?_) h rfl
  subst e1 e2
  refine evs_ret (ev_lstD (ds := [.tuple [a, b, .int n], .tuple [b, a, .int (-n)]]) (evAD_cons (ev_tupD (evAD_cons (ev_var rfl) (evAD_cons (ev_var rfl) (evAD_cons (ev_var rfl) evAD_nil)))) (evAD_cons (ev_tupD (evAD_cons (ev_var rfl) (evAD_cons (ev_var rfl) (evAD_cons (ev_neg (ev_var rfl)) evAD_nil)))) evAD_nil)))
def RtoldNumber (K : PySem.W.Frag) : List AV → Rs → Prop := fun as r => ∃ (x : Str) (o : PyData) (n : Int), as = [dat K (.str x), dat K o, dat K (.int n)] ∧ r = .own ((two x o n).map (dat K))
theorem len_tn : ∀ as r, RtoldNumber K as r → as.length = 3 := fun as r ⟨_, _, _, e, _⟩ => by rw [e]; rfl
theorem ok_told_number (T : Tx K w mg A) : FnOk P w K mg base CX0 2 A.f_told_number A.fd_told_number P_told_number (spA (RtoldNumber K)) := by
  have G_both_ways := ok_both_ways (P := P) (base := base) T
  refine T.F_told_number.ok sc_told_number (fun vs H Q E h => spA_len len_tn h) (fun cdv AA outer s H vs Q E hr h => ?_)
  refine ⟨_, (pss_one (ps_ret (pe_lc (own := [("link", 3)]) (g := (gName 3)) (tt := tYes) (te := (tTup (tCons _ (StX.tStar K (tVar 3) tNil)))) rfl sc_told_number.nd (pi_list (pe_call G_both_ways (hr.mono (by decide)) (by rfl) T.g_both_ways T.F_both_ways.kp T.b_both_ways .nil pass0 (pa_cons (pe_tup (pa_cons pe_str (pa_cons (pv 0) pa_nil))) (pa_cons (pv 1) (pa_cons (pv 2) pa_nil))))) (blkOk_by (N := N_told_number) (sc := defScope s_told_number) (by decide +kernel)) (fun _ _ _ _ _ => (pg_name (i := 3) sc_told_number.nd rfl (.inl rfl))) (fun _ _ _ _ _ => pts_nil) (fun _ _ _ _ _ => (pe_tup (pa_cons pe_str (StX.pa_star (pv 3) pa_nil))))))), ?_⟩
  refine fn_go len_tn rfl (fun as r ⟨x, o, n, e1, e2⟩ => ?_) h rfl
  subst e1 e2
  refine evs_ret (ev_lcP (as := [.tuple [ofD x, o, .int n], .tuple [o, ofD x, .int (-n)]].map (dat K)) (bs := (two x o n).map (dat K)) (evi_own (ev_call (evA_cons (ev_tupD (K := K) (ds := [.str "of", .str x]) (evAD_cons ev_str (evAD_cons (ev_var rfl) evAD_nil))) (evA_cons (ev_var rfl) (evA_cons (ev_var rfl) evA_nil))) ⟨ofD x, o, n, rfl, rfl⟩)) (Nat.le_of_ble_eq_true rfl) rfl fun i a b ha hb => ?_)
  match i, ha, hb with
  | 0, ha, hb =>
    cases ha
    cases hb
    exact ⟨_, evg_name, ev_tupD (K := K) (ds := [.str "most", ofD x, o, .int n]) (evAD_cons ev_str (evAD_star (ds := [ofD x, o, .int n]) (ev_var rfl) evAD_nil))⟩
  | 1, ha, hb =>
    cases ha
    cases hb
    exact ⟨_, evg_name, ev_tupD (K := K) (ds := [.str "most", o, ofD x, .int (-n)]) (evAD_cons ev_str (evAD_star (ds := [o, ofD x, .int (-n)]) (ev_var rfl) evAD_nil))⟩
/-! ### told_by -/
def RtoldBy (K : PySem.W.Frag) : List AV → Rs → Prop := fun as r => ∃ (x : Str) (d : Dd) (made : List (Str × Str × Str)), as = [dat K (.str x), dat K d.d, dctA (madeK K made)] ∧ r = .own ((toldD x made d).map (dat K))
theorem len_tb : ∀ as r, RtoldBy K as r → as.length = 3 := fun as r ⟨_, _, _, e, _⟩ => by rw [e]; rfl
theorem ok_told_by (T : Tx K w mg A) : FnOk P w K mg base CX0 3 A.f_told_by A.fd_told_by P_told_by (spA (RtoldBy K)) := by
  have G_told_number := ok_told_number (P := P) (base := base) T
  refine T.F_told_by.ok sc_told_by (fun vs H Q E h => spA_len len_tb h) (fun cdv AA outer s H vs Q E hr h => ?_)
  refine ⟨_, (pss_one (ps_match rfl sc_told_by.nd (pv 1) (.cons (.name (i := 3) rfl (.inl rfl) (.inl rfl) .nil) (pss_one (ps_ret (pe_call G_told_number (hr.mono (by decide)) (by rfl) T.g_told_number T.F_told_number.kp T.b_told_number .nil pass0 (pa_cons (pv 0) (pa_cons (pe_tup pa_nil) (pa_cons (pv 3) pa_nil))))))
  (.cons (.name (i := 4) rfl (.inl rfl) (.inl rfl) (.name (i := 3) rfl (.inl rfl) (.inl rfl) .nil)) (pss_one (ps_ret (pe_call G_told_number (hr.mono (by decide)) (by rfl) T.g_told_number T.F_told_number.kp T.b_told_number .nil pass0 (pa_cons (pv 0) (pa_cons (pe_tup (pa_cons pe_str (pa_cons (pv 4) pa_nil))) (pa_cons (pv 3) pa_nil))))))
  (.cons (.name (i := 5) rfl (.inl rfl) (.inl rfl) .nil) (pss_one (ps_ret (pe_call G_told_number (hr.mono (by decide)) (by rfl) T.g_told_number T.F_told_number.kp T.b_told_number .nil pass0 (pa_cons (pv 0) (pa_cons (pe_tup (pa_cons pe_str (pa_cons (pv 5) pa_nil))) (pa_cons pe_int pa_nil))))))
  (.cons .nil (pss_one (ps_ret (pe_lst (pa_cons (pe_tup (pa_cons pe_str (pa_cons (pv 0) pa_nil))) pa_nil))))
  (.cons (.name (i := 6) rfl (.inl rfl) (.inl rfl) (.name (i := 7) rfl (.inl rfl) (.inl rfl) .nil)) (pss_one (ps_ret (pe_lst (pa_cons (pe_tup (pa_cons pe_str (pa_cons (pv 0) (pa_cons (pv 6) (pa_cons (pv 7) pa_nil))))) pa_nil))))
  (.cons (.name (i := 5) rfl (.inl rfl) (.inl rfl) .nil) (pss_one (ps_ret (pe_lst (pa_cons (pe_tup (pa_cons pe_str (pa_cons (pv 0) (pa_cons (pv 5) pa_nil)))) pa_nil))))
  (.cons (.name (i := 8) rfl (.inl rfl) (.inl rfl) (.name (i := 9) rfl (.inl rfl) (.inl rfl) .nil)) (pss_one (ps_ret (pe_lst (pa_cons (pe_tup (pa_cons pe_str (pa_cons (pv 8) (pa_cons (pv 9) (pa_cons (pv 0) pa_nil))))) pa_nil))))
  (.cons (.name (i := 5) rfl (.inl rfl) (.inl rfl) .nil) (pss_one (ps_ret (pe_lst (pa_cons (pe_tup (pa_cons pe_str (pa_cons (pv 0) (pa_cons (pv 5) pa_nil)))) pa_nil))))
  (.cons (.name (i := 5) rfl (.inl rfl) (.inl rfl) (.wild .nil)) (pss_one (ps_ret (pe_ifExp (pt_cmp (pc_din (hu_of hr) (pv 5) (pv 2))) (pe_lst pa_nil) (pe_lst (pa_cons (pe_tup (pa_cons pe_str (pa_cons (pv 0) (pa_cons (pv 5) pa_nil)))) pa_nil)))))
  (.dflt (pss_one (ps_ret (pe_lst pa_nil))))))))))))))), ?_⟩
  refine fn_go len_tb rfl (fun as r ⟨x, d, made, e1, e2⟩ => ?_) h rfl
  subst e1 e2
  cases d with
  | num n =>
    refine evs_match (ev_var rfl) ?_
    repeat (first | refine .word (by decide +kernel) ?_ | refine .len (by decide) ?_)
    refine .hit rfl rfl (evs_ret (ev_call (evA_cons (ev_var rfl) (evA_cons (ev_tupD (K := K) (ds := []) evAD_nil) (evA_cons (ev_var rfl) evA_nil))) ⟨x, _, n, rfl, rfl⟩))
  | sum z n =>
    refine evs_match (ev_var rfl) ?_
    repeat (first | refine .word (by decide +kernel) ?_ | refine .len (by decide) ?_)
    refine .hit rfl rfl (evs_ret (ev_call (evA_cons (ev_var rfl) (evA_cons (ev_tupD (K := K) (ds := [.str "of", .str z]) (evAD_cons ev_str (evAD_cons (ev_var rfl) evAD_nil))) (evA_cons (ev_var rfl) evA_nil))) ⟨x, _, n, rfl, rfl⟩))
  | len l =>
    refine evs_match (ev_var rfl) ?_
    repeat (first | refine .word (by decide +kernel) ?_ | refine .len (by decide) ?_)
    refine .hit rfl rfl (evs_ret (ev_call (evA_cons (ev_var rfl) (evA_cons (ev_tupD (K := K) (ds := [.str "len", .str l]) (evAD_cons ev_str (evAD_cons (ev_var rfl) evAD_nil))) (evA_cons (ev_int (K := K)) evA_nil))) ⟨x, _, 0, rfl, rfl⟩))
  | at_ l z =>
    refine evs_match (ev_var rfl) ?_
    repeat (first | refine .word (by decide +kernel) ?_ | refine .len (by decide) ?_)
    refine .hit rfl rfl (evs_ret (ev_ifE (evT_test (evT_din (ev_var rfl) (ev_var rfl))) (fun h => ?_) (fun h => ?_)))
    · rw [made_val, Option.isSome_map] at h
      show Ev _ _ _ _ (.own ((if (made.lookup l).isSome = true then _ else _ : List PyData).map (dat K)))
      rw [if_pos h]
      exact ev_lstD (ds := []) evAD_nil
    · rw [made_val, Option.isSome_map] at h
      show Ev _ _ _ _ (.own ((if (made.lookup l).isSome = true then _ else _ : List PyData).map (dat K)))
      rw [if_neg (by rw [h]; decide)]
      refine ev_lstD ?_
      (repeat' (first | exact ev_str | exact ev_int | exact ev_var rfl | exact evAD_nil | refine evAD_cons ?_ ?_ | refine ev_tupD ?_ | refine ev_lstD ?_ | exact ev_neg ev_int | exact ev_bl | exact ev_non))
  | ask =>
    refine evs_match (ev_var rfl) ?_
    repeat (first | refine .word (by decide +kernel) ?_ | refine .len (by decide) ?_)
    refine .dflt (evs_ret ?_)
    (repeat' (first | exact ev_str | exact ev_int | exact ev_var rfl | exact evAD_nil | refine evAD_cons ?_ ?_ | refine ev_tupD ?_ | refine ev_lstD ?_ | exact ev_neg ev_int | exact ev_bl | exact ev_non))
  | _ =>
    refine evs_match (ev_var rfl) ?_
    repeat (first | refine .word (by decide +kernel) ?_ | refine .len (by decide) ?_)
    refine .hit rfl rfl (evs_ret (ev_lstD ?_))
    (repeat' (first | exact ev_str | exact ev_int | exact ev_var rfl | exact evAD_nil | refine evAD_cons ?_ ?_ | refine ev_tupD ?_ | refine ev_lstD ?_ | exact ev_neg ev_int | exact ev_bl | exact ev_non))
end
end Cs
namespace Cs
open PySem PySem.Spec L2
def fnD (f : Fn) : PyData := .tuple [nsD f.ps, .str f.kd.s, f.tr.d]
def pgD (fs : List Fn) : PyData := .tuple (fs.map fnD)
def Dd.kd (fs : List Fn) : Dd → Option Kd
  | .nil => some .lst
  | .put _ _ => some .lst
  | .tail _ => some .lst
  | .call g _ => (fs[g]?).map Fn.kd
  | _ => some .num
section
variable {P : Program} {w : World} {K : PySem.W.Frag} {mg : Str → Option Value} {base : Heap} {A : Adr}
/-! ### goals -/
def RdeedGoals (K : PySem.W.Frag) : List AV → Rs → Prop := fun as r => ∃ d : Dd, as = [dat K d.d] ∧ r = .own (d.wants.map (dat K))
theorem len_deed_goals : ∀ as r, RdeedGoals K as r → as.length = 1 := fun as r ⟨d, e, _⟩ => by rw [e]; rfl
theorem ok_deed_goals (T : Tx K w mg A) : FnOk P w K mg base CX0 1 A.f_deed_goals A.fd_deed_goals P_deed_goals (spA (RdeedGoals K)) := by
  refine T.F_deed_goals.ok sc_deed_goals (fun vs H Q E h => spA_len len_deed_goals h) (fun cdv AA outer s H vs Q E hr h => ?_)
  refine ⟨_, (pss_one (ps_match rfl sc_deed_goals.nd (pv 0) (.cons (.name (i := 1) rfl (.inl rfl) (.inl rfl) .nil) (pss_one (ps_ret (pe_lst (pa_cons (pe_tup (pa_cons pe_str (pa_cons (pe_tup pa_nil) (pa_cons (pe_tup (pa_cons pe_str (pa_cons (pv 1) pa_nil))) (pa_cons (pe_un un_neg pe_int) pa_nil))))) pa_nil))))
  (.cons (.name (i := 1) rfl (.inl rfl) (.inl rfl) .nil) (pss_one (ps_ret (pe_lst (pa_cons (pe_tup (pa_cons pe_str (pa_cons (pe_tup pa_nil) (pa_cons (pe_tup (pa_cons pe_str (pa_cons (pv 1) pa_nil))) (pa_cons (pe_un un_neg pe_int) pa_nil))))) pa_nil))))
  (.cons (.name (i := 1) rfl (.inl rfl) (.inl rfl) (.name (i := 2) rfl (.inl rfl) (.inl rfl) .nil)) (pss_one (ps_ret (pe_lst (pa_cons (pe_tup (pa_cons pe_str (pa_cons (pe_tup pa_nil) (pa_cons (pe_tup (pa_cons pe_str (pa_cons (pv 2) pa_nil))) (pa_cons pe_int pa_nil))))) (pa_cons (pe_tup (pa_cons pe_str (pa_cons (pe_tup (pa_cons pe_str (pa_cons (pv 2) pa_nil))) (pa_cons (pe_tup (pa_cons pe_str (pa_cons (pv 1) pa_nil))) (pa_cons (pe_un un_neg pe_int) pa_nil))))) pa_nil)))))
  (.cons (.name (i := 3) rfl (.inl rfl) (.inl rfl) (.name (i := 4) rfl (.inl rfl) (.inl rfl) .nil)) (pss_one (ps_ret (pe_lst (pa_cons (pe_tup (pa_cons pe_str (pa_cons (pv 3) (pa_cons (pv 4) pa_nil)))) pa_nil))))
  (.dflt (pss_one (ps_ret (pe_lst pa_nil)))))))))), ?_⟩
  refine fn_go len_deed_goals rfl (fun as r ⟨d, e1, e2⟩ => ?_) h rfl
  subst e1 e2
  cases d with
  | head l =>
    refine evs_match (ev_var rfl) (.hit rfl rfl (evs_ret ?_))
    (repeat' (first | exact ev_str | exact ev_int | exact ev_var rfl | exact evAD_nil | refine evAD_cons ?_ ?_ | refine ev_tupD ?_ | refine ev_lstD ?_ | exact ev_neg ev_int | exact ev_bl | exact ev_non))
  | tail l =>
    refine evs_match (ev_var rfl) (.word (by decide +kernel) (.hit rfl rfl (evs_ret ?_)))
    (repeat' (first | exact ev_str | exact ev_int | exact ev_var rfl | exact evAD_nil | refine evAD_cons ?_ ?_ | refine ev_tupD ?_ | refine ev_lstD ?_ | exact ev_neg ev_int | exact ev_bl | exact ev_non))
  | at_ l x =>
    refine evs_match (ev_var rfl) (.word (by decide +kernel) (.word (by decide +kernel) (.hit rfl rfl (evs_ret ?_))))
    (repeat' (first | exact ev_str | exact ev_int | exact ev_var rfl | exact evAD_nil | refine evAD_cons ?_ ?_ | refine ev_tupD ?_ | refine ev_lstD ?_ | exact ev_neg ev_int | exact ev_bl | exact ev_non))
  | call f xs =>
    refine evs_match (ev_var rfl) (.word (by decide +kernel) (.word (by decide +kernel) (.word (by decide +kernel) (.hit rfl rfl (evs_ret ?_)))))
    (repeat' (first | exact ev_str | exact ev_int | exact ev_var rfl | exact evAD_nil | refine evAD_cons ?_ ?_ | refine ev_tupD ?_ | refine ev_lstD ?_ | exact ev_neg ev_int | exact ev_bl | exact ev_non))
  | _ =>
    refine evs_match (ev_var rfl) ?_
    repeat (first | refine .word (by decide +kernel) ?_ | refine .len (by decide) ?_)
    refine .dflt (evs_ret ?_)
    (repeat' (first | exact ev_str | exact ev_int | exact ev_var rfl | exact evAD_nil | refine evAD_cons ?_ ?_ | refine ev_tupD ?_ | refine ev_lstD ?_ | exact ev_neg ev_int | exact ev_bl | exact ev_non))
def Rgoals (K : PySem.W.Frag) : List AV → Rs → Prop := fun as r => ∃ (i : Nat) (ps : List Str) (t : Tr), as = [dat K (.int i), dat K (strsD ps), dat K t.d] ∧ r = .own ((t.wants i ps).map (dat K))
theorem len_goals : ∀ as r, Rgoals K as r → as.length = 3 := fun as r ⟨_, _, _, e, _⟩ => by rw [e]; rfl
theorem ok_goals (T : Tx K w mg A) : FnOk P w K mg base CX0 2 A.f_goals A.fd_goals P_goals (spA (Rgoals K)) := by
  have G_deed_goals := ok_deed_goals (P := P) (base := base) T
  refine T.F_goals.ok sc_goals (fun vs H Q E h => spA_len len_goals h) (fun cdv AA outer s H vs Q E hr h => ?_)
  refine ⟨_, (pss_one (ps_match rfl sc_goals.nd (pv 2) (.cons (.name (i := 3) rfl (.inl rfl) (.inl rfl) .nil) (pss_one (ps_ret (pe_lst (pa_cons (pe_tup (pa_cons pe_str (pa_cons (pv 0) (pa_cons (pv 1) (pa_cons (pv 3) pa_nil))))) pa_nil))))
  (.cons (.name (i := 4) rfl (.inl rfl) (.inl rfl) (.name (i := 5) rfl (.inl rfl) (.inl rfl) (.name (i := 6) rfl (.inl rfl) (.inl rfl) (.wild .nil)))) (pss_one (ps_ret (pe_lst (pa_cons (pe_tup (pa_cons pe_str (pa_cons (pv 4) (pa_cons (pv 5) (pa_cons (pv 6) pa_nil))))) pa_nil))))
  (.cons (.wild (.name (i := 7) rfl (.inl rfl) (.inl rfl) (.wild .nil))) (pss_one (ps_ret (pe_call G_deed_goals (hr.mono (by decide)) (by rfl) T.g_deed_goals T.F_deed_goals.kp T.b_deed_goals .nil pass0 (pa_cons (pv 7) pa_nil))))
  (.dflt (pss_one (ps_ret (pe_lst pa_nil))))))))), ?_⟩
  refine fn_go len_goals rfl (fun as r ⟨i, ps, t, e1, e2⟩ => ?_) h rfl
  subst e1 e2
  cases t with
  | tell x =>
    refine evs_match (ev_var rfl) (.hit rfl rfl (evs_ret ?_))
    (repeat' (first | exact ev_str | exact ev_int | exact ev_var rfl | exact evAD_nil | refine evAD_cons ?_ ?_ | refine ev_tupD ?_ | refine ev_lstD ?_ | exact ev_neg ev_int | exact ev_bl | exact ev_non))
  | claim a b n t =>
    refine evs_match (ev_var rfl) ?_
    repeat (first | refine .word (by decide +kernel) ?_ | refine .len (by decide) ?_)
    refine .hit rfl rfl (evs_ret ?_)
    (repeat' (first | exact ev_str | exact ev_int | exact ev_var rfl | exact evAD_nil | refine evAD_cons ?_ ?_ | refine ev_tupD ?_ | refine ev_lstD ?_ | exact ev_neg ev_int | exact ev_bl | exact ev_non))
  | let_ x d t =>
    refine evs_match (ev_var rfl) ?_
    repeat (first | refine .word (by decide +kernel) ?_ | refine .len (by decide) ?_)
    exact .hit rfl rfl (evs_ret (ev_call (evA_cons (ev_var rfl) evA_nil) ⟨d, rfl, rfl⟩))
  | if_ a b n t u =>
    refine evs_match (ev_var rfl) ?_
    repeat (first | refine .word (by decide +kernel) ?_ | refine .len (by decide) ?_)
    refine .dflt (evs_ret ?_)
    (repeat' (first | exact ev_str | exact ev_int | exact ev_var rfl | exact evAD_nil | refine evAD_cons ?_ ?_ | refine ev_tupD ?_ | refine ev_lstD ?_ | exact ev_neg ev_int | exact ev_bl | exact ev_non))
/-! ### let_kind -/
def RletKind (K : PySem.W.Frag) : List AV → Rs → Prop := fun as r => ∃ (fs : List Fn) (d : Dd) (k : Kd), as = [dat K (pgD fs), dat K d.d] ∧ r = .fz (dat K (.str k.s)) ∧ d.kd fs = some k
theorem len_lk : ∀ as r, RletKind K as r → as.length = 2 := fun as r ⟨_, _, _, e, _⟩ => by rw [e]; rfl
theorem ev_deeds (T : Tx K w mg A) {n : Nat} {W : Wo} {E : En} {i : Nat} {x k : Str} {ds : List PyData} {a : Addr} {v : V} (h : E i = some (.fz (dat K (.tuple (.str x :: ds))))) (hy : KDct K w A.a_DEEDS x (.ref a)) (hq : ∀ H, SqT K H a [v, .str k]) : EvD K n W (tOp (rIxT K) (tOp (rIxD K w) (tC (.ref A.a_DEEDS)) (tOp (rIxT K) (tVar i) (tC (.int 0)))) (tC (.int 1))) E (.str k) :=
  ev_ixcA 1 (ev_written (vs := [v, .str k]) (as := [eqA v, dat K (.str k)]) (ev_ixK (K := K) ev_at (ev_ixc 0 (ev_var h) rfl) hy) hq fun B => .cons rfl (.cons (.str k) .nil)) rfl
theorem ok_let_kind (T : Tx K w mg A) : FnOk P w K mg base CX0 1 A.f_let_kind A.fd_let_kind P_let_kind (spA (RletKind K)) := by
  refine T.F_let_kind.ok sc_let_kind (fun vs H Q E h => spA_len len_lk h) (fun cdv AA outer s H vs Q E hr h => ?_)
  refine ⟨_, (pss_one (ps_ret (pe_ifExp (pt_cmpR op_eq (pe_ix ix_tup (pv 1) pe_int (fun _ _ => rfl)) pe_str (nomark _)) (pe_ix ix_tup (pe_ix ix_tup (pv 0) (pe_ix ix_tup (pv 1) pe_int (fun _ _ => rfl)) (fun _ _ => rfl)) pe_int (fun _ _ => rfl)) (pe_ix ix_tup (pe_ix ix_kdict (pe_glob (v := .ref A.a_DEEDS) rfl T.c_DEEDS rfl) (pe_ix ix_tup (pv 1) pe_int (fun _ _ => rfl)) (fun _ _ => rfl)) pe_int (fun _ _ => rfl))))), ?_⟩
  refine fn_go len_lk rfl (fun as r ⟨fs, d, k, e1, e2, hk⟩ => ?_) h rfl
  subst e1 e2
  cases d with
  | call g xs =>
    obtain ⟨f, hf, rfl⟩ := Option.map_eq_some_iff.mp hk
    refine evs_ret (ev_ifE (evT_str (x := "call") (y := "call") (ev_ixc 0 (ev_var rfl) rfl) ev_str) (fun _ => ?_) (fun h => absurd h (by decide +kernel)))
    exact ev_ixc 1 (ev_ixTD (i := g) (ds := fs.map fnD) (d := fnD f) (ev_var rfl) (ev_ixc (K := K) 1 (ds := [.str "call", .int g, strsD xs]) (ev_var rfl) rfl) (by rw [List.getElem?_map, hf]; rfl)) rfl
  | num n => cases hk; exact evs_ret (ev_ifE (evT_str (x := "num") (y := "call") (ev_ixc 0 (ev_var rfl) rfl) ev_str) (fun h => absurd h (by decide +kernel)) (fun _ => ev_deeds T rfl T.y_DEEDS_num T.q_DEEDS_num))
  | sum x n => cases hk; exact evs_ret (ev_ifE (evT_str (x := "sum") (y := "call") (ev_ixc 0 (ev_var rfl) rfl) ev_str) (fun h => absurd h (by decide +kernel)) (fun _ => ev_deeds T rfl T.y_DEEDS_sum T.q_DEEDS_sum))
  | len x => cases hk; exact evs_ret (ev_ifE (evT_str (x := "len") (y := "call") (ev_ixc 0 (ev_var rfl) rfl) ev_str) (fun h => absurd h (by decide +kernel)) (fun _ => ev_deeds T rfl T.y_DEEDS_len T.q_DEEDS_len))
  | nil => cases hk; exact evs_ret (ev_ifE (evT_str (x := "nil") (y := "call") (ev_ixc 0 (ev_var rfl) rfl) ev_str) (fun h => absurd h (by decide +kernel)) (fun _ => ev_deeds T rfl T.y_DEEDS_nil T.q_DEEDS_nil))
  | put x l => cases hk; exact evs_ret (ev_ifE (evT_str (x := "put") (y := "call") (ev_ixc 0 (ev_var rfl) rfl) ev_str) (fun h => absurd h (by decide +kernel)) (fun _ => ev_deeds T rfl T.y_DEEDS_put T.q_DEEDS_put))
  | head l => cases hk; exact evs_ret (ev_ifE (evT_str (x := "head") (y := "call") (ev_ixc 0 (ev_var rfl) rfl) ev_str) (fun h => absurd h (by decide +kernel)) (fun _ => ev_deeds T rfl T.y_DEEDS_head T.q_DEEDS_head))
  | tail l => cases hk; exact evs_ret (ev_ifE (evT_str (x := "tail") (y := "call") (ev_ixc 0 (ev_var rfl) rfl) ev_str) (fun h => absurd h (by decide +kernel)) (fun _ => ev_deeds T rfl T.y_DEEDS_tail T.q_DEEDS_tail))
  | at_ l x => cases hk; exact evs_ret (ev_ifE (evT_str (x := "at") (y := "call") (ev_ixc 0 (ev_var rfl) rfl) ev_str) (fun h => absurd h (by decide +kernel)) (fun _ => ev_deeds T rfl T.y_DEEDS_at T.q_DEEDS_at))
  | ask => cases hk; exact evs_ret (ev_ifE (evT_str (x := "ask") (y := "call") (ev_ixc 0 (ev_var rfl) rfl) ev_str) (fun h => absurd h (by decide +kernel)) (fun _ => ev_deeds T rfl T.y_DEEDS_ask T.q_DEEDS_ask))
/-! ### Way.letting -/
theorem lets_none {y : Wy} {x : Str} {d : Dd} {k : Kd} (h : d.opened y = none) : y.lets x d k = { names := y.names ++ [(x, k)], known := y.known ++ toldD x y.made d, made := d.mades y x, meant := y.meant } := by
  unfold Wy.lets
  rw [h]
theorem lets_some {y : Wy} {x : Str} {d : Dd} {k : Kd} {z : Str} (h : d.opened y = some z) : y.lets x d k = { y with meant := y.meant ++ [(x, z)] } := by
  unfold Wy.lets
  rw [h]
structure LetOk (y : Wy) (x : Str) : Prop where
  meant : y.meant.lookup x = none
  made : y.made.lookup x = none
  few1 : y.meant.length ≤ 1000
  few2 : y.made.length ≤ 1000
  few3 : y.known.length ≤ 1000
  few4 : y.names.length ≤ 1000
def RwayLet (K : PySem.W.Frag) (A : Adr) : List AV → Rs → Prop := fun as r => ∃ (y : Wy) (x : Str) (d : Dd) (k : Kd), as = [wayA K A y, dat K (.str x), dat K d.d, dat K (.str k.s)] ∧ r = .fz (wayA K A (y.lets x d k)) ∧ LetOk y x
theorem len_wl : ∀ as r, RwayLet K A as r → as.length = 4 := fun as r ⟨_, _, _, _, e, _⟩ => by rw [e]; rfl
theorem told_len (x : Str) (m : List (Str × Str × Str)) (d : Dd) : (toldD x m d).length ≤ 2 := by
  cases d with
  | at_ l z =>
    show (if (m.lookup l).isSome then [] else [_]).length ≤ 2
    split
    · decide
    · exact Nat.le_of_ble_eq_true rfl
  | _ => exact Nat.le_of_ble_eq_true rfl
theorem put_new (m : List (Str × Str × Str)) (x n l : Str) : Rs.fz (dctA (madeK K m ++ [(.inr x, dat K (.tuple (List.drop 1 [.str "put", .str n, .str l])))])) = Rs.fz (dctA (madeK K (m ++ [(x, n, l)]))) := by
  unfold madeK
  rw [List.map_append]
  rfl
theorem way_new (y : Wy) (x : Str) (tl : List PyData) (k : Kd) (m : List (Str × Str × Str)) : Rs.fz (insA A.C_Way (List.zip (["names", "known", "made", "meant"] : List Str) [dat K (.tuple (y.names.map prD ++ [prD (x, k)])), dat K (.tuple (y.known ++ (tl ++ []))), dctA (madeK K m), dctA (meantK K y.meant)])) = Rs.fz (wayA K A ⟨y.names ++ [(x, k)], y.known ++ tl, m, y.meant⟩) := by
  unfold wayA wayF nsD
  rw [List.append_nil, List.map_append]
  rfl
theorem ok_Way_letting (T : Tx K w mg A) : FnOk P w K mg base CX0 4 A.f_Way_letting A.fd_Way_letting P_Way_letting (spA (RwayLet K A)) := by
  have G_Way_init := ok_Way_init (P := P) (base := base) T
  have G_told_by := ok_told_by (P := P) (base := base) T
  refine T.F_Way_letting.ok sc_Way_letting (fun vs H Q E h => spA_len len_wl h) (fun cdv AA outer s H vs Q E hr h => ?_)
  refine ⟨_, (pss_cons (ps_if (PW.pt (pw_and (pt_cmpR op_in_seq (pe_ix ix_tup (pv 2) pe_int (fun _ _ => rfl)) (pe_tup (pa_cons pe_str (pa_cons pe_str pa_nil))) (by rfl)) (pw_and1 (pt_cmp (pc_din (hu_of hr) (pe_ix ix_tup (pv 2) pe_int (fun _ _ => rfl)) (pe_fld (pv 0) rfl))))))
  (pss_cons (ps_asg (pe_dget (hu_of hr) (pe_fld (pv 0) rfl) (pe_ix ix_tup (pv 2) pe_int (fun _ _ => rfl)) (fun _ _ => rfl)) (pg_tup (by rfl) (pgs_cons (pg_name (i := 4) sc_Way_letting.nd rfl (.inl rfl)) (pgs_cons (pg_name (i := 5) sc_Way_letting.nd rfl (.inl rfl)) pgs_nil))))
  (pss_cons (ps_set (i := 6) sc_Way_letting.nd rfl (.inl rfl) (pe_splat (pe_fld (pv 0) rfl) (pv 1) (pe_ifExp (pt_cmpR op_eq (pe_ix ix_tup (pv 2) pe_int (fun _ _ => rfl)) pe_str (nomark _)) (pv 4) (pv 5))))
  (pss_one (ps_ret (pe_make T.M_Way G_Way_init (hr.mono (by decide)) (by rfl) T.g_Way T.b_Way_init .nil pass0 (pa_cons (pe_fld (pv 0) rfl) (pa_cons (pe_fld (pv 0) rfl) (pa_cons (pe_fld (pv 0) rfl) (pa_cons (pv 6) pa_nil)))))))))
  pss_nil)
  (pss_cons (ps_set (i := 7) sc_Way_letting.nd rfl (.inl rfl) (pe_ifExp (pt_cmpR op_eq (pe_ix ix_tup (pv 2) pe_int (fun _ _ => rfl)) pe_str (nomark _)) (pe_splat (pe_fld (pv 0) rfl) (pv 1) (pe_slice sl_tup (pv 2) (po_some pe_int) po_none)) (pe_fld (pv 0) rfl)))
  (pss_cons (ps_set (i := 8) sc_Way_letting.nd rfl (.inl rfl) (pe_tup (StX.pa_star (pe_fld (pv 0) rfl) (StX.pa_star (pe_call G_told_by (hr.mono (by decide)) (by rfl) T.g_told_by T.F_told_by.kp T.b_told_by .nil pass0 (pa_cons (pv 1) (pa_cons (pv 2) (pa_cons (pe_fld (pv 0) rfl) pa_nil)))) pa_nil))))
  (pss_one (ps_ret (pe_make T.M_Way G_Way_init (hr.mono (by decide)) (by rfl) T.g_Way T.b_Way_init .nil pass0 (pa_cons (pe_tup (StX.pa_star (pe_fld (pv 0) rfl) (pa_cons (pe_tup (pa_cons (pv 1) (pa_cons (pv 3) pa_nil))) pa_nil))) (pa_cons (pv 8) (pa_cons (pv 7) (pa_cons (pe_fld (pv 0) rfl) pa_nil)))))))))), ?_⟩
  refine fn_go len_wl rfl (fun as r ⟨y, x, d, k, e1, e2, ok⟩ => ?_) h rfl
  subst e1 e2
  have kb : ∀ d : Dd, Nat.ble (y.known ++ (toldD x y.made d ++ [])).length 1000000 = true := fun d => Nat.ble_eq_true_of_le (by
    rw [List.append_nil, List.length_append]
    have := told_len x y.made d
    have := ok.few3
    omega)
  have nb : Nat.ble (y.names.map prD ++ [prD (x, k)]).length 1000000 = true := Nat.ble_eq_true_of_le (by
    rw [List.length_append, List.length_map]
    have := ok.few4
    show _ + 1 ≤ _
    omega)
  cases d with
  | num n =>
    refine evs_seq (evs_if (evT_and (evT_inS (ws := ["head", "tail"]) (ev_ixc 0 (ev_var rfl) rfl) (ev_tupD (K := K) (ds := [.str "head", .str "tail"]) (evAD_cons ev_str (evAD_cons ev_str evAD_nil)))) (c := false) (fun h => absurd h (by decide +kernel))) (fun h => absurd h (by decide +kernel)) (fun _ => evs_next)) ?_
    refine evs_seq (evs_set (ev_ifE (evT_str (x := "num") (y := "put") (ev_ixc 0 (ev_var rfl) rfl) ev_str) (fun h => absurd h (by decide +kernel)) (fun _ => f_made T rfl))) ?_
    refine evs_seq (evs_set (ev_tupD (K := K) (evAD_star (f_known T rfl) (evAD_starL (K := K) (ds := toldD x y.made (.num n)) (ev_call (evA_cons (ev_var rfl) (evA_cons (ev_var rfl) (evA_cons (f_made T rfl) evA_nil))) ⟨x, (.num n), y.made, rfl, rfl⟩) evAD_nil)) (kb (.num n)))) ?_
    refine evs_ret ((ev_make (as := [dat K (.tuple (y.names.map prD ++ [prD (x, k)])), dat K (.tuple (y.known ++ (toldD x y.made (.num n) ++ []))), dctA (madeK K y.made), dctA (meantK K y.meant)]) (evA_cons (ev_tupD (K := K) (evAD_star (f_names T rfl) (evAD_cons (ev_tupD (K := K) (ds := [.str x, .str k.s]) (evAD_cons (ev_var rfl) (evAD_cons (ev_var rfl) evAD_nil))) evAD_nil)) nb) (evA_cons (ev_var rfl) (evA_cons (ev_var rfl) (evA_cons (fld_meant T rfl) evA_nil))))).cong ?_)
    rw [show y.lets x (.num n) k = ⟨y.names ++ [(x, k)], y.known ++ toldD x y.made (.num n), y.made, y.meant⟩ from rfl]
    exact way_new y x _ k _
  | sum z n =>
    refine evs_seq (evs_if (evT_and (evT_inS (ws := ["head", "tail"]) (ev_ixc 0 (ev_var rfl) rfl) (ev_tupD (K := K) (ds := [.str "head", .str "tail"]) (evAD_cons ev_str (evAD_cons ev_str evAD_nil)))) (c := false) (fun h => absurd h (by decide +kernel))) (fun h => absurd h (by decide +kernel)) (fun _ => evs_next)) ?_
    refine evs_seq (evs_set (ev_ifE (evT_str (x := "sum") (y := "put") (ev_ixc 0 (ev_var rfl) rfl) ev_str) (fun h => absurd h (by decide +kernel)) (fun _ => f_made T rfl))) ?_
    refine evs_seq (evs_set (ev_tupD (K := K) (evAD_star (f_known T rfl) (evAD_starL (K := K) (ds := toldD x y.made (.sum z n)) (ev_call (evA_cons (ev_var rfl) (evA_cons (ev_var rfl) (evA_cons (f_made T rfl) evA_nil))) ⟨x, (.sum z n), y.made, rfl, rfl⟩) evAD_nil)) (kb (.sum z n)))) ?_
    refine evs_ret ((ev_make (as := [dat K (.tuple (y.names.map prD ++ [prD (x, k)])), dat K (.tuple (y.known ++ (toldD x y.made (.sum z n) ++ []))), dctA (madeK K y.made), dctA (meantK K y.meant)]) (evA_cons (ev_tupD (K := K) (evAD_star (f_names T rfl) (evAD_cons (ev_tupD (K := K) (ds := [.str x, .str k.s]) (evAD_cons (ev_var rfl) (evAD_cons (ev_var rfl) evAD_nil))) evAD_nil)) nb) (evA_cons (ev_var rfl) (evA_cons (ev_var rfl) (evA_cons (fld_meant T rfl) evA_nil))))).cong ?_)
    rw [show y.lets x (.sum z n) k = ⟨y.names ++ [(x, k)], y.known ++ toldD x y.made (.sum z n), y.made, y.meant⟩ from rfl]
    exact way_new y x _ k _
  | len l =>
    refine evs_seq (evs_if (evT_and (evT_inS (ws := ["head", "tail"]) (ev_ixc 0 (ev_var rfl) rfl) (ev_tupD (K := K) (ds := [.str "head", .str "tail"]) (evAD_cons ev_str (evAD_cons ev_str evAD_nil)))) (c := false) (fun h => absurd h (by decide +kernel))) (fun h => absurd h (by decide +kernel)) (fun _ => evs_next)) ?_
    refine evs_seq (evs_set (ev_ifE (evT_str (x := "len") (y := "put") (ev_ixc 0 (ev_var rfl) rfl) ev_str) (fun h => absurd h (by decide +kernel)) (fun _ => f_made T rfl))) ?_
    refine evs_seq (evs_set (ev_tupD (K := K) (evAD_star (f_known T rfl) (evAD_starL (K := K) (ds := toldD x y.made (.len l)) (ev_call (evA_cons (ev_var rfl) (evA_cons (ev_var rfl) (evA_cons (f_made T rfl) evA_nil))) ⟨x, (.len l), y.made, rfl, rfl⟩) evAD_nil)) (kb (.len l)))) ?_
    refine evs_ret ((ev_make (as := [dat K (.tuple (y.names.map prD ++ [prD (x, k)])), dat K (.tuple (y.known ++ (toldD x y.made (.len l) ++ []))), dctA (madeK K y.made), dctA (meantK K y.meant)]) (evA_cons (ev_tupD (K := K) (evAD_star (f_names T rfl) (evAD_cons (ev_tupD (K := K) (ds := [.str x, .str k.s]) (evAD_cons (ev_var rfl) (evAD_cons (ev_var rfl) evAD_nil))) evAD_nil)) nb) (evA_cons (ev_var rfl) (evA_cons (ev_var rfl) (evA_cons (fld_meant T rfl) evA_nil))))).cong ?_)
    rw [show y.lets x (.len l) k = ⟨y.names ++ [(x, k)], y.known ++ toldD x y.made (.len l), y.made, y.meant⟩ from rfl]
    exact way_new y x _ k _
  | nil =>
    refine evs_seq (evs_if (evT_and (evT_inS (ws := ["head", "tail"]) (ev_ixc 0 (ev_var rfl) rfl) (ev_tupD (K := K) (ds := [.str "head", .str "tail"]) (evAD_cons ev_str (evAD_cons ev_str evAD_nil)))) (c := false) (fun h => absurd h (by decide +kernel))) (fun h => absurd h (by decide +kernel)) (fun _ => evs_next)) ?_
    refine evs_seq (evs_set (ev_ifE (evT_str (x := "nil") (y := "put") (ev_ixc 0 (ev_var rfl) rfl) ev_str) (fun h => absurd h (by decide +kernel)) (fun _ => f_made T rfl))) ?_
    refine evs_seq (evs_set (ev_tupD (K := K) (evAD_star (f_known T rfl) (evAD_starL (K := K) (ds := toldD x y.made .nil) (ev_call (evA_cons (ev_var rfl) (evA_cons (ev_var rfl) (evA_cons (f_made T rfl) evA_nil))) ⟨x, .nil, y.made, rfl, rfl⟩) evAD_nil)) (kb .nil))) ?_
    refine evs_ret ((ev_make (as := [dat K (.tuple (y.names.map prD ++ [prD (x, k)])), dat K (.tuple (y.known ++ (toldD x y.made .nil ++ []))), dctA (madeK K y.made), dctA (meantK K y.meant)]) (evA_cons (ev_tupD (K := K) (evAD_star (f_names T rfl) (evAD_cons (ev_tupD (K := K) (ds := [.str x, .str k.s]) (evAD_cons (ev_var rfl) (evAD_cons (ev_var rfl) evAD_nil))) evAD_nil)) nb) (evA_cons (ev_var rfl) (evA_cons (ev_var rfl) (evA_cons (fld_meant T rfl) evA_nil))))).cong ?_)
    rw [show y.lets x .nil k = ⟨y.names ++ [(x, k)], y.known ++ toldD x y.made .nil, y.made, y.meant⟩ from rfl]
    exact way_new y x _ k _
  | put n l =>
    refine evs_seq (evs_if (evT_and (evT_inS (ws := ["head", "tail"]) (ev_ixc 0 (ev_var rfl) rfl) (ev_tupD (K := K) (ds := [.str "head", .str "tail"]) (evAD_cons ev_str (evAD_cons ev_str evAD_nil)))) (c := false) (fun h => absurd h (by decide +kernel))) (fun h => absurd h (by decide +kernel)) (fun _ => evs_next)) ?_
    refine evs_seq (evs_set (ev_ifE (evT_str (x := "put") (y := "put") (ev_ixc 0 (ev_var rfl) rfl) ev_str) (fun _ => (ev_splat (f_made T rfl) (ev_var rfl) (ev_dropT (K := K) (ds := [.str "put", .str n, .str l]) (ev_var rfl) 1 (by decide) (by show 1 ≤ 3; decide)) (by rw [made_val, ok.made]; rfl) (by unfold madeK; rw [List.length_map]; exact ok.few2)).cong (put_new y.made x n l)) (fun h => absurd h (by decide +kernel)))) ?_
    refine evs_seq (evs_set (ev_tupD (K := K) (evAD_star (f_known T rfl) (evAD_starL (K := K) (ds := toldD x y.made (.put n l)) (ev_call (evA_cons (ev_var rfl) (evA_cons (ev_var rfl) (evA_cons (f_made T rfl) evA_nil))) ⟨x, (.put n l), y.made, rfl, rfl⟩) evAD_nil)) (kb (.put n l)))) ?_
    refine evs_ret ((ev_make (as := [dat K (.tuple (y.names.map prD ++ [prD (x, k)])), dat K (.tuple (y.known ++ (toldD x y.made (.put n l) ++ []))), dctA (madeK K (y.made ++ [(x, n, l)])), dctA (meantK K y.meant)]) (evA_cons (ev_tupD (K := K) (evAD_star (f_names T rfl) (evAD_cons (ev_tupD (K := K) (ds := [.str x, .str k.s]) (evAD_cons (ev_var rfl) (evAD_cons (ev_var rfl) evAD_nil))) evAD_nil)) nb) (evA_cons (ev_var rfl) (evA_cons (ev_var rfl) (evA_cons (fld_meant T rfl) evA_nil))))).cong ?_)
    rw [show y.lets x (.put n l) k = ⟨y.names ++ [(x, k)], y.known ++ toldD x y.made (.put n l), (y.made ++ [(x, n, l)]), y.meant⟩ from rfl]
    exact way_new y x _ k _
  | at_ l z =>
    refine evs_seq (evs_if (evT_and (evT_inS (ws := ["head", "tail"]) (ev_ixc 0 (ev_var rfl) rfl) (ev_tupD (K := K) (ds := [.str "head", .str "tail"]) (evAD_cons ev_str (evAD_cons ev_str evAD_nil)))) (c := false) (fun h => absurd h (by decide +kernel))) (fun h => absurd h (by decide +kernel)) (fun _ => evs_next)) ?_
    refine evs_seq (evs_set (ev_ifE (evT_str (x := "at") (y := "put") (ev_ixc 0 (ev_var rfl) rfl) ev_str) (fun h => absurd h (by decide +kernel)) (fun _ => f_made T rfl))) ?_
    refine evs_seq (evs_set (ev_tupD (K := K) (evAD_star (f_known T rfl) (evAD_starL (K := K) (ds := toldD x y.made (.at_ l z)) (ev_call (evA_cons (ev_var rfl) (evA_cons (ev_var rfl) (evA_cons (f_made T rfl) evA_nil))) ⟨x, (.at_ l z), y.made, rfl, rfl⟩) evAD_nil)) (kb (.at_ l z)))) ?_
    refine evs_ret ((ev_make (as := [dat K (.tuple (y.names.map prD ++ [prD (x, k)])), dat K (.tuple (y.known ++ (toldD x y.made (.at_ l z) ++ []))), dctA (madeK K y.made), dctA (meantK K y.meant)]) (evA_cons (ev_tupD (K := K) (evAD_star (f_names T rfl) (evAD_cons (ev_tupD (K := K) (ds := [.str x, .str k.s]) (evAD_cons (ev_var rfl) (evAD_cons (ev_var rfl) evAD_nil))) evAD_nil)) nb) (evA_cons (ev_var rfl) (evA_cons (ev_var rfl) (evA_cons (fld_meant T rfl) evA_nil))))).cong ?_)
    rw [show y.lets x (.at_ l z) k = ⟨y.names ++ [(x, k)], y.known ++ toldD x y.made (.at_ l z), y.made, y.meant⟩ from rfl]
    exact way_new y x _ k _
  | ask =>
    refine evs_seq (evs_if (evT_and (evT_inS (ws := ["head", "tail"]) (ev_ixc 0 (ev_var rfl) rfl) (ev_tupD (K := K) (ds := [.str "head", .str "tail"]) (evAD_cons ev_str (evAD_cons ev_str evAD_nil)))) (c := false) (fun h => absurd h (by decide +kernel))) (fun h => absurd h (by decide +kernel)) (fun _ => evs_next)) ?_
    refine evs_seq (evs_set (ev_ifE (evT_str (x := "ask") (y := "put") (ev_ixc 0 (ev_var rfl) rfl) ev_str) (fun h => absurd h (by decide +kernel)) (fun _ => f_made T rfl))) ?_
    refine evs_seq (evs_set (ev_tupD (K := K) (evAD_star (f_known T rfl) (evAD_starL (K := K) (ds := toldD x y.made .ask) (ev_call (evA_cons (ev_var rfl) (evA_cons (ev_var rfl) (evA_cons (f_made T rfl) evA_nil))) ⟨x, .ask, y.made, rfl, rfl⟩) evAD_nil)) (kb .ask))) ?_
    refine evs_ret ((ev_make (as := [dat K (.tuple (y.names.map prD ++ [prD (x, k)])), dat K (.tuple (y.known ++ (toldD x y.made .ask ++ []))), dctA (madeK K y.made), dctA (meantK K y.meant)]) (evA_cons (ev_tupD (K := K) (evAD_star (f_names T rfl) (evAD_cons (ev_tupD (K := K) (ds := [.str x, .str k.s]) (evAD_cons (ev_var rfl) (evAD_cons (ev_var rfl) evAD_nil))) evAD_nil)) nb) (evA_cons (ev_var rfl) (evA_cons (ev_var rfl) (evA_cons (fld_meant T rfl) evA_nil))))).cong ?_)
    rw [show y.lets x .ask k = ⟨y.names ++ [(x, k)], y.known ++ toldD x y.made .ask, y.made, y.meant⟩ from rfl]
    exact way_new y x _ k _
  | call g xs =>
    refine evs_seq (evs_if (evT_and (evT_inS (ws := ["head", "tail"]) (ev_ixc 0 (ev_var rfl) rfl) (ev_tupD (K := K) (ds := [.str "head", .str "tail"]) (evAD_cons ev_str (evAD_cons ev_str evAD_nil)))) (c := false) (fun h => absurd h (by decide +kernel))) (fun h => absurd h (by decide +kernel)) (fun _ => evs_next)) ?_
    refine evs_seq (evs_set (ev_ifE (evT_str (x := "call") (y := "put") (ev_ixc 0 (ev_var rfl) rfl) ev_str) (fun h => absurd h (by decide +kernel)) (fun _ => f_made T rfl))) ?_
    refine evs_seq (evs_set (ev_tupD (K := K) (evAD_star (f_known T rfl) (evAD_starL (K := K) (ds := toldD x y.made (.call g xs)) (ev_call (evA_cons (ev_var rfl) (evA_cons (ev_var rfl) (evA_cons (f_made T rfl) evA_nil))) ⟨x, (.call g xs), y.made, rfl, rfl⟩) evAD_nil)) (kb (.call g xs)))) ?_
    refine evs_ret ((ev_make (as := [dat K (.tuple (y.names.map prD ++ [prD (x, k)])), dat K (.tuple (y.known ++ (toldD x y.made (.call g xs) ++ []))), dctA (madeK K y.made), dctA (meantK K y.meant)]) (evA_cons (ev_tupD (K := K) (evAD_star (f_names T rfl) (evAD_cons (ev_tupD (K := K) (ds := [.str x, .str k.s]) (evAD_cons (ev_var rfl) (evAD_cons (ev_var rfl) evAD_nil))) evAD_nil)) nb) (evA_cons (ev_var rfl) (evA_cons (ev_var rfl) (evA_cons (fld_meant T rfl) evA_nil))))).cong ?_)
    rw [show y.lets x (.call g xs) k = ⟨y.names ++ [(x, k)], y.known ++ toldD x y.made (.call g xs), y.made, y.meant⟩ from rfl]
    exact way_new y x _ k _
  | head l =>
    cases hm : y.made.lookup l with
    | none =>
      refine evs_seq (evs_if (evT_and (b := true) (evT_inS (x := "head") (ws := ["head", "tail"]) (ev_ixc 0 (ev_var rfl) rfl) (ev_tupD (K := K) (ds := [.str "head", .str "tail"]) (evAD_cons ev_str (evAD_cons ev_str evAD_nil)))) (c := false) (fun _ => evT_test (((evT_din (K := K) (x := l) (ev_ixc (K := K) 1 (ds := [.str "head", .str l]) (ev_var rfl) rfl) (f_made T rfl))).cong (by rw [made_val, hm]; rfl)))) (fun h => absurd h (by decide +kernel)) (fun _ => evs_next)) ?_
      refine evs_seq (evs_set (ev_ifE (evT_str (x := "head") (y := "put") (ev_ixc 0 (ev_var rfl) rfl) ev_str) (fun h => absurd h (by decide +kernel)) (fun _ => f_made T rfl))) ?_
      refine evs_seq (evs_set (ev_tupD (K := K) (evAD_star (f_known T rfl) (evAD_starL (K := K) (ds := toldD x y.made (.head l)) (ev_call (evA_cons (ev_var rfl) (evA_cons (ev_var rfl) (evA_cons (f_made T rfl) evA_nil))) ⟨x, (.head l), y.made, rfl, rfl⟩) evAD_nil)) (kb (.head l)))) ?_
      refine evs_ret ((ev_make (as := [dat K (.tuple (y.names.map prD ++ [prD (x, k)])), dat K (.tuple (y.known ++ (toldD x y.made (.head l) ++ []))), dctA (madeK K y.made), dctA (meantK K y.meant)]) (evA_cons (ev_tupD (K := K) (evAD_star (f_names T rfl) (evAD_cons (ev_tupD (K := K) (ds := [.str x, .str k.s]) (evAD_cons (ev_var rfl) (evAD_cons (ev_var rfl) evAD_nil))) evAD_nil)) nb) (evA_cons (ev_var rfl) (evA_cons (ev_var rfl) (evA_cons (fld_meant T rfl) evA_nil))))).cong ?_)
      rw [show y.lets x (.head l) k = ⟨y.names ++ [(x, k)], y.known ++ toldD x y.made (.head l), y.made, y.meant⟩ from (lets_none (by show Option.map _ (y.made.lookup l) = _; rw [hm]; rfl))]
      exact way_new y x _ k _
    | some p =>
      obtain ⟨u, v⟩ := p
      refine evs_seqR (evs_if (evT_and (b := true) (evT_inS (x := "head") (ws := ["head", "tail"]) (ev_ixc 0 (ev_var rfl) rfl) (ev_tupD (K := K) (ds := [.str "head", .str "tail"]) (evAD_cons ev_str (evAD_cons ev_str evAD_nil)))) (c := true) (fun _ => evT_test (((evT_din (K := K) (x := l) (ev_ixc (K := K) 1 (ds := [.str "head", .str l]) (ev_var rfl) rfl) (f_made T rfl))).cong (by rw [made_val, hm]; rfl)))) (fun _ => ?_) (fun h => absurd h (by decide +kernel)))
      refine evs_seq (evs_asg (vs := [4, 5]) (ev_dget (f_made T rfl) (ev_ixc (K := K) 1 (ds := [.str "head", .str l]) (ev_var rfl) rfl) (by rw [made_val, hm]; rfl)) (evg_tupD (K := K) (ds := [.str u, .str v]) (.cons evg_name (.cons evg_name .nil)))) ?_
      refine evs_seq (evs_set (ev_splat (fld_meant T rfl) (ev_var rfl) (ev_ifE (r := .fz (dat K (.str u))) (evT_str (x := "head") (y := "head") (ev_ixc 0 (ev_var rfl) rfl) ev_str) (fun _ => ev_var rfl) (fun h => absurd h (by decide +kernel))) (by rw [meant_val, ok.meant]; rfl) (by unfold meantK; rw [List.length_map]; exact ok.few1))) ?_
      refine evs_ret ((ev_make (as := [dat K (nsD y.names), dat K (.tuple y.known), dctA (madeK K y.made), dctA (meantK K y.meant ++ [(.inr x, dat K (.str u))])]) (evA_cons (f_names T rfl) (evA_cons (f_known T rfl) (evA_cons (f_made T rfl) (evA_cons (ev_var rfl) evA_nil))))).cong ?_)
      rw [show y.lets x (.head l) k = ⟨y.names, y.known, y.made, y.meant ++ [(x, u)]⟩ from (lets_some (by show Option.map _ (y.made.lookup l) = _; rw [hm]; rfl))]
      show Rs.fz (insA A.C_Way [_, _, _, (_, dctA _)]) = Rs.fz (insA A.C_Way [_, _, _, (_, dctA (meantK K (y.meant ++ [(x, u)])))])
      unfold meantK
      rw [List.map_append]
      rfl
  | tail l =>
    cases hm : y.made.lookup l with
    | none =>
      refine evs_seq (evs_if (evT_and (b := true) (evT_inS (x := "tail") (ws := ["head", "tail"]) (ev_ixc 0 (ev_var rfl) rfl) (ev_tupD (K := K) (ds := [.str "head", .str "tail"]) (evAD_cons ev_str (evAD_cons ev_str evAD_nil)))) (c := false) (fun _ => evT_test (((evT_din (K := K) (x := l) (ev_ixc (K := K) 1 (ds := [.str "tail", .str l]) (ev_var rfl) rfl) (f_made T rfl))).cong (by rw [made_val, hm]; rfl)))) (fun h => absurd h (by decide +kernel)) (fun _ => evs_next)) ?_
      refine evs_seq (evs_set (ev_ifE (evT_str (x := "tail") (y := "put") (ev_ixc 0 (ev_var rfl) rfl) ev_str) (fun h => absurd h (by decide +kernel)) (fun _ => f_made T rfl))) ?_
      refine evs_seq (evs_set (ev_tupD (K := K) (evAD_star (f_known T rfl) (evAD_starL (K := K) (ds := toldD x y.made (.tail l)) (ev_call (evA_cons (ev_var rfl) (evA_cons (ev_var rfl) (evA_cons (f_made T rfl) evA_nil))) ⟨x, (.tail l), y.made, rfl, rfl⟩) evAD_nil)) (kb (.tail l)))) ?_
      refine evs_ret ((ev_make (as := [dat K (.tuple (y.names.map prD ++ [prD (x, k)])), dat K (.tuple (y.known ++ (toldD x y.made (.tail l) ++ []))), dctA (madeK K y.made), dctA (meantK K y.meant)]) (evA_cons (ev_tupD (K := K) (evAD_star (f_names T rfl) (evAD_cons (ev_tupD (K := K) (ds := [.str x, .str k.s]) (evAD_cons (ev_var rfl) (evAD_cons (ev_var rfl) evAD_nil))) evAD_nil)) nb) (evA_cons (ev_var rfl) (evA_cons (ev_var rfl) (evA_cons (fld_meant T rfl) evA_nil))))).cong ?_)
      rw [show y.lets x (.tail l) k = ⟨y.names ++ [(x, k)], y.known ++ toldD x y.made (.tail l), y.made, y.meant⟩ from (lets_none (by show Option.map _ (y.made.lookup l) = _; rw [hm]; rfl))]
      exact way_new y x _ k _
    | some p =>
      obtain ⟨u, v⟩ := p
      refine evs_seqR (evs_if (evT_and (b := true) (evT_inS (x := "tail") (ws := ["head", "tail"]) (ev_ixc 0 (ev_var rfl) rfl) (ev_tupD (K := K) (ds := [.str "head", .str "tail"]) (evAD_cons ev_str (evAD_cons ev_str evAD_nil)))) (c := true) (fun _ => evT_test (((evT_din (K := K) (x := l) (ev_ixc (K := K) 1 (ds := [.str "tail", .str l]) (ev_var rfl) rfl) (f_made T rfl))).cong (by rw [made_val, hm]; rfl)))) (fun _ => ?_) (fun h => absurd h (by decide +kernel)))
      refine evs_seq (evs_asg (vs := [4, 5]) (ev_dget (f_made T rfl) (ev_ixc (K := K) 1 (ds := [.str "tail", .str l]) (ev_var rfl) rfl) (by rw [made_val, hm]; rfl)) (evg_tupD (K := K) (ds := [.str u, .str v]) (.cons evg_name (.cons evg_name .nil)))) ?_
      refine evs_seq (evs_set (ev_splat (fld_meant T rfl) (ev_var rfl) (ev_ifE (r := .fz (dat K (.str v))) (evT_str (x := "tail") (y := "head") (ev_ixc 0 (ev_var rfl) rfl) ev_str) (fun h => absurd h (by decide +kernel)) (fun _ => ev_var rfl)) (by rw [meant_val, ok.meant]; rfl) (by unfold meantK; rw [List.length_map]; exact ok.few1))) ?_
      refine evs_ret ((ev_make (as := [dat K (nsD y.names), dat K (.tuple y.known), dctA (madeK K y.made), dctA (meantK K y.meant ++ [(.inr x, dat K (.str v))])]) (evA_cons (f_names T rfl) (evA_cons (f_known T rfl) (evA_cons (f_made T rfl) (evA_cons (ev_var rfl) evA_nil))))).cong ?_)
      rw [show y.lets x (.tail l) k = ⟨y.names, y.known, y.made, y.meant ++ [(x, v)]⟩ from (lets_some (by show Option.map _ (y.made.lookup l) = _; rw [hm]; rfl))]
      show Rs.fz (insA A.C_Way [_, _, _, (_, dctA _)]) = Rs.fz (insA A.C_Way [_, _, _, (_, dctA (meantK K (y.meant ++ [(x, v)])))])
      unfold meantK
      rw [List.map_append]
      rfl
end
end Cs
namespace Cs
open PySem PySem.Spec L2
/-! ## the trees behind -/
def Tr.next (fs : List Fn) (y : Wy) : Tr → List (Tr × Wy)
  | .let_ x d t => [(t, y.lets x d ((d.kd fs).getD .num))]
  | .claim _ _ _ t => [(t, y)]
  | .if_ a b n t u => [(t, y.know (mostD a.d b.d n)), (u, y.know (mostD b.d a.d (-1 - n)))]
  | .tell _ => []
section
variable {P : Program} {w : World} {K : PySem.W.Frag} {mg : Str → Option Value} {base : Heap} {A : Adr}
def pairA (K : PySem.W.Frag) (A : Adr) (p : Tr × Wy) : AV := tupA K [dat K p.1.d, wayA K A p.2]
def NextOk (fs : List Fn) (y : Wy) : Tr → Prop
  | .let_ x d _ => LetOk y x ∧ (d.kd fs).isSome = true
  | _ => y.known.length ≤ 1000
def RtreesBehind (K : PySem.W.Frag) (A : Adr) : List AV → Rs → Prop := fun as r => ∃ (fs : List Fn) (t : Tr) (y : Wy), as = [dat K (pgD fs), dat K t.d, wayA K A y] ∧ r = .own ((t.next fs y).map (pairA K A)) ∧ NextOk fs y t
theorem len_trb : ∀ as r, RtreesBehind K A as r → as.length = 3 := fun as r ⟨_, _, _, e, _⟩ => by rw [e]; rfl
theorem ok_trees_behind (T : Tx K w mg A) : FnOk P w K mg base CX0 5 A.f_trees_behind A.fd_trees_behind P_trees_behind (spA (RtreesBehind K A)) := by
  have G_Way_knowing := ok_Way_knowing (P := P) (base := base) T
  have G_Way_letting := ok_Way_letting (P := P) (base := base) T
  have G_let_kind := ok_let_kind (P := P) (base := base) T
  refine T.F_trees_behind.ok sc_trees_behind (fun vs H Q E h => spA_len len_trb h) (fun cdv AA outer s H vs Q E hr h => ?_)
  refine ⟨_, (pss_cons (ps_if (pt_cmpR op_eq (pe_ix ix_tup (pv 1) pe_int (fun _ _ => rfl)) pe_str (nomark _))
  (pss_one (ps_ret (pe_lst pa_nil)))
  pss_nil)
  (pss_cons (ps_if (pt_cmpR op_eq (pe_ix ix_tup (pv 1) pe_int (fun _ _ => rfl)) pe_str (nomark _))
  (pss_cons (ps_asg (pv 1) (pg_tup (by rfl) (pgs_cons (pg_name (i := 3) sc_trees_behind.nd rfl (.inl rfl)) (pgs_cons (pg_name (i := 4) sc_trees_behind.nd rfl (.inl rfl)) (pgs_cons (pg_name (i := 5) sc_trees_behind.nd rfl (.inl rfl)) (pgs_cons (pg_name (i := 6) sc_trees_behind.nd rfl (.inl rfl)) pgs_nil))))))
  (pss_one (ps_ret (pe_lst (pa_cons (pe_tup (pa_cons (pv 6) (pa_cons (pe_meth (pv 2) T.cl_Way T.m_Way_letting G_Way_letting (hr.mono (by decide)) T.b_Way_letting .nil pass0 (pa_cons (pv 4) (pa_cons (pv 5) (pa_cons (pe_call G_let_kind (hr.mono (by decide)) (by rfl) T.g_let_kind T.F_let_kind.kp T.b_let_kind .nil pass0 (pa_cons (pv 0) (pa_cons (pv 5) pa_nil))) pa_nil)))) pa_nil))) pa_nil)))))
  pss_nil)
  (pss_cons (ps_if (pt_cmpR op_eq (pe_ix ix_tup (pv 1) pe_int (fun _ _ => rfl)) pe_str (nomark _))
  (pss_one (ps_ret (pe_lst (pa_cons (pe_tup (pa_cons (pe_ix ix_tup (pv 1) pe_int (fun _ _ => rfl)) (pa_cons (pv 2) pa_nil))) pa_nil))))
  pss_nil)
  (pss_cons (ps_asg (pv 1) (pg_tup (by rfl) (pgs_cons (pg_name (i := 3) sc_trees_behind.nd rfl (.inl rfl)) (pgs_cons (pg_name (i := 7) sc_trees_behind.nd rfl (.inl rfl)) (pgs_cons (pg_name (i := 8) sc_trees_behind.nd rfl (.inl rfl)) (pgs_cons (pg_name (i := 9) sc_trees_behind.nd rfl (.inl rfl)) (pgs_cons (pg_name (i := 6) sc_trees_behind.nd rfl (.inl rfl)) (pgs_cons (pg_name (i := 10) sc_trees_behind.nd rfl (.inl rfl)) pgs_nil))))))))
  (pss_one (ps_ret (pe_lst (pa_cons (pe_tup (pa_cons (pv 6) (pa_cons (pe_meth (pv 2) T.cl_Way T.m_Way_knowing G_Way_knowing (hr.mono (by decide)) T.b_Way_knowing .nil pass0 (pa_cons (pe_tup (pa_cons pe_str (pa_cons (pv 7) (pa_cons (pv 8) (pa_cons (pv 9) pa_nil))))) pa_nil)) pa_nil))) (pa_cons (pe_tup (pa_cons (pv 10) (pa_cons (pe_meth (pv 2) T.cl_Way T.m_Way_knowing G_Way_knowing (hr.mono (by decide)) T.b_Way_knowing .nil pass0 (pa_cons (pe_tup (pa_cons pe_str (pa_cons (pv 8) (pa_cons (pv 7) (pa_cons (pe_op op_sub (pe_un un_neg pe_int) (pv 9)) pa_nil))))) pa_nil)) pa_nil))) pa_nil))))))))), ?_⟩
  refine fn_go len_trb rfl (fun as r ⟨fs, t, y, e1, e2, ok⟩ => ?_) h rfl
  subst e1 e2
  cases t with
  | tell x =>
    refine evs_seqR (evs_if (evT_str (x := "tell") (y := "tell") (ev_ixc 0 (ev_var rfl) rfl) ev_str) (fun _ => ?_) (fun h => absurd h (by decide +kernel)))
    exact evs_ret (ev_lst evA_nil)
  | let_ x d t =>
    obtain ⟨lo, hk⟩ := ok
    cases hkd : d.kd fs with
    | none => rw [hkd] at hk; cases hk
    | some k =>
      refine evs_seq (evs_if (evT_str (x := "let") (y := "tell") (ev_ixc 0 (ev_var rfl) rfl) ev_str) (fun h => absurd h (by decide +kernel)) (fun _ => evs_next)) ?_
      refine evs_seqR (evs_if (evT_str (x := "let") (y := "let") (ev_ixc 0 (ev_var rfl) rfl) ev_str) (fun _ => ?_) (fun h => absurd h (by decide +kernel)))
      refine evs_seq (evs_asg (vs := [3, 4, 5, 6]) (ev_var rfl) (evg_tupD (K := K) (ds := [.str "let", .str x, d.d, t.d]) (.cons evg_name (.cons evg_name (.cons evg_name (.cons evg_name .nil)))))) ?_
      refine evs_ret ((ev_lst (as := [tupA K [dat K t.d, wayA K A (y.lets x d k)]]) (evA_cons (ev_tup (K := K) (evA_cons (ev_var rfl) (evA_cons (ev_meth (ev_var rfl) rfl (evA_cons (ev_var rfl) (evA_cons (ev_var rfl) (evA_cons (ev_call (evA_cons (ev_var rfl) (evA_cons (ev_var rfl) evA_nil)) ⟨fs, d, k, rfl, rfl, hkd⟩) evA_nil))) ⟨y, x, d, k, rfl, rfl, lo⟩) evA_nil))) evA_nil)).cong ?_)
      show Rs.own [tupA K [dat K t.d, wayA K A (y.lets x d k)]] = Rs.own [tupA K [dat K t.d, wayA K A (y.lets x d ((d.kd fs).getD .num))]]
      rw [hkd]
      rfl
  | claim a b n t =>
    refine evs_seq (evs_if (evT_str (x := "claim") (y := "tell") (ev_ixc 0 (ev_var rfl) rfl) ev_str) (fun h => absurd h (by decide +kernel)) (fun _ => evs_next)) ?_
    refine evs_seq (evs_if (evT_str (x := "claim") (y := "let") (ev_ixc 0 (ev_var rfl) rfl) ev_str) (fun h => absurd h (by decide +kernel)) (fun _ => evs_next)) ?_
    refine evs_seqR (evs_if (evT_str (x := "claim") (y := "claim") (ev_ixc 0 (ev_var rfl) rfl) ev_str) (fun _ => ?_) (fun h => absurd h (by decide +kernel)))
    exact evs_ret (ev_lst (evA_cons (ev_tup (K := K) (evA_cons (ev_ixc 4 (ev_var rfl) rfl) (evA_cons (ev_var rfl) evA_nil))) evA_nil))
  | if_ a b n t u =>
    refine evs_seq (evs_if (evT_str (x := "if") (y := "tell") (ev_ixc 0 (ev_var rfl) rfl) ev_str) (fun h => absurd h (by decide +kernel)) (fun _ => evs_next)) ?_
    refine evs_seq (evs_if (evT_str (x := "if") (y := "let") (ev_ixc 0 (ev_var rfl) rfl) ev_str) (fun h => absurd h (by decide +kernel)) (fun _ => evs_next)) ?_
    refine evs_seq (evs_if (evT_str (x := "if") (y := "claim") (ev_ixc 0 (ev_var rfl) rfl) ev_str) (fun h => absurd h (by decide +kernel)) (fun _ => evs_next)) ?_
    refine evs_seq (evs_asg (vs := [3, 7, 8, 9, 6, 10]) (ev_var rfl) (evg_tupD (K := K) (ds := [.str "if", a.d, b.d, .int n, t.d, u.d]) (.cons evg_name (.cons evg_name (.cons evg_name (.cons evg_name (.cons evg_name (.cons evg_name .nil)))))))) ?_
    refine evs_ret (ev_lst (evA_cons (ev_tup (K := K) (evA_cons (ev_var rfl) (evA_cons (ev_meth (ev_var rfl) rfl (evA_cons (ev_tupD (K := K) (ds := [.str "most", a.d, b.d, .int n]) (evAD_cons ev_str (evAD_cons (ev_var rfl) (evAD_cons (ev_var rfl) (evAD_cons (ev_var rfl) evAD_nil))))) evA_nil) ⟨y, _, rfl, rfl, ok⟩) evA_nil))) (evA_cons (ev_tup (K := K) (evA_cons (ev_var rfl) (evA_cons (ev_meth (ev_var rfl) rfl (evA_cons (ev_tupD (K := K) (ds := [.str "most", b.d, a.d, .int (-1 - n)]) (evAD_cons ev_str (evAD_cons (ev_var rfl) (evAD_cons (ev_var rfl) (evAD_cons (ev_sub (ev_neg ev_int) (ev_var rfl)) evAD_nil))))) evA_nil) ⟨y, _, rfl, rfl, ok⟩) evA_nil))) evA_nil)))
end
end Cs
namespace Cs
open PySem PySem.Spec L2
/-! ## all clauses of a function -/
def isMost : PyData → Bool
  | .tuple (.str x :: _) => decide (x = "most")
  | _ => false
def rowD (i p : Nat) (y : Wy) (g : PyData) : PyData := .tuple [.int i, .int p, nsD y.names, .tuple y.known, g]
def Wy.heed (y : Wy) (g : PyData) : Wy := if isMost g then y.know g else y
def goC (i p : Nat) : Wy → List PyData → List PyData
  | _, [] => []
  | y, g :: gs => rowD i p y g :: goC i p (y.heed g) gs
def goY : Wy → List PyData → Wy
  | y, [] => y
  | y, g :: gs => goY (y.heed g) gs
theorem goC_snoc (i p : Nat) (g : PyData) : ∀ (gs : List PyData) (y : Wy), goC i p y (gs ++ [g]) = goC i p y gs ++ [rowD i p (goY y gs) g]
  | [], _ => rfl
  | h :: gs, y => congrArg (rowD i p y h :: ·) (goC_snoc i p g gs (y.heed h))
theorem goY_snoc (g : PyData) : ∀ (gs : List PyData) (y : Wy), goY y (gs ++ [g]) = (goY y gs).heed g
  | [], _ => rfl
  | h :: gs, y => goY_snoc g gs (y.heed h)
theorem heed_same (y : Wy) (g : PyData) : (y.heed g).names = y.names ∧ (y.heed g).made = y.made ∧ (y.heed g).meant = y.meant ∧ (y.heed g).known.length ≤ y.known.length + 1 := by
  unfold Wy.heed
  split
  · refine ⟨rfl, rfl, rfl, ?_⟩
    show (y.known ++ [g]).length ≤ _
    rw [List.length_append]
    exact Nat.le_refl _
  · exact ⟨rfl, rfl, rfl, Nat.le_succ _⟩
theorem goY_same : ∀ (gs : List PyData) (y : Wy), (goY y gs).names = y.names ∧ (goY y gs).made = y.made ∧ (goY y gs).meant = y.meant ∧ (goY y gs).known.length ≤ y.known.length + gs.length
  | [], y => ⟨rfl, rfl, rfl, Nat.le_refl _⟩
  | g :: gs, y => by
    obtain ⟨a, b, c, d⟩ := goY_same gs (y.heed g)
    obtain ⟨a1, b1, c1, d1⟩ := heed_same y g
    refine ⟨a.trans a1, b.trans b1, c.trans c1, ?_⟩
    show (goY (y.heed g) gs).known.length ≤ y.known.length + (gs.length + 1)
    omega
theorem mo_same {y z : Wy} (h : z.meant = y.meant) : z.mo = y.mo := by
  funext x
  unfold Wy.mo
  rw [h]
theorem goC_len (i p : Nat) : ∀ (gs : List PyData) (y : Wy), (goC i p y gs).length = gs.length
  | [], _ => rfl
  | g :: gs, y => congrArg Nat.succ (goC_len i p gs (y.heed g))
section
variable (fs : List Fn) (i : Nat) (ps : List Str)
def Tr.gs (t : Tr) (y : Wy) : List PyData := (t.mn y.mo).wants i ps
/-- the trees behind, with the ways to them -/
def Tr.nx (t : Tr) (y : Wy) : List (Tr × Wy) := (t.mn y.mo).next fs (goY y (t.gs i ps y))
def clT : Tr → Wy → Nat → List PyData
  | .tell x, y, p => goC i p y ((Tr.tell x).gs i ps y)
  | .let_ x d t, y, p => goC i p y ((Tr.let_ x d t).gs i ps y) ++ clT t ((goY y ((Tr.let_ x d t).gs i ps y)).lets x (d.mn y.mo) (((d.mn y.mo).kd fs).getD .num)) (p + 1)
  | .claim a b n t, y, p => goC i p y ((Tr.claim a b n t).gs i ps y) ++ clT t (goY y ((Tr.claim a b n t).gs i ps y)) (p + 1)
  | .if_ a b n t u, y, p => goC i p y ((Tr.if_ a b n t u).gs i ps y) ++ (clT t ((goY y ((Tr.if_ a b n t u).gs i ps y)).know (mostD (a.mn y.mo).d (b.mn y.mo).d n)) (p + 1) ++ clT u ((goY y ((Tr.if_ a b n t u).gs i ps y)).know (mostD (b.mn y.mo).d (a.mn y.mo).d (-1 - n))) (p + 1 + t.size))
def clS : List (Tr × Wy) → Nat → List PyData
  | [], _ => []
  | (t, y) :: r, p => clT fs i ps t y p ++ clS r (p + t.size)
theorem clS_step (t : Tr) (y : Wy) (r : List (Tr × Wy)) (p : Nat) : clS fs i ps ((t, y) :: r) p = goC i p y (t.gs i ps y) ++ clS fs i ps (t.nx fs i ps y ++ r) (p + 1) := by
  cases t with
  | tell x =>
    show goC i p y _ ++ clS fs i ps r (p + 1) = goC i p y _ ++ clS fs i ps ([] ++ r) (p + 1)
    rfl
  | let_ x d t =>
    show (goC i p y _ ++ clT fs i ps t _ (p + 1)) ++ clS fs i ps r (p + (t.size + 1)) = goC i p y _ ++ (clT fs i ps t _ (p + 1) ++ clS fs i ps r (p + 1 + t.size))
    rw [List.append_assoc, show p + (t.size + 1) = p + 1 + t.size by omega]
  | claim a b n t =>
    show (goC i p y _ ++ clT fs i ps t _ (p + 1)) ++ clS fs i ps r (p + (t.size + 1)) = goC i p y _ ++ (clT fs i ps t _ (p + 1) ++ clS fs i ps r (p + 1 + t.size))
    rw [List.append_assoc, show p + (t.size + 1) = p + 1 + t.size by omega]
  | if_ a b n t u =>
    show (goC i p y _ ++ (clT fs i ps t _ (p + 1) ++ clT fs i ps u _ (p + 1 + t.size))) ++ clS fs i ps r (p + (t.size + u.size + 1)) = goC i p y _ ++ (clT fs i ps t _ (p + 1) ++ (clT fs i ps u _ (p + 1 + t.size) ++ clS fs i ps r (p + 1 + t.size + u.size)))
    rw [List.append_assoc, List.append_assoc, show p + (t.size + u.size + 1) = p + 1 + t.size + u.size by omega]
end
theorem wants_head {i : Nat} {ps : List Str} {t : Tr} {g : PyData} (h : g ∈ t.wants i ps) : ∃ x r, g = .tuple (.str x :: r) := by
  cases t with
  | tell x => exact ⟨_, _, List.mem_singleton.mp h⟩
  | claim a b n t => exact ⟨_, _, List.mem_singleton.mp h⟩
  | if_ a b n t u => cases h
  | let_ x d t =>
    cases d with
    | head l => exact ⟨_, _, List.mem_singleton.mp h⟩
    | tail l => exact ⟨_, _, List.mem_singleton.mp h⟩
    | call g xs => exact ⟨_, _, List.mem_singleton.mp h⟩
    | at_ l z =>
      rcases List.mem_cons.mp h with h | h
      · exact ⟨_, _, h⟩
      · exact ⟨_, _, List.mem_singleton.mp h⟩
    | _ => cases h
theorem wants_len (i : Nat) (ps : List Str) (t : Tr) : (t.wants i ps).length ≤ 2 := by
  cases t with
  | let_ x d t => cases d <;> exact Nat.le_of_ble_eq_true rfl
  | _ => exact Nat.le_of_ble_eq_true rfl
/-! ### what a way keeps to -/
structure ItOk (fs : List Fn) (kd : Kd) (t : Tr) (y : Wy) : Prop where
  tr : ∃ ns : Nm, t.ok (fs.map Fn.hd) kd ns ∧ ∀ x, look ns x = none → y.meant.lookup x = none ∧ y.made.lookup x = none
  z1 : y.meant.length + t.size ≤ 200
  z2 : y.made.length + t.size ≤ 200
  z3 : y.names.length + t.size ≤ 200
  z4 : y.known.length + 4 * t.size ≤ 800
theorem sizeK_pos : ∀ t : Tr, 1 ≤ t.size
  | .let_ _ _ t => Nat.le_add_left 1 _
  | .if_ _ _ _ t u => Nat.le_add_left 1 _
  | .claim _ _ _ t => Nat.le_add_left 1 _
  | .tell _ => Nat.le_refl 1
theorem dd_kd {fs : List Fn} {ns : Nm} {k : Kd} {d : Dd} (h : d.ok (fs.map Fn.hd) ns k) (f : Str → Str) : (d.mn f).kd fs = some k := by
  cases d with
  | num n => exact congrArg some h.2.symm
  | sum x n => exact congrArg some h.2.2.symm
  | len l => exact congrArg some h.2.symm
  | nil => exact congrArg some (Eq.symm h)
  | put x l => exact congrArg some h.2.2.symm
  | head l => exact congrArg some h.2.symm
  | tail l => exact congrArg some h.2.symm
  | at_ l x => exact congrArg some h.2.2.symm
  | ask => exact congrArg some (Eq.symm h)
  | call g xs =>
    obtain ⟨_, hh, e1, _, e2⟩ := h
    rw [List.getElem?_map] at e1
    obtain ⟨f, hf, rfl⟩ := Option.map_eq_some_iff.mp e1
    show (fs[g]?).map Fn.kd = some k
    rw [hf, e2]
    rfl
theorem dd_few {fs : List Fn} (h4 : ∀ f ∈ fs, f.ps.length ≤ 4) {ns : Nm} {k : Kd} {d : Dd} (h : d.ok (fs.map Fn.hd) ns k) : d.few := by
  cases d with
  | call g xs =>
    obtain ⟨_, hh, e1, e2, _⟩ := h
    rw [List.getElem?_map] at e1
    obtain ⟨f, hf, rfl⟩ := Option.map_eq_some_iff.mp e1
    show xs.length ≤ 4
    rw [Paired.length e2]
    show (f.ps.map (·.2)).length ≤ 4
    rw [List.length_map]
    exact h4 f (List.mem_of_getElem? hf)
  | _ => exact True.intro
theorem tr_few {fs : List Fn} (h4 : ∀ f ∈ fs, f.ps.length ≤ 4) {k : Kd} : ∀ {t : Tr} {ns : Nm}, t.ok (fs.map Fn.hd) k ns → t.few
  | .let_ x d t, ns, ⟨_, _, _, o3, o4⟩ => ⟨dd_few h4 o3, tr_few h4 (t := t) o4⟩
  | .if_ a b n t u, ns, ⟨_, _, _, o4, o5⟩ => ⟨tr_few h4 (t := t) o4, tr_few h4 (t := u) o5⟩
  | .claim a b n t, ns, ⟨_, _, _, o4⟩ => tr_few h4 (t := t) o4
  | .tell _, _, _ => True.intro
theorem lookup_snoc {α : Type} {x z : Str} {a : α} : ∀ {m : List (Str × α)}, m.lookup x = none → z ≠ x → (m ++ [(z, a)]).lookup x = none
  | [], _, h => by
    show (match x == z with | true => some a | false => none) = none
    rw [beq_false_of_ne (fun e => h e.symm)]
  | (k, v) :: m, e, h => by
    have e : (match x == k with | true => some v | false => m.lookup x) = none := e
    show (match x == k with | true => some v | false => (m ++ [(z, a)]).lookup x) = none
    cases hk : x == k with
    | true => rw [hk] at e; cases e
    | false => rw [hk] at e; exact lookup_snoc e h
theorem lookK_snoc {ns : Nm} {x z : Str} {k : Kd} (h : look (ns ++ [(x, k)]) z = none) : look ns z = none ∧ x ≠ z := by
  unfold look at h ⊢
  rw [List.find?_append] at h
  cases hf : ns.find? fun p => decide (p.1 = z) with
  | some p => rw [hf] at h; cases h
  | none =>
    refine ⟨rfl, fun e => ?_⟩
    rw [hf, List.find?_cons, decide_eq_true e] at h
    cases h
theorem mo_eq (y : Wy) (gs : List PyData) : (goY y gs).mo = y.mo := mo_same (goY_same gs y).2.2.1
theorem lets_ok {y : Wy} {x : Str} {d : Dd} {k : Kd} : (y.lets x d k).meant.length ≤ y.meant.length + 1 ∧ (y.lets x d k).made.length ≤ y.made.length + 1 ∧ (y.lets x d k).names.length ≤ y.names.length + 1 ∧ (y.lets x d k).known.length ≤ y.known.length + 2 ∧
    ∀ z, x ≠ z → y.meant.lookup z = none → y.made.lookup z = none → (y.lets x d k).meant.lookup z = none ∧ (y.lets x d k).made.lookup z = none := by
  cases ho : d.opened y with
  | some u =>
    rw [lets_some ho]
    refine ⟨?_, Nat.le_succ _, Nat.le_succ _, Nat.le_add_right _ _, fun z hz h1 h2 => ⟨lookup_snoc h1 hz, h2⟩⟩
    show (y.meant ++ [(x, u)]).length ≤ _
    rw [List.length_append]
    exact Nat.le_refl _
  | none =>
    rw [lets_none ho]
    refine ⟨Nat.le_succ _, ?_, ?_, ?_, fun z hz h1 h2 => ⟨h1, ?_⟩⟩
    · cases d with
      | put n l =>
        show (y.made ++ [(x, n, l)]).length ≤ _
        rw [List.length_append]
        exact Nat.le_refl _
      | _ => exact Nat.le_succ _
    · show (y.names ++ [(x, k)]).length ≤ _
      rw [List.length_append]
      exact Nat.le_refl _
    · show (y.known ++ toldD x y.made d).length ≤ _
      rw [List.length_append]
      have := told_len x y.made d
      omega
    · cases d with
      | put n l => exact lookup_snoc h2 hz
      | _ => exact h2
theorem it_next {fs : List Fn} {i : Nat} {ps : List Str} {kd : Kd} {t : Tr} {y : Wy} (h : ItOk fs kd t y) : NextOk fs (goY y (t.gs i ps y)) (t.mn y.mo) ∧ (∀ p ∈ t.nx fs i ps y, ItOk fs kd p.1 p.2) ∧ ((t.nx fs i ps y).map fun p => p.1.size).sum + 1 = t.size ∧ (t.nx fs i ps y).length ≤ 2 := by
  obtain ⟨⟨ns, ok, hk⟩, z1, z2, z3, z4⟩ := h
  have hw : (t.gs i ps y).length ≤ 2 := wants_len i ps _
  obtain ⟨s1, s2, s3, s4⟩ := goY_same (t.gs i ps y) y
  have s5 := mo_eq y (t.gs i ps y)
  have hp := sizeK_pos t
  have q1 := congrArg List.length s1
  have q2 := congrArg List.length s2
  have q3 := congrArg List.length s3
  unfold Tr.nx
  generalize goY y (t.gs i ps y) = y2 at *
  have kn : ∀ g, (y2.know g).known.length = y2.known.length + 1 := fun g => by
    show (y2.known ++ [g]).length = _
    rw [List.length_append]
    rfl
  cases t with
  | tell x =>
    refine ⟨?_, (fun p hp => by cases hp), rfl, Nat.zero_le _⟩
    show y2.known.length ≤ 1000
    omega
  | claim a b n t =>
    have e : (Tr.claim a b n t).size = t.size + 1 := rfl
    refine ⟨?_, fun p hp => ?_, rfl, Nat.le_of_ble_eq_true rfl⟩
    · show y2.known.length ≤ 1000
      omega
    · rw [List.mem_singleton.mp hp]
      refine ⟨⟨ns, ok.2.2.2, fun x hx => by rw [s3, s2]; exact hk x hx⟩, ?_, ?_, ?_, ?_⟩ <;> (dsimp only; omega)
  | if_ a b n t u =>
    have e : (Tr.if_ a b n t u).size = t.size + u.size + 1 := rfl
    refine ⟨?_, fun p hp => ?_, ?_, Nat.le_of_ble_eq_true rfl⟩
    · show y2.known.length ≤ 1000
      omega
    · rcases List.mem_cons.mp hp with hp | hp
      · rw [hp]
        refine ⟨⟨ns, ok.2.2.2.1, fun x hx => by show y2.meant.lookup x = none ∧ y2.made.lookup x = none; rw [s3, s2]; exact hk x hx⟩, ?_, ?_, ?_, ?_⟩
        · show y2.meant.length + t.size ≤ 200; omega
        · show y2.made.length + t.size ≤ 200; omega
        · show y2.names.length + t.size ≤ 200; omega
        · show (y2.know _).known.length + 4 * t.size ≤ 800
          rw [kn]; omega
      · rw [List.mem_singleton.mp hp]
        refine ⟨⟨ns, ok.2.2.2.2, fun x hx => by show y2.meant.lookup x = none ∧ y2.made.lookup x = none; rw [s3, s2]; exact hk x hx⟩, ?_, ?_, ?_, ?_⟩
        · show y2.meant.length + u.size ≤ 200; omega
        · show y2.made.length + u.size ≤ 200; omega
        · show y2.names.length + u.size ≤ 200; omega
        · show (y2.know _).known.length + 4 * u.size ≤ 800
          rw [kn]; omega
    · show t.size + (u.size + 0) + 1 = t.size + u.size + 1
      omega
  | let_ x d t =>
    have e : (Tr.let_ x d t).size = t.size + 1 := rfl
    obtain ⟨o1, o2, k, o3, o4⟩ := ok
    obtain ⟨l1, l2⟩ := hk x o2
    have hkd := dd_kd o3 y.mo
    refine ⟨⟨⟨by rw [s3]; exact l1, by rw [s2]; exact l2, by omega, by omega, by omega, by omega⟩, by rw [hkd]; rfl⟩, fun p hp => ?_, rfl, Nat.le_of_ble_eq_true rfl⟩
    rw [List.mem_singleton.mp hp]
    obtain ⟨b1, b2, b3, b4, b5⟩ := lets_ok (y := y2) (x := x) (d := d.mn y.mo) (k := ((d.mn y.mo).kd fs).getD .num)
    refine ⟨⟨ns ++ [(x, k)], o4, fun z hz => ?_⟩, ?_, ?_, ?_, ?_⟩
    · obtain ⟨h1, h2⟩ := lookK_snoc hz
      obtain ⟨h3, h4⟩ := hk z h1
      exact b5 z h2 (by rw [s3]; exact h3) (by rw [s2]; exact h4)
    all_goals (dsimp only; omega)
end Cs
namespace Cs
open PySem PySem.Spec L2
section
variable {P : Program} {w : World} {K : PySem.W.Frag} {mg : Str → Option Value} {base : Heap} {A : Adr}
/-! ## function_clauses -/
def way0 (i : Nat) (f : Fn) : Wy := ⟨f.ps, [.tuple [.str "ahead", .int i, strsD (f.ps.map (·.1))]], [], []⟩
def clF (fs : List Fn) (i : Nat) (f : Fn) : List PyData := clT fs i (f.ps.map (·.1)) f.tr (way0 i f) 0
def fcE (K : PySem.W.Frag) (A : Adr) (fs : List Fn) (i : Nat) (ps : List Str) (S : List AV) (F : List PyData) (p : Nat) : List (Option Rs) :=
  [some (.fz (dat K (pgD fs))), some (.fz (dat K (.int i))), none, none, none, some (.fz (dat K (strsD ps))), some (.own S), some (.own (F.map (dat K))), some (.fz (dat K (.int (p : Nat))))]
def fcG (K : PySem.W.Frag) (A : Adr) (fs : List Fn) (i : Nat) (ps : List Str) (S : List AV) (F : List PyData) (p : Nat) (t : Tr) (y : Wy) : List (Option Rs) :=
  [some (.fz (dat K (pgD fs))), some (.fz (dat K (.int i))), none, none, none, some (.fz (dat K (strsD ps))), some (.own S), some (.own (F.map (dat K))), some (.fz (dat K (.int (p : Nat)))), some (.fz (dat K t.d)), some (.fz (wayA K A y))]
theorem evT_nonempty {n : Nat} {W : Wo} {tt : TT} {E : En} {l : List AV} {a : AV} (h : EvT n W tt E (!(l ++ [a]).isEmpty)) : EvT n W tt E true := by
  cases l <;> exact h
theorem sum_len : ∀ r : List (Tr × Wy), r.length ≤ (r.map fun p => p.1.size).sum
  | [] => Nat.le_refl _
  | (t, y) :: r => by
    have := sum_len r
    have := sizeK_pos t
    show r.length + 1 ≤ t.size + (r.map fun p => p.1.size).sum
    omega
def RfunctionClauses (K : PySem.W.Frag) : List AV → Rs → Prop := fun as r => ∃ (fs : List Fn) (i : Nat) (f : Fn), as = [dat K (pgD fs), dat K (.int i)] ∧ r = .own ((clF fs i f).map (dat K)) ∧ okPg fs ∧ fs[i]? = some f
theorem len_fc : ∀ as r, RfunctionClauses K as r → as.length = 2 := fun as r ⟨_, _, _, e, _⟩ => by rw [e]; rfl
theorem clT_len (fs : List Fn) (i : Nat) (ps : List Str) : ∀ (t : Tr) (y : Wy) (p : Nat), (clT fs i ps t y p).length ≤ 2 * t.size
  | .tell x, y, p => by
    show (goC i p y _).length ≤ 2 * 1
    rw [goC_len]
    exact wants_len i ps _
  | .let_ x d t, y, p => by
    show (goC i p y _ ++ clT fs i ps t _ _).length ≤ 2 * (t.size + 1)
    rw [List.length_append, goC_len]
    have h1 : (Tr.gs i ps (.let_ x d t) y).length ≤ 2 := wants_len i ps _
    have := clT_len fs i ps t ((goY y ((Tr.let_ x d t).gs i ps y)).lets x (d.mn y.mo) (((d.mn y.mo).kd fs).getD .num)) (p + 1)
    omega
  | .claim a b n t, y, p => by
    show (goC i p y _ ++ clT fs i ps t _ _).length ≤ 2 * (t.size + 1)
    rw [List.length_append, goC_len]
    have h1 : (Tr.gs i ps (.claim a b n t) y).length ≤ 2 := wants_len i ps _
    have := clT_len fs i ps t (goY y ((Tr.claim a b n t).gs i ps y)) (p + 1)
    omega
  | .if_ a b n t u, y, p => by
    show (goC i p y _ ++ (clT fs i ps t _ _ ++ clT fs i ps u _ _)).length ≤ 2 * (t.size + u.size + 1)
    rw [List.length_append, List.length_append, goC_len]
    have h1 : (Tr.gs i ps (.if_ a b n t u) y).length ≤ 2 := wants_len i ps _
    have := clT_len fs i ps t ((goY y ((Tr.if_ a b n t u).gs i ps y)).know (mostD (a.mn y.mo).d (b.mn y.mo).d n)) (p + 1)
    have := clT_len fs i ps u ((goY y ((Tr.if_ a b n t u).gs i ps y)).know (mostD (b.mn y.mo).d (a.mn y.mo).d (-1 - n))) (p + 1 + t.size)
    omega
theorem names_map (K : PySem.W.Frag) (ps : Nm) : ps.map (fun p => dat K (.str p.1)) = ((ps.map (·.1)).map PyData.str).map (dat K) := by rw [List.map_map, List.map_map]; rfl
theorem ok_function_clauses (T : Tx K w mg A) : FnOk P w K mg base CX0 6 A.f_function_clauses A.fd_function_clauses P_function_clauses (spA (RfunctionClauses K)) := by
  have G_Way_init := ok_Way_init (P := P) (base := base) T
  have G_Way_knowing := ok_Way_knowing (P := P) (base := base) T
  have G_Way_meant_tree := ok_Way_meant_tree (P := P) (base := base) T
  have G_goals := ok_goals (P := P) (base := base) T
  have G_trees_behind := ok_trees_behind (P := P) (base := base) T
  refine T.F_function_clauses.ok sc_function_clauses (fun vs H Q E h => spA_len len_fc h) (fun cdv AA outer s H vs Q E hr h => ?_)
  refine ⟨_, (pss_cons (ps_asg (pe_ix ix_tup (pv 0) (pv 1) (fun _ _ => rfl)) (pg_tup (by rfl) (pgs_cons (pg_name (i := 2) sc_function_clauses.nd rfl (.inl rfl)) (pgs_cons (pg_name (i := 3) sc_function_clauses.nd rfl (.inl rfl)) (pgs_cons (pg_name (i := 4) sc_function_clauses.nd rfl (.inl rfl)) pgs_nil)))))
  (pss_cons (ps_set (i := 5) sc_function_clauses.nd rfl (.inl rfl) (pe_callTy cr_tupF (by rfl) T.n_tuple (by decide +kernel) (pa_cons (pe_lc (own := [("name", 13), ("_", 3)]) (g := (gTup K 2 (gCons (gName 13) (gCons (gName 3) gNil)))) (tt := tYes) (te := (tVar 13)) rfl sc_function_clauses.nd (pi_tup (pv 2)) (blkOk_by (N := N_function_clauses) (sc := defScope s_function_clauses) (by decide +kernel)) (fun _ _ _ _ _ => (pg_tup (by rfl) (pgs_cons (pg_name (i := 13) sc_function_clauses.nd rfl (.inl rfl)) (pgs_cons (pg_name (i := 3) sc_function_clauses.nd rfl (.inl rfl)) pgs_nil)))) (fun _ _ _ _ _ => pts_nil) (fun _ _ _ _ _ => (pv 13))) pa_nil)))
  (pss_cons (ps_set (i := 6) sc_function_clauses.nd rfl (.inl rfl) (pe_lst (pa_cons (pe_tup (pa_cons (pv 4) (pa_cons (pe_make T.M_Way G_Way_init (hr.mono (by decide)) (by rfl) T.g_Way T.b_Way_init .nil pass0 (pa_cons (pv 2) (pa_cons (pe_tup (pa_cons (pe_tup (pa_cons pe_str (pa_cons (pv 1) (pa_cons (pv 5) pa_nil)))) pa_nil)) (pa_cons pe_dnewK (pa_cons pe_dnewK pa_nil))))) pa_nil))) pa_nil)))
  (pss_cons (ps_set (i := 7) sc_function_clauses.nd rfl (.inl rfl) (pe_lst pa_nil))
  (pss_cons (ps_set (i := 8) sc_function_clauses.nd rfl (.inl rfl) pe_int)
  (pss_cons (ps_while PassesOwn.never (pt_truth (pv 6) (by intro _; rfl))
  (pss_cons (ps_asg (pe_bm0 PySem.F.plainAttrs_list PySem.F.slot_list_pop PySem.F.type_list_pop mt_pop (pv 6)) (pg_tup (by rfl) (pgs_cons (pg_name (i := 9) sc_function_clauses.nd rfl (.inl rfl)) (pgs_cons (pg_name (i := 10) sc_function_clauses.nd rfl (.inl rfl)) pgs_nil))))
  (pss_cons (ps_for PassesOwn.never rfl (pi_list (pe_call G_goals (hr.mono (by decide)) (by rfl) T.g_goals T.F_goals.kp T.b_goals .nil pass0 (pa_cons (pv 1) (pa_cons (pv 5) (pa_cons (pe_meth (pv 10) T.cl_Way T.m_Way_meant_tree G_Way_meant_tree (hr.mono (by decide)) T.b_Way_meant_tree .nil pass0 (pa_cons (pv 9) pa_nil)) pa_nil))))) (pg_name (i := 11) sc_function_clauses.nd rfl (.inl rfl))
  (pss_cons (ps_expr (pe_bm PySem.F.plainAttrs_list PySem.F.slot_list_append PySem.F.type_list_append mt_append (pv 7) (pa_cons (pe_tup (pa_cons (pv 1) (pa_cons (pv 8) (pa_cons (pe_fld (pv 10) rfl) (pa_cons (pe_fld (pv 10) rfl) (pa_cons (pv 11) pa_nil)))))) pa_nil)))
  (pss_one (ps_if (pt_cmpR op_eq (pe_ix ix_tup (pv 11) pe_int (fun _ _ => rfl)) pe_str (nomark _))
  (pss_one (ps_set (i := 10) sc_function_clauses.nd rfl (.inl rfl) (pe_meth (pv 10) T.cl_Way T.m_Way_knowing G_Way_knowing (hr.mono (by decide)) T.b_Way_knowing .nil pass0 (pa_cons (pv 11) pa_nil))))
  pss_nil))))
  (pss_cons (ps_for PassesOwn.never rfl (pi_reversed (by rfl) T.n_reversed (pa_cons (pe_call G_trees_behind (hr.mono (by decide)) (by rfl) T.g_trees_behind T.F_trees_behind.kp T.b_trees_behind .nil pass0 (pa_cons (pv 0) (pa_cons (pe_meth (pv 10) T.cl_Way T.m_Way_meant_tree G_Way_meant_tree (hr.mono (by decide)) T.b_Way_meant_tree .nil pass0 (pa_cons (pv 9) pa_nil)) (pa_cons (pv 10) pa_nil)))) pa_nil)) (pg_name (i := 12) sc_function_clauses.nd rfl (.inl rfl))
  (pss_one (ps_expr (pe_bm PySem.F.plainAttrs_list PySem.F.slot_list_append PySem.F.type_list_append mt_append (pv 6) (pa_cons (pv 12) pa_nil)))))
  (pss_one (ps_aug (i := 8) sc_function_clauses.nd rfl (.inl rfl) pe_int ip_add))))))
  (pss_one (ps_ret (pv 7))))))))), ?_⟩
  refine fn_go len_fc rfl (fun as r ⟨fs, i, f, e1, e2, ok, hf⟩ => ?_) h rfl
  subst e1 e2
  obtain ⟨o1, o2, o3, o4, o5, o6⟩ := ok.2.2 f (List.mem_of_getElem? hf)
  have h4 : ∀ g ∈ fs, g.ps.length ≤ 4 := fun g hg => (ok.2.2 g hg).1
  refine evs_seq (evs_asg (vs := [2, 3, 4]) (ev_ixTD (K := K) (i := i) (ds := fs.map fnD) (d := fnD f) (ev_var rfl) (ev_var rfl) (by rw [List.getElem?_map, hf]; rfl)) (evg_tupD (K := K) (ds := [nsD f.ps, .str f.kd.s, f.tr.d]) (.cons evg_name (.cons evg_name (.cons evg_name .nil))))) ?_
  refine evs_seq (evs_set (r := .fz (dat K (strsD (f.ps.map (·.1))))) (ev_tupFD (K := K) (Ev.cong (ev_lcM (fun p : Str × Kd => dat K (prD p)) (fun p => dat K (.str p.1)) ?_ (Nat.le_trans o1 (by decide)) fun p _ => ⟨_, evg_tupD (K := K) (ds := [.str p.1, .str p.2.s]) (.cons evg_name (.cons evg_name .nil)), ev_var rfl⟩) (congrArg Rs.own (names_map K f.ps))))) ?_
  · have : f.ps.map (fun p => dat K (prD p)) = (f.ps.map prD).map (dat K) := by rw [List.map_map]; rfl
    rw [this]
    exact evi_tupD (ev_var rfl)
  refine evs_seq (evs_set (r := .own [pairA K A (f.tr, way0 i f)]) (ev_lst (evA_cons (ev_tup (K := K) (as := [dat K f.tr.d, wayA K A (way0 i f)]) (evA_cons (ev_var rfl) (evA_cons (ev_make (as := [dat K (nsD f.ps), dat K (.tuple [.tuple [.str "ahead", .int i, strsD (f.ps.map (·.1))]]), dctA [], dctA []]) (evA_cons (ev_var rfl) (evA_cons (ev_tupD (evAD_cons (ev_tupD (evAD_cons ev_str (evAD_cons (ev_var rfl) (evAD_cons (ev_var rfl) evAD_nil)))) evAD_nil)) (evA_cons ev_dnew (evA_cons ev_dnew evA_nil))))) evA_nil))) evA_nil))) ?_
  refine evs_seq (evs_set (r := .own (([] : List PyData).map (dat K))) (ev_lst evA_nil)) ?_
  refine evs_seq (evs_set (ev_int (K := K))) ?_
  refine evs_norm (fcE K A fs i (f.ps.map (·.1)) [pairA K A (f.tr, way0 i f)] [] 0) ⟨rfl, rfl, rfl, rfl, rfl, rfl, True.intro⟩ ?_
  generalize hps : f.ps.map (·.1) = ps
  have hit0 : ItOk fs f.kd f.tr (way0 i f) := ⟨⟨f.ps, o4, fun x _ => ⟨rfl, rfl⟩⟩, by show 0 + _ ≤ _; omega, by show 0 + _ ≤ _; omega, by show f.ps.length + _ ≤ _; omega, by show 1 + _ ≤ _; omega⟩
  have hcl : clF fs i f = clS fs i ps [(f.tr, way0 i f)] 0 := by
    show clT fs i (f.ps.map (·.1)) f.tr (way0 i f) 0 = clT fs i ps f.tr (way0 i f) 0 ++ []
    rw [hps, List.append_nil]
  generalize hall : clF fs i f = all at *
  have hlen : all.length ≤ 200 := by
    rw [← hall]
    have := clT_len fs i (f.ps.map (·.1)) f.tr (way0 i f) 0
    show (clT fs i (f.ps.map (·.1)) f.tr (way0 i f) 0).length ≤ _
    omega
  refine evs_seq (E1 := envL (fcE K A fs i ps [] all 0 |>.set 8 none)) (evs_while (fun g : { g : List (Tr × Wy) × List PyData × Nat // (∀ p ∈ g.1, ItOk fs f.kd p.1 p.2) ∧ g.2.1 ++ clS fs i ps g.1 g.2.2 = all ∧ (g.1.map fun p => p.1.size).sum ≤ 60 } => envL (fcE K A fs i ps (g.1.1.reverse.map (pairA K A)) g.1.2.1 g.1.2.2)) (fun g => (g.1.1.map fun p => p.1.size).sum) ⟨([(f.tr, way0 i f)], [], 0), fun p hp => by rw [List.mem_singleton.mp hp]; exact hit0, by rw [hcl]; rfl, by show f.tr.size + 0 ≤ 60; omega⟩ (fun _ _ h => h) fun g => ?_) (evs_retOwn rfl)
  obtain ⟨⟨S, F, p⟩, hok, hF, hz⟩ := g
  dsimp only at hok hF hz ⊢
  cases S with
  | nil =>
    refine ⟨false, evT_own (as := []) rfl, (fun h => nomatch h), fun _ => ?_⟩
    rw [show clS fs i ps [] p = [] from rfl, List.append_nil] at hF
    subst hF
    exact sub_env ⟨rfl, rfl, rfl, rfl, rfl, True.intro⟩
  | cons ty r =>
    obtain ⟨t, y⟩ := ty
    have hr6 : (((t, y) :: r).reverse.map (pairA K A)) = r.reverse.map (pairA K A) ++ [pairA K A (t, y)] := by rw [List.reverse_cons, List.map_append]; rfl
    rw [hr6]
    refine ⟨true, evT_nonempty (evT_own rfl), fun _ => ?_, fun h => nomatch h⟩
    have it : ItOk fs f.kd t y := hok (t, y) List.mem_cons_self
    obtain ⟨hn1, hn2, hn3, hn4⟩ := it_next (i := i) (ps := ps) it
    have hfew : t.few := tr_few h4 it.tr.choose_spec.1
    rw [clS_step, ← List.append_assoc] at hF
    have hFl : (F ++ goC i p y (t.gs i ps y)).length ≤ 200 := by
      have := congrArg List.length hF
      rw [List.length_append] at this
      omega
    have hz' : t.size + (r.map fun p => p.1.size).sum ≤ 60 := hz
    refine ⟨⟨(t.nx fs i ps y ++ r, F ++ goC i p y (t.gs i ps y), p + 1), fun q hq => ?_, hF, ?_⟩, ?_, ?_⟩
    · rcases List.mem_append.mp hq with h | h
      · exact hn2 q h
      · exact hok q (List.mem_cons_of_mem _ h)
    · dsimp only
      rw [List.map_append, List.sum_append]
      omega
    · show ((t.nx fs i ps y ++ r).map fun p => p.1.size).sum < t.size + (r.map fun p => p.1.size).sum
      rw [List.map_append, List.sum_append]
      omega
    · have hrl : r.length ≤ 60 := Nat.le_trans (sum_len r) (by omega)
      refine evs_to (E1 := (envL (fcG K A fs i ps (r.reverse.map (pairA K A) ++ ((t.nx fs i ps y).map (pairA K A)).reverse) (F ++ goC i p y (t.gs i ps y)) p t (goY y (t.gs i ps y)))).put 8 (.fz (dat K (.int ((p : Nat) + 1))))) (fcE K A fs i ps ((t.nx fs i ps y ++ r).reverse.map (pairA K A)) (F ++ goC i p y (t.gs i ps y)) (p + 1)) ?_ ⟨rfl, rfl, rfl, ?_, rfl, rfl, True.intro⟩
      rotate_left
      · exact congrArg (fun l => some (Rs.own l)) (by rw [List.reverse_append, List.map_append, List.map_reverse, List.map_reverse])
      have hnx0 : t.nx fs i ps y = (t.mn y.mo).next fs (goY y (t.gs i ps y)) := rfl
      have hyk := (goY_same (t.gs i ps y) y).2.2.2
      have hz4 := it.z4
      refine evs_seq (evs_pop (vs := [9, 10]) (as := r.reverse.map (pairA K A)) (a := pairA K A (t, y)) rfl (evg_tup (K := K) (as := [dat K t.d, wayA K A y]) (.cons evg_name (.cons evg_name .nil)))) ?_
      generalize hgs : t.gs i ps y = gs at *
      have hgl : gs.length ≤ 2 := by rw [← hgs]; exact wants_len i ps _
      refine evs_norm (fcG K A fs i ps (r.reverse.map (pairA K A)) F p t y) ⟨rfl, rfl, rfl, rfl, rfl, rfl, rfl, rfl, True.intro⟩ ?_
      refine evs_seq (E1 := envL (fcG K A fs i ps (r.reverse.map (pairA K A)) (F ++ goC i p y gs) p t (goY y gs))) (evs_weak (evs_for (vs := [11]) (as := gs.map (dat K)) (fun j => envL (fcG K A fs i ps (r.reverse.map (pairA K A)) (F ++ goC i p y (gs.take j)) p t (goY y (gs.take j)))) (evi_own (ev_call (evA_cons (ev_var rfl) (evA_cons (ev_var rfl) (evA_cons (ev_meth (ev_var rfl) rfl (evA_cons (ev_var rfl) evA_nil) ⟨y, t, rfl, rfl, hfew⟩) evA_nil))) ⟨i, ps, t.mn y.mo, rfl, by rw [← hgs]; rfl⟩)) (by rw [List.take_zero]; show ∀ i_1 r_1, envL (fcG K A fs i ps _ (F ++ []) p t y) i_1 = some r_1 → _; rw [List.append_nil]; exact fun _ _ h => h) fun j a ha => ?_) ?_) ?_
      · rw [List.getElem?_map] at ha
        obtain ⟨g, hg, rfl⟩ := Option.map_eq_some_iff.mp ha
        refine ⟨_, evg_name, ?_⟩
        rw [List.take_add_one, hg]
        show EvS _ _ _ _ (.nx (envL (fcG K A fs i ps _ (F ++ goC i p y (gs.take j ++ [g])) p t (goY y (gs.take j ++ [g])))) _)
        rw [goC_snoc, goY_snoc, ← List.append_assoc]
        obtain ⟨x, rr, rfl⟩ : ∃ x r, g = .tuple (.str x :: r) := by
          have := List.mem_of_getElem? hg
          rw [← hgs] at this
          exact wants_head this
        have hyj : (goY y (gs.take j)).known.length ≤ 1000 := by
          have := (goY_same (gs.take j) y).2.2.2
          rw [List.length_take] at this
          have := sizeK_pos t
          omega
        generalize goY y (gs.take j) = yj at hyj ⊢
        have hlj : (F ++ goC i p y (gs.take j)).length < 1000000 := by
          rw [List.length_append, goC_len, List.length_take]
          rw [List.length_append] at hFl
          omega
        generalize F ++ goC i p y (gs.take j) = Fj at hlj ⊢
        by_cases hx : x = "most"
        · rw [show yj.heed (.tuple (.str x :: rr)) = yj.know (.tuple (.str x :: rr)) from if_pos (decide_eq_true hx)]
          refine evs_to _ (evs_seq (evs_appendD (ds := Fj) (d := rowD i p yj (.tuple (.str x :: rr))) rfl (ev_tupD (evAD_cons (ev_var rfl) (evAD_cons (ev_var rfl) (evAD_cons (f_names T rfl) (evAD_cons (f_known T rfl) (evAD_cons (ev_var rfl) evAD_nil)))))) hlj) (evs_if (evT_str (x := x) (y := "most") (ev_ixc 0 (ev_var rfl) rfl) ev_str) (fun _ => evs_set (ev_meth (ev_var rfl) rfl (evA_cons (ev_var rfl) evA_nil) ⟨yj, _, rfl, rfl, hyj⟩)) (fun h => absurd hx (of_decide_eq_false h)))) ⟨rfl, rfl, rfl, rfl, rfl, rfl, rfl, rfl, True.intro⟩
        · rw [show yj.heed (.tuple (.str x :: rr)) = yj from if_neg (by show ¬ decide (x = "most") = true; rw [decide_eq_false hx]; decide)]
          refine evs_to _ (evs_seq (evs_appendD (ds := Fj) (d := rowD i p yj (.tuple (.str x :: rr))) rfl (ev_tupD (evAD_cons (ev_var rfl) (evAD_cons (ev_var rfl) (evAD_cons (f_names T rfl) (evAD_cons (f_known T rfl) (evAD_cons (ev_var rfl) evAD_nil)))))) hlj) (evs_if (evT_str (x := x) (y := "most") (ev_ixc 0 (ev_var rfl) rfl) ev_str) (fun h => absurd (of_decide_eq_true h) hx) (fun _ => evs_next))) ⟨rfl, rfl, rfl, rfl, rfl, rfl, rfl, rfl, True.intro⟩
      · rw [List.length_map, List.take_of_length_le (Nat.le_refl _)]
        exact fun _ _ h => h
      have hmo : (goY y gs).mo = y.mo := mo_eq y gs
      generalize goY y gs = y2 at *
      generalize hF2 : F ++ goC i p y gs = F2 at *
      have hnx : t.nx fs i ps y = (t.mn y2.mo).next fs y2 := by
        rw [hmo]
        exact hnx0
      generalize t.nx fs i ps y = nx at *
      refine evs_seq (E1 := envL (fcG K A fs i ps (r.reverse.map (pairA K A) ++ (nx.map (pairA K A)).reverse) F2 p t y2)) (evs_weak (evs_for (vs := [12]) (as := (nx.map (pairA K A)).reverse) (fun j => envL (fcG K A fs i ps (r.reverse.map (pairA K A) ++ (nx.map (pairA K A)).reverse.take j) F2 p t y2)) (evi_rev (K := K) (ev_call (evA_cons (ev_var rfl) (evA_cons (ev_meth (ev_var rfl) rfl (evA_cons (ev_var rfl) evA_nil) ⟨y2, t, rfl, rfl, hfew⟩) (evA_cons (ev_var rfl) evA_nil))) ⟨fs, t.mn y2.mo, y2, rfl, by rw [hnx], by rw [hmo]; exact hn1⟩)) (by rw [List.take_zero, List.append_nil]; exact fun _ _ h => h) fun j a ha => ?_) ?_) ?_
      · refine ⟨_, evg_name, ?_⟩
        rw [List.take_add_one, ha, ← List.append_assoc]
        refine evs_to _ (evs_append rfl (ev_var rfl) ?_) ⟨rfl, rfl, rfl, rfl, rfl, rfl, rfl, rfl, True.intro⟩
        rw [List.length_append, List.length_map, List.length_reverse, List.length_take, List.length_reverse, List.length_map]
        omega
      · rw [List.take_of_length_le (Nat.le_refl _)]
        exact fun _ _ h => h
      · exact evs_aug (z := (p : Nat)) (m := 1) rfl (ev_int (K := K)) (fun H Q q => ⟨_, _, rfl, rfl, q⟩)
end
end Cs
namespace Cs
open PySem PySem.Spec L2
theorem Ext.only {B H H1 : Hp} (s : Same B H) (h : Same H H1) : Ext B H B H1 := ⟨Same.refl _, h, s.trans h, fun _ n _ => n⟩
section
variable {P : Program} {w : World} {K : PySem.W.Frag} {mg : Str → Option Value} {base : Heap} {A : Adr}
theorem ps_im {H : Hp} : ∀ {qs : List Addr} {ps : Nm}, Paired (PrAt K H) qs ps → ImAll K H (qs.map V.ref) (ps.map prD)
  | _, _, .nil => .nil
  | _, _, .cons a t => .cons (.tup a (.cons (.str _) (.cons (.str _) .nil))) (ps_im t)
theorem fn_im {H : Hp} {v : V} {f : Fn} : FnAt K H v f → Im K H v (fnD f)
  | ⟨_, _, _, _, e, h1, h2, h3, h4⟩ => by
    rw [e]
    exact .tup h1 (.cons (.tup h2.sq (ps_im h3)) (.cons (.str _) (.cons h4 .nil)))
theorem fns_im {H : Hp} : ∀ {vs : List V} {fs : List Fn}, Paired (FnAt K H) vs fs → ImAll K H vs (fs.map fnD)
  | _, _, .nil => .nil
  | _, _, .cons a t => .cons (fn_im a) (fns_im t)
theorem pg_im {H : Hp} {v : V} {fs : List Fn} : PgAt K H v fs → Im K H v (pgD fs)
  | ⟨_, _, e, h1, h2⟩ => by
    rw [e]
    exact .tup h1 (fns_im h2)
def pgA (K : PySem.W.Frag) (fs : List Fn) : AV := ⟨fun v B => PgAt K B v fs, fun s h => h.same (sameI_of s)⟩
theorem pg_dat {v : V} {B : Hp} {fs : List Fn} (h : (pgA K fs).p v B) : (dat K (pgD fs)).p v B := (pg_im h).dp
theorem ev_check {n : Nat} {W : Wo} {E : En} {i : Nat} {fs : List Fn} {X : XK} (h : E i = some (.fz (pgA K fs))) (ok : okPg fs) : Ev n W (tCall (spProgram K) [] X (tCons (tVar i) tNil)) E (.fz (dat K .none)) := fun B0 H0 B H σ e Q q => by
  obtain ⟨v, h1, h2⟩ := e.at_ i _ h
  exact ⟨v, h1, v, fs, rfl, h2.same (sameI_of e.s), ok, fun H1 s1 => q .non B H1 (.only e.s s1) .non⟩
/-! ### clauses -/
def clI (fs : List Fn) (i : Nat) : List PyData := match fs[i]? with
  | some f => clF fs i f
  | none => []
def clAll (fs : List Fn) : List PyData := (List.range fs.length).flatMap (clI fs)
theorem clI_len {fs : List Fn} (ok : okPg fs) (i : Nat) : (clI fs i).length ≤ 120 := by
  unfold clI
  cases hf : fs[i]? with
  | none => exact Nat.zero_le _
  | some f =>
    obtain ⟨o1, o2, o3, o4, o5, o6⟩ := ok.2.2 f (List.mem_of_getElem? hf)
    have := clT_len fs i (f.ps.map (·.1)) f.tr (way0 i f) 0
    show (clT fs i (f.ps.map (·.1)) f.tr (way0 i f) 0).length ≤ _
    omega
theorem flat_len {α : Type} {f : Nat → List α} {k : Nat} (h : ∀ i, (f i).length ≤ k) : ∀ m, ((List.range m).flatMap f).length ≤ m * k
  | 0 => Nat.zero_le _
  | m + 1 => by
    rw [List.range_succ, List.flatMap_append, List.length_append]
    have := flat_len h m
    have := h m
    simp only [List.flatMap_cons, List.flatMap_nil, List.append_nil]
    rw [Nat.succ_mul]
    omega
theorem clAll_len {fs : List Fn} (ok : okPg fs) : (clAll fs).length ≤ 720 := by
  have := flat_len (clI_len ok) fs.length
  have := ok.2.1
  unfold clAll
  have : fs.length * 120 ≤ 6 * 120 := Nat.mul_le_mul_right _ ok.2.1
  omega
theorem flat_map {α β : Type} (g : α → β) (f : Nat → List α) (l : List Nat) : l.flatMap (fun i => (f i).map g) = (l.flatMap f).map g := by
  induction l with
  | nil => rfl
  | cons a l ih => rw [List.flatMap_cons, List.flatMap_cons, List.map_append, ih]
def Rclauses (K : PySem.W.Frag) : List AV → Rs → Prop := fun as r => ∃ fs : List Fn, as = [pgA K fs] ∧ r = .own ((clAll fs).map (dat K)) ∧ okPg fs
theorem len_cl : ∀ as r, Rclauses K as r → as.length = 1 := fun as r ⟨_, e, _⟩ => by rw [e]; rfl
theorem ok_clauses (T : Tx K w mg A) : FnOk P w K mg base CX0 11 A.f_clauses A.fd_clauses P_clauses (spA (Rclauses K)) := by
  have G_check_program := ok_check_program (P := P) (base := base) T
  have G_function_clauses := ok_function_clauses (P := P) (base := base) T
  refine T.F_clauses.ok sc_clauses (fun vs H Q E h => spA_len len_cl h) (fun cdv AA outer s H vs Q E hr h => ?_)
  refine ⟨_, (pss_cons (ps_expr (pe_call G_check_program (hr.mono (by decide)) (by rfl) T.g_check_program T.F_check_program.kp T.b_check_program .nil pass0 (pa_cons (pv 0) pa_nil)))
  (pss_one (ps_ret (pe_lcN (own := [("number", 1), ("clause", 2)]) (g := (gName 1)) (tt := tYes) (te := (tVar 2)) (cs := [⟨(iList K _), (gName 2), tYes, [2]⟩]) rfl sc_clauses.nd (pi_range1 (by rfl) T.n_range (pa_cons (pe_callB call_len (by rfl) T.n_len (by decide +kernel) (pa_cons (pv 0) pa_nil)) pa_nil)) (blkOk_by (N := N_clauses) (sc := defScope s_clauses) (by decide +kernel)) (fun _ _ _ _ _ => (pg_name (i := 1) sc_clauses.nd rfl (.inl rfl))) (fun _ _ _ _ _ => pts_nil) (fun _ _ _ _ _ => (.cons (c := ⟨(iList K _), (gName 2), tYes, [2]⟩) rfl (pi_list (pe_call G_function_clauses (hr.mono (by decide)) (by rfl) T.g_function_clauses T.F_function_clauses.kp T.b_function_clauses .nil pass0 (pa_cons (pv 0) (pa_cons (pv 1) pa_nil)))) (pg_name (i := 2) sc_clauses.nd rfl (.inl rfl)) pts_nil (by intro _; rfl) (fun _ h => by cases h) (.nil rfl (pv 2)))) (fun _ h => by cases h; exact (show ∀ i ∈ ([2] : List Nat), i ∈ ([1, 2] : List Nat) by decide)))))), ?_⟩
  refine fn_go len_cl rfl (fun as r ⟨fs, e1, e2, ok⟩ => ?_) h rfl
  subst e1 e2
  refine evs_seq (evs_drop (ev_check rfl ok)) ?_
  have h6 := ok.2.1
  have hin : ((List.range ((List.range fs.length).map fun i : Nat => dat K (.int (i : Int))).length).flatMap fun i => (clI fs i).map (dat K)) = (clAll fs).map (dat K) := by
    rw [List.length_map, List.length_range, flat_map]
    rfl
  refine evs_ret ((ev_lcN2 (as := (List.range fs.length).map fun i : Nat => dat K (.int (i : Int))) (fun i => (clI fs i).map (dat K)) (evi_rng1 (m := fs.length) ((ev_len (K := K) (ds := fs.map fnD) ((ev_var rfl).of fun _ _ => pg_dat)).cong (by rw [List.length_map])) (by omega)) ?_ fun i a ha => ?_).cong (congrArg Rs.own hin))
  · rw [hin, List.length_map]
    have := clAll_len ok
    omega
  · rw [List.getElem?_map] at ha
    obtain ⟨j, hj, rfl⟩ := Option.map_eq_some_iff.mp ha
    have hlt : i < fs.length := by
      have := (List.getElem?_eq_some_iff.mp hj).1
      rw [List.length_range] at this
      exact this
    rw [List.getElem?_range hlt] at hj
    cases hj
    have hf : fs[i]? = some fs[i] := List.getElem?_eq_getElem hlt
    refine ⟨_, (clI fs i).map (dat K), evg_name, evi_own (ev_call (evA_cons ((ev_var rfl).of fun _ _ => pg_dat) (evA_cons (ev_var rfl) evA_nil)) ⟨fs, i, fs[i], rfl, ?_, ok, hf⟩), rfl, fun j r hj ho => ?_, fun j c b hc hb => ?_⟩
    · unfold clI
      rw [hf]
    · exfalso
      unfold En.put En.cut env0 at hj
      split at hj
      · cases hj; cases ho
      · split at hj
        · cases hj
        · obtain ⟨a, _, rfl⟩ := Option.map_eq_some_iff.mp hj
          cases ho
    · rw [hc] at hb
      cases hb
      exact ⟨_, evg_name, ev_var rfl⟩
end
end Cs
namespace Cs
open PySem PySem.Spec L2
/-! ## the law's own walk -/
section
variable {P : Program} {w : World} {K : PySem.W.Frag} {mg : Str → Option Value} {base : Heap} {A : Adr}
/-! ### how many trees -/
def RwSize (K : PySem.W.Frag) (n : Nat) : List AV → Rs → Prop := fun as r => ∃ t : Tr, as = [dat K t.d] ∧ r = .fz (dat K (.int (t.size : Nat))) ∧ t.deep ≤ n
theorem len_ws {n : Nat} : ∀ as r, RwSize K n as r → as.length = 1 := fun as r ⟨_, e, _⟩ => by rw [e]; rfl
def Tr.subs : Tr → List Tr
  | .let_ _ _ t => [t]
  | .if_ _ _ _ t u => [t, u]
  | .claim _ _ _ t => [t]
  | .tell _ => []
theorem subs_deep {t u : Tr} {n : Nat} (h : t.deep ≤ n + 1) (hu : u ∈ t.subs) : u.deep ≤ n := by
  cases t with
  | let_ x d t => rw [List.mem_singleton.mp hu]; exact Nat.le_of_succ_le_succ h
  | claim a b m t => rw [List.mem_singleton.mp hu]; exact Nat.le_of_succ_le_succ h
  | tell x => cases hu
  | if_ a b m t v =>
    have h : max t.deep v.deep + 1 ≤ n + 1 := h
    rcases List.mem_cons.mp hu with e | e
    · rw [e]; omega
    · rw [List.mem_singleton.mp e]; omega
theorem t_deep1 : ∀ t : Tr, 1 ≤ t.deep
  | .let_ _ _ t => Nat.le_add_left 1 _
  | .if_ _ _ _ t u => Nat.le_add_left 1 _
  | .claim _ _ _ t => Nat.le_add_left 1 _
  | .tell _ => Nat.le_refl 1
theorem trs_map (K : PySem.W.Frag) (ts : List Tr) : (ts.map Tr.d).map (dat K) = ts.map fun t => dat K t.d := by rw [List.map_map]; rfl
theorem step_w_size (T : Tx K w mg A) (n k : Nat) (R : List AV → Rs → Prop) (G_w_size : FnOk P w K mg base CX0 k A.f_w_size A.fd_w_size P_w_size (spA R)) (hG : ∀ m, n = m + 1 → ∀ as r, RwSize K m as r → R as r) :
    FnOk P w K mg base CX0 (k + 1) A.f_w_size A.fd_w_size P_w_size (spA (RwSize K n)) := by
  refine T.F_w_size.ok sc_w_size (fun vs H Q E h => spA_len len_ws h) (fun cdv AA outer s H vs Q E hr h => ?_)
  refine ⟨_, (pss_cons (ps_if (pt_cmpR op_eq (pe_ix ix_tup (pv 0) pe_int (fun _ _ => rfl)) pe_str (nomark _))
  (pss_one (ps_ret pe_int))
  pss_nil)
  (pss_one (ps_ret (pe_op op_add pe_int (pe_callB (cr_sum rfl) (by rfl) T.n_sum (by decide +kernel) (pa_cons (pe_lc (own := [("_law_part", 1)]) (g := (gName 1)) (tt := tYes) (te := _) rfl sc_w_size.nd (pi_tup (pe_slice sl_tup (pv 0) (po_some (pe_ifExp (pt_cmpR op_eq (pe_ix ix_tup (pv 0) pe_int (fun _ _ => rfl)) pe_str (nomark _)) pe_int pe_int)) po_none)) (blkOk_by (N := N_w_size) (sc := defScope s_w_size) (by decide +kernel)) (fun _ _ _ _ _ => (pg_name (i := 1) sc_w_size.nd rfl (.inl rfl))) (fun _ _ _ _ _ => pts_nil) (fun _ _ _ _ _ => (pe_call G_w_size (hr.mono (by omega)) (by rfl) T.g_w_size T.F_w_size.kp T.b_w_size .nil pass0 (pa_cons (pv 1) pa_nil)))) pa_nil)))))), ?_⟩
  refine fn_go len_ws rfl (fun as r ⟨t, e1, e2, hd⟩ => ?_) h rfl
  subst e1 e2
  have hn : 1 ≤ n := Nat.le_trans (t_deep1 t) hd
  obtain ⟨m, rfl⟩ : ∃ m, n = m + 1 := ⟨n - 1, by omega⟩
  have hs := fun u hu => subs_deep hd (u := u) hu
  have fin : ∀ (sub : List Tr), (∀ u ∈ sub, u.deep ≤ m) → sub.length ≤ 2 → ∀ (W : Wo) (E1 : En) (wi : TI) , EvI N_w_size.length W wi E1 (sub.map fun t => dat K t.d) → Ev N_w_size.length W (tLc wi (gName 1) tYes (tCall (spA R) [] E0 (tCons (tVar 1) tNil)) [1]) E1 (.own (((sub.map fun u => ((u.size : Nat) : Int)).map PyData.int).map (dat K))) := by
    intro sub h1 h2 W E1 wi hi
    refine (ev_lcM (fun t : Tr => dat K t.d) (fun u => dat K (.int (u.size : Nat))) hi (by omega) fun u hu => ⟨_, evg_name, ev_call (evA_cons (ev_var rfl) evA_nil) (hG m rfl _ _ ⟨u, rfl, rfl, h1 u hu⟩)⟩).cong (by rw [List.map_map, List.map_map]; rfl)
  cases t with
  | tell x =>
    refine evs_seqR (evs_if (evT_str (x := "tell") (y := "tell") (ev_ixc 0 (ev_var rfl) rfl) ev_str) (fun _ => evs_ret (ev_int (K := K))) (fun h => absurd h (by decide +kernel)))
  | let_ x d t =>
    refine evs_seq (evs_if (evT_str (x := "let") (y := "tell") (ev_ixc 0 (ev_var rfl) rfl) ev_str) (fun h => absurd h (by decide +kernel)) (fun _ => evs_next)) ?_
    refine evs_ret ((ev_add (K := K) (x := 1) (y := ((t.size : Nat) : Int) + 0) ev_int (ev_sum (ns := [((t.size : Nat) : Int)]) (fin [t] hs (Nat.le_of_ble_eq_true rfl) _ _ _ (evi_tupD (ds := [t.d]) (ev_dropE (k := 3) (ds := [.str "let", .str x, d.d, t.d]) (ev_var rfl) (ev_ifE (evT_str (x := "let") (y := "let") (ev_ixc 0 (ev_var rfl) rfl) ev_str) (fun _ => ev_int) (fun h => absurd h (by decide +kernel))) (by decide) (by show 1 ≤ 4; decide)))))).cong ?_)
    show Rs.fz (dat K (.int (1 + ((t.size : Nat) + 0)))) = Rs.fz (dat K (.int ((t.size + 1 : Nat))))
    rw [show (1 : Int) + ((t.size : Nat) + 0) = ((t.size + 1 : Nat) : Int) by omega]
  | claim a b c t =>
    refine evs_seq (evs_if (evT_str (x := "claim") (y := "tell") (ev_ixc 0 (ev_var rfl) rfl) ev_str) (fun h => absurd h (by decide +kernel)) (fun _ => evs_next)) ?_
    refine evs_ret ((ev_add (K := K) (x := 1) (y := ((t.size : Nat) : Int) + 0) ev_int (ev_sum (ns := [((t.size : Nat) : Int)]) (fin [t] hs (Nat.le_of_ble_eq_true rfl) _ _ _ (evi_tupD (ds := [t.d]) (ev_dropE (k := 4) (ds := [.str "claim", a.d, b.d, .int c, t.d]) (ev_var rfl) (ev_ifE (evT_str (x := "claim") (y := "let") (ev_ixc 0 (ev_var rfl) rfl) ev_str) (fun h => absurd h (by decide +kernel)) (fun _ => ev_int)) (by decide) (by show 1 ≤ 5; decide)))))).cong ?_)
    show Rs.fz (dat K (.int (1 + ((t.size : Nat) + 0)))) = Rs.fz (dat K (.int ((t.size + 1 : Nat))))
    rw [show (1 : Int) + ((t.size : Nat) + 0) = ((t.size + 1 : Nat) : Int) by omega]
  | if_ a b c t u =>
    refine evs_seq (evs_if (evT_str (x := "if") (y := "tell") (ev_ixc 0 (ev_var rfl) rfl) ev_str) (fun h => absurd h (by decide +kernel)) (fun _ => evs_next)) ?_
    refine evs_ret ((ev_add (K := K) (x := 1) (y := ((t.size : Nat) : Int) + (((u.size : Nat) : Int) + 0)) ev_int (ev_sum (ns := [((t.size : Nat) : Int), ((u.size : Nat) : Int)]) (fin [t, u] hs (Nat.le_of_ble_eq_true rfl) _ _ _ (evi_tupD (ds := [t.d, u.d]) (ev_dropE (k := 4) (ds := [.str "if", a.d, b.d, .int c, t.d, u.d]) (ev_var rfl) (ev_ifE (evT_str (x := "if") (y := "let") (ev_ixc 0 (ev_var rfl) rfl) ev_str) (fun h => absurd h (by decide +kernel)) (fun _ => ev_int)) (by decide) (by show 1 ≤ 6; decide)))))).cong ?_)
    show Rs.fz (dat K (.int (1 + ((t.size : Nat) + ((u.size : Nat) + 0))))) = Rs.fz (dat K (.int ((t.size + u.size + 1 : Nat))))
    rw [show (1 : Int) + ((t.size : Nat) + ((u.size : Nat) + 0)) = ((t.size + u.size + 1 : Nat) : Int) by omega]
theorem ok_w_size (T : Tx K w mg A) : ∀ n : Nat, FnOk P w K mg base CX0 (n + 1) A.f_w_size A.fd_w_size P_w_size (spA (RwSize K n))
  | 0 => step_w_size T 0 0 _ fn_false fun _ h => nomatch h
  | n + 1 => step_w_size T (n + 1) (n + 1) _ (ok_w_size T n) fun m h as r hr => by cases h; exact hr
/-! ### where the walk stands -/
def hereK (ln lk lm lr : Addr) : List (Key × AV) := [(.inr "names", eqA (.ref ln)), (.inr "known", eqA (.ref lk)), (.inr "made", eqA (.ref lm)), (.inr "root", eqA (.ref lr))]
structure HereW (K : PySem.W.Frag) (W : Wo) (ha ln lk lm lr : Addr) (y : Wy) : Prop where
  hh : W ha = some (.dct (hereK ln lk lm lr))
  hn : W ln = some (.lst ((y.names.map prD).map (dat K)))
  hk : W lk = some (.lst (y.known.map (dat K)))
  hm : W lm = some (.dct (madeK K y.made))
  hr : W lr = some (.dct (meantK K y.meant))
  nd : [ha, ln, lk, lm, lr].Nodup
def Stands (y : Wy) (x : Str) : Prop := ∃ z, y.meant.lookup x = some z
theorem stands_mo {y : Wy} {x : Str} (h : Stands y x) : y.meant.lookup x = some (y.mo x) := by
  obtain ⟨z, e⟩ := h
  unfold Wy.mo
  rw [e]
  rfl
def Dd.std (y : Wy) : Dd → Prop
  | .num _ => True
  | .sum x _ => Stands y x
  | .len l => Stands y l
  | .nil => True
  | .put x l => Stands y x ∧ Stands y l
  | .head l => Stands y l
  | .tail l => Stands y l
  | .at_ l x => Stands y l ∧ Stands y x
  | .ask => True
  | .call _ xs => (∀ x ∈ xs, Stands y x) ∧ xs.length ≤ 4
def Ms.std (y : Wy) : Ms → Prop
  | .zero => True
  | .of x => Stands y x
  | .len x => Stands y x
section
variable {n : Nat} {W : Wo} {E : En} {ha ln lk lm lr : Addr} {y : Wy}
theorem h_names {te : TE} (h : HereW K W ha ln lk lm lr y) (he : Ev n W te E (.fz (eqA (.ref ha)))) : Ev n W (tDGet te (tC (.str "names"))) E (.fz (eqA (.ref ln))) := ev_dgetW (K := K) he h.hh ev_str (by rfl)
theorem h_known {te : TE} (h : HereW K W ha ln lk lm lr y) (he : Ev n W te E (.fz (eqA (.ref ha)))) : Ev n W (tDGet te (tC (.str "known"))) E (.fz (eqA (.ref lk))) := ev_dgetW (K := K) he h.hh ev_str (by rfl)
theorem h_made {te : TE} (h : HereW K W ha ln lk lm lr y) (he : Ev n W te E (.fz (eqA (.ref ha)))) : Ev n W (tDGet te (tC (.str "made"))) E (.fz (eqA (.ref lm))) := ev_dgetW (K := K) he h.hh ev_str (by rfl)
theorem h_root {te : TE} (h : HereW K W ha ln lk lm lr y) (he : Ev n W te E (.fz (eqA (.ref ha)))) : Ev n W (tDGet te (tC (.str "root"))) E (.fz (eqA (.ref lr))) := ev_dgetW (K := K) he h.hh ev_str (by rfl)
theorem root_get {te tx : TE} {x : Str} (h : HereW K W ha ln lk lm lr y) (he : Ev n W te E (.fz (eqA (.ref lr)))) (hx : EvD K n W tx E (.str x)) (hs : Stands y x) : EvD K n W (tDGet te tx) E (.str (y.mo x)) := ev_dgetW he h.hr hx (by rw [meant_val, stands_mo hs]; rfl)
theorem h_get {te tx : TE} {x : Str} (h : HereW K W ha ln lk lm lr y) (he : Ev n W te E (.fz (eqA (.ref ha)))) (hx : EvD K n W tx E (.str x)) (hs : Stands y x) : EvD K n W (tDGet (tDGet te (tC (.str "root"))) tx) E (.str (y.mo x)) := root_get h (h_root h he) hx hs
end
/-! ### what is wanted -/
def RwWants (K : PySem.W.Frag) : List AV → Wo → Rs → Wo → Prop := fun as W r W1 => ∃ (d : Dd) (y : Wy) (ha ln lk lm lr : Addr), as = [dat K d.d, eqA (.ref ha)] ∧ HereW K W ha ln lk lm lr y ∧ d.std y ∧ r = .fz (dat K (.list (d.mn y.mo).wants)) ∧ W1 = W
theorem len_ww : ∀ as W r W1, RwWants K as W r W1 → as.length = 2 := fun as W r W1 ⟨_, _, _, _, _, _, _, e, _⟩ => by rw [e]; rfl
theorem ok_w_wants (T : Tx K w mg A) : FnOk P w K mg base CX0 1 A.f_w_wants A.fd_w_wants P_w_wants (spM (RwWants K)) := by
  refine T.F_w_wants.ok sc_w_wants (fun vs H Q E h => spM_len len_ww h) (fun cdv AA outer s H vs Q E hr h => ?_)
  refine ⟨_, (pss_cons (ps_if (pt_cmpR op_eq (pe_ix ix_tup (pv 0) pe_int (fun _ _ => rfl)) pe_str (nomark _))
  (pss_one (ps_ret (pe_lst (pa_cons (pe_tup (pa_cons pe_str (pa_cons (pe_ix ix_tup (pv 0) pe_int (fun _ _ => rfl)) (pa_cons (pe_callTy cr_tupF (by rfl) T.n_tuple (by decide +kernel) (pa_cons (pe_lc (own := [("_law_name", 3)]) (g := (gName 3)) (tt := tYes) (te := (tDGet (tDGet (tVar 1) _) (tVar 3))) rfl sc_w_wants.nd (pi_tup (pe_ix ix_tup (pv 0) pe_int (fun _ _ => rfl))) (blkOk_by (N := N_w_wants) (sc := defScope s_w_wants) (by decide +kernel)) (fun _ _ _ _ _ => (pg_name (i := 3) sc_w_wants.nd rfl (.inl rfl))) (fun _ _ _ _ _ => pts_nil) (fun _ _ _ _ _ => (pe_dget (hu_of hr) (pe_dget (hu_of hr) (pv 1) pe_str (fun _ _ => rfl)) (pv 3) (fun _ _ => rfl)))) pa_nil)) pa_nil)))) pa_nil))))
  pss_nil)
  (pss_cons (ps_if (pt_cmpR op_in_seq (pe_ix ix_tup (pv 0) pe_int (fun _ _ => rfl)) (pe_tup (pa_cons pe_str (pa_cons pe_str pa_nil))) (by rfl))
  (pss_one (ps_ret (pe_lst (pa_cons (pe_tup (pa_cons pe_str (pa_cons (pe_tup pa_nil) (pa_cons (pe_tup (pa_cons pe_str (pa_cons (pe_dget (hu_of hr) (pe_dget (hu_of hr) (pv 1) pe_str (fun _ _ => rfl)) (pe_ix ix_tup (pv 0) pe_int (fun _ _ => rfl)) (fun _ _ => rfl)) pa_nil))) (pa_cons (pe_op op_sub pe_int pe_int) pa_nil))))) pa_nil))))
  pss_nil)
  (pss_cons (ps_if (pt_cmpR op_ne (pe_ix ix_tup (pv 0) pe_int (fun _ _ => rfl)) pe_str (nomark _))
  (pss_one (ps_ret (pe_lst pa_nil)))
  pss_nil)
  (pss_cons (ps_set (i := 2) sc_w_wants.nd rfl (.inl rfl) (pe_tup (pa_cons pe_str (pa_cons (pe_dget (hu_of hr) (pe_dget (hu_of hr) (pv 1) pe_str (fun _ _ => rfl)) (pe_ix ix_tup (pv 0) pe_int (fun _ _ => rfl)) (fun _ _ => rfl)) pa_nil))))
  (pss_one (ps_ret (pe_lst (pa_cons (pe_tup (pa_cons pe_str (pa_cons (pe_tup pa_nil) (pa_cons (pv 2) (pa_cons pe_int pa_nil))))) (pa_cons (pe_tup (pa_cons pe_str (pa_cons (pv 2) (pa_cons (pe_tup (pa_cons pe_str (pa_cons (pe_dget (hu_of hr) (pe_dget (hu_of hr) (pv 1) pe_str (fun _ _ => rfl)) (pe_ix ix_tup (pv 0) pe_int (fun _ _ => rfl)) (fun _ _ => rfl)) pa_nil))) (pa_cons (pe_op op_sub pe_int pe_int) pa_nil))))) pa_nil))))))))), ?_⟩
  refine fn_goM len_ww rfl (fun as W r W1 ⟨d, y, ha, ln, lk, lm, lr, e1, hW, hd, e2, e3⟩ => ?_) h rfl
  subst e1 e2 e3
  have ht : EvD K N_w_wants.length W1 (tTup (tCons (tC (.str "head")) (tCons (tC (.str "tail")) tNil))) (env0 [dat K d.d, eqA (V.ref ha)]) (.tuple [.str "head", .str "tail"]) := ev_tupD (K := K) (evAD_cons ev_str (evAD_cons ev_str evAD_nil))
  cases d with
  | call f xs =>
    refine evs_seqR (evs_if (evT_str (x := "call") (y := "call") (ev_ixc 0 (ev_var rfl) rfl) ev_str) (fun _ => ?_) (fun h => absurd h (by decide +kernel)))
    refine evs_ret (ev_keepD (K := K) (ds := [.tuple [.str "ahead", .int f, strsD (xs.map y.mo)]]) (ev_lstD (K := K) (evAD_cons (ev_tupD (K := K) (evAD_cons ev_str (evAD_cons (ev_ixc 1 (ev_var rfl) rfl) (evAD_cons (ev_tupFD (K := K) (Ev.cong (ev_lcM (fun x => dat K (.str x)) (fun x => dat K (.str (y.mo x))) ?_ (by have := hd.2; omega) fun x hx => ⟨_, evg_name, h_get hW (ev_var rfl) (ev_var rfl) (hd.1 x hx)⟩) (congrArg Rs.own (strs_map2 K y.mo xs).symm))) evAD_nil)))) evAD_nil)))
    rw [← strs_map]
    exact evi_tupD (ev_ixc (K := K) 2 (ds := [.str "call", .int f, strsD xs]) (ev_var rfl) rfl)
  | head l =>
    refine evs_seq (evs_if (evT_str (x := "head") (y := "call") (ev_ixc 0 (ev_var rfl) rfl) ev_str) (fun h => absurd h (by decide +kernel)) (fun _ => evs_next)) ?_
    refine evs_seqR (evs_if (evT_inS (x := "head") (ws := ["head", "tail"]) (ev_ixc 0 (ev_var rfl) rfl) ht) (fun _ => ?_) (fun h => absurd h (by decide +kernel)))
    exact evs_ret (ev_keepD (K := K) (ds := [mostD (.tuple []) (lenD (y.mo l)) (-1)]) (ev_lstD (K := K) (evAD_cons (ev_tupD (K := K) (evAD_cons ev_str (evAD_cons (ev_tupD evAD_nil) (evAD_cons (ev_tupD (K := K) (ds := [.str "len", .str (y.mo l)]) (evAD_cons ev_str (evAD_cons (h_get hW (ev_var rfl) (ev_ixc (K := K) 1 (ds := [.str "head", .str l]) (ev_var rfl) rfl) hd) evAD_nil))) (evAD_cons (ev_sub ev_int ev_int) evAD_nil))))) evAD_nil)))
  | tail l =>
    refine evs_seq (evs_if (evT_str (x := "tail") (y := "call") (ev_ixc 0 (ev_var rfl) rfl) ev_str) (fun h => absurd h (by decide +kernel)) (fun _ => evs_next)) ?_
    refine evs_seqR (evs_if (evT_inS (x := "tail") (ws := ["head", "tail"]) (ev_ixc 0 (ev_var rfl) rfl) ht) (fun _ => ?_) (fun h => absurd h (by decide +kernel)))
    exact evs_ret (ev_keepD (K := K) (ds := [mostD (.tuple []) (lenD (y.mo l)) (-1)]) (ev_lstD (K := K) (evAD_cons (ev_tupD (K := K) (evAD_cons ev_str (evAD_cons (ev_tupD evAD_nil) (evAD_cons (ev_tupD (K := K) (ds := [.str "len", .str (y.mo l)]) (evAD_cons ev_str (evAD_cons (h_get hW (ev_var rfl) (ev_ixc (K := K) 1 (ds := [.str "tail", .str l]) (ev_var rfl) rfl) hd) evAD_nil))) (evAD_cons (ev_sub ev_int ev_int) evAD_nil))))) evAD_nil)))
  | at_ l x =>
    refine evs_seq (evs_if (evT_str (x := "at") (y := "call") (ev_ixc 0 (ev_var rfl) rfl) ev_str) (fun h => absurd h (by decide +kernel)) (fun _ => evs_next)) ?_
    refine evs_seq (evs_if (evT_inS (x := "at") (ws := ["head", "tail"]) (ev_ixc 0 (ev_var rfl) rfl) ht) (fun h => absurd h (by decide +kernel)) (fun _ => evs_next)) ?_
    refine evs_seq (evs_if (evT_strNe (x := "at") (y := "at") (ev_ixc 0 (ev_var rfl) rfl) ev_str) (fun h => absurd h (by decide +kernel)) (fun _ => evs_next)) ?_
    refine evs_seq (evs_set (ev_tupD (K := K) (ds := [.str "of", .str (y.mo x)]) (evAD_cons ev_str (evAD_cons (h_get hW (ev_var rfl) (ev_ixc (K := K) 2 (ds := [.str "at", .str l, .str x]) (ev_var rfl) rfl) hd.2) evAD_nil)))) ?_
    exact evs_ret (ev_keepD (K := K) (ds := [mostD (.tuple []) (ofD (y.mo x)) 0, mostD (ofD (y.mo x)) (lenD (y.mo l)) (-1)]) (ev_lstD (K := K) (evAD_cons (ev_tupD (K := K) (evAD_cons ev_str (evAD_cons (ev_tupD evAD_nil) (evAD_cons (ev_var rfl) (evAD_cons ev_int evAD_nil))))) (evAD_cons (ev_tupD (K := K) (evAD_cons ev_str (evAD_cons (ev_var rfl) (evAD_cons (ev_tupD (K := K) (ds := [.str "len", .str (y.mo l)]) (evAD_cons ev_str (evAD_cons (h_get hW (ev_var rfl) (ev_ixc (K := K) 1 (ds := [.str "at", .str l, .str x]) (ev_var rfl) rfl) hd.1) evAD_nil))) (evAD_cons (ev_sub ev_int ev_int) evAD_nil))))) evAD_nil))))
  | num m =>
    refine evs_seq (evs_if (evT_str (x := "num") (y := "call") (ev_ixc 0 (ev_var rfl) rfl) ev_str) (fun h => absurd h (by decide +kernel)) (fun _ => evs_next)) ?_
    refine evs_seq (evs_if (evT_inS (x := "num") (ws := ["head", "tail"]) (ev_ixc 0 (ev_var rfl) rfl) ht) (fun h => absurd h (by decide +kernel)) (fun _ => evs_next)) ?_
    refine evs_seqR (evs_if (evT_strNe (x := "num") (y := "at") (ev_ixc 0 (ev_var rfl) rfl) ev_str) (fun _ => ?_) (fun h => absurd h (by decide +kernel)))
    exact evs_ret (ev_keepD (K := K) (ds := []) (ev_lstD (K := K) (ds := []) evAD_nil))
  | sum x m =>
    refine evs_seq (evs_if (evT_str (x := "sum") (y := "call") (ev_ixc 0 (ev_var rfl) rfl) ev_str) (fun h => absurd h (by decide +kernel)) (fun _ => evs_next)) ?_
    refine evs_seq (evs_if (evT_inS (x := "sum") (ws := ["head", "tail"]) (ev_ixc 0 (ev_var rfl) rfl) ht) (fun h => absurd h (by decide +kernel)) (fun _ => evs_next)) ?_
    refine evs_seqR (evs_if (evT_strNe (x := "sum") (y := "at") (ev_ixc 0 (ev_var rfl) rfl) ev_str) (fun _ => ?_) (fun h => absurd h (by decide +kernel)))
    exact evs_ret (ev_keepD (K := K) (ds := []) (ev_lstD (K := K) (ds := []) evAD_nil))
  | len l =>
    refine evs_seq (evs_if (evT_str (x := "len") (y := "call") (ev_ixc 0 (ev_var rfl) rfl) ev_str) (fun h => absurd h (by decide +kernel)) (fun _ => evs_next)) ?_
    refine evs_seq (evs_if (evT_inS (x := "len") (ws := ["head", "tail"]) (ev_ixc 0 (ev_var rfl) rfl) ht) (fun h => absurd h (by decide +kernel)) (fun _ => evs_next)) ?_
    refine evs_seqR (evs_if (evT_strNe (x := "len") (y := "at") (ev_ixc 0 (ev_var rfl) rfl) ev_str) (fun _ => ?_) (fun h => absurd h (by decide +kernel)))
    exact evs_ret (ev_keepD (K := K) (ds := []) (ev_lstD (K := K) (ds := []) evAD_nil))
  | nil =>
    refine evs_seq (evs_if (evT_str (x := "nil") (y := "call") (ev_ixc 0 (ev_var rfl) rfl) ev_str) (fun h => absurd h (by decide +kernel)) (fun _ => evs_next)) ?_
    refine evs_seq (evs_if (evT_inS (x := "nil") (ws := ["head", "tail"]) (ev_ixc 0 (ev_var rfl) rfl) ht) (fun h => absurd h (by decide +kernel)) (fun _ => evs_next)) ?_
    refine evs_seqR (evs_if (evT_strNe (x := "nil") (y := "at") (ev_ixc 0 (ev_var rfl) rfl) ev_str) (fun _ => ?_) (fun h => absurd h (by decide +kernel)))
    exact evs_ret (ev_keepD (K := K) (ds := []) (ev_lstD (K := K) (ds := []) evAD_nil))
  | put x l =>
    refine evs_seq (evs_if (evT_str (x := "put") (y := "call") (ev_ixc 0 (ev_var rfl) rfl) ev_str) (fun h => absurd h (by decide +kernel)) (fun _ => evs_next)) ?_
    refine evs_seq (evs_if (evT_inS (x := "put") (ws := ["head", "tail"]) (ev_ixc 0 (ev_var rfl) rfl) ht) (fun h => absurd h (by decide +kernel)) (fun _ => evs_next)) ?_
    refine evs_seqR (evs_if (evT_strNe (x := "put") (y := "at") (ev_ixc 0 (ev_var rfl) rfl) ev_str) (fun _ => ?_) (fun h => absurd h (by decide +kernel)))
    exact evs_ret (ev_keepD (K := K) (ds := []) (ev_lstD (K := K) (ds := []) evAD_nil))
  | ask =>
    refine evs_seq (evs_if (evT_str (x := "ask") (y := "call") (ev_ixc 0 (ev_var rfl) rfl) ev_str) (fun h => absurd h (by decide +kernel)) (fun _ => evs_next)) ?_
    refine evs_seq (evs_if (evT_inS (x := "ask") (ws := ["head", "tail"]) (ev_ixc 0 (ev_var rfl) rfl) ht) (fun h => absurd h (by decide +kernel)) (fun _ => evs_next)) ?_
    refine evs_seqR (evs_if (evT_strNe (x := "ask") (y := "at") (ev_ixc 0 (ev_var rfl) rfl) ev_str) (fun _ => ?_) (fun h => absurd h (by decide +kernel)))
    exact evs_ret (ev_keepD (K := K) (ds := []) (ev_lstD (K := K) (ds := []) evAD_nil))
end
end Cs
namespace Cs
open PySem PySem.Spec L2
/-! ## what a let tells, by the law's own walk -/
def Wy.letsL (y : Wy) (x : Str) (d : Dd) (k : Kd) : Wy := match d.opened y with
  | some z => { y with meant := y.meant ++ [(x, z)] }
  | none => { names := y.names ++ [(x, k)], known := y.known ++ toldD x y.made d, made := d.mades y x, meant := y.meant ++ [(x, x)] }
theorem letsL_none {y : Wy} {x : Str} {d : Dd} {k : Kd} (h : d.opened y = none) : y.letsL x d k = { names := y.names ++ [(x, k)], known := y.known ++ toldD x y.made d, made := d.mades y x, meant := y.meant ++ [(x, x)] } := by
  unfold Wy.letsL
  rw [h]
theorem letsL_some {y : Wy} {x : Str} {d : Dd} {k : Kd} {z : Str} (h : d.opened y = some z) : y.letsL x d k = { y with meant := y.meant ++ [(x, z)] } := by
  unfold Wy.letsL
  rw [h]
section
variable {P : Program} {w : World} {K : PySem.W.Frag} {mg : Str → Option Value} {base : Heap} {A : Adr}
def setH (K : PySem.W.Frag) (W : Wo) (ln lk lm lr : Addr) (y : Wy) : Wo := (((W.put ln (.lst ((y.names.map prD).map (dat K)))).put lk (.lst (y.known.map (dat K)))).put lm (.dct (madeK K y.made))).put lr (.dct (meantK K y.meant))
/-- where the walk stands, all else as in W -/
structure HF (K : PySem.W.Frag) (W W1 : Wo) (ha ln lk lm lr : Addr) (y : Wy) : Prop where
  h : HereW K W1 ha ln lk lm lr y
  f : ∀ l, l ∉ [ln, lk, lm, lr] → W1 l = W l
section
variable {W W1 : Wo} {ha ln lk lm lr : Addr} {y : Wy}
theorem HereW.ne (h : HereW K W ha ln lk lm lr y) : (ha ≠ ln ∧ ha ≠ lk ∧ ha ≠ lm ∧ ha ≠ lr) ∧ (ln ≠ lk ∧ ln ≠ lm ∧ ln ≠ lr) ∧ (lk ≠ lm ∧ lk ≠ lr) ∧ lm ≠ lr := by
  have := h.nd
  simp only [List.nodup_cons, List.mem_cons, List.not_mem_nil, or_false, not_or] at this
  exact ⟨this.1, this.2.1, this.2.2.1, this.2.2.2.1⟩
theorem HF.start (h : HereW K W ha ln lk lm lr y) : HF K W W ha ln lk lm lr y := ⟨h, fun _ _ => rfl⟩
theorem HF.names (h : HF K W W1 ha ln lk lm lr y) (ns : Nm) : HF K W (W1.put ln (.lst ((ns.map prD).map (dat K)))) ha ln lk lm lr { y with names := ns } := by
  obtain ⟨⟨a1, a2, a3, a4⟩, ⟨b1, b2, b3⟩, ⟨c1, c2⟩, d1⟩ := h.h.ne
  exact ⟨⟨by rw [Wo.ne a1]; exact h.h.hh, Wo.same, by rw [Wo.ne b1.symm]; exact h.h.hk, by rw [Wo.ne b2.symm]; exact h.h.hm, by rw [Wo.ne b3.symm]; exact h.h.hr, h.h.nd⟩, fun l hl => by rw [Wo.ne (fun z => hl (by rw [z]; simp))]; exact h.f l hl⟩
theorem HF.known (h : HF K W W1 ha ln lk lm lr y) (ks : List PyData) : HF K W (W1.put lk (.lst (ks.map (dat K)))) ha ln lk lm lr { y with known := ks } := by
  obtain ⟨⟨a1, a2, a3, a4⟩, ⟨b1, b2, b3⟩, ⟨c1, c2⟩, d1⟩ := h.h.ne
  exact ⟨⟨by rw [Wo.ne a2]; exact h.h.hh, by rw [Wo.ne b1]; exact h.h.hn, Wo.same, by rw [Wo.ne c1.symm]; exact h.h.hm, by rw [Wo.ne c2.symm]; exact h.h.hr, h.h.nd⟩, fun l hl => by rw [Wo.ne (fun z => hl (by rw [z]; simp))]; exact h.f l hl⟩
theorem HF.made (h : HF K W W1 ha ln lk lm lr y) (m : List (Str × Str × Str)) : HF K W (W1.put lm (.dct (madeK K m))) ha ln lk lm lr { y with made := m } := by
  obtain ⟨⟨a1, a2, a3, a4⟩, ⟨b1, b2, b3⟩, ⟨c1, c2⟩, d1⟩ := h.h.ne
  exact ⟨⟨by rw [Wo.ne a3]; exact h.h.hh, by rw [Wo.ne b2]; exact h.h.hn, by rw [Wo.ne c1]; exact h.h.hk, Wo.same, by rw [Wo.ne d1.symm]; exact h.h.hr, h.h.nd⟩, fun l hl => by rw [Wo.ne (fun z => hl (by rw [z]; simp))]; exact h.f l hl⟩
theorem HF.root (h : HF K W W1 ha ln lk lm lr y) (m : List (Str × Str)) : HF K W (W1.put lr (.dct (meantK K m))) ha ln lk lm lr { y with meant := m } := by
  obtain ⟨⟨a1, a2, a3, a4⟩, ⟨b1, b2, b3⟩, ⟨c1, c2⟩, d1⟩ := h.h.ne
  exact ⟨⟨by rw [Wo.ne a4]; exact h.h.hh, by rw [Wo.ne b3]; exact h.h.hn, by rw [Wo.ne c2]; exact h.h.hk, by rw [Wo.ne d1]; exact h.h.hm, Wo.same, h.h.nd⟩, fun l hl => by rw [Wo.ne (fun z => hl (by rw [z]; simp))]; exact h.f l hl⟩
theorem HF.set (h : HF K W W1 ha ln lk lm lr y) : ∀ l o, setH K W ln lk lm lr y l = some o → W1 l = some o := fun l o hl => by
  unfold setH at hl
  by_cases c1 : l = lr
  · subst c1
    rw [Wo.same] at hl
    rw [h.h.hr]
    exact hl
  rw [Wo.ne c1] at hl
  by_cases c2 : l = lm
  · subst c2
    rw [Wo.same] at hl
    rw [h.h.hm]
    exact hl
  rw [Wo.ne c2] at hl
  by_cases c3 : l = lk
  · subst c3
    rw [Wo.same] at hl
    rw [h.h.hk]
    exact hl
  rw [Wo.ne c3] at hl
  by_cases c4 : l = ln
  · subst c4
    rw [Wo.same] at hl
    rw [h.h.hn]
    exact hl
  rw [Wo.ne c4] at hl
  rw [h.f l (by simp [c1, c2, c3, c4])]
  exact hl
theorem setH_here (h : HereW K W ha ln lk lm lr y) (z : Wy) : HereW K (setH K W ln lk lm lr z) ha ln lk lm lr z := by
  obtain ⟨⟨a1, a2, a3, a4⟩, ⟨b1, b2, b3⟩, ⟨c1, c2⟩, d1⟩ := h.ne
  unfold setH
  exact ⟨by rw [Wo.ne a4, Wo.ne a3, Wo.ne a2, Wo.ne a1]; exact h.hh, by rw [Wo.ne b3, Wo.ne b2, Wo.ne b1, Wo.same], by rw [Wo.ne c2, Wo.ne c1, Wo.same], by rw [Wo.ne d1, Wo.same], Wo.same, h.nd⟩
theorem setH_out {z : Wy} {l : Addr} (h : l ∉ [ln, lk, lm, lr]) : setH K W ln lk lm lr z l = W l := by
  simp only [List.mem_cons, List.not_mem_nil, or_false, not_or] at h
  unfold setH
  rw [Wo.ne h.2.2.2, Wo.ne h.2.2.1, Wo.ne h.2.1, Wo.ne h.1]
end
theorem nm_snoc (ns : Nm) (x : Str) (k : Kd) : (ns.map prD ++ [prD (x, k)]).map (dat K) = ((ns ++ [(x, k)]).map prD).map (dat K) := by simp only [List.map_append, List.map_cons, List.map_nil]
theorem root_new {m : List (Str × Str)} {x z : Str} (h : m.lookup x = none) : putA (meantK K m) (.inr x) (dat K (.str z)) = meantK K (m ++ [(x, z)]) := by
  rw [val_new (by rw [meant_val, h]; rfl)]
  unfold meantK
  rw [List.map_append]
  rfl
theorem made_new {m : List (Str × Str × Str)} {x a b : Str} (h : m.lookup x = none) : putA (madeK K m) (.inr x) (dat K (strsD [a, b])) = madeK K (m ++ [(x, a, b)]) := by
  rw [val_new (by rw [made_val, h]; rfl)]
  unfold madeK
  rw [List.map_append]
  rfl
theorem lookup_old {β : Type} : ∀ {m l : List (Str × β)} {z : Str} {u : β}, m.lookup z = some u → (m ++ l).lookup z = some u
  | [], _, _, _, h => nomatch h
  | (a, b) :: m, l, z, u, h => by
    rw [List.cons_append]
    rw [List.lookup_cons] at h ⊢
    cases e : (z == a) with
    | true => rw [e] at h; exact h
    | false => rw [e] at h; exact lookup_old h
theorem stands_snoc {y : Wy} {x z : Str} (h : Stands y z) : Stands { y with meant := y.meant ++ [(x, x)] } z ∧ Wy.mo { y with meant := y.meant ++ [(x, x)] } z = y.mo z := by
  obtain ⟨u, e⟩ := h
  have e2 : (y.meant ++ [(x, x)]).lookup z = some u := lookup_old e
  refine ⟨⟨u, e2⟩, ?_⟩
  unfold Wy.mo
  rw [e, e2]
def RwLets (K : PySem.W.Frag) : List AV → Wo → Rs → Wo → Prop := fun as W r W1 => ∃ (fs : List Fn) (x : Str) (d : Dd) (k : Kd) (y : Wy) (ha ln lk lm lr : Addr), as = [dat K (pgD fs), dat K (.str x), dat K d.d, eqA (.ref ha)] ∧ HereW K W ha ln lk lm lr y ∧ d.std y ∧ d.kd fs = some k ∧ LetOk y x ∧ r = .fz (dat K .none) ∧ W1 = setH K W ln lk lm lr (y.letsL x (d.mn y.mo) k)
theorem len_wle : ∀ as W r W1, RwLets K as W r W1 → as.length = 4 := fun as W r W1 ⟨_, _, _, _, _, _, _, _, _, _, e, _⟩ => by rw [e]; rfl
theorem HF.to {W W1 : Wo} {ha ln lk lm lr : Addr} {y z : Wy} {n : Nat} {ts : TS} {E E1 : En} {W0 : Wo} (h : HF K W W1 ha ln lk lm lr y) (e : y = z) (hs : EvS n W0 ts E (.nx E1 W1)) : EvS n W0 ts E (.nx E1 (setH K W ln lk lm lr z)) := evs_weakW hs (by rw [← e]; exact h.set)
theorem ok_w_lets (T : Tx K w mg A) : FnOk P w K mg base CX0 1 A.f_w_lets A.fd_w_lets P_w_lets (spM (RwLets K)) := by
  refine T.F_w_lets.ok sc_w_lets (fun vs H Q E h => spM_len len_wle h) (fun cdv AA outer s H vs Q E hr h => ?_)
  refine ⟨_, (pss_cons (ps_asg (pe_tup (pa_cons (pe_ix ix_tup (pv 2) pe_int (fun _ _ => rfl)) (pa_cons (pe_dget (hu_of hr) (pv 3) pe_str (fun _ _ => rfl)) (pa_cons (pe_dget (hu_of hr) (pv 3) pe_str (fun _ _ => rfl)) pa_nil)))) (pg_tup (by rfl) (pgs_cons (pg_name (i := 4) sc_w_lets.nd rfl (.inl rfl)) (pgs_cons (pg_name (i := 5) sc_w_lets.nd rfl (.inr rfl)) (pgs_cons (pg_name (i := 6) sc_w_lets.nd rfl (.inl rfl)) pgs_nil)))))
  (pss_cons (ps_set (i := 7) sc_w_lets.nd rfl (.inl rfl) (pe_ifExp (pt_cmpR op_in_seq (pv 4) (pe_tup (pa_cons pe_str (pa_cons pe_str (pa_cons pe_str (pa_cons pe_str (pa_cons pe_str (pa_cons pe_str pa_nil))))))) (by rfl)) (pe_dget (hu_of hr) (pv 5) (pe_ix ix_tup (pv 2) pe_int (fun _ _ => rfl)) (fun _ _ => rfl)) pe_non))
  (pss_cons (ps_if (PW.pt (pw_and (pt_cmpR op_in_seq (pv 4) (pe_tup (pa_cons pe_str (pa_cons pe_str pa_nil))) (by rfl)) (pw_and1 (pt_cmp (pc_din (hu_of hr) (pv 7) (pe_dget (hu_of hr) (pv 3) pe_str (fun _ _ => rfl)))))))
  (pss_cons (ps_dput (hu_of hr) (pv 5) (pv 1) (pe_ix ix_tup (pe_dget (hu_of hr) (pe_dget (hu_of hr) (pv 3) pe_str (fun _ _ => rfl)) (pv 7) (fun _ _ => rfl)) (pe_bm PySem.F.plainAttrs_list PySem.F.slot_list_index PySem.F.type_list_index mt_index (pe_lst (pa_cons pe_str (pa_cons pe_str pa_nil))) (pa_cons (pv 4) pa_nil)) (fun _ _ => rfl)) rfl)
  (pss_one ps_retN))
  pss_nil)
  (pss_cons (ps_set (i := 8) sc_w_lets.nd rfl (.inl rfl) (pe_ifExp (pt_cmpR op_in_seq (pv 4) (pe_tup (pa_cons pe_str (pa_cons pe_str (pa_cons pe_str pa_nil)))) (by rfl)) pe_str pe_str))
  (pss_cons (ps_expr (pe_bm PySem.F.plainAttrs_list PySem.F.slot_list_append PySem.F.type_list_append mt_append (pe_dget (hu_of hr) (pv 3) pe_str (fun _ _ => rfl)) (pa_cons (pe_tup (pa_cons (pv 1) (pa_cons (pe_ifExp (pt_cmpR op_eq (pv 4) pe_str (nomark _)) (pe_ix ix_tup (pe_ix ix_tup (pv 0) (pe_ix ix_tup (pv 2) pe_int (fun _ _ => rfl)) (fun _ _ => rfl)) pe_int (fun _ _ => rfl)) (pv 8)) pa_nil))) pa_nil)))
  (pss_cons (ps_dput (hu_of hr) (pv 5) (pv 1) (pv 1) rfl)
  (pss_cons (ps_if (pt_cmpR op_eq (pv 4) pe_str (nomark _))
  (pss_one (ps_expr (pe_bm PySem.F.plainAttrs_list PySem.F.slot_list_append PySem.F.type_list_append mt_append (pv 6) (pa_cons (pe_tup (pa_cons pe_str (pa_cons (pe_ix ix_tup (pv 2) pe_int (fun _ _ => rfl)) (pa_cons (pe_callTy cr_tupF (by rfl) T.n_tuple (by decide +kernel) (pa_cons (pe_lc (own := [("_law_one", 11)]) (g := (gName 11)) (tt := tYes) (te := (tDGet (tVar 5) (tVar 11))) rfl sc_w_lets.nd (pi_tup (pe_ix ix_tup (pv 2) pe_int (fun _ _ => rfl))) (blkOk_by (N := N_w_lets) (sc := defScope s_w_lets) (by decide +kernel)) (fun _ _ _ _ _ => (pg_name (i := 11) sc_w_lets.nd rfl (.inl rfl))) (fun _ _ _ _ _ => pts_nil) (fun _ _ _ _ _ => (pe_dget (hu_of hr) (pv 5) (pv 11) (fun _ _ => rfl)))) pa_nil)) (pa_cons (pv 1) pa_nil))))) pa_nil))))
  pss_nil)
  (pss_cons (ps_if (pt_cmpR op_eq (pv 4) pe_str (nomark _))
  (pss_cons (ps_dput (hu_of hr) (pe_dget (hu_of hr) (pv 3) pe_str (fun _ _ => rfl)) (pv 1) (pe_tup (pa_cons (pv 7) (pa_cons (pe_dget (hu_of hr) (pv 5) (pe_ix ix_tup (pv 2) pe_int (fun _ _ => rfl)) (fun _ _ => rfl)) pa_nil))) rfl)
  (pss_one (ps_expr (pe_bm PySem.F.plainAttrs_list PySem.F.slot_list_append PySem.F.type_list_append mt_append (pv 6) (pa_cons (pe_tup (pa_cons pe_str (pa_cons (pv 1) (pa_cons (pv 7) (pa_cons (pe_dget (hu_of hr) (pv 5) (pe_ix ix_tup (pv 2) pe_int (fun _ _ => rfl)) (fun _ _ => rfl)) pa_nil))))) pa_nil)))))
  pss_nil)
  (pss_cons (ps_if (pt_cmpR op_eq (pv 4) pe_str (nomark _))
  (pss_one (ps_expr (pe_bm PySem.F.plainAttrs_list PySem.F.slot_list_append PySem.F.type_list_append mt_append (pv 6) (pa_cons (pe_tup (pa_cons pe_str (pa_cons (pv 1) pa_nil))) pa_nil))))
  pss_nil)
  (pss_cons (ps_if (PW.pt (pw_and (pt_cmpR op_in_seq (pv 4) (pe_tup (pa_cons pe_str (pa_cons pe_str (pa_cons pe_str pa_nil)))) (by rfl)) (pw_and1 (pt_cmp (pc_dnotin (hu_of hr) (pv 7) (pe_dget (hu_of hr) (pv 3) pe_str (fun _ _ => rfl)))))))
  (pss_one (ps_expr (pe_bm PySem.F.plainAttrs_list PySem.F.slot_list_append PySem.F.type_list_append mt_append (pv 6) (pa_cons (pe_tup (pa_cons (pe_ifExp (pt_cmpR op_eq (pv 4) pe_str (nomark _)) pe_str pe_str) (pa_cons (pv 1) (pa_cons (pv 7) pa_nil)))) pa_nil))))
  pss_nil)
  (pss_one (ps_if (pt_cmpR op_in_seq (pv 4) (pe_tup (pa_cons pe_str (pa_cons pe_str (pa_cons pe_str pa_nil)))) (by rfl))
  (pss_cons (ps_set (i := 9) sc_w_lets.nd rfl (.inl rfl) (pe_dget (hu_of hr) (pe_disp (pps_cons pe_str (pe_tup pa_nil) (pps_cons pe_str (pe_tup (pa_cons pe_str (pa_cons (pv 7) pa_nil))) (pps_cons pe_str (pe_tup (pa_cons pe_str (pa_cons (pv 7) pa_nil))) pps_nil))) (by rfl) (by rfl) (fun z => by cases z) (by decide)) (pv 4) (fun _ _ => rfl)))
  (pss_cons (ps_set (i := 10) sc_w_lets.nd rfl (.inl rfl) (pe_ifExp (pt_cmpR op_ne (pv 4) pe_str (nomark _)) (pe_ix ix_tup (pv 2) (pe_un un_neg pe_int) (fun _ _ => rfl)) pe_int))
  (pss_one (ps_expr (pe_bm PySem.F.plainAttrs_list PySem.F.slot_list_extend PySem.F.type_list_extend mt_extend (pv 6) (pa_cons (pe_lst (pa_cons (pe_tup (pa_cons pe_str (pa_cons (pe_tup (pa_cons pe_str (pa_cons (pv 1) pa_nil))) (pa_cons (pv 9) (pa_cons (pv 10) pa_nil))))) (pa_cons (pe_tup (pa_cons pe_str (pa_cons (pv 9) (pa_cons (pe_tup (pa_cons pe_str (pa_cons (pv 1) pa_nil))) (pa_cons (pe_op op_sub pe_int (pv 10)) pa_nil))))) pa_nil))) pa_nil))))))
  pss_nil)))))))))))), ?_⟩
  refine fn_goME (K := K) len_wle rfl (fun as W r W1 ⟨fs, x, d, k, y, ha, ln, lk, lm, lr, e1, hW, hd, hk, ok, e2, e3⟩ => ?_) h (fun σ H h => h) rfl
  subst e1 e2 e3
  refine ⟨rfl, ?_⟩
  have h0 := HF.start hW
  have nb : (y.names.map prD).length < 1000000 := by rw [List.length_map]; have := ok.few4; omega
  have kb : y.known.length < 1000000 := by have := ok.few3; omega
  have mb : (meantK K y.meant).length < 1000000 := by unfold meantK; rw [List.length_map]; have := ok.few1; omega
  have db : (madeK K y.made).length < 1000000 := by unfold madeK; rw [List.length_map]; have := ok.few2; omega
  cases d with
  | num m =>
    cases hk
    refine .inl ?_
    apply Exists.intro
    refine evs_seq (evs_asg (vs := [4, 5, 6]) (ev_tup (K := K) (as := [dat K (.str "num"), eqA (.ref lr), eqA (.ref lk)]) (evA_cons (ev_ixc 0 (ev_var rfl) rfl) (evA_cons (h_root hW (ev_var rfl)) (evA_cons (h_known hW (ev_var rfl)) evA_nil)))) (evg_tup (K := K) (as := [dat K (.str "num"), eqA (.ref lr), eqA (.ref lk)]) (.cons evg_name (.cons evg_name (.cons evg_name .nil))))) ?_
    refine evs_seq (evs_set (ev_ifE (evT_inS (x := "num") (ws := ["head", "tail", "at", "len", "sum", "put"]) (ev_var rfl) (ev_tupD (K := K) (ds := [.str "head", .str "tail", .str "at", .str "len", .str "sum", .str "put"]) (evAD_cons ev_str (evAD_cons ev_str (evAD_cons ev_str (evAD_cons ev_str (evAD_cons ev_str (evAD_cons ev_str evAD_nil)))))))) (fun h => absurd h (by decide +kernel)) (fun _ => ev_non (K := K)))) ?_
    refine evs_seq (evs_if (evT_and (evT_inS (x := "num") (ws := ["head", "tail"]) (ev_var rfl) (ev_tupD (K := K) (ds := [.str "head", .str "tail"]) (evAD_cons ev_str (evAD_cons ev_str evAD_nil)))) (c := false) (fun h => absurd h (by decide +kernel))) (fun h => absurd h (by decide +kernel)) (fun _ => evs_next)) ?_
    refine evs_seq (evs_set (r := .fz (dat K (.str "number"))) (ev_ifE (evT_inS (x := "num") (ws := ["nil", "put", "tail"]) (ev_var rfl) (ev_tupD (K := K) (ds := [.str "nil", .str "put", .str "tail"]) (evAD_cons ev_str (evAD_cons ev_str (evAD_cons ev_str evAD_nil))))) (fun h => absurd h (by decide +kernel)) (fun _ => ev_str))) ?_
    refine evs_seq (evs_appendWD (ds := y.names.map prD) (d := prD (x, Kd.num)) (h_names hW (ev_var rfl)) hW.hn (ev_tupD (K := K) (evAD_cons (ev_var rfl) (evAD_cons (ev_ifE (evT_str (x := "num") (y := "call") (ev_var rfl) ev_str) (fun h => absurd h (by decide +kernel)) (fun _ => ev_var rfl)) evAD_nil))) nb) ?_
    rw [nm_snoc]
    have h1 := h0.names (y.names ++ [(x, Kd.num)])
    refine evs_seq (evs_dputW (K := K) (ev_var rfl) (ev_var rfl) h1.h.hr (ev_var rfl) mb) ?_
    rw [root_new ok.meant]
    have h2 := h1.root (y.meant ++ [(x, x)])
    refine evs_seq (evs_if (evT_str (x := "num") (y := "call") (ev_var rfl) ev_str) (fun h => absurd h (by decide +kernel)) (fun _ => evs_next)) ?_
    refine evs_seq (evs_if (evT_str (x := "num") (y := "put") (ev_var rfl) ev_str) (fun h => absurd h (by decide +kernel)) (fun _ => evs_next)) ?_
    refine evs_seq (evs_if (evT_str (x := "num") (y := "nil") (ev_var rfl) ev_str) (fun h => absurd h (by decide +kernel)) (fun _ => evs_next)) ?_
    refine evs_seq (evs_if (evT_and (evT_inS (x := "num") (ws := ["head", "at", "tail"]) (ev_var rfl) (ev_tupD (K := K) (ds := [.str "head", .str "at", .str "tail"]) (evAD_cons ev_str (evAD_cons ev_str (evAD_cons ev_str evAD_nil))))) (c := false) (fun h => absurd h (by decide +kernel))) (fun h => absurd h (by decide +kernel)) (fun _ => evs_next)) ?_
    refine (h2.known (y.known ++ two x (.tuple []) m)).to (by rw [letsL_none rfl]; rfl) (evs_if (evT_inS (x := "num") (ws := ["num", "sum", "len"]) (ev_var rfl) (ev_tupD (K := K) (ds := [.str "num", .str "sum", .str "len"]) (evAD_cons ev_str (evAD_cons ev_str (evAD_cons ev_str evAD_nil))))) (fun _ => evs_seq (evs_set (r := .fz (dat K (.tuple []))) (ev_disp3 (K := K) (a1 := .tuple []) (a2 := .tuple [.str "of", .none]) (a3 := .tuple [.str "len", .none]) (x := "num") (ev_tupD evAD_nil) (ev_tupD (K := K) (evAD_cons ev_str (evAD_cons (ev_var rfl) evAD_nil))) (ev_tupD (K := K) (evAD_cons ev_str (evAD_cons (ev_var rfl) evAD_nil))) (ev_var rfl) rfl)) (evs_seq (evs_set (r := .fz (dat K (.int m))) (ev_ifE (evT_strNe (x := "num") (y := "len") (ev_var rfl) ev_str) (fun _ => (ev_ixTneg (K := K) (ds := [.str "num", .int m]) (d := .int m) (ev_var rfl) rfl)) (fun h => absurd h (by decide +kernel)))) (evs_extendWD (ds := y.known) (es := two x (.tuple []) m) (ev_var rfl) h2.h.hk (ev_lstD (K := K) (evAD_cons (ev_tupD (K := K) (evAD_cons ev_str (evAD_cons (ev_tupD (K := K) (evAD_cons ev_str (evAD_cons (ev_var rfl) evAD_nil))) (evAD_cons (ev_var rfl) (evAD_cons (ev_var rfl) evAD_nil))))) (evAD_cons (ev_tupD (K := K) (evAD_cons ev_str (evAD_cons (ev_var rfl) (evAD_cons (ev_tupD (K := K) (evAD_cons ev_str (evAD_cons (ev_var rfl) evAD_nil))) (evAD_cons (ev_zeroSub (ev_var rfl)) evAD_nil))))) evAD_nil))) (by show y.known.length + 2 ≤ _; have := ok.few3; omega)))) (fun h => absurd h (by decide +kernel)))
  | sum z m =>
    cases hk
    refine .inl ?_
    apply Exists.intro
    refine evs_seq (evs_asg (vs := [4, 5, 6]) (ev_tup (K := K) (as := [dat K (.str "sum"), eqA (.ref lr), eqA (.ref lk)]) (evA_cons (ev_ixc 0 (ev_var rfl) rfl) (evA_cons (h_root hW (ev_var rfl)) (evA_cons (h_known hW (ev_var rfl)) evA_nil)))) (evg_tup (K := K) (as := [dat K (.str "sum"), eqA (.ref lr), eqA (.ref lk)]) (.cons evg_name (.cons evg_name (.cons evg_name .nil))))) ?_
    refine evs_seq (evs_set (ev_ifE (evT_inS (x := "sum") (ws := ["head", "tail", "at", "len", "sum", "put"]) (ev_var rfl) (ev_tupD (K := K) (ds := [.str "head", .str "tail", .str "at", .str "len", .str "sum", .str "put"]) (evAD_cons ev_str (evAD_cons ev_str (evAD_cons ev_str (evAD_cons ev_str (evAD_cons ev_str (evAD_cons ev_str evAD_nil)))))))) (fun _ => root_get hW (ev_var rfl) (ev_ixc (K := K) 1 (ds := [.str "sum", .str z, .int m]) (ev_var rfl) rfl) hd) (fun h => absurd h (by decide +kernel)))) ?_
    refine evs_seq (evs_if (evT_and (evT_inS (x := "sum") (ws := ["head", "tail"]) (ev_var rfl) (ev_tupD (K := K) (ds := [.str "head", .str "tail"]) (evAD_cons ev_str (evAD_cons ev_str evAD_nil)))) (c := false) (fun h => absurd h (by decide +kernel))) (fun h => absurd h (by decide +kernel)) (fun _ => evs_next)) ?_
    refine evs_seq (evs_set (r := .fz (dat K (.str "number"))) (ev_ifE (evT_inS (x := "sum") (ws := ["nil", "put", "tail"]) (ev_var rfl) (ev_tupD (K := K) (ds := [.str "nil", .str "put", .str "tail"]) (evAD_cons ev_str (evAD_cons ev_str (evAD_cons ev_str evAD_nil))))) (fun h => absurd h (by decide +kernel)) (fun _ => ev_str))) ?_
    refine evs_seq (evs_appendWD (ds := y.names.map prD) (d := prD (x, Kd.num)) (h_names hW (ev_var rfl)) hW.hn (ev_tupD (K := K) (evAD_cons (ev_var rfl) (evAD_cons (ev_ifE (evT_str (x := "sum") (y := "call") (ev_var rfl) ev_str) (fun h => absurd h (by decide +kernel)) (fun _ => ev_var rfl)) evAD_nil))) nb) ?_
    rw [nm_snoc]
    have h1 := h0.names (y.names ++ [(x, Kd.num)])
    refine evs_seq (evs_dputW (K := K) (ev_var rfl) (ev_var rfl) h1.h.hr (ev_var rfl) mb) ?_
    rw [root_new ok.meant]
    have h2 := h1.root (y.meant ++ [(x, x)])
    refine evs_seq (evs_if (evT_str (x := "sum") (y := "call") (ev_var rfl) ev_str) (fun h => absurd h (by decide +kernel)) (fun _ => evs_next)) ?_
    refine evs_seq (evs_if (evT_str (x := "sum") (y := "put") (ev_var rfl) ev_str) (fun h => absurd h (by decide +kernel)) (fun _ => evs_next)) ?_
    refine evs_seq (evs_if (evT_str (x := "sum") (y := "nil") (ev_var rfl) ev_str) (fun h => absurd h (by decide +kernel)) (fun _ => evs_next)) ?_
    refine evs_seq (evs_if (evT_and (evT_inS (x := "sum") (ws := ["head", "at", "tail"]) (ev_var rfl) (ev_tupD (K := K) (ds := [.str "head", .str "at", .str "tail"]) (evAD_cons ev_str (evAD_cons ev_str (evAD_cons ev_str evAD_nil))))) (c := false) (fun h => absurd h (by decide +kernel))) (fun h => absurd h (by decide +kernel)) (fun _ => evs_next)) ?_
    refine (h2.known (y.known ++ two x (ofD (y.mo z)) m)).to (by rw [letsL_none rfl]; rfl) (evs_if (evT_inS (x := "sum") (ws := ["num", "sum", "len"]) (ev_var rfl) (ev_tupD (K := K) (ds := [.str "num", .str "sum", .str "len"]) (evAD_cons ev_str (evAD_cons ev_str (evAD_cons ev_str evAD_nil))))) (fun _ => evs_seq (evs_set (r := .fz (dat K (ofD (y.mo z)))) (ev_disp3 (K := K) (a1 := .tuple []) (a2 := .tuple [.str "of", .str (y.mo z)]) (a3 := .tuple [.str "len", .str (y.mo z)]) (x := "sum") (ev_tupD evAD_nil) (ev_tupD (K := K) (evAD_cons ev_str (evAD_cons (ev_var rfl) evAD_nil))) (ev_tupD (K := K) (evAD_cons ev_str (evAD_cons (ev_var rfl) evAD_nil))) (ev_var rfl) rfl)) (evs_seq (evs_set (r := .fz (dat K (.int m))) (ev_ifE (evT_strNe (x := "sum") (y := "len") (ev_var rfl) ev_str) (fun _ => (ev_ixTneg (K := K) (ds := [.str "sum", .str z, .int m]) (d := .int m) (ev_var rfl) rfl)) (fun h => absurd h (by decide +kernel)))) (evs_extendWD (ds := y.known) (es := two x (ofD (y.mo z)) m) (ev_var rfl) h2.h.hk (ev_lstD (K := K) (evAD_cons (ev_tupD (K := K) (evAD_cons ev_str (evAD_cons (ev_tupD (K := K) (evAD_cons ev_str (evAD_cons (ev_var rfl) evAD_nil))) (evAD_cons (ev_var rfl) (evAD_cons (ev_var rfl) evAD_nil))))) (evAD_cons (ev_tupD (K := K) (evAD_cons ev_str (evAD_cons (ev_var rfl) (evAD_cons (ev_tupD (K := K) (evAD_cons ev_str (evAD_cons (ev_var rfl) evAD_nil))) (evAD_cons (ev_zeroSub (ev_var rfl)) evAD_nil))))) evAD_nil))) (by show y.known.length + 2 ≤ _; have := ok.few3; omega)))) (fun h => absurd h (by decide +kernel)))
  | len l =>
    cases hk
    refine .inl ?_
    apply Exists.intro
    refine evs_seq (evs_asg (vs := [4, 5, 6]) (ev_tup (K := K) (as := [dat K (.str "len"), eqA (.ref lr), eqA (.ref lk)]) (evA_cons (ev_ixc 0 (ev_var rfl) rfl) (evA_cons (h_root hW (ev_var rfl)) (evA_cons (h_known hW (ev_var rfl)) evA_nil)))) (evg_tup (K := K) (as := [dat K (.str "len"), eqA (.ref lr), eqA (.ref lk)]) (.cons evg_name (.cons evg_name (.cons evg_name .nil))))) ?_
    refine evs_seq (evs_set (ev_ifE (evT_inS (x := "len") (ws := ["head", "tail", "at", "len", "sum", "put"]) (ev_var rfl) (ev_tupD (K := K) (ds := [.str "head", .str "tail", .str "at", .str "len", .str "sum", .str "put"]) (evAD_cons ev_str (evAD_cons ev_str (evAD_cons ev_str (evAD_cons ev_str (evAD_cons ev_str (evAD_cons ev_str evAD_nil)))))))) (fun _ => root_get hW (ev_var rfl) (ev_ixc (K := K) 1 (ds := [.str "len", .str l]) (ev_var rfl) rfl) hd) (fun h => absurd h (by decide +kernel)))) ?_
    refine evs_seq (evs_if (evT_and (evT_inS (x := "len") (ws := ["head", "tail"]) (ev_var rfl) (ev_tupD (K := K) (ds := [.str "head", .str "tail"]) (evAD_cons ev_str (evAD_cons ev_str evAD_nil)))) (c := false) (fun h => absurd h (by decide +kernel))) (fun h => absurd h (by decide +kernel)) (fun _ => evs_next)) ?_
    refine evs_seq (evs_set (r := .fz (dat K (.str "number"))) (ev_ifE (evT_inS (x := "len") (ws := ["nil", "put", "tail"]) (ev_var rfl) (ev_tupD (K := K) (ds := [.str "nil", .str "put", .str "tail"]) (evAD_cons ev_str (evAD_cons ev_str (evAD_cons ev_str evAD_nil))))) (fun h => absurd h (by decide +kernel)) (fun _ => ev_str))) ?_
    refine evs_seq (evs_appendWD (ds := y.names.map prD) (d := prD (x, Kd.num)) (h_names hW (ev_var rfl)) hW.hn (ev_tupD (K := K) (evAD_cons (ev_var rfl) (evAD_cons (ev_ifE (evT_str (x := "len") (y := "call") (ev_var rfl) ev_str) (fun h => absurd h (by decide +kernel)) (fun _ => ev_var rfl)) evAD_nil))) nb) ?_
    rw [nm_snoc]
    have h1 := h0.names (y.names ++ [(x, Kd.num)])
    refine evs_seq (evs_dputW (K := K) (ev_var rfl) (ev_var rfl) h1.h.hr (ev_var rfl) mb) ?_
    rw [root_new ok.meant]
    have h2 := h1.root (y.meant ++ [(x, x)])
    refine evs_seq (evs_if (evT_str (x := "len") (y := "call") (ev_var rfl) ev_str) (fun h => absurd h (by decide +kernel)) (fun _ => evs_next)) ?_
    refine evs_seq (evs_if (evT_str (x := "len") (y := "put") (ev_var rfl) ev_str) (fun h => absurd h (by decide +kernel)) (fun _ => evs_next)) ?_
    refine evs_seq (evs_if (evT_str (x := "len") (y := "nil") (ev_var rfl) ev_str) (fun h => absurd h (by decide +kernel)) (fun _ => evs_next)) ?_
    refine evs_seq (evs_if (evT_and (evT_inS (x := "len") (ws := ["head", "at", "tail"]) (ev_var rfl) (ev_tupD (K := K) (ds := [.str "head", .str "at", .str "tail"]) (evAD_cons ev_str (evAD_cons ev_str (evAD_cons ev_str evAD_nil))))) (c := false) (fun h => absurd h (by decide +kernel))) (fun h => absurd h (by decide +kernel)) (fun _ => evs_next)) ?_
    refine (h2.known (y.known ++ two x (lenD (y.mo l)) 0)).to (by rw [letsL_none rfl]; rfl) (evs_if (evT_inS (x := "len") (ws := ["num", "sum", "len"]) (ev_var rfl) (ev_tupD (K := K) (ds := [.str "num", .str "sum", .str "len"]) (evAD_cons ev_str (evAD_cons ev_str (evAD_cons ev_str evAD_nil))))) (fun _ => evs_seq (evs_set (r := .fz (dat K (lenD (y.mo l)))) (ev_disp3 (K := K) (a1 := .tuple []) (a2 := .tuple [.str "of", .str (y.mo l)]) (a3 := .tuple [.str "len", .str (y.mo l)]) (x := "len") (ev_tupD evAD_nil) (ev_tupD (K := K) (evAD_cons ev_str (evAD_cons (ev_var rfl) evAD_nil))) (ev_tupD (K := K) (evAD_cons ev_str (evAD_cons (ev_var rfl) evAD_nil))) (ev_var rfl) rfl)) (evs_seq (evs_set (r := .fz (dat K (.int 0))) (ev_ifE (evT_strNe (x := "len") (y := "len") (ev_var rfl) ev_str) (fun h => absurd h (by decide +kernel)) (fun _ => ev_int))) (evs_extendWD (ds := y.known) (es := two x (lenD (y.mo l)) 0) (ev_var rfl) h2.h.hk (ev_lstD (K := K) (evAD_cons (ev_tupD (K := K) (evAD_cons ev_str (evAD_cons (ev_tupD (K := K) (evAD_cons ev_str (evAD_cons (ev_var rfl) evAD_nil))) (evAD_cons (ev_var rfl) (evAD_cons (ev_var rfl) evAD_nil))))) (evAD_cons (ev_tupD (K := K) (evAD_cons ev_str (evAD_cons (ev_var rfl) (evAD_cons (ev_tupD (K := K) (evAD_cons ev_str (evAD_cons (ev_var rfl) evAD_nil))) (evAD_cons (ev_zeroSub (ev_var rfl)) evAD_nil))))) evAD_nil))) (by show y.known.length + 2 ≤ _; have := ok.few3; omega)))) (fun h => absurd h (by decide +kernel)))
  | nil =>
    cases hk
    refine .inl ?_
    apply Exists.intro
    refine evs_seq (evs_asg (vs := [4, 5, 6]) (ev_tup (K := K) (as := [dat K (.str "nil"), eqA (.ref lr), eqA (.ref lk)]) (evA_cons (ev_ixc 0 (ev_var rfl) rfl) (evA_cons (h_root hW (ev_var rfl)) (evA_cons (h_known hW (ev_var rfl)) evA_nil)))) (evg_tup (K := K) (as := [dat K (.str "nil"), eqA (.ref lr), eqA (.ref lk)]) (.cons evg_name (.cons evg_name (.cons evg_name .nil))))) ?_
    refine evs_seq (evs_set (ev_ifE (evT_inS (x := "nil") (ws := ["head", "tail", "at", "len", "sum", "put"]) (ev_var rfl) (ev_tupD (K := K) (ds := [.str "head", .str "tail", .str "at", .str "len", .str "sum", .str "put"]) (evAD_cons ev_str (evAD_cons ev_str (evAD_cons ev_str (evAD_cons ev_str (evAD_cons ev_str (evAD_cons ev_str evAD_nil)))))))) (fun h => absurd h (by decide +kernel)) (fun _ => ev_non (K := K)))) ?_
    refine evs_seq (evs_if (evT_and (evT_inS (x := "nil") (ws := ["head", "tail"]) (ev_var rfl) (ev_tupD (K := K) (ds := [.str "head", .str "tail"]) (evAD_cons ev_str (evAD_cons ev_str evAD_nil)))) (c := false) (fun h => absurd h (by decide +kernel))) (fun h => absurd h (by decide +kernel)) (fun _ => evs_next)) ?_
    refine evs_seq (evs_set (r := .fz (dat K (.str "list"))) (ev_ifE (evT_inS (x := "nil") (ws := ["nil", "put", "tail"]) (ev_var rfl) (ev_tupD (K := K) (ds := [.str "nil", .str "put", .str "tail"]) (evAD_cons ev_str (evAD_cons ev_str (evAD_cons ev_str evAD_nil))))) (fun _ => ev_str) (fun h => absurd h (by decide +kernel)))) ?_
    refine evs_seq (evs_appendWD (ds := y.names.map prD) (d := prD (x, Kd.lst)) (h_names hW (ev_var rfl)) hW.hn (ev_tupD (K := K) (evAD_cons (ev_var rfl) (evAD_cons (ev_ifE (evT_str (x := "nil") (y := "call") (ev_var rfl) ev_str) (fun h => absurd h (by decide +kernel)) (fun _ => ev_var rfl)) evAD_nil))) nb) ?_
    rw [nm_snoc]
    have h1 := h0.names (y.names ++ [(x, Kd.lst)])
    refine evs_seq (evs_dputW (K := K) (ev_var rfl) (ev_var rfl) h1.h.hr (ev_var rfl) mb) ?_
    rw [root_new ok.meant]
    have h2 := h1.root (y.meant ++ [(x, x)])
    refine evs_seq (evs_if (evT_str (x := "nil") (y := "call") (ev_var rfl) ev_str) (fun h => absurd h (by decide +kernel)) (fun _ => evs_next)) ?_
    refine evs_seq (evs_if (evT_str (x := "nil") (y := "put") (ev_var rfl) ev_str) (fun h => absurd h (by decide +kernel)) (fun _ => evs_next)) ?_
    refine evs_seq (evs_if (evT_str (x := "nil") (y := "nil") (ev_var rfl) ev_str) (fun _ => evs_appendWD (ds := y.known) (d := .tuple [.str "none", .str x]) (ev_var rfl) h2.h.hk (ev_tupD (K := K) (evAD_cons ev_str (evAD_cons (ev_var rfl) evAD_nil))) kb) (fun h => absurd h (by decide +kernel))) ?_
    have h3 := h2.known (y.known ++ [.tuple [.str "none", .str x]])
    refine evs_seq (evs_if (evT_and (evT_inS (x := "nil") (ws := ["head", "at", "tail"]) (ev_var rfl) (ev_tupD (K := K) (ds := [.str "head", .str "at", .str "tail"]) (evAD_cons ev_str (evAD_cons ev_str (evAD_cons ev_str evAD_nil))))) (c := false) (fun h => absurd h (by decide +kernel))) (fun h => absurd h (by decide +kernel)) (fun _ => evs_next)) ?_
    refine h3.to (by rw [letsL_none rfl]; rfl) (evs_if (evT_inS (x := "nil") (ws := ["num", "sum", "len"]) (ev_var rfl) (ev_tupD (K := K) (ds := [.str "num", .str "sum", .str "len"]) (evAD_cons ev_str (evAD_cons ev_str (evAD_cons ev_str evAD_nil))))) (fun h => absurd h (by decide +kernel)) (fun _ => evs_next))
  | put z l =>
    cases hk
    refine .inl ?_
    apply Exists.intro
    refine evs_seq (evs_asg (vs := [4, 5, 6]) (ev_tup (K := K) (as := [dat K (.str "put"), eqA (.ref lr), eqA (.ref lk)]) (evA_cons (ev_ixc 0 (ev_var rfl) rfl) (evA_cons (h_root hW (ev_var rfl)) (evA_cons (h_known hW (ev_var rfl)) evA_nil)))) (evg_tup (K := K) (as := [dat K (.str "put"), eqA (.ref lr), eqA (.ref lk)]) (.cons evg_name (.cons evg_name (.cons evg_name .nil))))) ?_
    refine evs_seq (evs_set (ev_ifE (evT_inS (x := "put") (ws := ["head", "tail", "at", "len", "sum", "put"]) (ev_var rfl) (ev_tupD (K := K) (ds := [.str "head", .str "tail", .str "at", .str "len", .str "sum", .str "put"]) (evAD_cons ev_str (evAD_cons ev_str (evAD_cons ev_str (evAD_cons ev_str (evAD_cons ev_str (evAD_cons ev_str evAD_nil)))))))) (fun _ => root_get hW (ev_var rfl) (ev_ixc (K := K) 1 (ds := [.str "put", .str z, .str l]) (ev_var rfl) rfl) hd.1) (fun h => absurd h (by decide +kernel)))) ?_
    refine evs_seq (evs_if (evT_and (evT_inS (x := "put") (ws := ["head", "tail"]) (ev_var rfl) (ev_tupD (K := K) (ds := [.str "head", .str "tail"]) (evAD_cons ev_str (evAD_cons ev_str evAD_nil)))) (c := false) (fun h => absurd h (by decide +kernel))) (fun h => absurd h (by decide +kernel)) (fun _ => evs_next)) ?_
    refine evs_seq (evs_set (r := .fz (dat K (.str "list"))) (ev_ifE (evT_inS (x := "put") (ws := ["nil", "put", "tail"]) (ev_var rfl) (ev_tupD (K := K) (ds := [.str "nil", .str "put", .str "tail"]) (evAD_cons ev_str (evAD_cons ev_str (evAD_cons ev_str evAD_nil))))) (fun _ => ev_str) (fun h => absurd h (by decide +kernel)))) ?_
    refine evs_seq (evs_appendWD (ds := y.names.map prD) (d := prD (x, Kd.lst)) (h_names hW (ev_var rfl)) hW.hn (ev_tupD (K := K) (evAD_cons (ev_var rfl) (evAD_cons (ev_ifE (evT_str (x := "put") (y := "call") (ev_var rfl) ev_str) (fun h => absurd h (by decide +kernel)) (fun _ => ev_var rfl)) evAD_nil))) nb) ?_
    rw [nm_snoc]
    have h1 := h0.names (y.names ++ [(x, Kd.lst)])
    refine evs_seq (evs_dputW (K := K) (ev_var rfl) (ev_var rfl) h1.h.hr (ev_var rfl) mb) ?_
    rw [root_new ok.meant]
    have h2 := h1.root (y.meant ++ [(x, x)])
    refine evs_seq (evs_if (evT_str (x := "put") (y := "call") (ev_var rfl) ev_str) (fun h => absurd h (by decide +kernel)) (fun _ => evs_next)) ?_
    have hl2 := stands_snoc (x := x) hd.2
    have h3 := h2.made (y.made ++ [(x, y.mo z, y.mo l)])
    have h4 := h3.known (y.known ++ [.tuple [.str "made", .str x, .str (y.mo z), .str (y.mo l)]])
    refine evs_seq (evs_if (evT_str (x := "put") (y := "put") (ev_var rfl) ev_str) (fun _ => evs_seq (evs_eqW (evs_dputW (K := K) (a := dat K (strsD [y.mo z, y.mo l])) (ev_tupD (K := K) (ds := [.str (y.mo z), .str (y.mo l)]) (evAD_cons (ev_var rfl) (evAD_cons ((root_get h2.h (ev_var rfl) (ev_ixc (K := K) 2 (ds := [.str "put", .str z, .str l]) (ev_var rfl) rfl) hl2.1).cong (congrArg (fun u => Rs.fz (dat K (.str u))) hl2.2)) evAD_nil))) (h_made h2.h (ev_var rfl)) h2.h.hm (ev_var rfl) db) (congrArg (fun u => Wo.put _ lm (.dct u)) (made_new ok.made).symm)) (evs_appendWD (ds := y.known) (d := .tuple [.str "made", .str x, .str (y.mo z), .str (y.mo l)]) (ev_var rfl) h3.h.hk (ev_tupD (K := K) (evAD_cons ev_str (evAD_cons (ev_var rfl) (evAD_cons (ev_var rfl) (evAD_cons ((root_get h3.h (ev_var rfl) (ev_ixc (K := K) 2 (ds := [.str "put", .str z, .str l]) (ev_var rfl) rfl) hl2.1).cong (congrArg (fun u => Rs.fz (dat K (.str u))) hl2.2)) evAD_nil))))) kb)) (fun h => absurd h (by decide +kernel))) ?_
    refine evs_seq (evs_if (evT_str (x := "put") (y := "nil") (ev_var rfl) ev_str) (fun h => absurd h (by decide +kernel)) (fun _ => evs_next)) ?_
    refine evs_seq (evs_if (evT_and (evT_inS (x := "put") (ws := ["head", "at", "tail"]) (ev_var rfl) (ev_tupD (K := K) (ds := [.str "head", .str "at", .str "tail"]) (evAD_cons ev_str (evAD_cons ev_str (evAD_cons ev_str evAD_nil))))) (c := false) (fun h => absurd h (by decide +kernel))) (fun h => absurd h (by decide +kernel)) (fun _ => evs_next)) ?_
    refine h4.to (by rw [letsL_none rfl]; rfl) (evs_if (evT_inS (x := "put") (ws := ["num", "sum", "len"]) (ev_var rfl) (ev_tupD (K := K) (ds := [.str "num", .str "sum", .str "len"]) (evAD_cons ev_str (evAD_cons ev_str (evAD_cons ev_str evAD_nil))))) (fun h => absurd h (by decide +kernel)) (fun _ => evs_next))
  | head l =>
    cases hk
    cases hm : y.made.lookup (y.mo l) with
    | some p =>
      obtain ⟨u, v⟩ := p
      refine .inr ?_
      refine evs_seq (evs_asg (vs := [4, 5, 6]) (ev_tup (K := K) (as := [dat K (.str "head"), eqA (.ref lr), eqA (.ref lk)]) (evA_cons (ev_ixc 0 (ev_var rfl) rfl) (evA_cons (h_root hW (ev_var rfl)) (evA_cons (h_known hW (ev_var rfl)) evA_nil)))) (evg_tup (K := K) (as := [dat K (.str "head"), eqA (.ref lr), eqA (.ref lk)]) (.cons evg_name (.cons evg_name (.cons evg_name .nil))))) ?_
      refine evs_seq (evs_set (ev_ifE (evT_inS (x := "head") (ws := ["head", "tail", "at", "len", "sum", "put"]) (ev_var rfl) (ev_tupD (K := K) (ds := [.str "head", .str "tail", .str "at", .str "len", .str "sum", .str "put"]) (evAD_cons ev_str (evAD_cons ev_str (evAD_cons ev_str (evAD_cons ev_str (evAD_cons ev_str (evAD_cons ev_str evAD_nil)))))))) (fun _ => root_get hW (ev_var rfl) (ev_ixc (K := K) 1 (ds := [.str "head", .str l]) (ev_var rfl) rfl) hd) (fun h => absurd h (by decide +kernel)))) ?_
      refine (evs_seqR (evs_if (evT_and (b := true) (evT_inS (x := "head") (ws := ["head", "tail"]) (ev_var rfl) (ev_tupD (K := K) (ds := [.str "head", .str "tail"]) (evAD_cons ev_str (evAD_cons ev_str evAD_nil)))) (c := true) (fun _ => evT_test ((ev_dinW (K := K) (x := y.mo l) (ev_var rfl) (h_made hW (ev_var rfl)) hW.hm).cong (by rw [made_val, hm]; rfl)))) (fun _ => evs_seq (evs_dputW (K := K) (a := dat K (.str u)) (ev_ixTD (K := K) (i := 0) (ds := [.str u, .str v]) (ev_dgetW (K := K) (h_made hW (ev_var rfl)) hW.hm (ev_var rfl) (by rw [made_val, hm]; rfl)) (ev_index (K := K) (ws := ["head", "tail"]) (x := "head") (i := 0) (ev_lstD (K := K) (ds := [.str "head", .str "tail"]) (evAD_cons ev_str (evAD_cons ev_str evAD_nil))) (ev_var rfl) (by decide +kernel)) rfl) (ev_var rfl) hW.hr (ev_var rfl) mb) (W1 := _) ?_) (fun h => absurd h (by decide +kernel))))
      rw [root_new ok.meant]
      have h1 := h0.root (y.meant ++ [(x, u)])
      have hy : y.letsL x (Dd.mn y.mo (.head l)) Kd.num = { y with meant := y.meant ++ [(x, u)] } := letsL_some (by show Option.map _ (y.made.lookup (y.mo l)) = _; rw [hm]; rfl)
      rw [hy]
      exact evs_rtW evs_retN h1.set
    | none =>
      refine .inl ?_
      apply Exists.intro
      refine evs_seq (evs_asg (vs := [4, 5, 6]) (ev_tup (K := K) (as := [dat K (.str "head"), eqA (.ref lr), eqA (.ref lk)]) (evA_cons (ev_ixc 0 (ev_var rfl) rfl) (evA_cons (h_root hW (ev_var rfl)) (evA_cons (h_known hW (ev_var rfl)) evA_nil)))) (evg_tup (K := K) (as := [dat K (.str "head"), eqA (.ref lr), eqA (.ref lk)]) (.cons evg_name (.cons evg_name (.cons evg_name .nil))))) ?_
      refine evs_seq (evs_set (ev_ifE (evT_inS (x := "head") (ws := ["head", "tail", "at", "len", "sum", "put"]) (ev_var rfl) (ev_tupD (K := K) (ds := [.str "head", .str "tail", .str "at", .str "len", .str "sum", .str "put"]) (evAD_cons ev_str (evAD_cons ev_str (evAD_cons ev_str (evAD_cons ev_str (evAD_cons ev_str (evAD_cons ev_str evAD_nil)))))))) (fun _ => root_get hW (ev_var rfl) (ev_ixc (K := K) 1 (ds := [.str "head", .str l]) (ev_var rfl) rfl) hd) (fun h => absurd h (by decide +kernel)))) ?_
      refine evs_seq (evs_if (evT_and (b := true) (evT_inS (x := "head") (ws := ["head", "tail"]) (ev_var rfl) (ev_tupD (K := K) (ds := [.str "head", .str "tail"]) (evAD_cons ev_str (evAD_cons ev_str evAD_nil)))) (c := false) (fun _ => evT_test ((ev_dinW (K := K) (x := y.mo l) (ev_var rfl) (h_made hW (ev_var rfl)) hW.hm).cong (by rw [made_val, hm]; rfl)))) (fun h => absurd h (by decide +kernel)) (fun _ => evs_next)) ?_
      refine evs_seq (evs_set (r := .fz (dat K (.str "number"))) (ev_ifE (evT_inS (x := "head") (ws := ["nil", "put", "tail"]) (ev_var rfl) (ev_tupD (K := K) (ds := [.str "nil", .str "put", .str "tail"]) (evAD_cons ev_str (evAD_cons ev_str (evAD_cons ev_str evAD_nil))))) (fun h => absurd h (by decide +kernel)) (fun _ => ev_str))) ?_
      refine evs_seq (evs_appendWD (ds := y.names.map prD) (d := prD (x, Kd.num)) (h_names hW (ev_var rfl)) hW.hn (ev_tupD (K := K) (evAD_cons (ev_var rfl) (evAD_cons (ev_ifE (evT_str (x := "head") (y := "call") (ev_var rfl) ev_str) (fun h => absurd h (by decide +kernel)) (fun _ => ev_var rfl)) evAD_nil))) nb) ?_
      rw [nm_snoc]
      have h1 := h0.names (y.names ++ [(x, Kd.num)])
      refine evs_seq (evs_dputW (K := K) (ev_var rfl) (ev_var rfl) h1.h.hr (ev_var rfl) mb) ?_
      rw [root_new ok.meant]
      have h2 := h1.root (y.meant ++ [(x, x)])
      refine evs_seq (evs_if (evT_str (x := "head") (y := "call") (ev_var rfl) ev_str) (fun h => absurd h (by decide +kernel)) (fun _ => evs_next)) ?_
      refine evs_seq (evs_if (evT_str (x := "head") (y := "put") (ev_var rfl) ev_str) (fun h => absurd h (by decide +kernel)) (fun _ => evs_next)) ?_
      refine evs_seq (evs_if (evT_str (x := "head") (y := "nil") (ev_var rfl) ev_str) (fun h => absurd h (by decide +kernel)) (fun _ => evs_next)) ?_
      refine evs_seq (evs_if (evT_and (b := true) (evT_inS (x := "head") (ws := ["head", "at", "tail"]) (ev_var rfl) (ev_tupD (K := K) (ds := [.str "head", .str "at", .str "tail"]) (evAD_cons ev_str (evAD_cons ev_str (evAD_cons ev_str evAD_nil))))) (c := true) (fun _ => evT_test ((ev_dninW (K := K) (x := y.mo l) (ev_var rfl) (h_made h2.h (ev_var rfl)) h2.h.hm).cong (by show Rs.fz (dat K (.bool (!(valA (madeK K y.made) (.inr (y.mo l))).isSome))) = _; rw [made_val, hm]; rfl)))) (fun _ => evs_appendWD (ds := y.known) (d := .tuple [.str "one", .str x, .str (y.mo l)]) (ev_var rfl) h2.h.hk (ev_tupD (K := K) (evAD_cons (ev_ifE (evT_str (x := "head") (y := "tail") (ev_var rfl) ev_str) (fun h => absurd h (by decide +kernel)) (fun _ => ev_str)) (evAD_cons (ev_var rfl) (evAD_cons (ev_var rfl) evAD_nil)))) kb) (fun h => absurd h (by decide +kernel))) ?_
      have h3 := h2.known (y.known ++ [.tuple [.str "one", .str x, .str (y.mo l)]])
      have ho : (Dd.mn y.mo (.head l)).opened y = none := by show Option.map _ (y.made.lookup (y.mo l)) = _; rw [hm]; rfl
      refine h3.to (by rw [letsL_none ho]; rfl) (evs_if (evT_inS (x := "head") (ws := ["num", "sum", "len"]) (ev_var rfl) (ev_tupD (K := K) (ds := [.str "num", .str "sum", .str "len"]) (evAD_cons ev_str (evAD_cons ev_str (evAD_cons ev_str evAD_nil))))) (fun h => absurd h (by decide +kernel)) (fun _ => evs_next))
  | tail l =>
    cases hk
    cases hm : y.made.lookup (y.mo l) with
    | some p =>
      obtain ⟨u, v⟩ := p
      refine .inr ?_
      refine evs_seq (evs_asg (vs := [4, 5, 6]) (ev_tup (K := K) (as := [dat K (.str "tail"), eqA (.ref lr), eqA (.ref lk)]) (evA_cons (ev_ixc 0 (ev_var rfl) rfl) (evA_cons (h_root hW (ev_var rfl)) (evA_cons (h_known hW (ev_var rfl)) evA_nil)))) (evg_tup (K := K) (as := [dat K (.str "tail"), eqA (.ref lr), eqA (.ref lk)]) (.cons evg_name (.cons evg_name (.cons evg_name .nil))))) ?_
      refine evs_seq (evs_set (ev_ifE (evT_inS (x := "tail") (ws := ["head", "tail", "at", "len", "sum", "put"]) (ev_var rfl) (ev_tupD (K := K) (ds := [.str "head", .str "tail", .str "at", .str "len", .str "sum", .str "put"]) (evAD_cons ev_str (evAD_cons ev_str (evAD_cons ev_str (evAD_cons ev_str (evAD_cons ev_str (evAD_cons ev_str evAD_nil)))))))) (fun _ => root_get hW (ev_var rfl) (ev_ixc (K := K) 1 (ds := [.str "tail", .str l]) (ev_var rfl) rfl) hd) (fun h => absurd h (by decide +kernel)))) ?_
      refine (evs_seqR (evs_if (evT_and (b := true) (evT_inS (x := "tail") (ws := ["head", "tail"]) (ev_var rfl) (ev_tupD (K := K) (ds := [.str "head", .str "tail"]) (evAD_cons ev_str (evAD_cons ev_str evAD_nil)))) (c := true) (fun _ => evT_test ((ev_dinW (K := K) (x := y.mo l) (ev_var rfl) (h_made hW (ev_var rfl)) hW.hm).cong (by rw [made_val, hm]; rfl)))) (fun _ => evs_seq (evs_dputW (K := K) (a := dat K (.str v)) (ev_ixTD (K := K) (i := 1) (ds := [.str u, .str v]) (ev_dgetW (K := K) (h_made hW (ev_var rfl)) hW.hm (ev_var rfl) (by rw [made_val, hm]; rfl)) (ev_index (K := K) (ws := ["head", "tail"]) (x := "tail") (i := 1) (ev_lstD (K := K) (ds := [.str "head", .str "tail"]) (evAD_cons ev_str (evAD_cons ev_str evAD_nil))) (ev_var rfl) (by decide +kernel)) rfl) (ev_var rfl) hW.hr (ev_var rfl) mb) (W1 := _) ?_) (fun h => absurd h (by decide +kernel))))
      rw [root_new ok.meant]
      have h1 := h0.root (y.meant ++ [(x, v)])
      have hy : y.letsL x (Dd.mn y.mo (.tail l)) Kd.lst = { y with meant := y.meant ++ [(x, v)] } := letsL_some (by show Option.map _ (y.made.lookup (y.mo l)) = _; rw [hm]; rfl)
      rw [hy]
      exact evs_rtW evs_retN h1.set
    | none =>
      refine .inl ?_
      apply Exists.intro
      refine evs_seq (evs_asg (vs := [4, 5, 6]) (ev_tup (K := K) (as := [dat K (.str "tail"), eqA (.ref lr), eqA (.ref lk)]) (evA_cons (ev_ixc 0 (ev_var rfl) rfl) (evA_cons (h_root hW (ev_var rfl)) (evA_cons (h_known hW (ev_var rfl)) evA_nil)))) (evg_tup (K := K) (as := [dat K (.str "tail"), eqA (.ref lr), eqA (.ref lk)]) (.cons evg_name (.cons evg_name (.cons evg_name .nil))))) ?_
      refine evs_seq (evs_set (ev_ifE (evT_inS (x := "tail") (ws := ["head", "tail", "at", "len", "sum", "put"]) (ev_var rfl) (ev_tupD (K := K) (ds := [.str "head", .str "tail", .str "at", .str "len", .str "sum", .str "put"]) (evAD_cons ev_str (evAD_cons ev_str (evAD_cons ev_str (evAD_cons ev_str (evAD_cons ev_str (evAD_cons ev_str evAD_nil)))))))) (fun _ => root_get hW (ev_var rfl) (ev_ixc (K := K) 1 (ds := [.str "tail", .str l]) (ev_var rfl) rfl) hd) (fun h => absurd h (by decide +kernel)))) ?_
      refine evs_seq (evs_if (evT_and (b := true) (evT_inS (x := "tail") (ws := ["head", "tail"]) (ev_var rfl) (ev_tupD (K := K) (ds := [.str "head", .str "tail"]) (evAD_cons ev_str (evAD_cons ev_str evAD_nil)))) (c := false) (fun _ => evT_test ((ev_dinW (K := K) (x := y.mo l) (ev_var rfl) (h_made hW (ev_var rfl)) hW.hm).cong (by rw [made_val, hm]; rfl)))) (fun h => absurd h (by decide +kernel)) (fun _ => evs_next)) ?_
      refine evs_seq (evs_set (r := .fz (dat K (.str "list"))) (ev_ifE (evT_inS (x := "tail") (ws := ["nil", "put", "tail"]) (ev_var rfl) (ev_tupD (K := K) (ds := [.str "nil", .str "put", .str "tail"]) (evAD_cons ev_str (evAD_cons ev_str (evAD_cons ev_str evAD_nil))))) (fun _ => ev_str) (fun h => absurd h (by decide +kernel)))) ?_
      refine evs_seq (evs_appendWD (ds := y.names.map prD) (d := prD (x, Kd.lst)) (h_names hW (ev_var rfl)) hW.hn (ev_tupD (K := K) (evAD_cons (ev_var rfl) (evAD_cons (ev_ifE (evT_str (x := "tail") (y := "call") (ev_var rfl) ev_str) (fun h => absurd h (by decide +kernel)) (fun _ => ev_var rfl)) evAD_nil))) nb) ?_
      rw [nm_snoc]
      have h1 := h0.names (y.names ++ [(x, Kd.lst)])
      refine evs_seq (evs_dputW (K := K) (ev_var rfl) (ev_var rfl) h1.h.hr (ev_var rfl) mb) ?_
      rw [root_new ok.meant]
      have h2 := h1.root (y.meant ++ [(x, x)])
      refine evs_seq (evs_if (evT_str (x := "tail") (y := "call") (ev_var rfl) ev_str) (fun h => absurd h (by decide +kernel)) (fun _ => evs_next)) ?_
      refine evs_seq (evs_if (evT_str (x := "tail") (y := "put") (ev_var rfl) ev_str) (fun h => absurd h (by decide +kernel)) (fun _ => evs_next)) ?_
      refine evs_seq (evs_if (evT_str (x := "tail") (y := "nil") (ev_var rfl) ev_str) (fun h => absurd h (by decide +kernel)) (fun _ => evs_next)) ?_
      refine evs_seq (evs_if (evT_and (b := true) (evT_inS (x := "tail") (ws := ["head", "at", "tail"]) (ev_var rfl) (ev_tupD (K := K) (ds := [.str "head", .str "at", .str "tail"]) (evAD_cons ev_str (evAD_cons ev_str (evAD_cons ev_str evAD_nil))))) (c := true) (fun _ => evT_test ((ev_dninW (K := K) (x := y.mo l) (ev_var rfl) (h_made h2.h (ev_var rfl)) h2.h.hm).cong (by show Rs.fz (dat K (.bool (!(valA (madeK K y.made) (.inr (y.mo l))).isSome))) = _; rw [made_val, hm]; rfl)))) (fun _ => evs_appendWD (ds := y.known) (d := .tuple [.str "part", .str x, .str (y.mo l)]) (ev_var rfl) h2.h.hk (ev_tupD (K := K) (evAD_cons (ev_ifE (evT_str (x := "tail") (y := "tail") (ev_var rfl) ev_str) (fun _ => ev_str) (fun h => absurd h (by decide +kernel))) (evAD_cons (ev_var rfl) (evAD_cons (ev_var rfl) evAD_nil)))) kb) (fun h => absurd h (by decide +kernel))) ?_
      have h3 := h2.known (y.known ++ [.tuple [.str "part", .str x, .str (y.mo l)]])
      have ho : (Dd.mn y.mo (.tail l)).opened y = none := by show Option.map _ (y.made.lookup (y.mo l)) = _; rw [hm]; rfl
      refine h3.to (by rw [letsL_none ho]; rfl) (evs_if (evT_inS (x := "tail") (ws := ["num", "sum", "len"]) (ev_var rfl) (ev_tupD (K := K) (ds := [.str "num", .str "sum", .str "len"]) (evAD_cons ev_str (evAD_cons ev_str (evAD_cons ev_str evAD_nil))))) (fun h => absurd h (by decide +kernel)) (fun _ => evs_next))
  | at_ l z =>
    cases hk
    refine .inl ?_
    apply Exists.intro
    refine evs_seq (evs_asg (vs := [4, 5, 6]) (ev_tup (K := K) (as := [dat K (.str "at"), eqA (.ref lr), eqA (.ref lk)]) (evA_cons (ev_ixc 0 (ev_var rfl) rfl) (evA_cons (h_root hW (ev_var rfl)) (evA_cons (h_known hW (ev_var rfl)) evA_nil)))) (evg_tup (K := K) (as := [dat K (.str "at"), eqA (.ref lr), eqA (.ref lk)]) (.cons evg_name (.cons evg_name (.cons evg_name .nil))))) ?_
    refine evs_seq (evs_set (ev_ifE (evT_inS (x := "at") (ws := ["head", "tail", "at", "len", "sum", "put"]) (ev_var rfl) (ev_tupD (K := K) (ds := [.str "head", .str "tail", .str "at", .str "len", .str "sum", .str "put"]) (evAD_cons ev_str (evAD_cons ev_str (evAD_cons ev_str (evAD_cons ev_str (evAD_cons ev_str (evAD_cons ev_str evAD_nil)))))))) (fun _ => root_get hW (ev_var rfl) (ev_ixc (K := K) 1 (ds := [.str "at", .str l, .str z]) (ev_var rfl) rfl) hd.1) (fun h => absurd h (by decide +kernel)))) ?_
    refine evs_seq (evs_if (evT_and (evT_inS (x := "at") (ws := ["head", "tail"]) (ev_var rfl) (ev_tupD (K := K) (ds := [.str "head", .str "tail"]) (evAD_cons ev_str (evAD_cons ev_str evAD_nil)))) (c := false) (fun h => absurd h (by decide +kernel))) (fun h => absurd h (by decide +kernel)) (fun _ => evs_next)) ?_
    refine evs_seq (evs_set (r := .fz (dat K (.str "number"))) (ev_ifE (evT_inS (x := "at") (ws := ["nil", "put", "tail"]) (ev_var rfl) (ev_tupD (K := K) (ds := [.str "nil", .str "put", .str "tail"]) (evAD_cons ev_str (evAD_cons ev_str (evAD_cons ev_str evAD_nil))))) (fun h => absurd h (by decide +kernel)) (fun _ => ev_str))) ?_
    refine evs_seq (evs_appendWD (ds := y.names.map prD) (d := prD (x, Kd.num)) (h_names hW (ev_var rfl)) hW.hn (ev_tupD (K := K) (evAD_cons (ev_var rfl) (evAD_cons (ev_ifE (evT_str (x := "at") (y := "call") (ev_var rfl) ev_str) (fun h => absurd h (by decide +kernel)) (fun _ => ev_var rfl)) evAD_nil))) nb) ?_
    rw [nm_snoc]
    have h1 := h0.names (y.names ++ [(x, Kd.num)])
    refine evs_seq (evs_dputW (K := K) (ev_var rfl) (ev_var rfl) h1.h.hr (ev_var rfl) mb) ?_
    rw [root_new ok.meant]
    have h2 := h1.root (y.meant ++ [(x, x)])
    refine evs_seq (evs_if (evT_str (x := "at") (y := "call") (ev_var rfl) ev_str) (fun h => absurd h (by decide +kernel)) (fun _ => evs_next)) ?_
    refine evs_seq (evs_if (evT_str (x := "at") (y := "put") (ev_var rfl) ev_str) (fun h => absurd h (by decide +kernel)) (fun _ => evs_next)) ?_
    refine evs_seq (evs_if (evT_str (x := "at") (y := "nil") (ev_var rfl) ev_str) (fun h => absurd h (by decide +kernel)) (fun _ => evs_next)) ?_
    cases hm : y.made.lookup (y.mo l) with
    | some p =>
      refine evs_seq (evs_if (evT_and (b := true) (evT_inS (x := "at") (ws := ["head", "at", "tail"]) (ev_var rfl) (ev_tupD (K := K) (ds := [.str "head", .str "at", .str "tail"]) (evAD_cons ev_str (evAD_cons ev_str (evAD_cons ev_str evAD_nil))))) (c := false) (fun _ => (evT_test ((ev_dninW (K := K) (x := y.mo l) (ev_var rfl) (h_made h2.h (ev_var rfl)) h2.h.hm).cong (by show Rs.fz (dat K (.bool (!(valA (madeK K y.made) (.inr (y.mo l))).isSome))) = _; rw [made_val, hm]; rfl))))) (fun h => absurd h (by decide +kernel)) (fun _ => evs_next)) ?_
      refine h2.to ?_ (evs_if (evT_inS (x := "at") (ws := ["num", "sum", "len"]) (ev_var rfl) (ev_tupD (K := K) (ds := [.str "num", .str "sum", .str "len"]) (evAD_cons ev_str (evAD_cons ev_str (evAD_cons ev_str evAD_nil))))) (fun h => absurd h (by decide +kernel)) (fun _ => evs_next))
      rw [letsL_none rfl]
      show Wy.mk _ _ _ _ = Wy.mk _ (y.known ++ if (y.made.lookup (y.mo l)).isSome = true then _ else _) _ _
      rw [hm, if_pos (show (some p).isSome = true from rfl), List.append_nil]
      rfl
    | none =>
      refine evs_seq (evs_if (evT_and (b := true) (evT_inS (x := "at") (ws := ["head", "at", "tail"]) (ev_var rfl) (ev_tupD (K := K) (ds := [.str "head", .str "at", .str "tail"]) (evAD_cons ev_str (evAD_cons ev_str (evAD_cons ev_str evAD_nil))))) (c := true) (fun _ => (evT_test ((ev_dninW (K := K) (x := y.mo l) (ev_var rfl) (h_made h2.h (ev_var rfl)) h2.h.hm).cong (by show Rs.fz (dat K (.bool (!(valA (madeK K y.made) (.inr (y.mo l))).isSome))) = _; rw [made_val, hm]; rfl))))) (fun _ => evs_appendWD (ds := y.known) (d := .tuple [.str "one", .str x, .str (y.mo l)]) (ev_var rfl) h2.h.hk (ev_tupD (K := K) (evAD_cons (ev_ifE (evT_str (x := "at") (y := "tail") (ev_var rfl) ev_str) (fun h => absurd h (by decide +kernel)) (fun _ => ev_str)) (evAD_cons (ev_var rfl) (evAD_cons (ev_var rfl) evAD_nil)))) kb) (fun h => absurd h (by decide +kernel))) ?_
      have h3 := h2.known (y.known ++ [.tuple [.str "one", .str x, .str (y.mo l)]])
      refine h3.to ?_ (evs_if (evT_inS (x := "at") (ws := ["num", "sum", "len"]) (ev_var rfl) (ev_tupD (K := K) (ds := [.str "num", .str "sum", .str "len"]) (evAD_cons ev_str (evAD_cons ev_str (evAD_cons ev_str evAD_nil))))) (fun h => absurd h (by decide +kernel)) (fun _ => evs_next))
      rw [letsL_none rfl]
      show Wy.mk _ _ _ _ = Wy.mk _ (y.known ++ if (y.made.lookup (y.mo l)).isSome = true then _ else _) _ _
      rw [hm, if_neg (show ¬ ((none : Option (Str × Str)).isSome = true) by decide)]
      rfl
  | ask =>
    cases hk
    refine .inl ?_
    apply Exists.intro
    refine evs_seq (evs_asg (vs := [4, 5, 6]) (ev_tup (K := K) (as := [dat K (.str "ask"), eqA (.ref lr), eqA (.ref lk)]) (evA_cons (ev_ixc 0 (ev_var rfl) rfl) (evA_cons (h_root hW (ev_var rfl)) (evA_cons (h_known hW (ev_var rfl)) evA_nil)))) (evg_tup (K := K) (as := [dat K (.str "ask"), eqA (.ref lr), eqA (.ref lk)]) (.cons evg_name (.cons evg_name (.cons evg_name .nil))))) ?_
    refine evs_seq (evs_set (ev_ifE (evT_inS (x := "ask") (ws := ["head", "tail", "at", "len", "sum", "put"]) (ev_var rfl) (ev_tupD (K := K) (ds := [.str "head", .str "tail", .str "at", .str "len", .str "sum", .str "put"]) (evAD_cons ev_str (evAD_cons ev_str (evAD_cons ev_str (evAD_cons ev_str (evAD_cons ev_str (evAD_cons ev_str evAD_nil)))))))) (fun h => absurd h (by decide +kernel)) (fun _ => ev_non (K := K)))) ?_
    refine evs_seq (evs_if (evT_and (evT_inS (x := "ask") (ws := ["head", "tail"]) (ev_var rfl) (ev_tupD (K := K) (ds := [.str "head", .str "tail"]) (evAD_cons ev_str (evAD_cons ev_str evAD_nil)))) (c := false) (fun h => absurd h (by decide +kernel))) (fun h => absurd h (by decide +kernel)) (fun _ => evs_next)) ?_
    refine evs_seq (evs_set (r := .fz (dat K (.str "number"))) (ev_ifE (evT_inS (x := "ask") (ws := ["nil", "put", "tail"]) (ev_var rfl) (ev_tupD (K := K) (ds := [.str "nil", .str "put", .str "tail"]) (evAD_cons ev_str (evAD_cons ev_str (evAD_cons ev_str evAD_nil))))) (fun h => absurd h (by decide +kernel)) (fun _ => ev_str))) ?_
    refine evs_seq (evs_appendWD (ds := y.names.map prD) (d := prD (x, Kd.num)) (h_names hW (ev_var rfl)) hW.hn (ev_tupD (K := K) (evAD_cons (ev_var rfl) (evAD_cons (ev_ifE (evT_str (x := "ask") (y := "call") (ev_var rfl) ev_str) (fun h => absurd h (by decide +kernel)) (fun _ => ev_var rfl)) evAD_nil))) nb) ?_
    rw [nm_snoc]
    have h1 := h0.names (y.names ++ [(x, Kd.num)])
    refine evs_seq (evs_dputW (K := K) (ev_var rfl) (ev_var rfl) h1.h.hr (ev_var rfl) mb) ?_
    rw [root_new ok.meant]
    have h2 := h1.root (y.meant ++ [(x, x)])
    refine evs_seq (evs_if (evT_str (x := "ask") (y := "call") (ev_var rfl) ev_str) (fun h => absurd h (by decide +kernel)) (fun _ => evs_next)) ?_
    refine evs_seq (evs_if (evT_str (x := "ask") (y := "put") (ev_var rfl) ev_str) (fun h => absurd h (by decide +kernel)) (fun _ => evs_next)) ?_
    refine evs_seq (evs_if (evT_str (x := "ask") (y := "nil") (ev_var rfl) ev_str) (fun h => absurd h (by decide +kernel)) (fun _ => evs_next)) ?_
    refine evs_seq (evs_if (evT_and (evT_inS (x := "ask") (ws := ["head", "at", "tail"]) (ev_var rfl) (ev_tupD (K := K) (ds := [.str "head", .str "at", .str "tail"]) (evAD_cons ev_str (evAD_cons ev_str (evAD_cons ev_str evAD_nil))))) (c := false) (fun h => absurd h (by decide +kernel))) (fun h => absurd h (by decide +kernel)) (fun _ => evs_next)) ?_
    refine h2.to (by rw [letsL_none rfl]; show Wy.mk _ _ _ _ = Wy.mk _ (y.known ++ []) _ _; rw [List.append_nil]; rfl) (evs_if (evT_inS (x := "ask") (ws := ["num", "sum", "len"]) (ev_var rfl) (ev_tupD (K := K) (ds := [.str "num", .str "sum", .str "len"]) (evAD_cons ev_str (evAD_cons ev_str (evAD_cons ev_str evAD_nil))))) (fun h => absurd h (by decide +kernel)) (fun _ => evs_next))
  | call g xs =>
    obtain ⟨f, hf, rfl⟩ := Option.map_eq_some_iff.mp hk
    refine .inl ?_
    apply Exists.intro
    refine evs_seq (evs_asg (vs := [4, 5, 6]) (ev_tup (K := K) (as := [dat K (.str "call"), eqA (.ref lr), eqA (.ref lk)]) (evA_cons (ev_ixc 0 (ev_var rfl) rfl) (evA_cons (h_root hW (ev_var rfl)) (evA_cons (h_known hW (ev_var rfl)) evA_nil)))) (evg_tup (K := K) (as := [dat K (.str "call"), eqA (.ref lr), eqA (.ref lk)]) (.cons evg_name (.cons evg_name (.cons evg_name .nil))))) ?_
    refine evs_seq (evs_set (ev_ifE (evT_inS (x := "call") (ws := ["head", "tail", "at", "len", "sum", "put"]) (ev_var rfl) (ev_tupD (K := K) (ds := [.str "head", .str "tail", .str "at", .str "len", .str "sum", .str "put"]) (evAD_cons ev_str (evAD_cons ev_str (evAD_cons ev_str (evAD_cons ev_str (evAD_cons ev_str (evAD_cons ev_str evAD_nil)))))))) (fun h => absurd h (by decide +kernel)) (fun _ => ev_non (K := K)))) ?_
    refine evs_seq (evs_if (evT_and (evT_inS (x := "call") (ws := ["head", "tail"]) (ev_var rfl) (ev_tupD (K := K) (ds := [.str "head", .str "tail"]) (evAD_cons ev_str (evAD_cons ev_str evAD_nil)))) (c := false) (fun h => absurd h (by decide +kernel))) (fun h => absurd h (by decide +kernel)) (fun _ => evs_next)) ?_
    refine evs_seq (evs_set (r := .fz (dat K (.str "number"))) (ev_ifE (evT_inS (x := "call") (ws := ["nil", "put", "tail"]) (ev_var rfl) (ev_tupD (K := K) (ds := [.str "nil", .str "put", .str "tail"]) (evAD_cons ev_str (evAD_cons ev_str (evAD_cons ev_str evAD_nil))))) (fun h => absurd h (by decide +kernel)) (fun _ => ev_str))) ?_
    refine evs_seq (evs_appendWD (ds := y.names.map prD) (d := prD (x, f.kd)) (h_names hW (ev_var rfl)) hW.hn (ev_tupD (K := K) (evAD_cons (ev_var rfl) (evAD_cons (ev_ifE (evT_str (x := "call") (y := "call") (ev_var rfl) ev_str) (fun _ => ev_ixc 1 (ev_ixTD (i := g) (ds := fs.map fnD) (d := fnD f) (ev_var rfl) (ev_ixc (K := K) 1 (ds := [.str "call", .int g, strsD xs]) (ev_var rfl) rfl) (by rw [List.getElem?_map, hf]; rfl)) rfl) (fun h => absurd h (by decide +kernel))) evAD_nil))) nb) ?_
    rw [nm_snoc]
    have h1 := h0.names (y.names ++ [(x, f.kd)])
    refine evs_seq (evs_dputW (K := K) (ev_var rfl) (ev_var rfl) h1.h.hr (ev_var rfl) mb) ?_
    rw [root_new ok.meant]
    have h2 := h1.root (y.meant ++ [(x, x)])
    refine evs_seq (evs_if (evT_str (x := "call") (y := "call") (ev_var rfl) ev_str) (fun _ => evs_appendWD (ds := y.known) (d := .tuple [.str "behind", .int g, strsD (xs.map y.mo), .str x]) (ev_var rfl) h2.h.hk (ev_tupD (K := K) (evAD_cons ev_str (evAD_cons (ev_ixc 1 (ev_var rfl) rfl) (evAD_cons (ev_tupFD (K := K) (Ev.cong (ev_lcM (ls := xs) (fun z => dat K (.str z)) (fun z => dat K (.str (y.mo z))) (by rw [← strs_map]; exact evi_tupD (ev_ixc (K := K) 2 (ds := [.str "call", .int g, strsD xs]) (ev_var rfl) rfl)) (by have := hd.2; omega) fun z hz => ⟨_, evg_name, (root_get h2.h (ev_var rfl) (ev_var rfl) (stands_snoc (hd.1 z hz)).1).cong (by show Rs.fz (dat K (.str (Wy.mo { y with meant := y.meant ++ [(x, x)] } z))) = _; rw [(stands_snoc (hd.1 z hz)).2])⟩) (congrArg Rs.own (strs_map2 K y.mo xs).symm))) (evAD_cons (ev_var rfl) evAD_nil))))) kb) (fun h => absurd h (by decide +kernel))) ?_
    have h3 := h2.known (y.known ++ [.tuple [.str "behind", .int g, strsD (xs.map y.mo), .str x]])
    refine evs_seq (evs_if (evT_str (x := "call") (y := "put") (ev_var rfl) ev_str) (fun h => absurd h (by decide +kernel)) (fun _ => evs_next)) ?_
    refine evs_seq (evs_if (evT_str (x := "call") (y := "nil") (ev_var rfl) ev_str) (fun h => absurd h (by decide +kernel)) (fun _ => evs_next)) ?_
    refine evs_seq (evs_if (evT_and (evT_inS (x := "call") (ws := ["head", "at", "tail"]) (ev_var rfl) (ev_tupD (K := K) (ds := [.str "head", .str "at", .str "tail"]) (evAD_cons ev_str (evAD_cons ev_str (evAD_cons ev_str evAD_nil))))) (c := false) (fun h => absurd h (by decide +kernel))) (fun h => absurd h (by decide +kernel)) (fun _ => evs_next)) ?_
    refine h3.to (by rw [letsL_none rfl]; rfl) (evs_if (evT_inS (x := "call") (ws := ["num", "sum", "len"]) (ev_var rfl) (ev_tupD (K := K) (ds := [.str "num", .str "sum", .str "len"]) (evAD_cons ev_str (evAD_cons ev_str (evAD_cons ev_str evAD_nil))))) (fun h => absurd h (by decide +kernel)) (fun _ => evs_next))
end
end Cs
namespace Cs
open PySem PySem.Spec L2
/-! ## the law's own walk over a tree -/
theorem kd_mn {fs : List Fn} {d : Dd} {f : Str → Str} : (d.mn f).kd fs = d.kd fs := by cases d <;> rfl
section
variable (fs : List Fn) (i : Nat) (ps : List Str)
def clL : Tr → Wy → Nat → List PyData
  | .tell x, y, p => [rowD i p y (.tuple [.str "behind", .int i, strsD ps, .str (y.mo x)])]
  | .let_ x d t, y, p => goC i p y (d.mn y.mo).wants ++ clL t ((goY y (d.mn y.mo).wants).letsL x (d.mn y.mo) ((d.kd fs).getD .num)) (p + 1)
  | .claim a b n t, y, p => rowD i p y (mostD (a.mn y.mo).d (b.mn y.mo).d n) :: clL t (y.know (mostD (a.mn y.mo).d (b.mn y.mo).d n)) (p + 1)
  | .if_ a b n t u, y, p => clL t (y.know (mostD (a.mn y.mo).d (b.mn y.mo).d n)) (p + 1) ++ clL u (y.know (mostD (b.mn y.mo).d (a.mn y.mo).d (-1 - n))) (p + 1 + t.size)
theorem dwants_len (d : Dd) : d.wants.length ≤ 2 := by cases d <;> exact Nat.le_of_ble_eq_true rfl
theorem clL_len : ∀ (t : Tr) (y : Wy) (p : Nat), (clL fs i ps t y p).length ≤ 2 * t.size
  | .tell x, y, p => Nat.le_of_ble_eq_true rfl
  | .let_ x d t, y, p => by
    show (goC i p y _ ++ clL fs i ps t _ (p + 1)).length ≤ 2 * (t.size + 1)
    rw [List.length_append, goC_len]
    have := dwants_len (d.mn y.mo)
    have := clL_len t ((goY y (d.mn y.mo).wants).letsL x (d.mn y.mo) ((d.kd fs).getD .num)) (p + 1)
    omega
  | .claim a b n t, y, p => by
    show (clL fs i ps t _ (p + 1)).length + 1 ≤ 2 * (t.size + 1)
    have := clL_len t (y.know (mostD (a.mn y.mo).d (b.mn y.mo).d n)) (p + 1)
    omega
  | .if_ a b n t u, y, p => by
    show (clL fs i ps t _ (p + 1) ++ clL fs i ps u _ (p + 1 + t.size)).length ≤ 2 * (t.size + u.size + 1)
    rw [List.length_append]
    have := clL_len t (y.know (mostD (a.mn y.mo).d (b.mn y.mo).d n)) (p + 1)
    have := clL_len u (y.know (mostD (b.mn y.mo).d (a.mn y.mo).d (-1 - n))) (p + 1 + t.size)
    omega
end
/-! ### what the walk keeps to -/
structure ItL (fs : List Fn) (kd : Kd) (t : Tr) (y : Wy) : Prop where
  tr : ∃ ns : Nm, t.ok (fs.map Fn.hd) kd ns ∧ (∀ x, look ns x = none → y.meant.lookup x = none ∧ y.made.lookup x = none) ∧ ∀ x k, look ns x = some k → Stands y x ∧ okName x
  few : t.few
  z1 : y.meant.length + t.size ≤ 200
  z2 : y.made.length + t.size ≤ 200
  z3 : y.names.length + t.size ≤ 200
  z4 : y.known.length + 4 * t.size ≤ 800
theorem lookup_new {α : Type} {x : Str} {a : α} : ∀ m : List (Str × α), ∃ u, (m ++ [(x, a)]).lookup x = some u
  | [] => ⟨a, by show (match x == x with | true => some a | false => none) = _; rw [beq_self_eq_true]⟩
  | (k, v) :: m => by
    show ∃ u, (match x == k with | true => some v | false => (m ++ [(x, a)]).lookup x) = some u
    cases x == k with
    | true => exact ⟨v, rfl⟩
    | false => exact lookup_new m
theorem look_app {ns : Nm} {x z : Str} {k k2 : Kd} (h : look (ns ++ [(x, k)]) z = some k2) : look ns z = some k2 ∨ x = z := by
  unfold look at h ⊢
  rw [List.find?_append] at h
  cases hf : ns.find? fun p => decide (p.1 = z) with
  | some p => rw [hf] at h; exact .inl h
  | none =>
    rw [hf] at h
    refine .inr ?_
    by_cases c : x = z
    · exact c
    · rw [List.find?_cons, decide_eq_false c] at h
      cases h
theorem letsL_ok {y : Wy} {x : Str} {d : Dd} {k : Kd} : (y.letsL x d k).meant.length = y.meant.length + 1 ∧ (y.letsL x d k).made.length ≤ y.made.length + 1 ∧ (y.letsL x d k).names.length ≤ y.names.length + 1 ∧ (y.letsL x d k).known.length ≤ y.known.length + 2 ∧
    (∀ z, x ≠ z → y.meant.lookup z = none → y.made.lookup z = none → (y.letsL x d k).meant.lookup z = none ∧ (y.letsL x d k).made.lookup z = none) ∧ (∀ z, Stands y z → Stands (y.letsL x d k) z) ∧ Stands (y.letsL x d k) x := by
  cases ho : d.opened y with
  | some u =>
    rw [letsL_some ho]
    refine ⟨by show (y.meant ++ [(x, u)]).length = _; rw [List.length_append]; rfl, Nat.le_succ _, Nat.le_succ _, Nat.le_add_right _ _, fun z hz h1 h2 => ⟨lookup_snoc h1 hz, h2⟩, fun z ⟨v, hv⟩ => ⟨v, lookup_old hv⟩, lookup_new y.meant⟩
  | none =>
    rw [letsL_none ho]
    refine ⟨by show (y.meant ++ [(x, x)]).length = _; rw [List.length_append]; rfl, ?_, ?_, ?_, fun z hz h1 h2 => ⟨lookup_snoc h1 hz, ?_⟩, fun z ⟨v, hv⟩ => ⟨v, lookup_old hv⟩, lookup_new y.meant⟩
    · cases d with
      | put n l =>
        show (y.made ++ [(x, n, l)]).length ≤ _
        rw [List.length_append]
        exact Nat.le_refl _
      | _ => exact Nat.le_succ _
    · show (y.names ++ [(x, k)]).length ≤ _
      rw [List.length_append]
      exact Nat.le_refl _
    · show (y.known ++ toldD x y.made d).length ≤ _
      rw [List.length_append]
      have := told_len x y.made d
      omega
    · cases d with
      | put n l => exact lookup_snoc h2 hz
      | _ => exact h2
theorem okName_str {x : Str} (h : okName x) : PyData.strOk x = true := by
  unfold PyData.strOk
  rw [← Array.all_toList, List.all_eq_true]
  intro c hc
  have := (h.2.2 c hc).2
  exact decide_eq_true (by omega)
def Ms.nm : Ms → Prop
  | .zero => True
  | .of x => PyData.strOk x = true
  | .len x => PyData.strOk x = true
theorem ms_shaped {m : Ms} (h : m.nm) : SeqAt.shaped m.d = true := by
  cases m with
  | zero => rfl
  | of x =>
    have h : PyData.strOk x = true := h
    have h2 : PyData.strOk "of" = true := by decide +kernel
    show ((PyData.strOk "of" && (PyData.strOk x && true)) && decide _) = true
    rw [h, h2]
    rfl
  | len x =>
    have h : PyData.strOk x = true := h
    have h2 : PyData.strOk "len" = true := by decide +kernel
    show ((PyData.strOk "len" && (PyData.strOk x && true)) && decide _) = true
    rw [h, h2]
    rfl
theorem paired_stands {ns : Nm} {y : Wy} (hs : ∀ x k, look ns x = some k → Stands y x ∧ okName x) : ∀ {xs : List Str} {ks : List Kd}, Paired (fun x kd => look ns x = some kd) xs ks → ∀ x ∈ xs, Stands y x
  | [], _, _ => fun _ z => nomatch z
  | _ :: _, _, .cons h t => fun x hx => by
    rcases List.mem_cons.mp hx with e | e
    · rw [e]; exact (hs _ _ h).1
    · exact paired_stands hs t x e
theorem dd_std {hd : Hd} {ns : Nm} {k : Kd} {y : Wy} {d : Dd} (h : d.ok hd ns k) (f : d.few) (hs : ∀ x k, look ns x = some k → Stands y x ∧ okName x) : d.std y := by
  cases d with
  | num n => exact True.intro
  | sum x n => exact (hs _ _ h.1).1
  | len l => exact (hs _ _ h.1).1
  | nil => exact True.intro
  | put x l => exact ⟨(hs _ _ h.1).1, (hs _ _ h.2.1).1⟩
  | head l => exact (hs _ _ h.1).1
  | tail l => exact (hs _ _ h.1).1
  | at_ l x => exact ⟨(hs _ _ h.1).1, (hs _ _ h.2.1).1⟩
  | ask => exact True.intro
  | call g xs =>
    obtain ⟨_, hh, e1, e2, _⟩ := h
    exact ⟨paired_stands hs e2, f⟩
theorem ms_std {ns : Nm} {y : Wy} {m : Ms} (h : m.ok ns) (hs : ∀ x k, look ns x = some k → Stands y x ∧ okName x) : m.std y ∧ m.nm := by
  cases m with
  | zero => exact ⟨True.intro, True.intro⟩
  | of x => exact ⟨(hs _ _ h).1, okName_str (hs _ _ h).2⟩
  | len x => exact ⟨(hs _ _ h).1, okName_str (hs _ _ h).2⟩
theorem stands_same {y z : Wy} (e : z.meant = y.meant) {x : Str} (h : Stands y x) : Stands z x := by
  unfold Stands
  rw [e]
  exact h
theorem std_same {y z : Wy} (e : z.meant = y.meant) {d : Dd} (h : d.std y) : d.std z := by
  cases d with
  | num n => exact True.intro
  | sum x n => exact stands_same e h
  | len l => exact stands_same e h
  | nil => exact True.intro
  | put x l => exact ⟨stands_same e h.1, stands_same e h.2⟩
  | head l => exact stands_same e h
  | tail l => exact stands_same e h
  | at_ l x => exact ⟨stands_same e h.1, stands_same e h.2⟩
  | ask => exact True.intro
  | call g xs => exact ⟨fun x hx => stands_same e (h.1 x hx), h.2⟩
theorem itL_let {fs : List Fn} {kd : Kd} {x : Str} {d : Dd} {t : Tr} {y : Wy} (h : ItL fs kd (.let_ x d t) y) : d.std y ∧ ∃ k, d.kd fs = some k ∧ LetOk (goY y (d.mn y.mo).wants) x ∧ ItL fs kd t ((goY y (d.mn y.mo).wants).letsL x (d.mn y.mo) k) := by
  obtain ⟨⟨ns, ok, hk, hs⟩, few, z1, z2, z3, z4⟩ := h
  obtain ⟨o1, o2, k, o3, o4⟩ := ok
  obtain ⟨s1, s2, s3, s4⟩ := goY_same (d.mn y.mo).wants y
  have hw := dwants_len (d.mn y.mo)
  have e : (Tr.let_ x d t).size = t.size + 1 := rfl
  obtain ⟨l1, l2⟩ := hk x o2
  refine ⟨dd_std o3 few.1 hs, k, by rw [← kd_mn (f := y.mo)]; exact dd_kd o3 y.mo, ?_, ?_⟩
  · have q1 := congrArg List.length s1
    have q2 := congrArg List.length s2
    have q3 := congrArg List.length s3
    exact ⟨by rw [s3]; exact l1, by rw [s2]; exact l2, by omega, by omega, by omega, by omega⟩
  · have q1 := congrArg List.length s1
    have q2 := congrArg List.length s2
    have q3 := congrArg List.length s3
    generalize goY y (d.mn y.mo).wants = y2 at *
    obtain ⟨b1, b2, b3, b4, b5, b6, b7⟩ := letsL_ok (y := y2) (x := x) (d := d.mn y.mo) (k := k)
    refine ⟨⟨ns ++ [(x, k)], o4, fun z hz => ?_, fun z k2 hz => ?_⟩, few.2, by omega, by omega, by omega, by omega⟩
    · obtain ⟨h1, h2⟩ := lookK_snoc hz
      obtain ⟨h3, h4⟩ := hk z h1
      exact b5 z h2 (by rw [s3]; exact h3) (by rw [s2]; exact h4)
    · rcases look_app hz with h | h
      · exact ⟨b6 z (stands_same s3 (hs z k2 h).1), (hs z k2 h).2⟩
      · rw [← h]; exact ⟨b7, o1⟩
theorem itL_know {fs : List Fn} {kd : Kd} {t u : Tr} {y : Wy} {g : PyData} {ns : Nm} (ok : u.ok (fs.map Fn.hd) kd ns) (few : u.few) (hk : ∀ x, look ns x = none → y.meant.lookup x = none ∧ y.made.lookup x = none) (hs : ∀ x k, look ns x = some k → Stands y x ∧ okName x) (z1 : y.meant.length + t.size ≤ 200) (z2 : y.made.length + t.size ≤ 200) (z3 : y.names.length + t.size ≤ 200) (z4 : y.known.length + 4 * t.size ≤ 800) (hl : u.size + 1 ≤ t.size) : ItL fs kd u (y.know g) := by
  have kn : (y.know g).known.length = y.known.length + 1 := by
    show (y.known ++ [g]).length = _
    rw [List.length_append]
    rfl
  exact ⟨⟨ns, ok, hk, hs⟩, few, by show y.meant.length + u.size ≤ 200; omega, by show y.made.length + u.size ≤ 200; omega, by show y.names.length + u.size ≤ 200; omega, by omega⟩
/-! ### where it stands -/
def Wcut (W : Wo) (ls : List Addr) : Wo := fun l => if l ∈ ls then none else W l
theorem Wcut.ne {W : Wo} {ls : List Addr} {l : Addr} (h : l ∉ ls) : Wcut W ls l = W l := if_neg h
theorem Wo.put_self {W : Wo} {l : Addr} {o : Ob} (h : W l = some o) : W.put l o = W := funext fun x => by
  by_cases c : x = l
  · rw [c, Wo.same, h]
  · rw [Wo.ne c]
theorem wo4 {W : Wo} {a b : Addr} {A B A2 B2 : Ob} (h : a ≠ b) : (((W.put a A).put b B).put a A2).put b B2 = (W.put a A2).put b B2 := funext fun x => by
  by_cases c : x = b
  · rw [c, Wo.same, Wo.same]
  · rw [Wo.ne c, Wo.ne c]
    by_cases d : x = a
    · rw [d, Wo.same, Wo.same]
    · rw [Wo.ne d, Wo.ne d, Wo.ne c, Wo.ne d]
section
variable {P : Program} {w : World} {K : PySem.W.Frag} {mg : Str → Option Value} {base : Heap} {A : Adr}
section
variable {W W1 : Wo} {ha ln lk lm lr lf : Addr} {y : Wy} {n : Nat} {E : En}
theorem HereW.on (h : HereW K W ha ln lk lm lr y) (e : ∀ l ∈ [ha, ln, lk, lm, lr], W1 l = W l) : HereW K W1 ha ln lk lm lr y :=
  ⟨by rw [e _ (by simp)]; exact h.hh, by rw [e _ (by simp)]; exact h.hn, by rw [e _ (by simp)]; exact h.hk, by rw [e _ (by simp)]; exact h.hm, by rw [e _ (by simp)]; exact h.hr, h.nd⟩
theorem HereW.put (h : HereW K W ha ln lk lm lr y) {o : Ob} (hf : lf ∉ [ha, ln, lk, lm, lr]) : HereW K (W.put lf o) ha ln lk lm lr y := h.on fun l hl => Wo.ne (fun z => hf (z ▸ hl))
theorem HereW.know (h : HereW K W ha ln lk lm lr y) (g : PyData) : HereW K (W.put lk (.lst ((y.known ++ [g]).map (dat K)))) ha ln lk lm lr (y.know g) := ((HF.start h).known (y.known ++ [g])).h
theorem HereW.go (h : HereW K W ha ln lk lm lr y) (gs : List PyData) : HereW K (W.put lk (.lst ((goY y gs).known.map (dat K)))) ha ln lk lm lr (goY y gs) := by
  obtain ⟨s1, s2, s3, _⟩ := goY_same gs y
  have h2 := ((HF.start h).known (goY y gs).known).h
  have e : ({ y with known := (goY y gs).known } : Wy) = goY y gs := by
    rw [← s1, ← s2, ← s3]
  rw [e] at h2
  exact h2
theorem ev_row {t5 t3 t2 tg : TE} {i p : Nat} {g : PyData} (hW : HereW K W ha ln lk lm lr y) (h5 : EvD K n W t5 E (.int i)) (h3 : EvD K n W t3 E (.int p)) (h2 : Ev n W t2 E (.fz (eqA (.ref ha)))) (hg : EvD K n W tg E g) :
    EvD K n W (tTup (tCons t5 (tCons t3 (tCons (tCB (rTupF K) (tCons (tDGet t2 (tC (.str "names"))) tNil)) (tCons (tCB (rTupF K) (tCons (tDGet t2 (tC (.str "known"))) tNil)) (tCons tg tNil)))))) E (rowD i p y g) :=
  ev_tupD (K := K) (ds := [.int i, .int p, nsD y.names, .tuple y.known, g]) (evAD_cons h5 (evAD_cons h3 (evAD_cons (ev_tupFWD (K := K) (h_names hW h2) hW.hn) (evAD_cons (ev_tupFWD (K := K) (h_known hW h2) hW.hk) (evAD_cons hg evAD_nil)))))
theorem ev_ms {k : Nat} {t2 : TE} {m : Ms} (hW : HereW K W ha ln lk lm lr y) (hk : E k = some (.fz (dat K m.d))) (h2 : Ev n W t2 E (.fz (eqA (.ref ha)))) (hs : m.std y) (hm : m.nm) :
    EvD K n W (tIf (tTest (tOp (rEqD K) (tVar k) (tTup tNil))) (tVar k) (tTup (tCons (tOp (rIxT K) (tVar k) (tC (.int 0))) (tCons (tDGet (tDGet t2 (tC (.str "root"))) (tOp (rIxT K) (tVar k) (tC (.int 1)))) tNil)))) E (m.mn y.mo).d := by
  have tst : EvT n W (tTest (tOp (rEqD K) (tVar k) (tTup tNil))) E (PyData.eqv m.d (.tuple [])) := evT_test (ev_eqD (ev_var hk) (ev_tupD evAD_nil) (ms_shaped hm) rfl)
  cases m with
  | zero => exact ev_ifE tst (fun _ => ev_var hk) (fun z => nomatch z)
  | of x => exact ev_ifE tst (fun z => nomatch z) (fun _ => ev_tupD (K := K) (ds := [.str "of", .str (y.mo x)]) (evAD_cons (ev_ixc (K := K) 0 (ds := [.str "of", .str x]) (ev_var hk) rfl) (evAD_cons (h_get hW h2 (ev_ixc (K := K) 1 (ds := [.str "of", .str x]) (ev_var hk) rfl) hs) evAD_nil)))
  | len x => exact ev_ifE tst (fun z => nomatch z) (fun _ => ev_tupD (K := K) (ds := [.str "len", .str (y.mo x)]) (evAD_cons (ev_ixc (K := K) 0 (ds := [.str "len", .str x]) (ev_var hk) rfl) (evAD_cons (h_get hW h2 (ev_ixc (K := K) 1 (ds := [.str "len", .str x]) (ev_var hk) rfl) hs) evAD_nil)))
theorem evs_fin {ts : TS} {E1 : En} {W2 : Wo} (h : EvS n W ts E (.nx E1 W2)) (s : ∀ l o, W1 l = some o → W2 l = some o) : EvS n W ts E (.nx (fun _ => none) W1) := evs_weakW (evs_weak h fun _ _ z => nomatch z) s
/-! ### the copy -/
theorem Env.more {B0 H0 B H : Hp} {σ : L2.St} {l : Addr} {v : Ob} (e : Env n W B0 H0 B H σ E) (n0 : H0 l = none) (nB : B l = none) (wl : ∀ i r, E i = some r → r.isOwn = true → σ[i]? ≠ some (some (.ref l))) (hv : v.at B H l) : Env n (W.put l v) B0 H0 B H σ E :=
  ⟨e.x, e.len, e.at_, e.ne, fun m ob hm => by
    by_cases c : m = l
    · subst c
      rw [Wo.same] at hm
      cases hm
      exact ⟨n0, nB, hv⟩
    · rw [Wo.ne c] at hm
      exact e.w m ob hm, fun i r m hi ho hm => by
    rw [Wo.ne (fun z => wl i r hi ho (by rw [hm, z]))]
    exact e.wn i r m hi ho hm⟩
def putHere (K : PySem.W.Frag) (W : Wo) (h n k m r : Addr) (y : Wy) : Wo := setH K (W.put h (.dct (hereK n k m r))) n k m r y
theorem putHere_out {z : Wy} {l : Addr} (h : l ∉ [ha, ln, lk, lm, lr]) : putHere K W ha ln lk lm lr z l = W l := by
  unfold putHere
  rw [setH_out (fun q => h (List.mem_cons_of_mem _ q)), Wo.ne (fun q => h (by rw [q]; simp))]
theorem putHere_here (nd : [ha, ln, lk, lm, lr].Nodup) (z : Wy) : HereW K (putHere K W ha ln lk lm lr z) ha ln lk lm lr z := by
  have nd2 := nd
  simp only [List.nodup_cons, List.mem_cons, List.not_mem_nil, or_false, not_or] at nd2
  obtain ⟨⟨a1, a2, a3, a4⟩, ⟨b1, b2, b3⟩, ⟨c1, c2⟩, d1, _⟩ := nd2
  unfold putHere setH
  exact ⟨by rw [Wo.ne a4, Wo.ne a3, Wo.ne a2, Wo.ne a1, Wo.same], by rw [Wo.ne b3, Wo.ne b2, Wo.ne b1, Wo.same], by rw [Wo.ne c2, Wo.ne c1, Wo.same], by rw [Wo.ne d1, Wo.same], Wo.same, nd⟩
theorem evs_copy {rD rL rP : RC} (oD : OkD rD) (oL : OkL rL) (oP : OkP rP) {s k i : Nat} {ts : TS} {o : Out} (sk : s ≠ k) (hi : i < n) (hkn : k < n) (hW : HereW K W ha ln lk lm lr y) (h2 : E s = some (.fz (eqA (.ref ha))))
    (h : ∀ a b c d e, [a, b, c, d, e].Nodup → (∀ x ∈ [a, b, c, d, e], W x = none) → EvS n (putHere K W a b c d e y) ts (E.put i (.fz (eqA (.ref a)))) o) :
    EvS n W (tSeq (tAsg (tCB rP (tCons (tLockE (tLc (iKeys (tVar s)) (gName k) tYes (tPair K s k rD rL) [k])) tNil)) (gName i)) ts) E o := fun B0 H0 B H σ e D q => by
  obtain ⟨v, hv, rfl⟩ := e.at_ s _ h2
  obtain ⟨⟨a1, a2, a3, a4⟩, _⟩ := hW.ne
  obtain ⟨xs1, eN, aN⟩ := e.lst hW.hn
  obtain ⟨xs2, eK, aK⟩ := e.lst hW.hk
  obtain ⟨kv1, eM, mM, aM⟩ := e.dct hW.hm
  obtain ⟨kv2, eR, mR, aR⟩ := e.dct hW.hr
  obtain ⟨ws, eH, mH, aH⟩ := e.dct hW.hh
  have ew : ws = hereV ln lk lm lr := by
    match ws, mH, aH with
    | [(k1, v1), (k2, v2), (k3, v3), (k4, v4)], mH, aH =>
      cases mH
      cases aH with
      | cons p1 t => cases t with
        | cons p2 t => cases t with
          | cons p3 t => cases t with
            | cons p4 t =>
              obtain rfl : v1 = .ref ln := p1
              obtain rfl : v2 = .ref lk := p2
              obtain rfl : v3 = .ref lm := p3
              obtain rfl : v4 = .ref lr := p4
              rfl
  rw [ew] at eH
  refine copy_raw oD oL oP sk hv (by rw [e.len]; exact hkn) eH eN eK eM eR ⟨a1, a2, a3, a4⟩ fun H9 a b c d f s9 nd fr e1 e2 e3 e4 e5 => ?_
  have e9 : Env n W B0 H0 B H9 σ E := e.ext ⟨Same.refl _, s9, e.s.trans s9, fun _ z _ => z⟩
  have fr1 : ∀ x ∈ [a, b, c, d, f], H0 x = none ∧ B x = none ∧ (∀ i r, E i = some r → r.isOwn = true → σ[i]? ≠ some (some (.ref x))) ∧ W x = none := fun x hx => by
    have hx0 := fr x hx
    refine ⟨e.x.h.free hx0, e.s.free hx0, fun i r hi ho hm => ?_, e.no hx0⟩
    obtain ⟨u, a, b⟩ := e.at_ i r hi
    obtain ⟨l2, o2, ev, _, _, hu⟩ := Rs.ownRef ho b
    rw [a, ev] at hm
    cases hm
    rw [hx0] at hu
    cases hu
  obtain ⟨n1, b1, w1, _⟩ := fr1 a (by simp)
  obtain ⟨n2, b2, w2, _⟩ := fr1 b (by simp)
  obtain ⟨n3, b3, w3, _⟩ := fr1 c (by simp)
  obtain ⟨n4, b4, w4, _⟩ := fr1 d (by simp)
  obtain ⟨n5, b5, w5, _⟩ := fr1 f (by simp)
  have x1 := e9.more (v := .dct (hereK b c d f)) n1 b1 w1 ⟨_, e1, rfl, .cons rfl (.cons rfl (.cons rfl (.cons rfl .nil)))⟩
  have x2 := x1.more (v := .lst ((y.names.map prD).map (dat K))) n2 b2 w2 ⟨_, e2, aN⟩
  have x3 := x2.more (v := .lst (y.known.map (dat K))) n3 b3 w3 ⟨_, e3, aK⟩
  have x4 := x3.more (v := .dct (madeK K y.made)) n4 b4 w4 ⟨_, e4, mM, aM⟩
  have x5 := x4.more (v := .dct (meantK K y.meant)) n5 b5 w5 ⟨_, e5, mR, aR⟩
  exact h a b c d f nd (fun x hx => (fr1 x hx).2.2.2) B0 H0 B H9 _ (x5.put (.refl x5.s) hi (r := .fz (eqA (.ref a))) rfl) D q
end
end
end Cs
namespace Cs
open PySem PySem.Spec L2
section
variable {P : Program} {w : World} {K : PySem.W.Frag} {mg : Str → Option Value} {base : Heap} {A : Adr}
def RwWalk (K : PySem.W.Frag) (n : Nat) : List AV → Wo → Rs → Wo → Prop := fun as W r W1 => ∃ (fs : List Fn) (i : Nat) (ps : List Str) (lf : Addr) (t : Tr) (p : Nat) (y : Wy) (found : List PyData) (ha ln lk lm lr : Addr) (kd : Kd),
  as = [tupA K [dat K (pgD fs), dat K (.int i), dat K (strsD ps), eqA (.ref lf)], dat K t.d, eqA (.ref ha), dat K (.int p)] ∧ HereW K W ha ln lk lm lr y ∧ W lf = some (.lst (found.map (dat K))) ∧ lf ∉ [ha, ln, lk, lm, lr] ∧ t.deep ≤ n ∧ ItL fs kd t y ∧ found.length + 2 * t.size ≤ 10000 ∧ r = .fz (dat K .none) ∧ W1 = Wcut (W.put lf (.lst ((found ++ clL fs i ps t y p).map (dat K)))) [ha, ln, lk, lm, lr]
theorem len_wwk {n : Nat} : ∀ as W r W1, RwWalk K n as W r W1 → as.length = 4 := fun as W r W1 ⟨_, _, _, _, _, _, _, _, _, _, _, _, _, _, e, _⟩ => by rw [e]; rfl
theorem fn_falseM {k : Nat} {f : Addr} {fd : FuncData} {ps : List Str} : FnOk P w K mg base CX0 k f fd ps (spM fun _ _ _ _ => False) :=
  ⟨fun _ _ _ _ ⟨_, _, _, _, _, _, _, _, h, _⟩ => h.elim, fun _ _ _ _ _ _ _ _ _ _ _ _ _ ⟨_, _, _, _, _, _, _, _, h, _⟩ => h.elim⟩
theorem most_head {g : PyData} {x : Str} {r : List PyData} (e : g = .tuple (.str x :: r)) : (if isMost g then [g] else []) = (List.replicate (if decide (x = "most") then 1 else 0) [g]).flatten := by
  subst e
  show (if decide (x = "most") then _ else _) = _
  cases decide (x = "most") <;> rfl
theorem dwants_head {d : Dd} {g : PyData} (h : g ∈ d.wants) : ∃ x r, g = .tuple (.str x :: r) := wants_head (i := 0) (ps := []) (t := .let_ "" d (.tell "")) h
theorem int_ite (b : Bool) : (if b then (1 : Int) else 0) = ((if b then 1 else 0 : Nat) : Int) := by cases b <;> rfl
theorem goC_take {i p : Nat} {gs : List PyData} {y : Wy} {j : Nat} {g : PyData} (h : gs[j]? = some g) : goC i p y (gs.take (j + 1)) = goC i p y (gs.take j) ++ [rowD i p (goY y (gs.take j)) g] ∧ goY y (gs.take (j + 1)) = (goY y (gs.take j)).heed g := by
  have e : gs.take (j + 1) = gs.take j ++ [g] := by rw [List.take_succ, h]; rfl
  rw [e]
  exact ⟨goC_snoc i p g _ y, goY_snoc g _ y⟩
theorem heed_known (y : Wy) (g : PyData) : (y.heed g).known = y.known ++ if isMost g then [g] else [] := by
  unfold Wy.heed
  split
  · rfl
  · exact (List.append_nil _).symm
theorem paired_imp {α β : Type} {R S : α → β → Prop} (h : ∀ a b, R a b → S a b) : ∀ {l : List α} {m : List β}, Paired R l m → Paired S l m
  | _, _, .nil => .nil
  | _, _, .cons a t => .cons (h _ _ a) (paired_imp h t)
theorem lf_ne {lf ha ln lk lm lr : Addr} (h : lf ∉ [ha, ln, lk, lm, lr]) : lf ≠ ha ∧ lf ≠ ln ∧ lf ≠ lk ∧ lf ≠ lm ∧ lf ≠ lr := by
  simp only [List.mem_cons, List.not_mem_nil, or_false, not_or] at h
  exact h
theorem step_w_walk (T : Tx K w mg A) (n : Nat) (R : List AV → Wo → Rs → Wo → Prop) (G_w_walk : FnOk P w K mg base CX0 (n + 1) A.f_w_walk A.fd_w_walk P_w_walk (spM R)) (hG : ∀ m, n = m + 1 → ∀ as W r W1, RwWalk K m as W r W1 → R as W r W1) :
    FnOk P w K mg base CX0 (n + 2) A.f_w_walk A.fd_w_walk P_w_walk (spM (RwWalk K n)) := by
  have G_w_wants := ok_w_wants (P := P) (base := base) T
  have G_w_lets := ok_w_lets (P := P) (base := base) T
  have G_w_size := ok_w_size (P := P) (base := base) T n
  refine T.F_w_walk.ok sc_w_walk (fun vs H Q E h => spM_len len_wwk h) (fun cdv AA outer s H vs Q E hr h => ?_)
  refine ⟨_, (pss_cons (ps_asg (pv 0) (pg_tup (by rfl) (pgs_cons (pg_name (i := 4) sc_w_walk.nd rfl (.inl rfl)) (pgs_cons (pg_name (i := 5) sc_w_walk.nd rfl (.inl rfl)) (pgs_cons (pg_name (i := 6) sc_w_walk.nd rfl (.inl rfl)) (pgs_cons (pg_name (i := 7) sc_w_walk.nd rfl (.inl rfl)) pgs_nil))))))
  (pss_one (ps_if (pt_cmpR op_eq (pe_ix ix_tup (pv 1) pe_int (fun _ _ => rfl)) pe_str (nomark _))
  (pss_cons (ps_set (i := 8) sc_w_walk.nd rfl (.inl rfl) (pe_tup (pa_cons pe_str (pa_cons (pv 5) (pa_cons (pv 6) (pa_cons (pe_dget (hu_of hr) (pe_dget (hu_of hr) (pv 2) pe_str (fun _ _ => rfl)) (pe_ix ix_tup (pv 1) pe_int (fun _ _ => rfl)) (fun _ _ => rfl)) pa_nil))))))
  (pss_one (ps_expr (pe_bm PySem.F.plainAttrs_list PySem.F.slot_list_append PySem.F.type_list_append mt_append (pv 7) (pa_cons (pe_tup (pa_cons (pv 5) (pa_cons (pv 3) (pa_cons (pe_callTy cr_tupF (by rfl) T.n_tuple (by decide +kernel) (pa_cons (pe_dget (hu_of hr) (pv 2) pe_str (fun _ _ => rfl)) pa_nil)) (pa_cons (pe_callTy cr_tupF (by rfl) T.n_tuple (by decide +kernel) (pa_cons (pe_dget (hu_of hr) (pv 2) pe_str (fun _ _ => rfl)) pa_nil)) (pa_cons (pv 8) pa_nil)))))) pa_nil)))))
  (pss_one (ps_if (pt_cmpR op_eq (pe_ix ix_tup (pv 1) pe_int (fun _ _ => rfl)) pe_str (nomark _))
  (pss_cons (ps_for PassesOwn.never rfl (pi_list (pe_call G_w_wants (hr.mono (by omega)) (by rfl) T.g_w_wants T.F_w_wants.kp T.b_w_wants .nil pass0 (pa_cons (pe_ix ix_tup (pv 1) pe_int (fun _ _ => rfl)) (pa_cons (pv 2) pa_nil)))) (pg_name (i := 8) sc_w_walk.nd rfl (.inl rfl))
  (pss_cons (ps_expr (pe_bm PySem.F.plainAttrs_list PySem.F.slot_list_append PySem.F.type_list_append mt_append (pv 7) (pa_cons (pe_tup (pa_cons (pv 5) (pa_cons (pv 3) (pa_cons (pe_callTy cr_tupF (by rfl) T.n_tuple (by decide +kernel) (pa_cons (pe_dget (hu_of hr) (pv 2) pe_str (fun _ _ => rfl)) pa_nil)) (pa_cons (pe_callTy cr_tupF (by rfl) T.n_tuple (by decide +kernel) (pa_cons (pe_dget (hu_of hr) (pv 2) pe_str (fun _ _ => rfl)) pa_nil)) (pa_cons (pv 8) pa_nil)))))) pa_nil)))
  (pss_one (ps_expr (pe_bm PySem.F.plainAttrs_list PySem.F.slot_list_extend PySem.F.type_list_extend mt_extend (pe_dget (hu_of hr) (pv 2) pe_str (fun _ _ => rfl)) (pa_cons (pe_op op_rep (pe_lst (pa_cons (pv 8) pa_nil)) (pe_callTy call_int1 (by rfl) T.n_int (by decide +kernel) (pa_cons (pe_cmpR op_eq (pe_ix ix_tup (pv 8) pe_int (fun _ _ => rfl)) pe_str (nomark _)) pa_nil))) pa_nil))))))
  (pss_cons (ps_expr (pe_call G_w_lets (hr.mono (by omega)) (by rfl) T.g_w_lets T.F_w_lets.kp T.b_w_lets .nil pass0 (pa_cons (pv 4) (pa_cons (pe_ix ix_tup (pv 1) pe_int (fun _ _ => rfl)) (pa_cons (pe_ix ix_tup (pv 1) pe_int (fun _ _ => rfl)) (pa_cons (pv 2) pa_nil))))))
  (pss_one (ps_expr (pe_call G_w_walk (hr.mono (by omega)) (by rfl) T.g_w_walk T.F_w_walk.kp T.b_w_walk .nil pass0 (pa_cons (pv 0) (pa_cons (pe_ix ix_tup (pv 1) pe_int (fun _ _ => rfl)) (pa_cons (pv 2) (pa_cons (pe_op op_add (pv 3) pe_int) pa_nil)))))))))
  (pss_cons (ps_setLc (i := 9) (own := [("_law_one", 12)]) (g := (gName 12)) (tt := tYes) (te := (tIf (tTest (tOp (rEqD K) (tVar 12) _)) (tVar 12) (tTup (tCons (tOp (rIxT K) (tVar 12) _) (tCons (tDGet (tDGet (tVar 2) _) (tOp (rIxT K) (tVar 12) _)) tNil))))) rfl sc_w_walk.nd rfl rfl (sw_true rfl rfl rfl (by decide +kernel)) (pi_tup (pe_slice sl_tup (pv 1) (po_some pe_int) (po_some pe_int))) (blkOk_by (N := N_w_walk) (sc := defScope s_w_walk) (by decide +kernel)) (fun _ _ _ _ _ => (pg_name (i := 12) sc_w_walk.nd rfl (.inl rfl))) (fun _ _ _ _ _ => pts_nil) (fun _ _ _ _ _ => (pe_ifExp (pt_cmpR (op_eqD hr.units) (pv 12) (pe_tup pa_nil) (nomark _)) (pv 12) (pe_tup (pa_cons (pe_ix ix_tup (pv 12) pe_int (fun _ _ => rfl)) (pa_cons (pe_dget (hu_of hr) (pe_dget (hu_of hr) (pv 2) pe_str (fun _ _ => rfl)) (pe_ix ix_tup (pv 12) pe_int (fun _ _ => rfl)) (fun _ _ => rfl)) pa_nil))))))
  (pss_cons (ps_set (i := 10) sc_w_walk.nd rfl (.inl rfl) (pe_tup (pa_cons pe_str (pa_cons (pe_ix ix_list (pv 9) pe_int (fun _ _ => rfl)) (pa_cons (pe_ix ix_list (pv 9) pe_int (fun _ _ => rfl)) (pa_cons (pe_ix ix_tup (pv 1) pe_int (fun _ _ => rfl)) pa_nil))))))
  (pss_cons (ps_if (pt_cmpR op_eq (pe_ix ix_tup (pv 1) pe_int (fun _ _ => rfl)) pe_str (nomark _))
  (pss_one (ps_expr (pe_bm PySem.F.plainAttrs_list PySem.F.slot_list_append PySem.F.type_list_append mt_append (pv 7) (pa_cons (pe_tup (pa_cons (pv 5) (pa_cons (pv 3) (pa_cons (pe_callTy cr_tupF (by rfl) T.n_tuple (by decide +kernel) (pa_cons (pe_dget (hu_of hr) (pv 2) pe_str (fun _ _ => rfl)) pa_nil)) (pa_cons (pe_callTy cr_tupF (by rfl) T.n_tuple (by decide +kernel) (pa_cons (pe_dget (hu_of hr) (pv 2) pe_str (fun _ _ => rfl)) pa_nil)) (pa_cons (pv 10) pa_nil)))))) pa_nil))))
  pss_nil)
  (pss_cons (ps_set (i := 11) sc_w_walk.nd rfl (.inl rfl) (pe_callTy (call_dictP rfl) (by rfl) T.n_dict (by decide +kernel) (pa_cons (pe_lock (pe_lc (own := [("_law_key", 13)]) (g := (gName 13)) (tt := tYes) (te := (tTup (tCons (tVar 13) (tCons (tIf (tTest (tOp (rIn K false) (tVar 13) _)) (tCB _ (tCons (tDGet (tVar 2) (tVar 13)) tNil)) (tCB (rListO K) (tCons (tDGet (tVar 2) (tVar 13)) tNil))) tNil)))) rfl sc_w_walk.nd (pi_keys (pv 2)) (blkOk_by (N := N_w_walk) (sc := defScope s_w_walk) (by decide +kernel)) (fun _ _ _ _ _ => (pg_name (i := 13) sc_w_walk.nd rfl (.inl rfl))) (fun _ _ _ _ _ => pts_nil) (fun _ _ _ _ _ => (pe_tup (pa_cons (pv 13) (pa_cons (pe_ifExp (pt_cmpR op_in_seq (pv 13) (pe_tup (pa_cons pe_str (pa_cons pe_str pa_nil))) (by rfl)) (pe_callTy call_dictD (by rfl) T.n_dict (by decide +kernel) (pa_cons (pe_dget (hu_of hr) (pv 2) (pv 13) (fun _ _ => rfl)) pa_nil)) (pe_callTy call_list_of (by rfl) T.n_list (by decide +kernel) (pa_cons (pe_dget (hu_of hr) (pv 2) (pv 13) (fun _ _ => rfl)) pa_nil))) pa_nil)))))) pa_nil)))
  (pss_cons (ps_expr (pe_bm PySem.F.plainAttrs_list PySem.F.slot_list_append PySem.F.type_list_append mt_append (pe_dget (hu_of hr) (pv 2) pe_str (fun _ _ => rfl)) (pa_cons (pv 10) pa_nil)))
  (pss_cons (ps_expr (pe_call G_w_walk (hr.mono (by omega)) (by rfl) T.g_w_walk T.F_w_walk.kp T.b_w_walk .nil pass0 (pa_cons (pv 0) (pa_cons (pe_ix ix_tup (pv 1) pe_int (fun _ _ => rfl)) (pa_cons (pv 2) (pa_cons (pe_op op_add (pv 3) pe_int) pa_nil))))))
  (pss_one (ps_if (pt_cmpR op_eq (pe_ix ix_tup (pv 1) pe_int (fun _ _ => rfl)) pe_str (nomark _))
  (pss_cons (ps_expr (pe_bm PySem.F.plainAttrs_list PySem.F.slot_list_append PySem.F.type_list_append mt_append (pe_dget (hu_of hr) (pv 11) pe_str (fun _ _ => rfl)) (pa_cons (pe_tup (pa_cons pe_str (pa_cons (pe_ix ix_list (pv 9) pe_int (fun _ _ => rfl)) (pa_cons (pe_ix ix_list (pv 9) pe_int (fun _ _ => rfl)) (pa_cons (pe_op op_sub (pe_op op_sub pe_int pe_int) (pe_ix ix_tup (pv 1) pe_int (fun _ _ => rfl))) pa_nil))))) pa_nil)))
  (pss_one (ps_expr (pe_call G_w_walk (hr.mono (by omega)) (by rfl) T.g_w_walk T.F_w_walk.kp T.b_w_walk .nil pass0 (pa_cons (pv 0) (pa_cons (pe_ix ix_tup (pv 1) pe_int (fun _ _ => rfl)) (pa_cons (pv 11) (pa_cons (pe_op op_add (pe_op op_add (pv 3) pe_int) (pe_call G_w_size (hr.mono (by omega)) (by rfl) T.g_w_size T.F_w_size.kp T.b_w_size .nil pass0 (pa_cons (pe_ix ix_tup (pv 1) pe_int (fun _ _ => rfl)) pa_nil))) pa_nil))))))))
  pss_nil))))))))))))), ?_⟩
  refine fn_goMN (K := K) len_wwk rfl (fun as W r W1 ⟨fs, i, ps, lf, t, p, y, found, ha, ln, lk, lm, lr, kd, e1, hW, hlf, nlf, hd, it, hz, e2, e3⟩ => ?_) h (fun σ H h => h)
  subst e1 e2 e3
  refine ⟨rfl, fun _ => none, ?_⟩
  have hn : 1 ≤ n := Nat.le_trans (t_deep1 t) hd
  obtain ⟨m, rfl⟩ : ∃ m, n = m + 1 := ⟨n - 1, by omega⟩
  refine evs_seq (evs_asg (vs := [4, 5, 6, 7]) (ev_var rfl) (evg_tup (K := K) (as := [dat K (pgD fs), dat K (.int i), dat K (strsD ps), eqA (.ref lf)]) (.cons evg_name (.cons evg_name (.cons evg_name (.cons evg_name .nil)))))) ?_
  obtain ⟨f1, f2, f3, f4, f5⟩ := lf_ne nlf
  have drop1 : ∀ (ls : List Addr), (∀ l ∈ ls, W l = none ∨ l ∈ [ha, ln, lk, lm, lr]) → ∀ (W2 : Wo) (L : Ob), (∀ l, l ≠ lf → l ∉ [ha, ln, lk, lm, lr] → W2 l = W l ∨ l ∈ ls) → W2 lf = some L → ∀ l o, Wcut (W.put lf L) [ha, ln, lk, lm, lr] l = some o → W2 l = some o := by
    intro ls h1 W2 L h2 h3 l o ho
    by_cases c : l ∈ [ha, ln, lk, lm, lr]
    · rw [Wcut, if_pos c] at ho; cases ho
    · rw [Wcut.ne c] at ho
      by_cases d : l = lf
      · rw [d] at ho ⊢
        rw [Wo.same] at ho
        rw [h3, ho]
      · rw [Wo.ne d] at ho
        rcases h2 l d c with h | h
        · rw [h]; exact ho
        · rcases h1 l h with z | z
          · rw [z] at ho; cases ho
          · exact absurd z c
  cases t with
  | tell x =>
    obtain ⟨⟨ns, ok, hk, hs⟩, _⟩ := it
    have sx := (hs x kd ok).1
    refine evs_if (evT_str (x := "tell") (y := "tell") (ev_ixc (K := K) 0 (ds := [.str "tell", .str x]) (ev_var rfl) rfl) ev_str) (fun _ => ?_) (fun h => absurd h (by decide +kernel))
    refine evs_seq (evs_set (ev_tupD (K := K) (ds := [.str "behind", .int i, strsD ps, .str (y.mo x)]) (evAD_cons ev_str (evAD_cons (ev_var rfl) (evAD_cons (ev_var rfl) (evAD_cons (h_get hW (ev_var rfl) (ev_ixc (K := K) 1 (ds := [.str "tell", .str x]) (ev_var rfl) rfl) sx) evAD_nil)))))) ?_
    refine evs_fin (evs_appendWD (ds := found) (d := rowD i p y (.tuple [.str "behind", .int i, strsD ps, .str (y.mo x)])) (ev_var rfl) hlf (ev_row hW (ev_var rfl) (ev_var rfl) (ev_var rfl) (ev_var rfl)) (by omega)) ?_
    exact drop1 [] (fun _ z => nomatch z) _ _ (fun l h1 h2 => .inl (Wo.ne h1)) Wo.same
  | let_ x d t =>
    obtain ⟨std, k, hkd, lok, it2⟩ := itL_let it
    have sz : (Tr.let_ x d t).size = t.size + 1 := rfl
    have hsk : (d.kd fs).getD .num = k := by rw [hkd]; rfl
    have hw2 := dwants_len (d.mn y.mo)
    refine evs_if (evT_str (x := "let") (y := "tell") (ev_ixc (K := K) 0 (ds := [.str "let", .str x, d.d, t.d]) (ev_var rfl) rfl) ev_str) (fun h => absurd h (by decide +kernel)) (fun _ => ?_)
    refine evs_if (evT_str (x := "let") (y := "let") (ev_ixc (K := K) 0 (ds := [.str "let", .str x, d.d, t.d]) (ev_var rfl) rfl) ev_str) (fun _ => ?_) (fun h => absurd h (by decide +kernel))
    refine evs_norm [some (.fz (tupA K [dat K (pgD fs), dat K (.int i), dat K (strsD ps), eqA (.ref lf)])), some (.fz (dat K (.tuple [.str "let", .str x, d.d, t.d]))), some (.fz (eqA (.ref ha))), some (.fz (dat K (.int p))), some (.fz (dat K (pgD fs))), some (.fz (dat K (.int i))), some (.fz (dat K (strsD ps))), some (.fz (eqA (.ref lf)))] ⟨rfl, rfl, rfl, rfl, rfl, rfl, rfl, rfl, True.intro⟩ ?_
    obtain ⟨gs, hgs⟩ : ∃ gs, gs = (d.mn y.mo).wants := ⟨_, rfl⟩
    have hgl : gs.length ≤ 2 := by rw [hgs]; exact hw2
    have hgh : ∀ g ∈ gs, ∃ x r, g = PyData.tuple (.str x :: r) := fun g hg => dwants_head (d := d.mn y.mo) (by rw [← hgs]; exact hg)
    refine evs_seq (evs_forM (K := K) (as := gs.map (dat K)) (vs := [8]) (W1 := W) (fun _ => envL [some (.fz (tupA K [dat K (pgD fs), dat K (.int i), dat K (strsD ps), eqA (.ref lf)])), some (.fz (dat K (.tuple [.str "let", .str x, d.d, t.d]))), some (.fz (eqA (.ref ha))), some (.fz (dat K (.int p))), some (.fz (dat K (pgD fs))), some (.fz (dat K (.int i))), some (.fz (dat K (strsD ps))), some (.fz (eqA (.ref lf)))])
      (fun j => (W.put lf (.lst ((found ++ goC i p y (gs.take j)).map (dat K)))).put lk (.lst ((goY y (gs.take j)).known.map (dat K)))) ((evm_call (evA_cons (ev_ixc (K := K) 2 (ds := [.str "let", .str x, d.d, t.d]) (ev_var rfl) rfl) (evA_cons (ev_var rfl) evA_nil)) ⟨d, y, ha, ln, lk, lm, lr, rfl, hW, std, rfl, rfl⟩).of fun _ _ => by rw [← hgs]; exact dat_lst) ?_ (fun _ _ h => h) ?_) ?_
    · show (W.put lf (.lst ((found ++ []).map (dat K)))).put lk (.lst (y.known.map (dat K))) = W
      rw [List.append_nil, Wo.put_self hlf, Wo.put_self hW.hk]
    · intro j a ha2
      rw [List.getElem?_map] at ha2
      obtain ⟨g, hg, rfl⟩ := Option.map_eq_some_iff.mp ha2
      obtain ⟨gx, gr, ge⟩ := hgh g (List.mem_of_getElem? hg)
      obtain ⟨t1, t2⟩ := goC_take (i := i) (p := p) (y := y) hg
      have hj := (hW.put (o := .lst ((found ++ goC i p y (gs.take j)).map (dat K))) nlf).go (gs.take j)
      refine ⟨_, evg_name, ?_⟩
      obtain ⟨Wj, hWj⟩ : ∃ Wj, (W.put lf (.lst ((found ++ goC i p y (gs.take j)).map (dat K)))).put lk (.lst ((goY y (gs.take j)).known.map (dat K))) = Wj := ⟨_, rfl⟩
      have hjf : Wj lf = some (.lst ((found ++ goC i p y (gs.take j)).map (dat K))) := by rw [← hWj, Wo.ne f3, Wo.same]
      have lj : (goC i p y (gs.take j)).length ≤ 2 := by rw [goC_len, List.length_take]; omega
      have kj : (goY y (gs.take j)).known.length ≤ y.known.length + 2 := by
        have := (goY_same (gs.take j) y).2.2.2
        have : (gs.take j).length ≤ 2 := by rw [List.length_take]; omega
        omega
      have z4 := it.z4
      rw [hWj] at hj ⊢
      have hj2 := hj.put (o := .lst (((found ++ goC i p y (gs.take j)) ++ [rowD i p (goY y (gs.take j)) g]).map (dat K))) nlf
      refine evs_weak (evs_eqW (W2 := (Wj.put lf (.lst (((found ++ goC i p y (gs.take j)) ++ [rowD i p (goY y (gs.take j)) g]).map (dat K)))).put lk (.lst (((goY y (gs.take j)).known ++ (if isMost g then [g] else [])).map (dat K)))) (evs_seq (evs_appendWD (ds := found ++ goC i p y (gs.take j)) (d := rowD i p (goY y (gs.take j)) g) (ev_var rfl) hjf (ev_row hj (ev_var rfl) (ev_var rfl) (ev_var rfl) (ev_var rfl)) (by rw [List.length_append]; omega))
        (evs_extendWD (ds := (goY y (gs.take j)).known) (es := if isMost g then [g] else []) (h_known hj2 (ev_var rfl)) hj2.hk ((ev_rep (as := [dat K g]) (k := if decide (gx = "most") then 1 else 0) (ev_lstD (K := K) (ds := [g]) (evAD_cons (ev_var rfl) evAD_nil)) ((ev_intB (b := decide (gx = "most")) (ev_eqStr (K := K) (ev_ixc (K := K) 0 (ds := .str gx :: gr) (by rw [← ge]; exact ev_var rfl) rfl) ev_str)).cong (congrArg (fun u => Rs.fz (dat K (.int u))) (int_ite _))) (by cases decide (gx = "most") <;> exact Nat.le_of_ble_eq_true rfl) (by cases decide (gx = "most") <;> exact Nat.le_of_ble_eq_true rfl)).cong ?_) ?_)) ?_) ?_
      · rw [most_head ge]
        cases decide (gx = "most") <;> rfl
      · have : (if isMost g then [g] else []).length ≤ 1 := by split <;> exact Nat.le_of_ble_eq_true rfl
        omega
      · show (W.put lf _).put lk _ = _
        rw [t1, t2, heed_known, ← hWj, wo4 f3, List.append_assoc]
      · intro k2 r2 h2
        unfold En.put
        rw [if_neg (fun z => by rw [z] at h2; cases h2)]
        exact h2
    rw [List.length_map, List.take_of_length_le (Nat.le_refl gs.length)]
    have hy := (hW.put (o := .lst ((found ++ goC i p y gs).map (dat K))) nlf).go gs
    have sm := (goY_same gs y).2.2.1
    have em : (goY y gs).mo = y.mo := mo_eq y gs
    obtain ⟨Wg, hWg⟩ : ∃ Wg, (W.put lf (.lst ((found ++ goC i p y gs).map (dat K)))).put lk (.lst ((goY y gs).known.map (dat K))) = Wg := ⟨_, rfl⟩
    have hgf : Wg lf = some (.lst ((found ++ goC i p y gs).map (dat K))) := by rw [← hWg, Wo.ne f3, Wo.same]
    have hgo : ∀ l, l ≠ lf → l ∉ [ha, ln, lk, lm, lr] → Wg l = W l := fun l h1 h2 => by
      rw [← hWg, Wo.ne (fun z => h2 (by rw [z]; simp)), Wo.ne h1]
    rw [hWg] at hy ⊢
    rw [← hgs] at lok it2
    refine evs_seq (evs_dropM (evm_call (as := [dat K (pgD fs), dat K (.str x), dat K d.d, eqA (.ref ha)]) (evA_cons (ev_var rfl) (evA_cons (ev_ixc (K := K) 1 (ds := [.str "let", .str x, d.d, t.d]) (ev_var rfl) rfl) (evA_cons (ev_ixc (K := K) 2 (ds := [.str "let", .str x, d.d, t.d]) (ev_var rfl) rfl) (evA_cons (ev_var rfl) evA_nil)))) ⟨fs, x, d, k, goY y gs, ha, ln, lk, lm, lr, rfl, hy, std_same sm std, hkd, lok, rfl, rfl⟩)) ?_
    rw [em]
    have hL := setH_here hy ((goY y gs).letsL x (d.mn y.mo) k)
    have nl4 : lf ∉ [ln, lk, lm, lr] := fun z => nlf (List.mem_cons_of_mem _ z)
    have hLf := (setH_out (K := K) (W := Wg) (z := (goY y gs).letsL x (d.mn y.mo) k) nl4).trans hgf
    have lg : (goC i p y gs).length ≤ 2 := by rw [goC_len]; exact hgl
    refine evs_fin (evs_dropM (evm_call (as := [tupA K [dat K (pgD fs), dat K (.int i), dat K (strsD ps), eqA (.ref lf)], dat K t.d, eqA (.ref ha), dat K (.int ((p + 1 : Nat)))]) (evA_cons (ev_var rfl) (evA_cons (ev_ixc (K := K) 3 (ds := [.str "let", .str x, d.d, t.d]) (ev_var rfl) rfl) (evA_cons (ev_var rfl) (evA_cons (ev_addN (K := K) (x := p) (y := 1) (ev_var rfl) ev_int) evA_nil)))) (hG m rfl _ _ _ _ ⟨fs, i, ps, lf, t, p + 1, _, found ++ goC i p y gs, ha, ln, lk, lm, lr, kd, rfl, hL, hLf, nlf, Nat.le_of_succ_le_succ hd, it2, by rw [List.length_append]; omega, rfl, rfl⟩))) ?_
    have fin : found ++ clL fs i ps (.let_ x d t) y p = (found ++ goC i p y gs) ++ clL fs i ps t ((goY y gs).letsL x (d.mn y.mo) k) (p + 1) := by
      rw [List.append_assoc, hgs, ← hsk]
      rfl
    rw [fin]
    refine drop1 [] (fun _ z => nomatch z) _ _ (fun l h1 h2 => .inl ?_) (by rw [Wcut.ne nlf, Wo.same])
    rw [Wcut.ne h2, Wo.ne h1, setH_out (fun z => h2 (List.mem_cons_of_mem _ z))]
    exact hgo l h1 h2
  | claim a b c t =>
    obtain ⟨⟨ns, ok, hk, hs⟩, few, z1, z2, z3, z4⟩ := it
    have sz : (Tr.claim a b c t).size = t.size + 1 := rfl
    obtain ⟨sa, na⟩ := ms_std ok.1 hs
    obtain ⟨sb, nb⟩ := ms_std ok.2.1 hs
    refine evs_if (evT_str (x := "claim") (y := "tell") (ev_ixc (K := K) 0 (ds := [.str "claim", a.d, b.d, .int c, t.d]) (ev_var rfl) rfl) ev_str) (fun h => absurd h (by decide +kernel)) (fun _ => ?_)
    refine evs_if (evT_str (x := "claim") (y := "let") (ev_ixc (K := K) 0 (ds := [.str "claim", a.d, b.d, .int c, t.d]) (ev_var rfl) rfl) ev_str) (fun h => absurd h (by decide +kernel)) (fun _ => ?_)
    refine evs_seq (evs_set (r := .own ([a, b].map fun m : Ms => dat K (m.mn y.mo).d)) (ev_lcM (ls := [a, b]) (fun m : Ms => dat K m.d) (fun m : Ms => dat K (m.mn y.mo).d) (evi_tupD (ds := [a.d, b.d]) (ev_cutT (K := K) (ds := [.str "claim", a.d, b.d, .int c, t.d]) (ev_var rfl) 1 3 (Nat.le_of_ble_eq_true rfl) (Nat.le_of_ble_eq_true rfl) (Nat.le_of_ble_eq_true rfl) (Nat.le_of_ble_eq_true rfl))) (Nat.le_of_ble_eq_true rfl) fun m hm => ⟨_, evg_name, ev_ms (hW) rfl (ev_var rfl) ?_ ?_⟩)) ?_
    · rcases List.mem_cons.mp hm with e | e
      · rw [e]; exact sa
      · rw [List.mem_singleton.mp e]; exact sb
    · rcases List.mem_cons.mp hm with e | e
      · rw [e]; exact na
      · rw [List.mem_singleton.mp e]; exact nb
    refine evs_seq (evs_set (ev_tupD (K := K) (ds := [.str "most", (a.mn y.mo).d, (b.mn y.mo).d, .int c]) (evAD_cons ev_str (evAD_cons (ev_ixOwn (K := K) (i := 0) rfl ev_int rfl) (evAD_cons (ev_ixOwn (K := K) (i := 1) rfl ev_int rfl) (evAD_cons (ev_ixc (K := K) 3 (ds := [.str "claim", a.d, b.d, .int c, t.d]) (ev_var rfl) rfl) evAD_nil)))))) ?_
    refine evs_seq (evs_if (evT_str (x := "claim") (y := "claim") (ev_ixc (K := K) 0 (ds := [.str "claim", a.d, b.d, .int c, t.d]) (ev_var rfl) rfl) ev_str) (fun _ => evs_appendWD (ds := found) (d := rowD i p y (mostD (a.mn y.mo).d (b.mn y.mo).d c)) (ev_var rfl) hlf (ev_row hW (ev_var rfl) (ev_var rfl) (ev_var rfl) (ev_var rfl)) (by omega)) (fun h => absurd h (by decide +kernel))) ?_
    obtain ⟨Wa, hWa⟩ : ∃ Wa, W.put lf (.lst ((found ++ [rowD i p y (mostD (a.mn y.mo).d (b.mn y.mo).d c)]).map (dat K))) = Wa := ⟨_, rfl⟩
    have hA := hW.put (o := .lst ((found ++ [rowD i p y (mostD (a.mn y.mo).d (b.mn y.mo).d c)]).map (dat K))) nlf
    have hAf : (W.put lf (.lst ((found ++ [rowD i p y (mostD (a.mn y.mo).d (b.mn y.mo).d c)]).map (dat K)))) lf = _ := Wo.same
    have hAo : ∀ l, l ≠ lf → (W.put lf (.lst ((found ++ [rowD i p y (mostD (a.mn y.mo).d (b.mn y.mo).d c)]).map (dat K)))) l = W l := fun l h => Wo.ne h
    have wf : W lf ≠ none := by rw [hlf]; exact fun z => nomatch z
    show EvS _ (W.put lf (.lst ((found ++ [rowD i p y (mostD (a.mn y.mo).d (b.mn y.mo).d c)]).map (dat K)))) _ _ _
    rw [hWa] at hA hAf hAo ⊢
    refine evs_copy (K := K) (fun a kvs H Q h q => ⟨a, kvs, rfl, .inl h, q⟩) okL_of (fun a ps kvs H Q h hp q => ⟨a, ps, kvs, rfl, SqL.of h, paired_imp (fun _ _ z => SqT.of z) hp, q⟩) (by decide) (by decide) (by decide) hA rfl fun h2 n2 k2 m2 r2 nd2 fr2 => ?_
    have q2 := fun l (h : l ∈ [h2, n2, k2, m2, r2]) => fr2 l h
    have five2 : ∀ l ∈ [ha, ln, lk, lm, lr], l ∉ [h2, n2, k2, m2, r2] := fun l h z => by
      have w0 := q2 l z
      simp only [List.mem_cons, List.not_mem_nil, or_false] at h
      rcases h with rfl | rfl | rfl | rfl | rfl
      · rw [hA.hh] at w0; cases w0
      · rw [hA.hn] at w0; cases w0
      · rw [hA.hk] at w0; cases w0
      · rw [hA.hm] at w0; cases w0
      · rw [hA.hr] at w0; cases w0
    have nlf2 : lf ∉ [h2, n2, k2, m2, r2] := fun z => by have w0 := q2 lf z; rw [hAf] at w0; cases w0
    have five1 : ∀ l ∈ [h2, n2, k2, m2, r2], l ∉ [ha, ln, lk, lm, lr] := fun l h z => five2 l z h
    have fw : ∀ l ∈ [h2, n2, k2, m2, r2], W l = none := fun l h => by rw [← hAo l (fun z => nlf2 (z ▸ h))]; exact q2 l h
    have hO := putHere_here (K := K) (W := Wa) nd2 y
    have hB : HereW K (putHere K Wa h2 n2 k2 m2 r2 y) ha ln lk lm lr y := hA.on fun l hl => putHere_out (five2 l hl)
    have hBf := (putHere_out (K := K) (W := Wa) (z := y) nlf2).trans hAf
    have hBo : ∀ l, l ≠ lf → l ∉ [h2, n2, k2, m2, r2] → (putHere K Wa h2 n2 k2 m2 r2 y) l = W l := fun l h1 h3 => (putHere_out h3).trans (hAo l h1)
    obtain ⟨Wb, hWb⟩ : ∃ Wb, putHere K Wa h2 n2 k2 m2 r2 y = Wb := ⟨_, rfl⟩
    show EvS _ (putHere K Wa h2 n2 k2 m2 r2 y) _ _ _
    rw [hWb] at hO hB hBf hBo ⊢
    have kb : y.known.length < 1000000 := by omega
    refine evs_seq (evs_appendWD (ds := y.known) (d := mostD (a.mn y.mo).d (b.mn y.mo).d c) (h_known hB (ev_var rfl)) hB.hk (ev_var rfl) kb) ?_
    have hC := hB.know (mostD (a.mn y.mo).d (b.mn y.mo).d c)
    have hCf := (Wo.ne (W := Wb) (o := .lst ((y.known ++ [mostD (a.mn y.mo).d (b.mn y.mo).d c]).map (dat K))) f3).trans hBf
    refine evs_seq (evs_dropM (evm_call (as := [tupA K [dat K (pgD fs), dat K (.int i), dat K (strsD ps), eqA (.ref lf)], dat K t.d, eqA (.ref ha), dat K (.int ((p + 1 : Nat)))]) (evA_cons (ev_var rfl) (evA_cons (ev_ixc (K := K) 4 (ds := [.str "claim", a.d, b.d, .int c, t.d]) (ev_var rfl) rfl) (evA_cons (ev_var rfl) (evA_cons (ev_addN (K := K) (x := p) (y := 1) (ev_var rfl) ev_int) evA_nil)))) (hG m rfl _ _ _ _ ⟨fs, i, ps, lf, t, p + 1, _, (found ++ [rowD i p y (mostD (a.mn y.mo).d (b.mn y.mo).d c)]), ha, ln, lk, lm, lr, kd, rfl, hC, hCf, nlf, Nat.le_of_succ_le_succ hd, itL_know (t := (Tr.claim a b c t)) ok.2.2.2 few hk hs z1 z2 z3 z4 (by omega), by rw [List.length_append]; show found.length + 1 + 2 * t.size ≤ 10000; omega, rfl, rfl⟩))) ?_
    obtain ⟨Wd, hWd⟩ : ∃ Wd, Wcut ((Wb.put lk (.lst ((y.known ++ [mostD (a.mn y.mo).d (b.mn y.mo).d c]).map (dat K)))).put lf (.lst (((found ++ [rowD i p y (mostD (a.mn y.mo).d (b.mn y.mo).d c)]) ++ clL fs i ps t (y.know (mostD (a.mn y.mo).d (b.mn y.mo).d c)) (p + 1)).map (dat K)))) [ha, ln, lk, lm, lr] = Wd := ⟨_, rfl⟩
    have hDf : Wd lf = some (.lst (((found ++ [rowD i p y (mostD (a.mn y.mo).d (b.mn y.mo).d c)]) ++ clL fs i ps t (y.know (mostD (a.mn y.mo).d (b.mn y.mo).d c)) (p + 1)).map (dat K))) := by rw [← hWd, Wcut.ne nlf, Wo.same]
    have hDo : ∀ l, l ≠ lf → l ∉ [ha, ln, lk, lm, lr] → Wd l = Wb l := fun l h1 h3 => by rw [← hWd, Wcut.ne h3, Wo.ne h1, Wo.ne (fun z => h3 (by rw [z]; simp))]
    show EvS _ (Wcut ((Wb.put lk (.lst ((y.known ++ [mostD (a.mn y.mo).d (b.mn y.mo).d c]).map (dat K)))).put lf (.lst (((found ++ [rowD i p y (mostD (a.mn y.mo).d (b.mn y.mo).d c)]) ++ clL fs i ps t (y.know (mostD (a.mn y.mo).d (b.mn y.mo).d c)) (p + 1)).map (dat K)))) [ha, ln, lk, lm, lr]) _ _ _
    rw [hWd]
    refine evs_fin (evs_if (evT_str (x := "claim") (y := "if") (ev_ixc (K := K) 0 (ds := [.str "claim", a.d, b.d, .int c, t.d]) (ev_var rfl) rfl) ev_str) (fun h => absurd h (by decide +kernel)) (fun _ => evs_next)) ?_
    rw [show found ++ clL fs i ps (.claim a b c t) y p = (found ++ [rowD i p y (mostD (a.mn y.mo).d (b.mn y.mo).d c)]) ++ clL fs i ps t (y.know (mostD (a.mn y.mo).d (b.mn y.mo).d c)) (p + 1) from (List.append_assoc found [_] _).symm]
    refine drop1 [h2, n2, k2, m2, r2] (fun l z => .inl (fw l z)) _ _ (fun l h1 h3 => ?_) hDf
    by_cases c5 : l ∈ [h2, n2, k2, m2, r2]
    · exact .inr c5
    · exact .inl ((hDo l h1 h3).trans (hBo l h1 c5))
  | if_ a b c t u =>
    obtain ⟨⟨ns, ok, hk, hs⟩, few, z1, z2, z3, z4⟩ := it
    have sz : (Tr.if_ a b c t u).size = t.size + u.size + 1 := rfl
    obtain ⟨sa, na⟩ := ms_std ok.1 hs
    obtain ⟨sb, nb⟩ := ms_std ok.2.1 hs
    refine evs_if (evT_str (x := "if") (y := "tell") (ev_ixc (K := K) 0 (ds := [.str "if", a.d, b.d, .int c, t.d, u.d]) (ev_var rfl) rfl) ev_str) (fun h => absurd h (by decide +kernel)) (fun _ => ?_)
    refine evs_if (evT_str (x := "if") (y := "let") (ev_ixc (K := K) 0 (ds := [.str "if", a.d, b.d, .int c, t.d, u.d]) (ev_var rfl) rfl) ev_str) (fun h => absurd h (by decide +kernel)) (fun _ => ?_)
    refine evs_seq (evs_set (r := .own ([a, b].map fun m : Ms => dat K (m.mn y.mo).d)) (ev_lcM (ls := [a, b]) (fun m : Ms => dat K m.d) (fun m : Ms => dat K (m.mn y.mo).d) (evi_tupD (ds := [a.d, b.d]) (ev_cutT (K := K) (ds := [.str "if", a.d, b.d, .int c, t.d, u.d]) (ev_var rfl) 1 3 (Nat.le_of_ble_eq_true rfl) (Nat.le_of_ble_eq_true rfl) (Nat.le_of_ble_eq_true rfl) (Nat.le_of_ble_eq_true rfl))) (Nat.le_of_ble_eq_true rfl) fun m hm => ⟨_, evg_name, ev_ms (hW) rfl (ev_var rfl) ?_ ?_⟩)) ?_
    · rcases List.mem_cons.mp hm with e | e
      · rw [e]; exact sa
      · rw [List.mem_singleton.mp e]; exact sb
    · rcases List.mem_cons.mp hm with e | e
      · rw [e]; exact na
      · rw [List.mem_singleton.mp e]; exact nb
    refine evs_seq (evs_set (ev_tupD (K := K) (ds := [.str "most", (a.mn y.mo).d, (b.mn y.mo).d, .int c]) (evAD_cons ev_str (evAD_cons (ev_ixOwn (K := K) (i := 0) rfl ev_int rfl) (evAD_cons (ev_ixOwn (K := K) (i := 1) rfl ev_int rfl) (evAD_cons (ev_ixc (K := K) 3 (ds := [.str "if", a.d, b.d, .int c, t.d, u.d]) (ev_var rfl) rfl) evAD_nil)))))) ?_
    refine evs_seq (evs_if (evT_str (x := "if") (y := "claim") (ev_ixc (K := K) 0 (ds := [.str "if", a.d, b.d, .int c, t.d, u.d]) (ev_var rfl) rfl) ev_str) (fun h => absurd h (by decide +kernel)) (fun _ => evs_next)) ?_
    have hA := hW
    have hAf := hlf
    have hAo : ∀ l, l ≠ lf → W l = W l := fun l h => rfl
    have wf : W lf ≠ none := by rw [hlf]; exact fun z => nomatch z
    refine evs_copy (K := K) (fun a kvs H Q h q => ⟨a, kvs, rfl, .inl h, q⟩) okL_of (fun a ps kvs H Q h hp q => ⟨a, ps, kvs, rfl, SqL.of h, paired_imp (fun _ _ z => SqT.of z) hp, q⟩) (by decide) (by decide) (by decide) hA rfl fun h2 n2 k2 m2 r2 nd2 fr2 => ?_
    have q2 := fun l (h : l ∈ [h2, n2, k2, m2, r2]) => fr2 l h
    have five2 : ∀ l ∈ [ha, ln, lk, lm, lr], l ∉ [h2, n2, k2, m2, r2] := fun l h z => by
      have w0 := q2 l z
      simp only [List.mem_cons, List.not_mem_nil, or_false] at h
      rcases h with rfl | rfl | rfl | rfl | rfl
      · rw [hA.hh] at w0; cases w0
      · rw [hA.hn] at w0; cases w0
      · rw [hA.hk] at w0; cases w0
      · rw [hA.hm] at w0; cases w0
      · rw [hA.hr] at w0; cases w0
    have nlf2 : lf ∉ [h2, n2, k2, m2, r2] := fun z => by have w0 := q2 lf z; rw [hAf] at w0; cases w0
    have five1 : ∀ l ∈ [h2, n2, k2, m2, r2], l ∉ [ha, ln, lk, lm, lr] := fun l h z => five2 l z h
    have fw : ∀ l ∈ [h2, n2, k2, m2, r2], W l = none := fun l h => by rw [← hAo l (fun z => nlf2 (z ▸ h))]; exact q2 l h
    have hO := putHere_here (K := K) (W := W) nd2 y
    have hB : HereW K (putHere K W h2 n2 k2 m2 r2 y) ha ln lk lm lr y := hA.on fun l hl => putHere_out (five2 l hl)
    have hBf := (putHere_out (K := K) (W := W) (z := y) nlf2).trans hAf
    have hBo : ∀ l, l ≠ lf → l ∉ [h2, n2, k2, m2, r2] → (putHere K W h2 n2 k2 m2 r2 y) l = W l := fun l h1 h3 => (putHere_out h3).trans (hAo l h1)
    obtain ⟨Wb, hWb⟩ : ∃ Wb, putHere K W h2 n2 k2 m2 r2 y = Wb := ⟨_, rfl⟩
    show EvS _ (putHere K W h2 n2 k2 m2 r2 y) _ _ _
    rw [hWb] at hO hB hBf hBo ⊢
    have kb : y.known.length < 1000000 := by omega
    refine evs_seq (evs_appendWD (ds := y.known) (d := mostD (a.mn y.mo).d (b.mn y.mo).d c) (h_known hB (ev_var rfl)) hB.hk (ev_var rfl) kb) ?_
    have hC := hB.know (mostD (a.mn y.mo).d (b.mn y.mo).d c)
    have hCf := (Wo.ne (W := Wb) (o := .lst ((y.known ++ [mostD (a.mn y.mo).d (b.mn y.mo).d c]).map (dat K))) f3).trans hBf
    refine evs_seq (evs_dropM (evm_call (as := [tupA K [dat K (pgD fs), dat K (.int i), dat K (strsD ps), eqA (.ref lf)], dat K t.d, eqA (.ref ha), dat K (.int ((p + 1 : Nat)))]) (evA_cons (ev_var rfl) (evA_cons (ev_ixc (K := K) 4 (ds := [.str "if", a.d, b.d, .int c, t.d, u.d]) (ev_var rfl) rfl) (evA_cons (ev_var rfl) (evA_cons (ev_addN (K := K) (x := p) (y := 1) (ev_var rfl) ev_int) evA_nil)))) (hG m rfl _ _ _ _ ⟨fs, i, ps, lf, t, p + 1, _, found, ha, ln, lk, lm, lr, kd, rfl, hC, hCf, nlf, Nat.le_trans (Nat.le_max_left _ _) (Nat.le_of_succ_le_succ hd), itL_know (t := (Tr.if_ a b c t u)) ok.2.2.2.1 few.1 hk hs z1 z2 z3 z4 (by omega), by omega, rfl, rfl⟩))) ?_
    obtain ⟨Wd, hWd⟩ : ∃ Wd, Wcut ((Wb.put lk (.lst ((y.known ++ [mostD (a.mn y.mo).d (b.mn y.mo).d c]).map (dat K)))).put lf (.lst ((found ++ clL fs i ps t (y.know (mostD (a.mn y.mo).d (b.mn y.mo).d c)) (p + 1)).map (dat K)))) [ha, ln, lk, lm, lr] = Wd := ⟨_, rfl⟩
    have hDf : Wd lf = some (.lst ((found ++ clL fs i ps t (y.know (mostD (a.mn y.mo).d (b.mn y.mo).d c)) (p + 1)).map (dat K))) := by rw [← hWd, Wcut.ne nlf, Wo.same]
    have hDo : ∀ l, l ≠ lf → l ∉ [ha, ln, lk, lm, lr] → Wd l = Wb l := fun l h1 h3 => by rw [← hWd, Wcut.ne h3, Wo.ne h1, Wo.ne (fun z => h3 (by rw [z]; simp))]
    show EvS _ (Wcut ((Wb.put lk (.lst ((y.known ++ [mostD (a.mn y.mo).d (b.mn y.mo).d c]).map (dat K)))).put lf (.lst ((found ++ clL fs i ps t (y.know (mostD (a.mn y.mo).d (b.mn y.mo).d c)) (p + 1)).map (dat K)))) [ha, ln, lk, lm, lr]) _ _ _
    rw [hWd]
    have hE : HereW K Wd h2 n2 k2 m2 r2 y := hO.on fun l hl => hDo l (fun z => nlf2 (z ▸ hl)) (five1 l hl)
    have hF := hE.know (mostD (b.mn y.mo).d (a.mn y.mo).d (-1 - c))
    have g3 : lf ≠ k2 := fun z => nlf2 (by rw [z]; simp)
    have hFf := (Wo.ne (W := Wd) (o := .lst ((y.known ++ [mostD (b.mn y.mo).d (a.mn y.mo).d (-1 - c)]).map (dat K))) g3).trans hDf
    have cl := clL_len fs i ps t (y.know (mostD (a.mn y.mo).d (b.mn y.mo).d c)) (p + 1)
    refine evs_fin (evs_if (evT_str (x := "if") (y := "if") (ev_ixc (K := K) 0 (ds := [.str "if", a.d, b.d, .int c, t.d, u.d]) (ev_var rfl) rfl) ev_str) (fun _ => evs_seq (evs_appendWD (ds := y.known) (d := mostD (b.mn y.mo).d (a.mn y.mo).d (-1 - c)) (h_known hE (ev_var rfl)) hE.hk (ev_tupD (K := K) (ds := [.str "most", (b.mn y.mo).d, (a.mn y.mo).d, .int (-1 - c)]) (evAD_cons ev_str (evAD_cons (ev_ixOwn (K := K) (i := 1) rfl ev_int rfl) (evAD_cons (ev_ixOwn (K := K) (i := 0) rfl ev_int rfl) (evAD_cons ((ev_sub (K := K) (x := -1) (y := c) ((ev_sub (K := K) (x := 0) (y := 1) ev_int ev_int)) (ev_ixc (K := K) 3 (ds := [.str "if", a.d, b.d, .int c, t.d, u.d]) (ev_var rfl) rfl))) evAD_nil))))) kb) (evs_dropM (evm_call (as := [tupA K [dat K (pgD fs), dat K (.int i), dat K (strsD ps), eqA (.ref lf)], dat K u.d, eqA (.ref h2), dat K (.int ((p + 1 + t.size : Nat)))]) (evA_cons (ev_var rfl) (evA_cons (ev_ixc (K := K) 5 (ds := [.str "if", a.d, b.d, .int c, t.d, u.d]) (ev_var rfl) rfl) (evA_cons (ev_var rfl) (evA_cons (ev_addN (K := K) (x := p + 1) (y := t.size) (ev_addN (K := K) (x := p) (y := 1) (ev_var rfl) ev_int) (ev_call (evA_cons (ev_ixc (K := K) 4 (ds := [.str "if", a.d, b.d, .int c, t.d, u.d]) (ev_var rfl) rfl) evA_nil) ⟨t, rfl, rfl, Nat.le_trans (Nat.le_of_succ_le (Nat.succ_le_succ (Nat.le_max_left _ _))) hd⟩)) evA_nil)))) (hG m rfl _ _ _ _ ⟨fs, i, ps, lf, u, p + 1 + t.size, _, found ++ clL fs i ps t (y.know (mostD (a.mn y.mo).d (b.mn y.mo).d c)) (p + 1), h2, n2, k2, m2, r2, kd, rfl, hF, hFf, nlf2, Nat.le_trans (Nat.le_max_right _ _) (Nat.le_of_succ_le_succ hd), itL_know (t := (Tr.if_ a b c t u)) ok.2.2.2.2 few.2 hk hs z1 z2 z3 z4 (by omega), by rw [List.length_append]; omega, rfl, rfl⟩)))) (fun h => absurd h (by decide +kernel))) ?_
    rw [show found ++ clL fs i ps (.if_ a b c t u) y p = (found ++ clL fs i ps t (y.know (mostD (a.mn y.mo).d (b.mn y.mo).d c)) (p + 1)) ++ clL fs i ps u (y.know (mostD (b.mn y.mo).d (a.mn y.mo).d (-1 - c))) (p + 1 + t.size) from (List.append_assoc found _ _).symm]
    refine drop1 [h2, n2, k2, m2, r2] (fun l z => .inl (fw l z)) _ _ (fun l h1 h3 => ?_) (by rw [Wcut.ne nlf2, Wo.same])
    by_cases c5 : l ∈ [h2, n2, k2, m2, r2]
    · exact .inr c5
    · refine .inl ?_
      rw [Wcut.ne c5, Wo.ne h1, Wo.ne (fun z => c5 (by rw [z]; simp))]
      exact (hDo l h1 h3).trans (hBo l h1 c5)
theorem ok_w_walk (T : Tx K w mg A) : ∀ n : Nat, FnOk P w K mg base CX0 (n + 2) A.f_w_walk A.fd_w_walk P_w_walk (spM (RwWalk K n))
  | 0 => step_w_walk T 0 _ fn_falseM fun _ h => nomatch h
  | n + 1 => step_w_walk T (n + 1) _ (ok_w_walk T n) fun m h as W r W1 hr => by cases h; exact hr
end
end Cs
namespace Cs
open PySem PySem.Spec L2
/-! ## the law's own walk tells what the program tells -/
structure Alike (y z : Wy) : Prop where
  nm : z.names = y.names
  kn : z.known = y.known
  md : z.made = y.made
  mo : z.mo = y.mo
theorem Alike.row {y z : Wy} (h : Alike y z) (i p : Nat) (g : PyData) : rowD i p z g = rowD i p y g := by
  unfold rowD
  rw [h.nm, h.kn]
theorem Alike.know {y z : Wy} (h : Alike y z) (g : PyData) : Alike (y.know g) (z.know g) := ⟨h.nm, by show z.known ++ [g] = y.known ++ [g]; rw [h.kn], h.md, h.mo⟩
theorem Alike.heed {y z : Wy} (h : Alike y z) (g : PyData) : Alike (y.heed g) (z.heed g) := by
  unfold Wy.heed
  split
  · exact h.know g
  · exact h
theorem Alike.go (i p : Nat) : ∀ (gs : List PyData) {y z : Wy}, Alike y z → goC i p z gs = goC i p y gs ∧ Alike (goY y gs) (goY z gs)
  | [], _, _, h => ⟨rfl, h⟩
  | g :: gs, y, z, h => by
    obtain ⟨a, b⟩ := Alike.go i p gs (h.heed g)
    exact ⟨by show rowD i p z g :: goC i p (z.heed g) gs = rowD i p y g :: goC i p (y.heed g) gs; rw [h.row, a], b⟩
theorem lookup_app {α : Type} {x w : Str} {a : α} (hw : w ≠ x) : ∀ m : List (Str × α), (m ++ [(x, a)]).lookup w = m.lookup w
  | [] => by
    show (match w == x with | true => some a | false => none) = none
    rw [beq_false_of_ne hw]
  | (k, v) :: m => by
    show (match w == k with | true => some v | false => (m ++ [(x, a)]).lookup w) = (match w == k with | true => some v | false => m.lookup w)
    rw [lookup_app hw m]
theorem lookup_end {α : Type} {x : Str} {a : α} : ∀ {m : List (Str × α)}, m.lookup x = none → (m ++ [(x, a)]).lookup x = some a
  | [], _ => by
    show (match x == x with | true => some a | false => none) = _
    rw [beq_self_eq_true]
  | (k, v) :: m, h => by
    have h : (match x == k with | true => some v | false => m.lookup x) = none := h
    show (match x == k with | true => some v | false => (m ++ [(x, a)]).lookup x) = _
    cases e : x == k with
    | true => rw [e] at h; cases h
    | false => rw [e] at h; exact lookup_end h
theorem Alike.lets {y z : Wy} (h : Alike y z) {x : Str} {d : Dd} {k : Kd} (ny : y.meant.lookup x = none) (nz : z.meant.lookup x = none) : Alike (y.lets x d k) (z.letsL x d k) := by
  have ho : d.opened z = d.opened y := by
    cases d <;> first | rfl | exact congrArg (fun m : List (Str × Str × Str) => Option.map _ (m.lookup _)) h.md
  have mo : ∀ w, (z.meant.lookup w).getD w = (y.meant.lookup w).getD w := fun w => congrFun h.mo w
  cases e : d.opened y with
  | some u =>
    rw [lets_some e, letsL_some (ho.trans e)]
    refine ⟨h.nm, h.kn, h.md, funext fun w => ?_⟩
    show ((z.meant ++ [(x, u)]).lookup w).getD w = ((y.meant ++ [(x, u)]).lookup w).getD w
    by_cases c : w = x
    · rw [c, lookup_end ny, lookup_end nz]
    · rw [lookup_app c, lookup_app c]
      exact mo w
  | none =>
    rw [lets_none e, letsL_none (ho.trans e)]
    refine ⟨by show z.names ++ _ = y.names ++ _; rw [h.nm], by show z.known ++ toldD x z.made d = y.known ++ toldD x y.made d; rw [h.kn, h.md], ?_, funext fun w => ?_⟩
    · show d.mades z x = d.mades y x
      cases d <;> first | exact h.md | exact congrArg (· ++ _) h.md
    · show ((z.meant ++ [(x, x)]).lookup w).getD w = (y.meant.lookup w).getD w
      by_cases c : w = x
      · rw [c, lookup_end nz, ny]
        rfl
      · rw [lookup_app c]
        exact mo w
theorem goY_meant (gs : List PyData) (y : Wy) : (goY y gs).meant = y.meant := (goY_same gs y).2.2.1
theorem cl_eq {fs : List Fn} {i : Nat} {ps : List Str} {kd : Kd} : ∀ (t : Tr) (ns : Nm) (y z : Wy) (p : Nat), t.ok (fs.map Fn.hd) kd ns → (∀ x, look ns x = none → y.meant.lookup x = none ∧ z.meant.lookup x = none) → Alike y z → clL fs i ps t z p = clT fs i ps t y p
  | .tell x, ns, y, z, p, ok, hk, h => by
    show [rowD i p z (.tuple [.str "behind", .int i, strsD ps, .str (z.mo x)])] = [rowD i p y (.tuple [.str "behind", .int i, strsD ps, .str (y.mo x)])]
    rw [h.mo, h.row]
  | .claim a b n t, ns, y, z, p, ok, hk, h => by
    show rowD i p z (mostD (a.mn z.mo).d (b.mn z.mo).d n) :: clL fs i ps t (z.know (mostD (a.mn z.mo).d (b.mn z.mo).d n)) (p + 1) = rowD i p y (mostD (a.mn y.mo).d (b.mn y.mo).d n) :: clT fs i ps t (y.heed (mostD (a.mn y.mo).d (b.mn y.mo).d n)) (p + 1)
    have hh : y.heed (mostD (a.mn y.mo).d (b.mn y.mo).d n) = y.know (mostD (a.mn y.mo).d (b.mn y.mo).d n) := by
      unfold Wy.heed
      exact if_pos (show decide (("most" : Str) = "most") = true from decide_eq_true rfl)
    rw [h.mo, h.row, hh]
    exact congrArg (_ :: ·) (cl_eq t ns (y.know _) (z.know _) _ ok.2.2.2 hk (h.know _))
  | .if_ a b n t u, ns, y, z, p, ok, hk, h => by
    show clL fs i ps t (z.know (mostD (a.mn z.mo).d (b.mn z.mo).d n)) (p + 1) ++ clL fs i ps u (z.know (mostD (b.mn z.mo).d (a.mn z.mo).d (-1 - n))) (p + 1 + t.size) = clT fs i ps t (y.know (mostD (a.mn y.mo).d (b.mn y.mo).d n)) (p + 1) ++ clT fs i ps u (y.know (mostD (b.mn y.mo).d (a.mn y.mo).d (-1 - n))) (p + 1 + t.size)
    rw [h.mo, cl_eq t ns (y.know _) (z.know _) _ ok.2.2.2.1 hk (h.know _), cl_eq u ns (y.know _) (z.know _) _ ok.2.2.2.2 hk (h.know _)]
  | .let_ x d t, ns, y, z, p, ok, hk, h => by
    obtain ⟨o1, o2, k, o3, o4⟩ := ok
    show goC i p z (d.mn z.mo).wants ++ clL fs i ps t ((goY z (d.mn z.mo).wants).letsL x (d.mn z.mo) ((d.kd fs).getD .num)) (p + 1) = goC i p y (d.mn y.mo).wants ++ clT fs i ps t ((goY y (d.mn y.mo).wants).lets x (d.mn y.mo) (((d.mn y.mo).kd fs).getD .num)) (p + 1)
    obtain ⟨a, b⟩ := h.go i p (d.mn y.mo).wants
    obtain ⟨n1, n2⟩ := hk x o2
    have e1 := goY_meant (d.mn y.mo).wants y
    have e2 := goY_meant (d.mn y.mo).wants z
    rw [h.mo, a, kd_mn]
    refine congrArg (_ ++ ·) (cl_eq t (ns ++ [(x, k)]) _ _ _ o4 (fun w hw => ?_) (b.lets (by rw [e1]; exact n1) (by rw [e2]; exact n2)))
    obtain ⟨h1, h2⟩ := lookK_snoc hw
    obtain ⟨m1, m2⟩ := hk w h1
    generalize goY y (d.mn y.mo).wants = y2 at *
    generalize goY z (d.mn y.mo).wants = z2 at *
    constructor
    · cases ho : (d.mn y.mo).opened y2 with
      | some u => rw [lets_some ho]; exact lookup_snoc (by rw [e1]; exact m1) h2
      | none => rw [lets_none ho]; show y2.meant.lookup w = none; rw [e1]; exact m1
    · cases ho : (d.mn y.mo).opened z2 with
      | some u => rw [letsL_some ho]; exact lookup_snoc (by rw [e2]; exact m2) h2
      | none => rw [letsL_none ho]; exact lookup_snoc (by rw [e2]; exact m2) h2
/-! ### all clauses, by the law's own walk -/
def way0L (i : Nat) (f : Fn) : Wy := ⟨f.ps, [.tuple [.str "ahead", .int i, strsD (f.ps.map (·.1))]], [], (f.ps.map (·.1)).map fun x => (x, x)⟩
theorem lookup_self : ∀ (xs : List Str) (x : Str), (xs.map fun x => (x, x)).lookup x = if x ∈ xs then some x else none
  | [], _ => rfl
  | y :: xs, x => by
    show (match x == y with | true => some y | false => (xs.map fun x => (x, x)).lookup x) = _
    by_cases c : x = y
    · rw [c, beq_self_eq_true, if_pos (List.mem_cons_self ..)]
    · rw [beq_false_of_ne c]
      show (xs.map fun x => (x, x)).lookup x = _
      rw [lookup_self xs x]
      by_cases d : x ∈ xs
      · rw [if_pos d, if_pos (List.mem_cons_of_mem _ d)]
      · rw [if_neg d, if_neg (fun z => (List.mem_cons.mp z).elim c d)]
theorem way0_alike (i : Nat) (f : Fn) : Alike (way0 i f) (way0L i f) := ⟨rfl, rfl, rfl, funext fun x => by
  show (((f.ps.map (·.1)).map fun x => (x, x)).lookup x).getD x = (([] : List (Str × Str)).lookup x).getD x
  rw [lookup_self]
  split <;> rfl⟩
theorem look_none {ns : Nm} {x : Str} (h : look ns x = none) : x ∉ ns.map (·.1) := fun z => by
  obtain ⟨p, hp, rfl⟩ := List.mem_map.mp z
  unfold look at h
  rw [Option.map_eq_none_iff, List.find?_eq_none] at h
  exact h p hp (decide_eq_true rfl)
theorem look_some {ns : Nm} {x : Str} {k : Kd} (h : look ns x = some k) : ∃ p ∈ ns, p.1 = x := by
  unfold look at h
  obtain ⟨p, hp, _⟩ := Option.map_eq_some_iff.mp h
  have := List.find?_some hp
  exact ⟨p, List.mem_of_find?_eq_some hp, of_decide_eq_true this⟩
theorem way0_it {fs : List Fn} {i : Nat} {f : Fn} (h : f.ok (fs.map Fn.hd)) (h4 : ∀ f ∈ fs, f.ps.length ≤ 4) : ItL fs f.kd f.tr (way0L i f) := by
  obtain ⟨l4, okn, nd, ok, sz, dp⟩ := h
  refine ⟨⟨f.ps, ok, fun x hx => ⟨?_, rfl⟩, fun x k hx => ?_⟩, tr_few h4 ok, ?_, ?_, ?_, ?_⟩
  · show ((f.ps.map (·.1)).map fun x => (x, x)).lookup x = none
    rw [lookup_self, if_neg (look_none hx)]
  · obtain ⟨p, hp, rfl⟩ := look_some hx
    refine ⟨⟨p.1, ?_⟩, okn p hp⟩
    show ((f.ps.map (·.1)).map fun x => (x, x)).lookup p.1 = _
    rw [lookup_self, if_pos (List.mem_map.mpr ⟨p, hp, rfl⟩)]
  · show ((f.ps.map (·.1)).map fun x => (x, x)).length + _ ≤ _
    rw [List.length_map, List.length_map]
    omega
  · show 0 + _ ≤ _
    omega
  · show f.ps.length + _ ≤ _
    omega
  · show 1 + _ ≤ _
    omega
theorem clL_I {fs : List Fn} {i : Nat} {f : Fn} (h : f.ok (fs.map Fn.hd)) (hf : fs[i]? = some f) : clL fs i (f.ps.map (·.1)) f.tr (way0L i f) 0 = clI fs i := by
  unfold clI
  rw [hf]
  refine cl_eq f.tr f.ps (way0 i f) (way0L i f) 0 h.2.2.2.1 (fun x hx => ⟨rfl, ?_⟩) (way0_alike i f)
  show ((f.ps.map (·.1)).map fun x => (x, x)).lookup x = none
  rw [lookup_self, if_neg (look_none hx)]
section
variable {P : Program} {w : World} {K : PySem.W.Frag} {mg : Str → Option Value} {base : Heap} {A : Adr}
theorem EvI.cong2 {n : Nat} {W : Wo} {E : En} {wi : TI} {as bs : List AV} (h : EvI n W wi E as) (e : as = bs) : EvI n W wi E bs := by rw [← e]; exact h
theorem ps_lstD (K : PySem.W.Frag) (ps : Nm) : (ps.map fun p => prD p) = ps.map prD := rfl
theorem ok_w_clauses (T : Tx K w mg A) : FnOk P w K mg base CX0 23 A.f_w_clauses A.fd_w_clauses P_w_clauses (spA (Rclauses K)) := by
  have G_w_walk := ok_w_walk (P := P) (base := base) T 20
  refine T.F_w_clauses.ok sc_w_clauses (fun vs H Q E h => spA_len len_cl h) (fun cdv AA outer s H vs Q E hr h => ?_)
  refine ⟨_, (pss_cons (ps_set (i := 1) sc_w_clauses.nd rfl (.inl rfl) (pe_lst pa_nil))
  (pss_cons (ps_for PassesOwn.never rfl (pi_range1 (by rfl) T.n_range (pa_cons (pe_callB call_len (by rfl) T.n_len (by decide +kernel) (pa_cons (pv 0) pa_nil)) pa_nil)) (pg_name (i := 2) sc_w_clauses.nd rfl (.inl rfl))
  (pss_cons (ps_set (i := 3) sc_w_clauses.nd rfl (.inl rfl) (pe_callTy cr_tupF (by rfl) T.n_tuple (by decide +kernel) (pa_cons (pe_lc (own := [("_law_name", 5), ("_law_kind", 6)]) (g := (gTup K 2 (gCons (gName 5) (gCons (gName 6) gNil)))) (tt := tYes) (te := (tVar 5)) rfl sc_w_clauses.nd (pi_tup (pe_ix ix_tup (pe_ix ix_tup (pv 0) (pv 2) (fun _ _ => rfl)) pe_int (fun _ _ => rfl))) (blkOk_by (N := N_w_clauses) (sc := defScope s_w_clauses) (by decide +kernel)) (fun _ _ _ _ _ => (pg_tup (by rfl) (pgs_cons (pg_name (i := 5) sc_w_clauses.nd rfl (.inl rfl)) (pgs_cons (pg_name (i := 6) sc_w_clauses.nd rfl (.inl rfl)) pgs_nil)))) (fun _ _ _ _ _ => pts_nil) (fun _ _ _ _ _ => (pv 5))) pa_nil)))
  (pss_cons (ps_set (i := 4) sc_w_clauses.nd rfl (.inl rfl) (pe_disp (pps_cons pe_str (pe_callTy call_list_of (by rfl) T.n_list (by decide +kernel) (pa_cons (pe_ix ix_tup (pe_ix ix_tup (pv 0) (pv 2) (fun _ _ => rfl)) pe_int (fun _ _ => rfl)) pa_nil)) (pps_cons pe_str (pe_lst (pa_cons (pe_tup (pa_cons pe_str (pa_cons (pv 2) (pa_cons (pv 3) pa_nil)))) pa_nil)) (pps_cons pe_str pe_dnewK pps_nil))) (by rfl) (by rfl) (fun z => by cases z) (by decide)))
  (pss_cons (ps_dput (hu_of hr) (pv 4) pe_str (pe_callTy (call_dictP rfl) (by rfl) T.n_dict (by decide +kernel) (pa_cons (pe_lc (own := [("_law_name", 5)]) (g := (gName 5)) (tt := tYes) (te := _) rfl sc_w_clauses.nd (pi_tup (pv 3)) (blkOk_by (N := N_w_clauses) (sc := defScope s_w_clauses) (by decide +kernel)) (fun _ _ _ _ _ => (pg_name (i := 5) sc_w_clauses.nd rfl (.inl rfl))) (fun _ _ _ _ _ => pts_nil) (fun _ _ _ _ _ => (pe_tup (pa_cons (pv 5) (pa_cons (pv 5) pa_nil))))) pa_nil)) rfl)
  (pss_one (ps_expr (pe_call G_w_walk (hr.mono (by decide)) (by rfl) T.g_w_walk T.F_w_walk.kp T.b_w_walk .nil pass0 (pa_cons (pe_tup (pa_cons (pv 0) (pa_cons (pv 2) (pa_cons (pv 3) (pa_cons (pv 1) pa_nil))))) (pa_cons (pe_ix ix_tup (pe_ix ix_tup (pv 0) (pv 2) (fun _ _ => rfl)) pe_int (fun _ _ => rfl)) (pa_cons (pv 4) (pa_cons pe_int pa_nil)))))))))))
  (pss_one (ps_ret (pv 1))))), ?_⟩
  refine fn_go len_cl rfl (fun as r ⟨fs, e1, e2, ok⟩ => ?_) h rfl
  subst e1 e2
  have h6 := ok.2.1
  have h4 : ∀ f ∈ fs, f.ps.length ≤ 4 := fun f hf => (ok.2.2 f hf).1
  refine evs_seq (evs_set (ev_lstD (K := K) (ds := []) evAD_nil)) ?_
  refine evs_give (i := 1) rfl fun lf wf => ?_
  let Eb : En := envL [some (.fz (pgA K fs)), some (.fz (eqA (.ref lf)))]
  let Wj : Nat → Wo := fun j => W0.put lf (.lst ((((List.range j).flatMap (clI fs))).map (dat K)))
  refine evs_seq (evs_forW (vs := [2]) (fun _ => Eb) Wj (evi_rng1 (m := fs.length) ((ev_len (K := K) (ds := fs.map fnD) ((ev_var rfl).of fun _ _ => pg_dat)).cong (by rw [List.length_map])) (by omega)) rfl (sub_env ⟨rfl, rfl, True.intro⟩) fun j a ha => ?_) ?_
  · rw [List.getElem?_map] at ha
    obtain ⟨j2, hj2, rfl⟩ := Option.map_eq_some_iff.mp ha
    have hlt : j < fs.length := by
      have := (List.getElem?_eq_some_iff.mp hj2).1
      rw [List.length_range] at this
      exact this
    rw [List.getElem?_range hlt] at hj2
    cases hj2
    have hf : fs[j]? = some fs[j] := List.getElem?_eq_getElem hlt
    obtain ⟨f, ef⟩ : ∃ f, fs[j] = f := ⟨_, rfl⟩
    rw [ef] at hf
    have okf := ok.2.2 f (List.mem_of_getElem? hf)
    have hd0 : (fs.map fnD)[j]? = some (fnD f) := by rw [List.getElem?_map, hf]; rfl
    refine ⟨_, evg_name, ?_⟩
    have hfn : ∀ (W : Wo) (E : En), E 0 = some (.fz (pgA K fs)) → E 2 = some (.fz (dat K (.int (j : Nat)))) → EvD K N_w_clauses.length W (tOp (rIxT K) (tVar 0) (tVar 2)) E (fnD f) := fun W E h0 h2 => ev_ixTD (i := j) (ds := fs.map fnD) ((ev_var h0).of fun _ _ => pg_dat) (ev_var h2) hd0
    have hfn0 : ∀ (W : Wo) (E : En), E 0 = some (.fz (pgA K fs)) → E 2 = some (.fz (dat K (.int (j : Nat)))) → EvD K N_w_clauses.length W (tOp (rIxT K) (tOp (rIxT K) (tVar 0) (tVar 2)) (tC (.int 0))) E (nsD f.ps) := fun W E h0 h2 => ev_ixc (K := K) 0 (ds := [nsD f.ps, .str f.kd.s, f.tr.d]) (hfn W E h0 h2) rfl
    -- the names
    refine evs_seq (evs_set (r := .fz (dat K (strsD (f.ps.map (·.1))))) (ev_tupFD (K := K) (ds := (f.ps.map (·.1)).map .str) (Ev.cong (ev_lcM (ls := f.ps) (fun p : Str × Kd => dat K (prD p)) (fun p : Str × Kd => dat K (.str p.1)) ((evi_tupD (ds := f.ps.map prD) (hfn0 _ _ rfl rfl)).cong2 (by rw [List.map_map]; rfl)) (by have := okf.1; omega) fun p hp => ⟨_, evg_tupD (K := K) (ds := [.str p.1, .str p.2.s]) (.cons evg_name (.cons evg_name .nil)), ev_var rfl⟩) (by rw [List.map_map, List.map_map]; rfl)))) ?_
    have nd := okf.2.2.1
    refine evs_disp3W (ev_listT (hfn0 _ _ rfl rfl)) (ev_lstD (K := K) (ds := [.tuple [.str "ahead", .int (j : Nat), strsD (f.ps.map (·.1))]]) (evAD_cons (ev_tupD (K := K) (evAD_cons ev_str (evAD_cons (ev_var rfl) (evAD_cons (ev_var rfl) evAD_nil)))) evAD_nil)) ev_dnewO (by decide) (by decide +kernel) fun ha ln lk lm nd4 fr => ?_
    have nd5 := nd4
    simp only [List.nodup_cons, List.mem_cons, List.not_mem_nil, or_false, not_or, not_false_eq_true, List.nodup_nil, and_true] at nd5
    obtain ⟨⟨n12, n13, n14⟩, ⟨n23, n24⟩, n34⟩ := nd5
    refine evs_dputN (K := K) (ev_dictNN (K := K) (fun a ps kvs H Q h hp q => ⟨a, ps, kvs, rfl, h, hp, q⟩) (Ev.cong (ev_lcM (ls := f.ps.map (·.1)) (fun x : Str => dat K (.str x)) (fun x : Str => dat K (.tuple [.str x, .str x])) ((evi_tupD (ds := (f.ps.map (·.1)).map .str) (ev_var rfl)).cong2 (by rw [List.map_map]; rfl)) (by rw [List.length_map]; have := okf.1; omega) fun p hp => ⟨_, evg_name, ev_tupD (K := K) (ds := [.str p, .str p]) (evAD_cons (ev_var rfl) (evAD_cons (ev_var rfl) evAD_nil))⟩) (by simp only [List.map_map]; rfl)) nd) (ev_var rfl) (by rw [Wo.ne n14, Wo.ne n13, Wo.ne n12, Wo.same]) ev_str (Nat.le_of_ble_eq_true rfl) fun lr wr => ?_
    have hWj : Wj j lf = some (.lst ((((List.range j).flatMap (clI fs))).map (dat K))) := Wo.same
    have nr : lr ≠ lm ∧ lr ≠ lk ∧ lr ≠ ln ∧ lr ≠ ha ∧ Wj j lr = none := by
      have r1 : lr ≠ lm := fun z => by rw [z, Wo.same] at wr; cases wr
      rw [Wo.ne r1] at wr
      have r2 : lr ≠ lk := fun z => by rw [z, Wo.same] at wr; cases wr
      rw [Wo.ne r2] at wr
      have r3 : lr ≠ ln := fun z => by rw [z, Wo.same] at wr; cases wr
      rw [Wo.ne r3] at wr
      have r4 : lr ≠ ha := fun z => by rw [z, Wo.same] at wr; cases wr
      rw [Wo.ne r4] at wr
      exact ⟨r1, r2, r3, r4, wr⟩
    obtain ⟨r1, r2, r3, r4, r5⟩ := nr
    have fl : ∀ x, Wj j x = none → lf ≠ x := fun x h z => by rw [← z, hWj] at h; cases h
    have l1 := fl ha (fr ha (by simp))
    have l2 := fl ln (fr ln (by simp))
    have l3 := fl lk (fr lk (by simp))
    have l4 := fl lm (fr lm (by simp))
    have l5 := fl lr r5
    obtain ⟨Wz, hWz⟩ : ∃ Wz : Wo, (((((((Wj j).put ha (.dct [(.inr "names", eqA (.ref ln)), (.inr "known", eqA (.ref lk)), (.inr "made", eqA (.ref lm))])).put ln (.lst ((f.ps.map prD).map (dat K)))).put lk (.lst ([PyData.tuple [.str "ahead", .int (j : Nat), strsD (f.ps.map (·.1))]].map (dat K)))).put lm (.dct [])).put lr (.dct ((f.ps.map (·.1)).map fun x => ((.inr x : Key), dat K (.str x))))).put ha (.dct (putA [(.inr "names", eqA (.ref ln)), (.inr "known", eqA (.ref lk)), (.inr "made", eqA (.ref lm))] (.inr "root") (eqA (.ref lr))))) = Wz := ⟨_, rfl⟩
    show EvS _ (((((((Wj j).put ha (.dct [(.inr "names", eqA (.ref ln)), (.inr "known", eqA (.ref lk)), (.inr "made", eqA (.ref lm))])).put ln (.lst ((f.ps.map prD).map (dat K)))).put lk (.lst ([PyData.tuple [.str "ahead", .int (j : Nat), strsD (f.ps.map (·.1))]].map (dat K)))).put lm (.dct [])).put lr (.dct ((f.ps.map (·.1)).map fun x => ((.inr x : Key), dat K (.str x))))).put ha (.dct (putA [(.inr "names", eqA (.ref ln)), (.inr "known", eqA (.ref lk)), (.inr "made", eqA (.ref lm))] (.inr "root") (eqA (.ref lr))))) _ _ _
    have hH : HereW K Wz ha ln lk lm lr (way0L j f) := by
      rw [← hWz]
      refine ⟨by rw [Wo.same]; rfl, by rw [Wo.ne (Ne.symm n12), Wo.ne r3.symm, Wo.ne n24, Wo.ne n23, Wo.same]; rfl, by rw [Wo.ne (Ne.symm n13), Wo.ne r2.symm, Wo.ne n34, Wo.same]; rfl, by rw [Wo.ne (Ne.symm n14), Wo.ne r1.symm, Wo.same]; rfl, ?_, ?_⟩
      · rw [Wo.ne r4, Wo.same]
        show some (Ob.dct _) = some (Ob.dct (meantK K ((f.ps.map (·.1)).map fun x => (x, x))))
        unfold meantK
        simp only [List.map_map]
        rfl
      · simp only [List.nodup_cons, List.mem_cons, List.not_mem_nil, or_false, not_or, not_false_eq_true, List.nodup_nil, and_true]
        exact ⟨⟨n12, n13, n14, r4.symm⟩, ⟨n23, n24, r3.symm⟩, ⟨n34, r2.symm⟩, r1.symm⟩
    have hF : Wz lf = some (.lst ((((List.range j).flatMap (clI fs))).map (dat K))) := by rw [← hWz, Wo.ne l1, Wo.ne l5, Wo.ne l4, Wo.ne l3, Wo.ne l2, Wo.ne l1]; exact hWj
    have nlf : lf ∉ [ha, ln, lk, lm, lr] := by
      simp only [List.mem_cons, List.not_mem_nil, or_false, not_or]
      exact ⟨l1, l2, l3, l4, l5⟩
    rw [hWz]
    have fll := flat_len (clI_len ok) j
    have f120 : j * 120 ≤ 6 * 120 := Nat.mul_le_mul_right _ (by omega)
    have hs := okf.2.2.2.2.1
    refine evs_weak (evs_weakW (evs_dropM (evm_call (as := [tupA K [dat K (pgD fs), dat K (.int (j : Nat)), dat K (strsD (f.ps.map (·.1))), eqA (.ref lf)], dat K f.tr.d, eqA (.ref ha), dat K (.int ((0 : Nat)))]) (evA_cons (ev_tup (K := K) (evA_cons ((ev_var rfl).of fun _ _ => pg_dat) (evA_cons (ev_var rfl) (evA_cons (ev_var rfl) (evA_cons (ev_var rfl) evA_nil))))) (evA_cons (ev_ixc (K := K) 2 (ds := [nsD f.ps, .str f.kd.s, f.tr.d]) (hfn _ _ rfl rfl) rfl) (evA_cons (ev_var rfl) (evA_cons ev_int evA_nil)))) ⟨fs, j, f.ps.map (·.1), lf, f.tr, 0, way0L j f, (List.range j).flatMap (clI fs), ha, ln, lk, lm, lr, f.kd, rfl, hH, hF, nlf, okf.2.2.2.2.2, way0_it okf h4, by omega, rfl, rfl⟩)) ?_) ?_
    · intro l o ho
      have e : Wj (j + 1) = W0.put lf (.lst ((((List.range j).flatMap (clI fs)) ++ clL fs j (f.ps.map (·.1)) f.tr (way0L j f) 0).map (dat K))) := by
        rw [clL_I okf hf]
        show W0.put lf (.lst ((((List.range (j + 1)).flatMap (clI fs))).map (dat K))) = _
        rw [List.range_succ, List.flatMap_append, List.flatMap_cons, List.flatMap_nil, List.append_nil]
      rw [e] at ho
      by_cases c : l = lf
      · rw [c] at ho ⊢
        rw [Wcut.ne nlf]
        rw [Wo.same] at ho ⊢
        exact ho
      · rw [Wo.ne c] at ho
        cases ho
    · exact sub_env ⟨rfl, rfl, True.intro⟩
  · rw [List.length_map, List.length_range]
    exact evs_retW rfl Wo.same
end
end Cs
namespace Cs
open PySem PySem.Spec L2
/-! ## branches that the law writes -/
def brDeeds : List Dd := [.put "n" "l", .tail "l", .nil, .put "m" "l"]
def brLast1 : Tr := .let_ "y" (.tail "x") (.let_ "z" (.put "n" "y") (.let_ "w" (.head "z") (.tell "w")))
def brLast2 : Tr := .let_ "w" (.head "x") (.tell "w")
def brTr (t : Tr) : Prop := ∃ d ∈ brDeeds, ∃ l, (l = brLast1 ∨ l = brLast2) ∧ t = .let_ "x" d l
def brNs : Nm := [("l", .lst), ("n", .num), ("m", .num)]
def brFn (c : Int) (t u : Tr) : Fn := ⟨brNs, .num, .if_ (.len "l") (.of "n") c t u⟩
theorem nm_ok {x : Str} (h : decide (1 ≤ x.length ∧ x.length ≤ 8) = true) (h2 : (x.cps.toList.all fun c => decide (97 ≤ c ∧ c ≤ 122)) = true) : okName x :=
  ⟨(of_decide_eq_true h).1, (of_decide_eq_true h).2, fun c hc => of_decide_eq_true (p := 97 ≤ c ∧ c ≤ 122) (List.all_eq_true.mp h2 c hc)⟩
theorem nm_x : okName "x" := nm_ok (by decide +kernel) (by decide +kernel)
theorem nm_y : okName "y" := nm_ok (by decide +kernel) (by decide +kernel)
theorem nm_z : okName "z" := nm_ok (by decide +kernel) (by decide +kernel)
theorem nm_w : okName "w" := nm_ok (by decide +kernel) (by decide +kernel)
theorem nm_l : okName "l" := nm_ok (by decide +kernel) (by decide +kernel)
theorem nm_n : okName "n" := nm_ok (by decide +kernel) (by decide +kernel)
theorem nm_m : okName "m" := nm_ok (by decide +kernel) (by decide +kernel)
theorem br_ok {hs : Hd} {t : Tr} (h : brTr t) : t.ok hs .num brNs ∧ t.size ≤ 5 ∧ t.deep ≤ 5 := by
  obtain ⟨d, hd, l, hl, rfl⟩ := h
  have h1 : d.ok hs brNs .lst := by
    simp only [brDeeds, List.mem_cons, List.not_mem_nil, or_false] at hd
    rcases hd with rfl | rfl | rfl | rfl
    · exact ⟨by decide +kernel, by decide +kernel, rfl⟩
    · exact ⟨by decide +kernel, rfl⟩
    · rfl
    · exact ⟨by decide +kernel, by decide +kernel, rfl⟩
  rcases hl with rfl | rfl
  · exact ⟨⟨nm_x, by decide +kernel, .lst, h1, nm_y, by decide +kernel, .lst, ⟨by decide +kernel, rfl⟩, nm_z, by decide +kernel, .lst, ⟨by decide +kernel, by decide +kernel, rfl⟩, nm_w, by decide +kernel, .num, ⟨by decide +kernel, rfl⟩, (by decide +kernel : look _ _ = some Kd.num)⟩, by show 5 ≤ 5; omega, by show 5 ≤ 5; omega⟩
  · exact ⟨⟨nm_x, by decide +kernel, .lst, h1, nm_w, by decide +kernel, .num, ⟨by decide +kernel, rfl⟩, (by decide +kernel : look _ _ = some Kd.num)⟩, by show 3 ≤ 5; omega, by show 3 ≤ 5; omega⟩
theorem br_pg {c : Int} {t u : Tr} (hc : -1 ≤ c ∧ c ≤ 1) (ht : brTr t) (hu : brTr u) : okPg [brFn c t u] := by
  obtain ⟨t1, t2, t3⟩ := br_ok (hs := [brFn c t u].map Fn.hd) ht
  obtain ⟨u1, u2, u3⟩ := br_ok (hs := [brFn c t u].map Fn.hd) hu
  refine ⟨Nat.le_refl 1, by show 1 ≤ 6; omega, fun f hf => ?_⟩
  rw [List.mem_singleton.mp hf]
  refine ⟨by show 3 ≤ 4; omega, fun p hp => ?_, by show (["l", "n", "m"] : List Str).Nodup; decide +kernel, ⟨(by show look brNs "l" = some Kd.lst; decide +kernel), (by show look brNs "n" = some Kd.num; decide +kernel), ⟨by omega, by omega⟩, t1, u1⟩, by show t.size + u.size + 1 ≤ 60; omega, by show max t.deep u.deep + 1 ≤ 20; omega⟩
  have hp : p ∈ brNs := hp
  simp only [brNs, List.mem_cons, List.not_mem_nil, or_false] at hp
  rcases hp with rfl | rfl | rfl
  · exact nm_l
  · exact nm_n
  · exact nm_m
section
variable {P : Program} {w : World} {K : PySem.W.Frag} {mg : Str → Option Value} {base : Heap} {A : Adr}
def pgsA (K : PySem.W.Frag) : AV := ⟨fun v B => ∃ fs, PgAt K B v fs ∧ okPg fs, fun s ⟨fs, h, o⟩ => ⟨fs, h.same (sameI_of s), o⟩⟩
def brA (K : PySem.W.Frag) : AV := ⟨fun v B => ∃ t, brTr t ∧ Im K B v t.d, fun s ⟨t, a, h⟩ => ⟨t, a, h.same (sameI_of s)⟩⟩
def brT (K : PySem.W.Frag) : AV := ⟨fun v B => ∃ c t u, -1 ≤ c ∧ c ≤ 1 ∧ brTr t ∧ brTr u ∧ Im K B v (Tr.if_ (.len "l") (.of "n") c t u).d, fun s ⟨c, t, u, a, b, d, e, h⟩ => ⟨c, t, u, a, b, d, e, h.same (sameI_of s)⟩⟩
theorem evm_drawn {n : Nat} {W : Wo} {E : En} {X : XK} {t0 te : TE} {st : Addr} {m : Int} (h0 : Ev n W t0 E (.fz (eqA (.ref st)))) (hm : EvD K n W te E (.int m)) (hW : W st = some (stO K)) (h1 : 1 ≤ m) (h2 : m ≤ 1000000) : EvM n W (tCall (spDrawn K) [] X (tCons t0 (tCons te tNil))) E (numA fun d => 0 ≤ d ∧ d < m) W := fun B0 H0 B H σ e Q q =>
  evA_cons h0 (evA_cons hm evA_nil) B0 H0 B H σ e _ fun vs B1 H1 x cs => by
    have e1 := e.ext x
    obtain ⟨n0, nB, hat⟩ := e1.w st _ hW
    cases cs with
    | cons a t => cases t with
      | cons b t =>
        cases t
        cases b
        refine ⟨B1, st, m, by rw [List.append_nil, show _ = V.ref st from a], e1.s, nB, stO_dw hat, h1, h2, fun H2 d d0 d1 x2 dw => ?_⟩
        have e2 := e1.drawn hW x2 (dw_stO dw)
        rw [Wo.put_self hW] at e2
        exact q _ B1 H2 x.b e2 ⟨d, rfl, d0, d1⟩
def RwBr (K : PySem.W.Frag) : List AV → Wo → Rs → Wo → Prop := fun as W r W1 => ∃ st, as = [eqA (.ref st)] ∧ W st = some (stO K) ∧ r = .fz (pgsA K) ∧ W1 = W
theorem len_wbr : ∀ as W r W1, RwBr K as W r W1 → as.length = 1 := fun as W r W1 ⟨_, e, _⟩ => by rw [e]; rfl
theorem evm_tup {n : Nat} {W W1 : Wo} {E : En} {ta : TA} {as : List AV} (h : EvMA n W ta E as W1) (hl : Nat.ble as.length 1000000 = true := by rfl) : EvM n W (tTup ta) E (tupA K as) W1 := fun B0 H0 B H σ e Q q => h B0 H0 B H σ e _ fun vs B1 H1 s e1 cs => by
  have lx := Paired.length cs
  refine ⟨small (by rw [lx]; exact Nat.le_of_ble_eq_true hl), fun p hp => ?_⟩
  have x := Ext.new (o := .tup vs) e1.s hp
  exact q _ _ _ (s.trans x.b) (e1.ext x) ⟨p, vs, rfl, .inl (.inl upd_same), cs.mono x.b⟩
theorem im_pr {B : Hp} {v : V} {p : Str × Kd} (h : Im K B v (prD p)) : ∃ q, v = .ref q ∧ PrAt K B q p := by
  cases h with
  | tup hs hx =>
    cases hx with
    | cons h1 t => cases t with
      | cons h2 t =>
        cases t
        obtain rfl := im_str h1
        obtain rfl := im_str h2
        exact ⟨_, rfl, hs⟩
theorem ok_w_branches (T : Tx K w mg A) : FnOk P w K mg base CX0 2 A.f_w_branches A.fd_w_branches P_w_branches (spM (RwBr K)) := by
  have G_w_drawn := ok_w_drawn (P := P) (base := base) T
  refine T.F_w_branches.ok sc_w_branches (fun vs H Q E h => spM_len len_wbr h) (fun cdv AA outer s H vs Q E hr h => ?_)
  refine ⟨_, (pss_cons (ps_set (i := 1) sc_w_branches.nd rfl (.inl rfl) (pe_lst pa_nil))
  (pss_cons (ps_for PassesOwn.never rfl (pi_range1 (by rfl) T.n_range (pa_cons pe_int pa_nil)) (pg_name (i := 2) sc_w_branches.nd rfl (.inl rfl))
  (pss_cons (ps_set (i := 3) sc_w_branches.nd rfl (.inl rfl) (pe_ix ix_list (pe_lst (pa_cons (pe_tup (pa_cons pe_str (pa_cons pe_str (pa_cons pe_str pa_nil)))) (pa_cons (pe_tup (pa_cons pe_str (pa_cons pe_str pa_nil))) (pa_cons (pe_tup (pa_cons pe_str pa_nil)) (pa_cons (pe_tup (pa_cons pe_str (pa_cons pe_str (pa_cons pe_str pa_nil)))) pa_nil))))) (pe_call G_w_drawn (hr.mono (by decide)) (by rfl) T.g_w_drawn T.F_w_drawn.kp T.b_w_drawn .nil pass0 (pa_cons (pv 0) (pa_cons pe_int pa_nil))) (fun _ _ => rfl)))
  (pss_cons (ps_set (i := 4) sc_w_branches.nd rfl (.inl rfl) (pe_tup (pa_cons pe_str (pa_cons pe_str (pa_cons (pe_tup (pa_cons pe_str (pa_cons pe_str (pa_cons pe_str pa_nil)))) (pa_cons (pe_tup (pa_cons pe_str (pa_cons pe_str (pa_cons (pe_tup (pa_cons pe_str (pa_cons pe_str pa_nil))) (pa_cons (pe_tup (pa_cons pe_str (pa_cons pe_str pa_nil))) pa_nil))))) pa_nil))))))
  (pss_cons (ps_set (i := 5) sc_w_branches.nd rfl (.inl rfl) (pe_ix ix_list (pe_lst (pa_cons (pe_tup (pa_cons pe_str (pa_cons pe_str (pa_cons (pe_tup (pa_cons pe_str (pa_cons pe_str pa_nil))) (pa_cons (pv 4) pa_nil))))) (pa_cons (pe_tup (pa_cons pe_str (pa_cons pe_str (pa_cons (pe_tup (pa_cons pe_str (pa_cons pe_str pa_nil))) (pa_cons (pe_tup (pa_cons pe_str (pa_cons pe_str pa_nil))) pa_nil))))) pa_nil))) (pe_call G_w_drawn (hr.mono (by decide)) (by rfl) T.g_w_drawn T.F_w_drawn.kp T.b_w_drawn .nil pass0 (pa_cons (pv 0) (pa_cons pe_int pa_nil))) (fun _ _ => rfl)))
  (pss_one (ps_expr (pe_bm PySem.F.plainAttrs_list PySem.F.slot_list_append PySem.F.type_list_append mt_append (pv 1) (pa_cons (pe_tup (pa_cons pe_str (pa_cons pe_str (pa_cons (pv 3) (pa_cons (pv 5) pa_nil))))) pa_nil))))))))
  (pss_cons (ps_set (i := 6) sc_w_branches.nd rfl (.inl rfl) (pe_tup (pa_cons pe_str (pa_cons (pe_tup (pa_cons pe_str (pa_cons pe_str pa_nil))) (pa_cons (pe_tup (pa_cons pe_str (pa_cons pe_str pa_nil))) (pa_cons (pe_op op_sub (pe_call G_w_drawn (hr.mono (by decide)) (by rfl) T.g_w_drawn T.F_w_drawn.kp T.b_w_drawn .nil pass0 (pa_cons (pv 0) (pa_cons pe_int pa_nil))) pe_int) (pa_cons (pe_ix ix_list (pv 1) pe_int (fun _ _ => rfl)) (pa_cons (pe_ix ix_list (pv 1) pe_int (fun _ _ => rfl)) pa_nil))))))))
  (pss_one (ps_ret (pe_tup (pa_cons (pe_tup (pa_cons (pe_tupF (pa_cons (pe_tup (pa_cons pe_str (pa_cons pe_str pa_nil))) (pa_cons (pe_tup (pa_cons pe_str (pa_cons pe_str pa_nil))) (pa_cons (pe_tup (pa_cons pe_str (pa_cons pe_str pa_nil))) pa_nil)))) (pa_cons pe_str (pa_cons (pv 6) pa_nil)))) pa_nil))))))), ?_⟩
  refine fn_goM len_wbr rfl (fun as W r W1 ⟨st, e1, hW, e2, e3⟩ => ?_) h rfl
  subst e1 e2 e3
  refine evs_seq (evs_set (ev_lst evA_nil)) ?_
  refine evs_seq (evs_forW (vs := [2]) (fun j => envL [some (.fz (eqA (.ref st))), some (.own (List.replicate j (brA K)))]) (fun _ => W1) (evi_rng1 (K := K) (m := 2) ev_int (by decide)) rfl (sub_env ⟨rfl, rfl, True.intro⟩) fun j a ha => ?_) ?_
  · have hj : j < 2 := by
      have := (List.getElem?_eq_some_iff.mp ha).1
      rw [List.length_map, List.length_range] at this
      exact this
    refine ⟨_, evg_name, ?_⟩
    refine evs_seq (evs_setM (evm_pick (K := K) (as := brDeeds.map fun d => imA K d.d) (evA_cons (ev_tupI (ds := [.str "put", .str "n", .str "l"]) (evA_cons ev_strI (evA_cons ev_strI (evA_cons ev_strI evA_nil)))) (evA_cons (ev_tupI (ds := [.str "tail", .str "l"]) (evA_cons ev_strI (evA_cons ev_strI evA_nil))) (evA_cons (ev_tupI (ds := [.str "nil"]) (evA_cons ev_strI evA_nil)) (evA_cons (ev_tupI (ds := [.str "put", .str "m", .str "l"]) (evA_cons ev_strI (evA_cons ev_strI (evA_cons ev_strI evA_nil)))) evA_nil)))) (evm_drawn (ev_var rfl) ev_int hW (by decide) (by decide)) rfl)) ?_
    refine evs_cases (i := 3) rfl fun a3 ha3 => ?_
    obtain ⟨d, hd, rfl⟩ := List.mem_map.mp ha3
    have tellI : ∀ (E : En), Ev N_w_branches.length W1 (tTup (tCons (tC (.str "tell")) (tCons (tC (.str "w")) tNil))) E (.fz (imA K (Tr.tell "w").d)) := fun E => ev_tupI (K := K) (ds := [.str "tell", .str "w"]) (evA_cons ev_strI (evA_cons ev_strI evA_nil))
    refine evs_seq (evs_set (r := .fz (imA K (Tr.let_ "z" (.put "n" "y") (.let_ "w" (.head "z") (.tell "w"))).d)) (ev_tupI (K := K) (ds := [.str "let", .str "z", (Dd.put "n" "y").d, (Tr.let_ "w" (.head "z") (.tell "w")).d]) (evA_cons ev_strI (evA_cons ev_strI (evA_cons (ev_tupI (K := K) (ds := [.str "put", .str "n", .str "y"]) (evA_cons ev_strI (evA_cons ev_strI (evA_cons ev_strI evA_nil)))) (evA_cons (ev_tupI (K := K) (ds := [.str "let", .str "w", (Dd.head "z").d, (Tr.tell "w").d]) (evA_cons ev_strI (evA_cons ev_strI (evA_cons (ev_tupI (K := K) (ds := [.str "head", .str "z"]) (evA_cons ev_strI (evA_cons ev_strI evA_nil))) (evA_cons (tellI _) evA_nil))))) evA_nil)))))) ?_
    refine evs_seq (evs_setM (evm_pick (K := K) (as := [brLast1, brLast2].map fun t : Tr => imA K t.d) (evA_cons (ev_tupI (K := K) (ds := [.str "let", .str "y", (Dd.tail "x").d, (Tr.let_ "z" (.put "n" "y") (.let_ "w" (.head "z") (.tell "w"))).d]) (evA_cons ev_strI (evA_cons ev_strI (evA_cons (ev_tupI (K := K) (ds := [.str "tail", .str "x"]) (evA_cons ev_strI (evA_cons ev_strI evA_nil))) (evA_cons (ev_var rfl) evA_nil))))) (evA_cons (ev_tupI (K := K) (ds := [.str "let", .str "w", (Dd.head "x").d, (Tr.tell "w").d]) (evA_cons ev_strI (evA_cons ev_strI (evA_cons (ev_tupI (K := K) (ds := [.str "head", .str "x"]) (evA_cons ev_strI (evA_cons ev_strI evA_nil))) (evA_cons (tellI _) evA_nil))))) evA_nil)) (evm_drawn (ev_var rfl) ev_int hW (by decide) (by decide)) rfl)) ?_
    refine evs_cases (i := 5) rfl fun a5 ha5 => ?_
    obtain ⟨l, hl, rfl⟩ := List.mem_map.mp ha5
    have hl2 : l = brLast1 ∨ l = brLast2 := by
      rcases List.mem_cons.mp hl with h | h
      · exact .inl h
      · exact .inr (List.mem_singleton.mp h)
    refine evs_weak (evs_append (a := brA K) rfl ((ev_tupI (K := K) (ds := [.str "let", .str "x", d.d, l.d]) (evA_cons ev_strI (evA_cons ev_strI (evA_cons (ev_var rfl) (evA_cons (ev_var rfl) evA_nil))))).of fun v B h => ⟨.let_ "x" d l, ⟨d, hd, l, hl2, rfl⟩, h⟩) (by rw [List.length_replicate]; omega)) ?_
    rw [← List.replicate_succ']
    exact sub_env ⟨rfl, rfl, True.intro⟩
  rw [List.length_map, List.length_range]
  refine evs_seq (evs_setM (a := brT K) (EvM.of (evm_tup (K := K) (as := [imA K (.str "if"), imA K (Ms.len "l").d, imA K (Ms.of "n").d, numA fun c => -1 ≤ c ∧ c ≤ 1, brA K, brA K]) (evma_cons (evm_of ev_strI) (evma_cons (evm_of (ev_tupI (K := K) (ds := [.str "len", .str "l"]) (evA_cons ev_strI (evA_cons ev_strI evA_nil)))) (evma_cons (evm_of (ev_tupI (K := K) (ds := [.str "of", .str "n"]) (evA_cons ev_strI (evA_cons ev_strI evA_nil)))) (evma_cons (evm_op (evm_drawn (ev_var rfl) ev_int hW (by decide) (by decide)) (evm_of (ev_int (K := K))) fun v w B H ⟨i, ev, h0, h3⟩ hw s Q q => by cases hw; exact ⟨i, 1, ev, rfl, q _ ⟨i - 1, rfl, by omega, by omega⟩⟩) (evma_cons (evm_of (ev_ixOwn (K := K) (i := 0) rfl ev_int rfl)) (evma_cons (evm_of (ev_ixOwn (K := K) (i := 1) rfl ev_int rfl)) evma_nil))))))) fun v B h => ?_)) ?_
  · obtain ⟨a, xs, ev, hs, hx⟩ := h
    cases hx with
    | cons h1 t => cases t with
      | cons h2 t => cases t with
        | cons h3 t => cases t with
          | cons h4 t => cases t with
            | cons h5 t => cases t with
              | cons h6 t =>
                cases t
                obtain ⟨c, rfl, c1, c2⟩ := h4
                obtain ⟨t5, b5, i5⟩ := h5
                obtain ⟨t6, b6, i6⟩ := h6
                rw [ev]
                exact ⟨c, t5, t6, c1, c2, b5, b6, .tup hs (.cons h1 (.cons h2 (.cons h3 (.cons (.int c) (.cons i5 (.cons i6 .nil))))))⟩
  refine evs_ret ((ev_tup (K := K) (as := [tupA K [plA [imA K (prD ("l", .lst)), imA K (prD ("n", .num)), imA K (prD ("m", .num))], imA K (.str "number"), brT K]]) (evA_cons (ev_tup (K := K) (evA_cons (ev_tupPl (evA_cons (ev_tupI (K := K) (ds := [.str "l", .str "list"]) (evA_cons ev_strI (evA_cons ev_strI evA_nil))) (evA_cons (ev_tupI (K := K) (ds := [.str "n", .str "number"]) (evA_cons ev_strI (evA_cons ev_strI evA_nil))) (evA_cons (ev_tupI (K := K) (ds := [.str "m", .str "number"]) (evA_cons ev_strI (evA_cons ev_strI evA_nil))) evA_nil)))) (evA_cons ev_strI (evA_cons (ev_var rfl) evA_nil)))) evA_nil)).of fun v B h => ?_)
  obtain ⟨a, xs, ev, hs, hx⟩ := h
  cases hx with
  | cons h1 t =>
    cases t
    obtain ⟨a2, xs2, ev2, hs2, hx2⟩ := h1
    cases hx2 with
    | cons k1 t => cases t with
      | cons k2 t => cases t with
        | cons k3 t =>
          cases t
          obtain ⟨p, ys, ev3, hp, hy⟩ := k1
          obtain rfl := im_str k2
          obtain ⟨c, t5, t6, c1, c2, b5, b6, i6⟩ := k3
          cases hy with
          | cons p1 t => cases t with
            | cons p2 t => cases t with
              | cons p3 t =>
                cases t
                obtain ⟨q1, rfl, e1⟩ := im_pr p1
                obtain ⟨q2, rfl, e2⟩ := im_pr p2
                obtain ⟨q3, rfl, e3⟩ := im_pr p3
                refine ⟨[brFn c t5 t6], ⟨a, _, ev, hs, .cons ?_ .nil⟩, br_pg ⟨c1, c2⟩ b5 b6⟩
                rw [ev3] at hs2
                exact ⟨a2, p, _, [q1, q2, q3], ev2, hs2, hp, .cons e1 (.cons e2 (.cons e3 .nil)), i6⟩
end
end Cs
namespace Cs
open PySem PySem.Spec L2
/-! ## how deep a clause is -/
theorem sz_tup {n : Nat} {ds : List PyData} (hl : Nat.ble ds.length 1000000 = true) (h : ∀ d ∈ ds, Sized n d) : Sized (n + 1) (.tuple ds) := .tup (Nat.le_of_ble_eq_true hl) h
theorem mem1 {P : PyData → Prop} {a : PyData} (h : P a) : ∀ d ∈ [a], P d := fun d hd => by rw [List.mem_singleton.mp hd]; exact h
theorem memc {P : PyData → Prop} {a : PyData} {l : List PyData} (h : P a) (t : ∀ d ∈ l, P d) : ∀ d ∈ a :: l, P d := fun d hd => by
  rcases List.mem_cons.mp hd with e | e
  · rw [e]; exact h
  · exact t d e
theorem mem0 {P : PyData → Prop} : ∀ d ∈ ([] : List PyData), P d := fun _ h => nomatch h
theorem sz_str {n : Nat} (x : Str) : Sized n (.str x) := .sc True.intro
theorem sz_int {n : Nat} (x : Int) : Sized n (.int x) := .sc True.intro
theorem sz_strs (xs : List Str) (h : xs.length ≤ 1000000) : Sized 1 (strsD xs) := .tup (by rw [List.length_map]; exact h) fun d hd => by
  obtain ⟨x, _, rfl⟩ := List.mem_map.mp hd
  exact sz_str x
theorem sz_of (x : Str) : Sized 1 (ofD x) := sz_tup rfl (memc (sz_str _) (memc (sz_str _) mem0))
theorem sz_len (x : Str) : Sized 1 (lenD x) := sz_tup rfl (memc (sz_str _) (memc (sz_str _) mem0))
theorem sz_zero : Sized 1 (.tuple []) := sz_tup rfl mem0
theorem sz_ms (m : Ms) : Sized 1 m.d := by
  cases m with
  | zero => exact sz_zero
  | of x => exact sz_of x
  | len x => exact sz_len x
theorem sz_most {a b : PyData} {n : Int} (ha : Sized 1 a) (hb : Sized 1 b) : Sized 2 (mostD a b n) := sz_tup rfl (memc (sz_str _) (memc ha (memc hb (memc (sz_int _) mem0))))
theorem sz_two {x : Str} {o : PyData} {n : Int} (h : Sized 1 o) : ∀ g ∈ two x o n, Sized 2 g := memc (sz_most (sz_of x) h) (memc (sz_most h (sz_of x)) mem0)
theorem few_mn {d : Dd} {f : Str → Str} (h : d.few) : (d.mn f).few := by
  cases d with
  | call g xs => exact Nat.le_trans (Nat.le_of_eq (List.length_map ..)) h
  | _ => exact True.intro
theorem sz_wants {d : Dd} (h : d.few) : ∀ g ∈ d.wants, Sized 2 g := by
  cases d with
  | head l => exact memc (sz_most sz_zero (sz_len l)) mem0
  | tail l => exact memc (sz_most sz_zero (sz_len l)) mem0
  | at_ l x => exact memc (sz_most sz_zero (sz_of x)) (memc (sz_most (sz_of x) (sz_len l)) mem0)
  | call g xs => exact memc (sz_tup rfl (memc (sz_str _) (memc (sz_int _) (memc (sz_strs xs (Nat.le_trans h (Nat.le_of_ble_eq_true rfl))) mem0)))) mem0
  | _ => exact mem0
theorem sz3 (w x y : Str) : Sized 2 (.tuple [.str w, .str x, .str y]) := sz_tup rfl (memc (sz_str _) (memc (sz_str _) (memc (sz_str _) mem0)))
theorem sz_told {x : Str} {m : List (Str × Str × Str)} {d : Dd} (h : d.few) : ∀ g ∈ toldD x m d, Sized 2 g := by
  cases d with
  | num n => exact sz_two sz_zero
  | sum z n => exact sz_two (sz_of z)
  | len l => exact sz_two (sz_len l)
  | nil => exact memc (sz_tup rfl (memc (sz_str _) (memc (sz_str _) mem0))) mem0
  | put n r => exact memc (sz_tup rfl (memc (sz_str _) (memc (sz_str _) (memc (sz_str _) (memc (sz_str _) mem0))))) mem0
  | tail l => exact memc (sz3 _ _ _) mem0
  | head l => exact memc (sz3 _ _ _) mem0
  | at_ l z =>
    show ∀ g ∈ (if (m.lookup l).isSome then [] else [_]), Sized 2 g
    split
    · exact mem0
    · exact memc (sz3 _ _ _) mem0
  | ask => exact mem0
  | call g xs => exact memc (sz_tup rfl (memc (sz_str _) (memc (sz_int _) (memc (sz_strs xs (Nat.le_trans h (Nat.le_of_ble_eq_true rfl))) (memc (sz_str _) mem0))))) mem0
theorem sz_ns (ns : Nm) (h : ns.length ≤ 1000000) : Sized 3 (nsD ns) := .tup (by rw [List.length_map]; exact h) fun d hd => by
  obtain ⟨p, _, rfl⟩ := List.mem_map.mp hd
  exact sz_tup rfl (memc (sz_str _) (memc (sz_str _) mem0))
theorem sz_row {i p : Nat} {y : Wy} {g : PyData} (h1 : y.names.length ≤ 1000) (h2 : y.known.length ≤ 4000) (h3 : ∀ g ∈ y.known, Sized 2 g) (hg : Sized 2 g) : Sized 4 (rowD i p y g) :=
  sz_tup rfl (memc (sz_int _) (memc (sz_int _) (memc (sz_ns _ (by omega)) (memc (.tup (by omega) h3) (memc hg.up mem0)))))
theorem mem_snoc {P : PyData → Prop} {l : List PyData} {g : PyData} (h : ∀ d ∈ l, P d) (hg : P g) : ∀ d ∈ l ++ [g], P d := fun d hd => by
  rcases List.mem_append.mp hd with e | e
  · exact h d e
  · exact mem1 hg d e
theorem mem_app {P : PyData → Prop} {l m : List PyData} (h : ∀ d ∈ l, P d) (hm : ∀ d ∈ m, P d) : ∀ d ∈ l ++ m, P d := fun d hd => by
  rcases List.mem_append.mp hd with e | e
  · exact h d e
  · exact hm d e
theorem sz_heed {y : Wy} {g : PyData} (h3 : ∀ g ∈ y.known, Sized 2 g) (hg : Sized 2 g) : ∀ d ∈ (y.heed g).known, Sized 2 d := by
  unfold Wy.heed
  split
  · exact mem_snoc h3 hg
  · exact h3
theorem goC_sz (i p : Nat) : ∀ (gs : List PyData) (y : Wy), (∀ g ∈ gs, Sized 2 g) → y.names.length ≤ 1000 → y.known.length + gs.length ≤ 4000 → (∀ g ∈ y.known, Sized 2 g) → (∀ r ∈ goC i p y gs, Sized 4 r) ∧ ∀ g ∈ (goY y gs).known, Sized 2 g
  | [], y, _, _, _, h => ⟨mem0, h⟩
  | g :: gs, y, hg, h1, h2, h3 => by
    have h2' : y.known.length + (gs.length + 1) ≤ 4000 := h2
    obtain ⟨a, b, c, d⟩ := heed_same y g
    obtain ⟨r, s⟩ := goC_sz i p gs (y.heed g) (fun z hz => hg z (List.mem_cons_of_mem _ hz)) (by rw [a]; exact h1) (by omega) (sz_heed h3 (hg g (List.mem_cons_self ..)))
    exact ⟨memc (sz_row h1 (by omega) h3 (hg g (List.mem_cons_self ..))) r, s⟩
theorem cl_sz {fs : List Fn} {i : Nat} {ps : List Str} (hps : ps.length ≤ 1000) : ∀ (t : Tr) (y : Wy) (p : Nat), t.few → y.names.length + t.size ≤ 1000 → y.known.length + 4 * t.size ≤ 4000 → (∀ g ∈ y.known, Sized 2 g) → ∀ r ∈ clT fs i ps t y p, Sized 4 r
  | .tell x, y, p, few, h1, h2, h3 => by
    have h1 : y.names.length + 1 ≤ 1000 := h1
    have h2 : y.known.length + 4 * 1 ≤ 4000 := h2
    exact (goC_sz i p [.tuple [.str "behind", .int i, strsD ps, .str (y.mo x)]] y (mem1 (sz_tup rfl (memc (sz_str _) (memc (sz_int _) (memc (sz_strs ps (by omega)) (memc (sz_str _) mem0)))))) (by omega) (by show _ + 1 ≤ _; omega) h3).1
  | .claim a b n t, y, p, few, h1, h2, h3 => by
    have h1 : y.names.length + (t.size + 1) ≤ 1000 := h1
    have h2 : y.known.length + 4 * (t.size + 1) ≤ 4000 := h2
    obtain ⟨r, s⟩ := goC_sz i p [mostD (a.mn y.mo).d (b.mn y.mo).d n] y (mem1 (sz_most (sz_ms _) (sz_ms _))) (by omega) (by show _ + 1 ≤ _; omega) h3
    obtain ⟨c1, _, _, c4⟩ := goY_same [mostD (a.mn y.mo).d (b.mn y.mo).d n] y
    have c4 : (goY y [mostD (a.mn y.mo).d (b.mn y.mo).d n]).known.length ≤ y.known.length + 1 := c4
    exact mem_app r (cl_sz hps t _ _ few (by show (goY y [mostD (a.mn y.mo).d (b.mn y.mo).d n]).names.length + t.size ≤ 1000; rw [c1]; omega) (by show (goY y [mostD (a.mn y.mo).d (b.mn y.mo).d n]).known.length + _ ≤ _; omega) s)
  | .let_ x d t, y, p, few, h1, h2, h3 => by
    have h1 : y.names.length + (t.size + 1) ≤ 1000 := h1
    have h2 : y.known.length + 4 * (t.size + 1) ≤ 4000 := h2
    have wl := dwants_len (d.mn y.mo)
    obtain ⟨r, s⟩ := goC_sz i p (d.mn y.mo).wants y (sz_wants (few_mn few.1)) (by omega) (by omega) h3
    obtain ⟨c1, _, _, c4⟩ := goY_same (d.mn y.mo).wants y
    refine mem_app r ?_
    generalize hy2 : goY y (d.mn y.mo).wants = y2 at c1 c4 s
    have gq : goY y ((Tr.let_ x d t).gs i ps y) = y2 := hy2
    rw [gq]
    obtain ⟨_, _, b3, b4, _⟩ := lets_ok (y := y2) (x := x) (d := d.mn y.mo) (k := ((d.mn y.mo).kd fs).getD .num)
    refine cl_sz hps t _ _ few.2 ?_ (by omega) ?_
    · rw [c1] at b3
      omega
    · cases ho : (d.mn y.mo).opened y2 with
      | some u => rw [lets_some ho]; exact s
      | none => rw [lets_none ho]; exact mem_app s (sz_told (few_mn few.1))
  | .if_ a b n t u, y, p, few, h1, h2, h3 => by
    have h1 : y.names.length + (t.size + u.size + 1) ≤ 1000 := h1
    have h2 : y.known.length + 4 * (t.size + u.size + 1) ≤ 4000 := h2
    have kn : ∀ g, (y.know g).known.length = y.known.length + 1 := fun g => by
      show (y.known ++ [g]).length = _
      rw [List.length_append]
      rfl
    refine mem_app mem0 (mem_app (cl_sz hps t (y.know (mostD (a.mn y.mo).d (b.mn y.mo).d n)) _ few.1 ?_ ?_ (mem_snoc h3 (sz_most (sz_ms _) (sz_ms _)))) (cl_sz hps u (y.know (mostD (b.mn y.mo).d (a.mn y.mo).d (-1 - n))) _ few.2 ?_ ?_ (mem_snoc h3 (sz_most (sz_ms _) (sz_ms _)))))
    · show y.names.length + t.size ≤ 1000; omega
    · rw [kn]; omega
    · show y.names.length + u.size ≤ 1000; omega
    · rw [kn]; omega
theorem clAll_sz {fs : List Fn} (ok : okPg fs) : Sized 5 (.list (clAll fs)) := by
  have h4 : ∀ f ∈ fs, f.ps.length ≤ 4 := fun f hf => (ok.2.2 f hf).1
  refine .lst (Nat.le_trans (clAll_len ok) (Nat.le_of_ble_eq_true rfl)) fun r hr => ?_
  obtain ⟨i, _, hi⟩ := List.mem_flatMap.mp hr
  unfold clI at hi
  cases hf : fs[i]? with
  | none => rw [hf] at hi; cases hi
  | some f =>
    rw [hf] at hi
    have okf := ok.2.2 f (List.mem_of_getElem? hf)
    have sz := okf.2.2.2.2.1
    have l4 := okf.1
    refine cl_sz (by rw [List.length_map]; omega) f.tr (way0 i f) 0 (tr_few h4 okf.2.2.2.1) (by show f.ps.length + _ ≤ _; omega) (by show 1 + _ ≤ _; omega) (mem1 ?_) r hi
    exact sz_tup rfl (memc (sz_str _) (memc (sz_int _) (memc (sz_strs _ (by rw [List.length_map]; omega)) mem0)))
end Cs
namespace Cs
open PySem PySem.Spec L2
theorem seq_by {a b : TS} {D : Ends} {σ : L2.St} {H : Hp} (I : L2.St → Hp → Prop) (ha : ∀ D' : Ends, D'.rt = D.rt → (∀ σ H, I σ H → D'.nx σ H) → a D' σ H) (hb : ∀ σ H, I σ H → b D σ H) : tSeq a b D σ H :=
  ha _ rfl hb
section
variable {P : Program} {w : World} {K : PySem.W.Frag} {mg : Str → Option Value} {base : Heap} {A : Adr}
def spLaw (K : PySem.W.Frag) : Sp := fun vs H Q _ => ∃ (a : Addr) (ns : List Int), vs = [.ref a] ∧ SqL K H a (ns.map V.int) ∧ ns.length ≤ 1000 ∧ ∀ H1, Q (.bl true) H1
set_option maxHeartbeats 8000000 in
theorem ok_law (T : Tx K w mg A) : FnOk P w K mg base CX0 24 A.f_law A.fd_law P_law (spLaw K) := by
  have G_w_start := ok_w_start (P := P) (base := base) T
  have G_w_drawn := ok_w_drawn (P := P) (base := base) T
  have G_w_program := ok_w_program (P := P) (base := base) T
  have G_w_branches := ok_w_branches (P := P) (base := base) T
  have G_w_clauses := ok_w_clauses (P := P) (base := base) T
  have G_clauses := ok_clauses (P := P) (base := base) T
  have G_w_same := ok_w_same (P := P) (base := base) T 5
  refine T.F_law.ok sc_law (fun vs H Q E h => ?_) (fun cdv AA outer s B0 vs Q E hr h => ?_)
  · obtain ⟨a, ns, rfl, _⟩ := h
    rfl
  · obtain ⟨a, ns, rfl, hS, hn, q⟩ := h
    refine ⟨_, (pss_cons (ps_set (i := 1) sc_law.nd rfl (.inl rfl) (pe_call G_w_start (hr.mono (by decide)) (by rfl) T.g_w_start T.F_w_start.kp T.b_w_start .nil pass0 (pa_cons (pv 0) pa_nil)))
  (pss_cons (ps_for PassesOwn.never rfl (pi_range1 (by rfl) T.n_range (pa_cons pe_int pa_nil)) (pg_name (i := 2) sc_law.nd rfl (.inl rfl))
  (pss_cons (ps_set (i := 3) sc_law.nd rfl (.inl rfl) (pe_call G_w_program (hr.mono (by decide)) (by rfl) T.g_w_program T.F_w_program.kp T.b_w_program .nil pass0 (pa_cons (pv 1) (pa_cons pe_int (pa_cons (pe_op op_add pe_int (pe_call G_w_drawn (hr.mono (by decide)) (by rfl) T.g_w_drawn T.F_w_drawn.kp T.b_w_drawn .nil pass0 (pa_cons (pv 1) (pa_cons pe_int pa_nil)))) pa_nil)))))
  (pss_cons (ps_if (pt_cmpR op_eq (pv 2) pe_int (nomark _))
  (pss_one (ps_set (i := 3) sc_law.nd rfl (.inl rfl) (pe_call G_w_branches (hr.mono (by decide)) (by rfl) T.g_w_branches T.F_w_branches.kp T.b_w_branches .nil pass0 (pa_cons (pv 1) pa_nil))))
  pss_nil)
  (pss_cons (ps_set (i := 4) sc_law.nd rfl (.inl rfl) (pe_call G_w_clauses (hr.mono (by decide)) (by rfl) T.g_w_clauses T.F_w_clauses.kp T.b_w_clauses .nil pass0 (pa_cons (pv 3) pa_nil)))
  (pss_one (ps_for PassesOwn.never rfl (pi_range1 (by rfl) T.n_range (pa_cons pe_int pa_nil)) (pg_name (i := 5) sc_law.nd rfl (.inl rfl))
  (pss_cons (ps_set (i := 6) sc_law.nd rfl (.inl rfl) (pe_call G_clauses (hr.mono (by decide)) (by rfl) T.g_clauses T.F_clauses.kp T.b_clauses .nil pass0 (pa_cons (pv 3) pa_nil)))
  (pss_cons (ps_if (pt_not (pt_val (pe_call G_w_same (hr.mono (by decide)) (by rfl) T.g_w_same T.F_w_same.kp T.b_w_same .nil pass0 (pa_cons (pv 6) (pa_cons (pv 4) pa_nil)))))
  (pss_one (ps_ret pe_bl))
  pss_nil)
  (pss_one (ps_expr (pe_bm PySem.F.plainAttrs_list PySem.F.slot_list_append PySem.F.type_list_append mt_append (pv 6) (pa_cons (pe_tup pa_nil) pa_nil))))))))))))
  (pss_one (ps_ret pe_bl)))), ?_⟩
    refine ⟨_, rfl, a, ns, rfl, hS, hn, fun H1 st s1 nB1 dw1 => ?_⟩
    refine ⟨6, rfl, by decide, by decide, for_it (walk_range (n := 6)) (fun i σ H => ∃ y2 y3 y4 y5 y6 B, σ = [some (.ref a), some (.ref st), y2, y3, y4, y5, y6] ∧ Same B H ∧ B st = none ∧ Dw K B H st)
      ⟨none, none, none, none, none, B0, rfl, s1, nB1, dw1⟩ (fun _ _ _ _ _ => True.intro) ?_ ?_⟩
    · rintro t x2 σ H2 H2' ht ⟨y2, y3, y4, y5, y6, B, rfl, s2, nB, dw2⟩ ⟨rfl, hx2⟩
      obtain ⟨t2, rfl⟩ : ∃ t2 : Int, x2 = .int t2 := ⟨_, hx2⟩
      refine seq_by (fun σ H => ∃ pv fs, σ = [some (.ref a), some (.ref st), some (.int t2), some pv, y4, y5, y6] ∧ Same B H ∧ Dw K B H st ∧ PgAt K H pv fs ∧ okPg fs) ?_ ?_
      · intro D' _ hI
        refine ⟨_, rfl, _, rfl, B, st, 3, rfl, s2, nB, dw2, by decide, by decide, fun H3 d d0 d2 x3 dw3 => ⟨_, _, rfl, rfl, ?_⟩⟩
        have s3 : Same B H3 := SameX.same s2 x3 nB
        refine ⟨B, st, 4, 3 + d, rfl, by decide, by decide, by omega, by omega, s3, nB, dw3, fun H4 v fs x4 dw4 hp ok _ _ one => ?_⟩
        exact hI _ _ ⟨v, fs, rfl, SameX.same s3 x4 nB, dw4, hp, ok⟩
      rintro σ H3 ⟨pv, fs, rfl, s3, dw3, hp3, ok⟩
      refine seq_by (fun σ H => ∃ pv fs B, σ = [some (.ref a), some (.ref st), some (.int t2), some pv, y4, y5, y6] ∧ Same B H ∧ B st = none ∧ Dw K B H st ∧ PgAt K H pv fs ∧ okPg fs) ?_ ?_
      · intro D' _ hI
        refine ⟨_, rfl, rfl, _, rfl, ?_⟩
        by_cases h1 : V.int t2 = V.int 0
        · refine itd h1 ?_
          refine ⟨_, rfl, B, W0.put st (stO K), [eqA (.ref st)], .fz (pgsA K), W0.put st (stO K), s3, fun l o hl => ?_, .cons rfl .nil, ⟨st, rfl, Wo.same, rfl, rfl⟩, fun v B1 H4 x4 ⟨gs, hp, okg⟩ ow => ?_⟩
          · by_cases c : l = st
            · subst c
              rw [Wo.same] at hl
              cases hl
              exact ⟨nB, dw_stO dw3⟩
            · rw [Wo.ne c] at hl
              cases hl
          · obtain ⟨_, n4, a4⟩ := ow st _ Wo.same
            exact hI _ _ ⟨v, gs, B1, rfl, x4.s, n4, stO_dw a4, hp.same (sameI_of x4.s), okg⟩
        · exact itn h1 (hI _ _ ⟨pv, fs, B, rfl, s3, nB, dw3, hp3, ok⟩)
      clear hp3 ok dw3 s3 nB dw2 s2 hx2
      rintro σ H4 ⟨pv, fs, B, rfl, s4, nB, dw4, hp4, ok⟩
      have tell : ∀ (H : Hp), PgAt K H pv fs → ∀ (X : XK) (Q : VK), (∀ l xs H1, Same H H1 → H l = none → H1 l = some (.lst xs) → DpAll K H1 xs (clAll fs) → Q (.ref l) H1) → spA (Rclauses K) [pv] H Q X := fun H hp X Q hQ =>
        ⟨H, [pgA K fs], .own ((clAll fs).map (dat K)), Same.refl _, .cons hp .nil, ⟨fs, rfl, rfl, ok⟩, fun v B1 H1 x ⟨l, xs, ev, n0, n1, eH, hx⟩ => by
          rw [ev]
          exact hQ l xs H1 x.h n0 eH (allD (hx.mono x.s))⟩
      refine seq_by (fun σ H => ∃ ld xs, σ = [some (.ref a), some (.ref st), some (.int t2), some pv, some (.ref ld), y5, y6] ∧ Same H4 H ∧ H ld = some (.lst xs) ∧ DpAll K H xs (clAll fs)) ?_ ?_
      · intro D' _ hI
        exact ⟨_, rfl, tell H4 hp4 E _ fun l xs H1 s n e hx => hI _ _ ⟨l, xs, rfl, s, e, hx⟩⟩
      rintro σ H5 ⟨ld, xs, rfl, s5, e5, hx5⟩
      refine ⟨2, rfl, by decide, by decide, for_it (walk_range (n := 2)) (fun i σ H => ∃ y5 y6, σ = [some (.ref a), some (.ref st), some (.int t2), some pv, some (.ref ld), y5, y6] ∧ Same H5 H)
        ⟨y5, y6, rfl, Same.refl _⟩ (fun _ _ _ _ _ => True.intro) ?_ ?_⟩
      · rintro k x5 σ H6' H6 hk ⟨z5, z6, rfl, s6⟩ ⟨rfl, -⟩
        have s46 := s5.trans s6
        refine seq_by (fun σ H => ∃ lf ys, σ = [some (.ref a), some (.ref st), some (.int t2), some pv, some (.ref ld), some x5, some (.ref lf)] ∧ Same H6 H ∧ H6 lf = none ∧ H lf = some (.lst ys) ∧ DpAll K H ys (clAll fs)) ?_ ?_
        · intro D' _ hI
          exact ⟨_, rfl, tell H6 (hp4.same (sameI_of s46)) E _ fun l xs H1 s n e hx => hI _ _ ⟨l, xs, rfl, s, n, e, hx⟩⟩
        rintro σ H7 ⟨lf, ys, rfl, s7, nlf, e7, hy7⟩
        refine seq_by (fun σ H => σ = [some (.ref a), some (.ref st), some (.int t2), some pv, some (.ref ld), some x5, some (.ref lf)] ∧ Same H7 H) ?_ ?_
        · intro D' _ hI
          refine ⟨_, rfl, _, rfl, .ref lf, .ref ld, .list (clAll fs), rfl, .lst (SqL.of e7) hy7, .lst (SqL.of (s7 _ _ (s6 _ _ e5))) (allD ((dAll hx5).mono (s6.trans s7))), clAll_sz ok, fun H8 s8 => ⟨_, rfl, iteF ?_⟩⟩
          exact hI _ _ ⟨rfl, s8⟩
        rintro σ H8 ⟨rfl, s8⟩
        have e8 := s8 _ _ e7
        refine ⟨_, rfl, .inl ⟨rfl, _, SqL.of e8⟩, by show 0 ≤ sizeLine; decide, fun p hp => ?_⟩
        have s9 := same_upd (o := .tup []) hp
        have ly : ys.length ≤ 720 := by
          have := Paired.length (dAll hy7)
          rw [List.length_map] at this
          rw [this]
          exact clAll_len ok
        refine ⟨lf, _, _, rfl, rfl, s9 _ _ e8, smaller (by omega), some x5, some (.ref lf), rfl, ?_⟩
        exact Same.old (s6.trans (s7.trans (s8.trans s9))) (s6.free nlf)
      · rintro σ H6 ⟨z5, z6, rfl, s6⟩
        have s46 := s5.trans s6
        exact ⟨_, _, _, _, _, B, rfl, s4.trans s46, nB, dw4.step s46⟩
    · rintro σ H2 ⟨y2, y3, y4, y5, y6, B, rfl, _⟩
      exact q _
end
end Cs
namespace Cs
open PySem PySem.Spec PyProof.Rows L2
set_option maxHeartbeats 0 in
theorem all_mk {l : PySem.W.OpenLaw} {w : World} {K : PySem.W.Frag} {h : Heap} {mg : Str → Option Value} {fa : Addr} (X : K.In h) (G : h.Ns mainGlobals mg) (hfa : mg "law" = some (.ref fa))
    {C_Way : Addr}
    {f_w_start : Addr} {oc_w_start dc_w_start pm_w_start cd_w_start ct_w_start kV_w_start : Value} {od_w_start an_w_start : Option Addr} {sl_w_start : Array (Option Value)}
    {f_w_drawn : Addr} {oc_w_drawn dc_w_drawn pm_w_drawn cd_w_drawn ct_w_drawn kV_w_drawn : Value} {od_w_drawn an_w_drawn : Option Addr} {sl_w_drawn : Array (Option Value)}
    {f_w_of : Addr} {oc_w_of dc_w_of pm_w_of cd_w_of ct_w_of kV_w_of : Value} {od_w_of an_w_of : Option Addr} {sl_w_of : Array (Option Value)}
    {f_w_measure : Addr} {oc_w_measure dc_w_measure pm_w_measure cd_w_measure ct_w_measure kV_w_measure : Value} {od_w_measure an_w_measure : Option Addr} {sl_w_measure : Array (Option Value)}
    {f_w_deed : Addr} {oc_w_deed dc_w_deed pm_w_deed cd_w_deed ct_w_deed kV_w_deed : Value} {od_w_deed an_w_deed : Option Addr} {sl_w_deed : Array (Option Value)}
    {f_w_tree : Addr} {oc_w_tree dc_w_tree pm_w_tree cd_w_tree ct_w_tree kV_w_tree : Value} {od_w_tree an_w_tree : Option Addr} {sl_w_tree : Array (Option Value)}
    {f_w_program : Addr} {oc_w_program dc_w_program pm_w_program cd_w_program ct_w_program kV_w_program : Value} {od_w_program an_w_program : Option Addr} {sl_w_program : Array (Option Value)}
    {f_w_same : Addr} {oc_w_same dc_w_same pm_w_same cd_w_same ct_w_same kV_w_same : Value} {od_w_same an_w_same : Option Addr} {sl_w_same : Array (Option Value)}
    {f_has_word : Addr} {oc_has_word dc_has_word pm_has_word cd_has_word ct_has_word kV_has_word : Value} {od_has_word an_has_word : Option Addr} {sl_has_word : Array (Option Value)}
    {f_is_row : Addr} {oc_is_row dc_is_row pm_is_row cd_is_row ct_is_row kV_is_row : Value} {od_is_row an_is_row : Option Addr} {sl_is_row : Array (Option Value)}
    {f_is_whole : Addr} {oc_is_whole dc_is_whole pm_is_whole cd_is_whole ct_is_whole kV_is_whole : Value} {od_is_whole an_is_whole : Option Addr} {sl_is_whole : Array (Option Value)}
    {f_is_between : Addr} {oc_is_between dc_is_between pm_is_between cd_is_between ct_is_between kV_is_between : Value} {od_is_between an_is_between : Option Addr} {sl_is_between : Array (Option Value)}
    {f_is_near : Addr} {oc_is_near dc_is_near pm_is_near cd_is_near ct_is_near kV_is_near : Value} {od_is_near an_is_near : Option Addr} {sl_is_near : Array (Option Value)}
    {f_stands : Addr} {oc_stands dc_stands pm_stands cd_stands ct_stands kV_stands : Value} {od_stands an_stands : Option Addr} {sl_stands : Array (Option Value)}
    {f_all_fit : Addr} {oc_all_fit dc_all_fit pm_all_fit cd_all_fit ct_all_fit kV_all_fit : Value} {od_all_fit an_all_fit : Option Addr} {sl_all_fit : Array (Option Value)}
    {f_kinds_ahead : Addr} {oc_kinds_ahead dc_kinds_ahead pm_kinds_ahead cd_kinds_ahead ct_kinds_ahead kV_kinds_ahead : Value} {od_kinds_ahead an_kinds_ahead : Option Addr} {sl_kinds_ahead : Array (Option Value)}
    {f_call_kind : Addr} {oc_call_kind dc_call_kind pm_call_kind cd_call_kind ct_call_kind kV_call_kind : Value} {od_call_kind an_call_kind : Option Addr} {sl_call_kind : Array (Option Value)}
    {f_deed_kind : Addr} {oc_deed_kind dc_deed_kind pm_deed_kind cd_deed_kind ct_deed_kind kV_deed_kind : Value} {od_deed_kind an_deed_kind : Option Addr} {sl_deed_kind : Array (Option Value)}
    {f_is_name : Addr} {oc_is_name dc_is_name pm_is_name cd_is_name ct_is_name kV_is_name : Value} {od_is_name an_is_name : Option Addr} {sl_is_name : Array (Option Value)}
    {f_within_let : Addr} {oc_within_let dc_within_let pm_within_let cd_within_let ct_within_let kV_within_let : Value} {od_within_let an_within_let : Option Addr} {sl_within_let : Array (Option Value)}
    {f_is_measure : Addr} {oc_is_measure dc_is_measure pm_is_measure cd_is_measure ct_is_measure kV_is_measure : Value} {od_is_measure an_is_measure : Option Addr} {sl_is_measure : Array (Option Value)}
    {f_is_compared : Addr} {oc_is_compared dc_is_compared pm_is_compared cd_is_compared ct_is_compared kV_is_compared : Value} {od_is_compared an_is_compared : Option Addr} {sl_is_compared : Array (Option Value)}
    {f_trees_within : Addr} {oc_trees_within dc_trees_within pm_trees_within cd_trees_within ct_trees_within kV_trees_within : Value} {od_trees_within an_trees_within : Option Addr} {sl_trees_within : Array (Option Value)}
    {f_check_trees : Addr} {oc_check_trees dc_check_trees pm_check_trees cd_check_trees ct_check_trees kV_check_trees : Value} {od_check_trees an_check_trees : Option Addr} {sl_check_trees : Array (Option Value)}
    {f_is_param : Addr} {oc_is_param dc_is_param pm_is_param cd_is_param ct_is_param kV_is_param : Value} {od_is_param an_is_param : Option Addr} {sl_is_param : Array (Option Value)}
    {f_is_headed : Addr} {oc_is_headed dc_is_headed pm_is_headed cd_is_headed ct_is_headed kV_is_headed : Value} {od_is_headed an_is_headed : Option Addr} {sl_is_headed : Array (Option Value)}
    {f_check_program : Addr} {oc_check_program dc_check_program pm_check_program cd_check_program ct_check_program kV_check_program : Value} {od_check_program an_check_program : Option Addr} {sl_check_program : Array (Option Value)}
    {f_deed_goals : Addr} {oc_deed_goals dc_deed_goals pm_deed_goals cd_deed_goals ct_deed_goals kV_deed_goals : Value} {od_deed_goals an_deed_goals : Option Addr} {sl_deed_goals : Array (Option Value)}
    {f_goals : Addr} {oc_goals dc_goals pm_goals cd_goals ct_goals kV_goals : Value} {od_goals an_goals : Option Addr} {sl_goals : Array (Option Value)}
    {f_Way_init : Addr} {oc_Way_init dc_Way_init pm_Way_init cd_Way_init ct_Way_init kV_Way_init : Value} {od_Way_init an_Way_init : Option Addr} {sl_Way_init : Array (Option Value)}
    {f_Way_meant_part : Addr} {oc_Way_meant_part dc_Way_meant_part pm_Way_meant_part cd_Way_meant_part ct_Way_meant_part kV_Way_meant_part : Value} {od_Way_meant_part an_Way_meant_part : Option Addr} {sl_Way_meant_part : Array (Option Value)}
    {f_Way_meant_row : Addr} {oc_Way_meant_row dc_Way_meant_row pm_Way_meant_row cd_Way_meant_row ct_Way_meant_row kV_Way_meant_row : Value} {od_Way_meant_row an_Way_meant_row : Option Addr} {sl_Way_meant_row : Array (Option Value)}
    {f_Way_meant_tree : Addr} {oc_Way_meant_tree dc_Way_meant_tree pm_Way_meant_tree cd_Way_meant_tree ct_Way_meant_tree kV_Way_meant_tree : Value} {od_Way_meant_tree an_Way_meant_tree : Option Addr} {sl_Way_meant_tree : Array (Option Value)}
    {f_Way_knowing : Addr} {oc_Way_knowing dc_Way_knowing pm_Way_knowing cd_Way_knowing ct_Way_knowing kV_Way_knowing : Value} {od_Way_knowing an_Way_knowing : Option Addr} {sl_Way_knowing : Array (Option Value)}
    {f_both_ways : Addr} {oc_both_ways dc_both_ways pm_both_ways cd_both_ways ct_both_ways kV_both_ways : Value} {od_both_ways an_both_ways : Option Addr} {sl_both_ways : Array (Option Value)}
    {f_told_number : Addr} {oc_told_number dc_told_number pm_told_number cd_told_number ct_told_number kV_told_number : Value} {od_told_number an_told_number : Option Addr} {sl_told_number : Array (Option Value)}
    {f_told_by : Addr} {oc_told_by dc_told_by pm_told_by cd_told_by ct_told_by kV_told_by : Value} {od_told_by an_told_by : Option Addr} {sl_told_by : Array (Option Value)}
    {f_Way_letting : Addr} {oc_Way_letting dc_Way_letting pm_Way_letting cd_Way_letting ct_Way_letting kV_Way_letting : Value} {od_Way_letting an_Way_letting : Option Addr} {sl_Way_letting : Array (Option Value)}
    {f_let_kind : Addr} {oc_let_kind dc_let_kind pm_let_kind cd_let_kind ct_let_kind kV_let_kind : Value} {od_let_kind an_let_kind : Option Addr} {sl_let_kind : Array (Option Value)}
    {f_trees_behind : Addr} {oc_trees_behind dc_trees_behind pm_trees_behind cd_trees_behind ct_trees_behind kV_trees_behind : Value} {od_trees_behind an_trees_behind : Option Addr} {sl_trees_behind : Array (Option Value)}
    {f_function_clauses : Addr} {oc_function_clauses dc_function_clauses pm_function_clauses cd_function_clauses ct_function_clauses kV_function_clauses : Value} {od_function_clauses an_function_clauses : Option Addr} {sl_function_clauses : Array (Option Value)}
    {f_clauses : Addr} {oc_clauses dc_clauses pm_clauses cd_clauses ct_clauses kV_clauses : Value} {od_clauses an_clauses : Option Addr} {sl_clauses : Array (Option Value)}
    {f_w_size : Addr} {oc_w_size dc_w_size pm_w_size cd_w_size ct_w_size kV_w_size : Value} {od_w_size an_w_size : Option Addr} {sl_w_size : Array (Option Value)}
    {f_w_wants : Addr} {oc_w_wants dc_w_wants pm_w_wants cd_w_wants ct_w_wants kV_w_wants : Value} {od_w_wants an_w_wants : Option Addr} {sl_w_wants : Array (Option Value)}
    {f_w_lets : Addr} {oc_w_lets dc_w_lets pm_w_lets cd_w_lets ct_w_lets kV_w_lets : Value} {od_w_lets an_w_lets : Option Addr} {sl_w_lets : Array (Option Value)}
    {f_w_walk : Addr} {oc_w_walk dc_w_walk pm_w_walk cd_w_walk ct_w_walk kV_w_walk : Value} {od_w_walk an_w_walk : Option Addr} {sl_w_walk : Array (Option Value)}
    {f_w_clauses : Addr} {oc_w_clauses dc_w_clauses pm_w_clauses cd_w_clauses ct_w_clauses kV_w_clauses : Value} {od_w_clauses an_w_clauses : Option Addr} {sl_w_clauses : Array (Option Value)}
    {f_w_branches : Addr} {oc_w_branches dc_w_branches pm_w_branches cd_w_branches ct_w_branches kV_w_branches : Value} {od_w_branches an_w_branches : Option Addr} {sl_w_branches : Array (Option Value)}
    {f_law : Addr} {oc_law dc_law pm_law cd_law ct_law kV_law : Value} {od_law an_law : Option Addr} {sl_law : Array (Option Value)}
    {x_DEEDS : Addr} {e_DEEDS : Array DictEntry} {n_DEEDS : Nat}
    {x_DEEDS_num : Addr} {d_DEEDS_num : Option Addr} {i_DEEDS_num : Array Value} {n_DEEDS_num : Nat} {o_DEEDS_num : Array (Option Value)}
    {x_DEEDS_num_0 : Addr} {d_DEEDS_num_0 : Option Addr} {i_DEEDS_num_0 : Array Value} {n_DEEDS_num_0 : Nat} {o_DEEDS_num_0 : Array (Option Value)}
    {x_DEEDS_sum : Addr} {d_DEEDS_sum : Option Addr} {i_DEEDS_sum : Array Value} {n_DEEDS_sum : Nat} {o_DEEDS_sum : Array (Option Value)}
    {x_DEEDS_sum_0 : Addr} {d_DEEDS_sum_0 : Option Addr} {i_DEEDS_sum_0 : Array Value} {n_DEEDS_sum_0 : Nat} {o_DEEDS_sum_0 : Array (Option Value)}
    {x_DEEDS_len : Addr} {d_DEEDS_len : Option Addr} {i_DEEDS_len : Array Value} {n_DEEDS_len : Nat} {o_DEEDS_len : Array (Option Value)}
    {x_DEEDS_len_0 : Addr} {d_DEEDS_len_0 : Option Addr} {i_DEEDS_len_0 : Array Value} {n_DEEDS_len_0 : Nat} {o_DEEDS_len_0 : Array (Option Value)}
    {x_DEEDS_nil : Addr} {d_DEEDS_nil : Option Addr} {i_DEEDS_nil : Array Value} {n_DEEDS_nil : Nat} {o_DEEDS_nil : Array (Option Value)}
    {x_DEEDS_nil_0 : Addr} {d_DEEDS_nil_0 : Option Addr} {i_DEEDS_nil_0 : Array Value} {n_DEEDS_nil_0 : Nat} {o_DEEDS_nil_0 : Array (Option Value)}
    {x_DEEDS_put : Addr} {d_DEEDS_put : Option Addr} {i_DEEDS_put : Array Value} {n_DEEDS_put : Nat} {o_DEEDS_put : Array (Option Value)}
    {x_DEEDS_put_0 : Addr} {d_DEEDS_put_0 : Option Addr} {i_DEEDS_put_0 : Array Value} {n_DEEDS_put_0 : Nat} {o_DEEDS_put_0 : Array (Option Value)}
    {x_DEEDS_head : Addr} {d_DEEDS_head : Option Addr} {i_DEEDS_head : Array Value} {n_DEEDS_head : Nat} {o_DEEDS_head : Array (Option Value)}
    {x_DEEDS_head_0 : Addr} {d_DEEDS_head_0 : Option Addr} {i_DEEDS_head_0 : Array Value} {n_DEEDS_head_0 : Nat} {o_DEEDS_head_0 : Array (Option Value)}
    {x_DEEDS_tail : Addr} {d_DEEDS_tail : Option Addr} {i_DEEDS_tail : Array Value} {n_DEEDS_tail : Nat} {o_DEEDS_tail : Array (Option Value)}
    {x_DEEDS_tail_0 : Addr} {d_DEEDS_tail_0 : Option Addr} {i_DEEDS_tail_0 : Array Value} {n_DEEDS_tail_0 : Nat} {o_DEEDS_tail_0 : Array (Option Value)}
    {x_DEEDS_at : Addr} {d_DEEDS_at : Option Addr} {i_DEEDS_at : Array Value} {n_DEEDS_at : Nat} {o_DEEDS_at : Array (Option Value)}
    {x_DEEDS_at_0 : Addr} {d_DEEDS_at_0 : Option Addr} {i_DEEDS_at_0 : Array Value} {n_DEEDS_at_0 : Nat} {o_DEEDS_at_0 : Array (Option Value)}
    {x_DEEDS_ask : Addr} {d_DEEDS_ask : Option Addr} {i_DEEDS_ask : Array Value} {n_DEEDS_ask : Nat} {o_DEEDS_ask : Array (Option Value)}
    {x_DEEDS_ask_0 : Addr} {d_DEEDS_ask_0 : Option Addr} {i_DEEDS_ask_0 : Array Value} {n_DEEDS_ask_0 : Nat} {o_DEEDS_ask_0 : Array (Option Value)}
    {k_FARTHEST : Tok}
    {x_KINDS : Addr} {d_KINDS : Option Addr} {i_KINDS : Array Value} {n_KINDS : Nat} {o_KINDS : Array (Option Value)}
    {x_MEASURES : Addr} {e_MEASURES : Array DictEntry} {n_MEASURES : Nat}
    {k_MEASURES_of : Tok}
    {k_MEASURES_len : Tok}
    {k_MOST_DEPTH : Tok}
    {k_MOST_FUNCTIONS : Tok}
    {k_MOST_PARAMS : Tok}
    {k_MOST_SIGNS : Tok}
    {k_MOST_TREES : Tok}
    {x_TREES : Addr} {e_TREES : Array DictEntry} {n_TREES : Nat}
    {k_TREES_let : Tok}
    {k_TREES_if : Tok}
    {k_TREES_claim : Tok}
    {k_TREES_tell : Tok}
    (aC_Way : PySem.W.nsIn K mainGlobals "Way" = some (some (.ref C_Way)))
    (pg_Way : PySem.W.plainGet K C_Way Str.empty = true)
    (hd_Way : PySem.W.hasDictIn K C_Way = true)
    (po_Way : PySem.W.plainOver K C_Way = true)
    (sa_Way : PySem.W.findIn K (.ref C_Way) "__setattr__" = some (some (.builtin "object.__setattr__")))
    (mk_Way : PySem.W.makesIn K C_Way = true)
    (kc_Way : PySem.W.keepIn K (.ref C_Way) = true)
    (na_Way_names : PySem.W.findIn K (.ref C_Way) "names" = some none)
    (na_Way_known : PySem.W.findIn K (.ref C_Way) "known" = some none)
    (na_Way_made : PySem.W.findIn K (.ref C_Way) "made" = some none)
    (na_Way_meant : PySem.W.findIn K (.ref C_Way) "meant" = some none)
    (a_w_start : PySem.W.nsIn K mainGlobals "_law_start" = some (some (.ref f_w_start)))
    (l_w_start : K.lookup f_w_start = some ⟨oc_w_start, od_w_start, .func (PySem.W.fnOf "_law_start" "_law_start" (defArgs s_w_start) (defBody s_w_start) (defScope s_w_start) .none kV_w_start dc_w_start pm_w_start an_w_start cd_w_start ct_w_start), sl_w_start⟩)
    (c_w_start : PySem.W.codeIn K cd_w_start "_law_start" = true)
    (k_w_start : PySem.W.keepIn K (.ref f_w_start) = true)
    (a_w_drawn : PySem.W.nsIn K mainGlobals "_law_drawn" = some (some (.ref f_w_drawn)))
    (l_w_drawn : K.lookup f_w_drawn = some ⟨oc_w_drawn, od_w_drawn, .func (PySem.W.fnOf "_law_drawn" "_law_drawn" (defArgs s_w_drawn) (defBody s_w_drawn) (defScope s_w_drawn) .none kV_w_drawn dc_w_drawn pm_w_drawn an_w_drawn cd_w_drawn ct_w_drawn), sl_w_drawn⟩)
    (c_w_drawn : PySem.W.codeIn K cd_w_drawn "_law_drawn" = true)
    (k_w_drawn : PySem.W.keepIn K (.ref f_w_drawn) = true)
    (a_w_of : PySem.W.nsIn K mainGlobals "_law_of" = some (some (.ref f_w_of)))
    (l_w_of : K.lookup f_w_of = some ⟨oc_w_of, od_w_of, .func (PySem.W.fnOf "_law_of" "_law_of" (defArgs s_w_of) (defBody s_w_of) (defScope s_w_of) .none kV_w_of dc_w_of pm_w_of an_w_of cd_w_of ct_w_of), sl_w_of⟩)
    (c_w_of : PySem.W.codeIn K cd_w_of "_law_of" = true)
    (k_w_of : PySem.W.keepIn K (.ref f_w_of) = true)
    (a_w_measure : PySem.W.nsIn K mainGlobals "_law_measure" = some (some (.ref f_w_measure)))
    (l_w_measure : K.lookup f_w_measure = some ⟨oc_w_measure, od_w_measure, .func (PySem.W.fnOf "_law_measure" "_law_measure" (defArgs s_w_measure) (defBody s_w_measure) (defScope s_w_measure) .none kV_w_measure dc_w_measure pm_w_measure an_w_measure cd_w_measure ct_w_measure), sl_w_measure⟩)
    (c_w_measure : PySem.W.codeIn K cd_w_measure "_law_measure" = true)
    (k_w_measure : PySem.W.keepIn K (.ref f_w_measure) = true)
    (a_w_deed : PySem.W.nsIn K mainGlobals "_law_deed" = some (some (.ref f_w_deed)))
    (l_w_deed : K.lookup f_w_deed = some ⟨oc_w_deed, od_w_deed, .func (PySem.W.fnOf "_law_deed" "_law_deed" (defArgs s_w_deed) (defBody s_w_deed) (defScope s_w_deed) .none kV_w_deed dc_w_deed pm_w_deed an_w_deed cd_w_deed ct_w_deed), sl_w_deed⟩)
    (c_w_deed : PySem.W.codeIn K cd_w_deed "_law_deed" = true)
    (k_w_deed : PySem.W.keepIn K (.ref f_w_deed) = true)
    (a_w_tree : PySem.W.nsIn K mainGlobals "_law_tree" = some (some (.ref f_w_tree)))
    (l_w_tree : K.lookup f_w_tree = some ⟨oc_w_tree, od_w_tree, .func (PySem.W.fnOf "_law_tree" "_law_tree" (defArgs s_w_tree) (defBody s_w_tree) (defScope s_w_tree) .none kV_w_tree dc_w_tree pm_w_tree an_w_tree cd_w_tree ct_w_tree), sl_w_tree⟩)
    (c_w_tree : PySem.W.codeIn K cd_w_tree "_law_tree" = true)
    (k_w_tree : PySem.W.keepIn K (.ref f_w_tree) = true)
    (a_w_program : PySem.W.nsIn K mainGlobals "_law_program" = some (some (.ref f_w_program)))
    (l_w_program : K.lookup f_w_program = some ⟨oc_w_program, od_w_program, .func (PySem.W.fnOf "_law_program" "_law_program" (defArgs s_w_program) (defBody s_w_program) (defScope s_w_program) .none kV_w_program dc_w_program pm_w_program an_w_program cd_w_program ct_w_program), sl_w_program⟩)
    (c_w_program : PySem.W.codeIn K cd_w_program "_law_program" = true)
    (k_w_program : PySem.W.keepIn K (.ref f_w_program) = true)
    (a_w_same : PySem.W.nsIn K mainGlobals "_law_same" = some (some (.ref f_w_same)))
    (l_w_same : K.lookup f_w_same = some ⟨oc_w_same, od_w_same, .func (PySem.W.fnOf "_law_same" "_law_same" (defArgs s_w_same) (defBody s_w_same) (defScope s_w_same) .none kV_w_same dc_w_same pm_w_same an_w_same cd_w_same ct_w_same), sl_w_same⟩)
    (c_w_same : PySem.W.codeIn K cd_w_same "_law_same" = true)
    (k_w_same : PySem.W.keepIn K (.ref f_w_same) = true)
    (a_has_word : PySem.W.nsIn K mainGlobals "has_word" = some (some (.ref f_has_word)))
    (l_has_word : K.lookup f_has_word = some ⟨oc_has_word, od_has_word, .func (PySem.W.fnOf "has_word" "has_word" (defArgs s_has_word) (defBody s_has_word) (defScope s_has_word) .none kV_has_word dc_has_word pm_has_word an_has_word cd_has_word ct_has_word), sl_has_word⟩)
    (c_has_word : PySem.W.codeIn K cd_has_word "has_word" = true)
    (k_has_word : PySem.W.keepIn K (.ref f_has_word) = true)
    (a_is_row : PySem.W.nsIn K mainGlobals "is_row" = some (some (.ref f_is_row)))
    (l_is_row : K.lookup f_is_row = some ⟨oc_is_row, od_is_row, .func (PySem.W.fnOf "is_row" "is_row" (defArgs s_is_row) (defBody s_is_row) (defScope s_is_row) .none kV_is_row dc_is_row pm_is_row an_is_row cd_is_row ct_is_row), sl_is_row⟩)
    (c_is_row : PySem.W.codeIn K cd_is_row "is_row" = true)
    (k_is_row : PySem.W.keepIn K (.ref f_is_row) = true)
    (a_is_whole : PySem.W.nsIn K mainGlobals "is_whole" = some (some (.ref f_is_whole)))
    (l_is_whole : K.lookup f_is_whole = some ⟨oc_is_whole, od_is_whole, .func (PySem.W.fnOf "is_whole" "is_whole" (defArgs s_is_whole) (defBody s_is_whole) (defScope s_is_whole) .none kV_is_whole dc_is_whole pm_is_whole an_is_whole cd_is_whole ct_is_whole), sl_is_whole⟩)
    (c_is_whole : PySem.W.codeIn K cd_is_whole "is_whole" = true)
    (k_is_whole : PySem.W.keepIn K (.ref f_is_whole) = true)
    (a_is_between : PySem.W.nsIn K mainGlobals "is_between" = some (some (.ref f_is_between)))
    (l_is_between : K.lookup f_is_between = some ⟨oc_is_between, od_is_between, .func (PySem.W.fnOf "is_between" "is_between" (defArgs s_is_between) (defBody s_is_between) (defScope s_is_between) .none kV_is_between dc_is_between pm_is_between an_is_between cd_is_between ct_is_between), sl_is_between⟩)
    (c_is_between : PySem.W.codeIn K cd_is_between "is_between" = true)
    (k_is_between : PySem.W.keepIn K (.ref f_is_between) = true)
    (a_is_near : PySem.W.nsIn K mainGlobals "is_near" = some (some (.ref f_is_near)))
    (l_is_near : K.lookup f_is_near = some ⟨oc_is_near, od_is_near, .func (PySem.W.fnOf "is_near" "is_near" (defArgs s_is_near) (defBody s_is_near) (defScope s_is_near) .none kV_is_near dc_is_near pm_is_near an_is_near cd_is_near ct_is_near), sl_is_near⟩)
    (c_is_near : PySem.W.codeIn K cd_is_near "is_near" = true)
    (k_is_near : PySem.W.keepIn K (.ref f_is_near) = true)
    (a_stands : PySem.W.nsIn K mainGlobals "stands" = some (some (.ref f_stands)))
    (l_stands : K.lookup f_stands = some ⟨oc_stands, od_stands, .func (PySem.W.fnOf "stands" "stands" (defArgs s_stands) (defBody s_stands) (defScope s_stands) .none kV_stands dc_stands pm_stands an_stands cd_stands ct_stands), sl_stands⟩)
    (c_stands : PySem.W.codeIn K cd_stands "stands" = true)
    (k_stands : PySem.W.keepIn K (.ref f_stands) = true)
    (a_all_fit : PySem.W.nsIn K mainGlobals "all_fit" = some (some (.ref f_all_fit)))
    (l_all_fit : K.lookup f_all_fit = some ⟨oc_all_fit, od_all_fit, .func (PySem.W.fnOf "all_fit" "all_fit" (defArgs s_all_fit) (defBody s_all_fit) (defScope s_all_fit) .none kV_all_fit dc_all_fit pm_all_fit an_all_fit cd_all_fit ct_all_fit), sl_all_fit⟩)
    (c_all_fit : PySem.W.codeIn K cd_all_fit "all_fit" = true)
    (k_all_fit : PySem.W.keepIn K (.ref f_all_fit) = true)
    (a_kinds_ahead : PySem.W.nsIn K mainGlobals "kinds_ahead" = some (some (.ref f_kinds_ahead)))
    (l_kinds_ahead : K.lookup f_kinds_ahead = some ⟨oc_kinds_ahead, od_kinds_ahead, .func (PySem.W.fnOf "kinds_ahead" "kinds_ahead" (defArgs s_kinds_ahead) (defBody s_kinds_ahead) (defScope s_kinds_ahead) .none kV_kinds_ahead dc_kinds_ahead pm_kinds_ahead an_kinds_ahead cd_kinds_ahead ct_kinds_ahead), sl_kinds_ahead⟩)
    (c_kinds_ahead : PySem.W.codeIn K cd_kinds_ahead "kinds_ahead" = true)
    (k_kinds_ahead : PySem.W.keepIn K (.ref f_kinds_ahead) = true)
    (a_call_kind : PySem.W.nsIn K mainGlobals "call_kind" = some (some (.ref f_call_kind)))
    (l_call_kind : K.lookup f_call_kind = some ⟨oc_call_kind, od_call_kind, .func (PySem.W.fnOf "call_kind" "call_kind" (defArgs s_call_kind) (defBody s_call_kind) (defScope s_call_kind) .none kV_call_kind dc_call_kind pm_call_kind an_call_kind cd_call_kind ct_call_kind), sl_call_kind⟩)
    (c_call_kind : PySem.W.codeIn K cd_call_kind "call_kind" = true)
    (k_call_kind : PySem.W.keepIn K (.ref f_call_kind) = true)
    (a_deed_kind : PySem.W.nsIn K mainGlobals "deed_kind" = some (some (.ref f_deed_kind)))
    (l_deed_kind : K.lookup f_deed_kind = some ⟨oc_deed_kind, od_deed_kind, .func (PySem.W.fnOf "deed_kind" "deed_kind" (defArgs s_deed_kind) (defBody s_deed_kind) (defScope s_deed_kind) .none kV_deed_kind dc_deed_kind pm_deed_kind an_deed_kind cd_deed_kind ct_deed_kind), sl_deed_kind⟩)
    (c_deed_kind : PySem.W.codeIn K cd_deed_kind "deed_kind" = true)
    (k_deed_kind : PySem.W.keepIn K (.ref f_deed_kind) = true)
    (a_is_name : PySem.W.nsIn K mainGlobals "is_name" = some (some (.ref f_is_name)))
    (l_is_name : K.lookup f_is_name = some ⟨oc_is_name, od_is_name, .func (PySem.W.fnOf "is_name" "is_name" (defArgs s_is_name) (defBody s_is_name) (defScope s_is_name) .none kV_is_name dc_is_name pm_is_name an_is_name cd_is_name ct_is_name), sl_is_name⟩)
    (c_is_name : PySem.W.codeIn K cd_is_name "is_name" = true)
    (k_is_name : PySem.W.keepIn K (.ref f_is_name) = true)
    (a_within_let : PySem.W.nsIn K mainGlobals "within_let" = some (some (.ref f_within_let)))
    (l_within_let : K.lookup f_within_let = some ⟨oc_within_let, od_within_let, .func (PySem.W.fnOf "within_let" "within_let" (defArgs s_within_let) (defBody s_within_let) (defScope s_within_let) .none kV_within_let dc_within_let pm_within_let an_within_let cd_within_let ct_within_let), sl_within_let⟩)
    (c_within_let : PySem.W.codeIn K cd_within_let "within_let" = true)
    (k_within_let : PySem.W.keepIn K (.ref f_within_let) = true)
    (a_is_measure : PySem.W.nsIn K mainGlobals "is_measure" = some (some (.ref f_is_measure)))
    (l_is_measure : K.lookup f_is_measure = some ⟨oc_is_measure, od_is_measure, .func (PySem.W.fnOf "is_measure" "is_measure" (defArgs s_is_measure) (defBody s_is_measure) (defScope s_is_measure) .none kV_is_measure dc_is_measure pm_is_measure an_is_measure cd_is_measure ct_is_measure), sl_is_measure⟩)
    (c_is_measure : PySem.W.codeIn K cd_is_measure "is_measure" = true)
    (k_is_measure : PySem.W.keepIn K (.ref f_is_measure) = true)
    (a_is_compared : PySem.W.nsIn K mainGlobals "is_compared" = some (some (.ref f_is_compared)))
    (l_is_compared : K.lookup f_is_compared = some ⟨oc_is_compared, od_is_compared, .func (PySem.W.fnOf "is_compared" "is_compared" (defArgs s_is_compared) (defBody s_is_compared) (defScope s_is_compared) .none kV_is_compared dc_is_compared pm_is_compared an_is_compared cd_is_compared ct_is_compared), sl_is_compared⟩)
    (c_is_compared : PySem.W.codeIn K cd_is_compared "is_compared" = true)
    (k_is_compared : PySem.W.keepIn K (.ref f_is_compared) = true)
    (a_trees_within : PySem.W.nsIn K mainGlobals "trees_within" = some (some (.ref f_trees_within)))
    (l_trees_within : K.lookup f_trees_within = some ⟨oc_trees_within, od_trees_within, .func (PySem.W.fnOf "trees_within" "trees_within" (defArgs s_trees_within) (defBody s_trees_within) (defScope s_trees_within) .none kV_trees_within dc_trees_within pm_trees_within an_trees_within cd_trees_within ct_trees_within), sl_trees_within⟩)
    (c_trees_within : PySem.W.codeIn K cd_trees_within "trees_within" = true)
    (k_trees_within : PySem.W.keepIn K (.ref f_trees_within) = true)
    (a_check_trees : PySem.W.nsIn K mainGlobals "check_trees" = some (some (.ref f_check_trees)))
    (l_check_trees : K.lookup f_check_trees = some ⟨oc_check_trees, od_check_trees, .func (PySem.W.fnOf "check_trees" "check_trees" (defArgs s_check_trees) (defBody s_check_trees) (defScope s_check_trees) .none kV_check_trees dc_check_trees pm_check_trees an_check_trees cd_check_trees ct_check_trees), sl_check_trees⟩)
    (c_check_trees : PySem.W.codeIn K cd_check_trees "check_trees" = true)
    (k_check_trees : PySem.W.keepIn K (.ref f_check_trees) = true)
    (a_is_param : PySem.W.nsIn K mainGlobals "is_param" = some (some (.ref f_is_param)))
    (l_is_param : K.lookup f_is_param = some ⟨oc_is_param, od_is_param, .func (PySem.W.fnOf "is_param" "is_param" (defArgs s_is_param) (defBody s_is_param) (defScope s_is_param) .none kV_is_param dc_is_param pm_is_param an_is_param cd_is_param ct_is_param), sl_is_param⟩)
    (c_is_param : PySem.W.codeIn K cd_is_param "is_param" = true)
    (k_is_param : PySem.W.keepIn K (.ref f_is_param) = true)
    (a_is_headed : PySem.W.nsIn K mainGlobals "is_headed" = some (some (.ref f_is_headed)))
    (l_is_headed : K.lookup f_is_headed = some ⟨oc_is_headed, od_is_headed, .func (PySem.W.fnOf "is_headed" "is_headed" (defArgs s_is_headed) (defBody s_is_headed) (defScope s_is_headed) .none kV_is_headed dc_is_headed pm_is_headed an_is_headed cd_is_headed ct_is_headed), sl_is_headed⟩)
    (c_is_headed : PySem.W.codeIn K cd_is_headed "is_headed" = true)
    (k_is_headed : PySem.W.keepIn K (.ref f_is_headed) = true)
    (a_check_program : PySem.W.nsIn K mainGlobals "check_program" = some (some (.ref f_check_program)))
    (l_check_program : K.lookup f_check_program = some ⟨oc_check_program, od_check_program, .func (PySem.W.fnOf "check_program" "check_program" (defArgs s_check_program) (defBody s_check_program) (defScope s_check_program) .none kV_check_program dc_check_program pm_check_program an_check_program cd_check_program ct_check_program), sl_check_program⟩)
    (c_check_program : PySem.W.codeIn K cd_check_program "check_program" = true)
    (k_check_program : PySem.W.keepIn K (.ref f_check_program) = true)
    (a_deed_goals : PySem.W.nsIn K mainGlobals "deed_goals" = some (some (.ref f_deed_goals)))
    (l_deed_goals : K.lookup f_deed_goals = some ⟨oc_deed_goals, od_deed_goals, .func (PySem.W.fnOf "deed_goals" "deed_goals" (defArgs s_deed_goals) (defBody s_deed_goals) (defScope s_deed_goals) .none kV_deed_goals dc_deed_goals pm_deed_goals an_deed_goals cd_deed_goals ct_deed_goals), sl_deed_goals⟩)
    (c_deed_goals : PySem.W.codeIn K cd_deed_goals "deed_goals" = true)
    (k_deed_goals : PySem.W.keepIn K (.ref f_deed_goals) = true)
    (a_goals : PySem.W.nsIn K mainGlobals "goals" = some (some (.ref f_goals)))
    (l_goals : K.lookup f_goals = some ⟨oc_goals, od_goals, .func (PySem.W.fnOf "goals" "goals" (defArgs s_goals) (defBody s_goals) (defScope s_goals) .none kV_goals dc_goals pm_goals an_goals cd_goals ct_goals), sl_goals⟩)
    (c_goals : PySem.W.codeIn K cd_goals "goals" = true)
    (k_goals : PySem.W.keepIn K (.ref f_goals) = true)
    (a_Way_init : PySem.W.findIn K (.ref C_Way) "__init__" = some (some (.ref f_Way_init)))
    (i_Way_init : PySem.W.isFn K (.ref f_Way_init) = true)
    (l_Way_init : K.lookup f_Way_init = some ⟨oc_Way_init, od_Way_init, .func (PySem.W.fnOf "__init__" "Way.__init__" (defArgs s_Way_init) (defBody s_Way_init) (defScope s_Way_init) .none kV_Way_init dc_Way_init pm_Way_init an_Way_init cd_Way_init ct_Way_init), sl_Way_init⟩)
    (c_Way_init : PySem.W.codeIn K cd_Way_init "Way.__init__" = true)
    (k_Way_init : PySem.W.keepIn K (.ref f_Way_init) = true)
    (a_Way_meant_part : PySem.W.findIn K (.ref C_Way) "meant_part" = some (some (.ref f_Way_meant_part)))
    (i_Way_meant_part : PySem.W.isFn K (.ref f_Way_meant_part) = true)
    (l_Way_meant_part : K.lookup f_Way_meant_part = some ⟨oc_Way_meant_part, od_Way_meant_part, .func (PySem.W.fnOf "meant_part" "Way.meant_part" (defArgs s_Way_meant_part) (defBody s_Way_meant_part) (defScope s_Way_meant_part) .none kV_Way_meant_part dc_Way_meant_part pm_Way_meant_part an_Way_meant_part cd_Way_meant_part ct_Way_meant_part), sl_Way_meant_part⟩)
    (c_Way_meant_part : PySem.W.codeIn K cd_Way_meant_part "Way.meant_part" = true)
    (k_Way_meant_part : PySem.W.keepIn K (.ref f_Way_meant_part) = true)
    (a_Way_meant_row : PySem.W.findIn K (.ref C_Way) "meant_row" = some (some (.ref f_Way_meant_row)))
    (i_Way_meant_row : PySem.W.isFn K (.ref f_Way_meant_row) = true)
    (l_Way_meant_row : K.lookup f_Way_meant_row = some ⟨oc_Way_meant_row, od_Way_meant_row, .func (PySem.W.fnOf "meant_row" "Way.meant_row" (defArgs s_Way_meant_row) (defBody s_Way_meant_row) (defScope s_Way_meant_row) .none kV_Way_meant_row dc_Way_meant_row pm_Way_meant_row an_Way_meant_row cd_Way_meant_row ct_Way_meant_row), sl_Way_meant_row⟩)
    (c_Way_meant_row : PySem.W.codeIn K cd_Way_meant_row "Way.meant_row" = true)
    (k_Way_meant_row : PySem.W.keepIn K (.ref f_Way_meant_row) = true)
    (a_Way_meant_tree : PySem.W.findIn K (.ref C_Way) "meant_tree" = some (some (.ref f_Way_meant_tree)))
    (i_Way_meant_tree : PySem.W.isFn K (.ref f_Way_meant_tree) = true)
    (l_Way_meant_tree : K.lookup f_Way_meant_tree = some ⟨oc_Way_meant_tree, od_Way_meant_tree, .func (PySem.W.fnOf "meant_tree" "Way.meant_tree" (defArgs s_Way_meant_tree) (defBody s_Way_meant_tree) (defScope s_Way_meant_tree) .none kV_Way_meant_tree dc_Way_meant_tree pm_Way_meant_tree an_Way_meant_tree cd_Way_meant_tree ct_Way_meant_tree), sl_Way_meant_tree⟩)
    (c_Way_meant_tree : PySem.W.codeIn K cd_Way_meant_tree "Way.meant_tree" = true)
    (k_Way_meant_tree : PySem.W.keepIn K (.ref f_Way_meant_tree) = true)
    (a_Way_knowing : PySem.W.findIn K (.ref C_Way) "knowing" = some (some (.ref f_Way_knowing)))
    (i_Way_knowing : PySem.W.isFn K (.ref f_Way_knowing) = true)
    (l_Way_knowing : K.lookup f_Way_knowing = some ⟨oc_Way_knowing, od_Way_knowing, .func (PySem.W.fnOf "knowing" "Way.knowing" (defArgs s_Way_knowing) (defBody s_Way_knowing) (defScope s_Way_knowing) .none kV_Way_knowing dc_Way_knowing pm_Way_knowing an_Way_knowing cd_Way_knowing ct_Way_knowing), sl_Way_knowing⟩)
    (c_Way_knowing : PySem.W.codeIn K cd_Way_knowing "Way.knowing" = true)
    (k_Way_knowing : PySem.W.keepIn K (.ref f_Way_knowing) = true)
    (a_both_ways : PySem.W.nsIn K mainGlobals "both_ways" = some (some (.ref f_both_ways)))
    (l_both_ways : K.lookup f_both_ways = some ⟨oc_both_ways, od_both_ways, .func (PySem.W.fnOf "both_ways" "both_ways" (defArgs s_both_ways) (defBody s_both_ways) (defScope s_both_ways) .none kV_both_ways dc_both_ways pm_both_ways an_both_ways cd_both_ways ct_both_ways), sl_both_ways⟩)
    (c_both_ways : PySem.W.codeIn K cd_both_ways "both_ways" = true)
    (k_both_ways : PySem.W.keepIn K (.ref f_both_ways) = true)
    (a_told_number : PySem.W.nsIn K mainGlobals "told_number" = some (some (.ref f_told_number)))
    (l_told_number : K.lookup f_told_number = some ⟨oc_told_number, od_told_number, .func (PySem.W.fnOf "told_number" "told_number" (defArgs s_told_number) (defBody s_told_number) (defScope s_told_number) .none kV_told_number dc_told_number pm_told_number an_told_number cd_told_number ct_told_number), sl_told_number⟩)
    (c_told_number : PySem.W.codeIn K cd_told_number "told_number" = true)
    (k_told_number : PySem.W.keepIn K (.ref f_told_number) = true)
    (a_told_by : PySem.W.nsIn K mainGlobals "told_by" = some (some (.ref f_told_by)))
    (l_told_by : K.lookup f_told_by = some ⟨oc_told_by, od_told_by, .func (PySem.W.fnOf "told_by" "told_by" (defArgs s_told_by) (defBody s_told_by) (defScope s_told_by) .none kV_told_by dc_told_by pm_told_by an_told_by cd_told_by ct_told_by), sl_told_by⟩)
    (c_told_by : PySem.W.codeIn K cd_told_by "told_by" = true)
    (k_told_by : PySem.W.keepIn K (.ref f_told_by) = true)
    (a_Way_letting : PySem.W.findIn K (.ref C_Way) "letting" = some (some (.ref f_Way_letting)))
    (i_Way_letting : PySem.W.isFn K (.ref f_Way_letting) = true)
    (l_Way_letting : K.lookup f_Way_letting = some ⟨oc_Way_letting, od_Way_letting, .func (PySem.W.fnOf "letting" "Way.letting" (defArgs s_Way_letting) (defBody s_Way_letting) (defScope s_Way_letting) .none kV_Way_letting dc_Way_letting pm_Way_letting an_Way_letting cd_Way_letting ct_Way_letting), sl_Way_letting⟩)
    (c_Way_letting : PySem.W.codeIn K cd_Way_letting "Way.letting" = true)
    (k_Way_letting : PySem.W.keepIn K (.ref f_Way_letting) = true)
    (a_let_kind : PySem.W.nsIn K mainGlobals "let_kind" = some (some (.ref f_let_kind)))
    (l_let_kind : K.lookup f_let_kind = some ⟨oc_let_kind, od_let_kind, .func (PySem.W.fnOf "let_kind" "let_kind" (defArgs s_let_kind) (defBody s_let_kind) (defScope s_let_kind) .none kV_let_kind dc_let_kind pm_let_kind an_let_kind cd_let_kind ct_let_kind), sl_let_kind⟩)
    (c_let_kind : PySem.W.codeIn K cd_let_kind "let_kind" = true)
    (k_let_kind : PySem.W.keepIn K (.ref f_let_kind) = true)
    (a_trees_behind : PySem.W.nsIn K mainGlobals "trees_behind" = some (some (.ref f_trees_behind)))
    (l_trees_behind : K.lookup f_trees_behind = some ⟨oc_trees_behind, od_trees_behind, .func (PySem.W.fnOf "trees_behind" "trees_behind" (defArgs s_trees_behind) (defBody s_trees_behind) (defScope s_trees_behind) .none kV_trees_behind dc_trees_behind pm_trees_behind an_trees_behind cd_trees_behind ct_trees_behind), sl_trees_behind⟩)
    (c_trees_behind : PySem.W.codeIn K cd_trees_behind "trees_behind" = true)
    (k_trees_behind : PySem.W.keepIn K (.ref f_trees_behind) = true)
    (a_function_clauses : PySem.W.nsIn K mainGlobals "function_clauses" = some (some (.ref f_function_clauses)))
    (l_function_clauses : K.lookup f_function_clauses = some ⟨oc_function_clauses, od_function_clauses, .func (PySem.W.fnOf "function_clauses" "function_clauses" (defArgs s_function_clauses) (defBody s_function_clauses) (defScope s_function_clauses) .none kV_function_clauses dc_function_clauses pm_function_clauses an_function_clauses cd_function_clauses ct_function_clauses), sl_function_clauses⟩)
    (c_function_clauses : PySem.W.codeIn K cd_function_clauses "function_clauses" = true)
    (k_function_clauses : PySem.W.keepIn K (.ref f_function_clauses) = true)
    (a_clauses : PySem.W.nsIn K mainGlobals "clauses" = some (some (.ref f_clauses)))
    (l_clauses : K.lookup f_clauses = some ⟨oc_clauses, od_clauses, .func (PySem.W.fnOf "clauses" "clauses" (defArgs s_clauses) (defBody s_clauses) (defScope s_clauses) .none kV_clauses dc_clauses pm_clauses an_clauses cd_clauses ct_clauses), sl_clauses⟩)
    (c_clauses : PySem.W.codeIn K cd_clauses "clauses" = true)
    (k_clauses : PySem.W.keepIn K (.ref f_clauses) = true)
    (a_w_size : PySem.W.nsIn K mainGlobals "_law_size" = some (some (.ref f_w_size)))
    (l_w_size : K.lookup f_w_size = some ⟨oc_w_size, od_w_size, .func (PySem.W.fnOf "_law_size" "_law_size" (defArgs s_w_size) (defBody s_w_size) (defScope s_w_size) .none kV_w_size dc_w_size pm_w_size an_w_size cd_w_size ct_w_size), sl_w_size⟩)
    (c_w_size : PySem.W.codeIn K cd_w_size "_law_size" = true)
    (k_w_size : PySem.W.keepIn K (.ref f_w_size) = true)
    (a_w_wants : PySem.W.nsIn K mainGlobals "_law_wants" = some (some (.ref f_w_wants)))
    (l_w_wants : K.lookup f_w_wants = some ⟨oc_w_wants, od_w_wants, .func (PySem.W.fnOf "_law_wants" "_law_wants" (defArgs s_w_wants) (defBody s_w_wants) (defScope s_w_wants) .none kV_w_wants dc_w_wants pm_w_wants an_w_wants cd_w_wants ct_w_wants), sl_w_wants⟩)
    (c_w_wants : PySem.W.codeIn K cd_w_wants "_law_wants" = true)
    (k_w_wants : PySem.W.keepIn K (.ref f_w_wants) = true)
    (a_w_lets : PySem.W.nsIn K mainGlobals "_law_lets" = some (some (.ref f_w_lets)))
    (l_w_lets : K.lookup f_w_lets = some ⟨oc_w_lets, od_w_lets, .func (PySem.W.fnOf "_law_lets" "_law_lets" (defArgs s_w_lets) (defBody s_w_lets) (defScope s_w_lets) .none kV_w_lets dc_w_lets pm_w_lets an_w_lets cd_w_lets ct_w_lets), sl_w_lets⟩)
    (c_w_lets : PySem.W.codeIn K cd_w_lets "_law_lets" = true)
    (k_w_lets : PySem.W.keepIn K (.ref f_w_lets) = true)
    (a_w_walk : PySem.W.nsIn K mainGlobals "_law_walk" = some (some (.ref f_w_walk)))
    (l_w_walk : K.lookup f_w_walk = some ⟨oc_w_walk, od_w_walk, .func (PySem.W.fnOf "_law_walk" "_law_walk" (defArgs s_w_walk) (defBody s_w_walk) (defScope s_w_walk) .none kV_w_walk dc_w_walk pm_w_walk an_w_walk cd_w_walk ct_w_walk), sl_w_walk⟩)
    (c_w_walk : PySem.W.codeIn K cd_w_walk "_law_walk" = true)
    (k_w_walk : PySem.W.keepIn K (.ref f_w_walk) = true)
    (a_w_clauses : PySem.W.nsIn K mainGlobals "_law_clauses" = some (some (.ref f_w_clauses)))
    (l_w_clauses : K.lookup f_w_clauses = some ⟨oc_w_clauses, od_w_clauses, .func (PySem.W.fnOf "_law_clauses" "_law_clauses" (defArgs s_w_clauses) (defBody s_w_clauses) (defScope s_w_clauses) .none kV_w_clauses dc_w_clauses pm_w_clauses an_w_clauses cd_w_clauses ct_w_clauses), sl_w_clauses⟩)
    (c_w_clauses : PySem.W.codeIn K cd_w_clauses "_law_clauses" = true)
    (k_w_clauses : PySem.W.keepIn K (.ref f_w_clauses) = true)
    (a_w_branches : PySem.W.nsIn K mainGlobals "_law_branches" = some (some (.ref f_w_branches)))
    (l_w_branches : K.lookup f_w_branches = some ⟨oc_w_branches, od_w_branches, .func (PySem.W.fnOf "_law_branches" "_law_branches" (defArgs s_w_branches) (defBody s_w_branches) (defScope s_w_branches) .none kV_w_branches dc_w_branches pm_w_branches an_w_branches cd_w_branches ct_w_branches), sl_w_branches⟩)
    (c_w_branches : PySem.W.codeIn K cd_w_branches "_law_branches" = true)
    (k_w_branches : PySem.W.keepIn K (.ref f_w_branches) = true)
    (a_law : PySem.W.nsIn K mainGlobals "law" = some (some (.ref f_law)))
    (l_law : K.lookup f_law = some ⟨oc_law, od_law, .func (PySem.W.fnOf "law" "law" (defArgs s_law) (defBody s_law) (defScope s_law) .none kV_law dc_law pm_law an_law cd_law ct_law), sl_law⟩)
    (c_law : PySem.W.codeIn K cd_law "law" = true)
    (k_law : PySem.W.keepIn K (.ref f_law) = true)
    (n_all : PySem.W.nsIn K mainGlobals "all" = some none)
    (n_bool : PySem.W.nsIn K mainGlobals "bool" = some none)
    (n_dict : PySem.W.nsIn K mainGlobals "dict" = some none)
    (n_enumerate : PySem.W.nsIn K mainGlobals "enumerate" = some none)
    (n_int : PySem.W.nsIn K mainGlobals "int" = some none)
    (n_isinstance : PySem.W.nsIn K mainGlobals "isinstance" = some none)
    (n_len : PySem.W.nsIn K mainGlobals "len" = some none)
    (n_list : PySem.W.nsIn K mainGlobals "list" = some none)
    (n_max : PySem.W.nsIn K mainGlobals "max" = some none)
    (n_range : PySem.W.nsIn K mainGlobals "range" = some none)
    (n_reversed : PySem.W.nsIn K mainGlobals "reversed" = some none)
    (n_str : PySem.W.nsIn K mainGlobals "str" = some none)
    (n_sum : PySem.W.nsIn K mainGlobals "sum" = some none)
    (n_tuple : PySem.W.nsIn K mainGlobals "tuple" = some none)
    (n_zip : PySem.W.nsIn K mainGlobals "zip" = some none)
    (m_DEEDS : PySem.W.nsIn K mainGlobals "DEEDS" = some (some (.ref x_DEEDS)))
    (t_DEEDS : K.lookup x_DEEDS = some ⟨.type "dict", none, .dict e_DEEDS n_DEEDS, #[]⟩)
    (v_DEEDS : PySem.W.KeysLit w.params e_DEEDS.toList)
    (z_DEEDS : (x_DEEDS == sysModules) = false)
    (y_DEEDS_num : PySem.W.nsIn K x_DEEDS "num" = some (some (.ref x_DEEDS_num)))
    (t_DEEDS_num : K.lookup x_DEEDS_num = some ⟨.type "tuple", d_DEEDS_num, .seq i_DEEDS_num n_DEEDS_num, o_DEEDS_num⟩)
    (v_DEEDS_num : Vals [.ref x_DEEDS_num_0, .str "number"] i_DEEDS_num.toList)
    (z_DEEDS_num : i_DEEDS_num.size ≤ 1000000)
    (t_DEEDS_num_0 : K.lookup x_DEEDS_num_0 = some ⟨.type "tuple", d_DEEDS_num_0, .seq i_DEEDS_num_0 n_DEEDS_num_0, o_DEEDS_num_0⟩)
    (v_DEEDS_num_0 : Vals [.str "n"] i_DEEDS_num_0.toList)
    (z_DEEDS_num_0 : i_DEEDS_num_0.size ≤ 1000000)
    (y_DEEDS_sum : PySem.W.nsIn K x_DEEDS "sum" = some (some (.ref x_DEEDS_sum)))
    (t_DEEDS_sum : K.lookup x_DEEDS_sum = some ⟨.type "tuple", d_DEEDS_sum, .seq i_DEEDS_sum n_DEEDS_sum, o_DEEDS_sum⟩)
    (v_DEEDS_sum : Vals [.ref x_DEEDS_sum_0, .str "number"] i_DEEDS_sum.toList)
    (z_DEEDS_sum : i_DEEDS_sum.size ≤ 1000000)
    (t_DEEDS_sum_0 : K.lookup x_DEEDS_sum_0 = some ⟨.type "tuple", d_DEEDS_sum_0, .seq i_DEEDS_sum_0 n_DEEDS_sum_0, o_DEEDS_sum_0⟩)
    (v_DEEDS_sum_0 : Vals [.str "number", .str "n"] i_DEEDS_sum_0.toList)
    (z_DEEDS_sum_0 : i_DEEDS_sum_0.size ≤ 1000000)
    (y_DEEDS_len : PySem.W.nsIn K x_DEEDS "len" = some (some (.ref x_DEEDS_len)))
    (t_DEEDS_len : K.lookup x_DEEDS_len = some ⟨.type "tuple", d_DEEDS_len, .seq i_DEEDS_len n_DEEDS_len, o_DEEDS_len⟩)
    (v_DEEDS_len : Vals [.ref x_DEEDS_len_0, .str "number"] i_DEEDS_len.toList)
    (z_DEEDS_len : i_DEEDS_len.size ≤ 1000000)
    (t_DEEDS_len_0 : K.lookup x_DEEDS_len_0 = some ⟨.type "tuple", d_DEEDS_len_0, .seq i_DEEDS_len_0 n_DEEDS_len_0, o_DEEDS_len_0⟩)
    (v_DEEDS_len_0 : Vals [.str "list"] i_DEEDS_len_0.toList)
    (z_DEEDS_len_0 : i_DEEDS_len_0.size ≤ 1000000)
    (y_DEEDS_nil : PySem.W.nsIn K x_DEEDS "nil" = some (some (.ref x_DEEDS_nil)))
    (t_DEEDS_nil : K.lookup x_DEEDS_nil = some ⟨.type "tuple", d_DEEDS_nil, .seq i_DEEDS_nil n_DEEDS_nil, o_DEEDS_nil⟩)
    (v_DEEDS_nil : Vals [.ref x_DEEDS_nil_0, .str "list"] i_DEEDS_nil.toList)
    (z_DEEDS_nil : i_DEEDS_nil.size ≤ 1000000)
    (t_DEEDS_nil_0 : K.lookup x_DEEDS_nil_0 = some ⟨.type "tuple", d_DEEDS_nil_0, .seq i_DEEDS_nil_0 n_DEEDS_nil_0, o_DEEDS_nil_0⟩)
    (v_DEEDS_nil_0 : Vals [] i_DEEDS_nil_0.toList)
    (z_DEEDS_nil_0 : i_DEEDS_nil_0.size ≤ 1000000)
    (y_DEEDS_put : PySem.W.nsIn K x_DEEDS "put" = some (some (.ref x_DEEDS_put)))
    (t_DEEDS_put : K.lookup x_DEEDS_put = some ⟨.type "tuple", d_DEEDS_put, .seq i_DEEDS_put n_DEEDS_put, o_DEEDS_put⟩)
    (v_DEEDS_put : Vals [.ref x_DEEDS_put_0, .str "list"] i_DEEDS_put.toList)
    (z_DEEDS_put : i_DEEDS_put.size ≤ 1000000)
    (t_DEEDS_put_0 : K.lookup x_DEEDS_put_0 = some ⟨.type "tuple", d_DEEDS_put_0, .seq i_DEEDS_put_0 n_DEEDS_put_0, o_DEEDS_put_0⟩)
    (v_DEEDS_put_0 : Vals [.str "number", .str "list"] i_DEEDS_put_0.toList)
    (z_DEEDS_put_0 : i_DEEDS_put_0.size ≤ 1000000)
    (y_DEEDS_head : PySem.W.nsIn K x_DEEDS "head" = some (some (.ref x_DEEDS_head)))
    (t_DEEDS_head : K.lookup x_DEEDS_head = some ⟨.type "tuple", d_DEEDS_head, .seq i_DEEDS_head n_DEEDS_head, o_DEEDS_head⟩)
    (v_DEEDS_head : Vals [.ref x_DEEDS_head_0, .str "number"] i_DEEDS_head.toList)
    (z_DEEDS_head : i_DEEDS_head.size ≤ 1000000)
    (t_DEEDS_head_0 : K.lookup x_DEEDS_head_0 = some ⟨.type "tuple", d_DEEDS_head_0, .seq i_DEEDS_head_0 n_DEEDS_head_0, o_DEEDS_head_0⟩)
    (v_DEEDS_head_0 : Vals [.str "list"] i_DEEDS_head_0.toList)
    (z_DEEDS_head_0 : i_DEEDS_head_0.size ≤ 1000000)
    (y_DEEDS_tail : PySem.W.nsIn K x_DEEDS "tail" = some (some (.ref x_DEEDS_tail)))
    (t_DEEDS_tail : K.lookup x_DEEDS_tail = some ⟨.type "tuple", d_DEEDS_tail, .seq i_DEEDS_tail n_DEEDS_tail, o_DEEDS_tail⟩)
    (v_DEEDS_tail : Vals [.ref x_DEEDS_tail_0, .str "list"] i_DEEDS_tail.toList)
    (z_DEEDS_tail : i_DEEDS_tail.size ≤ 1000000)
    (t_DEEDS_tail_0 : K.lookup x_DEEDS_tail_0 = some ⟨.type "tuple", d_DEEDS_tail_0, .seq i_DEEDS_tail_0 n_DEEDS_tail_0, o_DEEDS_tail_0⟩)
    (v_DEEDS_tail_0 : Vals [.str "list"] i_DEEDS_tail_0.toList)
    (z_DEEDS_tail_0 : i_DEEDS_tail_0.size ≤ 1000000)
    (y_DEEDS_at : PySem.W.nsIn K x_DEEDS "at" = some (some (.ref x_DEEDS_at)))
    (t_DEEDS_at : K.lookup x_DEEDS_at = some ⟨.type "tuple", d_DEEDS_at, .seq i_DEEDS_at n_DEEDS_at, o_DEEDS_at⟩)
    (v_DEEDS_at : Vals [.ref x_DEEDS_at_0, .str "number"] i_DEEDS_at.toList)
    (z_DEEDS_at : i_DEEDS_at.size ≤ 1000000)
    (t_DEEDS_at_0 : K.lookup x_DEEDS_at_0 = some ⟨.type "tuple", d_DEEDS_at_0, .seq i_DEEDS_at_0 n_DEEDS_at_0, o_DEEDS_at_0⟩)
    (v_DEEDS_at_0 : Vals [.str "list", .str "number"] i_DEEDS_at_0.toList)
    (z_DEEDS_at_0 : i_DEEDS_at_0.size ≤ 1000000)
    (y_DEEDS_ask : PySem.W.nsIn K x_DEEDS "ask" = some (some (.ref x_DEEDS_ask)))
    (t_DEEDS_ask : K.lookup x_DEEDS_ask = some ⟨.type "tuple", d_DEEDS_ask, .seq i_DEEDS_ask n_DEEDS_ask, o_DEEDS_ask⟩)
    (v_DEEDS_ask : Vals [.ref x_DEEDS_ask_0, .str "number"] i_DEEDS_ask.toList)
    (z_DEEDS_ask : i_DEEDS_ask.size ≤ 1000000)
    (t_DEEDS_ask_0 : K.lookup x_DEEDS_ask_0 = some ⟨.type "tuple", d_DEEDS_ask_0, .seq i_DEEDS_ask_0 n_DEEDS_ask_0, o_DEEDS_ask_0⟩)
    (v_DEEDS_ask_0 : Vals [] i_DEEDS_ask_0.toList)
    (z_DEEDS_ask_0 : i_DEEDS_ask_0.size ≤ 1000000)
    (m_FARTHEST : PySem.W.nsIn K mainGlobals "FARTHEST" = some (some (.int 99 k_FARTHEST)))
    (m_KINDS : PySem.W.nsIn K mainGlobals "KINDS" = some (some (.ref x_KINDS)))
    (t_KINDS : K.lookup x_KINDS = some ⟨.type "tuple", d_KINDS, .seq i_KINDS n_KINDS, o_KINDS⟩)
    (v_KINDS : Vals [.str "number", .str "list"] i_KINDS.toList)
    (z_KINDS : i_KINDS.size ≤ 1000000)
    (m_MEASURES : PySem.W.nsIn K mainGlobals "MEASURES" = some (some (.ref x_MEASURES)))
    (t_MEASURES : K.lookup x_MEASURES = some ⟨.type "dict", none, .dict e_MEASURES n_MEASURES, #[]⟩)
    (v_MEASURES : PySem.W.KeysLit w.params e_MEASURES.toList)
    (z_MEASURES : (x_MEASURES == sysModules) = false)
    (y_MEASURES_of : PySem.W.nsIn K x_MEASURES "of" = some (some (.str "number" k_MEASURES_of)))
    (y_MEASURES_len : PySem.W.nsIn K x_MEASURES "len" = some (some (.str "list" k_MEASURES_len)))
    (m_MOST_DEPTH : PySem.W.nsIn K mainGlobals "MOST_DEPTH" = some (some (.int 20 k_MOST_DEPTH)))
    (m_MOST_FUNCTIONS : PySem.W.nsIn K mainGlobals "MOST_FUNCTIONS" = some (some (.int 6 k_MOST_FUNCTIONS)))
    (m_MOST_PARAMS : PySem.W.nsIn K mainGlobals "MOST_PARAMS" = some (some (.int 4 k_MOST_PARAMS)))
    (m_MOST_SIGNS : PySem.W.nsIn K mainGlobals "MOST_SIGNS" = some (some (.int 8 k_MOST_SIGNS)))
    (m_MOST_TREES : PySem.W.nsIn K mainGlobals "MOST_TREES" = some (some (.int 60 k_MOST_TREES)))
    (m_TREES : PySem.W.nsIn K mainGlobals "TREES" = some (some (.ref x_TREES)))
    (t_TREES : K.lookup x_TREES = some ⟨.type "dict", none, .dict e_TREES n_TREES, #[]⟩)
    (v_TREES : PySem.W.KeysLit w.params e_TREES.toList)
    (z_TREES : (x_TREES == sysModules) = false)
    (y_TREES_let : PySem.W.nsIn K x_TREES "let" = some (some (.int 4 k_TREES_let)))
    (y_TREES_if : PySem.W.nsIn K x_TREES "if" = some (some (.int 6 k_TREES_if)))
    (y_TREES_claim : PySem.W.nsIn K x_TREES "claim" = some (some (.int 5 k_TREES_claim)))
    (y_TREES_tell : PySem.W.nsIn K x_TREES "tell" = some (some (.int 2 k_TREES_tell)))
    : ∃ fd : FuncData, (∀ (s : Shared) (v : Value), BindsTo s fd ⟨[v], []⟩ [("_law_script", v)]) ∧ ∀ base : Heap, K.In base → base.Ns mainGlobals mg → FnOk l.prog w K mg base CX0 24 fa fd ["_law_script"] (spLaw K) := by
  have e := hfa.symm.trans (PySem.W.mg_of X G a_law)
  cases e
  let A : Adr := {
    C_Way := C_Way,
    f_w_start := f_w_start,
    fd_w_start := PySem.W.fnOf "_law_start" "_law_start" (defArgs s_w_start) (defBody s_w_start) (defScope s_w_start) .none kV_w_start dc_w_start pm_w_start an_w_start cd_w_start ct_w_start,
    f_w_drawn := f_w_drawn,
    fd_w_drawn := PySem.W.fnOf "_law_drawn" "_law_drawn" (defArgs s_w_drawn) (defBody s_w_drawn) (defScope s_w_drawn) .none kV_w_drawn dc_w_drawn pm_w_drawn an_w_drawn cd_w_drawn ct_w_drawn,
    f_w_of := f_w_of,
    fd_w_of := PySem.W.fnOf "_law_of" "_law_of" (defArgs s_w_of) (defBody s_w_of) (defScope s_w_of) .none kV_w_of dc_w_of pm_w_of an_w_of cd_w_of ct_w_of,
    f_w_measure := f_w_measure,
    fd_w_measure := PySem.W.fnOf "_law_measure" "_law_measure" (defArgs s_w_measure) (defBody s_w_measure) (defScope s_w_measure) .none kV_w_measure dc_w_measure pm_w_measure an_w_measure cd_w_measure ct_w_measure,
    f_w_deed := f_w_deed,
    fd_w_deed := PySem.W.fnOf "_law_deed" "_law_deed" (defArgs s_w_deed) (defBody s_w_deed) (defScope s_w_deed) .none kV_w_deed dc_w_deed pm_w_deed an_w_deed cd_w_deed ct_w_deed,
    f_w_tree := f_w_tree,
    fd_w_tree := PySem.W.fnOf "_law_tree" "_law_tree" (defArgs s_w_tree) (defBody s_w_tree) (defScope s_w_tree) .none kV_w_tree dc_w_tree pm_w_tree an_w_tree cd_w_tree ct_w_tree,
    f_w_program := f_w_program,
    fd_w_program := PySem.W.fnOf "_law_program" "_law_program" (defArgs s_w_program) (defBody s_w_program) (defScope s_w_program) .none kV_w_program dc_w_program pm_w_program an_w_program cd_w_program ct_w_program,
    f_w_same := f_w_same,
    fd_w_same := PySem.W.fnOf "_law_same" "_law_same" (defArgs s_w_same) (defBody s_w_same) (defScope s_w_same) .none kV_w_same dc_w_same pm_w_same an_w_same cd_w_same ct_w_same,
    f_has_word := f_has_word,
    fd_has_word := PySem.W.fnOf "has_word" "has_word" (defArgs s_has_word) (defBody s_has_word) (defScope s_has_word) .none kV_has_word dc_has_word pm_has_word an_has_word cd_has_word ct_has_word,
    f_is_row := f_is_row,
    fd_is_row := PySem.W.fnOf "is_row" "is_row" (defArgs s_is_row) (defBody s_is_row) (defScope s_is_row) .none kV_is_row dc_is_row pm_is_row an_is_row cd_is_row ct_is_row,
    f_is_whole := f_is_whole,
    fd_is_whole := PySem.W.fnOf "is_whole" "is_whole" (defArgs s_is_whole) (defBody s_is_whole) (defScope s_is_whole) .none kV_is_whole dc_is_whole pm_is_whole an_is_whole cd_is_whole ct_is_whole,
    f_is_between := f_is_between,
    fd_is_between := PySem.W.fnOf "is_between" "is_between" (defArgs s_is_between) (defBody s_is_between) (defScope s_is_between) .none kV_is_between dc_is_between pm_is_between an_is_between cd_is_between ct_is_between,
    f_is_near := f_is_near,
    fd_is_near := PySem.W.fnOf "is_near" "is_near" (defArgs s_is_near) (defBody s_is_near) (defScope s_is_near) .none kV_is_near dc_is_near pm_is_near an_is_near cd_is_near ct_is_near,
    f_stands := f_stands,
    fd_stands := PySem.W.fnOf "stands" "stands" (defArgs s_stands) (defBody s_stands) (defScope s_stands) .none kV_stands dc_stands pm_stands an_stands cd_stands ct_stands,
    f_all_fit := f_all_fit,
    fd_all_fit := PySem.W.fnOf "all_fit" "all_fit" (defArgs s_all_fit) (defBody s_all_fit) (defScope s_all_fit) .none kV_all_fit dc_all_fit pm_all_fit an_all_fit cd_all_fit ct_all_fit,
    f_kinds_ahead := f_kinds_ahead,
    fd_kinds_ahead := PySem.W.fnOf "kinds_ahead" "kinds_ahead" (defArgs s_kinds_ahead) (defBody s_kinds_ahead) (defScope s_kinds_ahead) .none kV_kinds_ahead dc_kinds_ahead pm_kinds_ahead an_kinds_ahead cd_kinds_ahead ct_kinds_ahead,
    f_call_kind := f_call_kind,
    fd_call_kind := PySem.W.fnOf "call_kind" "call_kind" (defArgs s_call_kind) (defBody s_call_kind) (defScope s_call_kind) .none kV_call_kind dc_call_kind pm_call_kind an_call_kind cd_call_kind ct_call_kind,
    f_deed_kind := f_deed_kind,
    fd_deed_kind := PySem.W.fnOf "deed_kind" "deed_kind" (defArgs s_deed_kind) (defBody s_deed_kind) (defScope s_deed_kind) .none kV_deed_kind dc_deed_kind pm_deed_kind an_deed_kind cd_deed_kind ct_deed_kind,
    f_is_name := f_is_name,
    fd_is_name := PySem.W.fnOf "is_name" "is_name" (defArgs s_is_name) (defBody s_is_name) (defScope s_is_name) .none kV_is_name dc_is_name pm_is_name an_is_name cd_is_name ct_is_name,
    f_within_let := f_within_let,
    fd_within_let := PySem.W.fnOf "within_let" "within_let" (defArgs s_within_let) (defBody s_within_let) (defScope s_within_let) .none kV_within_let dc_within_let pm_within_let an_within_let cd_within_let ct_within_let,
    f_is_measure := f_is_measure,
    fd_is_measure := PySem.W.fnOf "is_measure" "is_measure" (defArgs s_is_measure) (defBody s_is_measure) (defScope s_is_measure) .none kV_is_measure dc_is_measure pm_is_measure an_is_measure cd_is_measure ct_is_measure,
    f_is_compared := f_is_compared,
    fd_is_compared := PySem.W.fnOf "is_compared" "is_compared" (defArgs s_is_compared) (defBody s_is_compared) (defScope s_is_compared) .none kV_is_compared dc_is_compared pm_is_compared an_is_compared cd_is_compared ct_is_compared,
    f_trees_within := f_trees_within,
    fd_trees_within := PySem.W.fnOf "trees_within" "trees_within" (defArgs s_trees_within) (defBody s_trees_within) (defScope s_trees_within) .none kV_trees_within dc_trees_within pm_trees_within an_trees_within cd_trees_within ct_trees_within,
    f_check_trees := f_check_trees,
    fd_check_trees := PySem.W.fnOf "check_trees" "check_trees" (defArgs s_check_trees) (defBody s_check_trees) (defScope s_check_trees) .none kV_check_trees dc_check_trees pm_check_trees an_check_trees cd_check_trees ct_check_trees,
    f_is_param := f_is_param,
    fd_is_param := PySem.W.fnOf "is_param" "is_param" (defArgs s_is_param) (defBody s_is_param) (defScope s_is_param) .none kV_is_param dc_is_param pm_is_param an_is_param cd_is_param ct_is_param,
    f_is_headed := f_is_headed,
    fd_is_headed := PySem.W.fnOf "is_headed" "is_headed" (defArgs s_is_headed) (defBody s_is_headed) (defScope s_is_headed) .none kV_is_headed dc_is_headed pm_is_headed an_is_headed cd_is_headed ct_is_headed,
    f_check_program := f_check_program,
    fd_check_program := PySem.W.fnOf "check_program" "check_program" (defArgs s_check_program) (defBody s_check_program) (defScope s_check_program) .none kV_check_program dc_check_program pm_check_program an_check_program cd_check_program ct_check_program,
    f_deed_goals := f_deed_goals,
    fd_deed_goals := PySem.W.fnOf "deed_goals" "deed_goals" (defArgs s_deed_goals) (defBody s_deed_goals) (defScope s_deed_goals) .none kV_deed_goals dc_deed_goals pm_deed_goals an_deed_goals cd_deed_goals ct_deed_goals,
    f_goals := f_goals,
    fd_goals := PySem.W.fnOf "goals" "goals" (defArgs s_goals) (defBody s_goals) (defScope s_goals) .none kV_goals dc_goals pm_goals an_goals cd_goals ct_goals,
    f_Way_init := f_Way_init,
    fd_Way_init := PySem.W.fnOf "__init__" "Way.__init__" (defArgs s_Way_init) (defBody s_Way_init) (defScope s_Way_init) .none kV_Way_init dc_Way_init pm_Way_init an_Way_init cd_Way_init ct_Way_init,
    f_Way_meant_part := f_Way_meant_part,
    fd_Way_meant_part := PySem.W.fnOf "meant_part" "Way.meant_part" (defArgs s_Way_meant_part) (defBody s_Way_meant_part) (defScope s_Way_meant_part) .none kV_Way_meant_part dc_Way_meant_part pm_Way_meant_part an_Way_meant_part cd_Way_meant_part ct_Way_meant_part,
    f_Way_meant_row := f_Way_meant_row,
    fd_Way_meant_row := PySem.W.fnOf "meant_row" "Way.meant_row" (defArgs s_Way_meant_row) (defBody s_Way_meant_row) (defScope s_Way_meant_row) .none kV_Way_meant_row dc_Way_meant_row pm_Way_meant_row an_Way_meant_row cd_Way_meant_row ct_Way_meant_row,
    f_Way_meant_tree := f_Way_meant_tree,
    fd_Way_meant_tree := PySem.W.fnOf "meant_tree" "Way.meant_tree" (defArgs s_Way_meant_tree) (defBody s_Way_meant_tree) (defScope s_Way_meant_tree) .none kV_Way_meant_tree dc_Way_meant_tree pm_Way_meant_tree an_Way_meant_tree cd_Way_meant_tree ct_Way_meant_tree,
    f_Way_knowing := f_Way_knowing,
    fd_Way_knowing := PySem.W.fnOf "knowing" "Way.knowing" (defArgs s_Way_knowing) (defBody s_Way_knowing) (defScope s_Way_knowing) .none kV_Way_knowing dc_Way_knowing pm_Way_knowing an_Way_knowing cd_Way_knowing ct_Way_knowing,
    f_both_ways := f_both_ways,
    fd_both_ways := PySem.W.fnOf "both_ways" "both_ways" (defArgs s_both_ways) (defBody s_both_ways) (defScope s_both_ways) .none kV_both_ways dc_both_ways pm_both_ways an_both_ways cd_both_ways ct_both_ways,
    f_told_number := f_told_number,
    fd_told_number := PySem.W.fnOf "told_number" "told_number" (defArgs s_told_number) (defBody s_told_number) (defScope s_told_number) .none kV_told_number dc_told_number pm_told_number an_told_number cd_told_number ct_told_number,
    f_told_by := f_told_by,
    fd_told_by := PySem.W.fnOf "told_by" "told_by" (defArgs s_told_by) (defBody s_told_by) (defScope s_told_by) .none kV_told_by dc_told_by pm_told_by an_told_by cd_told_by ct_told_by,
    f_Way_letting := f_Way_letting,
    fd_Way_letting := PySem.W.fnOf "letting" "Way.letting" (defArgs s_Way_letting) (defBody s_Way_letting) (defScope s_Way_letting) .none kV_Way_letting dc_Way_letting pm_Way_letting an_Way_letting cd_Way_letting ct_Way_letting,
    f_let_kind := f_let_kind,
    fd_let_kind := PySem.W.fnOf "let_kind" "let_kind" (defArgs s_let_kind) (defBody s_let_kind) (defScope s_let_kind) .none kV_let_kind dc_let_kind pm_let_kind an_let_kind cd_let_kind ct_let_kind,
    f_trees_behind := f_trees_behind,
    fd_trees_behind := PySem.W.fnOf "trees_behind" "trees_behind" (defArgs s_trees_behind) (defBody s_trees_behind) (defScope s_trees_behind) .none kV_trees_behind dc_trees_behind pm_trees_behind an_trees_behind cd_trees_behind ct_trees_behind,
    f_function_clauses := f_function_clauses,
    fd_function_clauses := PySem.W.fnOf "function_clauses" "function_clauses" (defArgs s_function_clauses) (defBody s_function_clauses) (defScope s_function_clauses) .none kV_function_clauses dc_function_clauses pm_function_clauses an_function_clauses cd_function_clauses ct_function_clauses,
    f_clauses := f_clauses,
    fd_clauses := PySem.W.fnOf "clauses" "clauses" (defArgs s_clauses) (defBody s_clauses) (defScope s_clauses) .none kV_clauses dc_clauses pm_clauses an_clauses cd_clauses ct_clauses,
    f_w_size := f_w_size,
    fd_w_size := PySem.W.fnOf "_law_size" "_law_size" (defArgs s_w_size) (defBody s_w_size) (defScope s_w_size) .none kV_w_size dc_w_size pm_w_size an_w_size cd_w_size ct_w_size,
    f_w_wants := f_w_wants,
    fd_w_wants := PySem.W.fnOf "_law_wants" "_law_wants" (defArgs s_w_wants) (defBody s_w_wants) (defScope s_w_wants) .none kV_w_wants dc_w_wants pm_w_wants an_w_wants cd_w_wants ct_w_wants,
    f_w_lets := f_w_lets,
    fd_w_lets := PySem.W.fnOf "_law_lets" "_law_lets" (defArgs s_w_lets) (defBody s_w_lets) (defScope s_w_lets) .none kV_w_lets dc_w_lets pm_w_lets an_w_lets cd_w_lets ct_w_lets,
    f_w_walk := f_w_walk,
    fd_w_walk := PySem.W.fnOf "_law_walk" "_law_walk" (defArgs s_w_walk) (defBody s_w_walk) (defScope s_w_walk) .none kV_w_walk dc_w_walk pm_w_walk an_w_walk cd_w_walk ct_w_walk,
    f_w_clauses := f_w_clauses,
    fd_w_clauses := PySem.W.fnOf "_law_clauses" "_law_clauses" (defArgs s_w_clauses) (defBody s_w_clauses) (defScope s_w_clauses) .none kV_w_clauses dc_w_clauses pm_w_clauses an_w_clauses cd_w_clauses ct_w_clauses,
    f_w_branches := f_w_branches,
    fd_w_branches := PySem.W.fnOf "_law_branches" "_law_branches" (defArgs s_w_branches) (defBody s_w_branches) (defScope s_w_branches) .none kV_w_branches dc_w_branches pm_w_branches an_w_branches cd_w_branches ct_w_branches,
    f_law := fa,
    fd_law := PySem.W.fnOf "law" "law" (defArgs s_law) (defBody s_law) (defScope s_law) .none kV_law dc_law pm_law an_law cd_law ct_law,
    a_DEEDS := x_DEEDS,
    e_DEEDS := e_DEEDS,
    m_DEEDS := n_DEEDS,
    a_DEEDS_num := x_DEEDS_num,
    a_DEEDS_num_0 := x_DEEDS_num_0,
    a_DEEDS_sum := x_DEEDS_sum,
    a_DEEDS_sum_0 := x_DEEDS_sum_0,
    a_DEEDS_len := x_DEEDS_len,
    a_DEEDS_len_0 := x_DEEDS_len_0,
    a_DEEDS_nil := x_DEEDS_nil,
    a_DEEDS_nil_0 := x_DEEDS_nil_0,
    a_DEEDS_put := x_DEEDS_put,
    a_DEEDS_put_0 := x_DEEDS_put_0,
    a_DEEDS_head := x_DEEDS_head,
    a_DEEDS_head_0 := x_DEEDS_head_0,
    a_DEEDS_tail := x_DEEDS_tail,
    a_DEEDS_tail_0 := x_DEEDS_tail_0,
    a_DEEDS_at := x_DEEDS_at,
    a_DEEDS_at_0 := x_DEEDS_at_0,
    a_DEEDS_ask := x_DEEDS_ask,
    a_DEEDS_ask_0 := x_DEEDS_ask_0,
    t_FARTHEST := k_FARTHEST,
    a_KINDS := x_KINDS,
    a_MEASURES := x_MEASURES,
    e_MEASURES := e_MEASURES,
    m_MEASURES := n_MEASURES,
    t_MOST_DEPTH := k_MOST_DEPTH,
    t_MOST_FUNCTIONS := k_MOST_FUNCTIONS,
    t_MOST_PARAMS := k_MOST_PARAMS,
    t_MOST_SIGNS := k_MOST_SIGNS,
    t_MOST_TREES := k_MOST_TREES,
    a_TREES := x_TREES,
    e_TREES := e_TREES,
    m_TREES := n_TREES }
  have T : Tx K w mg A := {
    cl_Way := ⟨pg_Way, hd_Way, po_Way, sa_Way⟩,
    g_Way := PySem.W.mg_of X G aC_Way,
    a_Way_names := na_Way_names,
    a_Way_known := na_Way_known,
    a_Way_made := na_Way_made,
    a_Way_meant := na_Way_meant,
    g_w_start := PySem.W.mg_of X G a_w_start,
    F_w_start := fun_mk l_w_start c_w_start k_w_start,
    b_w_start := (fun_mk (st := s_w_start) l_w_start c_w_start k_w_start).binds (ps := P_w_start) fun _ _ _ _ _ _ us hl => match us, hl with | [_], _ => rfl,
    g_w_drawn := PySem.W.mg_of X G a_w_drawn,
    F_w_drawn := fun_mk l_w_drawn c_w_drawn k_w_drawn,
    b_w_drawn := (fun_mk (st := s_w_drawn) l_w_drawn c_w_drawn k_w_drawn).binds (ps := P_w_drawn) fun _ _ _ _ _ _ us hl => match us, hl with | [_, _], _ => rfl,
    g_w_of := PySem.W.mg_of X G a_w_of,
    F_w_of := fun_mk l_w_of c_w_of k_w_of,
    b_w_of := (fun_mk (st := s_w_of) l_w_of c_w_of k_w_of).binds (ps := P_w_of) fun _ _ _ _ _ _ us hl => match us, hl with | [_, _], _ => rfl,
    g_w_measure := PySem.W.mg_of X G a_w_measure,
    F_w_measure := fun_mk l_w_measure c_w_measure k_w_measure,
    b_w_measure := (fun_mk (st := s_w_measure) l_w_measure c_w_measure k_w_measure).binds (ps := P_w_measure) fun _ _ _ _ _ _ us hl => match us, hl with | [_, _], _ => rfl,
    g_w_deed := PySem.W.mg_of X G a_w_deed,
    F_w_deed := fun_mk l_w_deed c_w_deed k_w_deed,
    b_w_deed := (fun_mk (st := s_w_deed) l_w_deed c_w_deed k_w_deed).binds (ps := P_w_deed) fun _ _ _ _ _ _ us hl => match us, hl with | [_, _, _], _ => rfl,
    g_w_tree := PySem.W.mg_of X G a_w_tree,
    F_w_tree := fun_mk l_w_tree c_w_tree k_w_tree,
    b_w_tree := (fun_mk (st := s_w_tree) l_w_tree c_w_tree k_w_tree).binds (ps := P_w_tree) fun _ _ _ _ _ _ us hl => match us, hl with | [_, _, _, _, _], _ => rfl,
    g_w_program := PySem.W.mg_of X G a_w_program,
    F_w_program := fun_mk l_w_program c_w_program k_w_program,
    b_w_program := (fun_mk (st := s_w_program) l_w_program c_w_program k_w_program).binds (ps := P_w_program) fun _ _ _ _ _ _ us hl => match us, hl with | [_, _, _], _ => rfl,
    g_w_same := PySem.W.mg_of X G a_w_same,
    F_w_same := fun_mk l_w_same c_w_same k_w_same,
    b_w_same := (fun_mk (st := s_w_same) l_w_same c_w_same k_w_same).binds (ps := P_w_same) fun _ _ _ _ _ _ us hl => match us, hl with | [_, _], _ => rfl,
    g_has_word := PySem.W.mg_of X G a_has_word,
    F_has_word := fun_mk l_has_word c_has_word k_has_word,
    b_has_word := (fun_mk (st := s_has_word) l_has_word c_has_word k_has_word).binds (ps := P_has_word) fun _ _ _ _ _ _ us hl => match us, hl with | [_], _ => rfl,
    g_is_row := PySem.W.mg_of X G a_is_row,
    F_is_row := fun_mk l_is_row c_is_row k_is_row,
    b_is_row := (fun_mk (st := s_is_row) l_is_row c_is_row k_is_row).binds (ps := P_is_row) fun _ _ _ _ _ _ us hl => match us, hl with | [_, _], _ => rfl,
    g_is_whole := PySem.W.mg_of X G a_is_whole,
    F_is_whole := fun_mk l_is_whole c_is_whole k_is_whole,
    b_is_whole := (fun_mk (st := s_is_whole) l_is_whole c_is_whole k_is_whole).binds (ps := P_is_whole) fun _ _ _ _ _ _ us hl => match us, hl with | [_], _ => rfl,
    g_is_between := PySem.W.mg_of X G a_is_between,
    F_is_between := fun_mk l_is_between c_is_between k_is_between,
    b_is_between := (fun_mk (st := s_is_between) l_is_between c_is_between k_is_between).binds (ps := P_is_between) fun _ _ _ _ _ _ us hl => match us, hl with | [_, _, _], _ => rfl,
    g_is_near := PySem.W.mg_of X G a_is_near,
    F_is_near := fun_mk l_is_near c_is_near k_is_near,
    b_is_near := (fun_mk (st := s_is_near) l_is_near c_is_near k_is_near).binds (ps := P_is_near) fun _ _ _ _ _ _ us hl => match us, hl with | [_], _ => rfl,
    g_stands := PySem.W.mg_of X G a_stands,
    F_stands := fun_mk l_stands c_stands k_stands,
    b_stands := (fun_mk (st := s_stands) l_stands c_stands k_stands).binds (ps := P_stands) fun _ _ _ _ _ _ us hl => match us, hl with | [_, _, _], _ => rfl,
    g_all_fit := PySem.W.mg_of X G a_all_fit,
    F_all_fit := fun_mk l_all_fit c_all_fit k_all_fit,
    b_all_fit := (fun_mk (st := s_all_fit) l_all_fit c_all_fit k_all_fit).binds (ps := P_all_fit) fun _ _ _ _ _ _ us hl => match us, hl with | [_, _, _], _ => rfl,
    g_kinds_ahead := PySem.W.mg_of X G a_kinds_ahead,
    F_kinds_ahead := fun_mk l_kinds_ahead c_kinds_ahead k_kinds_ahead,
    b_kinds_ahead := (fun_mk (st := s_kinds_ahead) l_kinds_ahead c_kinds_ahead k_kinds_ahead).binds (ps := P_kinds_ahead) fun _ _ _ _ _ _ us hl => match us, hl with | [_], _ => rfl,
    g_call_kind := PySem.W.mg_of X G a_call_kind,
    F_call_kind := fun_mk l_call_kind c_call_kind k_call_kind,
    b_call_kind := (fun_mk (st := s_call_kind) l_call_kind c_call_kind k_call_kind).binds (ps := P_call_kind) fun _ _ _ _ _ _ us hl => match us, hl with | [_, _, _], _ => rfl,
    g_deed_kind := PySem.W.mg_of X G a_deed_kind,
    F_deed_kind := fun_mk l_deed_kind c_deed_kind k_deed_kind,
    b_deed_kind := (fun_mk (st := s_deed_kind) l_deed_kind c_deed_kind k_deed_kind).binds (ps := P_deed_kind) fun _ _ _ _ _ _ us hl => match us, hl with | [_, _, _], _ => rfl,
    g_is_name := PySem.W.mg_of X G a_is_name,
    F_is_name := fun_mk l_is_name c_is_name k_is_name,
    b_is_name := (fun_mk (st := s_is_name) l_is_name c_is_name k_is_name).binds (ps := P_is_name) fun _ _ _ _ _ _ us hl => match us, hl with | [_], _ => rfl,
    g_within_let := PySem.W.mg_of X G a_within_let,
    F_within_let := fun_mk l_within_let c_within_let k_within_let,
    b_within_let := (fun_mk (st := s_within_let) l_within_let c_within_let k_within_let).binds (ps := P_within_let) fun _ _ _ _ _ _ us hl => match us, hl with | [_, _, _], _ => rfl,
    g_is_measure := PySem.W.mg_of X G a_is_measure,
    F_is_measure := fun_mk l_is_measure c_is_measure k_is_measure,
    b_is_measure := (fun_mk (st := s_is_measure) l_is_measure c_is_measure k_is_measure).binds (ps := P_is_measure) fun _ _ _ _ _ _ us hl => match us, hl with | [_, _], _ => rfl,
    g_is_compared := PySem.W.mg_of X G a_is_compared,
    F_is_compared := fun_mk l_is_compared c_is_compared k_is_compared,
    b_is_compared := (fun_mk (st := s_is_compared) l_is_compared c_is_compared k_is_compared).binds (ps := P_is_compared) fun _ _ _ _ _ _ us hl => match us, hl with | [_, _], _ => rfl,
    g_trees_within := PySem.W.mg_of X G a_trees_within,
    F_trees_within := fun_mk l_trees_within c_trees_within k_trees_within,
    b_trees_within := (fun_mk (st := s_trees_within) l_trees_within c_trees_within k_trees_within).binds (ps := P_trees_within) fun _ _ _ _ _ _ us hl => match us, hl with | [_, _, _, _], _ => rfl,
    g_check_trees := PySem.W.mg_of X G a_check_trees,
    F_check_trees := fun_mk l_check_trees c_check_trees k_check_trees,
    b_check_trees := (fun_mk (st := s_check_trees) l_check_trees c_check_trees k_check_trees).binds (ps := P_check_trees) fun _ _ _ _ _ _ us hl => match us, hl with | [_, _], _ => rfl,
    g_is_param := PySem.W.mg_of X G a_is_param,
    F_is_param := fun_mk l_is_param c_is_param k_is_param,
    b_is_param := (fun_mk (st := s_is_param) l_is_param c_is_param k_is_param).binds (ps := P_is_param) fun _ _ _ _ _ _ us hl => match us, hl with | [_], _ => rfl,
    g_is_headed := PySem.W.mg_of X G a_is_headed,
    F_is_headed := fun_mk l_is_headed c_is_headed k_is_headed,
    b_is_headed := (fun_mk (st := s_is_headed) l_is_headed c_is_headed k_is_headed).binds (ps := P_is_headed) fun _ _ _ _ _ _ us hl => match us, hl with | [_], _ => rfl,
    g_check_program := PySem.W.mg_of X G a_check_program,
    F_check_program := fun_mk l_check_program c_check_program k_check_program,
    b_check_program := (fun_mk (st := s_check_program) l_check_program c_check_program k_check_program).binds (ps := P_check_program) fun _ _ _ _ _ _ us hl => match us, hl with | [_], _ => rfl,
    g_deed_goals := PySem.W.mg_of X G a_deed_goals,
    F_deed_goals := fun_mk l_deed_goals c_deed_goals k_deed_goals,
    b_deed_goals := (fun_mk (st := s_deed_goals) l_deed_goals c_deed_goals k_deed_goals).binds (ps := P_deed_goals) fun _ _ _ _ _ _ us hl => match us, hl with | [_], _ => rfl,
    g_goals := PySem.W.mg_of X G a_goals,
    F_goals := fun_mk l_goals c_goals k_goals,
    b_goals := (fun_mk (st := s_goals) l_goals c_goals k_goals).binds (ps := P_goals) fun _ _ _ _ _ _ us hl => match us, hl with | [_, _, _], _ => rfl,
    M_Way := ⟨mk_Way, a_Way_init, i_Way_init, kc_Way⟩,
    F_Way_init := fun_mk l_Way_init c_Way_init k_Way_init,
    b_Way_init := (fun_mk (st := s_Way_init) l_Way_init c_Way_init k_Way_init).binds (ps := P_Way_init) fun _ _ _ _ _ _ us hl => match us, hl with | [_, _, _, _, _], _ => rfl,
    m_Way_meant_part := ⟨a_Way_meant_part, i_Way_meant_part, k_Way_meant_part⟩,
    F_Way_meant_part := fun_mk l_Way_meant_part c_Way_meant_part k_Way_meant_part,
    b_Way_meant_part := (fun_mk (st := s_Way_meant_part) l_Way_meant_part c_Way_meant_part k_Way_meant_part).binds (ps := P_Way_meant_part) fun _ _ _ _ _ _ us hl => match us, hl with | [_, _], _ => rfl,
    m_Way_meant_row := ⟨a_Way_meant_row, i_Way_meant_row, k_Way_meant_row⟩,
    F_Way_meant_row := fun_mk l_Way_meant_row c_Way_meant_row k_Way_meant_row,
    b_Way_meant_row := (fun_mk (st := s_Way_meant_row) l_Way_meant_row c_Way_meant_row k_Way_meant_row).binds (ps := P_Way_meant_row) fun _ _ _ _ _ _ us hl => match us, hl with | [_, _], _ => rfl,
    m_Way_meant_tree := ⟨a_Way_meant_tree, i_Way_meant_tree, k_Way_meant_tree⟩,
    F_Way_meant_tree := fun_mk l_Way_meant_tree c_Way_meant_tree k_Way_meant_tree,
    b_Way_meant_tree := (fun_mk (st := s_Way_meant_tree) l_Way_meant_tree c_Way_meant_tree k_Way_meant_tree).binds (ps := P_Way_meant_tree) fun _ _ _ _ _ _ us hl => match us, hl with | [_, _], _ => rfl,
    m_Way_knowing := ⟨a_Way_knowing, i_Way_knowing, k_Way_knowing⟩,
    F_Way_knowing := fun_mk l_Way_knowing c_Way_knowing k_Way_knowing,
    b_Way_knowing := (fun_mk (st := s_Way_knowing) l_Way_knowing c_Way_knowing k_Way_knowing).binds (ps := P_Way_knowing) fun _ _ _ _ _ _ us hl => match us, hl with | [_, _], _ => rfl,
    g_both_ways := PySem.W.mg_of X G a_both_ways,
    F_both_ways := fun_mk l_both_ways c_both_ways k_both_ways,
    b_both_ways := (fun_mk (st := s_both_ways) l_both_ways c_both_ways k_both_ways).binds (ps := P_both_ways) fun _ _ _ _ _ _ us hl => match us, hl with | [_, _, _], _ => rfl,
    g_told_number := PySem.W.mg_of X G a_told_number,
    F_told_number := fun_mk l_told_number c_told_number k_told_number,
    b_told_number := (fun_mk (st := s_told_number) l_told_number c_told_number k_told_number).binds (ps := P_told_number) fun _ _ _ _ _ _ us hl => match us, hl with | [_, _, _], _ => rfl,
    g_told_by := PySem.W.mg_of X G a_told_by,
    F_told_by := fun_mk l_told_by c_told_by k_told_by,
    b_told_by := (fun_mk (st := s_told_by) l_told_by c_told_by k_told_by).binds (ps := P_told_by) fun _ _ _ _ _ _ us hl => match us, hl with | [_, _, _], _ => rfl,
    m_Way_letting := ⟨a_Way_letting, i_Way_letting, k_Way_letting⟩,
    F_Way_letting := fun_mk l_Way_letting c_Way_letting k_Way_letting,
    b_Way_letting := (fun_mk (st := s_Way_letting) l_Way_letting c_Way_letting k_Way_letting).binds (ps := P_Way_letting) fun _ _ _ _ _ _ us hl => match us, hl with | [_, _, _, _], _ => rfl,
    g_let_kind := PySem.W.mg_of X G a_let_kind,
    F_let_kind := fun_mk l_let_kind c_let_kind k_let_kind,
    b_let_kind := (fun_mk (st := s_let_kind) l_let_kind c_let_kind k_let_kind).binds (ps := P_let_kind) fun _ _ _ _ _ _ us hl => match us, hl with | [_, _], _ => rfl,
    g_trees_behind := PySem.W.mg_of X G a_trees_behind,
    F_trees_behind := fun_mk l_trees_behind c_trees_behind k_trees_behind,
    b_trees_behind := (fun_mk (st := s_trees_behind) l_trees_behind c_trees_behind k_trees_behind).binds (ps := P_trees_behind) fun _ _ _ _ _ _ us hl => match us, hl with | [_, _, _], _ => rfl,
    g_function_clauses := PySem.W.mg_of X G a_function_clauses,
    F_function_clauses := fun_mk l_function_clauses c_function_clauses k_function_clauses,
    b_function_clauses := (fun_mk (st := s_function_clauses) l_function_clauses c_function_clauses k_function_clauses).binds (ps := P_function_clauses) fun _ _ _ _ _ _ us hl => match us, hl with | [_, _], _ => rfl,
    g_clauses := PySem.W.mg_of X G a_clauses,
    F_clauses := fun_mk l_clauses c_clauses k_clauses,
    b_clauses := (fun_mk (st := s_clauses) l_clauses c_clauses k_clauses).binds (ps := P_clauses) fun _ _ _ _ _ _ us hl => match us, hl with | [_], _ => rfl,
    g_w_size := PySem.W.mg_of X G a_w_size,
    F_w_size := fun_mk l_w_size c_w_size k_w_size,
    b_w_size := (fun_mk (st := s_w_size) l_w_size c_w_size k_w_size).binds (ps := P_w_size) fun _ _ _ _ _ _ us hl => match us, hl with | [_], _ => rfl,
    g_w_wants := PySem.W.mg_of X G a_w_wants,
    F_w_wants := fun_mk l_w_wants c_w_wants k_w_wants,
    b_w_wants := (fun_mk (st := s_w_wants) l_w_wants c_w_wants k_w_wants).binds (ps := P_w_wants) fun _ _ _ _ _ _ us hl => match us, hl with | [_, _], _ => rfl,
    g_w_lets := PySem.W.mg_of X G a_w_lets,
    F_w_lets := fun_mk l_w_lets c_w_lets k_w_lets,
    b_w_lets := (fun_mk (st := s_w_lets) l_w_lets c_w_lets k_w_lets).binds (ps := P_w_lets) fun _ _ _ _ _ _ us hl => match us, hl with | [_, _, _, _], _ => rfl,
    g_w_walk := PySem.W.mg_of X G a_w_walk,
    F_w_walk := fun_mk l_w_walk c_w_walk k_w_walk,
    b_w_walk := (fun_mk (st := s_w_walk) l_w_walk c_w_walk k_w_walk).binds (ps := P_w_walk) fun _ _ _ _ _ _ us hl => match us, hl with | [_, _, _, _], _ => rfl,
    g_w_clauses := PySem.W.mg_of X G a_w_clauses,
    F_w_clauses := fun_mk l_w_clauses c_w_clauses k_w_clauses,
    b_w_clauses := (fun_mk (st := s_w_clauses) l_w_clauses c_w_clauses k_w_clauses).binds (ps := P_w_clauses) fun _ _ _ _ _ _ us hl => match us, hl with | [_], _ => rfl,
    g_w_branches := PySem.W.mg_of X G a_w_branches,
    F_w_branches := fun_mk l_w_branches c_w_branches k_w_branches,
    b_w_branches := (fun_mk (st := s_w_branches) l_w_branches c_w_branches k_w_branches).binds (ps := P_w_branches) fun _ _ _ _ _ _ us hl => match us, hl with | [_], _ => rfl,
    g_law := PySem.W.mg_of X G a_law,
    F_law := fun_mk l_law c_law k_law,
    b_law := (fun_mk (st := s_law) l_law c_law k_law).binds (ps := P_law) fun _ _ _ _ _ _ us hl => match us, hl with | [_], _ => rfl,
    n_all := PySem.W.mg_none_of X G n_all,
    n_bool := PySem.W.mg_none_of X G n_bool,
    n_dict := PySem.W.mg_none_of X G n_dict,
    n_enumerate := PySem.W.mg_none_of X G n_enumerate,
    n_int := PySem.W.mg_none_of X G n_int,
    n_isinstance := PySem.W.mg_none_of X G n_isinstance,
    n_len := PySem.W.mg_none_of X G n_len,
    n_list := PySem.W.mg_none_of X G n_list,
    n_max := PySem.W.mg_none_of X G n_max,
    n_range := PySem.W.mg_none_of X G n_range,
    n_reversed := PySem.W.mg_none_of X G n_reversed,
    n_str := PySem.W.mg_none_of X G n_str,
    n_sum := PySem.W.mg_none_of X G n_sum,
    n_tuple := PySem.W.mg_none_of X G n_tuple,
    n_zip := PySem.W.mg_none_of X G n_zip,
    c_DEEDS := PySem.W.mg_of X G m_DEEDS,
    d_DEEDS := ⟨t_DEEDS, v_DEEDS, z_DEEDS⟩,
    y_DEEDS_num := ⟨_, _, _, t_DEEDS, v_DEEDS, y_DEEDS_num, rfl⟩,
    q_DEEDS_num := fun _ => .inr ⟨_, i_DEEDS_num, n_DEEDS_num, t_DEEDS_num, rfl, rfl, small z_DEEDS_num, v_DEEDS_num⟩,
    q_DEEDS_num_0 := fun _ => .inr ⟨_, i_DEEDS_num_0, n_DEEDS_num_0, t_DEEDS_num_0, rfl, rfl, small z_DEEDS_num_0, v_DEEDS_num_0⟩,
    y_DEEDS_sum := ⟨_, _, _, t_DEEDS, v_DEEDS, y_DEEDS_sum, rfl⟩,
    q_DEEDS_sum := fun _ => .inr ⟨_, i_DEEDS_sum, n_DEEDS_sum, t_DEEDS_sum, rfl, rfl, small z_DEEDS_sum, v_DEEDS_sum⟩,
    q_DEEDS_sum_0 := fun _ => .inr ⟨_, i_DEEDS_sum_0, n_DEEDS_sum_0, t_DEEDS_sum_0, rfl, rfl, small z_DEEDS_sum_0, v_DEEDS_sum_0⟩,
    y_DEEDS_len := ⟨_, _, _, t_DEEDS, v_DEEDS, y_DEEDS_len, rfl⟩,
    q_DEEDS_len := fun _ => .inr ⟨_, i_DEEDS_len, n_DEEDS_len, t_DEEDS_len, rfl, rfl, small z_DEEDS_len, v_DEEDS_len⟩,
    q_DEEDS_len_0 := fun _ => .inr ⟨_, i_DEEDS_len_0, n_DEEDS_len_0, t_DEEDS_len_0, rfl, rfl, small z_DEEDS_len_0, v_DEEDS_len_0⟩,
    y_DEEDS_nil := ⟨_, _, _, t_DEEDS, v_DEEDS, y_DEEDS_nil, rfl⟩,
    q_DEEDS_nil := fun _ => .inr ⟨_, i_DEEDS_nil, n_DEEDS_nil, t_DEEDS_nil, rfl, rfl, small z_DEEDS_nil, v_DEEDS_nil⟩,
    q_DEEDS_nil_0 := fun _ => .inr ⟨_, i_DEEDS_nil_0, n_DEEDS_nil_0, t_DEEDS_nil_0, rfl, rfl, small z_DEEDS_nil_0, v_DEEDS_nil_0⟩,
    y_DEEDS_put := ⟨_, _, _, t_DEEDS, v_DEEDS, y_DEEDS_put, rfl⟩,
    q_DEEDS_put := fun _ => .inr ⟨_, i_DEEDS_put, n_DEEDS_put, t_DEEDS_put, rfl, rfl, small z_DEEDS_put, v_DEEDS_put⟩,
    q_DEEDS_put_0 := fun _ => .inr ⟨_, i_DEEDS_put_0, n_DEEDS_put_0, t_DEEDS_put_0, rfl, rfl, small z_DEEDS_put_0, v_DEEDS_put_0⟩,
    y_DEEDS_head := ⟨_, _, _, t_DEEDS, v_DEEDS, y_DEEDS_head, rfl⟩,
    q_DEEDS_head := fun _ => .inr ⟨_, i_DEEDS_head, n_DEEDS_head, t_DEEDS_head, rfl, rfl, small z_DEEDS_head, v_DEEDS_head⟩,
    q_DEEDS_head_0 := fun _ => .inr ⟨_, i_DEEDS_head_0, n_DEEDS_head_0, t_DEEDS_head_0, rfl, rfl, small z_DEEDS_head_0, v_DEEDS_head_0⟩,
    y_DEEDS_tail := ⟨_, _, _, t_DEEDS, v_DEEDS, y_DEEDS_tail, rfl⟩,
    q_DEEDS_tail := fun _ => .inr ⟨_, i_DEEDS_tail, n_DEEDS_tail, t_DEEDS_tail, rfl, rfl, small z_DEEDS_tail, v_DEEDS_tail⟩,
    q_DEEDS_tail_0 := fun _ => .inr ⟨_, i_DEEDS_tail_0, n_DEEDS_tail_0, t_DEEDS_tail_0, rfl, rfl, small z_DEEDS_tail_0, v_DEEDS_tail_0⟩,
    y_DEEDS_at := ⟨_, _, _, t_DEEDS, v_DEEDS, y_DEEDS_at, rfl⟩,
    q_DEEDS_at := fun _ => .inr ⟨_, i_DEEDS_at, n_DEEDS_at, t_DEEDS_at, rfl, rfl, small z_DEEDS_at, v_DEEDS_at⟩,
    q_DEEDS_at_0 := fun _ => .inr ⟨_, i_DEEDS_at_0, n_DEEDS_at_0, t_DEEDS_at_0, rfl, rfl, small z_DEEDS_at_0, v_DEEDS_at_0⟩,
    y_DEEDS_ask := ⟨_, _, _, t_DEEDS, v_DEEDS, y_DEEDS_ask, rfl⟩,
    q_DEEDS_ask := fun _ => .inr ⟨_, i_DEEDS_ask, n_DEEDS_ask, t_DEEDS_ask, rfl, rfl, small z_DEEDS_ask, v_DEEDS_ask⟩,
    q_DEEDS_ask_0 := fun _ => .inr ⟨_, i_DEEDS_ask_0, n_DEEDS_ask_0, t_DEEDS_ask_0, rfl, rfl, small z_DEEDS_ask_0, v_DEEDS_ask_0⟩,
    c_FARTHEST := PySem.W.mg_of X G m_FARTHEST,
    c_KINDS := PySem.W.mg_of X G m_KINDS,
    q_KINDS := fun _ => .inr ⟨_, i_KINDS, n_KINDS, t_KINDS, rfl, rfl, small z_KINDS, v_KINDS⟩,
    c_MEASURES := PySem.W.mg_of X G m_MEASURES,
    d_MEASURES := ⟨t_MEASURES, v_MEASURES, z_MEASURES⟩,
    y_MEASURES_of := ⟨_, _, _, t_MEASURES, v_MEASURES, y_MEASURES_of, ⟨_, rfl⟩⟩,
    y_MEASURES_len := ⟨_, _, _, t_MEASURES, v_MEASURES, y_MEASURES_len, ⟨_, rfl⟩⟩,
    c_MOST_DEPTH := PySem.W.mg_of X G m_MOST_DEPTH,
    c_MOST_FUNCTIONS := PySem.W.mg_of X G m_MOST_FUNCTIONS,
    c_MOST_PARAMS := PySem.W.mg_of X G m_MOST_PARAMS,
    c_MOST_SIGNS := PySem.W.mg_of X G m_MOST_SIGNS,
    c_MOST_TREES := PySem.W.mg_of X G m_MOST_TREES,
    c_TREES := PySem.W.mg_of X G m_TREES,
    d_TREES := ⟨t_TREES, v_TREES, z_TREES⟩,
    y_TREES_let := ⟨_, _, _, t_TREES, v_TREES, y_TREES_let, ⟨_, rfl⟩⟩,
    y_TREES_if := ⟨_, _, _, t_TREES, v_TREES, y_TREES_if, ⟨_, rfl⟩⟩,
    y_TREES_claim := ⟨_, _, _, t_TREES, v_TREES, y_TREES_claim, ⟨_, rfl⟩⟩,
    y_TREES_tell := ⟨_, _, _, t_TREES, v_TREES, y_TREES_tell, ⟨_, rfl⟩⟩ }
  exact ⟨A.fd_law, fun s v => .of_eq rfl, fun base _ _ => ok_law (P := l.prog) (base := base) T⟩
end Cs
open PySem PySem.W PyProof.Rows in
set_option maxRecDepth 100000 in
set_option maxHeartbeats 0 in
theorem PySem.Challenge.cw_claimsieve_k02_clauses_by_own_walk_holds : PySem.Challenge.rw_claimsieve_k02_clauses_by_own_walk.Holds := by
  w_on; o_law; k_head; (case hw => w_witness2)
  k_fill
  refine L2.walk_of (l := PySem.Challenge.rw_claimsieve_k02_clauses_by_own_walk) (n := 63) (k := 24) (x := "_law_script") (CX := fun _ => L2.CX0) (sp := fun w => Cs.spLaw _) rfl (by decide) rfl ⟨rfl, by decide, by decide⟩ (fun w h Y => PySem.W.kIn_of Y) ?F (fun _ _ a ns hl _ hS => ⟨a, ns, rfl, hS, Nat.le_trans hl (by decide), fun _ => rfl⟩) (fun _ _ _ _ _ h => h)
  case F =>
    intro w mg fa h KX G hmg
    refine' Cs.all_mk KX G hmg ?aC_Way ?pg_Way ?hd_Way ?po_Way ?sa_Way ?mk_Way ?kc_Way ?na_Way_names ?na_Way_known ?na_Way_made ?na_Way_meant ?a_w_start ?l_w_start ?c_w_start ?k_w_start ?a_w_drawn ?l_w_drawn ?c_w_drawn ?k_w_drawn ?a_w_of ?l_w_of ?c_w_of ?k_w_of ?a_w_measure ?l_w_measure ?c_w_measure ?k_w_measure ?a_w_deed ?l_w_deed ?c_w_deed ?k_w_deed ?a_w_tree ?l_w_tree ?c_w_tree ?k_w_tree ?a_w_program ?l_w_program ?c_w_program ?k_w_program ?a_w_same ?l_w_same ?c_w_same ?k_w_same ?a_has_word ?l_has_word ?c_has_word ?k_has_word ?a_is_row ?l_is_row ?c_is_row ?k_is_row ?a_is_whole ?l_is_whole ?c_is_whole ?k_is_whole ?a_is_between ?l_is_between ?c_is_between ?k_is_between ?a_is_near ?l_is_near ?c_is_near ?k_is_near ?a_stands ?l_stands ?c_stands ?k_stands ?a_all_fit ?l_all_fit ?c_all_fit ?k_all_fit ?a_kinds_ahead ?l_kinds_ahead ?c_kinds_ahead ?k_kinds_ahead ?a_call_kind ?l_call_kind ?c_call_kind ?k_call_kind ?a_deed_kind ?l_deed_kind ?c_deed_kind ?k_deed_kind ?a_is_name ?l_is_name ?c_is_name ?k_is_name ?a_within_let ?l_within_let ?c_within_let ?k_within_let ?a_is_measure ?l_is_measure ?c_is_measure ?k_is_measure ?a_is_compared ?l_is_compared ?c_is_compared ?k_is_compared ?a_trees_within ?l_trees_within ?c_trees_within ?k_trees_within ?a_check_trees ?l_check_trees ?c_check_trees ?k_check_trees ?a_is_param ?l_is_param ?c_is_param ?k_is_param ?a_is_headed ?l_is_headed ?c_is_headed ?k_is_headed ?a_check_program ?l_check_program ?c_check_program ?k_check_program ?a_deed_goals ?l_deed_goals ?c_deed_goals ?k_deed_goals ?a_goals ?l_goals ?c_goals ?k_goals ?a_Way_init ?i_Way_init ?l_Way_init ?c_Way_init ?k_Way_init ?a_Way_meant_part ?i_Way_meant_part ?l_Way_meant_part ?c_Way_meant_part ?k_Way_meant_part ?a_Way_meant_row ?i_Way_meant_row ?l_Way_meant_row ?c_Way_meant_row ?k_Way_meant_row ?a_Way_meant_tree ?i_Way_meant_tree ?l_Way_meant_tree ?c_Way_meant_tree ?k_Way_meant_tree ?a_Way_knowing ?i_Way_knowing ?l_Way_knowing ?c_Way_knowing ?k_Way_knowing ?a_both_ways ?l_both_ways ?c_both_ways ?k_both_ways ?a_told_number ?l_told_number ?c_told_number ?k_told_number ?a_told_by ?l_told_by ?c_told_by ?k_told_by ?a_Way_letting ?i_Way_letting ?l_Way_letting ?c_Way_letting ?k_Way_letting ?a_let_kind ?l_let_kind ?c_let_kind ?k_let_kind ?a_trees_behind ?l_trees_behind ?c_trees_behind ?k_trees_behind ?a_function_clauses ?l_function_clauses ?c_function_clauses ?k_function_clauses ?a_clauses ?l_clauses ?c_clauses ?k_clauses ?a_w_size ?l_w_size ?c_w_size ?k_w_size ?a_w_wants ?l_w_wants ?c_w_wants ?k_w_wants ?a_w_lets ?l_w_lets ?c_w_lets ?k_w_lets ?a_w_walk ?l_w_walk ?c_w_walk ?k_w_walk ?a_w_clauses ?l_w_clauses ?c_w_clauses ?k_w_clauses ?a_w_branches ?l_w_branches ?c_w_branches ?k_w_branches ?a_law ?l_law ?c_law ?k_law ?n_all ?n_bool ?n_dict ?n_enumerate ?n_int ?n_isinstance ?n_len ?n_list ?n_max ?n_range ?n_reversed ?n_str ?n_sum ?n_tuple ?n_zip ?m_DEEDS ?t_DEEDS ?v_DEEDS ?z_DEEDS ?y_DEEDS_num ?t_DEEDS_num ?v_DEEDS_num ?z_DEEDS_num ?t_DEEDS_num_0 ?v_DEEDS_num_0 ?z_DEEDS_num_0 ?y_DEEDS_sum ?t_DEEDS_sum ?v_DEEDS_sum ?z_DEEDS_sum ?t_DEEDS_sum_0 ?v_DEEDS_sum_0 ?z_DEEDS_sum_0 ?y_DEEDS_len ?t_DEEDS_len ?v_DEEDS_len ?z_DEEDS_len ?t_DEEDS_len_0 ?v_DEEDS_len_0 ?z_DEEDS_len_0 ?y_DEEDS_nil ?t_DEEDS_nil ?v_DEEDS_nil ?z_DEEDS_nil ?t_DEEDS_nil_0 ?v_DEEDS_nil_0 ?z_DEEDS_nil_0 ?y_DEEDS_put ?t_DEEDS_put ?v_DEEDS_put ?z_DEEDS_put ?t_DEEDS_put_0 ?v_DEEDS_put_0 ?z_DEEDS_put_0 ?y_DEEDS_head ?t_DEEDS_head ?v_DEEDS_head ?z_DEEDS_head ?t_DEEDS_head_0 ?v_DEEDS_head_0 ?z_DEEDS_head_0 ?y_DEEDS_tail ?t_DEEDS_tail ?v_DEEDS_tail ?z_DEEDS_tail ?t_DEEDS_tail_0 ?v_DEEDS_tail_0 ?z_DEEDS_tail_0 ?y_DEEDS_at ?t_DEEDS_at ?v_DEEDS_at ?z_DEEDS_at ?t_DEEDS_at_0 ?v_DEEDS_at_0 ?z_DEEDS_at_0 ?y_DEEDS_ask ?t_DEEDS_ask ?v_DEEDS_ask ?z_DEEDS_ask ?t_DEEDS_ask_0 ?v_DEEDS_ask_0 ?z_DEEDS_ask_0 ?m_FARTHEST ?m_KINDS ?t_KINDS ?v_KINDS ?z_KINDS ?m_MEASURES ?t_MEASURES ?v_MEASURES ?z_MEASURES ?y_MEASURES_of ?y_MEASURES_len ?m_MOST_DEPTH ?m_MOST_FUNCTIONS ?m_MOST_PARAMS ?m_MOST_SIGNS ?m_MOST_TREES ?m_TREES ?t_TREES ?v_TREES ?z_TREES ?y_TREES_let ?y_TREES_if ?y_TREES_claim ?y_TREES_tell
    (case aC_Way => k_is)
    (case pg_Way => k_is)
    (case hd_Way => k_is)
    (case po_Way => k_is)
    (case sa_Way => k_is)
    (case mk_Way => k_is)
    (case kc_Way => k_is)
    (case na_Way_names => k_is)
    (case na_Way_known => k_is)
    (case na_Way_made => k_is)
    (case na_Way_meant => k_is)
    (case a_w_start => k_is)
    (case l_w_start => k_is)
    (case c_w_start => k_is)
    (case k_w_start => k_is)
    (case a_w_drawn => k_is)
    (case l_w_drawn => k_is)
    (case c_w_drawn => k_is)
    (case k_w_drawn => k_is)
    (case a_w_of => k_is)
    (case l_w_of => k_is)
    (case c_w_of => k_is)
    (case k_w_of => k_is)
    (case a_w_measure => k_is)
    (case l_w_measure => k_is)
    (case c_w_measure => k_is)
    (case k_w_measure => k_is)
    (case a_w_deed => k_is)
    (case l_w_deed => k_is)
    (case c_w_deed => k_is)
    (case k_w_deed => k_is)
    (case a_w_tree => k_is)
    (case l_w_tree => k_is)
    (case c_w_tree => k_is)
    (case k_w_tree => k_is)
    (case a_w_program => k_is)
    (case l_w_program => k_is)
    (case c_w_program => k_is)
    (case k_w_program => k_is)
    (case a_w_same => k_is)
    (case l_w_same => k_is)
    (case c_w_same => k_is)
    (case k_w_same => k_is)
    (case a_has_word => k_is)
    (case l_has_word => k_is)
    (case c_has_word => k_is)
    (case k_has_word => k_is)
    (case a_is_row => k_is)
    (case l_is_row => k_is)
    (case c_is_row => k_is)
    (case k_is_row => k_is)
    (case a_is_whole => k_is)
    (case l_is_whole => k_is)
    (case c_is_whole => k_is)
    (case k_is_whole => k_is)
    (case a_is_between => k_is)
    (case l_is_between => k_is)
    (case c_is_between => k_is)
    (case k_is_between => k_is)
    (case a_is_near => k_is)
    (case l_is_near => k_is)
    (case c_is_near => k_is)
    (case k_is_near => k_is)
    (case a_stands => k_is)
    (case l_stands => k_is)
    (case c_stands => k_is)
    (case k_stands => k_is)
    (case a_all_fit => k_is)
    (case l_all_fit => k_is)
    (case c_all_fit => k_is)
    (case k_all_fit => k_is)
    (case a_kinds_ahead => k_is)
    (case l_kinds_ahead => k_is)
    (case c_kinds_ahead => k_is)
    (case k_kinds_ahead => k_is)
    (case a_call_kind => k_is)
    (case l_call_kind => k_is)
    (case c_call_kind => k_is)
    (case k_call_kind => k_is)
    (case a_deed_kind => k_is)
    (case l_deed_kind => k_is)
    (case c_deed_kind => k_is)
    (case k_deed_kind => k_is)
    (case a_is_name => k_is)
    (case l_is_name => k_is)
    (case c_is_name => k_is)
    (case k_is_name => k_is)
    (case a_within_let => k_is)
    (case l_within_let => k_is)
    (case c_within_let => k_is)
    (case k_within_let => k_is)
    (case a_is_measure => k_is)
    (case l_is_measure => k_is)
    (case c_is_measure => k_is)
    (case k_is_measure => k_is)
    (case a_is_compared => k_is)
    (case l_is_compared => k_is)
    (case c_is_compared => k_is)
    (case k_is_compared => k_is)
    (case a_trees_within => k_is)
    (case l_trees_within => k_is)
    (case c_trees_within => k_is)
    (case k_trees_within => k_is)
    (case a_check_trees => k_is)
    (case l_check_trees => k_is)
    (case c_check_trees => k_is)
    (case k_check_trees => k_is)
    (case a_is_param => k_is)
    (case l_is_param => k_is)
    (case c_is_param => k_is)
    (case k_is_param => k_is)
    (case a_is_headed => k_is)
    (case l_is_headed => k_is)
    (case c_is_headed => k_is)
    (case k_is_headed => k_is)
    (case a_check_program => k_is)
    (case l_check_program => k_is)
    (case c_check_program => k_is)
    (case k_check_program => k_is)
    (case a_deed_goals => k_is)
    (case l_deed_goals => k_is)
    (case c_deed_goals => k_is)
    (case k_deed_goals => k_is)
    (case a_goals => k_is)
    (case l_goals => k_is)
    (case c_goals => k_is)
    (case k_goals => k_is)
    (case a_Way_init => k_is)
    (case i_Way_init => k_is)
    (case l_Way_init => k_is)
    (case c_Way_init => k_is)
    (case k_Way_init => k_is)
    (case a_Way_meant_part => k_is)
    (case i_Way_meant_part => k_is)
    (case l_Way_meant_part => k_is)
    (case c_Way_meant_part => k_is)
    (case k_Way_meant_part => k_is)
    (case a_Way_meant_row => k_is)
    (case i_Way_meant_row => k_is)
    (case l_Way_meant_row => k_is)
    (case c_Way_meant_row => k_is)
    (case k_Way_meant_row => k_is)
    (case a_Way_meant_tree => k_is)
    (case i_Way_meant_tree => k_is)
    (case l_Way_meant_tree => k_is)
    (case c_Way_meant_tree => k_is)
    (case k_Way_meant_tree => k_is)
    (case a_Way_knowing => k_is)
    (case i_Way_knowing => k_is)
    (case l_Way_knowing => k_is)
    (case c_Way_knowing => k_is)
    (case k_Way_knowing => k_is)
    (case a_both_ways => k_is)
    (case l_both_ways => k_is)
    (case c_both_ways => k_is)
    (case k_both_ways => k_is)
    (case a_told_number => k_is)
    (case l_told_number => k_is)
    (case c_told_number => k_is)
    (case k_told_number => k_is)
    (case a_told_by => k_is)
    (case l_told_by => k_is)
    (case c_told_by => k_is)
    (case k_told_by => k_is)
    (case a_Way_letting => k_is)
    (case i_Way_letting => k_is)
    (case l_Way_letting => k_is)
    (case c_Way_letting => k_is)
    (case k_Way_letting => k_is)
    (case a_let_kind => k_is)
    (case l_let_kind => k_is)
    (case c_let_kind => k_is)
    (case k_let_kind => k_is)
    (case a_trees_behind => k_is)
    (case l_trees_behind => k_is)
    (case c_trees_behind => k_is)
    (case k_trees_behind => k_is)
    (case a_function_clauses => k_is)
    (case l_function_clauses => k_is)
    (case c_function_clauses => k_is)
    (case k_function_clauses => k_is)
    (case a_clauses => k_is)
    (case l_clauses => k_is)
    (case c_clauses => k_is)
    (case k_clauses => k_is)
    (case a_w_size => k_is)
    (case l_w_size => k_is)
    (case c_w_size => k_is)
    (case k_w_size => k_is)
    (case a_w_wants => k_is)
    (case l_w_wants => k_is)
    (case c_w_wants => k_is)
    (case k_w_wants => k_is)
    (case a_w_lets => k_is)
    (case l_w_lets => k_is)
    (case c_w_lets => k_is)
    (case k_w_lets => k_is)
    (case a_w_walk => k_is)
    (case l_w_walk => k_is)
    (case c_w_walk => k_is)
    (case k_w_walk => k_is)
    (case a_w_clauses => k_is)
    (case l_w_clauses => k_is)
    (case c_w_clauses => k_is)
    (case k_w_clauses => k_is)
    (case a_w_branches => k_is)
    (case l_w_branches => k_is)
    (case c_w_branches => k_is)
    (case k_w_branches => k_is)
    (case a_law => k_is)
    (case l_law => k_is)
    (case c_law => k_is)
    (case k_law => k_is)
    (case n_all => k_is)
    (case n_bool => k_is)
    (case n_dict => k_is)
    (case n_enumerate => k_is)
    (case n_int => k_is)
    (case n_isinstance => k_is)
    (case n_len => k_is)
    (case n_list => k_is)
    (case n_max => k_is)
    (case n_range => k_is)
    (case n_reversed => k_is)
    (case n_str => k_is)
    (case n_sum => k_is)
    (case n_tuple => k_is)
    (case n_zip => k_is)
    (case m_DEEDS => k_is)
    (case t_DEEDS => k_is)
    (case v_DEEDS => exact ⟨⟨_, _, rfl, rfl⟩, ⟨_, _, rfl, rfl⟩, ⟨_, _, rfl, rfl⟩, ⟨_, _, rfl, rfl⟩, ⟨_, _, rfl, rfl⟩, ⟨_, _, rfl, rfl⟩, ⟨_, _, rfl, rfl⟩, ⟨_, _, rfl, rfl⟩, ⟨_, _, rfl, rfl⟩, trivial⟩)
    (case z_DEEDS => first | rfl | decide +kernel | k_is)
    (case y_DEEDS_num => k_is)
    (case t_DEEDS_num => k_is)
    (case v_DEEDS_num => exact (.cons rfl (.cons ⟨_, rfl⟩ .nil)))
    (case z_DEEDS_num => exact (by decide : 2 ≤ 1000000))
    (case t_DEEDS_num_0 => k_is)
    (case v_DEEDS_num_0 => exact (.cons ⟨_, rfl⟩ .nil))
    (case z_DEEDS_num_0 => exact (by decide : 1 ≤ 1000000))
    (case y_DEEDS_sum => k_is)
    (case t_DEEDS_sum => k_is)
    (case v_DEEDS_sum => exact (.cons rfl (.cons ⟨_, rfl⟩ .nil)))
    (case z_DEEDS_sum => exact (by decide : 2 ≤ 1000000))
    (case t_DEEDS_sum_0 => k_is)
    (case v_DEEDS_sum_0 => exact (.cons ⟨_, rfl⟩ (.cons ⟨_, rfl⟩ .nil)))
    (case z_DEEDS_sum_0 => exact (by decide : 2 ≤ 1000000))
    (case y_DEEDS_len => k_is)
    (case t_DEEDS_len => k_is)
    (case v_DEEDS_len => exact (.cons rfl (.cons ⟨_, rfl⟩ .nil)))
    (case z_DEEDS_len => exact (by decide : 2 ≤ 1000000))
    (case t_DEEDS_len_0 => k_is)
    (case v_DEEDS_len_0 => exact (.cons ⟨_, rfl⟩ .nil))
    (case z_DEEDS_len_0 => exact (by decide : 1 ≤ 1000000))
    (case y_DEEDS_nil => k_is)
    (case t_DEEDS_nil => k_is)
    (case v_DEEDS_nil => exact (.cons rfl (.cons ⟨_, rfl⟩ .nil)))
    (case z_DEEDS_nil => exact (by decide : 2 ≤ 1000000))
    (case t_DEEDS_nil_0 => k_is)
    (case v_DEEDS_nil_0 => exact .nil)
    (case z_DEEDS_nil_0 => exact (by decide : 0 ≤ 1000000))
    (case y_DEEDS_put => k_is)
    (case t_DEEDS_put => k_is)
    (case v_DEEDS_put => exact (.cons rfl (.cons ⟨_, rfl⟩ .nil)))
    (case z_DEEDS_put => exact (by decide : 2 ≤ 1000000))
    (case t_DEEDS_put_0 => k_is)
    (case v_DEEDS_put_0 => exact (.cons ⟨_, rfl⟩ (.cons ⟨_, rfl⟩ .nil)))
    (case z_DEEDS_put_0 => exact (by decide : 2 ≤ 1000000))
    (case y_DEEDS_head => k_is)
    (case t_DEEDS_head => k_is)
    (case v_DEEDS_head => exact (.cons rfl (.cons ⟨_, rfl⟩ .nil)))
    (case z_DEEDS_head => exact (by decide : 2 ≤ 1000000))
    (case t_DEEDS_head_0 => k_is)
    (case v_DEEDS_head_0 => exact (.cons ⟨_, rfl⟩ .nil))
    (case z_DEEDS_head_0 => exact (by decide : 1 ≤ 1000000))
    (case y_DEEDS_tail => k_is)
    (case t_DEEDS_tail => k_is)
    (case v_DEEDS_tail => exact (.cons rfl (.cons ⟨_, rfl⟩ .nil)))
    (case z_DEEDS_tail => exact (by decide : 2 ≤ 1000000))
    (case t_DEEDS_tail_0 => k_is)
    (case v_DEEDS_tail_0 => exact (.cons ⟨_, rfl⟩ .nil))
    (case z_DEEDS_tail_0 => exact (by decide : 1 ≤ 1000000))
    (case y_DEEDS_at => k_is)
    (case t_DEEDS_at => k_is)
    (case v_DEEDS_at => exact (.cons rfl (.cons ⟨_, rfl⟩ .nil)))
    (case z_DEEDS_at => exact (by decide : 2 ≤ 1000000))
    (case t_DEEDS_at_0 => k_is)
    (case v_DEEDS_at_0 => exact (.cons ⟨_, rfl⟩ (.cons ⟨_, rfl⟩ .nil)))
    (case z_DEEDS_at_0 => exact (by decide : 2 ≤ 1000000))
    (case y_DEEDS_ask => k_is)
    (case t_DEEDS_ask => k_is)
    (case v_DEEDS_ask => exact (.cons rfl (.cons ⟨_, rfl⟩ .nil)))
    (case z_DEEDS_ask => exact (by decide : 2 ≤ 1000000))
    (case t_DEEDS_ask_0 => k_is)
    (case v_DEEDS_ask_0 => exact .nil)
    (case z_DEEDS_ask_0 => exact (by decide : 0 ≤ 1000000))
    (case m_FARTHEST => k_is)
    (case m_KINDS => k_is)
    (case t_KINDS => k_is)
    (case v_KINDS => exact (.cons ⟨_, rfl⟩ (.cons ⟨_, rfl⟩ .nil)))
    (case z_KINDS => exact (by decide : 2 ≤ 1000000))
    (case m_MEASURES => k_is)
    (case t_MEASURES => k_is)
    (case v_MEASURES => exact ⟨⟨_, _, rfl, rfl⟩, ⟨_, _, rfl, rfl⟩, trivial⟩)
    (case z_MEASURES => first | rfl | decide +kernel | k_is)
    (case y_MEASURES_of => k_is)
    (case y_MEASURES_len => k_is)
    (case m_MOST_DEPTH => k_is)
    (case m_MOST_FUNCTIONS => k_is)
    (case m_MOST_PARAMS => k_is)
    (case m_MOST_SIGNS => k_is)
    (case m_MOST_TREES => k_is)
    (case m_TREES => k_is)
    (case t_TREES => k_is)
    (case v_TREES => exact ⟨⟨_, _, rfl, rfl⟩, ⟨_, _, rfl, rfl⟩, ⟨_, _, rfl, rfl⟩, ⟨_, _, rfl, rfl⟩, trivial⟩)
    (case z_TREES => first | rfl | decide +kernel | k_is)
    (case y_TREES_let => k_is)
    (case y_TREES_if => k_is)
    (case y_TREES_claim => k_is)
    (case y_TREES_tell => k_is)
