import PyProof.Rows.All
import Wide.All
import OpenK.AllK
import Wide.FinOn
import HandS.ForMost
import HandS.IsInst
import HandS.Defaults
import HandS.Strs
import HandS.WrittenGet
import KE.SortData
import HandS.SetFor
import KE.KDictPairs
import KE.GoesNew
import KE.GoesEnum
import HandS.Iter
import HandS.More
import HandS.Zip
import HandS.TupAny
import HandS.Walk
import HandS.MakeKwOnly
import HandS.Ends
import PySem.Challenge.RW_claimsieve_k03_lattices
set_option Elab.async false
set_option linter.all false
set_option maxRecDepth 100000
namespace Cs
open PySem PySem.Spec PyProof.Rows L2
section
variable {X : Cx} {pins : List (Addr × Obj)} {σ : L2.St} {H : Hp} {s : Shared}
/-! ### sorted of data -/
theorem each_of_dp {K : PySem.W.Frag} {H : Hp} : ∀ {xs : List V} {us : List Value} {ds : List PyData}, DpAll K H xs ds → Vals xs us →
    PySem.W.EachIs (fun u d => ∃ v, RelV v u ∧ Dp K H v d) us ds
  | _, _, _, .nil, .nil => .nil
  | _, _, _, .cons h t, .cons r q => .cons ⟨_, r, h⟩ (each_of_dp t q)
theorem dp_of_each {K : PySem.W.Frag} {H : Hp} : ∀ {us : List Value} {ds : List PyData}, PySem.W.EachIs (fun u d => ∃ v, RelV v u ∧ Dp K H v d) us ds →
    ∃ ys : List V, Vals ys us ∧ DpAll K H ys ds
  | _, _, .nil => ⟨[], .nil, .nil⟩
  | _, _, .cons ⟨v, r, h⟩ t => by
    obtain ⟨ys, q, z⟩ := dp_of_each t
    exact ⟨v :: ys, .cons r q, .cons h z⟩
theorem DpAll.length {K : PySem.W.Frag} {H : Hp} : ∀ {xs : List V} {ds : List PyData}, DpAll K H xs ds → xs.length = ds.length
  | _, _, .nil => rfl
  | _, _, .cons _ t => congrArg Nat.succ (DpAll.length t)
/-- sorted(xs), xs a list of data all of one shape -/
def rSortD (K : PySem.W.Frag) : List V → Hp → VK → Prop := fun vs H Q => ∃ (a : Addr) (xs : List V) (ds : List PyData), vs = [V.ref a] ∧ SqL K H a xs ∧ DpAll K H xs ds ∧
  PySem.W.AllAlike ds ∧ PySem.W.Sortable ds ∧ (∀ d ∈ ds, d.depth ≤ 60) ∧
  ∀ (ys : List V) (p : Addr), DpAll K H ys (ds.mergeSort (PySem.W.dataLe false id)) → H p = none → Q (.ref p) (upd H p (.lst ys))
theorem cr_sortD (hu : X.A.units + 64 < cLine) : CallR X (.builtin "sorted") (rSortD X.K) := by
  intro pins s σ H vs us Q I r h
  obtain ⟨a, xs, ds, rfl, hs, hd, hal, hk, hdp, q⟩ := h
  obtain ⟨its, rv, hl, hz⟩ := I.list hs
  rw [Vals.ref1 r]
  have e := each_of_dp hd rv
  have er : PySem.W.EachIs (fun v b => ∃ as, Reads s.heap v (id b) as) its ds := e.mono fun u d ⟨v, rr, hh⟩ => Dp.reads I d v u hh rr
  refine PySem.W.sorted_data (enc := id) hl.isList e er (by rw [List.map_id]; exact hal) (by rw [List.map_id]; exact hk) (by rw [← DpAll.length hd]; exact hz)
    (fun b hb => ?_) fun out ho hout => ?_
  · have := hdp b hb
    show X.A.units + 2 + b.depth < cLine
    omega
  · obtain ⟨ys, ry, hy⟩ := dp_of_each hout
    obtain ⟨ep, he'⟩ := PyProof.Rows.sortedAll_at s.heap its out.toArray
    have hlen : ys.length ≤ sizeLine := by
      rw [DpAll.length hy, List.length_mergeSort, ← DpAll.length hd]
      exact hz
    exact ⟨.ref _, upd H (s.heap.objs.size + 1) (.lst ys), I.laid (t' := s.toks) (fun _ _ => PyProof.Rows.sortedAll_old) (Nat.le_succ _) ⟨hlen, out, ep, ry, he'⟩, rfl, q _ _ hy (I.hok.fresh (Nat.le_succ _))⟩
end
end Cs
namespace Cs
open PySem PySem.Spec PyProof.Rows L2
/-! ### list comprehensions of any number of clauses -/
section
variable {prog : Program} {w : World} {A : Around} {R : Result → Shared → Prop} {s : Shared} {elt t ip : Expr} {ifs : List Expr} {gens : List Comprehension} {scope : Scope} {pos : Pos} {it acc : Value} {env : Env} {k : Nat}
abbrev tests (ifs : List Expr) (env : Env) : Sem Bool := forIn ifs true fun c r => if r = true then do let ok ← isTrue c env (eval c env); pure (ForInStep.yield ok) else pure (ForInStep.yield r)
/-- what a turn of clause k does where its tests hold -/
def lcBody (elt : Expr) (gens : List Comprehension) (scope : Scope) (pos : Pos) (k : Nat) (acc : Value) (env : Env) : Sem PUnit :=
  match gens[k + 1]? with
  | some g => do
    let x ← eval g.iter env
    standAt g.iter.pos
    let x ← foldedSetIterable g.iter env x
    let _ ← runOwn (.compStart (.ListComp elt gens scope pos) (k + 1) (← holding [x] (pyIter x)) acc env) env
  | none => do
    let _ ← call (.builtin "list.append") [acc, ← eval elt env]
theorem lcTurn_eq (hk : gens[k]? = some ⟨t, ip, ifs, 0⟩) (hy : ∀ g, gens[k + 1]? = some g → g.is_async = 0) : compTurn (.ListComp elt gens scope pos) k it acc env = (do
    standAt ip.pos
    match ← pyNext it with
    | none => pure (.done .next)
    | some v =>
      letOwnedTupleGo t it v
      assign t env v
      let ok ← tests ifs env
      if ok = true then do
        lcBody elt gens scope pos k acc env
        again (.compLoop (.ListComp elt gens scope pos) k it acc env)
      else again (.compLoop (.ListComp elt gens scope pos) k it acc env)) := by
  unfold compTurn lcBody
  simp only [hk]
  cases e : gens[k + 1]? with
  | none => rfl
  | some g =>
    obtain ⟨a, b, c, d⟩ := g
    obtain rfl : d = 0 := hy _ e
    simp only [bind_assoc, pure_bind]
    rfl
abbrev nof : Value → Shared → Prop := fun _ _ => False
theorem wpF {α : Type} {m : Sem α} {M : Model} {Q Q' : α → Shared → Prop} {E : Value → Shared → Prop} (h : wpAny M A m Q nof s) (hq : ∀ a s, Q a s → Q' a s) : wpAny M A m Q' E s :=
  wpAny_mono h hq fun _ _ z => False.elim z
theorem lcLoop (hk : gens[k]? = some ⟨t, ip, ifs, 0⟩) (hy : ∀ g, gens[k + 1]? = some g → g.is_async = 0) (I : Nat → Shared → Prop)
    (turn : ∀ n s, I n s → wpAny (model prog w) A (pyNext it) (fun r s₁ => match r with
      | none => R (.ok .next) s₁
      | some v => wpAny (model prog w) A (letOwnedTupleGo t it v) (fun _ s₂ => wpAny (model prog w) A (assign t env v) (fun _ s₃ => wpAny (model prog w) A (tests ifs env) (fun ok s₄ =>
          if ok = true then wpAny (model prog w) A (lcBody elt gens scope pos k acc env) (fun _ s₅ => ∃ m, m < n ∧ I m s₅) nof s₄ else ∃ m, m < n ∧ I m s₄) nof s₃) nof s₂) nof s₁) nof s)
    (n : Nat) (h : I n s) : codeAny (model prog w) A (.compLoop (.ListComp elt gens scope pos) k it acc env) R s := by
  refine codeAny_loop rfl I (fun n s hI => ?_) n h
  show wpAny _ A ((compTurn (.ListComp elt gens scope pos) k it acc env).onRaise (fun x => do noteFrame x env; theTreesLotGoes x)) _ _ s
  refine wpAny_noted ?_
  rw [lcTurn_eq hk hy]
  refine wpAny_bind (wpAny_standAt (wpAny_bind (wpF (turn n s hI) fun r s₁ h₁ => ?_)))
  cases r with
  | none => exact wpAny_pure h₁
  | some v =>
    refine wpAny_bind (wpF h₁ fun _ s₂ h₂ => wpAny_bind (wpF h₂ fun _ s₃ h₃ => wpAny_bind (wpF h₃ fun ok s₄ h₄ => ?_)))
    cases ok with
    | false => exact wpAny_pure ⟨rfl, h₄⟩
    | true => exact wpAny_bind (wpF h₄ fun _ s₅ h₅ => wpAny_pure ⟨rfl, h₅⟩)
theorem lcStart (hk : gens[k]? = some ⟨t, ip, ifs, 0⟩) (h0 : codeAny (model prog w) A (.compLoop (.ListComp elt gens scope pos) k it acc env) R s)
    (h : wpAny (model prog w) A (pyIter it) (fun it' s' => codeAny (model prog w) A (.compLoop (.ListComp elt gens scope pos) k it' acc env) R s') nof s) :
    codeAny (model prog w) A (.compStart (.ListComp elt gens scope pos) k it acc env) R s := by
  refine codeAny_of_tree ?_
  show wpAny _ _ ((compStart (.ListComp elt gens scope pos) k it acc env).onRaise (fun x => do noteFrame x env; standAt theWindowsPlace)) _ _ s
  refine wpAny_notedAt ?_
  have hc : (clausesOf (.ListComp elt gens scope pos))[k]? = some ⟨t, ip, ifs, 0⟩ := hk
  unfold compStart
  simp only [hc]
  show wpAny _ _ (ask >>= _) _ _ s
  refine wpAny_bind (wpAny_askSetting (wpAny_ite ?_))
  split
  · first
      | exact wpAny_bind (wpAny_pure (wpAny_pure (And.intro rfl h0)))
      | exact wpAny_pure (And.intro rfl h0)
  · refine wpAny_bind (wpAny_rule ?_)
    show wpAny _ _ (standAt ip.pos >>= _) _ _ s
    exact wpAny_bind (wpAny_standAt (wpAny_bind (wpF h fun it' s' h' => wpAny_pure (And.intro rfl h'))))
end
end Cs
namespace Cs
open PySem PySem.Spec PyProof.Rows L2
/-- an inner clause: what it walks, its target, its tests, the slots of the names from here on -/
structure Cl where
  wi : TI
  g : TG
  tt : TT
  vs : List Nat
/-- what is asked of the clauses behind the first, and of the element -/
def tIn (te : TE) (D : Addr) : List Cl → L2.St → Hp → (Hp → Prop) → Prop
  | [], σ, H, Nx => te σ H fun y H1 => ∃ acc, H1 D = some (.lst acc) ∧ acc.length < sizeLine ∧ Nx (upd H1 D (.lst (acc ++ [y])))
  | c :: cs, σ, H, Nx => c.wi σ H fun J H1 => ∃ W : Nat → Nat → Hp → Prop, (∃ m, W 0 m H1) ∧ ∀ j m H2, W j m H2 →
      (J.stop j H2 ∧ Nx H2) ∨ (J.go j H2 ∧ ∃ N1 : Hp → Prop, (∀ H3, N1 H3 → ∃ m1, m1 < m ∧ W (j + 1) m1 H3) ∧
        ∀ x H3, J.yld j H2 x H3 → c.g x (wipe σ c.vs) H3 fun σ1 H4 => wipe σ1 c.vs = wipe σ c.vs ∧ c.tt σ1 H4 fun b H5 => if b = true then tIn te D cs σ1 H5 N1 else N1 H5)
/-- the slots behind the clauses -/
def behindS (σ : L2.St) : List Cl → L2.St
  | [] => σ
  | c :: _ => wipe σ c.vs
section
variable {X : Cx} {elt : Expr} {gens : List Comprehension} {scope : Scope} {pos : Pos}
/-- the clauses behind the k-th, by their readings -/
inductive PCl (X : Cx) (elt : Expr) (gens : List Comprehension) (te : TE) : Nat → List Cl → Prop
  | nil {k : Nat} (h : gens[k + 1]? = none) (he : PE X elt te) : PCl X elt gens te k []
  | cons {k : Nat} {t ip : Expr} {ifs : List Expr} {c : Cl} {cs : List Cl} (h : gens[k + 1]? = some ⟨t, ip, ifs, 0⟩) (hi : PI X t ip c.wi) (hg : PG X t c.g) (ht : PTs X ifs c.tt)
      (hs : ∀ x, foldedSetIterable ip X.env x = pure x) (hv : ∀ c1 ∈ cs.head?, ∀ i ∈ c1.vs, i ∈ c.vs) (tl : PCl X elt gens te (k + 1) cs) : PCl X elt gens te k (c :: cs)
theorem PCl.sync {te : TE} {k : Nat} {cs : List Cl} (h : PCl X elt gens te k cs) : ∀ g, gens[k + 1]? = some g → g.is_async = 0 := fun g e => by
  cases h with
  | nil h _ => rw [h] at e; cases e
  | cons h _ _ _ _ _ _ => rw [h] at e; cases e; rfl
theorem behind_len (σ : L2.St) (cs : List Cl) : (behindS σ cs).length = σ.length := by
  cases cs with
  | nil => rfl
  | cons c cs => exact wipe_length _ _
theorem behind_some {σ σ1 : L2.St} {c : Cl} {cs : List Cl} (hv : ∀ c1 ∈ cs.head?, ∀ i ∈ c1.vs, i ∈ c.vs) (hw : wipe σ1 c.vs = wipe σ c.vs) {j : Nat} {v : V} (e : (wipe σ c.vs)[j]? = some (some v)) :
    (behindS σ1 cs)[j]? = some (some v) := by
  rw [← hw] at e
  obtain ⟨e1, e2⟩ := wipe_some e
  cases cs with
  | nil => exact e1
  | cons c1 cs =>
    show (wipe σ1 c1.vs)[j]? = _
    rw [wipe_out fun z => e2 (hv c1 rfl j z)]
    exact e1
/-- a turn's work, the tests being so -/
theorem body_ok (hc : X.calm = true) (hx : X.xe = nof) {te : TE} {D : Addr} {k : Nat} {cs : List Cl} (P : PCl X elt gens te k cs) : ∀ (pins : List (Addr × Obj)) (s : Shared) (σ : L2.St) (H : Hp) (Nx : Hp → Prop),
    Inv X pins σ H s → tIn te D cs σ H Nx →
    wpAny (model X.prog X.w) X.A (lcBody elt gens scope pos k (.ref D) X.env) (fun _ s1 => ∃ H1, Inv X pins (behindS σ cs) H1 s1 ∧ Nx H1) nof s := by
  induction P with
  | nil h he =>
    intro pins s σ H Nx I q
    unfold lcBody
    simp only [h]
    have z := he.run pins s σ H _ I q
    rw [hx] at z
    refine wpAny_bind (wpF z fun y s1 h1 => ?_)
    obtain ⟨v, H1, I1, r, acc, hD, hz, nx⟩ := h1
    exact wpAny_bind (app_ok I1 hD hz r fun s2 I2 => wpAny_pure ⟨_, I2, nx⟩)
  | @cons k t ip ifs c cs h hi hg ht hs hv tl ih =>
    intro pins s σ H Nx I q
    unfold lcBody
    simp only [h]
    have z := hi.run pins s σ H _ I q
    rw [hx] at z
    refine wpAny_bind (wpF z fun x s1 h1 => wpAny_bind (wpAny_standAt (wpAny_bind (wpAny_of_eq (hs x) (wpAny_bind (wpAny_holding (wpF h1 fun itv s2 h2 => ?_)))))))
    obtain ⟨it, fp, tn, J, H2, e, I2, T, st2, f2, W, ⟨m0, w0⟩, turn⟩ := h2
    subst e
    refine wpAny_bind (wpAny_runOwn ?_)
    rw [Around.mark_none]
    have fpo : ∀ {H' : Hp}, (∀ b ∈ fp, H' b = none) → ∀ b ∈ fp, FpOk X pins H' b := fun n b hb => ⟨n b hb, (f2 b hb).2⟩
    have loop : codeAny (model X.prog X.w) X.A (.compLoop (.ListComp elt gens scope pos) (k + 1) (.ref it) (.ref D) X.env)
        (fun r s' => match r with
          | .ok _ => ∃ H1, Inv X pins (wipe σ c.vs) H1 s' ∧ Nx H1
          | .error _ => False) s2 := by
      refine lcLoop h tl.sync (fun n s' => ∃ j H', Inv X pins (wipe σ c.vs) H' s' ∧ tn j s'.heap ∧ (∀ b ∈ fp, H' b = none) ∧ W j n H') ?_ m0 ⟨0, H2, I2.weak (wipe_length _ _) (fun j v e => (wipe_some e).1), st2, fun b hb => (f2 b hb).1, w0⟩
      rintro n s3 ⟨j, H3, I3, st3, n3, w3⟩
      rcases turn j n H3 w3 with ⟨stop, nx⟩ | ⟨go, N1, hN1, step⟩
      · refine wpF (T.done X rfl rfl rfl hc j pins s3 _ H3 nof I3 (fpo n3) st3 stop) fun r s4 ⟨hr, I4⟩ => ?_
        subst hr
        exact ⟨H3, I4, nx⟩
      · refine wpF (T.item X rfl rfl rfl hc j pins s3 _ H3 nof I3 (fpo n3) st3 go) fun r s4 ⟨u, hr, h4⟩ => ?_
        subst hr
        refine wpF h4 fun _ s5 ⟨x5, H5, I5, r5, y5, st5, n5⟩ => ?_
        have I5' := I5.pinned (fpo n5) (T.obj _ _ st5)
        have zg := hg.run _ s5 _ H5 x5 u _ I5' r5 (step x5 H5 y5)
        rw [hx] at zg
        refine wpF zg fun _ s6 ⟨σ6, H6, I6, hw6, q6⟩ => ?_
        have zt := ht.run _ s6 σ6 H6 _ I6 q6
        rw [hx] at zt
        refine wpF zt fun b s7 ⟨H7, I7, q7⟩ => ?_
        have fin : ∀ {σ9 : L2.St} {s' : Shared} {H' : Hp}, Inv X (pins ++ pinsAt fp s5.heap) σ9 H' s' → (wipe σ c.vs).length = σ9.length → (∀ (i : Nat) v, (wipe σ c.vs)[i]? = some (some v) → σ9[i]? = some (some v)) → N1 H' →
            ∃ m, m < n ∧ ∃ j H', Inv X pins (wipe σ c.vs) H' s' ∧ tn j s'.heap ∧ (∀ b ∈ fp, H' b = none) ∧ W j m H' := fun {σ9 s' H'} I' hl hk nx => by
          obtain ⟨m1, hm, w1⟩ := hN1 H' nx
          have pin : ∀ b ∈ fp, ∀ o, s5.heap.get? b = some o → s'.heap.get? b = some o ∧ H' b = none := fun b hb o e =>
            have z := I'.pin (b, o) (List.mem_append_right _ (List.mem_append_right _ (mem_pinsAt hb e)))
            ⟨z.1, z.2.1⟩
          refine ⟨m1, hm, j + 1, H', I'.unpinned.weak hl hk, T.keep _ _ _ st5 fun b hb o e => (pin b hb o e).1, fun b hb => ?_, w1⟩
          obtain ⟨o, e, _⟩ := T.obj _ _ st5 b hb
          exact (pin b hb o e).2
        have hl6 : (wipe σ c.vs).length = σ6.length := by rw [← hw6, wipe_length]
        cases b with
        | false =>
          simp only [Bool.false_eq_true, if_false] at q7 ⊢
          exact fin I7 hl6 (fun i v e => by rw [← hw6] at e; exact (wipe_some e).1) q7
        | true =>
          simp only [if_true] at q7 ⊢
          refine wpF (ih _ s7 σ6 H7 N1 I7 q7) fun _ s8 ⟨H8, I8, nx8⟩ => ?_
          exact fin I8 (hl6.trans (behind_len σ6 cs).symm) (fun i v e => behind_some hv hw6 e) nx8
    refine codeAny_mono (lcStart h loop (T.self X.A 0 _ _ _ st2 loop)) fun r s' hr => ?_
    cases r with
    | ok f => exact wpAny_pure hr
    | error e => exact hr.elim
end
end Cs
namespace Cs
open PySem PySem.Spec PyProof.Rows L2
def tLcN (wi : TI) (g : TG) (tt : TT) (cs : List Cl) (te : TE) (vs : List Nat) : TE := fun σ H Q => wi σ H fun J H1 => ∀ D, H1 D = none → ∃ W : Nat → Nat → Hp → Prop, (∃ m, W 0 m (upd H1 D (.lst []))) ∧ ∀ j m H2, W j m H2 →
  (J.stop j H2 ∧ Q (.ref D) H2) ∨ (J.go j H2 ∧ ∃ N1 : Hp → Prop, (∀ H3, N1 H3 → ∃ m1, m1 < m ∧ W (j + 1) m1 H3) ∧
    ∀ x H3, J.yld j H2 x H3 → g x (wipe σ vs) H3 fun σ1 H4 => wipe σ1 vs = wipe σ vs ∧ tt σ1 H4 fun b H5 => if b = true then tIn te D cs σ1 H5 N1 else N1 H5)
section
variable {X : Cx}
theorem lcN_core {pins : List (Addr × Obj)} {s : Shared} {σ : L2.St} {H : Hp} {Q : VK} {elt tg iter : Expr} {ifs : List Expr} {gs : List Comprehension} {scope : Scope} {own : List (Str × Nat)} {pos pos' : Pos} {wi : TI} {g : TG} {tt : TT} {cs : List Cl} {te : TE} {use : Option (Value → Sem Unit)} {Qf : Value → Shared → Prop}
    (hc : X.calm = true) (hN : X.N.Nodup) (I : Inv X pins σ H s) (hi : PI X tg iter wi) (ok : BlkOk X.N X.env.scope scope own)
    (hg : ∀ s H C cl fp, PG (X.blk s H scope (compEnvC scope cl C X.env) fp) tg g) (ht : ∀ s H C cl fp, PTs (X.blk s H scope (compEnvC scope cl C X.env) fp) ifs tt)
    (hcl : ∀ s H C cl fp, PCl (X.blk s H scope (compEnvC scope cl C X.env) fp) elt (⟨tg, iter, ifs, 0⟩ :: gs) te 0 cs) (hv : ∀ c1 ∈ cs.head?, ∀ i ∈ c1.vs, i ∈ own.map (·.2)) (hs : ∀ x, foldedSetIterable iter X.env x = pure x)
    (h : tLcN wi g tt cs te (own.map (·.2)) σ H Q)
    (hRR : ∀ D C s' m H', Inv X pins σ H' s' → Q (.ref D) H' → s'.heap.Ns C m → FpOk X pins H' C → compPost (model X.prog X.w) X.A X.xe use Qf (.ref D) C (.ok .next) s') :
    wpAny (model X.prog X.w) X.A (comprehension (.ListComp elt (⟨tg, iter, ifs, 0⟩ :: gs) scope pos) scope X.env pos' (newList []) false (eval iter X.env) use) Qf X.xe s := by
  have captured : ∀ y ∈ scope.names, y.2 = .free → ∃ c, X.env.cells.lookup y.1 = some c := fun y hy e =>
    (ok.free y hy e).elim (fun k => I.ok.has _ (.inl k)) fun k => I.ok.has _ (.inr k)
  refine wpAny_comprehension_free (use := use) rfl hs (closure_ok captured) ok.kind (fun y hy e => by rw [ok.uniq y hy, e])
    (thn (hi.run pins s σ H _ I h) fun xv s1 hx => thn hx fun itv s2 h2 => ?_)
  obtain ⟨it, fp, tn, J, H2, e, I2, T, st2, f2, q⟩ := h2
  subst e
  refine wpAny_newObj_type (newEnv_comp ?_) (by show 0 ≤ sizeLine; decide)
  generalize hD : s2.heap.objs.size = D
  obtain ⟨W, ⟨m0, w0⟩, turn⟩ := q D (I2.hok.fresh (Nat.le_of_eq hD))
  generalize hs3 : ({ s2 with heap := s2.heap.push { cls := .type "list", data := .seq ([] : List Value).toArray } } : Shared) = s3
  have I3 : Inv X pins σ (upd H2 D (.lst [])) s3 := by
    rw [← hs3]
    refine I2.laid (t' := s2.toks) (fun b o e => Heap.get?_push_of_some _ e) (Nat.le_of_eq hD) ⟨Nat.zero_le _, [], 0, .nil, ?_⟩
    rw [← hD]
    exact Heap.get?_push_size _ rfl
  have h3 : s3.heap = s2.heap.push { cls := .type "list", data := .seq ([] : List Value).toArray } := by rw [← hs3]
  have below : ∀ b ∈ fp, b < s2.heap.objs.size := fun b hb => (T.obj _ _ st2 b hb).elim fun _ e => Heap.lt_size e.1
  have f3 : ∀ b ∈ fp, FpOk X pins (upd H2 D (.lst [])) b ∧ b < s3.heap.objs.size := fun b hb => by
    refine ⟨⟨?_, (f2 b hb).2⟩, by rw [h3, Heap.size_push]; exact Nat.lt_succ_of_lt (below b hb)⟩
    rw [upd_ne (by rw [← hD]; exact Nat.ne_of_lt (below b hb))]
    exact (f2 b hb).1
  have st3 : tn 0 s3.heap := T.keep _ _ _ st2 fun b _ o e => by rw [h3]; exact Heap.get?_push_of_some _ e
  have I4 := block_start I3 ok hN f3
  have pg := hg s3 (upd H2 D (.lst [])) s3.heap.objs.size (cellsFrom (s3.heap.objs.size + 1) scope.names (cloFrom X.env.cells scope.names [])) fp
  have pt := ht s3 (upd H2 D (.lst [])) s3.heap.objs.size (cellsFrom (s3.heap.objs.size + 1) scope.names (cloFrom X.env.cells scope.names [])) fp
  have pc := hcl s3 (upd H2 D (.lst [])) s3.heap.objs.size (cellsFrom (s3.heap.objs.size + 1) scope.names (cloFrom X.env.cells scope.names [])) fp
  have nfp : ∀ b ∈ fp, (upd H2 D (.lst [])) b = none := fun b hb => (f3 b hb).1.1
  have goal : codeAny (model X.prog X.w) X.A (.compStart (.ListComp elt (⟨tg, iter, ifs, 0⟩ :: gs) scope pos) 0 (.ref it) (.ref D) (compEnvC scope (cellsFrom (s3.heap.objs.size + 1) scope.names (cloFrom X.env.cells scope.names [])) s3.heap.objs.size X.env)) (compPost (model X.prog X.w) X.A X.xe use Qf (.ref D) s3.heap.objs.size)
      { s3 with heap := pushCells (s3.heap.push { cls := .type "dict", data := .dict #[] }) scope.names } := by
    generalize hce : compEnvC scope (cellsFrom (s3.heap.objs.size + 1) scope.names (cloFrom X.env.cells scope.names [])) s3.heap.objs.size X.env = ce at I4 pg pt pc ⊢
    have cL : ce.locals = s3.heap.objs.size := by subst hce; rfl
    generalize hH3 : upd H2 D (.lst []) = H3 at I3 I4 pg pt pc w0 nfp f3
    generalize hs4 : ({ s3 with heap := pushCells (s3.heap.push { cls := .type "dict", data := .dict #[] }) scope.names } : Shared) = s4 at I4 ⊢
    have st4 : tn 0 s4.heap := T.keep _ _ _ st3 fun b _ o e => by rw [← hs4]; exact pushCells_keeps _ _ _ _ (Heap.get?_push_of_some _ e)
    have fpo : ∀ {σ' : L2.St} {H' : Hp} {s' : Shared}, Inv (X.blk s3 H3 scope ce fp) [] σ' H' s' → (∀ b ∈ fp, H' b = none) → ∀ b ∈ fp, FpOk (X.blk s3 H3 scope ce fp) [] H' b := fun {σ' H' s'} I' hn b hb =>
      ⟨hn b hb, (I'.ok.exf b hb).1, I'.ok.exfs b hb, .inl hb, fun x c e => (I'.ok.exf b hb).2 x c e, fun p hp => absurd (show p ∈ ([] : List (Addr × Obj)) ++ [] from hp) (by simp)⟩
    have loop : codeAny (model X.prog X.w) X.A (.compLoop (.ListComp elt (⟨tg, iter, ifs, 0⟩ :: gs) scope pos) 0 (.ref it) (.ref D) ce) (compPost (model X.prog X.w) X.A X.xe use Qf (.ref D) s3.heap.objs.size) s4 := by
      refine lcLoop (gens := ⟨tg, iter, ifs, 0⟩ :: gs) rfl pc.sync (fun n s' => ∃ i H', Inv (X.blk s3 H3 scope ce fp) [] (wipe σ (own.map (·.2))) H' s' ∧ tn i s'.heap ∧ (∀ b ∈ fp, H' b = none) ∧ W i n H') ?_ m0 ⟨0, H3, I4, st4, nfp, w0⟩
      rintro n s5 ⟨i, H5, I5, st5, n5, w5⟩
      rcases turn i n H5 w5 with ⟨stop, qq⟩ | ⟨go, N1, hN1, step⟩
      · refine wpF (T.done (X.blk s3 H3 scope ce fp) rfl rfl rfl hc i [] s5 _ H5 nof I5 (fpo I5 n5) st5 stop) fun r s6 ⟨hr, I6⟩ => ?_
        subst hr
        have I7 : Inv X pins σ H5 s6 := I3.call' (ch := fp) I6.os I6.base I6.hok I6.bare fun b hb =>
          have z := (f3 b hb).1.2
          ⟨z.2.2.1, z.1, z.2.2.2.1, z.2.2.2.2⟩
        have nC : H5 s3.heap.objs.size = none := cL ▸ (show H5 ce.locals = none from I6.free)
        obtain ⟨m, hn, _⟩ := I6.loc
        exact hRR D s3.heap.objs.size s6 m H5 I7 qq (cL ▸ (show s6.heap.Ns ce.locals m from hn)) (I3.fpOk (Nat.le_refl _) nC)
      · refine wpF (T.item (X.blk s3 H3 scope ce fp) rfl rfl rfl hc i [] s5 _ H5 nof I5 (fpo I5 n5) st5 go) fun r s6 ⟨u, hr, h6⟩ => ?_
        subst hr
        refine wpF h6 fun _ s7 ⟨x7, H7, I7, r7, y7, st7, n7⟩ => ?_
        have I7' := I7.pinned (fpo I7 n7) (T.obj _ _ st7)
        refine wpF (pg.run _ s7 _ H7 x7 u _ I7' r7 (step x7 H7 y7)) fun _ s8 ⟨σ8, H8, I8, hw8, q8⟩ => ?_
        refine wpF (pt.run _ s8 σ8 H8 _ I8 q8) fun b s9 ⟨H9, I9, q9⟩ => ?_
        have fin : ∀ {σ9 : L2.St} {s' : Shared} {H' : Hp}, Inv (X.blk s3 H3 scope ce fp) ([] ++ pinsAt fp s7.heap) σ9 H' s' → (wipe σ (own.map (·.2))).length = σ9.length → (∀ (j : Nat) v, (wipe σ (own.map (·.2)))[j]? = some (some v) → σ9[j]? = some (some v)) → N1 H' →
            ∃ m, m < n ∧ ∃ i H', Inv (X.blk s3 H3 scope ce fp) [] (wipe σ (own.map (·.2))) H' s' ∧ tn i s'.heap ∧ (∀ b ∈ fp, H' b = none) ∧ W i m H' := fun {σ9 s' H'} I' hl hk nx => by
          obtain ⟨m1, hm, w1⟩ := hN1 H' nx
          have pin : ∀ b ∈ fp, ∀ o, s7.heap.get? b = some o → s'.heap.get? b = some o ∧ H' b = none := fun b hb o e =>
            have z := I'.pin (b, o) (List.mem_append_right _ (List.mem_append_right _ (mem_pinsAt hb e)))
            ⟨z.1, z.2.1⟩
          refine ⟨m1, hm, i + 1, H', (I'.unpinned (pins := [])).weak hl hk, T.keep _ _ _ st7 fun b hb o e => (pin b hb o e).1, fun b hb => ?_, w1⟩
          obtain ⟨o, e, _⟩ := T.obj _ _ st7 b hb
          exact (pin b hb o e).2
        have hl8 : (wipe σ (own.map (·.2))).length = σ8.length := by rw [← hw8, wipe_length]
        cases b with
        | false =>
          simp only [Bool.false_eq_true, if_false] at q9 ⊢
          exact fin I9 hl8 (fun j v e => by rw [← hw8] at e; exact (wipe_some e).1) q9
        | true =>
          simp only [if_true] at q9 ⊢
          refine wpF (body_ok (X := X.blk s3 H3 scope ce fp) hc rfl pc _ s9 σ8 H9 N1 I9 q9) fun _ s10 ⟨H10, I10, nx⟩ => ?_
          exact fin I10 (hl8.trans (behind_len σ8 cs).symm) (fun j v e => behind_some (c := ⟨wi, g, tt, own.map (·.2)⟩) hv hw8 e) nx
    exact codeAny_compStart_list loop (T.self X.A 0 _ _ _ st4 loop)
  exact goal
/-- [elt for .. for .. for ..], any number of clauses, as a value -/
theorem pe_lcN {elt tg iter : Expr} {ifs : List Expr} {gs : List Comprehension} {scope : Scope} {own : List (Str × Nat)} {pos : Pos} {wi : TI} {g : TG} {tt : TT} {cs : List Cl} {te : TE} (hc : X.calm = true) (hN : X.N.Nodup) (hi : PI X tg iter wi) (ok : BlkOk X.N X.env.scope scope own)
    (hg : ∀ s H C cl fp, PG (X.blk s H scope (compEnvC scope cl C X.env) fp) tg g) (ht : ∀ s H C cl fp, PTs (X.blk s H scope (compEnvC scope cl C X.env) fp) ifs tt)
    (hcl : ∀ s H C cl fp, PCl (X.blk s H scope (compEnvC scope cl C X.env) fp) elt (⟨tg, iter, ifs, 0⟩ :: gs) te 0 cs) (hv : ∀ c1 ∈ cs.head?, ∀ i ∈ c1.vs, i ∈ own.map (·.2)) (hs : ∀ x, foldedSetIterable iter X.env x = pure x := by intro _; rfl) :
    PE X (.ListComp elt (⟨tg, iter, ifs, 0⟩ :: gs) scope pos) (tLcN wi g tt cs te (own.map (·.2))) := by
  refine ⟨fun pins s σ H Q I h => ?_⟩
  rw [eval_ListComp]
  refine lcN_core hc hN I hi ok hg ht hcl hv hs h fun D C s' m H' I' q hn f => ⟨m, hn, fun h'' sb => ?_⟩
  obtain ⟨f0, f1, f2, f3, f4, f5⟩ := f
  exact ⟨.ref D, H', I'.turned (t' := s'.toks) (fun b o hb e => (sb.2 b hb).trans e) f0 f1 f3 f4 f5, rfl, q⟩
end
end Cs
namespace Cs
open PySem PySem.Spec PyProof.Rows L2
section
variable {prog : Program} {w : World} {K : Type} [DecidableEq K] {knd : KeyKind prog w K} {A : Around} {E : Value → Shared → Prop} {s : Shared}
theorem dictPut_ok {d : Addr} {kvs : List (K × Value)} {k : K} {key v : Value} {Q : Unit → Shared → Prop} (hkey : knd.is k key = true) (hm : s.heap.DictOf knd d kvs)
    (hQ : ∀ h', h'.DictOf knd d (stored kvs k v) → Heap.SameBut d s.heap h' → Q () { s with heap := h' }) (hsz : kvs.length ≤ sizeLine) :
    wpAny (model prog w) A (dictPut d (knd.hash k) key v) Q E s := by
  obtain ⟨o, es, ep, ho, hc, hd, hk, hp, hn⟩ := hm
  have hes : es.size ≤ sizeLine := by
    have e1 := hp.length
    rw [Array.length_toList] at e1
    omega
  have hidx : (es.findIdx? fun e => knd.is k e.key) = kvs.findIdx? fun kv => decide (kv.1 = k) := by
    rw [← hp.findIdx k]
    obtain ⟨l⟩ := es
    simp
  unfold dictPut
  refine wpAny_bind (wpAny_dictFind_of hkey ho hd hk ?_)
  cases hi : es.findIdx? fun e => knd.is k e.key with
  | some i =>
    refine wpAny_updateDict ho hd (hQ _ ⟨_, _, ep, Heap.get?_update_self _ ho (Obj.isFreed_of_dict (Obj.data_mapDict hd _)), hc.mapDict _, Obj.data_mapDict hd _, hk.modify _ _, ?_, ?_⟩ (Heap.SameBut.update ..))
    · rw [stored, if_pos (any_of_findIdx_some (hidx ▸ hi))]
      have hl : (es.toList.findIdx? fun e => knd.is k e.key) = some i := by
        rw [← hi]
        obtain ⟨l⟩ := es
        simp
      have z := hp.modify hn hl v
      obtain ⟨l⟩ := es
      simpa using z
    · rw [stored, if_pos (any_of_findIdx_some (hidx ▸ hi)), keys_map_store]
      exact hn
  | none =>
    have hnot : k ∉ kvs.map (·.1) := not_mem_of_findIdx_none (hidx ▸ hi)
    have hany : ¬ (kvs.any fun kv => decide (kv.1 = k)) = true := by
      rw [List.any_eq_true]
      rintro ⟨kv, hkv, he⟩
      exact hnot (List.mem_map.mpr ⟨kv, hkv, of_decide_eq_true he⟩)
    refine wpAny_updateDictKeys (hz := hes) ho hd (hQ _ ⟨_, _, ep + 1, Heap.get?_update_self _ ho (Obj.isFreed_of_dict (Obj.data_mapDictKeys hd _)), hc.mapDictKeys _, Obj.data_mapDictKeys hd _, hk.push hkey _, ?_, ?_⟩ (Heap.SameBut.update ..))
    · rw [stored, if_neg hany]
      have z := hp.append hkey (knd.hash k) v
      obtain ⟨l⟩ := es
      simpa using z
    · rw [stored, if_neg hany, List.map_append, List.nodup_append]
      refine ⟨hn, by simp, fun a ha b hb e => ?_⟩
      simp only [List.map_cons, List.map_nil, List.mem_singleton] at hb
      subst hb
      exact hnot (e ▸ ha)
theorem merge_ok {d o : Addr} {kvs more : List (K × Value)} {Q : Unit → Shared → Prop} (flat : ∀ k v, knd.is k v = true → ∀ a, v ≠ .ref a) (hdo : d ≠ o) (hoS : (o == sysModules) = false)
    (hd : s.heap.DictOf knd d kvs) (ho : s.heap.DictOf knd o more) (hsz : kvs.length + more.length ≤ sizeLine)
    (hQ : ∀ h', h'.DictOf knd d (merged kvs more) → h'.DictOf knd o more → Heap.SameBut d s.heap h' → Q () { s with heap := h' }) :
    wpAny (model prog w) A (mergeMapping d (.ref o) false) Q E s := by
  obtain ⟨od, esd, epd, hod, hcd, hdd, hkd, hpd, hnd⟩ := id hd
  obtain ⟨oo, eso, epo, hoo, hco, hdo', hko, hpo, hno⟩ := id ho
  have hlen : more.length = eso.size := by
    rw [← hpo.length]
    exact Array.length_toList
  unfold mergeMapping
  refine wpAny_bind (wpAny_isInstance ho.typeIs isSubtype_dict_dict ?_)
  simp only [if_true]
  refine wpAny_bind (wpAny_specialOf ho.typeIs F.slot_dict_iter.lookup (wpAny_bind (wpAny_pure ?_)))
  simp only [beq_self_eq_true, hoS, Bool.false_eq_true, if_false]
  have turns : ∀ {Q' : Unit → Shared → Prop}, (∀ s', Q () s' → Q' () s') → wpAny (model prog w) A (do
      let l ← dictEntries o
      let epoch ← dictEpoch o
      forIn (List.range l.size) PUnit.unit fun i (_ : PUnit) => (do
          let l ← dictEntries o
          match l[i]? with
            | some e => do
              holding [e.key, e.val] (dictPut d e.hash e.key e.val)
              let ep ← dictEpoch o
              if (ep != epoch) = true then do
                  (unsupported "dict.changed-during-merge" : Sem PUnit)
                  pure (ForInStep.yield PUnit.unit)
                else pure (ForInStep.yield PUnit.unit)
            | _ => do
              (unsupported "dict.changed-during-merge" : Sem PUnit)
              pure (ForInStep.yield PUnit.unit) : Sem (ForInStep PUnit))
      pure ()) Q' E s := by
    intro Q' hQ'
    refine wpAny_bind (wpAny_dictEntries hoo hdo' (wpAny_bind (wpAny_dictEpoch hoo hdo' (wpAny_bind ?_))))
    rw [List.range_eq_range']
    refine wpAny_forIn_list _ (fun rest _ s' => ∃ h' i, s' = { s with heap := h' } ∧ rest = List.range' i (eso.size - i) ∧ i ≤ eso.size ∧ h'.DictOf knd d (merged kvs (more.take i)) ∧ h'.get? o = some oo ∧ Heap.SameBut d s.heap h')
      _ ?_ ?_ _ _ ⟨s.heap, 0, rfl, by simp, Nat.zero_le _, by simpa [merged] using hd, hoo, Heap.SameBut.refl _ _⟩
    · rintro x rest b s' ⟨h', i, rfl, hr, hi, hd', hoo', hs'⟩
      have hlt : i < eso.size := by
        rcases Nat.lt_or_ge i eso.size with h | h
        · exact h
        · rw [Nat.sub_eq_zero_of_le h] at hr
          exact nomatch hr
      obtain ⟨rfl, hrest⟩ : x = i ∧ rest = List.range' (i + 1) (eso.size - (i + 1)) := by
        rw [show eso.size - i = (eso.size - (i + 1)) + 1 by omega, List.range'_succ] at hr
        injection hr with h1 h2
        exact ⟨h1, h2⟩
      refine wpAny_bind (wpAny_dictEntries hoo' hdo' ?_)
      rw [Array.getElem?_eq_getElem hlt]
      obtain ⟨⟨k, v⟩, hkv⟩ : ∃ kv, more[x]? = some kv := ⟨more[x]'(by rw [hlen]; exact hlt), List.getElem?_eq_getElem _⟩
      obtain ⟨hkey, hval⟩ := hpo.get? (e := eso[x]) (by simp [hlt]) hkv
      obtain ⟨k', hkey', hhash⟩ := hko eso[x] (Array.getElem_mem hlt)
      obtain rfl : k' = k := knd.inj _ _ _ hkey' hkey
      have hmx : (merged kvs (more.take x)).length ≤ sizeLine := by
        have e1 := merged_length_le kvs (more.take x)
        have e2 := List.length_take_le x more
        omega
      show wpAny _ _ (holding [eso[x].key, eso[x].val] (dictPut d eso[x].hash eso[x].key eso[x].val) >>= _) _ _ _
      rw [hhash, hval]
      refine wpAny_bind (wpAny_holding (dictPut_ok (s := { s with heap := h' }) hkey hd' (fun h2 hd2 hs2 => ?_) hmx))
      have hoo2 : h2.get? o = some oo := (hs2.2 o (Ne.symm hdo)).trans hoo'
      refine wpAny_bind (wpAny_dictEpoch hoo2 hdo' ?_)
      rw [if_neg (by simp)]
      exact wpAny_pure ⟨h2, x + 1, rfl, hrest, hlt, by rw [merged_take_succ kvs more x (k', v) hkv]; exact hd2, hoo2, hs'.trans hs2⟩
    · rintro b s' ⟨h', i, rfl, hr, hi, hd', hoo', hs'⟩
      have hin : i = eso.size := by
        rcases Nat.lt_or_ge i eso.size with h | h
        · rw [show eso.size - i = (eso.size - (i + 1)) + 1 by omega, List.range'_succ] at hr
          exact nomatch hr
        · omega
      rw [hin, ← hlen, List.take_length] at hd'
      exact wpAny_pure (hQ' _ (hQ h' hd' ⟨oo, eso, epo, hoo', hco, hdo', hko, hpo, hno⟩ hs'))
  refine wpAny_bind (wpAny_dictEntries hod hdd (wpAny_ite ?_))
  split
  · refine wpAny_bind (wpAny_dictEntries hoo hdo' (wpAny_bind ?_))
    rw [← Array.forIn_toList]
    refine wpAny_forIn_list _ (fun rest _ s' => s' = s ∧ ∀ e ∈ rest, e ∈ eso) _ (fun x rest b s' ⟨es, hm⟩ => ?_) (fun b s' ⟨es, _⟩ => ?_) _ _ ⟨rfl, fun e h => Array.mem_toList_iff.mp h⟩
    · subst es
      obtain ⟨k', hkey', _⟩ := hko x (hm x (List.mem_cons_self ..))
      have z := flat _ _ hkey'
      have hr : ∀ e ∈ rest, e ∈ eso := fun e h => hm e (List.mem_cons_of_mem _ h)
      cases e : x.key with
      | ref a => exact absurd e (z a)
      | _ => exact wpAny_pure ⟨rfl, hr⟩
    · subst es
      exact turns fun _ q => q
  · exact turns fun _ q => q
end
end Cs
namespace Cs
open PySem PySem.Spec PyProof.Rows L2
/-- {**e, k: v} -/
def tSplat (te tk tv : TE) : TE := fun σ H Q => ∀ p, H p = none → te σ (upd H p (.dK [])) fun x H1 => ∃ a kvs, x = .ref a ∧ a ≠ p ∧ Rd H1 a (.dK kvs) ∧ H1 p = some (.dK []) ∧ kvs.length ≤ 1000 ∧
  ∀ q, (upd H1 p (.dK kvs)) q = none → tPairs [(tk, tv)] σ (upd (upd H1 p (.dK kvs)) q (.dK [])) fun ps H3 => ∃ k y, ps = [(kV k, y)] ∧ H3 q = some (.dK []) ∧ H3 p = some (.dK kvs) ∧ p ≠ q ∧
    Q (.ref p) (upd (upd H3 q (.dK [(k, y)])) p (.dK (putK kvs k y)))
theorem mix_flat {P : Program} {w : World} : ∀ k v, (mixKind P w).is k v = true → ∀ a, v ≠ .ref a := by
  intro k v h a e
  rcases keyIs_shape (show keyIs k v = true from h) with ⟨i, t, _, q⟩ | ⟨x, t, _, q⟩ <;> (rw [q] at e; exact nomatch e)
theorem one_carries {P : Program} {w : World} {k : Key} {y : V} {ws : List (Value × Value)} (r : VV [(kV k, y)] ws) : ∃ u, Carries (mixKind P w) ws [(k, u)] ∧ RelV y u := by
  obtain ⟨rs, c, q⟩ := carries_of (P := P) (w := w) (kvs := [(k, y)]) r
  cases q with
  | @cons a b as bs h t =>
    cases t
    obtain ⟨b1, b2⟩ := b
    obtain ⟨h1, h2⟩ := h
    obtain rfl : k = b1 := h1
    exact ⟨b2, c, h2⟩
theorem KV.put {kvs : List (Key × V)} {vs : List (Key × Value)} {k : Key} {y : V} {u : Value} (r : KV kvs vs) (h : RelV y u) : KV (putK kvs k y) (stored vs k u) :=
  KV.merge (more := [(k, y)]) (rs := [(k, u)]) (.cons ⟨rfl, h⟩ .nil) r
theorem putK_le (kvs : List (Key × V)) (k : Key) (y : V) : (putK kvs k y).length ≤ kvs.length + 1 := by
  unfold putK
  split
  · rw [List.length_map]; omega
  · rw [List.length_append]; exact Nat.le_refl _
section
variable {X : Cx}
theorem display_eq (v ke ve : Expr) (env : Env) (pos : Pos) : eval (.Dict [none, some ke] [v, ve] pos) env = (do
    standAt pos
    let d ← alloc { cls := .type "dict", data := .dict #[] }
    let m ← holding [.ref d] (do let x ← eval v env; standAt pos; pure x)
    (((holding [.ref d, m] (mergeMapping d m false)).onRaise fun x => do let _ ← holding [.ref d, m, x] (runValue (.builtin "proto.let_go" {}))).tryCatch fun e => do
        if ← isInstance e (.type "AttributeError") then
          rule "dict.display.not-a-mapping"; raiseError "TypeError" s!"'{← typeNameOf m}' object is not a mapping"
        throw e).onRaise fun x => do let _ ← holding [.ref d, x] (runValue (.builtin "proto.let_go" {}))
    let sub ← holding [.ref d] (subDict (pairTrees [some ke] [ve] env pos))
    (holding [.ref d, .ref sub] (mergeMapping d (.ref sub) false)).onRaise fun x => do let _ ← holding [.ref d, x] (runValue (.builtin "proto.let_go" {}))
    pure (.ref d)) := by
  rw [arm_eval_Dict]
  unfold dictDisplay
  have e17 : ((0 + 1 : Nat) == 17) = false := rfl
  have e1 : ((1 : Nat) == 17) = false := rfl
  simp only [evalOpt, e17, e1, Bool.false_eq_true, evalEachOpt, evalEach, List.map, List.zip, List.zipWith, pairTrees, List.forIn_cons, List.forIn_nil, bind_assoc, pure_bind, List.isEmpty, if_true, if_false, List.nil_append, List.length_cons, List.length_nil]
theorem pe_splat {v ke ve : Expr} {pos : Pos} {te tk tv : TE} (he : PE X v te) (hk : PE X ke tk) (hv : PE X ve tv) : PE X (.Dict [none, some ke] [v, ve] pos) (tSplat te tk tv) := by
  refine ⟨fun pins s σ H Q I h => ?_⟩
  rw [display_eq]
  refine wpAny_bind (wpAny_standAt (wpAny_bind (wpAny_alloc ?_)))
  have n0 := I.hok.fresh (Nat.le_refl s.heap.objs.size)
  have I1 := I.laid (a := s.heap.objs.size) (o := .dK []) (h' := s.heap.push { cls := .type "dict", data := .dict #[] }) (t' := s.toks) (fun _ _ q => Heap.get?_push_of_some _ q) (Nat.le_refl _) (dk_empty s.heap I.big)
  generalize hp : s.heap.objs.size = p at n0 I1
  refine wpAny_bind (wpAny_holding (wpAny_bind (thn (he.run pins _ σ _ _ I1 (h p n0)) fun m s1 h1 => wpAny_bind (wpAny_standAt (wpAny_pure ?_)))))
  obtain ⟨x, H1, I2, rx, a, kvs, rfl, hap, ra, ep, hl, q1⟩ := h1
  obtain rfl : m = Value.ref a := rx
  obtain ⟨za, da, va, ka, dda⟩ := dk_rd I2.hok ra
  obtain ⟨zp, dp, vp, kp, ddp⟩ := dk_of I2.hok ep
  cases kp
  have hla : va.length = kvs.length := (Paired.length ka).symm
  refine wpAny_bind (wpAny_onRaise (wpAny_tryCatch (wpAny_onRaise (wpAny_holding (merge_ok mix_flat (Ne.symm hap) da ddp dda (by rw [List.length_nil, hla, sizeLine_eq]; omega) fun h2 hd2 _ hs2 => ?_)))))
  have hn : (va.map (·.1)).Nodup := by
    obtain ⟨_, _, _, _, _, _, _, _, z⟩ := dda
    exact z
  rw [merged_nil_of_nodup va hn] at hd2
  have he2 : ∃ q, h2.get? p = some q := let ⟨q, _, _, hq, _⟩ := hd2; ⟨q, hq⟩
  have I3 := d_write (t' := s1.toks) I2 (by rw [ep]; exact True.intro) hs2 he2 (dk_new (by omega) dp ka hd2)
  have n3 := I3.hok.fresh (Nat.le_refl _)
  have I4 := I3.laid (a := h2.objs.size) (o := .dK []) (h' := h2.push { cls := .type "dict", data := .dict #[] }) (t' := s1.toks) (fun _ _ q => Heap.get?_push_of_some _ q) (Nat.le_refl _) (dk_empty h2 I3.big)
  have q3 := q1 h2.objs.size n3
  refine wpAny_bind (wpAny_holding (wpAny_subDict (knd := mixKind X.prog X.w) (by show 1 ≤ 15; decide) (thn ((pps_cons hk hv pps_nil).run pins _ σ _ _ I4 q3) fun ws s5 h5 => ?_)))
  obtain ⟨ps, H5, I5, rel, k, y, rfl, eq, ep5, npq, q5⟩ := h5
  obtain ⟨u, hc, ru⟩ := one_carries (P := X.prog) (w := X.w) rel
  obtain ⟨zq, dq, vq, kq, ddq⟩ := dk_of I5.hok eq
  cases kq
  refine ⟨[(k, u)], hc, ddq, fun h6 hd6 hs6 => ?_⟩
  have hd6 : h6.DictOf (mixKind X.prog X.w) h2.objs.size [(k, u)] := hd6
  have he6 : ∃ q, h6.get? h2.objs.size = some q := let ⟨q, _, _, hq, _⟩ := hd6; ⟨q, hq⟩
  have I6 := d_write (t' := s5.toks + ws.length) I5 (by rw [eq]; exact True.intro) hs6 he6 (dk_new (kvs := [(k, y)]) (by show 1 ≤ sizeLine; rw [sizeLine_eq]; omega) dq (.cons ⟨rfl, ru⟩ .nil) hd6)
  have e7 : (upd H5 h2.objs.size (.dK [(k, y)])) p = some (.dK kvs) := by rw [upd_ne npq]; exact ep5
  obtain ⟨z7, d7, v7, k7, dd7⟩ := dk_of I6.hok e7
  have hl7 : v7.length = kvs.length := (Paired.length k7).symm
  refine wpAny_bind (wpAny_onRaise (wpAny_holding (merge_ok mix_flat npq dq dd7 hd6 (by rw [hl7, sizeLine_eq]; show kvs.length + 1 ≤ _; omega) fun h8 hd8 _ hs8 => wpAny_pure ?_)))
  have hd8 : h8.DictOf (mixKind X.prog X.w) p (stored v7 k u) := hd8
  have he8 : ∃ q, h8.get? p = some q := let ⟨q, _, _, hq, _⟩ := hd8; ⟨q, hq⟩
  have I8 := d_write (t' := s5.toks + ws.length) I6 (by rw [e7]; exact True.intro) hs8 he8 (dk_new (kvs := putK kvs k y) (by have := putK_le kvs k y; rw [sizeLine_eq]; omega) d7 (KV.put k7 ru) hd8)
  exact ⟨.ref p, _, I8, rfl, q5⟩
end
end Cs
namespace Cs
open PySem PySem.Spec PyProof.Rows L2
/-! ### set(xs) of a list of ints, to be sorted -/
abbrev bareSet (w : World) : Obj := { cls := .type "set", dict := none, data := .set #[] 0 (.fresh 0 0 (!w.params.followText "set-order")) }
section
variable {P : Program} {w : World} {A : Around} {E : Value → Shared → Prop} {s : Shared}
set_option maxHeartbeats 3200000 in
theorem set_of_list {l : Addr} {items : Array Value} (ns : List Int) {Q : Value → Shared → Prop} (hh : A.handled = none) (hl : s.heap.IsList l items) (hit : IntsAre items.toList ns) (hb : ns.length + 1 < scanBound)
    (h : ∀ (h1 : Heap) (tk c : Nat), SetR w h1 s.heap.objs.size (fun j => decide (j ∈ ns)) c → c ≤ ns.length → (∀ b o, s.heap.get? b = some o → h1.get? b = some o) → Q (.ref s.heap.objs.size) { s with heap := h1, toks := tk }) :
    wpAny (model P w) A (call (.type "set") [.ref l]) Q E s := by
  have size_eq : items.size = ns.length := (Array.length_toList (xs := items)).symm.trans (IntsAre.length hit)
  obtain ⟨c, tl, hmro⟩ := F.called_set.mro
  have hmade := F.called_set.made
  have hsub := F.called_set.sub
  refine wpAny_call (codeAny_of_tree ?_)
  show wpAny _ _ (callAny (.type "set") _) _ _ _
  refine wpAny_pure ⟨Code.quiet_builtin _ (by decide +kernel), codeAny_builtin F.entry_type_call ?_⟩
  rw [Around.under_plain (weight_type_call_type "set" [.ref l] []) rfl]
  have h1 := F.called_set.notType
  have h2 := F.called_set.canCreate
  have hct := F.typeCall_set_1 (.ref l)
  repeat (any_goals (first | assumption | wp_step))
  refine codeAny_mono (code_set_led1 (.ref l) (E := E) (Q₁ := fun obj s₁ => obj = .ref s.heap.objs.size ∧ s₁ = { s with heap := s.heap.push (bareSet w) }) ⟨rfl, rfl⟩) fun r s₁ hr => ?_
  match r, hr with
  | .error _, hr => exact hr
  | .ok (.ret obj), ⟨e1, e2⟩ =>
    subst e1 e2
    have hS : (s.heap.push (bareSet w)).get? s.heap.objs.size = some (bareSet w) := Heap.get?_push_size _ rfl
    have hT : Shared.TypeIs { s with heap := s.heap.push (bareSet w) } (.ref s.heap.objs.size) "set" := ⟨_, hS, rfl⟩
    have hli := F.called_set.init.lookup
    have hbi := F.called_set.init.bind (.ref s.heap.objs.size)
    repeat (any_goals (first | assumption | wp_step))
    refine codeAny_mono (codeAny_call_builtin (R := wants (fun r s₂ => r = .none ∧ ∃ h1 tk c, s₂ = { s with heap := h1, toks := tk } ∧ SetR w h1 s.heap.objs.size (fun j => decide (j ∈ ns)) c ∧ c ≤ ns.length ∧
        (∀ b o, s.heap.get? b = some o → h1.get? b = some o)) E) F.called_set.init.plain F.entry_set_init (check_set_init_1 hT ?_)) fun r₂ s₂ hr₂ => ?_
    · obtain ⟨⟨_, odict, _, oslots⟩, hol, rfl, nl, rfl⟩ := hl
      have below : l < s.heap.objs.size := Heap.lt_size hol
      have hol' : (s.heap.push (bareSet w)).get? l = some { cls := .type "list", dict := odict, data := .seq items nl, slots := oslots } := Heap.get?_push_of_some _ hol
      have hsls := F.sub_list_set
      have hslf := F.sub_list_frozenset
      have hne : (Value.type "list" == Value.type "dict") = false := by decide
      have hl1 : (s.heap.push (bareSet w)).IsList l items := ⟨_, hol', rfl, nl, rfl⟩
      unfold Builtin.«set.__init__» noKeywords Builtin.Frozenset.updateFrom
      generalize hPI : pyIter = PI
      wp_walk
      subst hPI
      refine wpAny_pyIter_list hl1 (wpAny_bind (wpAny_runValue ?_))
      have calm : A.in1.in1.in1.handled = none := by simp [hh]
      have sz1 : (s.heap.push (bareSet w)).objs.size = s.heap.objs.size + 1 := Heap.size_push ..
      have hneI : l ≠ (s.heap.push (bareSet w)).objs.size := by rw [sz1]; exact Nat.ne_of_lt (Nat.lt_succ_of_lt below)
      have hSf : s.heap.objs.size ∉ [(s.heap.push (bareSet w)).objs.size, l] := by
        rw [sz1]
        simp only [List.mem_cons, List.not_mem_nil, or_false, not_or]
        exact ⟨Nat.ne_of_lt (Nat.lt_succ_self _), Nat.ne_of_gt below⟩
      have hval : ∀ (i : Nat) (v : Value), items[i]? = some v → ∃ k t, ns[i]? = some k ∧ v = .int k t := fun i v hv => by
        have hi : i < ns.length := size_eq ▸ (Array.getElem?_eq_some_iff.mp hv).1
        obtain ⟨t, e⟩ := PyProof.Rows.IntsAre.int_at hit i v (by rw [Array.getElem?_toList]; exact hv)
        exact ⟨ns[i], t, List.getElem?_eq_getElem hi, by rw [e, List.getD_eq_getElem?_getD, List.getElem?_eq_getElem hi] <;> rfl⟩
      refine set_update_ints ((Walks.list calm _ l hneI items).toS) s.heap.objs.size hSf ns size_eq hb hval (items.size - 0) 0 _ (by omega) (Nat.zero_le _)
        ⟨⟨_, Heap.get?_push_size _ rfl, rfl, rfl⟩, (hl1.push _)⟩ ⟨0, Nat.le_refl 0, setR_new_at (Heap.get?_push_of_some _ hS)⟩ ?_
      intro s3 c3 hm hc3 hS3
      obtain ⟨h3, g3, d3, tk3, os3⟩ := s3
      obtain rfl : g3 = s.gens := hm.gens
      obtain rfl : d3 = s.drawn := hm.drawn
      obtain rfl : os3 = s.os := hm.os
      refine wpAny_pure (wpAny_pure ⟨rfl, h3, tk3, c3, rfl, hS3, size_eq ▸ hc3, fun b o e => ?_⟩)
      have hb0 : b < s.heap.objs.size := Heap.lt_size e
      refine hm.heap b o ?_ (Heap.get?_push_of_some _ (Heap.get?_push_of_some _ e))
      simp only [List.mem_cons, List.not_mem_nil, or_false, not_or]
      exact ⟨Nat.ne_of_lt hb0, by rw [sz1]; exact Nat.ne_of_lt (Nat.lt_succ_of_lt hb0)⟩
    · match r₂, hr₂ with
      | .error _, hr₂ => exact hr₂
      | .ok (.ret _), ⟨e, h3, tk, c, es, hS3, hc3, hk3⟩ =>
        subst e es
        repeat (any_goals (first | assumption | wp_step))
        exact h _ _ _ hS3 hc3 hk3
end
/-- set(xs) -/
def rSetL (K : PySem.W.Frag) (w : World) : List V → Hp → VK → Prop := fun xs H Q => ∃ (a : Addr) (ns : List Int), xs = [.ref a] ∧ SqL K H a (ns.map V.int) ∧ ns.length ≤ 1000 ∧
  ∀ p c, H p = none → c ≤ ns.length → Q (.ref p) (upd H p (SetO w p (fun j => decide (j ∈ ns)) c))
theorem cr_setL {X : Cx} (hc : X.calm = true) : CallR X (.type "set") (rSetL X.K X.w) := by
  intro pins s σ H xs us Q I r h
  obtain ⟨a, ns, rfl, hs, hl, q⟩ := h
  obtain ⟨its, rv, pl, hz⟩ := I.list hs
  rw [Vals.ref1 r]
  refine set_of_list ns (I.ok.hd hc) pl.isList (by simpa using ints_of_vals rv) (by unfold scanBound; omega) fun h1 tk c R hcn hk => ?_
  exact ⟨.ref _, _, I.laid (t' := tk) hk (Nat.le_refl _) (setO_new R), rfl, q _ c (I.hok.fresh (Nat.le_refl _)) hcn⟩
end Cs
namespace Cs
open PySem PySem.Spec PyProof.Rows L2
/-! ### tuples that are known to bear no dict of their own -/
abbrev tupObj (its : List Value) : Obj := { cls := .type "tuple", data := .seq its.toArray }
/-- a plain tuple of xs -/
def PlT (H : Hp) (a : Addr) (xs : List V) : Prop := ∃ o, H a = some (.frz o (.tup xs)) ∧ o.dict = none
theorem PlT.sq {K : PySem.W.Frag} {H : Hp} {a : Addr} {xs : List V} (h : PlT H a xs) : SqT K H a xs := let ⟨o, e, _⟩ := h; .inl (.inr ⟨o, e⟩)
theorem PlT.same {H H1 : Hp} {a : Addr} {xs : List V} (h : PlT H a xs) (s : ∀ b o, H b = some o → H1 b = some o) : PlT H1 a xs := let ⟨o, e, d⟩ := h; ⟨o, s _ _ e, d⟩
theorem PlT.new {H : Hp} {a : Addr} {xs : List V} {its : List Value} : PlT (upd H a (.frz (tupObj its) (.tup xs))) a xs := ⟨_, upd_same, rfl⟩
def tTupF (t : TA) : TE := fun σ H Q => t σ H fun xs H1 => xs.length ≤ sizeLine ∧ ∀ p its, H1 p = none → Q (.ref p) (upd H1 p (.frz (tupObj its) (.tup xs)))
section
variable {X : Cx}
theorem pe_tupF {es : List Expr} {t : TA} {pos : Pos} {k} (h : PA X es t) : PE X (.Tuple es k pos) (tTupF t) := by
  refine ⟨fun pins s σ H Q I hq => wpAny_Tuple_spliced (thn (h.run pos pins s σ H _ I hq) fun us s1 ⟨xs, H1, I1, r, z, q⟩ => ⟨by rw [← r.length]; exact z, ?_⟩)⟩
  refine ⟨.ref s1.heap.objs.size, _, I1.laid (t' := s1.toks) (fun b u e => Heap.get?_push_of_some _ e) (Nat.le_refl _) ?_, rfl, q _ us (I1.hok.fresh (Nat.le_refl _))⟩
  exact ⟨Heap.get?_push_size _ rfl, z, us, r, ⟨_, Heap.get?_push_size _ rfl, rfl, _, rfl⟩⟩
/-- tuple(xs) of a list -/
def rTupF (K : PySem.W.Frag) : List V → Hp → VK → Prop := fun xs H Q => ∃ p ys, xs = [.ref p] ∧ SqL K H p ys ∧ ∀ l its, H l = none → Q (.ref l) (upd H l (.frz (tupObj its) (.tup ys)))
theorem cr_tupF : CallR X (.type "tuple") (rTupF X.K) := by
  intro pins s σ H xs us Q I r h
  obtain ⟨p, ys, rfl, hq, q⟩ := h
  rw [Vals.ref1 r]
  obtain ⟨its, rv, pl, hz⟩ := I.list hq
  have hlen := rv.length
  refine call_tuple_list pl.isList (fun h1 kp => ?_) (by simp only [List.size_toArray] <;> omega)
  have I1 : Inv X pins σ H { s with heap := h1 } := I.kept (t' := s.toks) kp
  refine ⟨.ref h1.objs.size, _, I1.laid (a := h1.objs.size) (o := .frz (tupObj its) (.tup ys)) (h' := h1.push (tupObj its)) (t' := s.toks) (fun b o e => Heap.get?_push_of_some _ e) (Nat.le_refl _) ?_, rfl, q _ its (I1.hok.fresh (Nat.le_refl _))⟩
  exact ⟨Heap.get?_push_size _ rfl, hz, its, rv, IsTup.new _ _⟩
/-- dict(ps), ps a plain tuple of pairs -/
def rDictT (K : PySem.W.Frag) : List V → Hp → VK → Prop := fun xs H Q => ∃ (a : Addr) (ps : List Addr) (kvs : List (Key × V)), xs = [.ref a] ∧ PlT H a (ps.map V.ref) ∧ Paired (fun p kv => SqT K H p [kV kv.1, kv.2]) ps kvs ∧
  ∀ p, H p = none → Q (.ref p) (upd H p (.dK (mergeK [] kvs)))
theorem cr_dictT (hc : X.calm = true) : CallR X (.type "dict") (rDictT X.K) := by
  intro pins s σ H xs us Q I r h
  obtain ⟨a, ps, kvs, rfl, ⟨o, ha, hdn⟩, hp, q⟩ := h
  rw [Vals.ref1 r]
  obtain ⟨hget, hz, its, rv, o1, ho1, hcls, n, hdat⟩ := I.hok a _ ha
  obtain rfl : o = o1 := Option.some.inj (hget.symm.trans ho1)
  have ei := refs_at rv
  subst ei
  rw [List.length_map] at hz
  obtain ⟨prs, rel, hl, hpr⟩ := pairs_of I hp
  -- the pairs, their keys as values
  have hall : ∀ (j : Nat) (q : Key × Value), prs[j]? = some q → ∃ (b : Addr) (u : Value), ps[j]? = some b ∧ IsTup s.heap b #[u, q.2] ∧ keyIs q.1 u = true := hpr
  have hkey : ∀ j : Nat, ∃ u : Value, ∀ q, prs[j]? = some q → ∃ b, ps[j]? = some b ∧ IsTup s.heap b #[u, q.2] ∧ keyIs q.1 u = true := fun j => by
    cases e : prs[j]? with
    | none => exact ⟨.none, fun q e2 => nomatch e2⟩
    | some q =>
      obtain ⟨b, u, h1, h2, h3⟩ := hall j q e
      exact ⟨u, fun q2 e2 => by cases e2; exact ⟨b, h1, h2, h3⟩⟩
  obtain ⟨ku, hku⟩ := Classical.axiomOfChoice hkey
  have hp2 : ∀ (j : Nat) (k v : Value), ((List.range prs.length).map fun j => (ku j, ((prs[j]?).map (·.2)).getD .none))[j]? = some (k, v) → ∃ q, prs[j]? = some q ∧ k = ku j ∧ v = q.2 := fun j k v e => by
    rw [List.getElem?_map] at e
    by_cases hj : j < prs.length
    · rw [List.getElem?_range hj] at e
      have e := Option.some.inj e
      dsimp only at e
      rw [List.getElem?_eq_getElem hj] at e
      exact ⟨prs[j], List.getElem?_eq_getElem hj, (Prod.mk.inj e).1.symm, (Prod.mk.inj e).2.symm⟩
    · rw [List.getElem?_eq_none (by simpa using hj)] at e
      exact nomatch e
  have hlen2 : ((List.range prs.length).map fun j => (ku j, ((prs[j]?).map (·.2)).getD Value.none)).length = prs.length := by simp
  refine PySem.call_dict_pairs (knd := mixKind X.prog X.w) (kvs := prs) (PairArg.tuple a (ps.map Value.ref).toArray (fun j => ps.getD j 0) ((List.range prs.length).map fun j => (ku j, ((prs[j]?).map (·.2)).getD .none))) (I.ok.hd hc)
    ⟨⟨o, n, hget, hcls, hdn, hdat⟩, by simp [hl], fun j k v e => ?_⟩ ⟨hlen2.symm, fun j key v e => ?_⟩ (by rw [hlen2, hl]; exact hz) fun h1 tk hd1 hk => ?_
  · obtain ⟨q, e1, rfl, rfl⟩ := hp2 j k v e
    obtain ⟨b, e2, e3, _⟩ := hku j q e1
    have e4 : ps.getD j 0 = b := by rw [List.getD_eq_getElem?_getD, e2]; rfl
    dsimp only
    rw [e4]
    exact ⟨by simp [e2], .inl e3⟩
  · obtain ⟨q, e1, rfl, rfl⟩ := hp2 j key v e
    obtain ⟨_, _, _, e4⟩ := hku j q e1
    exact ⟨q.1, e1, e4⟩
  · have hm : (s.heap.objs.size == sysModules) = false := beq_eq_false_iff_ne.mpr (Nat.ne_of_gt I.big)
    have hlen : (mergeK [] kvs).length ≤ sizeLine := by
      refine Nat.le_trans (length_mergeK kvs []) ?_
      rw [List.length_nil, Nat.zero_add, rel.length, hl]
      exact hz
    exact ⟨.ref s.heap.objs.size, upd H s.heap.objs.size (.dK (mergeK [] kvs)), I.laid (t' := tk) (fun b o e => hk b o (fun z => nomatch z) e) (Nat.le_refl _) (show ObjOk X.prog X.w _ _ _ (.dK (mergeK [] kvs)) from ⟨hlen, hm, merged [] prs, KV.merge rel .nil, hd1⟩), rfl, q _ (I.hok.fresh (Nat.le_refl _))⟩
/-- x * n, a text -/
def rMulS : V → V → Hp → VK → Prop := fun x y H Q => ∃ z n, x = .str z ∧ y = .int n ∧ MulOk z n ∧ Q (.str (Txt.mul z n)) H
theorem op_mulS : OpR X (binaryOp .Mult) rMulS := by
  intro pins s σ H x y v u Q I rx ry h
  obtain ⟨z, n, rfl, rfl, ok, q⟩ := h
  obtain ⟨t, rfl⟩ := rx
  obtain ⟨t2, rfl⟩ := ry
  exact SB.mul ok fun t3 k => ⟨.str (Txt.mul z n), H, I.tok k, ⟨t3, rfl⟩, q⟩
end
end Cs
namespace Cs
open PySem PySem.Spec PyProof.Rows L2
/-! ### enumerate(t), t a tuple -/
set_option maxHeartbeats 1000000 in
theorem enumNew1 {v : Value} {o : Obj} {Hd : Heap → Prop} (B : Begins v o Hd) : Meets (Builtin.«enumerate.__new__» ⟨[.type "enumerate", v], []⟩) (fun _ R s => Hd s.heap ∧
    R (.ok (.ret (.ref (s.heap.push o).objs.size))) { s with heap := (s.heap.push o).push { cls := .type "enumerate", data := .fields #[.none, .bool false, .ref s.heap.objs.size, rawInt 0, .none, .none] } }) :=
  .of_wp fun prog w A R s h => by
    obtain ⟨hp, g, d, tk, os⟩ := s
    obtain ⟨h1, h⟩ := h
    have hsub := sub_enumerate
    have begin_ : ∀ {A' : Around} {E : Value → Shared → Prop} {Q : Value → Shared → Prop}, Q (.ref hp.objs.size) ⟨hp.push o, g, d, tk, os⟩ → wpAny (model prog w) A' (pyIter v) Q E ⟨hp, g, d, tk, os⟩ :=
      fun q => B.iter prog w _ _ ⟨hp, g, d, tk, os⟩ _ h1 q
    wp_walk using begin_
    refine wpAny_stack_any fun st => wpAny_pure ?_
    split
    · rename_i c _ _ _ _ _
      cases (c == Value.type "enumerate") <;> (wp_walk using begin_; exact ⟨_, rfl, h⟩)
    · wp_walk using begin_
      exact ⟨_, rfl, h⟩
section
variable {prog : Program} {w : World} {A : Around} {E : Value → Shared → Prop} {s : Shared}
theorem enum1_begins {v : Value} {o : Obj} {Hd : Heap → Prop} {Q : Value → Shared → Prop} (B : Begins v o Hd) (h1 : Hd s.heap)
    (h : ∀ h1 : Heap, IsEnum h1 (s.heap.objs.size + 1) s.heap.objs.size 0 .none → h1.get? s.heap.objs.size = some o →
      (∀ b o, s.heap.get? b = some o → h1.get? b = some o) → Q (.ref (s.heap.objs.size + 1)) { s with heap := h1 }) :
    wpAny (model prog w) A (call (.type "enumerate") [v]) Q E s := by
  refine callType_new F.called_enumerate (by decide) (F.typeCall_enumerate_1 _) (F.newCall_enumerate_1 _) (fun obj => F.args_object_init_2 obj _) F.entry_enumerate_new (enumNew1 B) ⟨h1, ?_⟩
  have hz : (s.heap.push o).objs.size = s.heap.objs.size + 1 := Heap.size_push ..
  have he := Heap.get?_push_size (s.heap.push o) (o := { cls := .type "enumerate", data := .fields #[.none, .bool false, .ref s.heap.objs.size, rawInt 0, .none, .none] }) rfl
  show _ ∧ _
  rw [hz] at he ⊢
  exact ⟨⟨_, he, rfl⟩, h _ he (Heap.get?_push_of_some _ (Heap.get?_push_size _ B.free)) fun b o x => Heap.get?_push_of_some _ (Heap.get?_push_of_some _ x)⟩
end
/-- the tuple at a, each item in a new pair with its number -/
def IteT (K : PySem.W.Frag) (a : Addr) : It :=
  ⟨fun i H => ∃ (xs : List V) (x : V), SqT K H a xs ∧ xs[i]? = some x,
   fun i H v H1 => ∃ T x, v = .ref T ∧ H T = none ∧ H1 = upd H T (.tup [.int (i : Nat), x]) ∧ ∀ xs, SqT K H a xs → xs[i]? = some x,
   fun i H => ∃ xs : List V, SqT K H a xs ∧ xs.length ≤ i⟩
theorem turn_enumT {P : Program} {w : World} {K : PySem.W.Frag} {elts : List Expr} {kk : Nat} {tpos : Pos} {a e it : Addr} (ne : e ≠ it) (nea : e ≠ a) (nia : it ≠ a) :
    Turn P w K (.Tuple elts kk tpos) (IteT K a) [e, it] e (fun i h => (∃ old, IsEnum h e it (0 + (i : Int)) old) ∧ h.IsTupleIter it a i) where
  mem := by simp
  obj := fun i h st b hb => by
    obtain ⟨⟨old, he⟩, o, ho, hc, hd⟩ := st
    rcases (show b = e ∨ b = it by simpa using hb) with z | z
    · subst z
      exact ⟨_, he, fun v q => nomatch q⟩
    · subst z
      exact ⟨o, ho, fun v q => by rw [hd] at q; cases q⟩
  keep := fun i h h' st k => let ⟨⟨old, he⟩, hi⟩ := st; ⟨⟨old, k e (by simp) _ he⟩, hi.at fun o q => k it (by simp) o q⟩
  item := by
    intro X hP hw hK hc i pins s σ H E I hf st hg
    subst hP hw hK
    obtain ⟨xs, x, hq, hx⟩ := hg
    obtain ⟨its, rv, p, hz⟩ := I.tuple hq
    obtain ⟨u, hu, ru⟩ := rv.get hx
    have hi : i < its.toArray.size := by
      have z := (List.getElem?_eq_some_iff.mp hu).1
      simpa using z
    have G := GoesN.enumFrom (prog := X.prog) (w := X.w) (A := X.A) (elts := elts) (x1 := kk) (pos := tpos) 0 (Draws.tuple (prog := X.prog) (w := X.w) (A := X.A.in1) (I.ok.hd hc) it a (Ne.symm nia) its.toArray) e ne (by simp [ne, nea]) (by simp)
    refine wpAny_mono (G.goes i s (fun v s2 => ∃ x H', Inv X pins σ H' s2 ∧ RelV x v ∧ (IteT X.K a).yld i H x H' ∧ ((∃ old, IsEnum s2.heap e it (0 + ((i + 1 : Nat) : Int)) old) ∧ s2.heap.IsTupleIter it a (i + 1)) ∧ ∀ b ∈ [e, it], H' b = none) E hi ⟨st.1, st.2, p⟩ ?_)
      (fun r s1 ⟨v, hr, h1⟩ => ⟨v, hr, wpAny_mono h1 (fun _ s2 q => q) fun _ _ q => q⟩) fun _ _ q => q
    rintro v h2 tk ⟨T, t, y, rfl, hT, hy, tT⟩ st2 hk htk
    obtain rfl : y = u := by
      have e1 : its[i]? = some y := by simpa using hy
      exact Option.some.inj (e1.symm.trans hu)
    have fT : H T = none := I.hok.fresh hT
    have I1 : Inv X pins σ (upd H T (.tup [.int (i : Nat), x])) { s with heap := h2, toks := tk } :=
      I.turnedNew (ch := [e, it]) hk hf hT ⟨by show 2 ≤ sizeLine; decide, [.int (0 + (i : Int)) t, y], .cons ⟨t, by rw [Int.zero_add]⟩ (.cons ru .nil), by
        obtain ⟨o, h1, h2, n, h3⟩ := tT
        exact ⟨o, h1, h2, n, h3⟩⟩
    refine ⟨.ref T, _, I1, rfl, ⟨T, x, rfl, fT, rfl, fun ys hys => by rw [I.tuple_inj hys hq]; exact hx⟩, ⟨st2.1, st2.2.1⟩, fun b hb => ?_⟩
    have lt : b < s.heap.objs.size := by
      obtain ⟨⟨old, he⟩, o, ho, _⟩ := st
      rcases (show b = e ∨ b = it by simpa using hb) with z | z
      · rw [z]; exact Heap.lt_size he
      · rw [z]; exact Heap.lt_size ho
    rw [upd_ne (Nat.ne_of_lt (Nat.lt_of_lt_of_le lt hT))]
    exact (hf b hb).1
  done := by
    intro X hP hw hK hc i pins s σ H E I hf st hg
    subst hP hw hK
    obtain ⟨xs, hq, hx⟩ := hg
    obtain ⟨its, rv, p, hz⟩ := I.tuple hq
    obtain ⟨f0, f1, f2, f3, f4, f5⟩ := hf it (by simp)
    have hl := rv.length
    obtain ⟨⟨old, he⟩, hit⟩ := st
    have none_ : its.toArray[i]? = none := by simp; omega
    have D : Draws X.prog X.w X.A.in1 it [it, a] i (fun _ _ => False) (fun j h => j = i ∧ h.IsTupleIter it a j ∧ h.IsTuple a its.toArray) :=
      { live := fun _ _ st => let ⟨o, ho, _⟩ := st.2.1; ⟨o, ho⟩
        frame := fun _ _ _ st hk => ⟨st.1, st.2.1.at fun o e => hk it (by simp) o e, st.2.2.at fun o e => hk a (by simp) o e⟩
        item := fun j s Q E hj st _ => absurd st.1 (Nat.ne_of_lt hj)
        done := fun s Q E st hE => wpAny_nextOf_tuple_end (I.ok.hd hc) st.2.1 st.2.2 none_ hE }
    exact wpAny_pyNext_enum_endD D he ⟨rfl, hit, p⟩ fun h' eb => ⟨rfl, I.turned (t' := s.toks) (fun b o hb q => eb b o hb q) f0 f1 f3 f4 f5⟩
  self := fun A i s Q E st h => let ⟨⟨_, he⟩, _⟩ := st; wpAny_pyIter_enum he h
def iEnumT (K : PySem.W.Frag) (ta : TA) : TI := fun σ H R => ta σ H fun vs H1 => ∃ a xs, vs = [.ref a] ∧ SqT K H1 a xs ∧ R (IteT K a) H1
theorem pi_enumT {X : Cx} {e : Expr} {ta : TA} {p pos tpos : Pos} {elts : List Expr} {kk : Nat} (hg : Gl X "enumerate") (hm : X.mg "enumerate" = none) (ha : PA X [e] ta) (hs : starEach [e] X.env = [(false, eval e X.env)] := by rfl) :
    PI X (.Tuple elts kk tpos) (.Call (.Name "enumerate" p) [e] [] pos) (iEnumT X.K ta) := by
  refine ⟨fun pins s σ H R I h => ?_⟩
  refine Call_ (ld_blt I hg hm boot_enumerate (PyProof.Rows.callWith_type1 (thn (ha.run pos pins s σ H _ I h) fun us s1 ⟨vs, H1, I1, r1, q1⟩ => ?_) hs rfl))
  obtain ⟨a, xs, rfl, hq, q⟩ := q1
  cases r1 with
  | cons r rr =>
    cases rr
    cases r
    obtain ⟨its, rv, pt, hz⟩ := I1.tuple hq
    have la : a < s1.heap.objs.size := let ⟨o, ho, _⟩ := pt; Heap.lt_size ho
    refine enum1_begins (begins_tuple a its.toArray) pt fun h1 he hit hk => wpAny_pyIter_enum he ?_
    have I2 : Inv X pins σ H1 { s1 with heap := h1 } := I1.kept (t' := s1.toks) hk
    refine ⟨s1.heap.objs.size + 1, [s1.heap.objs.size + 1, s1.heap.objs.size], _, _, H1, rfl, I2, turn_enumT (Nat.succ_ne_self _) (Nat.ne_of_gt (Nat.lt_succ_of_lt la)) (Nat.ne_of_gt la), ⟨⟨.none, he⟩, ⟨_, hit, rfl, rfl⟩⟩, fun b hb => ?_, q⟩
    have hle : s1.heap.objs.size ≤ b := by
      rcases (show b = s1.heap.objs.size + 1 ∨ b = s1.heap.objs.size by simpa using hb) with z | z
      · rw [z]; exact Nat.le_succ _
      · rw [z]; exact Nat.le_refl _
    exact I1.fpOk hle (I1.hok.fresh hle)
end Cs
namespace Cs
open PySem PySem.Spec PyProof.Rows L2
/-! ### TABLE.get(text), a dict of the module -/
def tKGet (K : PySem.W.Frag) (d : Addr) (td ty : TE) : TE := fun σ H Q => td σ H fun x H1 => x = .ref d ∧ ty σ H1 fun y H2 => ∃ (z : Str) (r : Option Value) (v : V), y = .str z ∧ PySem.W.nsIn K d z = some r ∧ RelV v (r.getD .none) ∧ Q v H2
theorem pe_kget {X : Cx} {o e : Expr} {apos cpos : Pos} {td ty : TE} {d : Addr} {es : Array DictEntry} {n : Nat} (D : KDict X.K X.w d es n) (ho : PE X o td) (he : PE X e ty) (m : M1 X o "get" apos e cpos) :
    PE X (.Call (.Attribute o "get" apos) [e] [] cpos) (tKGet X.K d td ty) := by
  refine ⟨fun pins s σ H Q I h => ?_⟩
  refine wpAny_Call_method m.base m.few m.line PySem.F.plainAttrs_dict PySem.F.slot_dict_get PySem.F.type_dict_get (thn (ho.run pins s σ H _ I h) fun u s1 ⟨x, H1, I1, rx, ex, q1⟩ => ?_)
  subst ex
  obtain rfl : u = Value.ref d := rx
  have hm := PySem.W.mapOf_K (prog := X.prog) (w := X.w) I1.kIn D.at_ D.lit
  refine ⟨hm.typeIs, fun b q => ?_, ?_⟩
  · cases q
    obtain ⟨ob, _, _, h1, h2, _⟩ := hm
    exact ⟨ob, h1, h2.2.1⟩
  rw [m.trees]
  refine Calls.callWith_builtin rfl (Calls.evalArgs_plain (Calls.spliced_cons (thn (he.run pins s1 σ H1 _ I1 q1) fun iv s2 ⟨y, H2, I2, ry, z, r, v, ey, hr, rv, q2⟩ => Calls.spliced_nil ?_)))
  subst ey
  obtain ⟨t, rfl⟩ := ry
  have hm2 := PySem.W.mapOf_K (prog := X.prog) (w := X.w) I2.kIn D.at_ D.lit
  refine call_meetsIn PySem.F.slot_dict_get hm2.typeIs PySem.F.entry_dict_get (PySem.F.args_dict_get_2 _ _) (meets_dict_get (strKind X.prog X.w) d (strKind_is X.prog X.w z t) D.low) ⟨_, hm2, ?_⟩
  rw [PySem.W.find_K D.at_ hr]
  exact ⟨v, H2, I2.tok _, rv, q2⟩
end Cs
namespace Cs
open PySem PySem.Spec PyProof.Rows L2
/-! ### zip(t, l), t a tuple and l a list -/
def ItM (K : PySem.W.Frag) (a b : Addr) (xs ys : List V) : It :=
  ⟨fun i H => SqT K H a xs ∧ SqL K H b ys ∧ i < min xs.length ys.length,
   fun i H v H1 => ∃ T x y, v = .ref T ∧ H T = none ∧ H1 = upd H T (.tup [x, y]) ∧ xs[i]? = some x ∧ ys[i]? = some y,
   fun i H => SqT K H a xs ∧ SqL K H b ys ∧ i = min xs.length ys.length⟩
theorem sub4 {z TI TO i1 i2 c : Addr} (m : c ∈ [z, TO, i1, i2]) : c ∈ [z, TI, TO, i1, i2] := by
  simp only [List.mem_cons, List.not_mem_nil, or_false] at m ⊢
  rcases m with m | m | m | m <;> simp [m]
theorem turn_zipM {P : Program} {w : World} {K : PySem.W.Frag} {elts : List Expr} {kk : Nat} {tpos : Pos} {a b z TI TO i1 i2 : Addr} {xs ys : List V} (S : ZipSep2 z TI TO i1 i2 [i1, a] [i2, b]) (n1 : i1 ≠ a) (n2 : i2 ≠ b) :
    Turn P w K (.Tuple elts kk tpos) (ItM K a b xs ys) [z, TI, TO, i1, i2] z (fun i h => IsZip h z TI TO .none ∧ IsTupOf2 h TI (.ref i1) (.ref i2) ∧ (∃ x y, IsTupOf2 h TO x y) ∧ h.IsTupleIter i1 a i ∧ h.IsListIter i2 b i) where
  mem := by simp
  obj := fun i h st c hc => by
    obtain ⟨hz, hTI, ⟨x, y, hTO⟩, ⟨o1, e1, _, d1⟩, ⟨o2, e2, _, d2⟩⟩ := st
    rcases (show c = z ∨ c = TI ∨ c = TO ∨ c = i1 ∨ c = i2 by simpa using hc) with q | q | q | q | q <;> subst q
    · exact ⟨_, hz, fun v q => nomatch q⟩
    · exact ⟨_, hTI, fun v q => nomatch q⟩
    · exact ⟨_, hTO, fun v q => nomatch q⟩
    · exact ⟨o1, e1, fun v q => by rw [d1] at q; cases q⟩
    · exact ⟨o2, e2, fun v q => by rw [d2] at q; cases q⟩
  keep := fun i h h' st k => by
    obtain ⟨hz, hTI, ⟨x, y, hTO⟩, h1, h2⟩ := st
    exact ⟨k z (by simp) _ hz, k TI (by simp) _ hTI, ⟨x, y, k TO (by simp) _ hTO⟩, h1.at fun o q => k i1 (by simp) o q, h2.at fun o q => k i2 (by simp) o q⟩
  item := by
    intro X hP hw hK hc i pins s σ H E I hf st hg
    subst hP hw hK
    obtain ⟨hqx, hqy, hlt⟩ := hg
    obtain ⟨its, rv, p, _⟩ := I.tuple hqx
    obtain ⟨its2, rv2, p2, _⟩ := I.list hqy
    have l1 : its.toArray.size = xs.length := by rw [List.size_toArray, ← rv.length]
    have l2 : its2.toArray.size = ys.length := by rw [List.size_toArray, ← rv2.length]
    have G := GoesN.zip2 (prog := X.prog) (w := X.w) (A := X.A) (elts := elts) (x1 := kk) (pos := tpos) S (Draws.tuple (prog := X.prog) (w := X.w) (A := X.A.in1) (I.ok.hd hc) i1 a (Ne.symm n1) its.toArray) (Draws.list (prog := X.prog) (w := X.w) (A := X.A.in1) (I.ok.hd hc) i2 b (Ne.symm n2) its2.toArray)
    refine wpAny_mono (G.goes i s (fun v s2 => ∃ x H', Inv X pins σ H' s2 ∧ RelV x v ∧ (ItM X.K a b xs ys).yld i H x H' ∧ (IsZip s2.heap z TI TO .none ∧ IsTupOf2 s2.heap TI (.ref i1) (.ref i2) ∧ (∃ x y, IsTupOf2 s2.heap TO x y) ∧ s2.heap.IsTupleIter i1 a (i + 1) ∧ s2.heap.IsListIter i2 b (i + 1)) ∧ ∀ c ∈ [z, TI, TO, i1, i2], H' c = none) E (by rw [l1, l2]; exact hlt)
        ⟨st.1, st.2.1, st.2.2.1, ⟨st.2.2.2.1, p⟩, ⟨st.2.2.2.2, p2.isList⟩⟩ ?_)
      (fun r s1 ⟨v, hr, h1⟩ => ⟨v, hr, wpAny_mono h1 (fun _ s2 q => q) fun _ _ q => q⟩) fun _ _ q => q
    rintro v h2 tk ⟨T, u1, u2, rfl, hT, hx, hy, tT⟩ st2 hk htk
    obtain ⟨x, ex, rx⟩ : ∃ x, xs[i]? = some x ∧ RelV x u1 := by
      have hi : i < xs.length := by omega
      obtain ⟨u, e1, e2⟩ := rv.get (List.getElem?_eq_getElem hi)
      have e3 : its[i]? = some u1 := by simpa using hx
      rw [e1] at e3
      cases e3
      exact ⟨_, List.getElem?_eq_getElem hi, e2⟩
    obtain ⟨y, ey, ry⟩ : ∃ y, ys[i]? = some y ∧ RelV y u2 := by
      have hi : i < ys.length := by omega
      obtain ⟨u, e1, e2⟩ := rv2.get (List.getElem?_eq_getElem hi)
      have e3 : its2[i]? = some u2 := by simpa using hy
      rw [e1] at e3
      cases e3
      exact ⟨_, List.getElem?_eq_getElem hi, e2⟩
    have lt : ∀ c ∈ [z, TI, TO, i1, i2], c < s.heap.objs.size := fun c hc => by
      obtain ⟨hz, hTI, ⟨x, y, hTO⟩, ⟨o1, e1, _, _⟩, ⟨o2, e2, _, _⟩⟩ := st
      rcases (show c = z ∨ c = TI ∨ c = TO ∨ c = i1 ∨ c = i2 by simpa using hc) with q | q | q | q | q <;> subst q
      · exact Heap.lt_size hz
      · exact Heap.lt_size hTI
      · exact Heap.lt_size hTO
      · exact Heap.lt_size e1
      · exact Heap.lt_size e2
    have hk2 : ∀ c o, c ∉ [z, TI, TO, i1, i2] → s.heap.get? c = some o → h2.get? c = some o := fun c o hc e => hk c o (fun m => hc (sub4 m)) e
    have I1 : Inv X pins σ (upd H T (.tup [x, y])) { s with heap := h2, toks := tk } :=
      I.turnedNew (ch := [z, TI, TO, i1, i2]) hk2 hf hT ⟨by show 2 ≤ sizeLine; decide, [u1, u2], .cons rx (.cons ry .nil), by
        obtain ⟨o, h1, h2, n, h3⟩ := tT
        exact ⟨o, h1, h2, n, h3⟩⟩
    refine ⟨.ref T, _, I1, rfl, ⟨T, x, y, rfl, I.hok.fresh hT, rfl, ex, ey⟩, ⟨st2.1, st2.2.1, st2.2.2.1, st2.2.2.2.1.1, st2.2.2.2.2.1⟩, fun c hc => ?_⟩
    rw [upd_ne (Nat.ne_of_lt (Nat.lt_of_lt_of_le (lt c hc) hT))]
    exact (hf c hc).1
  done := by
    intro X hP hw hK hc i pins s σ H E I hf st hg
    subst hP hw hK
    obtain ⟨hqx, hqy, rfl⟩ := hg
    obtain ⟨its, rv, p, _⟩ := I.tuple hqx
    obtain ⟨its2, rv2, p2, _⟩ := I.list hqy
    have l1 : its.toArray.size = xs.length := by rw [List.size_toArray, ← rv.length]
    have l2 : its2.toArray.size = ys.length := by rw [List.size_toArray, ← rv2.length]
    have G := GoesN.zip2 (prog := X.prog) (w := X.w) (A := X.A) (elts := elts) (x1 := kk) (pos := tpos) S (Draws.tuple (prog := X.prog) (w := X.w) (A := X.A.in1) (I.ok.hd hc) i1 a (Ne.symm n1) its.toArray) (Draws.list (prog := X.prog) (w := X.w) (A := X.A.in1) (I.ok.hd hc) i2 b (Ne.symm n2) its2.toArray)
    refine G.stops s (fun s1 => Inv X pins σ H s1) E ?_ fun h1 tk hk htk => ?_
    · rw [l1, l2]
      exact ⟨st.1, st.2.1, st.2.2.1, ⟨st.2.2.2.1, p⟩, ⟨st.2.2.2.2, p2.isList⟩⟩
    · exact I.turnedL (t' := tk) (ch := [z, TI, TO, i1, i2]) (fun c o hc e => hk c o (fun m => hc (sub4 m)) e) hf
  self := fun A i s Q E st h => wpAny_pyIter_zip st.1 h
def iZipM (K : PySem.W.Frag) (ta : TA) : TI := fun σ H R => ta σ H fun vs H1 => ∃ a b xs ys, vs = [.ref a, .ref b] ∧ SqT K H1 a xs ∧ SqL K H1 b ys ∧ R (ItM K a b xs ys) H1
theorem pi_zipM {X : Cx} {e e2 : Expr} {ta : TA} {p pos tpos : Pos} {elts : List Expr} {kk : Nat} (hg : Gl X "zip") (hm : X.mg "zip" = none) (ha : PA X [e, e2] ta)
    (hs : starEach [e, e2] X.env = (false, eval e X.env) :: starEach [e2] X.env := by rfl) (hpl : (backTo pos (starEach [e2] X.env)).any (·.1) = false := by rfl) :
    PI X (.Tuple elts kk tpos) (.Call (.Name "zip" p) [e, e2] [] pos) (iZipM X.K ta) := by
  refine ⟨fun pins s σ H R I h => ?_⟩
  refine Call_ (ld_blt I hg hm PyProof.Rows.boot_zip (PyProof.Rows.callWith_type1 (thn (ha.run pos pins s σ H _ I h) fun us s1 ⟨vs, H1, I1, r1, q1⟩ => ?_) hs hpl))
  obtain ⟨a, b, xs, ys, rfl, hqx, hqy, q⟩ := q1
  obtain ⟨u1, u2, rfl, ru1, ru2⟩ := vals2 r1
  obtain rfl : u1 = Value.ref a := ru1
  obtain rfl : u2 = Value.ref b := ru2
  obtain ⟨its, rv, p1, _⟩ := I1.tuple hqx
  obtain ⟨its2, rv2, p2, _⟩ := I1.list hqy
  have la : a < s1.heap.objs.size := let ⟨o, ho, _⟩ := p1; Heap.lt_size ho
  have lb : b < s1.heap.objs.size := p2.lt
  refine zip_begins2 (begins_tuple a its.toArray) (begins_list b its2.toArray) p1 p2.isList fun h1 hz hTI hTO g1 g2 _ hk => wpAny_pyIter_zip hz ?_
  have I2 : Inv X pins σ H1 { s1 with heap := h1 } := I1.kept (t' := s1.toks) hk
  refine ⟨s1.heap.objs.size + 4, [s1.heap.objs.size + 4, s1.heap.objs.size + 2, s1.heap.objs.size + 3, s1.heap.objs.size, s1.heap.objs.size + 1], _, _, H1, rfl, I2,
    turn_zipM (xs := xs) (ys := ys) (zip_sep2 (N := s1.heap.objs.size) (fp1 := [a]) (fp2 := [b]) (fun c hc => by rw [List.mem_singleton.mp hc]; exact la) fun c hc => by rw [List.mem_singleton.mp hc]; exact lb) (Nat.ne_of_gt la) (Nat.ne_of_gt (Nat.lt_succ_of_lt lb)),
    ⟨hz, hTI, ⟨_, _, hTO⟩, ⟨_, g1, rfl, rfl⟩, ⟨_, g2, rfl, rfl⟩⟩, fun c hc => ?_, q⟩
  have hle : s1.heap.objs.size ≤ c := by
    rcases (show c = s1.heap.objs.size + 4 ∨ c = s1.heap.objs.size + 2 ∨ c = s1.heap.objs.size + 3 ∨ c = s1.heap.objs.size ∨ c = s1.heap.objs.size + 1 by simpa using hc) with z | z | z | z | z <;> rw [z]
    · exact Nat.le_add_right _ _
    · exact Nat.le_add_right _ _
    · exact Nat.le_add_right _ _
    · exact Nat.le_refl _
    · exact Nat.le_add_right _ _
  exact I1.fpOk hle (I1.hok.fresh hle)
end Cs
namespace Cs
open PySem PySem.Spec L2
/-! ## data that stays -/
theorem same_upd {H : Hp} {p : Addr} {o : HO} (h : H p = none) : Same H (upd H p o) := fun b x e => by
  rw [upd_ne (ne_of_none e h)]
  exact e
theorem Same.tup {K : PySem.W.Frag} {H H1 : Hp} {a : Addr} {xs : List V} (s : Same H H1) (h : SqT K H a xs) : SqT K H1 a xs := by
  rcases h with (h | ⟨o, h⟩) | h
  · exact .inl (.inl (s _ _ h))
  · exact .inl (.inr ⟨o, s _ _ h⟩)
  · exact .inr h
mutual
theorem Dp.same {K : PySem.W.Frag} {H H1 : Hp} (s : Same H H1) : ∀ {v : V} {d : PyData}, Dp K H v d → Dp K H1 v d
  | _, _, .non => .non
  | _, _, .bl b => .bl b
  | _, _, .int i => .int i
  | _, _, .str x => .str x
  | _, _, .lst h t => .lst (s.seq h) (DpAll.same s t)
  | _, _, .tup h t => .tup (Same.tup s h) (DpAll.same s t)
theorem DpAll.same {K : PySem.W.Frag} {H H1 : Hp} (s : Same H H1) : ∀ {vs : List V} {ds : List PyData}, DpAll K H vs ds → DpAll K H1 vs ds
  | _, _, .nil => .nil
  | _, _, .cons h t => .cons (Dp.same s h) (DpAll.same s t)
end
/-! ### what never changes: tuples, numbers, texts -/
/-- what stands for ever -/
def Imm : HO → Prop
  | .tup _ => True
  | .frz _ _ => True
  | _ => False
def SameI (H H1 : Hp) : Prop := ∀ b o, Imm o → H b = some o → H1 b = some o
theorem SameI.refl (H : Hp) : SameI H H := fun _ _ _ h => h
theorem SameI.trans {H H1 H2 : Hp} (a : SameI H H1) (b : SameI H1 H2) : SameI H H2 := fun c o i h => b c o i (a c o i h)
theorem sameI_of {H H1 : Hp} (s : Same H H1) : SameI H H1 := fun b o _ h => s b o h
theorem sameI_upd {H : Hp} {p : Addr} {o u : HO} (h : H p = some u) (n : ¬ Imm u) : SameI H (upd H p o) := fun b x i e => by
  rw [upd_ne fun z => ?_]
  · exact e
  · rw [z, h] at e
    cases e
    exact n i
theorem SameI.tup {K : PySem.W.Frag} {H H1 : Hp} {a : Addr} {xs : List V} (s : SameI H H1) (h : SqT K H a xs) : SqT K H1 a xs := by
  rcases h with (h | ⟨o, h⟩) | h
  · exact .inl (.inl (s _ _ True.intro h))
  · exact .inl (.inr ⟨o, s _ _ True.intro h⟩)
  · exact .inr h
theorem SameI.pl {H H1 : Hp} {a : Addr} {xs : List V} (s : SameI H H1) (h : PlT H a xs) : PlT H1 a xs := let ⟨o, e, d⟩ := h; ⟨o, s _ _ True.intro e, d⟩
mutual
/-- data of tuples -/
inductive Im (K : PySem.W.Frag) (H : Hp) : V → PyData → Prop
  | non : Im K H .non .none
  | bl (b : Bool) : Im K H (.bl b) (.bool b)
  | int (i : Int) : Im K H (.int i) (.int i)
  | str (x : Str) : Im K H (.str x) (.str x)
  | tup {a : Addr} {xs : List V} {ds : List PyData} : SqT K H a xs → ImAll K H xs ds → Im K H (.ref a) (.tuple ds)
inductive ImAll (K : PySem.W.Frag) (H : Hp) : List V → List PyData → Prop
  | nil : ImAll K H [] []
  | cons {v : V} {vs : List V} {d : PyData} {ds : List PyData} : Im K H v d → ImAll K H vs ds → ImAll K H (v :: vs) (d :: ds)
end
mutual
theorem Im.same {K : PySem.W.Frag} {H H1 : Hp} (s : SameI H H1) : ∀ {v : V} {d : PyData}, Im K H v d → Im K H1 v d
  | _, _, .non => .non
  | _, _, .bl b => .bl b
  | _, _, .int i => .int i
  | _, _, .str x => .str x
  | _, _, .tup h t => .tup (s.tup h) (ImAll.same s t)
theorem ImAll.same {K : PySem.W.Frag} {H H1 : Hp} (s : SameI H H1) : ∀ {vs : List V} {ds : List PyData}, ImAll K H vs ds → ImAll K H1 vs ds
  | _, _, .nil => .nil
  | _, _, .cons h t => .cons (Im.same s h) (ImAll.same s t)
end
mutual
theorem Im.dp {K : PySem.W.Frag} {H : Hp} : ∀ {v : V} {d : PyData}, Im K H v d → Dp K H v d
  | _, _, .non => .non
  | _, _, .bl b => .bl b
  | _, _, .int i => .int i
  | _, _, .str x => .str x
  | _, _, .tup h t => .tup h (ImAll.dp t)
theorem ImAll.dp {K : PySem.W.Frag} {H : Hp} : ∀ {vs : List V} {ds : List PyData}, ImAll K H vs ds → DpAll K H vs ds
  | _, _, .nil => .nil
  | _, _, .cons h t => .cons (Im.dp h) (ImAll.dp t)
end
theorem im_tup {K : PySem.W.Frag} {H : Hp} {v : V} {ds : List PyData} (h : Im K H v (.tuple ds)) : ∃ a xs, v = .ref a ∧ SqT K H a xs ∧ ImAll K H xs ds := by
  cases h with
  | tup h t => exact ⟨_, _, rfl, h, t⟩
theorem im_str {K : PySem.W.Frag} {H : Hp} {v : V} {x : Str} (h : Im K H v (.str x)) : v = .str x := by cases h; rfl
theorem im_int {K : PySem.W.Frag} {H : Hp} {v : V} {x : Int} (h : Im K H v (.int x)) : v = .int x := by cases h; rfl
theorem all0 {K : PySem.W.Frag} {H : Hp} {xs : List V} (h : ImAll K H xs []) : xs = [] := by cases h; rfl
theorem all_cons {K : PySem.W.Frag} {H : Hp} {xs : List V} {d : PyData} {ds : List PyData} (h : ImAll K H xs (d :: ds)) : ∃ v vs, xs = v :: vs ∧ Im K H v d ∧ ImAll K H vs ds := by
  cases h with
  | cons h t => exact ⟨_, _, rfl, h, t⟩
theorem ImAll.append {K : PySem.W.Frag} {H : Hp} : ∀ {xs ys : List V} {ds es : List PyData}, ImAll K H xs ds → ImAll K H ys es → ImAll K H (xs ++ ys) (ds ++ es)
  | _, _, _, _, .nil, h => h
  | _, _, _, _, .cons h t, q => .cons h (ImAll.append t q)
theorem ImAll.length {K : PySem.W.Frag} {H : Hp} : ∀ {xs : List V} {ds : List PyData}, ImAll K H xs ds → xs.length = ds.length
  | _, _, .nil => rfl
  | _, _, .cons _ t => congrArg Nat.succ (ImAll.length t)
theorem ImAll.get {K : PySem.W.Frag} {H : Hp} : ∀ {xs : List V} {ds : List PyData} {i : Nat} {x : V}, ImAll K H xs ds → xs[i]? = some x → ∃ d, ds[i]? = some d ∧ Im K H x d
  | _, _, 0, _, .cons h _, e => by cases e; exact ⟨_, rfl, h⟩
  | _, _, i + 1, _, .cons _ t, e => ImAll.get (i := i) t e
  | _, _, _, _, .nil, e => by simp at e
theorem ImAll.of {K : PySem.W.Frag} {H : Hp} : ∀ {xs : List V} {ds : List PyData}, xs.length = ds.length → (∀ (i : Nat) x d, xs[i]? = some x → ds[i]? = some d → Im K H x d) → ImAll K H xs ds
  | [], [], _, _ => .nil
  | [], _ :: _, e, _ => nomatch e
  | _ :: _, [], e, _ => nomatch e
  | x :: xs, d :: ds, e, h => .cons (h 0 x d rfl rfl) (ImAll.of (Nat.succ.inj e) fun i x d e1 e2 => h (i + 1) x d e1 e2)
theorem itd {p A B : Prop} [Decidable p] (h : p) (a : A) : if decide p = true then A else B := by rw [if_pos (decide_eq_true h)]; exact a
theorem itn {p A B : Prop} [Decidable p] (h : ¬ p) (b : B) : if decide p = true then A else B := by rw [if_neg (by rw [decide_eq_false h]; exact Bool.false_ne_true)]; exact b
theorem itnd {p A B : Prop} [Decidable p] (h : p) (b : B) : if (!decide p) = true then A else B := by rw [decide_eq_true h]; exact iteF b
theorem itnn {p A B : Prop} [Decidable p] (h : ¬ p) (a : A) : if (!decide p) = true then A else B := by rw [decide_eq_false h]; exact iteT a
theorem small {n : Nat} (h : n ≤ 1000000) : n ≤ sizeLine := by rw [sizeLine_eq]; omega
theorem smaller {n : Nat} (h : n ≤ 1000000) : n < sizeLine := by rw [sizeLine_eq]; omega
/-- [te for target in ..]: each element's value told by E, which stands as long as what never changes -/
theorem lc_data {J : It} {n : Nat} {G : Hp → Prop} {Y : Nat → Hp → V → Hp → Prop} (w : Walk J n G Y) {g : TG} {te : TE} {vs : List Nat} {σ : L2.St} {H1 : Hp} {D : Addr} {Qd : Hp → Prop} (E : Nat → V → Hp → Prop)
    (hst : ∀ i v H H2, SameI H H2 → E i v H → E i v H2) (hD : H1 D = none) (hG : ∀ H, Same H1 H → G H) (hn : n ≤ 1000000)
    (hs : ∀ i x H H2 (k : V → Hp → Prop), i < n → Same H1 H → Y i H x H2 → (∀ y H4, Same H H4 → E i y H4 → k y H4) → g x (wipe σ vs) H2 fun σ2 H3 => wipe σ2 vs = wipe σ vs ∧ te σ2 H3 k)
    (hd : ∀ H acc, Same H1 H → H D = some (.lst acc) → acc.length = n → (∀ (i : Nat) y, acc[i]? = some y → E i y H) → Qd H) :
    ∃ W : Nat → Nat → Hp → Prop, (∃ m, W 0 m (upd H1 D (.lst []))) ∧ ∀ i m H, W i m H →
      (J.stop i H ∧ Qd H) ∨ (J.go i H ∧ ∃ Nx : Hp → Prop, (∀ H', Nx H' → ∃ m', m' < m ∧ W (i + 1) m' H') ∧ ∀ x H', J.yld i H x H' → g x (wipe σ vs) H' fun σ2 H2 => wipe σ2 vs = wipe σ vs ∧ tYes σ2 H2 fun b H3 =>
        if b = true then te σ2 H3 fun y H4 => ∃ acc, H4 D = some (.lst acc) ∧ acc.length < sizeLine ∧ Nx (upd H4 D (.lst (acc ++ [y]))) else Nx H3) := by
  refine ⟨fun i m H => m = n - i ∧ i ≤ n ∧ Same H1 H ∧ ∃ acc, H D = some (.lst acc) ∧ acc.length = i ∧ ∀ (j : Nat) y, acc[j]? = some y → E j y H, ⟨n, by simp, Nat.zero_le _, same_upd hD, [], upd_same, rfl, fun j y e => by simp at e⟩, ?_⟩
  rintro i m H ⟨rfl, hi, s1, acc, e1, hl, hE⟩
  by_cases hlt : i < n
  · refine .inr ⟨w.goes i H hlt (hG H s1), fun H' => Same H1 H' ∧ ∃ acc, H' D = some (.lst acc) ∧ acc.length = i + 1 ∧ ∀ (j : Nat) y, acc[j]? = some y → E j y H', fun H' p => ⟨n - (i + 1), by omega, rfl, hlt, p⟩, fun x H' y => ?_⟩
    have z := hs i x H H' (fun y H4 => ∃ acc, H4 D = some (.lst acc) ∧ acc.length < sizeLine ∧ (Same H1 (upd H4 D (.lst (acc ++ [y]))) ∧ ∃ a2, (upd H4 D (.lst (acc ++ [y]))) D = some (.lst a2) ∧ a2.length = i + 1 ∧ ∀ (j : Nat) z, a2[j]? = some z → E j z (upd H4 D (.lst (acc ++ [y])))))
      hlt s1 (w.yields i H x H' hlt (hG H s1) y) (fun y H4 s4 hy => ?_)
    · exact z
    · have e4 : H4 D = some (.lst acc) := s4 _ _ e1
      have si : SameI H4 (upd H4 D (.lst (acc ++ [y]))) := sameI_upd e4 id
      refine ⟨acc, e4, smaller (by omega), fun b o e => ?_, acc ++ [y], upd_same, by rw [List.length_append, hl]; rfl, fun j z hz => ?_⟩
      · rw [upd_ne (ne_of_none e hD)]
        exact s4 _ _ (s1 _ _ e)
      · rcases Nat.lt_or_ge j acc.length with hj | hj
        · rw [List.getElem?_append_left hj] at hz
          exact hst _ _ _ _ si (hst _ _ _ _ (sameI_of s4) (hE j z hz))
        · rw [List.getElem?_append_right hj] at hz
          have e0 : j - acc.length = 0 := by
            rcases Nat.eq_zero_or_pos (j - acc.length) with h | h
            · exact h
            · rw [List.getElem?_eq_none (by show 1 ≤ _; exact h)] at hz
              cases hz
          rw [e0] at hz
          cases hz
          have ej : j = i := by omega
          rw [ej]
          exact hst _ _ _ _ si hy
  · have e : i = n := by omega
    subst e
    exact .inl ⟨w.stops H (hG H s1), hd H acc s1 e1 hl hE⟩
theorem tyx_tup {K : PySem.W.Frag} {H : Hp} {a : Addr} {xs : List V} (h : SqT K H a xs) : TyX K H (.ref a) (.type "tuple") := by
  rcases h with (h | ⟨o, h⟩) | ⟨o, its, n, h, c, _⟩
  · exact .base (.tup h)
  · exact .fTuple h
  · exact .kTuple h c
theorem tyx_lst {K : PySem.W.Frag} {H : Hp} {a : Addr} {xs : List V} (h : SqL K H a xs) : TyX K H (.ref a) (.type "list") := by
  rcases h with (h | ⟨o, h⟩) | ⟨o, its, n, h, c, _⟩
  · exact .base (.lst h)
  · exact .base (.frz h)
  · exact .kList h c
theorem kv {K : PySem.W.Frag} {a b : String} {r : Bool} (h : kitB a b = some r) : PySem.W.kitOne K (.type a) (.type b) = some r := kit_ty h
abbrev rLen (K : PySem.W.Frag) : List V → Hp → VK → Prop := fun xs H Q => ∃ x n, xs = [x] ∧ LenV K x H n ∧ Q (.int (n : Nat)) H
theorem pi_or {X : Cx} {tg e : Expr} {w1 w2 : TI} (h1 : PI X tg e w1) (h2 : PI X tg e w2) : PI X tg e (fun σ H R => w1 σ H R ∨ w2 σ H R) :=
  ⟨fun pins s σ H R I h => h.elim (h1.run pins s σ H R I) (h2.run pins s σ H R I)⟩
abbrev iZipX (K : PySem.W.Frag) (ta : TA) : TI := fun σ H R => RZ.iZipA K ta σ H R ∨ iZipM K ta σ H R
/-! ## programs as data -/
inductive Kd where
  | num | lst
  deriving DecidableEq
def Kd.s : Kd → Str
  | .num => "number"
  | .lst => "list"
abbrev Kd.v (k : Kd) : V := .str k.s
inductive Ms where
  | zero | of (x : Str) | len (x : Str)
inductive Dd where
  | num (n : Int) | sum (x : Str) (n : Int) | len (l : Str) | nil | put (x l : Str) | head (l : Str) | tail (l : Str) | at_ (l x : Str) | ask | call (f : Nat) (xs : List Str)
inductive Tr where
  | let_ (x : Str) (d : Dd) (t : Tr) | if_ (a b : Ms) (n : Int) (t u : Tr) | claim (a b : Ms) (n : Int) (t : Tr) | tell (x : Str)
def Ms.d : Ms → PyData
  | .zero => .tuple []
  | .of x => .tuple [.str "of", .str x]
  | .len x => .tuple [.str "len", .str x]
def Dd.d : Dd → PyData
  | .num n => .tuple [.str "num", .int n]
  | .sum x n => .tuple [.str "sum", .str x, .int n]
  | .len l => .tuple [.str "len", .str l]
  | .nil => .tuple [.str "nil"]
  | .put x l => .tuple [.str "put", .str x, .str l]
  | .head l => .tuple [.str "head", .str l]
  | .tail l => .tuple [.str "tail", .str l]
  | .at_ l x => .tuple [.str "at", .str l, .str x]
  | .ask => .tuple [.str "ask"]
  | .call f xs => .tuple [.str "call", .int f, .tuple (xs.map .str)]
def Tr.d : Tr → PyData
  | .let_ x d t => .tuple [.str "let", .str x, d.d, t.d]
  | .if_ a b n t u => .tuple [.str "if", a.d, b.d, .int n, t.d, u.d]
  | .claim a b n t => .tuple [.str "claim", a.d, b.d, .int n, t.d]
  | .tell x => .tuple [.str "tell", .str x]
abbrev Nm := List (Str × Kd)
structure Fn where
  ps : Nm
  kd : Kd
  tr : Tr
/-- a pair (name, kind) -/
def PrAt (K : PySem.W.Frag) (H : Hp) (a : Addr) (p : Str × Kd) : Prop := SqT K H a [.str p.1, p.2.v]
def FnAt (K : PySem.W.Frag) (H : Hp) (v : V) (f : Fn) : Prop := ∃ a p tv qs, v = .ref a ∧ SqT K H a [.ref p, f.kd.v, tv] ∧ PlT H p (qs.map V.ref) ∧ Paired (PrAt K H) qs f.ps ∧ Im K H tv f.tr.d
def PgAt (K : PySem.W.Frag) (H : Hp) (v : V) (fs : List Fn) : Prop := ∃ a vs, v = .ref a ∧ SqT K H a vs ∧ Paired (FnAt K H) vs fs
theorem PrAt.same {K : PySem.W.Frag} {H H1 : Hp} (s : SameI H H1) {a : Addr} {p : Str × Kd} (h : PrAt K H a p) : PrAt K H1 a p := s.tup h
theorem FnAt.same {K : PySem.W.Frag} {H H1 : Hp} (s : SameI H H1) {v : V} {f : Fn} : FnAt K H v f → FnAt K H1 v f
  | ⟨a, p, tv, qs, e, h1, h2, h3, h4⟩ => ⟨a, p, tv, qs, e, s.tup h1, s.pl h2, Paired.mapP h3 fun _ _ q => q.same s, Im.same s h4⟩
theorem PgAt.same {K : PySem.W.Frag} {H H1 : Hp} (s : SameI H H1) {v : V} {fs : List Fn} : PgAt K H v fs → PgAt K H1 v fs
  | ⟨a, vs, e, h1, h2⟩ => ⟨a, vs, e, s.tup h1, Paired.mapP h2 fun _ _ q => q.same s⟩
theorem paired_get {α β : Type} {R : α → β → Prop} : ∀ {l : List α} {m : List β} {i : Nat} {x : α}, Paired R l m → l[i]? = some x → ∃ y, m[i]? = some y ∧ R x y
  | _, _, 0, _, .cons h _, e => by cases e; exact ⟨_, rfl, h⟩
  | _, _, i + 1, _, .cons _ t, e => paired_get (i := i) t e
  | _, _, _, _, .nil, e => by simp at e
theorem paired_get' {α β : Type} {R : α → β → Prop} : ∀ {l : List α} {m : List β} {i : Nat} {y : β}, Paired R l m → m[i]? = some y → ∃ x, l[i]? = some x ∧ R x y
  | _, _, 0, _, .cons h _, e => by cases e; exact ⟨_, rfl, h⟩
  | _, _, i + 1, _, .cons _ t, e => paired_get' (i := i) t e
  | _, _, _, _, .nil, e => by simp at e
/-! ## what can be a program -/
def look (ns : Nm) (x : Str) : Option Kd := (ns.find? fun p => decide (p.1 = x)).map (·.2)
def near (n : Int) : Prop := -99 ≤ n ∧ n ≤ 99
instance (n : Int) : Decidable (near n) := by unfold near; infer_instance
/-- the signs of a name -/
def sign (c : Nat) : Prop := 97 ≤ c ∧ c ≤ 122
def okName (x : Str) : Prop := 1 ≤ x.length ∧ x.length ≤ 8 ∧ ∀ c ∈ x.cps.toList, sign c
def Ms.ok (ns : Nm) : Ms → Prop
  | .zero => True
  | .of x => look ns x = some .num
  | .len x => look ns x = some .lst
abbrev Hd := List (List Kd × Kd)
/-- a deed that can be, with the kind that it tells -/
def Dd.ok (hs : Hd) (ns : Nm) : Dd → Kd → Prop
  | .num n, k => near n ∧ k = .num
  | .sum x n, k => look ns x = some .num ∧ near n ∧ k = .num
  | .len l, k => look ns l = some .lst ∧ k = .num
  | .nil, k => k = .lst
  | .put x l, k => look ns x = some .num ∧ look ns l = some .lst ∧ k = .lst
  | .head l, k => look ns l = some .lst ∧ k = .num
  | .tail l, k => look ns l = some .lst ∧ k = .lst
  | .at_ l x, k => look ns l = some .lst ∧ look ns x = some .num ∧ k = .num
  | .ask, k => k = .num
  | .call f xs, k => 1 ≤ f ∧ ∃ h, hs[f]? = some h ∧ Paired (fun x kd => look ns x = some kd) xs h.1 ∧ k = h.2
def Tr.ok (hs : Hd) (k : Kd) : Nm → Tr → Prop
  | ns, .let_ x d t => okName x ∧ look ns x = none ∧ ∃ kd, d.ok hs ns kd ∧ Tr.ok hs k (ns ++ [(x, kd)]) t
  | ns, .if_ a b n t u => a.ok ns ∧ b.ok ns ∧ near n ∧ Tr.ok hs k ns t ∧ Tr.ok hs k ns u
  | ns, .claim a b n t => a.ok ns ∧ b.ok ns ∧ near n ∧ Tr.ok hs k ns t
  | ns, .tell x => look ns x = some k
def Tr.size : Tr → Nat
  | .let_ _ _ t => t.size + 1
  | .if_ _ _ _ t u => t.size + u.size + 1
  | .claim _ _ _ t => t.size + 1
  | .tell _ => 1
def Tr.deep : Tr → Nat
  | .let_ _ _ t => t.deep + 1
  | .if_ _ _ _ t u => max t.deep u.deep + 1
  | .claim _ _ _ t => t.deep + 1
  | .tell _ => 1
def Fn.hd (f : Fn) : List Kd × Kd := (f.ps.map (·.2), f.kd)
def Fn.ok (hs : Hd) (f : Fn) : Prop := f.ps.length ≤ 4 ∧ (∀ p ∈ f.ps, okName p.1) ∧ (f.ps.map (·.1)).Nodup ∧ f.tr.ok hs f.kd f.ps ∧ f.tr.size ≤ 60 ∧ f.tr.deep ≤ 20
def okPg (fs : List Fn) : Prop := 1 ≤ fs.length ∧ fs.length ≤ 6 ∧ ∀ f ∈ fs, f.ok (fs.map Fn.hd)
/-- the dict of names -/
abbrev nmK (ns : Nm) : List (Key × V) := ns.map fun p => (.inr p.1, p.2.v)
theorem nmK_val (ns : Nm) (x : Str) : valV (nmK ns) (.inr x) = (look ns x).map Kd.v := by
  induction ns with
  | nil => rfl
  | cons p r ih =>
    by_cases e : p.1 = x
    · have e2 : (Sum.inr p.1 : Key) = Sum.inr x := by rw [e]
      show valV ((.inr p.1, p.2.v) :: nmK r) (.inr x) = _
      rw [valV_pos e2]
      unfold look
      rw [List.find?_cons, decide_eq_true e]
      rfl
    · have e2 : ¬ (Sum.inr p.1 : Key) = Sum.inr x := fun z => e (Sum.inr.inj z)
      show valV ((.inr p.1, p.2.v) :: nmK r) (.inr x) = _
      rw [valV_neg e2, ih]
      unfold look
      rw [List.find?_cons, decide_eq_false e]
theorem Kd.v_inj {a b : Kd} (h : a.s = b.s) : a = b := by
  cases a <;> cases b <;> first | rfl | (exfalso; revert h; decide +kernel)
theorem putK_new {kvs : List (Key × V)} {k : Key} {v : V} (h : valV kvs k = none) : putK kvs k v = kvs ++ [(k, v)] := by
  unfold putK
  have e := valV_any k kvs
  rw [h] at e
  rw [if_neg (by rw [e]; decide)]
theorem nmK_put {ns : Nm} {x : Str} {kd : Kd} (h : look ns x = none) : putK (nmK ns) (.inr x) kd.v = nmK (ns ++ [(x, kd)]) := by
  rw [putK_new (by rw [nmK_val, h]; rfl)]
  unfold nmK
  rw [List.map_append]
  rfl
end Cs
namespace Cs
open PySem PySem.Spec L2
def topS (i : Nat) : Stmt := PySem.Challenge.pw_claimsieve_k03_lattices.main.body.getD i (.Pass ⟨0, 0, 0, 0⟩)
abbrev s_w_start : Stmt := topS 46
abbrev N_w_start : List Str := ["_law_script", "_law_mixed", "_law_cell"]
abbrev P_w_start : List Str := ["_law_script"]
theorem sc_w_start : FnScope N_w_start P_w_start (defScope s_w_start) := ⟨rfl, rfl, rfl, by decide +kernel, rfl, by decide +kernel, by decide +kernel⟩
abbrev s_w_same : Stmt := topS 48
abbrev N_w_same : List Str := ["_law_found", "_law_due", "_law_alike", "_law_k"]
abbrev P_w_same : List Str := ["_law_found", "_law_due"]
theorem sc_w_same : FnScope N_w_same P_w_same (defScope s_w_same) := ⟨rfl, rfl, rfl, by decide +kernel, rfl, by decide +kernel, by decide +kernel⟩
abbrev s_w_drawn : Stmt := topS 47
abbrev N_w_drawn : List Str := ["_law_state", "_law_many", "_law_found", "_law_cell"]
abbrev P_w_drawn : List Str := ["_law_state", "_law_many"]
theorem sc_w_drawn : FnScope N_w_drawn P_w_drawn (defScope s_w_drawn) := ⟨rfl, rfl, rfl, by decide +kernel, rfl, by decide +kernel, by decide +kernel⟩
abbrev s_w_kinds : Stmt := topS 51
abbrev N_w_kinds : List Str := ["_law_program", "_law_number", "_law_side", "_law_found", "_law_name", "_law_kind"]
abbrev P_w_kinds : List Str := ["_law_program", "_law_number", "_law_side"]
theorem sc_w_kinds : FnScope N_w_kinds P_w_kinds (defScope s_w_kinds) := ⟨rfl, rfl, rfl, by decide +kernel, rfl, by decide +kernel, by decide +kernel⟩
abbrev s_has_word : Stmt := topS 19
abbrev N_has_word : List Str := ["row"]
abbrev P_has_word : List Str := ["row"]
theorem sc_has_word : FnScope N_has_word P_has_word (defScope s_has_word) := ⟨rfl, rfl, rfl, by decide +kernel, rfl, by decide +kernel, by decide +kernel⟩
abbrev s_is_row : Stmt := topS 18
abbrev N_is_row : List Str := ["row", "many"]
abbrev P_is_row : List Str := ["row", "many"]
theorem sc_is_row : FnScope N_is_row P_is_row (defScope s_is_row) := ⟨rfl, rfl, rfl, by decide +kernel, rfl, by decide +kernel, by decide +kernel⟩
abbrev s_is_whole : Stmt := topS 16
abbrev N_is_whole : List Str := ["n"]
abbrev P_is_whole : List Str := ["n"]
theorem sc_is_whole : FnScope N_is_whole P_is_whole (defScope s_is_whole) := ⟨rfl, rfl, rfl, by decide +kernel, rfl, by decide +kernel, by decide +kernel⟩
abbrev s_is_between : Stmt := topS 17
abbrev N_is_between : List Str := ["n", "low", "high"]
abbrev P_is_between : List Str := ["n", "low", "high"]
theorem sc_is_between : FnScope N_is_between P_is_between (defScope s_is_between) := ⟨rfl, rfl, rfl, by decide +kernel, rfl, by decide +kernel, by decide +kernel⟩
abbrev s_is_near : Stmt := topS 29
abbrev N_is_near : List Str := ["n"]
abbrev P_is_near : List Str := ["n"]
theorem sc_is_near : FnScope N_is_near P_is_near (defScope s_is_near) := ⟨rfl, rfl, rfl, by decide +kernel, rfl, by decide +kernel, by decide +kernel⟩
abbrev s_stands : Stmt := topS 31
abbrev N_stands : List Str := ["name", "kind", "names"]
abbrev P_stands : List Str := ["name", "kind", "names"]
theorem sc_stands : FnScope N_stands P_stands (defScope s_stands) := ⟨rfl, rfl, rfl, by decide +kernel, rfl, by decide +kernel, by decide +kernel⟩
abbrev s_all_fit : Stmt := topS 35
abbrev N_all_fit : List Str := ["parts", "wants", "names", "part", "want"]
abbrev P_all_fit : List Str := ["parts", "wants", "names"]
theorem sc_all_fit : FnScope N_all_fit P_all_fit (defScope s_all_fit) := ⟨rfl, rfl, rfl, by decide +kernel, rfl, by decide +kernel, by decide +kernel⟩
abbrev s_kinds_ahead : Stmt := topS 34
abbrev N_kinds_ahead : List Str := ["function", "_", "kind"]
abbrev P_kinds_ahead : List Str := ["function"]
theorem sc_kinds_ahead : FnScope N_kinds_ahead P_kinds_ahead (defScope s_kinds_ahead) := ⟨rfl, rfl, rfl, by decide +kernel, rfl, by decide +kernel, by decide +kernel⟩
abbrev s_call_kind : Stmt := topS 33
abbrev N_call_kind : List Str := ["program", "deed", "names", "called"]
abbrev P_call_kind : List Str := ["program", "deed", "names"]
theorem sc_call_kind : FnScope N_call_kind P_call_kind (defScope s_call_kind) := ⟨rfl, rfl, rfl, by decide +kernel, rfl, by decide +kernel, by decide +kernel⟩
abbrev s_deed_kind : Stmt := topS 32
abbrev N_deed_kind : List Str := ["program", "deed", "names", "wants", "kind"]
abbrev P_deed_kind : List Str := ["program", "deed", "names"]
theorem sc_deed_kind : FnScope N_deed_kind P_deed_kind (defScope s_deed_kind) := ⟨rfl, rfl, rfl, by decide +kernel, rfl, by decide +kernel, by decide +kernel⟩
abbrev s_is_name : Stmt := topS 20
abbrev N_is_name : List Str := ["word", "sign"]
abbrev P_is_name : List Str := ["word"]
theorem sc_is_name : FnScope N_is_name P_is_name (defScope s_is_name) := ⟨rfl, rfl, rfl, by decide +kernel, rfl, by decide +kernel, by decide +kernel⟩
abbrev s_within_let : Stmt := topS 27
abbrev N_within_let : List Str := ["program", "tree", "names", "name", "deed", "inner", "kind"]
abbrev P_within_let : List Str := ["program", "tree", "names"]
theorem sc_within_let : FnScope N_within_let P_within_let (defScope s_within_let) := ⟨rfl, rfl, rfl, by decide +kernel, rfl, by decide +kernel, by decide +kernel⟩
abbrev s_is_measure : Stmt := topS 30
abbrev N_is_measure : List Str := ["measure", "names"]
abbrev P_is_measure : List Str := ["measure", "names"]
theorem sc_is_measure : FnScope N_is_measure P_is_measure (defScope s_is_measure) := ⟨rfl, rfl, rfl, by decide +kernel, rfl, by decide +kernel, by decide +kernel⟩
abbrev s_is_compared : Stmt := topS 28
abbrev N_is_compared : List Str := ["tree", "names", "_", "first", "second", "n"]
abbrev P_is_compared : List Str := ["tree", "names"]
theorem sc_is_compared : FnScope N_is_compared P_is_compared (defScope s_is_compared) := ⟨rfl, rfl, rfl, by decide +kernel, rfl, by decide +kernel, by decide +kernel⟩
abbrev s_trees_within : Stmt := topS 26
abbrev N_trees_within : List Str := ["program", "kind", "tree", "names", "inner"]
abbrev P_trees_within : List Str := ["program", "kind", "tree", "names"]
theorem sc_trees_within : FnScope N_trees_within P_trees_within (defScope s_trees_within) := ⟨rfl, rfl, rfl, by decide +kernel, rfl, by decide +kernel, by decide +kernel⟩
abbrev s_check_trees : Stmt := topS 25
abbrev N_check_trees : List Str := ["program", "number", "params", "kind", "outermost", "waiting", "place", "tree", "depth", "names", "within", "inner", "standing"]
abbrev P_check_trees : List Str := ["program", "number"]
theorem sc_check_trees : FnScope N_check_trees P_check_trees (defScope s_check_trees) := ⟨rfl, rfl, rfl, by decide +kernel, rfl, by decide +kernel, by decide +kernel⟩
abbrev s_is_param : Stmt := topS 24
abbrev N_is_param : List Str := ["param"]
abbrev P_is_param : List Str := ["param"]
theorem sc_is_param : FnScope N_is_param P_is_param (defScope s_is_param) := ⟨rfl, rfl, rfl, by decide +kernel, rfl, by decide +kernel, by decide +kernel⟩
abbrev s_is_headed : Stmt := topS 23
abbrev N_is_headed : List Str := ["function", "params", "kind", "_", "param"]
abbrev P_is_headed : List Str := ["function"]
theorem sc_is_headed : FnScope N_is_headed P_is_headed (defScope s_is_headed) := ⟨rfl, rfl, rfl, by decide +kernel, rfl, by decide +kernel, by decide +kernel⟩
abbrev s_check_program : Stmt := topS 21
abbrev N_check_program : List Str := ["program", "number", "function"]
abbrev P_check_program : List Str := ["program"]
theorem sc_check_program : FnScope N_check_program P_check_program (defScope s_check_program) := ⟨rfl, rfl, rfl, by decide +kernel, rfl, by decide +kernel, by decide +kernel⟩
abbrev s_check_function : Stmt := topS 22
abbrev N_check_function : List Str := ["program", "number"]
abbrev P_check_function : List Str := ["program", "number"]
theorem sc_check_function : FnScope N_check_function P_check_function (defScope s_check_function) := ⟨rfl, rfl, rfl, by decide +kernel, rfl, by decide +kernel, by decide +kernel⟩
abbrev s_check_numbers : Stmt := topS 41
abbrev N_check_numbers : List Str := ["numbers", "n", "low", "high"]
abbrev P_check_numbers : List Str := ["numbers"]
theorem sc_check_numbers : FnScope N_check_numbers P_check_numbers (defScope s_check_numbers) := ⟨rfl, rfl, rfl, by decide +kernel, rfl, by decide +kernel, by decide +kernel⟩
abbrev s_slots : Stmt := topS 43
abbrev N_slots : List Str := ["kinds", "found", "k", "kind"]
abbrev P_slots : List Str := ["kinds"]
theorem sc_slots : FnScope N_slots P_slots (defScope s_slots) := ⟨rfl, rfl, rfl, by decide +kernel, rfl, by decide +kernel, by decide +kernel⟩
abbrev s_lattice : Stmt := topS 44
abbrev N_lattice : List Str := ["kinds", "numbers", "sides", "slot", "other", "n"]
abbrev P_lattice : List Str := ["kinds", "numbers"]
theorem sc_lattice : FnScope N_lattice P_lattice (defScope s_lattice) := ⟨rfl, rfl, rfl, by decide +kernel, rfl, by decide +kernel, by decide +kernel⟩
abbrev s_kinds_behind : Stmt := topS 42
abbrev N_kinds_behind : List Str := ["function"]
abbrev P_kinds_behind : List Str := ["function"]
theorem sc_kinds_behind : FnScope N_kinds_behind P_kinds_behind (defScope s_kinds_behind) := ⟨rfl, rfl, rfl, by decide +kernel, rfl, by decide +kernel, by decide +kernel⟩
abbrev s_candidates : Stmt := topS 40
abbrev N_candidates : List Str := ["program", "function", "numbers", "ahead", "behind"]
abbrev P_candidates : List Str := ["program", "function", "numbers"]
theorem sc_candidates : FnScope N_candidates P_candidates (defScope s_candidates) := ⟨rfl, rfl, rfl, by decide +kernel, rfl, by decide +kernel, by decide +kernel⟩
abbrev s_w_slots : Stmt := topS 49
abbrev N_w_slots : List Str := ["_law_kinds_here", "_law_found", "_law_k"]
abbrev P_w_slots : List Str := ["_law_kinds_here"]
theorem sc_w_slots : FnScope N_w_slots P_w_slots (defScope s_w_slots) := ⟨rfl, rfl, rfl, by decide +kernel, rfl, by decide +kernel, by decide +kernel⟩
abbrev s_w_lattice : Stmt := topS 50
abbrev N_w_lattice : List Str := ["_law_kinds_here", "_law_those", "_law_slots_here", "_law_found", "_law_one", "_law_other", "_law_n"]
abbrev P_w_lattice : List Str := ["_law_kinds_here", "_law_those"]
theorem sc_w_lattice : FnScope N_w_lattice P_w_lattice (defScope s_w_lattice) := ⟨rfl, rfl, rfl, by decide +kernel, rfl, by decide +kernel, by decide +kernel⟩
abbrev s_law : Stmt := topS 53
abbrev N_law : List Str := ["_law_script", "_law_state", "_law_turn", "_law_program", "_law_number", "_law_kinds_here", "_law_kind", "_law_params", "_law_deed", "_law_those", "_law_sides", "_law_again", "_law_found", "_law_due", "_law_k", "_law_side"]
abbrev P_law : List Str := ["_law_script"]
theorem sc_law : FnScope N_law P_law (defScope s_law) := ⟨rfl, rfl, rfl, by decide +kernel, rfl, by decide +kernel, by decide +kernel⟩
structure Adr where
  f_w_start : Addr
  fd_w_start : FuncData
  f_w_same : Addr
  fd_w_same : FuncData
  f_w_drawn : Addr
  fd_w_drawn : FuncData
  f_w_kinds : Addr
  fd_w_kinds : FuncData
  f_has_word : Addr
  fd_has_word : FuncData
  f_is_row : Addr
  fd_is_row : FuncData
  f_is_whole : Addr
  fd_is_whole : FuncData
  f_is_between : Addr
  fd_is_between : FuncData
  f_is_near : Addr
  fd_is_near : FuncData
  f_stands : Addr
  fd_stands : FuncData
  f_all_fit : Addr
  fd_all_fit : FuncData
  f_kinds_ahead : Addr
  fd_kinds_ahead : FuncData
  f_call_kind : Addr
  fd_call_kind : FuncData
  f_deed_kind : Addr
  fd_deed_kind : FuncData
  f_is_name : Addr
  fd_is_name : FuncData
  f_within_let : Addr
  fd_within_let : FuncData
  f_is_measure : Addr
  fd_is_measure : FuncData
  f_is_compared : Addr
  fd_is_compared : FuncData
  f_trees_within : Addr
  fd_trees_within : FuncData
  f_check_trees : Addr
  fd_check_trees : FuncData
  f_is_param : Addr
  fd_is_param : FuncData
  f_is_headed : Addr
  fd_is_headed : FuncData
  f_check_program : Addr
  fd_check_program : FuncData
  f_check_function : Addr
  fd_check_function : FuncData
  f_check_numbers : Addr
  fd_check_numbers : FuncData
  f_slots : Addr
  fd_slots : FuncData
  f_lattice : Addr
  fd_lattice : FuncData
  f_kinds_behind : Addr
  fd_kinds_behind : FuncData
  f_candidates : Addr
  fd_candidates : FuncData
  f_w_slots : Addr
  fd_w_slots : FuncData
  f_w_lattice : Addr
  fd_w_lattice : FuncData
  f_law : Addr
  fd_law : FuncData
  a_DEEDS : Addr
  e_DEEDS : Array DictEntry
  m_DEEDS : Nat
  a_DEEDS_num : Addr
  a_DEEDS_num_0 : Addr
  a_DEEDS_sum : Addr
  a_DEEDS_sum_0 : Addr
  a_DEEDS_len : Addr
  a_DEEDS_len_0 : Addr
  a_DEEDS_nil : Addr
  a_DEEDS_nil_0 : Addr
  a_DEEDS_put : Addr
  a_DEEDS_put_0 : Addr
  a_DEEDS_head : Addr
  a_DEEDS_head_0 : Addr
  a_DEEDS_tail : Addr
  a_DEEDS_tail_0 : Addr
  a_DEEDS_at : Addr
  a_DEEDS_at_0 : Addr
  a_DEEDS_ask : Addr
  a_DEEDS_ask_0 : Addr
  t_FARTHEST : Tok
  t_FARTHEST_NUMBER : Tok
  a_KINDS : Addr
  a_MEASURES : Addr
  e_MEASURES : Array DictEntry
  m_MEASURES : Nat
  t_MOST_DEPTH : Tok
  t_MOST_FUNCTIONS : Tok
  t_MOST_NUMBERS : Tok
  t_MOST_PARAMS : Tok
  t_MOST_SIGNS : Tok
  t_MOST_TREES : Tok
  a_NUMBERS : Addr
  a_TREES : Addr
  e_TREES : Array DictEntry
  m_TREES : Nat
structure Tx (K : PySem.W.Frag) (w : World) (mg : Str → Option Value) (A : Adr) : Prop where
  F_w_start : Fun K "_law_start" "_law_start" s_w_start A.f_w_start A.fd_w_start
  b_w_start : Binds K A.fd_w_start P_w_start []
  g_w_start : mg "_law_start" = some (.ref A.f_w_start)
  F_w_same : Fun K "_law_same" "_law_same" s_w_same A.f_w_same A.fd_w_same
  b_w_same : Binds K A.fd_w_same P_w_same []
  g_w_same : mg "_law_same" = some (.ref A.f_w_same)
  F_w_drawn : Fun K "_law_drawn" "_law_drawn" s_w_drawn A.f_w_drawn A.fd_w_drawn
  b_w_drawn : Binds K A.fd_w_drawn P_w_drawn []
  g_w_drawn : mg "_law_drawn" = some (.ref A.f_w_drawn)
  F_w_kinds : Fun K "_law_kinds" "_law_kinds" s_w_kinds A.f_w_kinds A.fd_w_kinds
  b_w_kinds : Binds K A.fd_w_kinds P_w_kinds []
  g_w_kinds : mg "_law_kinds" = some (.ref A.f_w_kinds)
  F_has_word : Fun K "has_word" "has_word" s_has_word A.f_has_word A.fd_has_word
  b_has_word : Binds K A.fd_has_word P_has_word []
  g_has_word : mg "has_word" = some (.ref A.f_has_word)
  F_is_row : Fun K "is_row" "is_row" s_is_row A.f_is_row A.fd_is_row
  b_is_row : Binds K A.fd_is_row P_is_row []
  g_is_row : mg "is_row" = some (.ref A.f_is_row)
  F_is_whole : Fun K "is_whole" "is_whole" s_is_whole A.f_is_whole A.fd_is_whole
  b_is_whole : Binds K A.fd_is_whole P_is_whole []
  g_is_whole : mg "is_whole" = some (.ref A.f_is_whole)
  F_is_between : Fun K "is_between" "is_between" s_is_between A.f_is_between A.fd_is_between
  b_is_between : Binds K A.fd_is_between P_is_between []
  g_is_between : mg "is_between" = some (.ref A.f_is_between)
  F_is_near : Fun K "is_near" "is_near" s_is_near A.f_is_near A.fd_is_near
  b_is_near : Binds K A.fd_is_near P_is_near []
  g_is_near : mg "is_near" = some (.ref A.f_is_near)
  F_stands : Fun K "stands" "stands" s_stands A.f_stands A.fd_stands
  b_stands : Binds K A.fd_stands P_stands []
  g_stands : mg "stands" = some (.ref A.f_stands)
  F_all_fit : Fun K "all_fit" "all_fit" s_all_fit A.f_all_fit A.fd_all_fit
  b_all_fit : Binds K A.fd_all_fit P_all_fit []
  g_all_fit : mg "all_fit" = some (.ref A.f_all_fit)
  F_kinds_ahead : Fun K "kinds_ahead" "kinds_ahead" s_kinds_ahead A.f_kinds_ahead A.fd_kinds_ahead
  b_kinds_ahead : Binds K A.fd_kinds_ahead P_kinds_ahead []
  g_kinds_ahead : mg "kinds_ahead" = some (.ref A.f_kinds_ahead)
  F_call_kind : Fun K "call_kind" "call_kind" s_call_kind A.f_call_kind A.fd_call_kind
  b_call_kind : Binds K A.fd_call_kind P_call_kind []
  g_call_kind : mg "call_kind" = some (.ref A.f_call_kind)
  F_deed_kind : Fun K "deed_kind" "deed_kind" s_deed_kind A.f_deed_kind A.fd_deed_kind
  b_deed_kind : Binds K A.fd_deed_kind P_deed_kind []
  g_deed_kind : mg "deed_kind" = some (.ref A.f_deed_kind)
  F_is_name : Fun K "is_name" "is_name" s_is_name A.f_is_name A.fd_is_name
  b_is_name : Binds K A.fd_is_name P_is_name []
  g_is_name : mg "is_name" = some (.ref A.f_is_name)
  F_within_let : Fun K "within_let" "within_let" s_within_let A.f_within_let A.fd_within_let
  b_within_let : Binds K A.fd_within_let P_within_let []
  g_within_let : mg "within_let" = some (.ref A.f_within_let)
  F_is_measure : Fun K "is_measure" "is_measure" s_is_measure A.f_is_measure A.fd_is_measure
  b_is_measure : Binds K A.fd_is_measure P_is_measure []
  g_is_measure : mg "is_measure" = some (.ref A.f_is_measure)
  F_is_compared : Fun K "is_compared" "is_compared" s_is_compared A.f_is_compared A.fd_is_compared
  b_is_compared : Binds K A.fd_is_compared P_is_compared []
  g_is_compared : mg "is_compared" = some (.ref A.f_is_compared)
  F_trees_within : Fun K "trees_within" "trees_within" s_trees_within A.f_trees_within A.fd_trees_within
  b_trees_within : Binds K A.fd_trees_within P_trees_within []
  g_trees_within : mg "trees_within" = some (.ref A.f_trees_within)
  F_check_trees : Fun K "check_trees" "check_trees" s_check_trees A.f_check_trees A.fd_check_trees
  b_check_trees : Binds K A.fd_check_trees P_check_trees []
  g_check_trees : mg "check_trees" = some (.ref A.f_check_trees)
  F_is_param : Fun K "is_param" "is_param" s_is_param A.f_is_param A.fd_is_param
  b_is_param : Binds K A.fd_is_param P_is_param []
  g_is_param : mg "is_param" = some (.ref A.f_is_param)
  F_is_headed : Fun K "is_headed" "is_headed" s_is_headed A.f_is_headed A.fd_is_headed
  b_is_headed : Binds K A.fd_is_headed P_is_headed []
  g_is_headed : mg "is_headed" = some (.ref A.f_is_headed)
  F_check_program : Fun K "check_program" "check_program" s_check_program A.f_check_program A.fd_check_program
  b_check_program : Binds K A.fd_check_program P_check_program []
  g_check_program : mg "check_program" = some (.ref A.f_check_program)
  F_check_function : Fun K "check_function" "check_function" s_check_function A.f_check_function A.fd_check_function
  b_check_function : Binds K A.fd_check_function P_check_function []
  g_check_function : mg "check_function" = some (.ref A.f_check_function)
  F_check_numbers : Fun K "check_numbers" "check_numbers" s_check_numbers A.f_check_numbers A.fd_check_numbers
  b_check_numbers : Binds K A.fd_check_numbers P_check_numbers []
  g_check_numbers : mg "check_numbers" = some (.ref A.f_check_numbers)
  F_slots : Fun K "slots" "slots" s_slots A.f_slots A.fd_slots
  b_slots : Binds K A.fd_slots P_slots []
  g_slots : mg "slots" = some (.ref A.f_slots)
  F_lattice : Fun K "lattice" "lattice" s_lattice A.f_lattice A.fd_lattice
  b_lattice : Binds K A.fd_lattice P_lattice []
  g_lattice : mg "lattice" = some (.ref A.f_lattice)
  F_kinds_behind : Fun K "kinds_behind" "kinds_behind" s_kinds_behind A.f_kinds_behind A.fd_kinds_behind
  b_kinds_behind : Binds K A.fd_kinds_behind P_kinds_behind []
  g_kinds_behind : mg "kinds_behind" = some (.ref A.f_kinds_behind)
  F_candidates : FunD K "candidates" "candidates" (defArgs s_candidates) (defBody s_candidates) (defScope s_candidates) [] [("numbers", .ref A.a_NUMBERS)] A.f_candidates A.fd_candidates
  g_candidates : mg "candidates" = some (.ref A.f_candidates)
  F_w_slots : Fun K "_law_slots" "_law_slots" s_w_slots A.f_w_slots A.fd_w_slots
  b_w_slots : Binds K A.fd_w_slots P_w_slots []
  g_w_slots : mg "_law_slots" = some (.ref A.f_w_slots)
  F_w_lattice : Fun K "_law_lattice" "_law_lattice" s_w_lattice A.f_w_lattice A.fd_w_lattice
  b_w_lattice : Binds K A.fd_w_lattice P_w_lattice []
  g_w_lattice : mg "_law_lattice" = some (.ref A.f_w_lattice)
  F_law : Fun K "law" "law" s_law A.f_law A.fd_law
  b_law : Binds K A.fd_law P_law []
  g_law : mg "law" = some (.ref A.f_law)
  n_all : mg "all" = none
  n_bool : mg "bool" = none
  n_dict : mg "dict" = none
  n_enumerate : mg "enumerate" = none
  n_int : mg "int" = none
  n_isinstance : mg "isinstance" = none
  n_len : mg "len" = none
  n_list : mg "list" = none
  n_range : mg "range" = none
  n_reversed : mg "reversed" = none
  n_set : mg "set" = none
  n_sorted : mg "sorted" = none
  n_str : mg "str" = none
  n_tuple : mg "tuple" = none
  n_zip : mg "zip" = none
  c_DEEDS : mg "DEEDS" = some (.ref A.a_DEEDS)
  d_DEEDS : KDict K w A.a_DEEDS A.e_DEEDS A.m_DEEDS
  q_DEEDS_num_0 : ∀ H, SqT K H A.a_DEEDS_num_0 [.str "n"]
  q_DEEDS_num : ∀ H, SqT K H A.a_DEEDS_num [.ref A.a_DEEDS_num_0, .str "number"]
  y_DEEDS_num : KDct K w A.a_DEEDS "num" (.ref A.a_DEEDS_num)
  q_DEEDS_sum_0 : ∀ H, SqT K H A.a_DEEDS_sum_0 [.str "number", .str "n"]
  q_DEEDS_sum : ∀ H, SqT K H A.a_DEEDS_sum [.ref A.a_DEEDS_sum_0, .str "number"]
  y_DEEDS_sum : KDct K w A.a_DEEDS "sum" (.ref A.a_DEEDS_sum)
  q_DEEDS_len_0 : ∀ H, SqT K H A.a_DEEDS_len_0 [.str "list"]
  q_DEEDS_len : ∀ H, SqT K H A.a_DEEDS_len [.ref A.a_DEEDS_len_0, .str "number"]
  y_DEEDS_len : KDct K w A.a_DEEDS "len" (.ref A.a_DEEDS_len)
  q_DEEDS_nil_0 : ∀ H, SqT K H A.a_DEEDS_nil_0 []
  q_DEEDS_nil : ∀ H, SqT K H A.a_DEEDS_nil [.ref A.a_DEEDS_nil_0, .str "list"]
  y_DEEDS_nil : KDct K w A.a_DEEDS "nil" (.ref A.a_DEEDS_nil)
  q_DEEDS_put_0 : ∀ H, SqT K H A.a_DEEDS_put_0 [.str "number", .str "list"]
  q_DEEDS_put : ∀ H, SqT K H A.a_DEEDS_put [.ref A.a_DEEDS_put_0, .str "list"]
  y_DEEDS_put : KDct K w A.a_DEEDS "put" (.ref A.a_DEEDS_put)
  q_DEEDS_head_0 : ∀ H, SqT K H A.a_DEEDS_head_0 [.str "list"]
  q_DEEDS_head : ∀ H, SqT K H A.a_DEEDS_head [.ref A.a_DEEDS_head_0, .str "number"]
  y_DEEDS_head : KDct K w A.a_DEEDS "head" (.ref A.a_DEEDS_head)
  q_DEEDS_tail_0 : ∀ H, SqT K H A.a_DEEDS_tail_0 [.str "list"]
  q_DEEDS_tail : ∀ H, SqT K H A.a_DEEDS_tail [.ref A.a_DEEDS_tail_0, .str "list"]
  y_DEEDS_tail : KDct K w A.a_DEEDS "tail" (.ref A.a_DEEDS_tail)
  q_DEEDS_at_0 : ∀ H, SqT K H A.a_DEEDS_at_0 [.str "list", .str "number"]
  q_DEEDS_at : ∀ H, SqT K H A.a_DEEDS_at [.ref A.a_DEEDS_at_0, .str "number"]
  y_DEEDS_at : KDct K w A.a_DEEDS "at" (.ref A.a_DEEDS_at)
  q_DEEDS_ask_0 : ∀ H, SqT K H A.a_DEEDS_ask_0 []
  q_DEEDS_ask : ∀ H, SqT K H A.a_DEEDS_ask [.ref A.a_DEEDS_ask_0, .str "number"]
  y_DEEDS_ask : KDct K w A.a_DEEDS "ask" (.ref A.a_DEEDS_ask)
  c_FARTHEST : mg "FARTHEST" = some (.int 99 A.t_FARTHEST)
  c_FARTHEST_NUMBER : mg "FARTHEST_NUMBER" = some (.int 9 A.t_FARTHEST_NUMBER)
  c_KINDS : mg "KINDS" = some (.ref A.a_KINDS)
  q_KINDS : ∀ H, SqT K H A.a_KINDS [.str "number", .str "list"]
  c_MEASURES : mg "MEASURES" = some (.ref A.a_MEASURES)
  d_MEASURES : KDict K w A.a_MEASURES A.e_MEASURES A.m_MEASURES
  y_MEASURES_of : KDct K w A.a_MEASURES "of" (.str "number")
  y_MEASURES_len : KDct K w A.a_MEASURES "len" (.str "list")
  c_MOST_DEPTH : mg "MOST_DEPTH" = some (.int 20 A.t_MOST_DEPTH)
  c_MOST_FUNCTIONS : mg "MOST_FUNCTIONS" = some (.int 6 A.t_MOST_FUNCTIONS)
  c_MOST_NUMBERS : mg "MOST_NUMBERS" = some (.int 5 A.t_MOST_NUMBERS)
  c_MOST_PARAMS : mg "MOST_PARAMS" = some (.int 4 A.t_MOST_PARAMS)
  c_MOST_SIGNS : mg "MOST_SIGNS" = some (.int 8 A.t_MOST_SIGNS)
  c_MOST_TREES : mg "MOST_TREES" = some (.int 60 A.t_MOST_TREES)
  c_NUMBERS : mg "NUMBERS" = some (.ref A.a_NUMBERS)
  q_NUMBERS : ∀ H, SqT K H A.a_NUMBERS [.int (-1), .int (0), .int (1)]
  c_TREES : mg "TREES" = some (.ref A.a_TREES)
  d_TREES : KDict K w A.a_TREES A.e_TREES A.m_TREES
  y_TREES_let : KDct K w A.a_TREES "let" (.int 4)
  y_TREES_if : KDct K w A.a_TREES "if" (.int 6)
  y_TREES_claim : KDct K w A.a_TREES "claim" (.int 5)
  y_TREES_tell : KDct K w A.a_TREES "tell" (.int 2)
end Cs
namespace Cs
open PySem PySem.Spec L2
section
variable {P : Program} {w : World} {K : PySem.W.Frag} {mg : Str → Option Value} {base : Heap} {A : Adr}
def spWhole : Sp := fun vs H Q _ => ∃ n : Int, vs = [.int n] ∧ Q (.bl true) H
theorem ok_is_whole (T : Tx K w mg A) : FnOk P w K mg base CX0 1 A.f_is_whole A.fd_is_whole P_is_whole spWhole := by
  refine T.F_is_whole.ok sc_is_whole (fun vs H Q E h => ?_) (fun cdv AA outer s H vs Q E hr h => ?_)
  · obtain ⟨n, rfl, _⟩ := h
    rfl
  · obtain ⟨n, rfl, q⟩ := h
    refine ⟨_, (pss_one (ps_ret (pe_and (pe_callB call_isi (by rfl) T.n_isinstance (by decide +kernel) (pa_cons (pv 0) (pa_cons (pe_bltn (v := .ty "int") (u := .type "int") (by rfl) T.n_int (by decide +kernel) rfl) pa_nil))) (pe_one (pe_not (pe_callB call_isi (by rfl) T.n_isinstance (by decide +kernel) (pa_cons (pv 0) (pa_cons (pe_bltn (v := .ty "bool") (u := .type "bool") (by rfl) T.n_bool (by decide +kernel) rfl) pa_nil)))))))), ?_⟩
    refine ⟨_, rfl, _, _, _, _, true, rfl, .ty "int", .base (.int n), kv (by decide +kernel), true, rfl, ?_⟩
    rw [if_pos rfl]
    refine ⟨_, rfl, _, _, _, _, false, rfl, .ty "bool", .base (.int n), kv (by decide +kernel), false, rfl, ?_⟩
    exact q
def spBetween : Sp := fun vs H Q _ => ∃ n a b : Int, vs = [.int n, .int a, .int b] ∧ Q (.bl (decide (a ≤ n ∧ n ≤ b))) H
theorem ok_is_between (T : Tx K w mg A) : FnOk P w K mg base CX0 2 A.f_is_between A.fd_is_between P_is_between spBetween := by
  have G_is_whole := ok_is_whole (P := P) (base := base) T
  refine T.F_is_between.ok sc_is_between (fun vs H Q E h => ?_) (fun cdv AA outer s H vs Q E hr h => ?_)
  · obtain ⟨n, a, b, rfl, _⟩ := h
    rfl
  · obtain ⟨n, a, b, rfl, q⟩ := h
    refine ⟨_, (pss_one (ps_ret (pe_and (pe_call G_is_whole (hr.mono (by decide)) (by rfl) T.g_is_whole T.F_is_whole.kp T.b_is_whole .nil pass0 (pa_cons (pv 0) pa_nil)) (pe_one (pe_chain op_le op_le (pv 1) (pv 0) (pv 2)))))), ?_⟩
    refine ⟨_, rfl, n, rfl, true, rfl, ?_⟩
    rw [if_pos rfl]
    refine ⟨_, rfl, _, rfl, _, _, rfl, rfl, _, rfl, ?_⟩
    by_cases h1 : a ≤ n
    · rw [if_pos (decide_eq_true h1)]
      refine ⟨_, rfl, _, _, rfl, rfl, ?_⟩
      by_cases h2 : n ≤ b
      · rw [decide_eq_true (show a ≤ n ∧ n ≤ b from ⟨h1, h2⟩)] at q
        show Q (.bl (decide (n ≤ b))) H
        rw [decide_eq_true h2]
        exact q
      · rw [decide_eq_false (show ¬ (a ≤ n ∧ n ≤ b) from fun z => h2 z.2)] at q
        show Q (.bl (decide (n ≤ b))) H
        rw [decide_eq_false h2]
        exact q
    · rw [if_neg (by rw [decide_eq_false h1]; exact Bool.false_ne_true)]
      rw [decide_eq_false (show ¬ (a ≤ n ∧ n ≤ b) from fun z => h1 z.1)] at q
      exact q
def spNear : Sp := fun vs H Q _ => ∃ n : Int, vs = [.int n] ∧ near n ∧ Q (.bl true) H
theorem ok_is_near (T : Tx K w mg A) : FnOk P w K mg base CX0 3 A.f_is_near A.fd_is_near P_is_near spNear := by
  have G_is_between := ok_is_between (P := P) (base := base) T
  refine T.F_is_near.ok sc_is_near (fun vs H Q E h => ?_) (fun cdv AA outer s H vs Q E hr h => ?_)
  · obtain ⟨n, rfl, _⟩ := h
    rfl
  · obtain ⟨n, rfl, hn, q⟩ := h
    refine ⟨_, (pss_one (ps_ret (pe_call G_is_between (hr.mono (by decide)) (by rfl) T.g_is_between T.F_is_between.kp T.b_is_between .nil pass0 (pa_cons (pv 0) (pa_cons (pe_un un_neg (pe_glob (v := .int 99) rfl T.c_FARTHEST ⟨_, rfl⟩)) (pa_cons (pe_glob (v := .int 99) rfl T.c_FARTHEST ⟨_, rfl⟩) pa_nil)))))), ?_⟩
    refine ⟨_, rfl, 99, rfl, n, -99, 99, rfl, ?_⟩
    rw [decide_eq_true (show (-99 : Int) ≤ n ∧ n ≤ 99 from hn)]
    exact q
def spRow (K : PySem.W.Frag) : Sp := fun vs H Q _ => ∃ (a : Addr) (xs : List V) (m : Int), vs = [.ref a, .int m] ∧ SqT K H a xs ∧ Q (.bl (decide ((xs.length : Int) = m))) H
theorem ok_is_row (T : Tx K w mg A) : FnOk P w K mg base CX0 1 A.f_is_row A.fd_is_row P_is_row (spRow K) := by
  refine T.F_is_row.ok sc_is_row (fun vs H Q E h => ?_) (fun cdv AA outer s H vs Q E hr h => ?_)
  · obtain ⟨a, xs, m, rfl, _⟩ := h
    rfl
  · obtain ⟨a, xs, m, rfl, hx, q⟩ := h
    refine ⟨_, (pss_one (ps_ret (pe_and (pe_callB call_isi (by rfl) T.n_isinstance (by decide +kernel) (pa_cons (pv 0) (pa_cons (pe_bltn (v := .ty "tuple") (u := .type "tuple") (by rfl) T.n_tuple (by decide +kernel) rfl) pa_nil))) (pe_one (pe_cmpR op_eq (pe_callB call_len (by rfl) T.n_len (by decide +kernel) (pa_cons (pv 0) pa_nil)) (pv 1) (nomark _)))))), ?_⟩
    refine ⟨_, rfl, _, _, _, _, true, rfl, .ty "tuple", tyx_tup hx, kv (by decide +kernel), true, rfl, ?_⟩
    rw [if_pos rfl]
    refine ⟨_, rfl, _, xs.length, rfl, .inr ⟨xs, hx, rfl⟩, _, rfl, rfl, ?_⟩
    have e : decide (V.int (xs.length : Nat) = V.int m) = decide ((xs.length : Int) = m) := decide_eq_decide.mpr ⟨fun z => V.int.inj z, fun z => by rw [z]⟩
    rw [← e] at q
    exact q
def spWord (K : PySem.W.Frag) : Sp := fun vs H Q _ => ∃ (a : Addr) (x : Str) (xs : List V), vs = [.ref a] ∧ SqT K H a (.str x :: xs) ∧ Q (.bl true) H
theorem ok_has_word (T : Tx K w mg A) : FnOk P w K mg base CX0 1 A.f_has_word A.fd_has_word P_has_word (spWord K) := by
  refine T.F_has_word.ok sc_has_word (fun vs H Q E h => ?_) (fun cdv AA outer s H vs Q E hr h => ?_)
  · obtain ⟨a, x, xs, rfl, _⟩ := h
    rfl
  · obtain ⟨a, x, xs, rfl, hx, q⟩ := h
    refine ⟨_, (pss_one (ps_ret (pe_and (pe_callB call_isi (by rfl) T.n_isinstance (by decide +kernel) (pa_cons (pv 0) (pa_cons (pe_bltn (v := .ty "tuple") (u := .type "tuple") (by rfl) T.n_tuple (by decide +kernel) rfl) pa_nil))) (pe_and (pe_cmpR op_gt (pe_callB call_len (by rfl) T.n_len (by decide +kernel) (pa_cons (pv 0) pa_nil)) pe_int (nomark _)) (pe_one (pe_callB call_isi (by rfl) T.n_isinstance (by decide +kernel) (pa_cons (pe_ix ix_tup (pv 0) pe_int (fun _ _ => rfl)) (pa_cons (pe_bltn (v := .ty "str") (u := .type "str") (by rfl) T.n_str (by decide +kernel) rfl) pa_nil)))))))), ?_⟩
    refine ⟨_, rfl, _, _, _, _, true, rfl, .ty "tuple", tyx_tup hx, kv (by decide +kernel), true, rfl, ?_⟩
    rw [if_pos rfl]
    refine ⟨_, rfl, _, (xs.length + 1 : Nat), rfl, .inr ⟨_, hx, rfl⟩, _, _, rfl, rfl, true, ?_, ?_⟩
    · show V.bl (decide ((0 : Int) < ((xs.length + 1 : Nat) : Int))) = _
      rw [decide_eq_true (by omega)]
    rw [if_pos rfl]
    refine ⟨_, rfl, _, _, _, _, rfl, rfl, hx, atI_nat (j := 0) rfl, _, _, _, _, true, rfl, .ty "str", .base (.str x), kv (by decide +kernel), q⟩
end
end Cs
namespace Cs
open PySem PySem.Spec L2
section
variable {P : Program} {w : World} {K : PySem.W.Frag} {mg : Str → Option Value} {base : Heap} {A : Adr}
def spName : Sp := fun vs H Q _ => ∃ x : Str, vs = [.str x] ∧ okName x ∧ ∀ H1, Same H H1 → Q (.bl true) H1
theorem ok_is_name (T : Tx K w mg A) : FnOk P w K mg base CX0 1 A.f_is_name A.fd_is_name P_is_name spName := by
  refine T.F_is_name.ok sc_is_name (fun vs H Q E h => ?_) (fun cdv AA outer s H vs Q E hr h => ?_)
  · obtain ⟨x, rfl, _⟩ := h
    rfl
  · obtain ⟨x, rfl, ⟨h1, h2, h3⟩, q⟩ := h
    refine ⟨_, (pss_cons (ps_if (PW.pt (pw_or (pt_not (pt_val (pe_callB call_isi (by rfl) T.n_isinstance (by decide +kernel) (pa_cons (pv 0) (pa_cons (pe_bltn (v := .ty "str") (u := .type "str") (by rfl) T.n_str (by decide +kernel) rfl) pa_nil))))) (pw_or1 (pt_not (pt_chain op_le op_le pe_int (pe_callB call_len (by rfl) T.n_len (by decide +kernel) (pa_cons (pv 0) pa_nil)) (pe_glob (v := .int 8) rfl T.c_MOST_SIGNS ⟨_, rfl⟩))))))
  (pss_one (ps_ret pe_bl))
  pss_nil)
  (pss_one (ps_ret (pe_callB (cr_all rfl) (by rfl) T.n_all (by decide +kernel) (pa_cons (pe_lc (own := [("sign", 1)]) (g := (gName 1)) (tt := tYes) (te := _) rfl sc_is_name.nd (pi_str (pv 0)) (blkOk_by (N := N_is_name) (sc := defScope s_is_name) (by decide +kernel)) (fun _ _ _ _ _ => (pg_name (i := 1) sc_is_name.nd rfl (.inl rfl))) (fun _ _ _ _ _ => pts_nil) (fun _ _ _ _ _ => (pe_chain op_le_str op_le_str pe_str (pv 1) pe_str))) pa_nil))))), ?_⟩
    refine ⟨_, rfl, _, _, _, _, true, rfl, .ty "str", .base (.str x), kv (by decide +kernel), true, rfl, iteF ⟨_, rfl, _, x.length, rfl, ⟨small (by omega), rfl⟩, _, _, rfl, rfl, _, rfl, itd (by omega) ⟨_, _, rfl, rfl, _, rfl, itnd (by omega) ?_⟩⟩⟩
    refine ⟨_, rfl, x, rfl, fun D hD => lc_data (walk_str (z := x)) (fun _ y _ => y = .bl true) (fun _ _ _ _ _ e => e) hD (fun _ _ => trivial) (show x.length ≤ _ by omega) ?_ ?_⟩
    · rintro i y H1 H2 k hi s1 ⟨rfl, c, hc, rfl⟩ hk
      have hs : sign c := h3 c (List.mem_of_getElem? (by rw [Array.getElem?_toList]; exact hc))
      refine ⟨rfl, _, rfl, _, _, rfl, rfl, true, ?_, iteT ⟨_, _, rfl, rfl, hk _ _ (Same.refl _) ?_⟩⟩
      · show V.bl (!decide ([c] < [97])) = _
        rw [decide_eq_false (by intro z; have := hs.1; cases z <;> first | omega | contradiction)]
        rfl
      · show V.bl (!decide ([122] < [c])) = _
        rw [decide_eq_false (by intro z; have := hs.2; cases z <;> first | omega | contradiction)]
        rfl
    · rintro H1 acc s1 e1 hl hE
      refine ⟨D, List.replicate acc.length true, rfl, ?_, ?_⟩
      · refine .inl (.inl ?_)
        rw [e1]
        congr 2
        refine List.ext_getElem? fun j => ?_
        rw [List.getElem?_map, List.getElem?_replicate]
        cases hz : acc[j]? with
        | none =>
          rw [if_neg (by have := List.getElem?_eq_none_iff.mp hz; omega)]
          rfl
        | some y =>
          rw [if_pos (List.getElem?_eq_some_iff.mp hz).1, hE j y hz]
          rfl
      · have e : (List.replicate acc.length true).all id = true := by simp
        rw [e]
        exact q _ s1
def spStands (ns : Nm) : Sp := fun vs H Q _ => ∃ (x : Str) (kd : Kd) (d : Addr), vs = [.str x, kd.v, .ref d] ∧ H d = some (.dK (nmK ns)) ∧ look ns x = some kd ∧ Q (.bl true) H
theorem ok_stands (T : Tx K w mg A) (ns : Nm) : FnOk P w K mg base CX0 1 A.f_stands A.fd_stands P_stands (spStands ns) := by
  refine T.F_stands.ok sc_stands (fun vs H Q E h => ?_) (fun cdv AA outer s H vs Q E hr h => ?_)
  · obtain ⟨x, kd, d, rfl, _⟩ := h
    rfl
  · obtain ⟨x, kd, d, rfl, hd, hl, q⟩ := h
    refine ⟨_, (pss_one (ps_ret (pe_and (pe_callB call_isi (by rfl) T.n_isinstance (by decide +kernel) (pa_cons (pv 0) (pa_cons (pe_bltn (v := .ty "str") (u := .type "str") (by rfl) T.n_str (by decide +kernel) rfl) pa_nil))) (pe_one (pe_cmpR op_eq (pe_dget1 (hu_of hr) (pv 2) (pv 0) ⟨rfl, rfl, rfl, rfl⟩) (pv 1) (nomark _)))))), ?_⟩
    refine ⟨_, rfl, _, _, _, _, true, rfl, .ty "str", .base (.str x), kv (by decide +kernel), true, rfl, ?_⟩
    rw [if_pos rfl]
    refine ⟨_, rfl, d, rfl, .inl ⟨_, .inl hd⟩, _, rfl, _, DGet.k (k := .inr x) hd, _, rfl, ?_⟩
    rw [nmK_val, hl]
    refine ⟨rfl, ?_⟩
    show Q (.bl (decide (kd.v = kd.v))) H
    rw [decide_eq_true rfl]
    exact q
def spAhead (K : PySem.W.Frag) : Sp := fun vs H Q _ => ∃ (v : V) (f : Fn), vs = [v] ∧ FnAt K H v f ∧ f.ps.length ≤ 1000 ∧ ∀ H1 p, Same H H1 → H p = none → H1 p = some (.lst (f.ps.map fun x => x.2.v)) → Q (.ref p) H1
theorem ok_kinds_ahead (T : Tx K w mg A) : FnOk P w K mg base CX0 1 A.f_kinds_ahead A.fd_kinds_ahead P_kinds_ahead (spAhead K) := by
  refine T.F_kinds_ahead.ok sc_kinds_ahead (fun vs H Q E h => ?_) (fun cdv AA outer s H vs Q E hr h => ?_)
  · obtain ⟨v, f, rfl, _⟩ := h
    rfl
  · obtain ⟨v, f, rfl, ⟨a, p, tv, qs, rfl, ha, hp, hq, ht⟩, hlen, q⟩ := h
    refine ⟨_, (pss_one (ps_ret (pe_lc (own := [("_", 1), ("kind", 2)]) (g := (gTup K 2 (gCons (gName 1) (gCons (gName 2) gNil)))) (tt := tYes) (te := (tVar 2)) rfl sc_kinds_ahead.nd (pi_tup (pe_ix ix_tup (pv 0) pe_int (fun _ _ => rfl))) (blkOk_by (N := N_kinds_ahead) (sc := defScope s_kinds_ahead) (by decide +kernel)) (fun _ _ _ _ _ => (pg_tup (by rfl) (pgs_cons (pg_name (i := 1) sc_kinds_ahead.nd rfl (.inl rfl)) (pgs_cons (pg_name (i := 2) sc_kinds_ahead.nd rfl (.inl rfl)) pgs_nil)))) (fun _ _ _ _ _ => pts_nil) (fun _ _ _ _ _ => (pv 2))))), ?_⟩
    refine ⟨_, rfl, _, _, _, _, rfl, rfl, ha, atI_nat (j := 0) rfl, p, rfl, ⟨_, hp.sq⟩, fun D hD => ?_⟩
    refine lc_data (walk_tup (K := K) (a := p) (xs := qs.map V.ref)) (fun i y _ => ∃ x, f.ps[i]? = some x ∧ y = x.2.v) (fun _ _ _ _ _ e => e) hD (fun H1 s1 => Same.tup s1 hp.sq) (by rw [List.length_map, Paired.length hq]; omega) ?_ ?_
    · rintro i x H1 H2 k hi s1 ⟨rfl, hx⟩ hk
      rw [List.getElem?_map] at hx
      obtain ⟨t, ht2, rfl⟩ := Option.map_eq_some_iff.mp hx
      obtain ⟨pr, hpr, hat⟩ := paired_get hq ht2
      exact ⟨t, _, rfl, Same.tup s1 hat, rfl, _, _, rfl, _, _, rfl, rfl, rfl, _, rfl, hk _ _ (Same.refl _) ⟨pr, hpr, rfl⟩⟩
    · rintro H1 acc s1 e1 hl hE
      refine q H1 D s1 hD ?_
      rw [e1]
      congr 2
      refine List.ext_getElem? fun j => ?_
      rw [List.getElem?_map]
      cases hz : acc[j]? with
      | none =>
        have h1 := List.getElem?_eq_none_iff.mp hz
        rw [List.length_map, Paired.length hq] at hl
        rw [List.getElem?_eq_none (by omega)]
        rfl
      | some y =>
        obtain ⟨x, h1, rfl⟩ := hE j y hz
        rw [h1]
        rfl
end
end Cs
namespace Cs
open PySem PySem.Spec L2
/-- what a deed's part is to be -/
inductive Nd where
  | n | k (kd : Kd)
def Nd.s : Nd → Str
  | .n => "n"
  | .k kd => kd.s
def fits (ns : Nm) : V → Nd → Prop
  | .int i, .n => near i
  | .str x, .k kd => look ns x = some kd
  | _, _ => False
theorem kd_not_n (kd : Kd) : ¬ kd.s = ("n" : Str) := by cases kd <;> decide +kernel
section
variable {P : Program} {w : World} {K : PySem.W.Frag} {mg : Str → Option Value} {base : Heap} {A : Adr}
/-- a list of truths -/
theorem trues {H1 : Hp} {D : Addr} {acc : List V} (e1 : H1 D = some (.lst acc)) (h : ∀ (i : Nat) y, acc[i]? = some y → y = .bl true) : SqL K H1 D ((List.replicate acc.length true).map V.bl) := by
  refine .inl (.inl ?_)
  rw [e1]
  congr 2
  refine List.ext_getElem? fun j => ?_
  rw [List.getElem?_map, List.getElem?_replicate]
  cases hz : acc[j]? with
  | none =>
    rw [if_neg (by have := List.getElem?_eq_none_iff.mp hz; omega)]
    rfl
  | some y =>
    rw [if_pos (List.getElem?_eq_some_iff.mp hz).1, h j y hz]
    rfl
theorem trues_all (n : Nat) : (List.replicate n true).all id = true := by simp
def spFit (K : PySem.W.Frag) (ns : Nm) : Sp := fun vs H Q _ => ∃ (p a d : Addr) (parts : List V) (nds : List Nd), vs = [.ref p, .ref a, .ref d] ∧ SqT K H p parts ∧ (SqT K H a (nds.map fun x => .str x.s) ∨ SqL K H a (nds.map fun x => .str x.s)) ∧
  H d = some (.dK (nmK ns)) ∧ Paired (fits ns) parts nds ∧ parts.length ≤ 1000 ∧ ∀ H1, Same H H1 → Q (.bl true) H1
theorem ok_all_fit (T : Tx K w mg A) (ns : Nm) : FnOk P w K mg base CX0 4 A.f_all_fit A.fd_all_fit P_all_fit (spFit K ns) := by
  have G_is_near := ok_is_near (P := P) (base := base) T
  have G_stands := ok_stands (P := P) (base := base) T ns
  refine T.F_all_fit.ok sc_all_fit (fun vs H Q E h => ?_) (fun cdv AA outer s H vs Q E hr h => ?_)
  · obtain ⟨p, a, d, parts, nds, rfl, _⟩ := h
    rfl
  · obtain ⟨p, a, d, parts, nds, rfl, hp, ha, hd, hf, hlen, q⟩ := h
    have hl := Paired.length hf
    refine ⟨_, (pss_cons (ps_if (pt_cmpR op_ne (pe_callB call_len (by rfl) T.n_len (by decide +kernel) (pa_cons (pv 0) pa_nil)) (pe_callB call_len (by rfl) T.n_len (by decide +kernel) (pa_cons (pv 1) pa_nil)) (nomark _))
  (pss_one (ps_ret pe_bl))
  pss_nil)
  (pss_one (ps_ret (pe_callB (cr_all rfl) (by rfl) T.n_all (by decide +kernel) (pa_cons (pe_lc (own := [("part", 3), ("want", 4)]) (g := (gTup K 2 (gCons (gName 3) (gCons (gName 4) gNil)))) (tt := tYes) (te := _) rfl sc_all_fit.nd (pi_or (RZ.pi_zipA (by rfl) T.n_zip (pa_cons (pv 0) (pa_cons (pv 1) pa_nil))) (pi_zipM (by rfl) T.n_zip (pa_cons (pv 0) (pa_cons (pv 1) pa_nil)))) (blkOk_by (N := N_all_fit) (sc := defScope s_all_fit) (by decide +kernel)) (fun _ _ _ _ _ => (pg_tup (by rfl) (pgs_cons (pg_name (i := 3) sc_all_fit.nd rfl (.inl rfl)) (pgs_cons (pg_name (i := 4) sc_all_fit.nd rfl (.inl rfl)) pgs_nil)))) (fun _ _ _ _ _ => pts_nil) (fun _ _ _ _ _ => (pe_ifExp (pt_cmpR op_eq (pv 4) pe_str (nomark _)) (pe_call G_is_near (hr.mono (by decide)) (by rfl) T.g_is_near T.F_is_near.kp T.b_is_near .nil pass0 (pa_cons (pv 3) pa_nil)) (pe_call G_stands (hr.mono (by decide)) (by rfl) T.g_stands T.F_stands.kp T.b_stands .nil pass0 (pa_cons (pv 3) (pa_cons (pv 4) (pa_cons (pv 2) pa_nil))))))) pa_nil))))), ?_⟩
    refine ⟨_, rfl, _, parts.length, rfl, .inr ⟨_, hp, rfl⟩, _, rfl, _, parts.length, rfl, ?_, rfl, _, rfl, ?_⟩
    · rcases ha with ha | ha
      · exact .inr ⟨_, ha, by rw [List.length_map]; exact hl⟩
      · exact .inl ⟨_, ha, by rw [List.length_map]; exact hl⟩
    refine itnd rfl ?_
    -- one turn, whatever is walked
    have turn : ∀ (i : Nat) (x : V) (H1 H2 : Hp) (k : V → Hp → Prop), Same H H1 → (∃ T x' y', x = .ref T ∧ H1 T = none ∧ H2 = upd H1 T (.tup [x', y']) ∧ parts[i]? = some x' ∧ (nds.map fun x => V.str x.s)[i]? = some y') → (∀ y H4, Same H1 H4 → y = V.bl true → k y H4) →
        gTup K 2 (gCons (gName 3) (gCons (gName 4) gNil)) x (wipe (L2.start N_all_fit [.ref p, .ref a, .ref d]) [3, 4]) H2 fun σ2 H3 => wipe σ2 [3, 4] = wipe (L2.start N_all_fit [.ref p, .ref a, .ref d]) [3, 4] ∧
          tIf (tTest (tOp rEq (tVar 4) (tC (.str "n")))) (tCall spNear [] (fun _ _ _ => False) (tCons (tVar 3) tNil)) (tCall (spStands ns) [] (fun _ _ _ => False) (tCons (tVar 3) (tCons (tVar 4) (tCons (tVar 2) tNil)))) σ2 H3 k := by
      rintro i x H1 H2 k s1 ⟨T, x', y', rfl, hT, rfl, hx, hy⟩ hk
      rw [List.getElem?_map] at hy
      obtain ⟨nd, hnd, rfl⟩ := Option.map_eq_some_iff.mp hy
      obtain ⟨nd', hnd', hfit⟩ := paired_get hf hx
      rw [hnd] at hnd'
      cases hnd'
      refine ⟨T, [x', .str nd.s], rfl, .inl (.inl upd_same), rfl, x', _, rfl, .str nd.s, _, rfl, rfl, rfl, _, rfl, rfl, _, rfl, ?_⟩
      cases nd with
      | n =>
        cases x' <;> first | exact hfit.elim | skip
        refine itd (p := V.str Nd.n.s = V.str "n") rfl ⟨_, rfl, _, rfl, hfit, hk _ _ (same_upd hT) rfl⟩
      | k kd =>
        cases x' <;> first | exact hfit.elim | skip
        refine itn (p := V.str (Nd.k kd).s = V.str "n") (fun z => kd_not_n kd (V.str.inj z)) ⟨_, rfl, _, rfl, .ref d, rfl, _, kd, d, rfl, ?_, hfit, hk _ _ (same_upd hT) rfl⟩
        exact same_upd hT _ _ (s1 _ _ hd)
    have fin : ∀ (D : Addr) (H1 : Hp) (acc : List V), Same H H1 → H1 D = some (.lst acc) → (∀ (i : Nat) y, acc[i]? = some y → y = .bl true) → ∃ (a : Addr) (bs : List Bool), [V.ref D] = [V.ref a] ∧ SqL K H1 a (bs.map V.bl) ∧ Q (.bl (bs.all id)) H1 := fun D H1 acc s1 e1 hE => by
      refine ⟨D, List.replicate acc.length true, rfl, trues e1 hE, ?_⟩
      rw [trues_all]
      exact q _ s1
    rcases ha with ha | ha
    · refine .inl ⟨_, rfl, _, rfl, p, a, _, _, rfl, .inr ⟨hp, ha, fun D hD => ?_⟩⟩
      refine lc_data (n := parts.length) (G := fun H1 => Same H H1) (Y := fun i H v H' => ∃ T x' y', v = .ref T ∧ H T = none ∧ H' = upd H T (.tup [x', y']) ∧ parts[i]? = some x' ∧ (nds.map fun x => V.str x.s)[i]? = some y') ⟨?_, ?_, ?_⟩
        (fun _ y _ => y = .bl true) (fun _ _ _ _ _ e => e) hD (fun _ s1 => s1) (by omega) (fun i x H1 H2 k hi s1 hy hk => turn i x H1 H2 k s1 hy hk) (fun H1 acc s1 e1 _ hE => fin D H1 acc s1 e1 hE)
      · intro i H1 hi s1
        exact ⟨parts, _, _, _, Same.tup s1 hp, Same.tup s1 ha, List.getElem?_eq_getElem hi, List.getElem?_eq_getElem (by rw [List.length_map]; omega)⟩
      · intro H1 s1
        exact ⟨parts, _, Same.tup s1 hp, Same.tup s1 ha, .inl (Nat.le_refl _)⟩
      · rintro i H1 v H2 hi s1 ⟨T, x, y, rfl, hT, rfl, f1, f2⟩
        exact ⟨T, x, y, rfl, hT, rfl, f1 _ (Same.tup s1 hp), f2 _ (Same.tup s1 ha)⟩
    · refine .inr ⟨_, rfl, _, rfl, p, a, _, _, rfl, hp, ha, fun D hD => ?_⟩
      refine lc_data (n := parts.length) (G := fun H1 => Same H H1) (Y := fun i H v H' => ∃ T x' y', v = .ref T ∧ H T = none ∧ H' = upd H T (.tup [x', y']) ∧ parts[i]? = some x' ∧ (nds.map fun x => V.str x.s)[i]? = some y') ⟨?_, ?_, ?_⟩
        (fun _ y _ => y = .bl true) (fun _ _ _ _ _ e => e) hD (fun _ s1 => s1) (by omega) (fun i x H1 H2 k hi s1 hy hk => turn i x H1 H2 k s1 hy hk) (fun H1 acc s1 e1 _ hE => fin D H1 acc s1 e1 hE)
      · intro i H1 hi s1
        exact ⟨Same.tup s1 hp, s1.seq ha, by rw [List.length_map]; omega⟩
      · intro H1 s1
        exact ⟨Same.tup s1 hp, s1.seq ha, by rw [List.length_map]; omega⟩
      · rintro i H1 v H2 hi s1 y
        exact y
end
end Cs
namespace Cs
open PySem PySem.Spec L2
section
variable {P : Program} {w : World} {K : PySem.W.Frag} {mg : Str → Option Value} {base : Heap} {A : Adr}
theorem fits_map {ns : Nm} : ∀ {xs : List Str} {ks : List Kd}, Paired (fun x kd => look ns x = some kd) xs ks → Paired (fits ns) (xs.map V.str) (ks.map Nd.k)
  | _, _, .nil => .nil
  | _, _, .cons h t => .cons h (fits_map t)
theorem imAll_strs {H : Hp} : ∀ {vs : List V} {xs : List Str}, ImAll K H vs (xs.map .str) → vs = xs.map V.str
  | _, [], h => all0 h
  | _, x :: xs, h => by
    obtain ⟨v, r, rfl, h1, h2⟩ := all_cons h
    rw [im_str h1, imAll_strs h2]
    rfl
/-- all that deed_kind and the like are told -/
structure Ctx (K : PySem.W.Frag) (H : Hp) (pgv : V) (fs : List Fn) (d : Addr) (ns : Nm) : Prop where
  pg : PgAt K H pgv fs
  okl : fs.length ≤ 6
  few : ∀ f ∈ fs, f.ps.length ≤ 4
  nm : H d = some (.dK (nmK ns))
theorem Ctx.same {H H1 : Hp} {pgv : V} {fs : List Fn} {d : Addr} {ns : Nm} (c : Ctx K H pgv fs d ns) (s : Same H H1) : Ctx K H1 pgv fs d ns := ⟨c.pg.same (sameI_of s), c.okl, c.few, s _ _ c.nm⟩
def spDeed (K : PySem.W.Frag) (fs : List Fn) (ns : Nm) (dd : Dd) : Sp := fun vs H Q _ => ∃ (pgv dv : V) (d : Addr) (kd : Kd), vs = [pgv, dv, .ref d] ∧ Ctx K H pgv fs d ns ∧ Im K H dv dd.d ∧ dd.ok (fs.map Fn.hd) ns kd ∧ ∀ H1, Same H H1 → Q kd.v H1
theorem ok_call_kind (T : Tx K w mg A) (fs : List Fn) (ns : Nm) (f : Nat) (xs : List Str) : FnOk P w K mg base CX0 5 A.f_call_kind A.fd_call_kind P_call_kind (spDeed K fs ns (.call f xs)) := by
  have G_is_row := ok_is_row (P := P) (base := base) T
  have G_is_between := ok_is_between (P := P) (base := base) T
  have G_all_fit := ok_all_fit (P := P) (base := base) T ns
  have G_kinds_ahead := ok_kinds_ahead (P := P) (base := base) T
  refine T.F_call_kind.ok sc_call_kind (fun vs H Q E h => ?_) (fun cdv AA outer s H vs Q E hr h => ?_)
  · obtain ⟨pgv, dv, d, kd, rfl, _⟩ := h
    rfl
  · obtain ⟨pgv, dv, d, kd, rfl, C, hd, ⟨h1, h, hh, hf, rfl⟩, q⟩ := h
    obtain ⟨da, dxs, rfl, hdt, hall⟩ := im_tup hd
    obtain ⟨v0, r0, rfl, i0, hall⟩ := all_cons hall
    obtain ⟨v1, r1, rfl, i1, hall⟩ := all_cons hall
    obtain ⟨v2, r2, rfl, i2, hall⟩ := all_cons hall
    obtain rfl := all0 hall
    obtain rfl := im_str i0
    obtain rfl := im_int i1
    obtain ⟨na, nxs, rfl, hnt, hnall⟩ := im_tup i2
    obtain rfl := imAll_strs hnall
    obtain ⟨pa, pvs, rfl, hpt, hpall⟩ := C.pg
    have hlp := Paired.length hpall
    rw [List.getElem?_map] at hh
    obtain ⟨fn, hfn, rfl⟩ := Option.map_eq_some_iff.mp hh
    have hlt : f < fs.length := (List.getElem?_eq_some_iff.mp hfn).1
    obtain ⟨fv, hfv, hfat⟩ := paired_get' hpall hfn
    obtain ⟨fa, fp, ftv, fqs, rfl, hft, hfpl, hfps, hftr⟩ := id hfat
    have few := C.few fn (List.mem_of_getElem? hfn)
    refine ⟨_, (pss_cons (ps_if (PW.pt (pw_or (pt_not (pt_val (pe_call G_is_row (hr.mono (by decide)) (by rfl) T.g_is_row T.F_is_row.kp T.b_is_row .nil pass0 (pa_cons (pv 1) (pa_cons pe_int pa_nil))))) (pw_or1 (pt_not (pt_val (pe_call G_is_between (hr.mono (by decide)) (by rfl) T.g_is_between T.F_is_between.kp T.b_is_between .nil pass0 (pa_cons (pe_ix ix_tup (pv 1) pe_int (fun _ _ => rfl)) (pa_cons pe_int (pa_cons (pe_op op_sub (pe_callB call_len (by rfl) T.n_len (by decide +kernel) (pa_cons (pv 0) pa_nil)) pe_int) pa_nil)))))))))
  (pss_one (ps_ret pe_non))
  pss_nil)
  (pss_cons (ps_set (i := 3) sc_call_kind.nd rfl (.inl rfl) (pe_ix ix_tup (pv 0) (pe_ix ix_tup (pv 1) pe_int (fun _ _ => rfl)) (fun _ _ => rfl)))
  (pss_cons (ps_if (PW.pt (pw_or (pt_not (pt_val (pe_callB call_isi (by rfl) T.n_isinstance (by decide +kernel) (pa_cons (pe_ix ix_tup (pv 1) pe_int (fun _ _ => rfl)) (pa_cons (pe_bltn (v := .ty "tuple") (u := .type "tuple") (by rfl) T.n_tuple (by decide +kernel) rfl) pa_nil))))) (pw_or1 (pt_not (pt_val (pe_call G_all_fit (hr.mono (by decide)) (by rfl) T.g_all_fit T.F_all_fit.kp T.b_all_fit .nil pass0 (pa_cons (pe_ix ix_tup (pv 1) pe_int (fun _ _ => rfl)) (pa_cons (pe_call G_kinds_ahead (hr.mono (by decide)) (by rfl) T.g_kinds_ahead T.F_kinds_ahead.kp T.b_kinds_ahead .nil pass0 (pa_cons (pv 3) pa_nil)) (pa_cons (pv 2) pa_nil)))))))))
  (pss_one (ps_ret pe_non))
  pss_nil)
  (pss_one (ps_ret (pe_ix ix_tup (pv 3) pe_int (fun _ _ => rfl))))))), ?_⟩
    refine ⟨_, rfl, da, _, 3, rfl, hdt, _, rfl, iteF ⟨_, rfl, _, _, _, _, rfl, rfl, hdt, atI_nat (j := 1) rfl, .ref pa, rfl, _, pvs.length, rfl, .inr ⟨_, hpt, rfl⟩, _, _, rfl, rfl, (f : Int), 1, (pvs.length : Int) - 1, rfl, _, rfl, ?_⟩⟩
    rw [decide_eq_true (show (1 : Int) ≤ (f : Int) ∧ (f : Int) ≤ (pvs.length : Int) - 1 by omega)]
    refine iteF ?_
    refine ⟨_, rfl, _, rfl, _, _, _, _, rfl, rfl, hdt, atI_nat (j := 1) rfl, _, _, _, _, rfl, rfl, hpt, atI_nat hfv, ?_⟩
    refine ⟨_, rfl, _, _, _, _, rfl, rfl, hdt, atI_nat (j := 2) rfl, _, _, _, _, true, rfl, .ty "tuple", tyx_tup hnt, kv (by decide +kernel), true, rfl, iteF ?_⟩
    refine ⟨_, rfl, _, _, _, _, rfl, rfl, hdt, atI_nat (j := 2) rfl, .ref fa, rfl, .ref fa, fn, rfl, hfat, by omega, fun H1 l s1 nl el => ?_⟩
    have C1 := C.same s1
    refine ⟨_, rfl, na, l, d, xs.map V.str, fn.hd.1.map Nd.k, rfl, Same.tup s1 hnt, .inr (.inl (.inl ?_)), C1.nm, fits_map hf, ?_, fun H2 s2 => ⟨_, rfl, iteF ?_⟩⟩
    · rw [el]
      show _ = some (HO.lst (((fn.ps.map (·.2)).map Nd.k).map fun x => V.str x.s))
      rw [List.map_map, List.map_map]
      rfl
    · have e := Paired.length hf
      rw [List.length_map, e]
      show (fn.ps.map (·.2)).length ≤ 1000
      rw [List.length_map]
      omega
    · exact ⟨_, rfl, _, _, _, _, rfl, rfl, Same.tup s2 (Same.tup s1 hft), atI_nat (j := 1) rfl, q _ (s1.trans s2)⟩
end
end Cs
namespace Cs
open PySem PySem.Spec L2
section
variable {P : Program} {w : World} {K : PySem.W.Frag} {mg : Str → Option Value} {base : Heap} {A : Adr}
theorem im2 {H : Hp} {vs : List V} {d1 d2 : PyData} (h : ImAll K H vs [d1, d2]) : ∃ v1 v2, vs = [v1, v2] ∧ Im K H v1 d1 ∧ Im K H v2 d2 := by
  obtain ⟨v1, r1, rfl, h1, h⟩ := all_cons h
  obtain ⟨v2, r2, rfl, h2, h⟩ := all_cons h
  obtain rfl := all0 h
  exact ⟨v1, v2, rfl, h1, h2⟩
theorem im1 {H : Hp} {vs : List V} {d1 : PyData} (h : ImAll K H vs [d1]) : ∃ v1, vs = [v1] ∧ Im K H v1 d1 := by
  obtain ⟨v1, r1, rfl, h1, h⟩ := all_cons h
  obtain rfl := all0 h
  exact ⟨v1, rfl, h1⟩
/-- the row of the table for a deed that is no call -/
theorem deed_row (T : Tx K w mg A) {hs : Hd} {ns : Nm} {dd : Dd} {kd : Kd} (h : dd.ok hs ns kd) (hc : ∀ f xs, dd ≠ .call f xs) :
    ∃ (z : Str) (ds : List PyData) (nds : List Nd) (ea wa : Addr), dd.d = .tuple (.str z :: ds) ∧ z ≠ "call" ∧ KDct K w A.a_DEEDS z (.ref ea) ∧ (∀ H, SqT K H ea [.ref wa, kd.v]) ∧ (∀ H, SqT K H wa (nds.map fun x => .str x.s)) ∧ nds.length ≤ 2 ∧
      ∀ H vs, ImAll K H vs ds → Paired (fits ns) vs nds := by
  cases dd with
  | num n =>
    obtain ⟨h1, rfl⟩ := h
    refine ⟨_, _, [.n], _, _, rfl, by decide +kernel, T.y_DEEDS_num, T.q_DEEDS_num, T.q_DEEDS_num_0, by decide, fun H vs hv => ?_⟩
    obtain ⟨v1, rfl, i1⟩ := im1 hv
    obtain rfl := im_int i1
    exact .cons h1 .nil
  | sum x n =>
    obtain ⟨h1, h2, rfl⟩ := h
    refine ⟨_, _, [.k .num, .n], _, _, rfl, by decide +kernel, T.y_DEEDS_sum, T.q_DEEDS_sum, T.q_DEEDS_sum_0, by decide, fun H vs hv => ?_⟩
    obtain ⟨v1, v2, rfl, i1, i2⟩ := im2 hv
    obtain rfl := im_str i1
    obtain rfl := im_int i2
    exact .cons h1 (.cons h2 .nil)
  | len l =>
    obtain ⟨h1, rfl⟩ := h
    refine ⟨_, _, [.k .lst], _, _, rfl, by decide +kernel, T.y_DEEDS_len, T.q_DEEDS_len, T.q_DEEDS_len_0, by decide, fun H vs hv => ?_⟩
    obtain ⟨v1, rfl, i1⟩ := im1 hv
    obtain rfl := im_str i1
    exact .cons h1 .nil
  | nil =>
    obtain rfl := h
    refine ⟨_, _, [], _, _, rfl, by decide +kernel, T.y_DEEDS_nil, T.q_DEEDS_nil, T.q_DEEDS_nil_0, by decide, fun H vs hv => ?_⟩
    obtain rfl := all0 hv
    exact .nil
  | put x l =>
    obtain ⟨h1, h2, rfl⟩ := h
    refine ⟨_, _, [.k .num, .k .lst], _, _, rfl, by decide +kernel, T.y_DEEDS_put, T.q_DEEDS_put, T.q_DEEDS_put_0, by decide, fun H vs hv => ?_⟩
    obtain ⟨v1, v2, rfl, i1, i2⟩ := im2 hv
    obtain rfl := im_str i1
    obtain rfl := im_str i2
    exact .cons h1 (.cons h2 .nil)
  | head l =>
    obtain ⟨h1, rfl⟩ := h
    refine ⟨_, _, [.k .lst], _, _, rfl, by decide +kernel, T.y_DEEDS_head, T.q_DEEDS_head, T.q_DEEDS_head_0, by decide, fun H vs hv => ?_⟩
    obtain ⟨v1, rfl, i1⟩ := im1 hv
    obtain rfl := im_str i1
    exact .cons h1 .nil
  | tail l =>
    obtain ⟨h1, rfl⟩ := h
    refine ⟨_, _, [.k .lst], _, _, rfl, by decide +kernel, T.y_DEEDS_tail, T.q_DEEDS_tail, T.q_DEEDS_tail_0, by decide, fun H vs hv => ?_⟩
    obtain ⟨v1, rfl, i1⟩ := im1 hv
    obtain rfl := im_str i1
    exact .cons h1 .nil
  | at_ l x =>
    obtain ⟨h1, h2, rfl⟩ := h
    refine ⟨_, _, [.k .lst, .k .num], _, _, rfl, by decide +kernel, T.y_DEEDS_at, T.q_DEEDS_at, T.q_DEEDS_at_0, by decide, fun H vs hv => ?_⟩
    obtain ⟨v1, v2, rfl, i1, i2⟩ := im2 hv
    obtain rfl := im_str i1
    obtain rfl := im_str i2
    exact .cons h1 (.cons h2 .nil)
  | ask =>
    obtain rfl := h
    refine ⟨_, _, [], _, _, rfl, by decide +kernel, T.y_DEEDS_ask, T.q_DEEDS_ask, T.q_DEEDS_ask_0, by decide, fun H vs hv => ?_⟩
    obtain rfl := all0 hv
    exact .nil
  | call f xs => exact absurd rfl (hc f xs)
theorem ok_deed_kind (T : Tx K w mg A) (fs : List Fn) (ns : Nm) (dd : Dd) : FnOk P w K mg base CX0 6 A.f_deed_kind A.fd_deed_kind P_deed_kind (spDeed K fs ns dd) := by
  have G_has_word := ok_has_word (P := P) (base := base) T
  have G_all_fit := ok_all_fit (P := P) (base := base) T ns
  have G_call_kind : FnOk P w K mg base CX0 5 A.f_call_kind A.fd_call_kind P_call_kind (fun vs H Q E => ∃ f xs, dd = .call f xs ∧ spDeed K fs ns (.call f xs) vs H Q E) :=
    ⟨fun vs H Q E ⟨f, xs, _, h⟩ => (ok_call_kind (P := P) (base := base) T fs ns f xs).len vs H Q E h, fun AA outer s H args us vs Q E hr he hb hv ⟨f, xs, _, h⟩ => (ok_call_kind (P := P) (base := base) T fs ns f xs).run AA outer s H args us vs Q E hr he hb hv h⟩
  refine T.F_deed_kind.ok sc_deed_kind (fun vs H Q E h => ?_) (fun cdv AA outer s H vs Q E hr h => ?_)
  · obtain ⟨pgv, dv, d, kd, rfl, _⟩ := h
    rfl
  · obtain ⟨pgv, dv, d, kd, rfl, C, hd, hok, q⟩ := h
    refine ⟨_, (pss_cons (ps_if (pt_not (pt_val (pe_call G_has_word (hr.mono (by decide)) (by rfl) T.g_has_word T.F_has_word.kp T.b_has_word .nil pass0 (pa_cons (pv 1) pa_nil))))
  (pss_one (ps_ret pe_non))
  pss_nil)
  (pss_cons (ps_if (pt_cmpR op_eq (pe_ix ix_tup (pv 1) pe_int (fun _ _ => rfl)) pe_str (nomark _))
  (pss_one (ps_ret (pe_call G_call_kind (hr.mono (by decide)) (by rfl) T.g_call_kind T.F_call_kind.kp T.b_call_kind .nil pass0 (pa_cons (pv 0) (pa_cons (pv 1) (pa_cons (pv 2) pa_nil))))))
  pss_nil)
  (pss_cons (ps_if (pt_cmpR (op_notIn_kd T.d_DEEDS) (pe_ix ix_tup (pv 1) pe_int (fun _ _ => rfl)) (pe_glob (v := .ref A.a_DEEDS) rfl T.c_DEEDS rfl) (by rfl))
  (pss_one (ps_ret pe_non))
  pss_nil)
  (pss_cons (ps_asg (pe_ix ix_kdict (pe_glob (v := .ref A.a_DEEDS) rfl T.c_DEEDS rfl) (pe_ix ix_tup (pv 1) pe_int (fun _ _ => rfl)) (fun _ _ => rfl)) (pg_tup (by rfl) (pgs_cons (pg_name (i := 3) sc_deed_kind.nd rfl (.inl rfl)) (pgs_cons (pg_name (i := 4) sc_deed_kind.nd rfl (.inl rfl)) pgs_nil))))
  (pss_one (ps_ret (pe_ifExp (pt_val (pe_call G_all_fit (hr.mono (by decide)) (by rfl) T.g_all_fit T.F_all_fit.kp T.b_all_fit .nil pass0 (pa_cons (pe_slice sl_tup (pv 1) (po_some pe_int) po_none) (pa_cons (pv 3) (pa_cons (pv 2) pa_nil))))) (pv 4) pe_non))))))), ?_⟩
    by_cases hc : ∃ f xs, dd = .call f xs
    · obtain ⟨f, xs, rfl⟩ := hc
      obtain ⟨da, dxs, rfl, hdt, hall⟩ := im_tup hd
      obtain ⟨v0, r0, rfl, i0, _⟩ := all_cons hall
      obtain rfl := im_str i0
      refine ⟨_, rfl, da, _, _, rfl, hdt, _, rfl, iteF ?_⟩
      refine ⟨_, rfl, _, _, _, _, rfl, rfl, hdt, atI_nat (j := 0) rfl, rfl, _, rfl, itd (p := V.str "call" = V.str "call") rfl ?_⟩
      exact ⟨_, rfl, _, rfl, _, rfl, f, xs, rfl, pgv, _, d, kd, rfl, C, hd, hok, fun H1 s1 => q H1 s1⟩
    · obtain ⟨z, ds, nds, ea, wa, ed, hz, hk, he, hw, hl2, hf⟩ := deed_row T hok (fun f xs e => hc ⟨f, xs, e⟩)
      rw [ed] at hd
      obtain ⟨da, dxs, rfl, hdt, hall⟩ := im_tup hd
      obtain ⟨v0, r0, rfl, i0, hal2⟩ := all_cons hall
      obtain rfl := im_str i0
      have hfit := hf H r0 hal2
      refine ⟨_, rfl, da, _, _, rfl, hdt, _, rfl, iteF ?_⟩
      refine ⟨_, rfl, _, _, _, _, rfl, rfl, hdt, atI_nat (j := 0) rfl, rfl, _, rfl, itn (p := V.str z = V.str "call") (fun e => hz (V.str.inj e)) ?_⟩
      obtain ⟨es, n, u, k1, k2, k3, k4⟩ := id hk
      refine ⟨_, rfl, _, _, _, _, rfl, rfl, hdt, atI_nat (j := 0) rfl, z, _, rfl, rfl, k3, _, rfl, iteF ?_⟩
      refine ⟨_, rfl, _, _, _, _, rfl, rfl, hdt, atI_nat (j := 0) rfl, _, z, _, rfl, rfl, hk, ea, _, rfl, he _, rfl, .ref wa, _, rfl, kd.v, _, rfl, rfl, ?_⟩
      refine ⟨_, rfl, 1, rfl, da, _, rfl, hdt, ?_, fun p hp => ?_⟩
      · rintro ⟨e1, _⟩
        rw [show HT.sIx (V.str z :: r0).length 0 (some 1) = min 1 (V.str z :: r0).length from HT.sIx_nat _ 0 1] at e1
        rw [List.length_cons] at e1
        omega
      · have ec : cutV (V.str z :: r0) (some 1) none = r0 := by
          unfold cutV
          rw [show HT.sIx (V.str z :: r0).length 0 (some 1) = min 1 (V.str z :: r0).length from HT.sIx_nat _ 0 1, HT.sIx_none, List.length_cons, Nat.min_eq_left (by omega)]
          show List.take (r0.length + 1 - 1) r0 = r0
          rw [Nat.add_sub_cancel]
          exact List.take_length
        rw [ec]
        have s1 : Same H (upd H p (.tup r0)) := same_upd hp
        refine ⟨_, rfl, _, rfl, p, wa, d, r0, nds, rfl, .inl (.inl upd_same), .inl (hw _), s1 _ _ C.nm, hfit, ?_, fun H1 s2 => ⟨true, rfl, iteT ⟨_, rfl, q _ (s1.trans s2)⟩⟩⟩
        have := Paired.length hfit
        omega
end
end Cs
namespace Cs
open PySem PySem.Spec L2
section
variable {P : Program} {w : World} {K : PySem.W.Frag} {mg : Str → Option Value} {base : Heap} {A : Adr}
theorem cut1 (z : V) (r : List V) : cutV (z :: r) (some 1) none = r := by
  unfold cutV
  rw [show HT.sIx (z :: r).length 0 (some 1) = min 1 (z :: r).length from HT.sIx_nat _ 0 1, HT.sIx_none, List.length_cons, Nat.min_eq_left (by omega)]
  show List.take (r.length + 1 - 1) r = r
  rw [Nat.add_sub_cancel]
  exact List.take_length
theorem cut1_not (z : V) (r : List V) : ¬ (HT.sIx (z :: r).length 0 (some 1) = 0 ∧ HT.sIx (z :: r).length (z :: r).length none = (z :: r).length) := by
  rintro ⟨e1, _⟩
  rw [show HT.sIx (z :: r).length 0 (some 1) = min 1 (z :: r).length from HT.sIx_nat _ 0 1, List.length_cons] at e1
  omega
theorem cutTo (n : Nat) (xs ys : List V) (h : xs.length = n) : cutV (xs ++ ys) none (some (n : Int)) = xs := by
  unfold cutV
  rw [HT.sIx_none, show HT.sIx (xs ++ ys).length (xs ++ ys).length (some (n : Int)) = min n (xs ++ ys).length from HT.sIx_nat _ _ n, List.length_append, h, Nat.min_eq_left (by omega)]
  show List.take (n - 0) (xs ++ ys) = xs
  rw [Nat.sub_zero, ← h]
  simp
theorem cutFrom (n : Nat) (xs ys : List V) (h : xs.length = n) : cutV (xs ++ ys) (some (n : Int)) none = ys := by
  unfold cutV
  rw [HT.sIx_none, show HT.sIx (xs ++ ys).length 0 (some (n : Int)) = min n (xs ++ ys).length from HT.sIx_nat _ _ n, List.length_append, h, Nat.min_eq_left (by omega)]
  rw [← h, List.drop_left, Nat.add_sub_cancel_left]
  exact List.take_length
theorem sIx4 (xs : List V) (d : Nat) (n : Nat) : HT.sIx xs.length d (some (n : Int)) = min n xs.length := HT.sIx_nat _ _ n
def spMeasure (K : PySem.W.Frag) (ns : Nm) (m : Ms) : Sp := fun vs H Q _ => ∃ (mv : V) (d : Addr), vs = [mv, .ref d] ∧ Im K H mv m.d ∧ H d = some (.dK (nmK ns)) ∧ m.ok ns ∧ Q (.bl true) H
theorem ok_is_measure (T : Tx K w mg A) (ns : Nm) (m : Ms) : FnOk P w K mg base CX0 2 A.f_is_measure A.fd_is_measure P_is_measure (spMeasure K ns m) := by
  have G_is_row := ok_is_row (P := P) (base := base) T
  have G_has_word := ok_has_word (P := P) (base := base) T
  have G_stands := ok_stands (P := P) (base := base) T ns
  refine T.F_is_measure.ok sc_is_measure (fun vs H Q E h => ?_) (fun cdv AA outer s H vs Q E hr h => ?_)
  · obtain ⟨mv, d, rfl, _⟩ := h
    rfl
  · obtain ⟨mv, d, rfl, hm, hd, hok, q⟩ := h
    refine ⟨_, (pss_cons (ps_if (pt_val (pe_call G_is_row (hr.mono (by decide)) (by rfl) T.g_is_row T.F_is_row.kp T.b_is_row .nil pass0 (pa_cons (pv 0) (pa_cons pe_int pa_nil))))
  (pss_one (ps_ret pe_bl))
  pss_nil)
  (pss_cons (ps_if (PW.pt (pw_or (pt_not (pt_val (pe_call G_is_row (hr.mono (by decide)) (by rfl) T.g_is_row T.F_is_row.kp T.b_is_row .nil pass0 (pa_cons (pv 0) (pa_cons pe_int pa_nil))))) (pw_or (pt_not (pt_val (pe_call G_has_word (hr.mono (by decide)) (by rfl) T.g_has_word T.F_has_word.kp T.b_has_word .nil pass0 (pa_cons (pv 0) pa_nil)))) (pw_or1 (pt_cmpR (op_notIn_kd T.d_MEASURES) (pe_ix ix_tup (pv 0) pe_int (fun _ _ => rfl)) (pe_glob (v := .ref A.a_MEASURES) rfl T.c_MEASURES rfl) (by rfl))))))
  (pss_one (ps_ret pe_bl))
  pss_nil)
  (pss_one (ps_ret (pe_call G_stands (hr.mono (by decide)) (by rfl) T.g_stands T.F_stands.kp T.b_stands .nil pass0 (pa_cons (pe_ix ix_tup (pv 0) pe_int (fun _ _ => rfl)) (pa_cons (pe_ix ix_kdict (pe_glob (v := .ref A.a_MEASURES) rfl T.c_MEASURES rfl) (pe_ix ix_tup (pv 0) pe_int (fun _ _ => rfl)) (fun _ _ => rfl)) (pa_cons (pv 1) pa_nil)))))))), ?_⟩
    cases m with
    | zero =>
      obtain ⟨a, xs, rfl, ha, hall⟩ := im_tup hm
      obtain rfl := all0 hall
      exact ⟨_, rfl, a, _, 0, rfl, ha, _, rfl, iteT q⟩
    | of x =>
      obtain ⟨a, xs, rfl, ha, hall⟩ := im_tup hm
      obtain ⟨v1, v2, rfl, i1, i2⟩ := im2 hall
      obtain rfl := im_str i1
      obtain rfl := im_str i2
      have hk := T.y_MEASURES_of
      obtain ⟨es, n, u, k1, k2, k3, k4⟩ := id hk
      refine ⟨_, rfl, a, _, 0, rfl, ha, _, rfl, iteF ?_⟩
      refine ⟨_, rfl, a, _, 2, rfl, ha, _, rfl, iteF ⟨_, rfl, a, _, _, rfl, ha, _, rfl, iteF ⟨_, rfl, _, _, _, _, rfl, rfl, ha, atI_nat (j := 0) rfl, _, _, rfl, rfl, k3, _, rfl, iteF ?_⟩⟩⟩
      exact ⟨_, rfl, _, _, _, _, rfl, rfl, ha, atI_nat (j := 1) rfl, _, rfl, _, _, _, _, rfl, rfl, ha, atI_nat (j := 0) rfl, _, _, _, rfl, rfl, hk, _, rfl, x, .num, d, rfl, hd, hok, q⟩
    | len x =>
      obtain ⟨a, xs, rfl, ha, hall⟩ := im_tup hm
      obtain ⟨v1, v2, rfl, i1, i2⟩ := im2 hall
      obtain rfl := im_str i1
      obtain rfl := im_str i2
      have hk := T.y_MEASURES_len
      obtain ⟨es, n, u, k1, k2, k3, k4⟩ := id hk
      refine ⟨_, rfl, a, _, 0, rfl, ha, _, rfl, iteF ?_⟩
      refine ⟨_, rfl, a, _, 2, rfl, ha, _, rfl, iteF ⟨_, rfl, a, _, _, rfl, ha, _, rfl, iteF ⟨_, rfl, _, _, _, _, rfl, rfl, ha, atI_nat (j := 0) rfl, _, _, rfl, rfl, k3, _, rfl, iteF ?_⟩⟩⟩
      exact ⟨_, rfl, _, _, _, _, rfl, rfl, ha, atI_nat (j := 1) rfl, _, rfl, _, _, _, _, rfl, rfl, ha, atI_nat (j := 0) rfl, _, _, _, rfl, rfl, hk, _, rfl, x, .lst, d, rfl, hd, hok, q⟩
def spCompared (K : PySem.W.Frag) (ns : Nm) (a b : Ms) : Sp := fun vs H Q _ => ∃ (ta d : Addr) (w0 v1 v2 : V) (n : Int) (more : List V), vs = [.ref ta, .ref d] ∧ SqT K H ta ([w0, v1, v2, .int n] ++ more) ∧ more ≠ [] ∧ Im K H v1 a.d ∧ Im K H v2 b.d ∧ near n ∧ H d = some (.dK (nmK ns)) ∧ a.ok ns ∧ b.ok ns ∧
  ∀ H1, Same H H1 → Q (.bl true) H1
theorem ok_is_compared (T : Tx K w mg A) (ns : Nm) (a b : Ms) : FnOk P w K mg base CX0 4 A.f_is_compared A.fd_is_compared P_is_compared (spCompared K ns a b) := by
  have G_is_measure : FnOk P w K mg base CX0 2 A.f_is_measure A.fd_is_measure P_is_measure (fun vs H Q E => ∃ m, spMeasure K ns m vs H Q E) :=
    ⟨fun vs H Q E ⟨m, h⟩ => (ok_is_measure (P := P) (base := base) T ns m).len vs H Q E h, fun AA outer s H args us vs Q E hr he hb hv ⟨m, h⟩ => (ok_is_measure (P := P) (base := base) T ns m).run AA outer s H args us vs Q E hr he hb hv h⟩
  have G_is_near := ok_is_near (P := P) (base := base) T
  refine T.F_is_compared.ok sc_is_compared (fun vs H Q E h => ?_) (fun cdv AA outer s H vs Q E hr h => ?_)
  · obtain ⟨ta, d, w0, v1, v2, n, more, rfl, _⟩ := h
    rfl
  · obtain ⟨ta, d, w0, v1, v2, n, more, rfl, ha, hmore, i1, i2, hn, hd, o1, o2, q⟩ := h
    refine ⟨_, (pss_cons (ps_asg (pe_slice sl_tup (pv 0) po_none (po_some pe_int)) (pg_tup (by rfl) (pgs_cons (pg_name (i := 2) sc_is_compared.nd rfl (.inl rfl)) (pgs_cons (pg_name (i := 3) sc_is_compared.nd rfl (.inl rfl)) (pgs_cons (pg_name (i := 4) sc_is_compared.nd rfl (.inl rfl)) (pgs_cons (pg_name (i := 5) sc_is_compared.nd rfl (.inl rfl)) pgs_nil))))))
  (pss_one (ps_ret (pe_and (pe_call G_is_measure (hr.mono (by decide)) (by rfl) T.g_is_measure T.F_is_measure.kp T.b_is_measure .nil pass0 (pa_cons (pv 3) (pa_cons (pv 1) pa_nil))) (pe_and (pe_call G_is_measure (hr.mono (by decide)) (by rfl) T.g_is_measure T.F_is_measure.kp T.b_is_measure .nil pass0 (pa_cons (pv 4) (pa_cons (pv 1) pa_nil))) (pe_one (pe_call G_is_near (hr.mono (by decide)) (by rfl) T.g_is_near T.F_is_near.kp T.b_is_near .nil pass0 (pa_cons (pv 5) pa_nil)))))))), ?_⟩
    refine ⟨_, rfl, 4, rfl, ta, _, rfl, ha, ?_, fun p hp => ?_⟩
    · rintro ⟨_, e2⟩
      have e3 : HT.sIx ([w0, v1, v2, V.int n] ++ more).length ([w0, v1, v2, V.int n] ++ more).length (some 4) = min 4 ([w0, v1, v2, V.int n] ++ more).length := HT.sIx_nat _ _ 4
      rw [e3] at e2
      cases more with
      | nil => exact hmore rfl
      | cons x r =>
        rw [List.length_append, List.length_cons] at e2
        simp only [List.length_cons, List.length_nil] at e2
        omega
    · have ec : cutV ([w0, v1, v2, .int n] ++ more) none (some 4) = [w0, v1, v2, .int n] := cutTo 4 _ _ rfl
      have s1 : Same H (upd H p (.tup (cutV ([w0, v1, v2, .int n] ++ more) none (some 4)))) := same_upd hp
      rw [ec] at s1 ⊢
      refine ⟨p, _, rfl, .inl (.inl upd_same), rfl, _, _, rfl, _, _, rfl, _, _, rfl, _, _, rfl, rfl, ?_⟩
      exact ⟨_, rfl, _, rfl, a, v1, d, rfl, i1.same (sameI_of s1), s1 _ _ hd, o1, true, rfl, iteT ⟨_, rfl, _, rfl, b, v2, d, rfl, i2.same (sameI_of s1), s1 _ _ hd, o2, true, rfl, iteT ⟨_, rfl, n, rfl, hn, q _ s1⟩⟩⟩
end
end Cs
namespace Cs
open PySem PySem.Spec L2
section
variable {P : Program} {w : World} {K : PySem.W.Frag} {mg : Str → Option Value} {base : Heap} {A : Adr}
/-- a tree within, with the names that stand there -/
def KidAt (K : PySem.W.Frag) (H : Hp) (v : V) (q : Tr × Nm) : Prop := ∃ a tv d, v = .ref a ∧ SqT K H a [tv, .ref d] ∧ Im K H tv q.1.d ∧ H d = some (.dK (nmK q.2))
theorem KidAt.same {H H1 : Hp} (s : Same H H1) {v : V} {q : Tr × Nm} : KidAt K H v q → KidAt K H1 v q
  | ⟨a, tv, d, e, h1, h2, h3⟩ => ⟨a, tv, d, e, Same.tup s h1, h2.same (sameI_of s), s _ _ h3⟩
/-- what stands just within a tree -/
def Kids (hs : Hd) (kd : Kd) (ns : Nm) (t : Tr) (ks : List (Tr × Nm)) : Prop :=
  (∀ q ∈ ks, Tr.ok hs kd q.2 q.1 ∧ q.1.deep + 1 ≤ t.deep ∧ q.2.length ≤ ns.length + 1) ∧ (ks.map fun q => q.1.size).sum + 1 = t.size ∧ ks.length ≤ 2
def spWithin (K : PySem.W.Frag) (fs : List Fn) (ns : Nm) (kd : Kd) (t : Tr) : Hp → (V → Hp → Prop) → Prop := fun H Q =>
  ∀ H1 l acc ks, Same H H1 → H l = none → H1 l = some (.lst acc) → Paired (KidAt K H1) acc ks → Kids (fs.map Fn.hd) kd ns t ks → Q (.ref l) H1
def spLet (K : PySem.W.Frag) (fs : List Fn) (ns : Nm) (kd : Kd) (x : Str) (dd : Dd) (t : Tr) : Sp := fun vs H Q _ => ∃ (pgv tv : V) (d : Addr), vs = [pgv, tv, .ref d] ∧ Ctx K H pgv fs d ns ∧ Im K H tv (Tr.let_ x dd t).d ∧ Tr.ok (fs.map Fn.hd) kd ns (.let_ x dd t) ∧ ns.length ≤ 100 ∧
  spWithin K fs ns kd (.let_ x dd t) H Q
theorem ok_within_let (T : Tx K w mg A) (fs : List Fn) (ns : Nm) (kd : Kd) (x : Str) (dd : Dd) (t : Tr) : FnOk P w K mg base CX0 7 A.f_within_let A.fd_within_let P_within_let (spLet K fs ns kd x dd t) := by
  have G_is_name := ok_is_name (P := P) (base := base) T
  have G_deed_kind := ok_deed_kind (P := P) (base := base) T fs ns dd
  refine T.F_within_let.ok sc_within_let (fun vs H Q E h => ?_) (fun cdv AA outer s H vs Q E hr h => ?_)
  · obtain ⟨pgv, tv, d, rfl, _⟩ := h
    rfl
  · obtain ⟨pgv, tv, d, rfl, C, ht, ⟨hx, hlk, k, hdd, hin⟩, hns, q⟩ := h
    obtain ⟨ta, xs, rfl, hta, hall⟩ := im_tup ht
    obtain ⟨v0, r0, rfl, i0, hall⟩ := all_cons hall
    obtain ⟨v1, r1, rfl, i1, hall⟩ := all_cons hall
    obtain ⟨v2, r2, rfl, i2, hall⟩ := all_cons hall
    obtain ⟨v3, r3, rfl, i3, hall⟩ := all_cons hall
    obtain rfl := all0 hall
    obtain rfl := im_str i0
    obtain rfl := im_str i1
    refine ⟨_, (pss_cons (ps_asg (pe_slice sl_tup (pv 1) (po_some pe_int) po_none) (pg_tup (by rfl) (pgs_cons (pg_name (i := 3) sc_within_let.nd rfl (.inl rfl)) (pgs_cons (pg_name (i := 4) sc_within_let.nd rfl (.inl rfl)) (pgs_cons (pg_name (i := 5) sc_within_let.nd rfl (.inl rfl)) pgs_nil)))))
  (pss_cons (ps_if (PW.pt (pw_or (pt_not (pt_val (pe_call G_is_name (hr.mono (by decide)) (by rfl) T.g_is_name T.F_is_name.kp T.b_is_name .nil pass0 (pa_cons (pv 3) pa_nil)))) (pw_or1 (pt_cmp (pc_din (hu_of hr) (pv 3) (pv 2))))))
  (pss_one (ps_ret pe_non))
  pss_nil)
  (pss_cons (ps_set (i := 6) sc_within_let.nd rfl (.inl rfl) (pe_call G_deed_kind (hr.mono (by decide)) (by rfl) T.g_deed_kind T.F_deed_kind.kp T.b_deed_kind .nil pass0 (pa_cons (pv 0) (pa_cons (pv 4) (pa_cons (pv 2) pa_nil)))))
  (pss_cons (ps_if (pt_cmpR op_isN (pv 6) pe_non (nomark _))
  (pss_one (ps_ret pe_non))
  pss_nil)
  (pss_one (ps_ret (pe_lst (pa_cons (pe_tup (pa_cons (pv 5) (pa_cons (pe_splat (pv 2) (pv 3) (pv 6)) pa_nil))) pa_nil)))))))), ?_⟩
    refine ⟨_, rfl, 1, rfl, ta, _, rfl, hta, cut1_not _ _, fun p hp => ?_⟩
    have s1 : Same H (upd H p (.tup (cutV [.str "let", .str x, v2, v3] (some 1) none))) := same_upd hp
    rw [show cutV [.str "let", .str x, v2, v3] (some 1) none = [.str x, v2, v3] from cut1 _ _] at s1 ⊢
    refine ⟨p, _, rfl, .inl (.inl upd_same), rfl, _, _, rfl, _, _, rfl, _, _, rfl, rfl, ?_⟩
    refine ⟨_, rfl, x, rfl, hx, fun H2 s2 => ⟨true, rfl, iteF ?_⟩⟩
    have C2 := C.same (s1.trans s2)
    refine ⟨_, rfl, _, rfl, d, _, rfl, DGet.k (k := .inr x) C2.nm, _, rfl, ?_⟩
    rw [nmK_val, hlk]
    refine iteF ?_
    refine ⟨pgv, rfl, v2, rfl, _, rfl, pgv, v2, d, k, rfl, C2, i2.same (sameI_of (s1.trans s2)), hdd, fun H3 s3 => ?_⟩
    have C3 := C2.same s3
    refine ⟨_, rfl, rfl, _, rfl, ?_⟩
    refine itn (p := k.v = V.non) (fun z => nomatch z) ?_
    -- the answer
    refine ⟨v3, rfl, fun e he => ⟨_, rfl, d, nmK ns, rfl, ne_of_none C3.nm he, .inl ?_, upd_same, ?_, fun q2 hq2 => ⟨_, rfl, _, rfl, .inr x, k.v, rfl, upd_same, ?_, ?_, ?_⟩⟩⟩
    · rw [upd_ne (ne_of_none C3.nm he)]
      exact C3.nm
    · rw [List.length_map]
      omega
    · rw [upd_ne fun z => ?_, upd_same]
      rw [← z, upd_same] at hq2
      cases hq2
    · intro z
      rw [← z, upd_same] at hq2
      cases hq2
    · have neq : q2 ≠ e := fun z => by
        rw [z, upd_same] at hq2
        cases hq2
      rw [upd_ne neq, upd_ne neq] at hq2
      rw [nmK_put hlk]
      have s4 : Same H3 (upd (upd (upd (upd (upd H3 e (.dK [])) e (.dK (nmK ns))) q2 (.dK [])) q2 (.dK [(.inr x, k.v)])) e (.dK (nmK (ns ++ [(x, k)])))) := fun b o eb => by
        have h1 := ne_of_none eb he
        have h2 := ne_of_none eb hq2
        rw [upd_ne h1, upd_ne h2, upd_ne h2, upd_ne h1, upd_ne h1]
        exact eb
      generalize hH4 : upd (upd (upd (upd (upd H3 e (.dK [])) e (.dK (nmK ns))) q2 (.dK [])) q2 (.dK [(.inr x, k.v)])) e (.dK (nmK (ns ++ [(x, k)]))) = H4 at s4 ⊢
      have e4 : H4 e = some (.dK (nmK (ns ++ [(x, k)]))) := by rw [← hH4]; exact upd_same
      refine ⟨by show 2 ≤ sizeLine; decide, fun t1 ht1 => ⟨by show 1 ≤ sizeLine; decide, fun l hl => ?_⟩⟩
      have s5 : Same H4 (upd H4 t1 (.tup [v3, .ref e])) := same_upd ht1
      have s6 : Same (upd H4 t1 (.tup [v3, .ref e])) (upd (upd H4 t1 (.tup [v3, .ref e])) l (.lst [.ref t1])) := same_upd hl
      have sA := s1.trans (s2.trans (s3.trans (s4.trans (s5.trans s6))))
      refine q _ l [.ref t1] [(t, ns ++ [(x, k)])] sA ?_ upd_same (.cons ⟨t1, v3, e, rfl, .inl (.inl (s6 _ _ upd_same)), i3.same (sameI_of sA), s6 _ _ (s5 _ _ e4)⟩ .nil) ⟨?_, ?_, Nat.le_succ 1⟩
      · exact (s1.trans (s2.trans (s3.trans (s4.trans s5)))).free hl
      · intro q hq
        rw [List.mem_singleton.mp hq]
        exact ⟨hin, Nat.le_refl _, by rw [List.length_append]; exact Nat.le_refl _⟩
      · show t.size + 0 + 1 = t.size + 1
        omega
def spTrees (K : PySem.W.Frag) (fs : List Fn) (ns : Nm) (kd : Kd) (t : Tr) : Sp := fun vs H Q _ => ∃ (pgv tv : V) (d : Addr), vs = [pgv, kd.v, tv, .ref d] ∧ Ctx K H pgv fs d ns ∧ Im K H tv t.d ∧ Tr.ok (fs.map Fn.hd) kd ns t ∧ ns.length ≤ 100 ∧ spWithin K fs ns kd t H Q
theorem kids_at {H : Hp} {d : Addr} {ns : Nm} (hd : H d = some (.dK (nmK ns))) : ∀ {acc ivs : List V} {ts : List Tr}, ImAll K H ivs (ts.map Tr.d) → acc.length = ivs.length → (∀ (i : Nat) y, acc[i]? = some y → ∃ T iv, y = .ref T ∧ ivs[i]? = some iv ∧ SqT K H T [iv, .ref d]) →
    Paired (KidAt K H) acc (ts.map fun t => (t, ns))
  | [], [], [], _, _, _ => .nil
  | [], _ :: _, _, _, e, _ => nomatch e
  | _ :: _, [], _, _, e, _ => nomatch e
  | _, [], t :: ts, h, _, _ => by cases h
  | _, iv :: ivs, [], h, _, _ => by cases h
  | y :: acc, iv :: ivs, t :: ts, h, e, hy => by
    cases h with
    | cons h1 h2 =>
      obtain ⟨T, iv', rfl, e1, e2⟩ := hy 0 y rfl
      cases e1
      exact .cons ⟨T, iv, d, rfl, e2, h1, hd⟩ (kids_at hd h2 (Nat.succ.inj e) fun i y ey => hy (i + 1) y ey)
theorem ok_trees_within (T : Tx K w mg A) (fs : List Fn) (ns : Nm) (kd : Kd) (t : Tr) : FnOk P w K mg base CX0 8 A.f_trees_within A.fd_trees_within P_trees_within (spTrees K fs ns kd t) := by
  have G_has_word := ok_has_word (P := P) (base := base) T
  have G_stands := ok_stands (P := P) (base := base) T ns
  have G_within_let : FnOk P w K mg base CX0 7 A.f_within_let A.fd_within_let P_within_let (fun vs H Q E => ∃ x dd t, spLet K fs ns kd x dd t vs H Q E) :=
    ⟨fun vs H Q E ⟨x, dd, t, h⟩ => (ok_within_let (P := P) (base := base) T fs ns kd x dd t).len vs H Q E h, fun AA outer s H args us vs Q E hr he hb hv ⟨x, dd, t, h⟩ => (ok_within_let (P := P) (base := base) T fs ns kd x dd t).run AA outer s H args us vs Q E hr he hb hv h⟩
  have G_is_compared : FnOk P w K mg base CX0 4 A.f_is_compared A.fd_is_compared P_is_compared (fun vs H Q E => ∃ a b, spCompared K ns a b vs H Q E) :=
    ⟨fun vs H Q E ⟨a, b, h⟩ => (ok_is_compared (P := P) (base := base) T ns a b).len vs H Q E h, fun AA outer s H args us vs Q E hr he hb hv ⟨a, b, h⟩ => (ok_is_compared (P := P) (base := base) T ns a b).run AA outer s H args us vs Q E hr he hb hv h⟩
  refine T.F_trees_within.ok sc_trees_within (fun vs H Q E h => ?_) (fun cdv AA outer s H vs Q E hr h => ?_)
  · obtain ⟨pgv, tv, d, rfl, _⟩ := h
    rfl
  · obtain ⟨pgv, tv, d, rfl, C, ht, hok, hns, q⟩ := h
    refine ⟨_, (pss_cons (ps_if (PW.pt (pw_or (pt_not (pt_val (pe_call G_has_word (hr.mono (by decide)) (by rfl) T.g_has_word T.F_has_word.kp T.b_has_word .nil pass0 (pa_cons (pv 2) pa_nil)))) (pw_or1 (pt_cmpR op_ne (pe_callB call_len (by rfl) T.n_len (by decide +kernel) (pa_cons (pv 2) pa_nil)) (pe_kget T.d_TREES (pe_glob (v := .ref A.a_TREES) rfl T.c_TREES rfl) (pe_ix ix_tup (pv 2) pe_int (fun _ _ => rfl)) ⟨rfl, rfl, rfl, rfl⟩) (nomark _)))))
  (pss_one (ps_ret pe_non))
  pss_nil)
  (pss_cons (ps_if (pt_cmpR op_eq (pe_ix ix_tup (pv 2) pe_int (fun _ _ => rfl)) pe_str (nomark _))
  (pss_one (ps_ret (pe_ifExp (pt_val (pe_call G_stands (hr.mono (by decide)) (by rfl) T.g_stands T.F_stands.kp T.b_stands .nil pass0 (pa_cons (pe_ix ix_tup (pv 2) pe_int (fun _ _ => rfl)) (pa_cons (pv 1) (pa_cons (pv 3) pa_nil))))) (pe_lst pa_nil) pe_non)))
  pss_nil)
  (pss_cons (ps_if (pt_cmpR op_eq (pe_ix ix_tup (pv 2) pe_int (fun _ _ => rfl)) pe_str (nomark _))
  (pss_one (ps_ret (pe_call G_within_let (hr.mono (by decide)) (by rfl) T.g_within_let T.F_within_let.kp T.b_within_let .nil pass0 (pa_cons (pv 0) (pa_cons (pv 2) (pa_cons (pv 3) pa_nil))))))
  pss_nil)
  (pss_cons (ps_if (pt_not (pt_val (pe_call G_is_compared (hr.mono (by decide)) (by rfl) T.g_is_compared T.F_is_compared.kp T.b_is_compared .nil pass0 (pa_cons (pv 2) (pa_cons (pv 3) pa_nil)))))
  (pss_one (ps_ret pe_non))
  pss_nil)
  (pss_one (ps_ret (pe_lc (own := [("inner", 4)]) (g := (gName 4)) (tt := tYes) (te := _) rfl sc_trees_within.nd (pi_tup (pe_slice sl_tup (pv 2) (po_some pe_int) po_none)) (blkOk_by (N := N_trees_within) (sc := defScope s_trees_within) (by decide +kernel)) (fun _ _ _ _ _ => (pg_name (i := 4) sc_trees_within.nd rfl (.inl rfl))) (fun _ _ _ _ _ => pts_nil) (fun _ _ _ _ _ => (pe_tup (pa_cons (pv 4) (pa_cons (pv 3) pa_nil))))))))))), ?_⟩
    -- the trees behind an if or a claim
    have last : ∀ (z : Str) (a b : Ms) (v1 v2 : V) (n : Int) (ta : Addr) (more : List V) (ts : List Tr), SqT K H ta ([.str z, v1, v2, .int n] ++ more) → more ≠ [] → ImAll K H more (ts.map Tr.d) → Im K H v1 a.d → Im K H v2 b.d → near n → a.ok ns → b.ok ns → more.length ≤ 2 →
        Kids (fs.map Fn.hd) kd ns t (ts.map fun t => (t, ns)) →
        tIfS (tNot (tB (tCall (fun vs H Q E => ∃ a b, spCompared K ns a b vs H Q E) [] (fun _ _ _ => False) (tCons (tVar 2) (tCons (tVar 3) tNil))))) (tRet (tC .non)) tNext
          { nx := tRet (tLc (iTup K (tSl (rSlT K) (tVar 2) (tPart (tC (.int 4))) tNoPart)) (gName 4) tYes (tTup (tCons (tVar 4) (tCons (tVar 3) tNil))) [4]) { nx := fun _ H1 => Q .non H1, rt := Q }, rt := Q } (L2.start N_trees_within [pgv, kd.v, .ref ta, .ref d]) H := by
      intro z a b v1 v2 n ta more ts hta hm hma i1 i2 hn o1 o2 hml hk
      refine ⟨_, rfl, _, rfl, a, b, ta, d, _, v1, v2, n, more, rfl, hta, hm, i1, i2, hn, C.nm, o1, o2, fun H1 s1 => ⟨true, rfl, iteF ?_⟩⟩
      refine ⟨_, rfl, 4, rfl, ta, _, rfl, Same.tup s1 hta, ?_, fun p hp => ?_⟩
      · rintro ⟨e1, _⟩
        have e3 : HT.sIx ([.str z, v1, v2, V.int n] ++ more).length 0 (some 4) = min 4 ([.str z, v1, v2, V.int n] ++ more).length := HT.sIx_nat _ _ 4
        rw [e3, List.length_append] at e1
        simp only [List.length_cons, List.length_nil] at e1
        omega
      · have ec : cutV ([.str z, v1, v2, .int n] ++ more) (some 4) none = more := cutFrom 4 _ _ rfl
        have s2 : Same H1 (upd H1 p (.tup (cutV ([.str z, v1, v2, .int n] ++ more) (some 4) none))) := same_upd hp
        rw [ec] at s2 ⊢
        refine ⟨p, rfl, ⟨more, .inl (.inl upd_same)⟩, fun D hD => ?_⟩
        have sq : SqT K (upd H1 p (.tup more)) p more := .inl (.inl upd_same)
        refine lc_data (walk_tup (K := K) (a := p) (xs := more)) (fun i y H => ∃ T iv, y = .ref T ∧ more[i]? = some iv ∧ SqT K H T [iv, .ref d]) (fun i v H H2 si ⟨T, iv, e, e1, e2⟩ => ⟨T, iv, e, e1, si.tup e2⟩) hD (fun H3 s3 => Same.tup s3 sq) (by omega) ?_ ?_
        · rintro i x H3 H4 k hi s3 ⟨rfl, hx⟩ hk2
          exact ⟨rfl, _, rfl, _, rfl, by show 2 ≤ sizeLine; decide, fun T hT => hk2 _ _ (same_upd hT) ⟨T, x, rfl, hx, .inl (.inl upd_same)⟩⟩
        · rintro H3 acc s3 e3 hl hE
          have sA := (s1.trans s2).trans s3
          exact q H3 D acc _ sA ((s1.trans s2).free hD) e3 (kids_at (sA _ _ C.nm) (hma.same (sameI_of sA)) hl hE) hk
    cases t with
    | tell x =>
      obtain ⟨ta, xs, rfl, hta, hall⟩ := im_tup ht
      obtain ⟨v0, v1, rfl, i0, i1⟩ := im2 hall
      obtain rfl := im_str i0
      obtain rfl := im_str i1
      obtain ⟨es, n, u, k1, k2, k3, k4⟩ := T.y_TREES_tell
      refine ⟨_, rfl, ta, _, _, rfl, hta, true, rfl, iteF ⟨_, rfl, _, 2, rfl, .inr ⟨_, hta, rfl⟩, rfl, _, rfl, _, _, _, _, rfl, rfl, hta, atI_nat (j := 0) rfl, _, _, _, rfl, k3, k4, rfl, _, rfl, itnd rfl ?_⟩⟩
      refine ⟨_, rfl, _, _, _, _, rfl, rfl, hta, atI_nat (j := 0) rfl, rfl, _, rfl, itd (p := V.str "tell" = V.str "tell") rfl ?_⟩
      refine ⟨_, rfl, _, _, _, _, rfl, rfl, hta, atI_nat (j := 1) rfl, _, rfl, _, rfl, x, kd, d, rfl, C.nm, hok, true, rfl, iteT ⟨Nat.zero_le _, fun l hl => ?_⟩⟩
      exact q _ l [] [] (same_upd hl) hl upd_same .nil ⟨fun q hq => (by cases hq), rfl, Nat.zero_le _⟩
    | let_ x dd t =>
      obtain ⟨ta, xs, rfl, hta, hall⟩ := im_tup ht
      obtain ⟨v0, r0, rfl, i0, hal2⟩ := all_cons hall
      obtain rfl := im_str i0
      have hl0 : r0.length = 3 := ImAll.length hal2
      obtain ⟨es, n, u, k1, k2, k3, k4⟩ := T.y_TREES_let
      refine ⟨_, rfl, ta, _, _, rfl, hta, true, rfl, iteF ⟨_, rfl, _, 4, rfl, .inr ⟨_, hta, by rw [List.length_cons, hl0]⟩, rfl, _, rfl, _, _, _, _, rfl, rfl, hta, atI_nat (j := 0) rfl, _, _, _, rfl, k3, k4, rfl, _, rfl, itnd rfl ?_⟩⟩
      refine ⟨_, rfl, _, _, _, _, rfl, rfl, hta, atI_nat (j := 0) rfl, rfl, _, rfl, itn (p := V.str "let" = V.str "tell") (by decide +kernel) ?_⟩
      refine ⟨_, rfl, _, _, _, _, rfl, rfl, hta, atI_nat (j := 0) rfl, rfl, _, rfl, itd (p := V.str "let" = V.str "let") rfl ?_⟩
      exact ⟨_, rfl, _, rfl, _, rfl, x, dd, t, pgv, _, d, rfl, C, ht, hok, hns, q⟩
    | claim a b n t =>
      obtain ⟨ta, xs, rfl, hta, hall⟩ := im_tup ht
      obtain ⟨v0, r0, rfl, i0, hall⟩ := all_cons hall
      obtain ⟨v1, r1, rfl, i1, hall⟩ := all_cons hall
      obtain ⟨v2, r2, rfl, i2, hall⟩ := all_cons hall
      obtain ⟨v3, r3, rfl, i3, hall⟩ := all_cons hall
      obtain ⟨v4, rfl, i4⟩ := im1 hall
      obtain rfl := im_str i0
      obtain rfl := im_int i3
      obtain ⟨o1, o2, hn, hin⟩ := hok
      obtain ⟨es, n1, u, k1, k2, k3, k4⟩ := T.y_TREES_claim
      refine ⟨_, rfl, ta, _, _, rfl, hta, true, rfl, iteF ⟨_, rfl, _, 5, rfl, .inr ⟨_, hta, rfl⟩, rfl, _, rfl, _, _, _, _, rfl, rfl, hta, atI_nat (j := 0) rfl, _, _, _, rfl, k3, k4, rfl, _, rfl, itnd rfl ?_⟩⟩
      refine ⟨_, rfl, _, _, _, _, rfl, rfl, hta, atI_nat (j := 0) rfl, rfl, _, rfl, itn (p := V.str "claim" = V.str "tell") (by decide +kernel) ?_⟩
      refine ⟨_, rfl, _, _, _, _, rfl, rfl, hta, atI_nat (j := 0) rfl, rfl, _, rfl, itn (p := V.str "claim" = V.str "let") (by decide +kernel) ?_⟩
      exact last "claim" a b v1 v2 n ta [v4] [t] hta (fun z => nomatch z) (.cons i4 .nil) i1 i2 hn o1 o2 (Nat.le_succ 1) ⟨fun q hq => (by rw [List.mem_singleton.mp hq]; exact ⟨hin, Nat.le_refl _, Nat.le_succ _⟩), (by show t.size + 0 + 1 = t.size + 1; omega), Nat.le_succ 1⟩
    | if_ a b n t u =>
      obtain ⟨ta, xs, rfl, hta, hall⟩ := im_tup ht
      obtain ⟨v0, r0, rfl, i0, hall⟩ := all_cons hall
      obtain ⟨v1, r1, rfl, i1, hall⟩ := all_cons hall
      obtain ⟨v2, r2, rfl, i2, hall⟩ := all_cons hall
      obtain ⟨v3, r3, rfl, i3, hall⟩ := all_cons hall
      obtain ⟨v4, v5, rfl, i4, i5⟩ := im2 hall
      obtain rfl := im_str i0
      obtain rfl := im_int i3
      obtain ⟨o1, o2, hn, h4, h5⟩ := hok
      obtain ⟨es, n1, w1, k1, k2, k3, k4⟩ := T.y_TREES_if
      refine ⟨_, rfl, ta, _, _, rfl, hta, true, rfl, iteF ⟨_, rfl, _, 6, rfl, .inr ⟨_, hta, rfl⟩, rfl, _, rfl, _, _, _, _, rfl, rfl, hta, atI_nat (j := 0) rfl, _, _, _, rfl, k3, k4, rfl, _, rfl, itnd rfl ?_⟩⟩
      refine ⟨_, rfl, _, _, _, _, rfl, rfl, hta, atI_nat (j := 0) rfl, rfl, _, rfl, itn (p := V.str "if" = V.str "tell") (by decide +kernel) ?_⟩
      refine ⟨_, rfl, _, _, _, _, rfl, rfl, hta, atI_nat (j := 0) rfl, rfl, _, rfl, itn (p := V.str "if" = V.str "let") (by decide +kernel) ?_⟩
      refine last "if" a b v1 v2 n ta [v4, v5] [t, u] hta (fun z => nomatch z) (.cons i4 (.cons i5 .nil)) i1 i2 hn o1 o2 (Nat.le_refl 2) ⟨fun q hq => ?_, (by show t.size + (u.size + 0) + 1 = t.size + u.size + 1; omega), Nat.le_refl 2⟩
      rcases List.mem_cons.mp hq with z | z
      · rw [z]
        exact ⟨h4, Nat.succ_le_succ (Nat.le_max_left _ _), Nat.le_succ _⟩
      · rw [List.mem_singleton.mp z]
        exact ⟨h5, Nat.succ_le_succ (Nat.le_max_right _ _), Nat.le_succ _⟩
end
end Cs
namespace Cs
open PySem PySem.Spec L2
/-! ## all but one stays -/
def SameX (l : Addr) (H H1 : Hp) : Prop := ∀ b o, b ≠ l → H b = some o → H1 b = some o
theorem SameX.refl (l : Addr) (H : Hp) : SameX l H H := fun _ _ _ h => h
theorem SameX.trans {l : Addr} {H H1 H2 : Hp} (a : SameX l H H1) (b : SameX l H1 H2) : SameX l H H2 := fun c o n h => b c o n (a c o n h)
theorem sameX_of {l : Addr} {H H1 : Hp} (s : Same H H1) : SameX l H H1 := fun b o _ h => s b o h
theorem sameX_upd {l : Addr} {H : Hp} {o : HO} : SameX l H (upd H l o) := fun b x n h => by rw [upd_ne n]; exact h
theorem SameX.i {l : Addr} {H H1 : Hp} {o : HO} (s : SameX l H H1) (h : H l = some o) (n : ¬ Imm o) : SameI H H1 := fun b x i e => s b x (fun z => by
  rw [z, h] at e
  cases e
  exact n i) e
theorem SameX.same {l : Addr} {H H1 H2 : Hp} (a : Same H H1) (s : SameX l H1 H2) (n : H l = none) : Same H H2 := fun b o h => s b o (ne_of_none h n) (a b o h)
theorem paired_append {α β : Type} {R : α → β → Prop} : ∀ {l1 l2 : List α} {m1 m2 : List β}, Paired R l1 m1 → Paired R l2 m2 → Paired R (l1 ++ l2) (m1 ++ m2)
  | _, _, _, _, .nil, h => h
  | _, _, _, _, .cons h t, q => .cons h (paired_append t q)
theorem paired_reverse {α β : Type} {R : α → β → Prop} : ∀ {l : List α} {m : List β}, Paired R l m → Paired R l.reverse m.reverse
  | _, _, .nil => .nil
  | _, _, .cons h t => by
    rw [List.reverse_cons, List.reverse_cons]
    exact paired_append (paired_reverse t) (.cons h .nil)
theorem paired_last {α β : Type} {R : α → β → Prop} : ∀ {l : List α} {x : α} {m : List β}, Paired R (l ++ [x]) m → ∃ m1 y, m = m1 ++ [y] ∧ Paired R l m1 ∧ R x y
  | [], _, _, .cons h .nil => ⟨[], _, rfl, .nil, h⟩
  | _ :: l, x, _, .cons h t => by
    obtain ⟨m1, y, rfl, h1, h2⟩ := paired_last (l := l) t
    exact ⟨_ :: m1, y, rfl, .cons h h1, h2⟩
/-- a tree that waits: its depth, the names there -/
def StAt (K : PySem.W.Frag) (H : Hp) (v : V) (q : Tr × Nat × Nm) : Prop := ∃ a tv d, v = .ref a ∧ SqT K H a [tv, .int (q.2.1 : Nat), .ref d] ∧ Im K H tv q.1.d ∧ H d = some (.dK (nmK q.2.2))
theorem StAt.step {K : PySem.W.Frag} {l : Addr} {H H1 : Hp} {xs : List V} (s : SameX l H H1) (h : H l = some (.lst xs)) {v : V} {q : Tr × Nat × Nm} : StAt K H v q → StAt K H1 v q
  | ⟨a, tv, d, e, h1, h2, h3⟩ => ⟨a, tv, d, e, (s.i h id).tup h1, h2.same (s.i h id), s _ _ (ne_of h3 h (by intro z; cases z)) h3⟩
theorem StAt.all {K : PySem.W.Frag} {l : Addr} {H H1 : Hp} {xs : List V} (s : SameX l H H1) (h : H l = some (.lst xs)) {vs : List V} {qs : List (Tr × Nat × Nm)} (p : Paired (StAt K H) vs qs) : Paired (StAt K H1) vs qs := Paired.mapP p fun _ _ z => z.step s h
abbrev weight (st : List (Tr × Nat × Nm)) : Nat := (st.map fun q => q.1.size).sum
theorem weight_append (a b : List (Tr × Nat × Nm)) : weight (a ++ b) = weight a + weight b := by
  unfold weight
  rw [List.map_append, List.sum_append_nat]
theorem size_pos (t : Tr) : 1 ≤ t.size := by cases t <;> simp [Tr.size]
theorem len_weight : ∀ st : List (Tr × Nat × Nm), st.length ≤ weight st
  | [] => Nat.le_refl _
  | q :: r => by
    have h := len_weight r
    have := size_pos q.1
    show r.length + 1 ≤ q.1.size + weight r
    omega
theorem deep_pos (t : Tr) : 1 ≤ t.deep := by cases t <;> simp [Tr.deep]
section
variable {P : Program} {w : World} {K : PySem.W.Frag} {mg : Str → Option Value} {base : Heap} {A : Adr}
def spChTrees (K : PySem.W.Frag) (fs : List Fn) (i : Nat) (fn : Fn) : Sp := fun vs H Q _ => ∃ (pgv : V), vs = [pgv, .int (i : Nat)] ∧ PgAt K H pgv fs ∧ okPg fs ∧ fs[i]? = some fn ∧ ∀ H1, Same H H1 → Q .non H1
theorem mergeK_nodup : ∀ (kvs acc : List (Key × V)), (acc ++ kvs).map (·.1) |>.Nodup → mergeK acc kvs = acc ++ kvs
  | [], acc, _ => (List.append_nil acc).symm
  | (k, v) :: r, acc, h => by
    show mergeK (putK acc k v) r = _
    have hn : valV acc k = none := by
      cases e : valV acc k with
      | none => rfl
      | some u =>
        have z := valV_any k acc
        rw [e] at z
        obtain ⟨x, hx, ex⟩ := List.any_eq_true.mp z
        rw [List.map_append, List.map_cons, List.nodup_append] at h
        exact absurd (of_decide_eq_true ex) (h.2.2 x.1 (List.mem_map.mpr ⟨x, hx, rfl⟩) k (List.mem_cons_self ..))
    rw [putK_new hn, mergeK_nodup r (acc ++ [(k, v)]) (by rw [List.append_assoc]; exact h), List.append_assoc]
    rfl
theorem nmK_merge {ns : Nm} (h : (ns.map (·.1)).Nodup) : mergeK [] (nmK ns) = nmK ns := by
  have z := mergeK_nodup (nmK ns) [] (by
    show ((nmK ns).map (·.1)).Nodup
    unfold nmK
    rw [List.map_map]
    show (ns.map fun p => (Sum.inr p.1 : Key)).Nodup
    have e : (ns.map fun p => (Sum.inr p.1 : Key)) = (ns.map (·.1)).map Sum.inr := by rw [List.map_map]; rfl
    rw [e]
    exact List.pairwise_map.mpr (h.imp fun n z => n (Sum.inr.inj z)))
  exact z
theorem pairs_pr {H : Hp} : ∀ {qs : List Addr} {ps : Nm}, Paired (PrAt K H) qs ps → Paired (fun p (kv : Key × V) => SqT K H p [kV kv.1, kv.2]) qs (nmK ps)
  | _, _, .nil => .nil
  | _, _, .cons h t => .cons h (pairs_pr t)
theorem ok_check_trees (T : Tx K w mg A) (fs : List Fn) (i : Nat) (fn : Fn) : FnOk P w K mg base CX0 9 A.f_check_trees A.fd_check_trees P_check_trees (spChTrees K fs i fn) := by
  have G_trees_within : FnOk P w K mg base CX0 8 A.f_trees_within A.fd_trees_within P_trees_within (fun vs H Q E => ∃ ns t, spTrees K fs ns fn.kd t vs H Q E) :=
    ⟨fun vs H Q E ⟨ns, t, h⟩ => (ok_trees_within (P := P) (base := base) T fs ns fn.kd t).len vs H Q E h, fun AA outer s H args us vs Q E hr he hb hv ⟨ns, t, h⟩ => (ok_trees_within (P := P) (base := base) T fs ns fn.kd t).run AA outer s H args us vs Q E hr he hb hv h⟩
  refine T.F_check_trees.ok sc_check_trees (fun vs H Q E h => ?_) (fun cdv AA outer s H vs Q E hr h => ?_)
  · obtain ⟨pgv, rfl, _⟩ := h
    rfl
  · obtain ⟨pgv, rfl, hpg, hok, hfn, q⟩ := h
    obtain ⟨pa, pvs, rfl, hpt, hpall⟩ := id hpg
    obtain ⟨fv, hfv, hfat⟩ := paired_get' hpall hfn
    obtain ⟨fa, fp, ftv, fqs, rfl, hft, hfpl, hfps, hftr⟩ := hfat
    obtain ⟨k1, k2, kall⟩ := id hok
    obtain ⟨f1, f2, f3, f4, f5, f6⟩ := kall fn (List.mem_of_getElem? hfn)
    refine ⟨_, (pss_cons (ps_asg (pe_ix ix_tup (pv 0) (pv 1) (fun _ _ => rfl)) (pg_tup (by rfl) (pgs_cons (pg_name (i := 2) sc_check_trees.nd rfl (.inl rfl)) (pgs_cons (pg_name (i := 3) sc_check_trees.nd rfl (.inl rfl)) (pgs_cons (pg_name (i := 4) sc_check_trees.nd rfl (.inl rfl)) pgs_nil)))))
  (pss_cons (ps_set (i := 5) sc_check_trees.nd rfl (.inl rfl) (pe_lst (pa_cons (pe_tup (pa_cons (pv 4) (pa_cons pe_int (pa_cons (pe_callTy (cr_dictT rfl) (by rfl) T.n_dict (by decide +kernel) (pa_cons (pv 2) pa_nil)) pa_nil)))) pa_nil)))
  (pss_cons (ps_set (i := 6) sc_check_trees.nd rfl (.inl rfl) pe_int)
  (pss_one (ps_while PassesOwn.never (pt_truth (pv 5) (by intro _; rfl))
  (pss_cons (ps_asg (pe_bm0 PySem.F.plainAttrs_list PySem.F.slot_list_pop PySem.F.type_list_pop mt_pop (pv 5)) (pg_tup (by rfl) (pgs_cons (pg_name (i := 7) sc_check_trees.nd rfl (.inl rfl)) (pgs_cons (pg_name (i := 8) sc_check_trees.nd rfl (.inl rfl)) (pgs_cons (pg_name (i := 9) sc_check_trees.nd rfl (.inl rfl)) pgs_nil)))))
  (pss_cons (ps_if (PW.pt (pw_or (pt_cmpR op_ge (pv 6) (pe_glob (v := .int 60) rfl T.c_MOST_TREES ⟨_, rfl⟩) (nomark _)) (pw_or1 (pt_cmpR op_gt (pv 8) (pe_glob (v := .int 20) rfl T.c_MOST_DEPTH ⟨_, rfl⟩) (nomark _)))))
  pss_never
  pss_nil)
  (pss_cons (ps_set (i := 10) sc_check_trees.nd rfl (.inl rfl) (pe_call G_trees_within (hr.mono (by decide)) (by rfl) T.g_trees_within T.F_trees_within.kp T.b_trees_within .nil pass0 (pa_cons (pv 0) (pa_cons (pv 3) (pa_cons (pv 7) (pa_cons (pv 9) pa_nil))))))
  (pss_cons (ps_if (pt_cmpR op_isN (pv 10) pe_non (nomark _))
  pss_never
  pss_nil)
  (pss_cons (ps_for PassesOwn.never rfl (pi_reversed (by rfl) T.n_reversed (pa_cons (pv 10) pa_nil)) (pg_tup (by rfl) (pgs_cons (pg_name (i := 11) sc_check_trees.nd rfl (.inl rfl)) (pgs_cons (pg_name (i := 12) sc_check_trees.nd rfl (.inl rfl)) pgs_nil)))
  (pss_one (ps_expr (pe_bm PySem.F.plainAttrs_list PySem.F.slot_list_append PySem.F.type_list_append mt_append (pv 5) (pa_cons (pe_tup (pa_cons (pv 11) (pa_cons (pe_op op_add (pv 8) pe_int) (pa_cons (pv 12) pa_nil)))) pa_nil)))))
  (pss_one (ps_aug (i := 6) sc_check_trees.nd rfl (.inl rfl) pe_int ip_add)))))))))))), ?_⟩
    refine ⟨_, rfl, _, rfl, _, _, _, _, rfl, rfl, hpt, atI_nat hfv, fa, _, rfl, hft, rfl, _, _, rfl, _, _, rfl, _, _, rfl, rfl, ?_⟩
    refine ⟨_, rfl, _, rfl, fp, fqs, nmK fn.ps, rfl, hfpl, pairs_pr hfps, fun d hd => ?_⟩
    rw [nmK_merge f3]
    have s1 : Same H (upd H d (.dK (nmK fn.ps))) := same_upd hd
    refine ⟨by show 3 ≤ sizeLine; decide, fun t0 ht0 => ⟨by show 1 ≤ sizeLine; decide, fun wl hwl => ?_⟩⟩
    have s2 : Same (upd H d (.dK (nmK fn.ps))) (upd (upd H d (.dK (nmK fn.ps))) t0 (.tup [ftv, .int 1, .ref d])) := same_upd ht0
    have s3 : Same (upd (upd H d (.dK (nmK fn.ps))) t0 (.tup [ftv, .int 1, .ref d])) (upd (upd (upd H d (.dK (nmK fn.ps))) t0 (.tup [ftv, .int 1, .ref d])) wl (.lst [.ref t0])) := same_upd hwl
    have nwl : H wl = none := (s1.trans s2).free hwl
    refine ⟨fun m σ H1 => ∃ vs st place y7 y8 y9 y10 y11 y12, σ = [some (.ref pa), some (.int (i : Nat)), some (.ref fp), some fn.kd.v, some ftv, some (.ref wl), some (.int (place : Nat)), y7, y8, y9, y10, y11, y12] ∧
        Same H H1 ∧ H1 wl = some (.lst vs) ∧ Paired (StAt K H1) vs st ∧ (∀ q ∈ st, Tr.ok (fs.map Fn.hd) fn.kd q.2.2 q.1 ∧ 1 ≤ q.2.1 ∧ q.2.1 + q.1.deep ≤ 21 ∧ q.2.2.length ≤ q.2.1 + 4) ∧ place + weight st ≤ 60 ∧ m = weight st,
      ⟨_, [.ref t0], [(fn.tr, 1, fn.ps)], 0, none, none, none, none, none, none, rfl, s1.trans (s2.trans s3), upd_same, .cons ⟨t0, ftv, d, rfl, .inl (.inl (s3 _ _ upd_same)), hftr.same (sameI_of (s1.trans (s2.trans s3))), s3 _ _ (s2 _ _ upd_same)⟩ .nil, ?_, ?_, rfl⟩, ?_⟩
    · intro q hq
      rw [List.mem_singleton.mp hq]
      exact ⟨f4, Nat.le_refl _, by show 1 + fn.tr.deep ≤ 21; omega, by show fn.ps.length ≤ 1 + 4; omega⟩
    · show 0 + (fn.tr.size + 0) ≤ 60
      omega
    rintro m σ H1 ⟨vs, st, place, y7, y8, y9, y10, y11, y12, rfl, sH, ewl, hst, hall, hpl, rfl⟩
    refine ⟨_, rfl, _, .inl ⟨vs, SqL.of ewl, rfl⟩, ?_⟩
    rcases List.eq_nil_or_concat vs with rfl | ⟨vs1, v, rfl⟩
    · exact iteF (q H1 sH)
    rw [List.concat_eq_append] at *
    obtain ⟨st1, ⟨t, dep, ns⟩, rfl, hst1, a, tv, d1, rfl, hat, htv, hd1⟩ := paired_last hst
    have hne : (!(vs1 ++ [V.ref a]).isEmpty) = true := by cases vs1 <;> rfl
    rw [hne]
    obtain ⟨o1, o2, o3, o4⟩ := hall (t, dep, ns) (List.mem_append_right _ (List.mem_singleton.mpr rfl))
    have o2 : 1 ≤ dep := o2
    have o3 : dep + t.deep ≤ 21 := o3
    have o4 : ns.length ≤ dep + 4 := o4
    have hw : weight (st1 ++ [(t, dep, ns)]) = weight st1 + t.size := by
      rw [weight_append]
      rfl
    have hsz := size_pos t
    have hdp := deep_pos t
    rw [hw] at hpl ⊢
    refine iteT ?_
    -- tree, depth, names = waiting.pop()
    have x1 : SameX wl H1 (upd H1 wl (.lst vs1)) := sameX_upd
    have sH1 : Same H (upd H1 wl (.lst vs1)) := x1.same sH nwl
    refine ⟨fun σ' H' => ∃ m', m' < weight st1 + t.size ∧ ∃ vs st place y7 y8 y9 y10 y11 y12, σ' = [some (.ref pa), some (.int (i : Nat)), some (.ref fp), some fn.kd.v, some ftv, some (.ref wl), some (.int (place : Nat)), y7, y8, y9, y10, y11, y12] ∧
        Same H H' ∧ H' wl = some (.lst vs) ∧ Paired (StAt K H') vs st ∧ (∀ q ∈ st, Tr.ok (fs.map Fn.hd) fn.kd q.2.2 q.1 ∧ 1 ≤ q.2.1 ∧ q.2.1 + q.1.deep ≤ 21 ∧ q.2.2.length ≤ q.2.1 + 4) ∧ place + weight st ≤ 60 ∧ m' = weight st, fun σ' H' z => z, ?_⟩
    refine ⟨_, rfl, .inl ⟨rfl, _, SqL.of ewl⟩, wl, _, .ref a, rfl, rfl, ewl, by simp, ?_⟩
    rw [List.dropLast_concat]
    have hat1 : SqT K (upd H1 wl (.lst vs1)) a [tv, .int (dep : Nat), .ref d1] := (x1.i ewl id).tup hat
    refine ⟨a, _, rfl, hat1, rfl, _, _, rfl, _, _, rfl, _, _, rfl, rfl, ?_⟩
    -- if place >= MOST_TREES or depth > MOST_DEPTH
    refine ⟨_, rfl, _, _, rfl, rfl, _, rfl, itn (show ¬ (60 : Int) ≤ (place : Int) by omega) ⟨_, rfl, _, _, rfl, rfl, _, rfl, itn (show ¬ (20 : Int) < (dep : Int) by omega) ?_⟩⟩
    -- within = trees_within(program, kind, tree, names)
    have C1 : Ctx K (upd H1 wl (.lst vs1)) (.ref pa) fs d1 ns := ⟨hpg.same (sameI_of sH1), k2, fun f hf => (kall f hf).1, x1 _ _ (ne_of hd1 ewl (by intro z; cases z)) hd1⟩
    refine ⟨_, rfl, _, rfl, _, rfl, _, rfl, ns, t, .ref pa, tv, d1, rfl, C1, htv.same (x1.i ewl id), o1, by omega, fun H3 l acc ks s3 nl el hks hk => ?_⟩
    obtain ⟨kid1, kid2, kid3⟩ := hk
    refine ⟨_, rfl, rfl, _, rfl, itn (p := V.ref l = V.non) (fun z => nomatch z) ?_⟩
    -- for inner, standing in reversed(within)
    have nlw : l ≠ wl := fun z => by
      rw [z, upd_same] at nl
      cases nl
    have ewl3 : H3 wl = some (.lst vs1) := s3 _ _ upd_same
    have st3 : Paired (StAt K H3) vs1 st1 := StAt.all (sameX_of s3) upd_same (StAt.all x1 ewl hst1)
    have sH3 : Same H H3 := sH1.trans s3
    have hks2 := paired_reverse hks
    have hlk := Paired.length hks
    refine ⟨_, rfl, l, acc, rfl, SqL.of el, for_it (walk_rev (K := K) (a := l) (xs := acc)) (fun j σ' H' => ∃ us y11 y12, σ' = [some (.ref pa), some (.int (i : Nat)), some (.ref fp), some fn.kd.v, some ftv, some (.ref wl), some (.int (place : Nat)), some tv, some (.int (dep : Nat)), some (.ref d1), some (.ref l), y11, y12] ∧
        SameX wl H3 H' ∧ H' wl = some (.lst (vs1 ++ us)) ∧ Paired (StAt K H') us ((ks.reverse.take j).map fun q => (q.1, dep + 1, q.2)))
      ⟨[], y11, y12, rfl, SameX.refl _ _, by rw [List.append_nil]; exact ewl3, .nil⟩ (fun j σ' H' _ ⟨us, z11, z12, _, xx, _⟩ => SqL.of (xx _ _ nlw el)) ?_ ?_⟩
    · rintro j x σ' H5 H4 hj ⟨us, z11, z12, rfl, xx, e4, hus⟩ ⟨rfl, hx⟩
      have hx2 : acc.reverse[j]? = some x := by
        rw [List.getElem?_reverse hj]
        exact hx
      obtain ⟨kq, hkq, ka, ktv, kd1, rfl, hka, hktv, hkd⟩ := paired_get hks2 hx2
      have xi := xx.i ewl3 id
      refine ⟨ka, _, rfl, xi.tup hka, rfl, _, _, rfl, _, _, rfl, rfl, ?_⟩
      refine ⟨_, rfl, .inl ⟨rfl, _, SqL.of e4⟩, _, rfl, _, rfl, _, _, rfl, rfl, _, rfl, by show 3 ≤ sizeLine; decide, fun nt hnt => ?_⟩
      have nne : wl ≠ nt := ne_of_none e4 hnt
      have e6 : (upd H4 nt (.tup [ktv, .int ((dep : Nat) + 1), .ref kd1])) wl = some (.lst (vs1 ++ us)) := by rw [upd_ne nne]; exact e4
      have s6 : Same H4 (upd H4 nt (.tup [ktv, .int ((dep : Nat) + 1), .ref kd1])) := same_upd hnt
      refine ⟨wl, _, _, rfl, rfl, e6, ?_, ?_⟩
      · have l1 := Paired.length hus
        have l2 := Paired.length hst1
        have l3 : weight st1 ≤ 60 := by omega
        rw [List.length_append, l1, List.length_map, List.length_take]
        have l4 : vs1.length ≤ weight st1 := by
          rw [l2]
          exact len_weight st1
        exact smaller (by omega)
      · have x7 : SameX wl (upd H4 nt (.tup [ktv, .int ((dep : Nat) + 1), .ref kd1])) (upd (upd H4 nt (.tup [ktv, .int ((dep : Nat) + 1), .ref kd1])) wl (.lst ((vs1 ++ us) ++ [.ref nt]))) := sameX_upd
        have x8 : SameX wl H4 (upd (upd H4 nt (.tup [ktv, .int ((dep : Nat) + 1), .ref kd1])) wl (.lst ((vs1 ++ us) ++ [.ref nt]))) := (sameX_of s6).trans x7
        refine ⟨us ++ [.ref nt], _, _, rfl, xx.trans x8, by rw [upd_same, List.append_assoc], ?_⟩
        rw [List.take_add_one, hkq, List.map_append]
        refine paired_append (StAt.all x8 e4 hus) (.cons ⟨nt, ktv, kd1, rfl, (x7.i e6 id).tup (.inl (.inl upd_same)), hktv.same (xi.trans (x8.i e4 id)), (xx.trans x8) _ _ (ne_of hkd ewl3 (by intro z; cases z)) hkd⟩ .nil)
    · rintro σ' H4 ⟨us, z11, z12, rfl, xx, e4, hus⟩
      have etake : ks.reverse.take acc.length = ks.reverse := List.take_of_length_le (by rw [List.length_reverse, hlk]; exact Nat.le_refl _)
      rw [etake] at hus
      have hwk : weight (ks.reverse.map fun q => (q.1, dep + 1, q.2)) + 1 = t.size := by
        rw [← kid2]
        unfold weight
        rw [List.map_map, List.map_reverse, List.sum_reverse]
        rfl
      -- place += 1
      refine ⟨_, rfl, _, _, rfl, rfl, ?_⟩
      refine ⟨_, ?_, vs1 ++ us, st1 ++ (ks.reverse.map fun q => (q.1, dep + 1, q.2)), place + 1, _, _, _, _, _, _, rfl, xx.same sH3 nwl, e4, paired_append (StAt.all xx ewl3 st3) hus, ?_, ?_, rfl⟩
      · rw [weight_append]
        omega
      · intro q hq
        rcases List.mem_append.mp hq with hq | hq
        · exact hall q (List.mem_append_left _ hq)
        · obtain ⟨kq, hkq, rfl⟩ := List.mem_map.mp hq
          obtain ⟨g1, g2, g3⟩ := kid1 kq (List.mem_reverse.mp hkq)
          exact ⟨g1, by show 1 ≤ dep + 1; omega, by show dep + 1 + kq.1.deep ≤ 21; omega, by show kq.2.length ≤ dep + 1 + 4; omega⟩
      · rw [weight_append]
        omega
end
end Cs
namespace Cs
open PySem PySem.Spec L2
theorem walk_enumT {K : PySem.W.Frag} {a : Addr} {xs : List V} : Walk (IteT K a) xs.length (fun H => SqT K H a xs) (YPair (fun i => some (.int (i : Nat))) (fun i => xs[i]?)) :=
  ⟨fun i H hi h => ⟨xs, xs[i], h, List.getElem?_eq_getElem hi⟩, fun H h => ⟨xs, h, Nat.le_refl _⟩, fun i H x H' hi h ⟨T, y, e, hT, eH, f⟩ => ⟨T, _, y, e, hT, eH, rfl, f _ h⟩⟩
section
variable {P : Program} {w : World} {K : PySem.W.Frag} {mg : Str → Option Value} {base : Heap} {A : Adr}
theorem kinds_in (kd : Kd) : inV kd.v [.str "number", .str "list"] = true := by cases kd <;> decide +kernel
def spParam (K : PySem.W.Frag) : Sp := fun vs H Q _ => ∃ (a : Addr) (p : Str × Kd), vs = [.ref a] ∧ PrAt K H a p ∧ okName p.1 ∧ ∀ H1, Same H H1 → Q (.bl true) H1
theorem ok_is_param (T : Tx K w mg A) : FnOk P w K mg base CX0 2 A.f_is_param A.fd_is_param P_is_param (spParam K) := by
  have G_is_row := ok_is_row (P := P) (base := base) T
  have G_is_name := ok_is_name (P := P) (base := base) T
  refine T.F_is_param.ok sc_is_param (fun vs H Q E h => ?_) (fun cdv AA outer s H vs Q E hr h => ?_)
  · obtain ⟨a, p, rfl, _⟩ := h
    rfl
  · obtain ⟨a, p, rfl, ha, hn, q⟩ := h
    have ha : SqT K H a [.str p.1, p.2.v] := ha
    refine ⟨_, (pss_one (ps_ret (pe_and (pe_call G_is_row (hr.mono (by decide)) (by rfl) T.g_is_row T.F_is_row.kp T.b_is_row .nil pass0 (pa_cons (pv 0) (pa_cons pe_int pa_nil))) (pe_and (pe_call G_is_name (hr.mono (by decide)) (by rfl) T.g_is_name T.F_is_name.kp T.b_is_name .nil pass0 (pa_cons (pe_ix ix_tup (pv 0) pe_int (fun _ _ => rfl)) pa_nil)) (pe_one (pe_cmpR op_in_seq (pe_ix ix_tup (pv 0) pe_int (fun _ _ => rfl)) (pe_glob (v := .ref A.a_KINDS) rfl T.c_KINDS rfl) (by rfl))))))), ?_⟩
    refine ⟨_, rfl, a, _, 2, rfl, ha, true, rfl, iteT ⟨_, rfl, _, _, _, _, rfl, rfl, ha, atI_nat (j := 0) rfl, p.1, rfl, hn, fun H1 s1 => ⟨true, rfl, iteT ⟨_, rfl, _, _, _, _, rfl, rfl, Same.tup s1 ha, atI_nat (j := 1) rfl, _, _, rfl, .inr (T.q_KINDS _), rfl, rfl, ?_⟩⟩⟩⟩
    show Q (.bl (inV p.2.v [.str "number", .str "list"])) H1
    rw [kinds_in]
    exact q _ s1
def spHeaded (K : PySem.W.Frag) : Sp := fun vs H Q _ => ∃ (v : V) (fn : Fn), vs = [v] ∧ FnAt K H v fn ∧ fn.ps.length ≤ 4 ∧ (∀ p ∈ fn.ps, okName p.1) ∧ (fn.ps.map (·.1)).Nodup ∧ ∀ H1, Same H H1 → Q (.bl true) H1
theorem ok_is_headed (T : Tx K w mg A) : FnOk P w K mg base CX0 3 A.f_is_headed A.fd_is_headed P_is_headed (spHeaded K) := by
  have G_is_row := ok_is_row (P := P) (base := base) T
  have G_is_param := ok_is_param (P := P) (base := base) T
  refine T.F_is_headed.ok sc_is_headed (fun vs H Q E h => ?_) (fun cdv AA outer s H vs Q E hr h => ?_)
  · obtain ⟨v, fn, rfl, _⟩ := h
    rfl
  · obtain ⟨v, fn, rfl, ⟨fa, fp, ftv, fqs, rfl, hft, hfpl, hfps, hftr⟩, h4, hn, hnd, q⟩ := h
    have hl := Paired.length hfps
    refine ⟨_, (pss_cons (ps_if (pt_not (pt_val (pe_call G_is_row (hr.mono (by decide)) (by rfl) T.g_is_row T.F_is_row.kp T.b_is_row .nil pass0 (pa_cons (pv 0) (pa_cons pe_int pa_nil)))))
  (pss_one (ps_ret pe_bl))
  pss_nil)
  (pss_cons (ps_asg (pv 0) (pg_tup (by rfl) (pgs_cons (pg_name (i := 1) sc_is_headed.nd rfl (.inl rfl)) (pgs_cons (pg_name (i := 2) sc_is_headed.nd rfl (.inl rfl)) (pgs_cons (pg_name (i := 3) sc_is_headed.nd rfl (.inl rfl)) pgs_nil)))))
  (pss_cons (ps_if (PW.pt (pw_or (pt_not (pt_val (pe_callB call_isi (by rfl) T.n_isinstance (by decide +kernel) (pa_cons (pv 1) (pa_cons (pe_bltn (v := .ty "tuple") (u := .type "tuple") (by rfl) T.n_tuple (by decide +kernel) rfl) pa_nil))))) (pw_or1 (pt_cmpR op_gt (pe_callB call_len (by rfl) T.n_len (by decide +kernel) (pa_cons (pv 1) pa_nil)) (pe_glob (v := .int 4) rfl T.c_MOST_PARAMS ⟨_, rfl⟩) (nomark _)))))
  (pss_one (ps_ret pe_bl))
  pss_nil)
  (pss_cons (ps_if (pt_not (pt_val (pe_callB (cr_all rfl) (by rfl) T.n_all (by decide +kernel) (pa_cons (pe_lc (own := [("param", 4)]) (g := (gName 4)) (tt := tYes) (te := _) rfl sc_is_headed.nd (pi_tup (pv 1)) (blkOk_by (N := N_is_headed) (sc := defScope s_is_headed) (by decide +kernel)) (fun _ _ _ _ _ => (pg_name (i := 4) sc_is_headed.nd rfl (.inl rfl))) (fun _ _ _ _ _ => pts_nil) (fun _ _ _ _ _ => (pe_call G_is_param (hr.mono (by decide)) (by rfl) T.g_is_param T.F_is_param.kp T.b_is_param .nil pass0 (pa_cons (pv 4) pa_nil)))) pa_nil))))
  (pss_one (ps_ret pe_bl))
  pss_nil)
  (pss_one (ps_ret (pe_and (pe_cmpR op_eq (pe_callB call_lenD (by rfl) T.n_len (by decide +kernel) (pa_cons (pe_callTy (cr_dictT rfl) (by rfl) T.n_dict (by decide +kernel) (pa_cons (pv 1) pa_nil)) pa_nil)) (pe_callB call_len (by rfl) T.n_len (by decide +kernel) (pa_cons (pv 1) pa_nil)) (nomark _)) (pe_one (pe_cmpR op_in_seq (pv 2) (pe_glob (v := .ref A.a_KINDS) rfl T.c_KINDS rfl) (by rfl)))))))))), ?_⟩
    refine ⟨_, rfl, fa, _, 3, rfl, hft, true, rfl, iteF ?_⟩
    refine ⟨_, rfl, fa, _, rfl, hft, rfl, _, _, rfl, _, _, rfl, _, _, rfl, rfl, ?_⟩
    refine ⟨_, rfl, _, _, _, _, true, rfl, .ty "tuple", tyx_tup hfpl.sq, kv (by decide +kernel), true, rfl, iteF ⟨_, rfl, _, fn.ps.length, rfl, .inr ⟨_, hfpl.sq, by rw [List.length_map, hl]⟩, _, _, rfl, rfl, _, rfl, itn (by omega) ?_⟩⟩
    refine ⟨_, rfl, fp, rfl, ⟨_, hfpl.sq⟩, fun D hD => ?_⟩
    refine lc_data (walk_tup (K := K) (a := fp) (xs := fqs.map V.ref)) (fun _ y _ => y = .bl true) (fun _ _ _ _ _ e => e) hD (fun H1 s1 => Same.tup s1 hfpl.sq) (by rw [List.length_map]; omega) ?_ ?_
    · rintro i x H1 H2 k hi s1 ⟨rfl, hx⟩ hk
      rw [List.getElem?_map] at hx
      obtain ⟨t, ht, rfl⟩ := Option.map_eq_some_iff.mp hx
      obtain ⟨pr, hpr, hat⟩ := paired_get hfps ht
      exact ⟨rfl, _, rfl, t, pr, rfl, hat.same (sameI_of s1), hn pr (List.mem_of_getElem? hpr), fun H3 s3 => hk _ _ s3 rfl⟩
    · rintro H1 acc s1 e1 hla hE
      refine ⟨D, List.replicate acc.length true, rfl, trues e1 hE, true, ?_, iteF ?_⟩
      · rw [trues_all]
      refine ⟨_, rfl, fp, fqs, nmK fn.ps, rfl, hfpl.same s1, ?_, fun d hd => ?_⟩
      · exact pairs_pr (Paired.mapP hfps fun _ _ z => z.same (sameI_of s1))
      have s2 : Same H1 (upd H1 d (.dK (mergeK [] (nmK fn.ps)))) := same_upd hd
      rw [nmK_merge hnd] at s2 ⊢
      refine ⟨d, nmK fn.ps, rfl, upd_same, _, rfl, _, fn.ps.length, rfl, .inr ⟨_, (hfpl.same (s1.trans s2)).sq, by rw [List.length_map, hl]⟩, rfl, true, ?_, iteT ⟨_, rfl, _, _, rfl, .inr (T.q_KINDS _), rfl, rfl, ?_⟩⟩
      · rw [List.length_map, decide_eq_true rfl]
      · show Q (.bl (inV fn.kd.v [.str "number", .str "list"])) _
        rw [kinds_in]
        exact q _ (s1.trans s2)
def spProgram (K : PySem.W.Frag) : Sp := fun vs H Q _ => ∃ (pgv : V) (fs : List Fn), vs = [pgv] ∧ PgAt K H pgv fs ∧ okPg fs ∧ ∀ H1, Same H H1 → Q .non H1
theorem ok_check_program (T : Tx K w mg A) : FnOk P w K mg base CX0 10 A.f_check_program A.fd_check_program P_check_program (spProgram K) := by
  have G_is_headed := ok_is_headed (P := P) (base := base) T
  have G_check_trees : FnOk P w K mg base CX0 9 A.f_check_trees A.fd_check_trees P_check_trees (fun vs H Q E => ∃ fs i fn, spChTrees K fs i fn vs H Q E) :=
    ⟨fun vs H Q E ⟨fs, i, fn, h⟩ => (ok_check_trees (P := P) (base := base) T fs i fn).len vs H Q E h, fun AA outer s H args us vs Q E hr he hb hv ⟨fs, i, fn, h⟩ => (ok_check_trees (P := P) (base := base) T fs i fn).run AA outer s H args us vs Q E hr he hb hv h⟩
  refine T.F_check_program.ok sc_check_program (fun vs H Q E h => ?_) (fun cdv AA outer s H vs Q E hr h => ?_)
  · obtain ⟨pgv, fs, rfl, _⟩ := h
    rfl
  · obtain ⟨pgv, fs, rfl, hpg, hok, q⟩ := h
    obtain ⟨pa, pvs, rfl, hpt, hpall⟩ := id hpg
    obtain ⟨k1, k2, kall⟩ := id hok
    have hl := Paired.length hpall
    refine ⟨_, (pss_cons (ps_if (PW.pt (pw_or (pt_not (pt_val (pe_callB call_isi (by rfl) T.n_isinstance (by decide +kernel) (pa_cons (pv 0) (pa_cons (pe_bltn (v := .ty "tuple") (u := .type "tuple") (by rfl) T.n_tuple (by decide +kernel) rfl) pa_nil))))) (pw_or1 (pt_cmpR op_eq (pe_callB call_len (by rfl) T.n_len (by decide +kernel) (pa_cons (pv 0) pa_nil)) pe_int (nomark _)))))
  pss_never
  pss_nil)
  (pss_cons (ps_for PassesOwn.never rfl (pi_enumT (by rfl) T.n_enumerate (pa_cons (pv 0) pa_nil)) (pg_tup (by rfl) (pgs_cons (pg_name (i := 1) sc_check_program.nd rfl (.inl rfl)) (pgs_cons (pg_name (i := 2) sc_check_program.nd rfl (.inl rfl)) pgs_nil)))
  (pss_one (ps_if (PW.pt (pw_or (pt_cmpR op_ge (pv 1) (pe_glob (v := .int 6) rfl T.c_MOST_FUNCTIONS ⟨_, rfl⟩) (nomark _)) (pw_or1 (pt_not (pt_val (pe_call G_is_headed (hr.mono (by decide)) (by rfl) T.g_is_headed T.F_is_headed.kp T.b_is_headed .nil pass0 (pa_cons (pv 2) pa_nil)))))))
  pss_never
  pss_nil)))
  (pss_one (ps_for PassesOwn.never rfl (pi_range1 (by rfl) T.n_range (pa_cons (pe_callB call_len (by rfl) T.n_len (by decide +kernel) (pa_cons (pv 0) pa_nil)) pa_nil)) (pg_name (i := 1) sc_check_program.nd rfl (.inl rfl))
  (pss_one (ps_expr (pe_call G_check_trees (hr.mono (by decide)) (by rfl) T.g_check_trees T.F_check_trees.kp T.b_check_trees .nil pass0 (pa_cons (pv 0) (pa_cons (pv 1) pa_nil))))))))), ?_⟩
    refine ⟨_, rfl, _, _, _, _, true, rfl, .ty "tuple", tyx_tup hpt, kv (by decide +kernel), true, rfl, iteF ⟨_, rfl, _, pvs.length, rfl, .inr ⟨_, hpt, rfl⟩, rfl, _, rfl, itn (p := V.int (pvs.length : Nat) = V.int 0) (fun z => by have := V.int.inj z; omega) ?_⟩⟩
    refine ⟨_, rfl, pa, pvs, rfl, hpt, for_it walk_enumT (fun i σ H1 => ∃ y1 y2, σ = [some (.ref pa), y1, y2] ∧ Same H H1) ⟨none, none, rfl, Same.refl _⟩ (fun i σ H1 _ ⟨_, _, _, s1⟩ => Same.tup s1 hpt) ?_ ?_⟩
    · rintro i x σ H2 H1 hi ⟨y1, y2, rfl, s1⟩ ⟨T1, u1, u2, rfl, hT, rfl, e1, e2⟩
      cases e1
      obtain ⟨fn, hfn, hat⟩ := paired_get hpall e2
      obtain ⟨f1, f2, f3, f4, f5, f6⟩ := kall fn (List.mem_of_getElem? hfn)
      have s2 : Same H2 (upd H2 T1 (.tup [.int (i : Nat), u2])) := same_upd hT
      refine ⟨T1, _, rfl, .inl (.inl upd_same), rfl, _, _, rfl, _, _, rfl, rfl, ?_⟩
      refine ⟨_, rfl, _, _, rfl, rfl, _, rfl, itn (show ¬ (6 : Int) ≤ (i : Int) by omega) ⟨_, rfl, u2, fn, rfl, hat.same (sameI_of (s1.trans s2)), f1, f2, f3, fun H3 s3 => ⟨true, rfl, iteF ⟨_, _, rfl, (s1.trans s2).trans s3⟩⟩⟩⟩
    · rintro σ H1 ⟨y1, y2, rfl, s1⟩
      refine ⟨_, rfl, _, pvs.length, rfl, .inr ⟨_, Same.tup s1 hpt, rfl⟩, _, rfl, by omega, by omega, ?_⟩
      refine for_it (walk_range (lo := 0) (n := ((pvs.length : Int)).toNat)) (fun i σ H1 => ∃ y1 y2, σ = [some (.ref pa), y1, y2] ∧ Same H H1) ⟨_, _, rfl, s1⟩ (fun _ _ _ _ _ => trivial) ?_ ?_
      · rintro i x σ H3 H2 hi ⟨z1, z2, rfl, s2⟩ ⟨rfl, rfl⟩
        have hi2 : i < fs.length := by omega
        have e0 : (0 : Int) + (i : Nat) = (i : Nat) := by omega
        refine ⟨_, rfl, _, rfl, fs, i, fs[i], .ref pa, by show [V.ref pa, V.int (0 + (i : Nat))] = _; rw [e0], hpg.same (sameI_of s2), hok, List.getElem?_eq_getElem hi2, fun H3 s3 => ⟨_, _, rfl, s2.trans s3⟩⟩
      · rintro σ H2 ⟨z1, z2, rfl, s2⟩
        exact q _ s2
def spFunction (K : PySem.W.Frag) : Sp := fun vs H Q _ => ∃ (pa : Addr) (pvs : List V) (i : Nat), vs = [.ref pa, .int (i : Nat)] ∧ SqT K H pa pvs ∧ i < pvs.length ∧ Q .non H
theorem ok_check_function (T : Tx K w mg A) : FnOk P w K mg base CX0 3 A.f_check_function A.fd_check_function P_check_function (spFunction K) := by
  have G_is_between := ok_is_between (P := P) (base := base) T
  refine T.F_check_function.ok sc_check_function (fun vs H Q E h => ?_) (fun cdv AA outer s H vs Q E hr h => ?_)
  · obtain ⟨pa, pvs, i, rfl, _⟩ := h
    rfl
  · obtain ⟨pa, pvs, i, rfl, hp, hi, q⟩ := h
    refine ⟨_, (pss_one (ps_if (pt_not (pt_val (pe_call G_is_between (hr.mono (by decide)) (by rfl) T.g_is_between T.F_is_between.kp T.b_is_between .nil pass0 (pa_cons (pv 1) (pa_cons pe_int (pa_cons (pe_op op_sub (pe_callB call_len (by rfl) T.n_len (by decide +kernel) (pa_cons (pv 0) pa_nil)) pe_int) pa_nil))))))
  pss_never
  pss_nil)), ?_⟩
    refine ⟨_, rfl, _, rfl, _, pvs.length, rfl, .inr ⟨_, hp, rfl⟩, _, _, rfl, rfl, (i : Int), 0, (pvs.length : Int) - 1, rfl, _, rfl, ?_⟩
    rw [decide_eq_true (show (0 : Int) ≤ (i : Int) ∧ (i : Int) ≤ (pvs.length : Int) - 1 by omega)]
    exact iteF q
end
end Cs
namespace Cs
open PySem PySem.Spec L2
/-! ## the lattice -/
inductive Sl where
  | z | of (k : Nat) | len (k : Nat) | each (k : Nat)
def Sl.d : Sl → PyData
  | .z => .tuple []
  | .of k => .tuple [.str "of", .int k]
  | .len k => .tuple [.str "len", .int k]
  | .each k => .tuple [.str "each", .int k]
def slotsAt (k : Nat) : Kd → List Sl
  | .num => [.of k]
  | .lst => [.len k, .each k]
def slotsF : Nat → List Kd → List Sl
  | _, [] => []
  | k, kd :: r => slotsAt k kd ++ slotsF (k + 1) r
def slotsOf (ks : List Kd) : List Sl := .z :: slotsF 0 ks
theorem slotsF_snoc : ∀ (n : Nat) (ks : List Kd) (kd : Kd), slotsF n (ks ++ [kd]) = slotsF n ks ++ slotsAt (n + ks.length) kd
  | n, [], kd => by simp [slotsF]
  | n, k :: ks, kd => by
    show slotsAt n k ++ slotsF (n + 1) (ks ++ [kd]) = (slotsAt n k ++ slotsF (n + 1) ks) ++ slotsAt (n + (ks.length + 1)) kd
    rw [slotsF_snoc (n + 1) ks kd, List.append_assoc, show n + 1 + ks.length = n + (ks.length + 1) by omega]
theorem slotsOf_take {ks : List Kd} {i : Nat} {kd : Kd} (h : ks[i]? = some kd) : slotsOf (ks.take (i + 1)) = slotsOf (ks.take i) ++ slotsAt i kd := by
  have hl : (ks.take i).length = i := by
    have := (List.getElem?_eq_some_iff.mp h).1
    rw [List.length_take]
    omega
  unfold slotsOf
  rw [List.take_add_one, h]
  show Sl.z :: slotsF 0 (ks.take i ++ [kd]) = _
  rw [slotsF_snoc, hl, Nat.zero_add]
  rfl
theorem slotsAt_len (k : Nat) (kd : Kd) : (slotsAt k kd).length ≤ 2 := by cases kd <;> simp [slotsAt]
theorem slotsF_len : ∀ (n : Nat) (ks : List Kd), (slotsF n ks).length ≤ 2 * ks.length
  | _, [] => Nat.zero_le _
  | n, k :: ks => by
    have h1 := slotsF_len (n + 1) ks
    have h2 := slotsAt_len n k
    show (slotsAt n k ++ slotsF (n + 1) ks).length ≤ 2 * (ks.length + 1)
    rw [List.length_append]
    omega
theorem slotsOf_len (ks : List Kd) : (slotsOf ks).length ≤ 2 * ks.length + 1 := Nat.succ_le_succ (slotsF_len 0 ks)
abbrev Cm := Sl × Sl × Int
def Cm.d (c : Cm) : PyData := .tuple [c.1.d, c.2.1.d, .int c.2.2]
/-- the claims of two slots -/
def cms (a b : Sl) (ns : List Int) : List Cm := if PyData.eqv a.d b.d = true then [] else ns.map fun n => (a, b, n)
def rawOf (ss : List Sl) (ns : List Int) : List Cm := ss.flatMap fun a => ss.flatMap fun b => cms a b ns
abbrev latOf (ss : List Sl) (ns : List Int) : List PyData := ((rawOf ss ns).map Cm.d).mergeSort (PySem.W.dataLe false id)
theorem sl_alike (a b : Sl) : PySem.W.alike a.d b.d = true := by cases a <;> cases b <;> simp [Sl.d, PySem.W.alike, PySem.W.alikeAll]
theorem cm_alike (c e : Cm) : PySem.W.alike c.d e.d = true := by
  have h1 := sl_alike c.1 e.1
  have h2 := sl_alike c.2.1 e.2.1
  simp [Cm.d, PySem.W.alike, PySem.W.alikeAll, h1, h2]
theorem cms_alike (cs : List Cm) : PySem.W.AllAlike (cs.map Cm.d) := fun d hd e he => by
  obtain ⟨c, _, rfl⟩ := List.mem_map.mp hd
  obtain ⟨c2, _, rfl⟩ := List.mem_map.mp he
  exact cm_alike c c2
theorem cms_sortable (cs : List Cm) : PySem.W.Sortable (cs.map Cm.d) := .inl fun d hd => by
  obtain ⟨c, _, rfl⟩ := List.mem_map.mp hd
  exact ⟨_, _, rfl⟩
theorem sl_depth (a : Sl) : a.d.depth ≤ 2 := by cases a <;> simp [Sl.d, PyData.depth, PyData.depthAll]
theorem cm_depth (c : Cm) : c.d.depth ≤ 60 := by
  have h1 := sl_depth c.1
  have h2 := sl_depth c.2.1
  simp [Cm.d, PyData.depth, PyData.depthAll]
  omega
theorem sl_shaped (a : Sl) : SeqAt.shaped a.d = true := by cases a <;> simp [Sl.d, SeqAt.shaped, PyData.canLay0, PyData.canLayAll0, PyData.depth, PyData.depthAll] <;> decide +kernel
/-- a walk by what holds between the turns -/
theorem walk_by {J : It} {n : Nat} {G : Hp → Prop} {Y : Nat → Hp → V → Hp → Prop} (w : Walk J n G Y) {H0 : Hp} {Done : Hp → Prop} {Step : V → Hp → (Hp → Prop) → Prop} (Pv : Nat → Hp → Prop) (h0 : Pv 0 H0) (hG : ∀ i H, i ≤ n → Pv i H → G H)
    (hs : ∀ i x H H2, i < n → Pv i H → Y i H x H2 → Step x H2 (Pv (i + 1))) (hd : ∀ H, Pv n H → Done H) :
    ∃ W : Nat → Nat → Hp → Prop, (∃ m, W 0 m H0) ∧ ∀ j m H2, W j m H2 → (J.stop j H2 ∧ Done H2) ∨ (J.go j H2 ∧ ∃ N1 : Hp → Prop, (∀ H3, N1 H3 → ∃ m1, m1 < m ∧ W (j + 1) m1 H3) ∧ ∀ x H3, J.yld j H2 x H3 → Step x H3 N1) := by
  refine ⟨fun i m H => m = n - i ∧ i ≤ n ∧ Pv i H, ⟨n, by simp, Nat.zero_le _, h0⟩, ?_⟩
  rintro i m H ⟨rfl, hi, p⟩
  have q := hG i H hi p
  by_cases hlt : i < n
  · exact .inr ⟨w.goes i H hlt q, Pv (i + 1), fun H3 p3 => ⟨n - (i + 1), by omega, rfl, hlt, p3⟩, fun x H3 y => hs i x H H3 hlt p (w.yields i H x H3 hlt q y)⟩
  · obtain rfl : i = n := by omega
    exact .inl ⟨w.stops H q, hd H p⟩
section
variable {P : Program} {w : World} {K : PySem.W.Frag} {mg : Str → Option Value} {base : Heap} {A : Adr}
theorem im_slot {H : Hp} {p : Addr} {z : Str} {k : Nat} (h : H p = some (.tup [.str z, .int (k : Nat)])) : Im K H (.ref p) (.tuple [.str z, .int k]) := .tup (.inl (.inl h)) (.cons (.str z) (.cons (.int k) .nil))
def spSlots (K : PySem.W.Frag) : Sp := fun vs H Q _ => ∃ (l : Addr) (ks : List Kd), vs = [.ref l] ∧ SqL K H l (ks.map Kd.v) ∧ ks.length ≤ 100 ∧ ∀ H1 p acc, Same H H1 → H p = none → H1 p = some (.lst acc) → ImAll K H1 acc ((slotsOf ks).map Sl.d) → Q (.ref p) H1
theorem ok_slots (T : Tx K w mg A) : FnOk P w K mg base CX0 1 A.f_slots A.fd_slots P_slots (spSlots K) := by
  refine T.F_slots.ok sc_slots (fun vs H Q E h => ?_) (fun cdv AA outer s H vs Q E hr h => ?_)
  · obtain ⟨l, ks, rfl, _⟩ := h
    rfl
  · obtain ⟨l, ks, rfl, hl, hlen, q⟩ := h
    refine ⟨_, (pss_cons (ps_set (i := 1) sc_slots.nd rfl (.inl rfl) (pe_lst (pa_cons (pe_tup pa_nil) pa_nil)))
  (pss_cons (ps_for PassesOwn.never rfl (pi_enum (by rfl) T.n_enumerate (pa_cons (pv 0) pa_nil)) (pg_tup (by rfl) (pgs_cons (pg_name (i := 2) sc_slots.nd rfl (.inl rfl)) (pgs_cons (pg_name (i := 3) sc_slots.nd rfl (.inl rfl)) pgs_nil)))
  (pss_one (ps_if (pt_cmpR op_eq (pv 3) pe_str (nomark _))
  (pss_one (ps_expr (pe_bm PySem.F.plainAttrs_list PySem.F.slot_list_append PySem.F.type_list_append mt_append (pv 1) (pa_cons (pe_tup (pa_cons pe_str (pa_cons (pv 2) pa_nil))) pa_nil))))
  (pss_one (ps_expr (pe_bm PySem.F.plainAttrs_list PySem.F.slot_list_extend PySem.F.type_list_extend mt_extend (pv 1) (pa_cons (pe_lst (pa_cons (pe_tup (pa_cons pe_str (pa_cons (pv 2) pa_nil))) (pa_cons (pe_tup (pa_cons pe_str (pa_cons (pv 2) pa_nil))) pa_nil))) pa_nil)))))))
  (pss_one (ps_ret (pv 1))))), ?_⟩
    refine ⟨by show 0 ≤ sizeLine; decide, fun z0 hz0 => ⟨by show 1 ≤ sizeLine; decide, fun fl hfl => ?_⟩⟩
    have s1 : Same H (upd H z0 (.tup [])) := same_upd hz0
    have s2 : Same (upd H z0 (.tup [])) (upd (upd H z0 (.tup [])) fl (.lst [.ref z0])) := same_upd hfl
    have nfl : H fl = none := s1.free hfl
    refine ⟨_, rfl, l, ks.map Kd.v, rfl, (s1.trans s2).seq hl, for_it walk_enum (fun i σ H1 => ∃ y2 y3 acc, σ = [some (.ref l), some (.ref fl), y2, y3] ∧ Same H H1 ∧ H1 fl = some (.lst acc) ∧ ImAll K H1 acc ((slotsOf (ks.take i)).map Sl.d))
      ⟨none, none, [.ref z0], rfl, s1.trans s2, upd_same, .cons (.tup (.inl (.inl (s2 _ _ upd_same))) .nil) .nil⟩ (fun i σ H1 _ ⟨_, _, _, _, h1, _⟩ => h1.seq hl) ?_ ?_⟩
    · rintro i x σ H2 H1 hi ⟨y2, y3, acc, rfl, h1, e1, hacc⟩ ⟨T1, u1, u2, rfl, hT, rfl, eu1, eu2⟩
      cases eu1
      dsimp only at eu2
      rw [List.getElem?_map] at eu2
      obtain ⟨kd, hkd, rfl⟩ := Option.map_eq_some_iff.mp eu2
      have s3 : Same H2 (upd H2 T1 (.tup [.int (i : Nat), kd.v])) := same_upd hT
      have h3 := h1.trans s3
      have e3 := s3 _ _ e1
      have hi2 : i < ks.length := by rw [List.length_map] at hi; exact hi
      have lacc : acc.length ≤ 201 := by
        have l1 := ImAll.length hacc
        have l2 := slotsOf_len (ks.take i)
        rw [List.length_map] at l1
        rw [List.length_take] at l2
        omega
      refine ⟨T1, _, rfl, .inl (.inl upd_same), rfl, _, _, rfl, _, _, rfl, rfl, ?_⟩
      cases kd with
      | num =>
        refine ⟨_, rfl, rfl, _, rfl, itd (p := Kd.num.v = V.str "number") rfl ?_⟩
        refine ⟨_, rfl, .inl ⟨rfl, _, SqL.of e3⟩, _, rfl, by show 2 ≤ sizeLine; decide, fun p1 hp1 => ?_⟩
        have s4 := same_upd (o := .tup [.str "of", .int (i : Nat)]) hp1
        have e4 := s4 _ _ e3
        refine ⟨fl, _, _, rfl, rfl, e4, smaller (by omega), _, _, acc ++ [.ref p1], rfl, (sameX_upd (l := fl)).same (h3.trans s4) nfl, upd_same, ?_⟩
        rw [slotsOf_take hkd, List.map_append]
        have si := sameI_upd (o := .lst (acc ++ [.ref p1])) e4 id
        refine ImAll.append (hacc.same ((sameI_of (s3.trans s4)).trans si)) (.cons ((im_slot (z := "of") (k := i) upd_same).same si) .nil)
      | lst =>
        refine ⟨_, rfl, rfl, _, rfl, itn (p := Kd.lst.v = V.str "number") (by decide +kernel) ?_⟩
        refine ⟨_, rfl, .inl ⟨rfl, _, SqL.of e3⟩, _, rfl, by show 2 ≤ sizeLine; decide, fun p1 hp1 => ⟨_, rfl, by show 2 ≤ sizeLine; decide, fun p2 hp2 => ⟨by show 2 ≤ sizeLine; decide, fun p3 hp3 => ?_⟩⟩⟩
        have s4 := same_upd (o := .tup [.str "len", .int (i : Nat)]) hp1
        have s5 := same_upd (o := .tup [.str "each", .int (i : Nat)]) hp2
        have s6 := same_upd (o := .lst [.ref p1, .ref p2]) hp3
        have e6 := s6 _ _ (s5 _ _ (s4 _ _ e3))
        refine ⟨fl, p3, _, _, rfl, rfl, e6, upd_same, ?_, _, _, acc ++ [.ref p1, .ref p2], rfl, (sameX_upd (l := fl)).same (h3.trans (s4.trans (s5.trans s6))) nfl, upd_same, ?_⟩
        · exact small (by show acc.length + 2 ≤ _; omega)
        rw [slotsOf_take hkd, List.map_append]
        have si := sameI_upd (o := .lst (acc ++ [.ref p1, .ref p2])) e6 id
        refine ImAll.append (hacc.same ((sameI_of (s3.trans (s4.trans (s5.trans s6)))).trans si)) (.cons ((im_slot (z := "len") (k := i) upd_same).same ((sameI_of (s5.trans s6)).trans si)) (.cons ((im_slot (z := "each") (k := i) upd_same).same ((sameI_of s6).trans si)) .nil))
    · rintro σ H1 ⟨y2, y3, acc, rfl, h1, e1, hacc⟩
      rw [List.length_map, List.take_length] at hacc
      exact ⟨_, rfl, q H1 fl acc h1 nfl e1 hacc⟩
end
end Cs
namespace Cs
open PySem PySem.Spec L2
section
variable {P : Program} {w : World} {K : PySem.W.Frag} {mg : Str → Option Value} {base : Heap} {A : Adr}
def spBehind (K : PySem.W.Frag) : Sp := fun vs H Q _ => ∃ (v : V) (f : Fn), vs = [v] ∧ FnAt K H v f ∧ f.ps.length ≤ 1000 ∧ ∀ H1 p, Same H H1 → H p = none → H1 p = some (.lst ((f.hd.1 ++ [f.kd]).map Kd.v)) → Q (.ref p) H1
theorem ok_kinds_behind (T : Tx K w mg A) : FnOk P w K mg base CX0 2 A.f_kinds_behind A.fd_kinds_behind P_kinds_behind (spBehind K) := by
  have G_kinds_ahead := ok_kinds_ahead (P := P) (base := base) T
  refine T.F_kinds_behind.ok sc_kinds_behind (fun vs H Q E h => ?_) (fun cdv AA outer s H vs Q E hr h => ?_)
  · obtain ⟨v, f, rfl, _⟩ := h
    rfl
  · obtain ⟨v, f, rfl, hf, hlen, q⟩ := h
    obtain ⟨a, p, tv, qs, rfl, ha, hp, hq, ht⟩ := id hf
    refine ⟨_, (pss_one (ps_ret (pe_op op_cat (pe_call G_kinds_ahead (hr.mono (by decide)) (by rfl) T.g_kinds_ahead T.F_kinds_ahead.kp T.b_kinds_ahead .nil pass0 (pa_cons (pv 0) pa_nil)) (pe_lst (pa_cons (pe_ix ix_tup (pv 0) pe_int (fun _ _ => rfl)) pa_nil))))), ?_⟩
    refine ⟨_, rfl, .ref a, f, rfl, hf, hlen, fun H1 l s1 nl el => ⟨_, rfl, _, _, _, _, rfl, rfl, Same.tup s1 ha, atI_nat (j := 1) rfl, by show 1 ≤ sizeLine; decide, fun l2 hl2 => ?_⟩⟩
    have s2 := same_upd (o := .lst [f.kd.v]) hl2
    refine ⟨l, l2, _, _, rfl, rfl, s2 _ _ el, upd_same, small (by rw [List.length_map]; show f.ps.length + 1 ≤ _; omega), fun p3 hp3 => ?_⟩
    have s3 := same_upd (o := .lst ((f.ps.map fun x => x.2.v) ++ [f.kd.v])) hp3
    refine q _ p3 (s1.trans (s2.trans s3)) ((s1.trans s2).free hp3) ?_
    rw [upd_same, List.map_append]
    show _ = some (HO.lst ((f.ps.map (·.2)).map Kd.v ++ [f.kd.v]))
    rw [List.map_map]
    rfl
/-- numbers of a lattice -/
def okNums (ns : List Int) : Prop := 1 ≤ ns.length ∧ ns.length ≤ 5 ∧ (∀ n ∈ ns, -9 ≤ n ∧ n ≤ 9) ∧ ns.Pairwise (· < ·)
def spNumbers (K : PySem.W.Frag) : Sp := fun vs H Q _ => ∃ (a : Addr) (ns : List Int), vs = [.ref a] ∧ SqT K H a (ns.map V.int) ∧ okNums ns ∧ ∀ H1, Same H H1 → Q .non H1
theorem ok_check_numbers (T : Tx K w mg A) : FnOk P w K mg base CX0 3 A.f_check_numbers A.fd_check_numbers P_check_numbers (spNumbers K) := by
  have G_is_between := ok_is_between (P := P) (base := base) T
  refine T.F_check_numbers.ok sc_check_numbers (fun vs H Q E h => ?_) (fun cdv AA outer s H vs Q E hr h => ?_)
  · obtain ⟨a, ns, rfl, _⟩ := h
    rfl
  · obtain ⟨a, ns, rfl, ha, ⟨n1, n5, n9, nup⟩, q⟩ := h
    obtain ⟨n0, nr, rfl⟩ : ∃ n0 nr, ns = n0 :: nr := by
      cases ns with
      | nil => simp at n1
      | cons x r => exact ⟨x, r, rfl⟩
    have hl : ((n0 :: nr).map V.int).length = nr.length + 1 := by rw [List.length_map]; rfl
    refine ⟨_, (pss_cons (ps_if (PW.pt (pw_or (pt_not (pt_val (pe_callB call_isi (by rfl) T.n_isinstance (by decide +kernel) (pa_cons (pv 0) (pa_cons (pe_bltn (v := .ty "tuple") (u := .type "tuple") (by rfl) T.n_tuple (by decide +kernel) rfl) pa_nil))))) (pw_or1 (pt_not (pt_chain op_le op_le pe_int (pe_callB call_len (by rfl) T.n_len (by decide +kernel) (pa_cons (pv 0) pa_nil)) (pe_glob (v := .int 5) rfl T.c_MOST_NUMBERS ⟨_, rfl⟩))))))
  pss_never
  pss_nil)
  (pss_cons (ps_if (pt_not (pt_val (pe_callB (cr_all rfl) (by rfl) T.n_all (by decide +kernel) (pa_cons (pe_lc (own := [("n", 1)]) (g := (gName 1)) (tt := tYes) (te := _) rfl sc_check_numbers.nd (pi_tup (pv 0)) (blkOk_by (N := N_check_numbers) (sc := defScope s_check_numbers) (by decide +kernel)) (fun _ _ _ _ _ => (pg_name (i := 1) sc_check_numbers.nd rfl (.inl rfl))) (fun _ _ _ _ _ => pts_nil) (fun _ _ _ _ _ => (pe_call G_is_between (hr.mono (by decide)) (by rfl) T.g_is_between T.F_is_between.kp T.b_is_between .nil pass0 (pa_cons (pv 1) (pa_cons (pe_un un_neg (pe_glob (v := .int 9) rfl T.c_FARTHEST_NUMBER ⟨_, rfl⟩)) (pa_cons (pe_glob (v := .int 9) rfl T.c_FARTHEST_NUMBER ⟨_, rfl⟩) pa_nil)))))) pa_nil))))
  pss_never
  pss_nil)
  (pss_one (ps_if (pt_not (pt_val (pe_callB (cr_all rfl) (by rfl) T.n_all (by decide +kernel) (pa_cons (pe_lc (own := [("low", 2), ("high", 3)]) (g := (gTup K 2 (gCons (gName 2) (gCons (gName 3) gNil)))) (tt := tYes) (te := _) rfl sc_check_numbers.nd (RZ.pi_zipA (by rfl) T.n_zip (pa_cons (pv 0) (pa_cons (pe_slice sl_tup (pv 0) (po_some pe_int) po_none) pa_nil))) (blkOk_by (N := N_check_numbers) (sc := defScope s_check_numbers) (by decide +kernel)) (fun _ _ _ _ _ => (pg_tup (by rfl) (pgs_cons (pg_name (i := 2) sc_check_numbers.nd rfl (.inl rfl)) (pgs_cons (pg_name (i := 3) sc_check_numbers.nd rfl (.inl rfl)) pgs_nil)))) (fun _ _ _ _ _ => pts_nil) (fun _ _ _ _ _ => (pe_cmpR op_lt (pv 2) (pv 3) (nomark _)))) pa_nil))))
  pss_never
  pss_nil)))), ?_⟩
    refine ⟨_, rfl, _, _, _, _, true, rfl, .ty "tuple", tyx_tup ha, kv (by decide +kernel), true, rfl, iteF ⟨_, rfl, _, nr.length + 1, rfl, .inr ⟨_, ha, hl.symm⟩, _, _, rfl, rfl, _, rfl, itd (by omega) ⟨_, _, rfl, rfl, _, rfl, itnd (show ((nr.length + 1 : Nat) : Int) ≤ 5 by have : nr.length + 1 ≤ 5 := n5; omega) ?_⟩⟩⟩
    refine ⟨_, rfl, a, rfl, ⟨_, ha⟩, fun D hD => ?_⟩
    refine lc_data (walk_tup (K := K) (a := a) (xs := (n0 :: nr).map V.int)) (fun _ y _ => y = .bl true) (fun _ _ _ _ _ e => e) hD (fun H1 s1 => Same.tup s1 ha) (by rw [hl]; have : nr.length + 1 ≤ 5 := n5; omega) ?_ ?_
    · rintro i x H1 H2 k hi s1 ⟨rfl, hx⟩ hk
      rw [List.getElem?_map] at hx
      obtain ⟨n, hn, rfl⟩ := Option.map_eq_some_iff.mp hx
      have h9 := n9 n (List.mem_of_getElem? hn)
      refine ⟨rfl, _, rfl, 9, rfl, n, -9, 9, rfl, hk _ _ (Same.refl _) ?_⟩
      rw [decide_eq_true (show (-9 : Int) ≤ n ∧ n ≤ 9 from h9)]
    rintro H1 acc s1 e1 hla hE
    refine ⟨D, List.replicate acc.length true, rfl, trues e1 hE, true, ?_, iteF ?_⟩
    · rw [trues_all]
    have ha1 := Same.tup s1 ha
    refine ⟨_, rfl, _, rfl, 1, rfl, a, _, rfl, ha1, cut1_not _ _, fun p hp => ?_⟩
    have s2 : Same H1 (upd H1 p (.tup (cutV ((n0 :: nr).map V.int) (some 1) none))) := same_upd hp
    rw [show cutV ((n0 :: nr).map V.int) (some 1) none = nr.map V.int from cut1 _ _] at s2 ⊢
    have hp1 : SqT K (upd H1 p (.tup (nr.map V.int))) p (nr.map V.int) := .inl (.inl upd_same)
    refine ⟨a, p, _, _, rfl, .inr ⟨Same.tup s2 ha1, hp1, fun D2 hD2 => ?_⟩⟩
    refine lc_data (n := nr.length) (G := fun H2 => Same (upd H1 p (.tup (nr.map V.int))) H2) (Y := fun i H v H' => ∃ T x' y', v = .ref T ∧ H T = none ∧ H' = upd H T (.tup [x', y']) ∧ ((n0 :: nr).map V.int)[i]? = some x' ∧ (nr.map V.int)[i]? = some y') ⟨?_, ?_, ?_⟩
      (fun _ y _ => y = .bl true) (fun _ _ _ _ _ e => e) hD2 (fun _ s3 => s3) (by have : nr.length + 1 ≤ 5 := n5; omega) ?_ ?_
    · intro i H2 hi s3
      exact ⟨_, _, _, _, Same.tup (s2.trans s3) ha1, Same.tup s3 hp1, List.getElem?_eq_getElem (by rw [hl]; omega), List.getElem?_eq_getElem (by rw [List.length_map]; exact hi)⟩
    · intro H2 s3
      exact ⟨_, _, Same.tup (s2.trans s3) ha1, Same.tup s3 hp1, .inr (by rw [List.length_map]; exact Nat.le_refl _)⟩
    · rintro i H2 v H3 hi s3 ⟨T1, x, y, rfl, hT, rfl, f1, f2⟩
      exact ⟨T1, x, y, rfl, hT, rfl, f1 _ (Same.tup (s2.trans s3) ha1), f2 _ (Same.tup s3 hp1)⟩
    · rintro i x H2 H3 k hi s3 ⟨T1, x1, y1, rfl, hT, rfl, f1, f2⟩ hk
      rw [List.getElem?_map] at f1 f2
      obtain ⟨n, hn, rfl⟩ := Option.map_eq_some_iff.mp f1
      obtain ⟨m, hm, rfl⟩ := Option.map_eq_some_iff.mp f2
      have hlt : n < m := by
        have hm2 : (n0 :: nr)[i + 1]? = some m := hm
        obtain ⟨g1, g2⟩ := List.getElem?_eq_some_iff.mp hn
        obtain ⟨g3, g4⟩ := List.getElem?_eq_some_iff.mp hm2
        rw [← g2, ← g4]
        exact List.pairwise_iff_getElem.mp nup _ _ _ _ (Nat.lt_succ_self i)
      refine ⟨T1, _, rfl, .inl (.inl upd_same), rfl, _, _, rfl, _, _, rfl, rfl, rfl, _, rfl, _, rfl, _, _, rfl, rfl, hk _ _ (same_upd hT) ?_⟩
      show V.bl (decide (n < m)) = .bl true
      rw [decide_eq_true hlt]
    · rintro H2 acc2 s3 e3 hla2 hE2
      refine ⟨D2, List.replicate acc2.length true, rfl, trues e3 hE2, true, ?_, iteF (q _ (s1.trans (s2.trans s3)))⟩
      rw [trues_all]
end
end Cs
namespace Cs
open PySem PySem.Spec L2
section
variable {P : Program} {w : World} {K : PySem.W.Frag} {mg : Str → Option Value} {base : Heap} {A : Adr}
theorem yes_in {te : TE} {D : Addr} {cs : List Cl} {σ : L2.St} {H : Hp} {Nx : Hp → Prop} (h : tIn te D cs σ H Nx) : tYes σ H fun b H5 => if b = true then tIn te D cs σ H5 Nx else Nx H5 := by
  show (if true = true then tIn te D cs σ H Nx else Nx H)
  rw [if_pos rfl]; exact h
/-- an item more in the list that grows -/
theorem grown {H H1 : Hp} {D : Addr} {acc : List V} {ds : List PyData} {y : V} {d : PyData} (e : H D = some (.lst acc)) (h : ImAll K H acc ds) (s : Same H H1) (hy : Im K H1 y d) : ImAll K (upd H1 D (.lst (acc ++ [y]))) (acc ++ [y]) (ds ++ [d]) := by
  have si := sameI_upd (o := .lst (acc ++ [y])) (s _ _ e) id
  exact ImAll.append (h.same ((sameI_of s).trans si)) (.cons (hy.same si) .nil)
theorem flatMap_take {α β : Type} {f : α → List β} {l : List α} {i : Nat} {x : α} (h : l[i]? = some x) : (l.take (i + 1)).flatMap f = (l.take i).flatMap f ++ f x := by
  rw [List.take_add_one, h]
  show List.flatMap f (l.take i ++ [x]) = _
  rw [List.flatMap_append, List.flatMap_singleton]
def spLattice (K : PySem.W.Frag) : Sp := fun vs H Q _ => ∃ (l a : Addr) (ks : List Kd) (ns : List Int), vs = [.ref l, .ref a] ∧ SqL K H l (ks.map Kd.v) ∧ SqT K H a (ns.map V.int) ∧ ks.length ≤ 40 ∧ ns.length ≤ 5 ∧
  ∀ H1 p ys, Same H H1 → H p = none → H1 p = some (.lst ys) → DpAll K H1 ys (latOf (slotsOf ks) ns) → Q (.ref p) H1
set_option maxHeartbeats 4000000 in
theorem ok_lattice (T : Tx K w mg A) : FnOk P w K mg base CX0 2 A.f_lattice A.fd_lattice P_lattice (spLattice K) := by
  have G_slots := ok_slots (P := P) (base := base) T
  refine T.F_lattice.ok sc_lattice (fun vs H Q E h => ?_) (fun cdv AA outer s H vs Q E hr h => ?_)
  · obtain ⟨l, a, ks, ns, rfl, _⟩ := h
    rfl
  · obtain ⟨l, a, ks, ns, rfl, hl, ha, hk, hn, q⟩ := h
    refine ⟨_, (pss_cons (ps_set (i := 2) sc_lattice.nd rfl (.inr rfl) (pe_call G_slots (hr.mono (by decide)) (by rfl) T.g_slots T.F_slots.kp T.b_slots .nil pass0 (pa_cons (pv 0) pa_nil)))
  (pss_one (ps_ret (pe_callB (cr_sortD hr.units) (by rfl) T.n_sorted (by decide +kernel) (pa_cons (pe_lcN (own := [("slot", 3), ("other", 4), ("n", 5)]) (g := (gName 3)) (tt := tYes) (te := _) (cs := [⟨(iList K (tVar 2)), (gName 4), (tTest (tOp (rNeD K) (tVar 3) (tVar 4))), [4, 5]⟩, ⟨(iTup K (tVar 1)), (gName 5), tYes, [5]⟩]) rfl sc_lattice.nd (pi_list (pv 2)) (blkOk_by (N := N_lattice) (sc := defScope s_lattice) (by decide +kernel)) (fun _ _ _ _ _ => (pg_name (i := 3) sc_lattice.nd rfl (.inl rfl))) (fun _ _ _ _ _ => pts_nil) (fun _ _ _ _ _ => (.cons (c := ⟨(iList K (tVar 2)), (gName 4), (tTest (tOp (rNeD K) (tVar 3) (tVar 4))), [4, 5]⟩) rfl (pi_list (pv 2)) (pg_name (i := 4) sc_lattice.nd rfl (.inl rfl)) (pts_one (pt_cmpR (op_neD hr.units) (pv 3) (pv 4) (nomark _))) (by intro _; rfl) (fun _ h => by cases h; exact (show ∀ i ∈ ([5] : List Nat), i ∈ ([4, 5] : List Nat) by decide)) (.cons (c := ⟨(iTup K (tVar 1)), (gName 5), tYes, [5]⟩) rfl (pi_tup (pv 1)) (pg_name (i := 5) sc_lattice.nd rfl (.inl rfl)) pts_nil (by intro _; rfl) (fun _ h => by cases h) (.nil rfl (pe_tup (pa_cons (pv 3) (pa_cons (pv 4) (pa_cons (pv 5) pa_nil)))))))) (fun _ h => by cases h; exact (show ∀ i ∈ ([4, 5] : List Nat), i ∈ ([3, 4, 5] : List Nat) by decide))) pa_nil))))), ?_⟩
    refine ⟨_, rfl, l, ks, rfl, hl, by omega, fun H1 fl sv s1 nfl e1 hsv => ?_⟩
    have lsv : sv.length ≤ 100 := by
      have h1 := ImAll.length hsv
      have h2 := slotsOf_len ks
      rw [List.length_map] at h1
      omega
    generalize hS : slotsOf ks = S at hsv q
    have ha1 := Same.tup s1 ha
    have getS : ∀ {i : Nat} {x : V} {H2 : Hp}, Same H1 H2 → sv[i]? = some x → ∃ c, S[i]? = some c ∧ Im K H2 x c.d := fun {i x H2} s e => by
      obtain ⟨d, hd, hi⟩ := ImAll.get hsv e
      rw [List.getElem?_map] at hd
      obtain ⟨c, hc, rfl⟩ := Option.map_eq_some_iff.mp hd
      exact ⟨c, hc, hi.same (sameI_of s)⟩
    have el : sv.length = S.length := by
      have h1 := ImAll.length hsv
      rw [List.length_map] at h1
      exact h1
    refine ⟨.ref fl, rfl, fl, rfl, ⟨sv, SqL.of e1⟩, fun D hD => ?_⟩
    have stay : ∀ {H2 H3 : Hp} {acc acc2 : List V}, Same H1 H2 → H2 D = some (.lst acc) → Same H2 H3 → Same H1 (upd H3 D (.lst acc2)) := fun {H2 H3 acc acc2} h h2 h3 b o e => by
      rw [upd_ne (ne_of_none e hD)]
      exact h3 _ _ (h _ _ e)
    refine walk_by (walk_list (K := K) (a := fl) (xs := sv)) (fun i H2 => Same H1 H2 ∧ ∃ acc, H2 D = some (.lst acc) ∧ acc.length ≤ i * 1000 ∧ ImAll K H2 acc (((S.take i).flatMap fun a => S.flatMap fun b => cms a b ns).map Cm.d))
      ⟨same_upd hD, [], upd_same, Nat.zero_le _, .nil⟩ (fun i H2 _ h => SqL.of (h.1 _ _ e1)) ?_ ?_
    · rintro i x H2 H3 hi ⟨s2, acc, eD, lacc, hacc⟩ ⟨rfl, hx⟩
      obtain ⟨ca, hca, ia⟩ := getS s2 hx
      refine ⟨rfl, yes_in ⟨.ref fl, rfl, fl, rfl, ⟨sv, SqL.of (s2 _ _ e1)⟩, ?_⟩⟩
      refine walk_by (walk_list (K := K) (a := fl) (xs := sv)) (fun j H4 => Same H1 H4 ∧ ∃ acc, H4 D = some (.lst acc) ∧ acc.length ≤ i * 1000 + j * 10 ∧ ImAll K H4 acc ((((S.take i).flatMap fun a => S.flatMap fun b => cms a b ns) ++ (S.take j).flatMap fun b => cms ca b ns).map Cm.d))
        ⟨s2, acc, eD, by omega, by simpa only [List.take_zero, List.flatMap_nil, List.append_nil] using hacc⟩ (fun j H4 _ h => SqL.of (h.1 _ _ e1)) ?_ ?_
      · rintro j y H4 H5 hj ⟨s4, acc4, eD4, lacc4, hacc4⟩ ⟨rfl, hy⟩
        obtain ⟨cb, hcb, ib⟩ := getS s4 hy
        obtain ⟨_, hca', ia4⟩ := getS s4 hx
        rw [hca] at hca'
        cases hca'
        refine ⟨rfl, _, rfl, _, rfl, ca.d, cb.d, Im.dp ia4, Im.dp ib, sl_shaped _, sl_shaped _, _, rfl, ?_⟩
        cases he : PyData.eqv ca.d cb.d with
        | true =>
          refine iteF ⟨s4, acc4, eD4, by omega, ?_⟩
          rw [flatMap_take hcb]
          show ImAll K _ acc4 ((_ ++ (_ ++ cms ca cb ns)).map Cm.d)
          unfold cms
          rw [if_pos he, List.append_nil]
          exact hacc4
        | false =>
          refine iteT ⟨.ref a, rfl, a, rfl, ⟨_, Same.tup s4 ha1⟩, ?_⟩
          refine walk_by (walk_tup (K := K) (a := a) (xs := ns.map V.int)) (fun k H6 => Same H1 H6 ∧ ∃ acc, H6 D = some (.lst acc) ∧ acc.length ≤ i * 1000 + j * 10 + k ∧ ImAll K H6 acc (((((S.take i).flatMap fun a => S.flatMap fun b => cms a b ns) ++ (S.take j).flatMap fun b => cms ca b ns) ++ (ns.take k).map fun n => (ca, cb, n)).map Cm.d))
            ⟨s4, acc4, eD4, by omega, by simpa only [List.take_zero, List.map_nil, List.append_nil] using hacc4⟩ (fun k H6 _ h => Same.tup h.1 ha1) ?_ ?_
          · rintro k z H6 H7 hk2 ⟨s6, acc6, eD6, lacc6, hacc6⟩ ⟨rfl, hz⟩
            rw [List.getElem?_map] at hz
            obtain ⟨n, hn2, rfl⟩ := Option.map_eq_some_iff.mp hz
            rw [List.length_map] at hk2
            obtain ⟨c1, hc1, ia6⟩ := getS s6 hx
            rw [hca] at hc1
            cases hc1
            obtain ⟨c2, hc2, ib6⟩ := getS s6 hy
            rw [hcb] at hc2
            cases hc2
            refine ⟨rfl, yes_in ⟨_, rfl, _, rfl, _, rfl, by show 3 ≤ sizeLine; decide, fun t ht => ?_⟩⟩
            have s8 := same_upd (o := .tup [x, y, .int n]) ht
            have i9 : i ≤ 100 := by omega
            have j9 : j ≤ 100 := by omega
            refine ⟨acc6, s8 _ _ eD6, smaller (by omega), stay s6 eD6 s8, _, upd_same, by rw [List.length_append]; show acc6.length + 1 ≤ _; omega, ?_⟩
            rw [List.take_add_one, hn2, List.map_append (f := fun n => (ca, cb, n)), ← List.append_assoc, List.map_append]
            exact grown eD6 hacc6 s8 (.tup (.inl (.inl upd_same)) (.cons (ia6.same (sameI_of s8)) (.cons (ib6.same (sameI_of s8)) (.cons (.int n) .nil))))
          · rintro H6 ⟨s6, acc6, eD6, lacc6, hacc6⟩
            rw [List.length_map] at lacc6 hacc6
            rw [List.take_length] at hacc6
            refine ⟨s6, acc6, eD6, by omega, ?_⟩
            rw [flatMap_take hcb, ← List.append_assoc]
            show ImAll K _ acc6 ((_ ++ cms ca cb ns).map Cm.d)
            unfold cms
            rw [if_neg (by rw [he]; exact Bool.false_ne_true)]
            exact hacc6
      · rintro H4 ⟨s4, acc4, eD4, lacc4, hacc4⟩
        rw [el, List.take_length] at hacc4
        refine ⟨s4, acc4, eD4, by omega, ?_⟩
        rw [flatMap_take hca]
        exact hacc4
    · rintro H2 ⟨s2, acc, eD, lacc, hacc⟩
      rw [el, List.take_length] at hacc
      refine ⟨D, acc, _, rfl, SqL.of eD, ImAll.dp hacc, cms_alike _, cms_sortable _, fun d hd => ?_, fun ys p hys hp => ?_⟩
      · obtain ⟨c, _, rfl⟩ := List.mem_map.mp hd
        exact cm_depth c
      · have s3 := same_upd (o := .lst ys) hp
        exact q _ p ys (s1.trans (s2.trans s3)) ((s1.trans s2).free hp) upd_same (DpAll.same s3 hys)
end
end Cs
namespace Cs
open PySem PySem.Spec L2
section
variable {P : Program} {w : World} {K : PySem.W.Frag} {mg : Str → Option Value} {base : Heap} {A : Adr}
theorem k_candidates (T : Tx K w mg A) : KBn K A.fd_candidates P_candidates 2 ["numbers"] (fun us ws => us ++ ws) (fun vs zs => vs ++ zs) := by
  obtain ⟨mv, h⟩ := T.F_candidates.kbinds0 (ps := P_candidates) 2 ["numbers"] [] (fun us _ ws => us ++ ws) (List.cons_ne_nil _ _) (fun q hq => by cases hq) (fun r1 _ r3 => r1.append r3) (fun D doc pm an cdv ct us mv ws l1 l2 l3 => by
    match us, l1 with
    | [a, b], _ =>
      match ws, l3 with
      | [c], _ =>
        match mv, l2 with
        | [], _ => rfl)
  exact h
theorem b_candidates (T : Tx K w mg A) : ∃ ds, Vals [.ref A.a_NUMBERS] ds ∧ Binds K A.fd_candidates P_candidates ds :=
  T.F_candidates.binds0 (ps := P_candidates) 2 (List.cons_ne_nil _ _) rfl (fun D doc pm an cdv ct us ks l1 l2 => by
    match us, l1 with
    | [a, b], _ =>
      match ks, l2 with
      | [c], _ => exact ⟨_, _, _, _, _, _, rfl, rfl, rfl⟩)
/-- the lattices told: a new tuple of two new lists -/
def spCand (K : PySem.W.Frag) : Sp := fun vs H Q _ => ∃ (pgv : V) (a : Addr) (i : Nat) (fs : List Fn) (fn : Fn) (ns : List Int), vs = [pgv, .int (i : Nat), .ref a] ∧ PgAt K H pgv fs ∧ okPg fs ∧ fs[i]? = some fn ∧ SqT K H a (ns.map V.int) ∧ okNums ns ∧
  ∀ H1 t p q ys zs, Same H H1 → H t = none → H p = none → H q = none → p ≠ q → H1 t = some (.tup [.ref p, .ref q]) → H1 p = some (.lst ys) → H1 q = some (.lst zs) →
    DpAll K H1 ys (latOf (slotsOf fn.hd.1) ns) → DpAll K H1 zs (latOf (slotsOf (fn.hd.1 ++ [fn.kd])) ns) → Q (.ref t) H1
theorem ok_candidates (T : Tx K w mg A) : FnOk P w K mg base CX0 11 A.f_candidates A.fd_candidates P_candidates (spCand K) := by
  have G_check_program := ok_check_program (P := P) (base := base) T
  have G_check_function := ok_check_function (P := P) (base := base) T
  have G_check_numbers := ok_check_numbers (P := P) (base := base) T
  have G_lattice := ok_lattice (P := P) (base := base) T
  have G_kinds_ahead := ok_kinds_ahead (P := P) (base := base) T
  have G_kinds_behind := ok_kinds_behind (P := P) (base := base) T
  refine T.F_candidates.ok sc_candidates (fun vs H Q E h => ?_) (fun cdv AA outer s H vs Q E hr h => ?_)
  · obtain ⟨pgv, a, i, fs, fn, ns, rfl, _⟩ := h
    rfl
  · obtain ⟨pgv, a, i, fs, fn, ns, rfl, hpg, hok, hfn, hns, ons, q⟩ := h
    refine ⟨_, PSs.nox (pss_cons (ps_expr (pe_call G_check_program (hr.mono (by decide)) (by rfl) T.g_check_program T.F_check_program.kp T.b_check_program .nil pass0 (pa_cons (pv 0) pa_nil)))
  (pss_cons (ps_expr (pe_call G_check_function (hr.mono (by decide)) (by rfl) T.g_check_function T.F_check_function.kp T.b_check_function .nil pass0 (pa_cons (pv 0) (pa_cons (pv 1) pa_nil))))
  (pss_cons (ps_expr (pe_call G_check_numbers (hr.mono (by decide)) (by rfl) T.g_check_numbers T.F_check_numbers.kp T.b_check_numbers .nil pass0 (pa_cons (pv 2) pa_nil)))
  (pss_cons (ps_set (i := 3) sc_candidates.nd rfl (.inl rfl) (pe_call G_lattice (hr.mono (by decide)) (by rfl) T.g_lattice T.F_lattice.kp T.b_lattice .nil pass0 (pa_cons (pe_call G_kinds_ahead (hr.mono (by decide)) (by rfl) T.g_kinds_ahead T.F_kinds_ahead.kp T.b_kinds_ahead .nil pass0 (pa_cons (pe_ix ix_tup (pv 0) (pv 1) (fun _ _ => rfl)) pa_nil)) (pa_cons (pv 2) pa_nil))))
  (pss_cons (ps_set (i := 4) sc_candidates.nd rfl (.inl rfl) (pe_call G_lattice (hr.mono (by decide)) (by rfl) T.g_lattice T.F_lattice.kp T.b_lattice .nil pass0 (pa_cons (pe_call G_kinds_behind (hr.mono (by decide)) (by rfl) T.g_kinds_behind T.F_kinds_behind.kp T.b_kinds_behind .nil pass0 (pa_cons (pe_ix ix_tup (pv 0) (pv 1) (fun _ _ => rfl)) pa_nil)) (pa_cons (pv 2) pa_nil))))
  (pss_one (ps_ret (pe_tup (pa_cons (pv 3) (pa_cons (pv 4) pa_nil)))))))))), ?_⟩
    obtain ⟨pa, pvs, rfl, hpa, hfs⟩ := id hpg
    obtain ⟨fv, hfv, hff⟩ := paired_get' hfs hfn
    have hps : fn.ps.length ≤ 4 := (hok.2.2 fn (List.mem_of_getElem? hfn)).1
    have hip : i < pvs.length := (List.getElem?_eq_some_iff.mp hfv).1
    refine ⟨_, rfl, _, fs, rfl, hpg, hok, fun H1 s1 => ?_⟩
    refine ⟨_, rfl, _, rfl, pa, pvs, i, rfl, Same.tup s1 hpa, hip, ?_⟩
    refine ⟨_, rfl, a, ns, rfl, Same.tup s1 hns, ons, fun H2 s2 => ?_⟩
    have s2' := s1.trans s2
    refine ⟨_, rfl, _, rfl, _, _, _, _, rfl, rfl, Same.tup s2' hpa, atI_nat hfv, _, fn, rfl, hff.same (sameI_of s2'), by omega, fun H3 l s3 nl el => ?_⟩
    have s3' := s2'.trans s3
    have el' : H3 l = some (.lst (fn.hd.1.map Kd.v)) := by
      rw [el]
      show _ = some (HO.lst ((fn.ps.map (·.2)).map Kd.v))
      rw [List.map_map]
      rfl
    have h5 : ns.length ≤ 5 := ons.2.1
    have hl1 : fn.hd.1.length ≤ 4 := by show (fn.ps.map (·.2)).length ≤ 4; rw [List.length_map]; exact hps
    refine ⟨_, rfl, l, a, fn.hd.1, ns, rfl, SqL.of el', Same.tup s3' hns, by omega, h5, fun H4 p ys s4 np ep hys => ?_⟩
    have s4' := s3'.trans s4
    refine ⟨_, rfl, _, rfl, _, _, _, _, rfl, rfl, Same.tup s4' hpa, atI_nat hfv, _, fn, rfl, hff.same (sameI_of s4'), by omega, fun H5 l2 s5 nl2 el2 => ?_⟩
    have s5' := s4'.trans s5
    refine ⟨_, rfl, l2, a, fn.hd.1 ++ [fn.kd], ns, rfl, SqL.of el2, Same.tup s5' hns, by rw [List.length_append]; show _ + 1 ≤ 40; omega, h5, fun H6 q2 zs s6 nq eq hzs => ?_⟩
    have s6' := s5'.trans s6
    have ep6 : H6 p = some (.lst ys) := s6 _ _ (s5 _ _ ep)
    have ne : p ≠ q2 := fun z => by rw [← z, s5 _ _ ep] at nq; cases nq
    refine ⟨_, rfl, _, rfl, by show 2 ≤ sizeLine; decide, fun t ht => ?_⟩
    have s7 := same_upd (o := .tup [.ref p, .ref q2]) ht
    exact q _ t p q2 ys zs (s6'.trans s7) (s6'.free ht) (s3'.free np) (s5'.free nq) ne upd_same (s7 _ _ ep6) (s7 _ _ eq) (DpAll.same (s5.trans (s6.trans s7)) hys) (DpAll.same s7 hzs)
end
end Cs
namespace Cs
open PySem PySem.Spec L2
section
variable {P : Program} {w : World} {K : PySem.W.Frag} {mg : Str → Option Value} {base : Heap} {A : Adr}
/-- where drawing stands -/
def Dw (K : PySem.W.Frag) (B H : Hp) (st : Addr) : Prop := ∃ (sc : Addr) (ns : List Int) (i mx r : Int), H st = some (.lst [.ref sc, .int i, .int mx, .int r]) ∧ SqL K B sc (ns.map V.int) ∧ 0 ≤ i ∧ 0 ≤ mx ∧ mx < 2147483647 ∧ 0 ≤ r
def spStart (K : PySem.W.Frag) : Sp := fun vs H Q _ => ∃ (a : Addr) (ns : List Int), vs = [.ref a] ∧ SqL K H a (ns.map V.int) ∧ ns.length ≤ 1000 ∧ ∀ H1 p, Same H H1 → H p = none → Dw K H H1 p → Q (.ref p) H1
theorem ok_w_start (T : Tx K w mg A) : FnOk P w K mg base CX0 1 A.f_w_start A.fd_w_start P_w_start (spStart K) := by
  refine T.F_w_start.ok sc_w_start (fun vs H Q E h => ?_) (fun cdv AA outer s H vs Q E hr h => ?_)
  · obtain ⟨a, ns, rfl, _⟩ := h
    rfl
  · obtain ⟨a, ns, rfl, ha, hn, q⟩ := h
    refine ⟨_, (pss_cons (ps_set (i := 1) sc_w_start.nd rfl (.inl rfl) pe_int)
  (pss_cons (ps_for PassesOwn.never rfl (pi_list (pv 0)) (pg_name (i := 2) sc_w_start.nd rfl (.inl rfl))
  (pss_one (ps_set (i := 1) sc_w_start.nd rfl (.inl rfl) (pe_op op_modN (pe_op op_add (pe_op op_add (pe_op op_mul (pv 1) pe_int) (pv 2)) pe_int) pe_int))))
  (pss_one (ps_ret (pe_lst (pa_cons (pv 0) (pa_cons pe_int (pa_cons (pv 1) (pa_cons pe_int pa_nil))))))))), ?_⟩
    refine ⟨_, rfl, a, rfl, ⟨_, ha⟩, for_it (walk_list (K := K) (a := a) (xs := ns.map V.int)) (fun i σ H1 => ∃ m y2, σ = [some (.ref a), some (.int m), y2] ∧ 0 ≤ m ∧ m < 2147483647 ∧ H1 = H)
      ⟨1, none, rfl, by decide, by decide, rfl⟩ (fun i σ H1 _ ⟨_, _, _, _, _, e⟩ => by rw [e]; exact ha) ?_ ?_⟩
    · rintro i x σ H2 H1 hi ⟨m, y2, rfl, m0, m1, rfl⟩ ⟨rfl, hx⟩
      rw [List.getElem?_map] at hx
      obtain ⟨n, hn2, rfl⟩ := Option.map_eq_some_iff.mp hx
      refine ⟨_, rfl, _, _, rfl, rfl, .inl ⟨by omega, by omega⟩, _, rfl, _, _, rfl, rfl, _, _, rfl, rfl, _, _, rfl, rfl, by show (2147483647 : Int) ≠ 0; decide, ?_⟩
      exact ⟨_, _, rfl, Int.fmod_nonneg_of_pos _ (by decide), Int.fmod_lt_of_pos _ (by decide), rfl⟩
    · rintro σ H2 ⟨m, y2, rfl, m0, m1, rfl⟩
      refine ⟨_, rfl, _, rfl, by show 4 ≤ sizeLine; decide, fun p hp => ?_⟩
      have s1 := same_upd (o := .lst [.ref a, .int 0, .int m, .int 0]) hp
      exact q _ p s1 hp ⟨a, ns, 0, m, 0, upd_same, ha, Int.le_refl _, m0, m1, Int.le_refl _⟩
def spDrawn (K : PySem.W.Frag) : Sp := fun vs H Q _ => ∃ (B : Hp) (st : Addr) (m : Int), vs = [.ref st, .int m] ∧ Same B H ∧ B st = none ∧ Dw K B H st ∧ 1 ≤ m ∧ m ≤ 1000 ∧ ∀ H1 d, 0 ≤ d → d < m → SameX st H H1 → Dw K B H1 st → Q (.int d) H1
theorem ok_w_drawn (T : Tx K w mg A) : FnOk P w K mg base CX0 1 A.f_w_drawn A.fd_w_drawn P_w_drawn (spDrawn K) := by
  refine T.F_w_drawn.ok sc_w_drawn (fun vs H Q E h => ?_) (fun cdv AA outer s H vs Q E hr h => ?_)
  · obtain ⟨B, a, ns, rfl, _⟩ := h
    rfl
  · obtain ⟨B, st, m, rfl, sB, nB, ⟨sc, ns, i, mx, r, e, hB, i0, m0, m1, r0⟩, h1, h2, q⟩ := h
    have hsc : ∀ H3, SameX st H H3 → SqL K H3 sc (ns.map V.int) := fun H3 x => (SameX.same sB x nB).seq hB
    refine ⟨_, (pss_cons (ps_if (pt_cmpR op_gt (pe_ix ix_list (pv 0) pe_int (fun _ _ => rfl)) pe_int (nomark _))
  (pss_cons (ps_set (i := 2) sc_w_drawn.nd rfl (.inl rfl) (pe_op op_modN (pe_ix ix_list (pv 0) pe_int (fun _ _ => rfl)) (pv 1)))
  (pss_cons (ps_asg (pe_op op_fdivN (pe_ix ix_list (pv 0) pe_int (fun _ _ => rfl)) (pv 1)) (pg_sub (pv 0) pe_int set_list))
  (pss_one (ps_ret (pv 2)))))
  pss_nil)
  (pss_cons (ps_asg (pe_op op_add (pe_ix ix_list (pv 0) pe_int (fun _ _ => rfl)) pe_int) (pg_sub (pv 0) pe_int set_list))
  (pss_cons (ps_if (pt_cmpR op_le (pe_ix ix_list (pv 0) pe_int (fun _ _ => rfl)) (pe_callB call_len (by rfl) T.n_len (by decide +kernel) (pa_cons (pe_ix ix_list (pv 0) pe_int (fun _ _ => rfl)) pa_nil)) (nomark _))
  (pss_cons (ps_set (i := 3) sc_w_drawn.nd rfl (.inl rfl) (pe_ix ix_list (pe_ix ix_list (pv 0) pe_int (fun _ _ => rfl)) (pe_op op_sub (pe_ix ix_list (pv 0) pe_int (fun _ _ => rfl)) pe_int) (fun _ _ => rfl)))
  (pss_cons (ps_asg (pe_ifExp (pt_cmpR op_ge (pv 3) (pe_op op_pow pe_int pe_int) (nomark _)) (pe_op op_fdivN (pv 3) (pv 1)) pe_int) (pg_sub (pv 0) pe_int set_list))
  (pss_one (ps_ret (pe_op op_modN (pv 3) (pv 1))))))
  pss_nil)
  (pss_cons (ps_asg (pe_op op_modN (pe_op op_add (pe_op op_mul (pe_ix ix_list (pv 0) pe_int (fun _ _ => rfl)) pe_int) pe_int) pe_int) (pg_sub (pv 0) pe_int set_list))
  (pss_one (ps_ret (pe_op op_modN (pe_op op_fdivN (pe_ix ix_list (pv 0) pe_int (fun _ _ => rfl)) pe_int) (pv 1)))))))), ?_⟩
    have hst : ∀ {H' : Hp} {xs : List V}, H' st = some (.lst xs) → SqL K H' st xs := fun z => SqL.of z
    have hm : m ≠ 0 := by omega
    have hma : m.natAbs < 1073741824 := by omega
    refine ⟨_, rfl, _, _, _, _, rfl, rfl, SqL.of e, atI_nat (j := 3) rfl, _, _, rfl, rfl, _, rfl, ite2 (fun hp => ?_) (fun hp => ?_)⟩
    · have hr0 : 0 < r := of_decide_eq_true hp
      refine ⟨_, rfl, _, _, _, _, rfl, rfl, SqL.of e, atI_nat (j := 3) rfl, _, rfl, _, _, rfl, rfl, hm, ?_⟩
      refine ⟨_, rfl, _, _, _, _, rfl, rfl, SqL.of e, atI_nat (j := 3) rfl, _, rfl, _, _, rfl, rfl, ⟨hm, hma⟩, _, rfl, st, _, 3, 3, rfl, rfl, e, rfl, ?_⟩
      refine ⟨_, rfl, q _ _ (Int.fmod_nonneg_of_pos _ (by omega)) (Int.fmod_lt_of_pos _ (by omega)) sameX_upd ⟨sc, ns, i, mx, r.fdiv m, upd_same, hB, i0, m0, m1, Int.fdiv_nonneg r0 (by omega)⟩⟩
    · refine ⟨_, rfl, _, _, _, _, rfl, rfl, SqL.of e, atI_nat (j := 1) rfl, _, _, rfl, rfl, _, rfl, st, _, 1, 1, rfl, rfl, e, rfl, ?_⟩
      generalize hH1 : upd H st (.lst ([V.ref sc, .int i, .int mx, .int r].set 1 (.int (i + 1)))) = H1
      have e1 : H1 st = some (.lst [.ref sc, .int (i + 1), .int mx, .int r]) := by rw [← hH1]; exact upd_same
      have x1 : SameX st H H1 := by rw [← hH1]; exact sameX_upd
      have hsc1 : SqL K H1 sc (ns.map V.int) := hsc H1 x1
      refine ⟨_, rfl, _, _, _, _, rfl, rfl, SqL.of e1, atI_nat (j := 1) rfl, _, rfl, _, _, _, _, rfl, rfl, SqL.of e1, atI_nat (j := 0) rfl, _, ns.length, rfl, .inl ⟨_, hsc1, (List.length_map _).symm⟩, _, _, rfl, rfl, _, rfl, ite2 (fun hp2 => ?_) (fun hp2 => ?_)⟩
      · have hlt : i + 1 ≤ ns.length := of_decide_eq_true hp2
        obtain ⟨j, rfl⟩ := Int.eq_ofNat_of_zero_le i0
        have hj : j < ns.length := by omega
        have hget : (ns.map V.int)[j]? = some (.int ns[j]) := by rw [List.getElem?_map, List.getElem?_eq_getElem hj]; rfl
        have hat : atI (ns.map V.int) (((j : Nat) : Int) + 1 - 1) = some (.int ns[j]) := by rw [Int.add_sub_cancel]; exact atI_nat hget
        refine ⟨_, rfl, _, _, _, _, rfl, rfl, SqL.of e1, atI_nat (j := 0) rfl, _, rfl, _, _, _, _, rfl, rfl, SqL.of e1, atI_nat (j := 1) rfl, _, _, rfl, rfl, _, _, _, _, rfl, rfl, hsc1, hat, ?_⟩
        refine ⟨_, rfl, _, _, rfl, rfl, ⟨by decide, by decide, by decide⟩, _, _, rfl, rfl, _, rfl, ?_⟩
        have fin : ∀ r1 : Int, 0 ≤ r1 → Q (.int (ns[j].fmod m)) (upd H1 st (.lst [.ref sc, .int ((j : Nat) + 1), .int mx, .int r1])) := fun r1 hr1 =>
          q _ _ (Int.fmod_nonneg_of_pos _ (by omega)) (Int.fmod_lt_of_pos _ (by omega)) (x1.trans sameX_upd) ⟨sc, ns, _, mx, r1, upd_same, hB, by omega, m0, m1, hr1⟩
        refine ite2 (fun hp3 => ?_) (fun hp3 => ?_)
        · have h18 : (10 : Int) ^ 18 ≤ ns[j] := of_decide_eq_true hp3
          refine ⟨_, rfl, _, rfl, _, _, rfl, rfl, ⟨hm, hma⟩, _, rfl, st, _, 3, 3, rfl, rfl, e1, rfl, _, rfl, _, rfl, _, _, rfl, rfl, hm, ?_⟩
          exact fin _ (Int.fdiv_nonneg (by omega) (by omega))
        · refine ⟨_, rfl, st, _, 3, 3, rfl, rfl, e1, rfl, _, rfl, _, rfl, _, _, rfl, rfl, hm, ?_⟩
          exact fin _ (Int.le_refl _)
      · refine ⟨_, rfl, _, _, _, _, rfl, rfl, SqL.of e1, atI_nat (j := 2) rfl, _, _, rfl, rfl, .inl ⟨by omega, by omega⟩, _, _, rfl, rfl, _, _, rfl, rfl, by show (2147483647 : Int) ≠ 0; decide, _, rfl, st, _, 2, 2, rfl, rfl, e1, rfl, ?_⟩
        refine ⟨_, rfl, _, _, _, _, rfl, rfl, SqL.of upd_same, atI_nat (j := 2) rfl, _, _, rfl, rfl, ⟨by decide, by decide⟩, _, rfl, _, _, rfl, rfl, hm, ?_⟩
        exact q _ _ (Int.fmod_nonneg_of_pos _ (by omega)) (Int.fmod_lt_of_pos _ (by omega)) (x1.trans sameX_upd) ⟨sc, ns, _, _, r, upd_same, hB, by omega, Int.fmod_nonneg_of_pos _ (by decide), Int.fmod_lt_of_pos _ (by decide), r0⟩
end
end Cs
namespace Cs
open PySem PySem.Spec L2
/-! ## the same, at every place -/
def Scal : PyData → Prop
  | .none => True
  | .bool _ => True
  | .int _ => True
  | .str _ => True
  | _ => False
inductive Sized : Nat → PyData → Prop
  | sc {n : Nat} {d : PyData} : Scal d → Sized n d
  | tup {n : Nat} {ds : List PyData} : ds.length ≤ 1000000 → (∀ d ∈ ds, Sized n d) → Sized (n + 1) (.tuple ds)
  | lst {n : Nat} {ds : List PyData} : ds.length ≤ 1000000 → (∀ d ∈ ds, Sized n d) → Sized (n + 1) (.list ds)
theorem Sized.up {n : Nat} {d : PyData} (h : Sized n d) : Sized (n + 1) d := by
  induction h with
  | sc h => exact .sc h
  | tup h _ ih => exact .tup h ih
  | lst h _ ih => exact .lst h ih
theorem kany {K : PySem.W.Frag} {a b c : String} {r1 r2 : Bool} (h1 : kitB a b = some r1) (h2 : kitB a c = some r2) : PySem.W.kitAny K (.type a) [.type b, .type c] = some (r1 || r2) := by
  cases r1 <;> cases r2 <;> simp [PySem.W.kitAny, kit_ty h1, kit_ty h2]
def Sq (K : PySem.W.Frag) (b : Bool) (H : Hp) (a : Addr) (xs : List V) : Prop := match b with
  | true => SqL K H a xs
  | false => SqT K H a xs
def seqTy (b : Bool) : String := if b then "list" else "tuple"
theorem Sq.same {K : PySem.W.Frag} {b : Bool} {H H1 : Hp} (s : Same H H1) {a : Addr} {xs : List V} (h : Sq K b H a xs) : Sq K b H1 a xs := by
  cases b
  · exact Same.tup s h
  · exact s.seq h
theorem Sq.ty {K : PySem.W.Frag} {b : Bool} {H : Hp} {a : Addr} {xs : List V} (h : Sq K b H a xs) : TyX K H (.ref a) (.type (seqTy b)) := by
  cases b
  · exact tyx_tup h
  · exact tyx_lst h
theorem Sq.len {K : PySem.W.Frag} {b : Bool} {H : Hp} {a : Addr} {xs : List V} (h : Sq K b H a xs) : LenV K (.ref a) H xs.length := by
  cases b
  · exact .inr ⟨_, h, rfl⟩
  · exact .inl ⟨_, h, rfl⟩
theorem Sq.ix {K : PySem.W.Frag} {b : Bool} {H : Hp} {a : Addr} {xs : List V} {i : Nat} {x : V} {Q : VK} (h : Sq K b H a xs) (e : xs[i]? = some x) (q : Q x H) : rIx K (.ref a) (.int (i : Nat)) H Q := by
  cases b
  · exact .inr (.inl ⟨_, _, _, _, rfl, rfl, h, atI_nat e, q⟩)
  · exact .inl ⟨_, _, _, _, rfl, rfl, h, atI_nat e, q⟩
theorem DpAll.get {K : PySem.W.Frag} {H : Hp} : ∀ {xs : List V} {ds : List PyData} {i : Nat} {x : V}, DpAll K H xs ds → xs[i]? = some x → ∃ d, ds[i]? = some d ∧ Dp K H x d
  | _, _, 0, _, .cons h _, e => by cases e; exact ⟨_, rfl, h⟩
  | _, _, i + 1, _, .cons _ t, e => DpAll.get (i := i) t e
  | _, _, _, _, .nil, e => by simp at e
section
variable {P : Program} {w : World} {K : PySem.W.Frag} {mg : Str → Option Value} {base : Heap} {A : Adr}
def spSame (K : PySem.W.Frag) (n : Nat) : Sp := fun vs H Q _ => ∃ (v1 v2 : V) (d : PyData), vs = [v1, v2] ∧ Dp K H v1 d ∧ Dp K H v2 d ∧ Sized n d ∧ ∀ H1, Same H H1 → Q (.bl true) H1
theorem step_w_same (T : Tx K w mg A) (n : Nat) (sp : Sp) (G_w_same : FnOk P w K mg base CX0 n A.f_w_same A.fd_w_same P_w_same sp) (hG : ∀ vs H Q E m, n = m + 1 → spSame K m vs H Q E → sp vs H Q E) :
    FnOk P w K mg base CX0 (n + 1) A.f_w_same A.fd_w_same P_w_same (spSame K n) := by
  refine T.F_w_same.ok sc_w_same (fun vs H Q E h => ?_) (fun cdv AA outer s H vs Q E hr h => ?_)
  · obtain ⟨a, b, d, rfl, _⟩ := h
    rfl
  · obtain ⟨v1, v2, d, rfl, h1, h2, hz, q⟩ := h
    refine ⟨_, (pss_cons (ps_if (pt_val (pe_callB call_isiT (by rfl) T.n_isinstance (by decide +kernel) (pa_cons (pv 1) (pa_cons (pe_tup (pa_cons (pe_bltn (v := .ty "tuple") (u := .type "tuple") (by rfl) T.n_tuple (by decide +kernel) rfl) (pa_cons (pe_bltn (v := .ty "list") (u := .type "list") (by rfl) T.n_list (by decide +kernel) rfl) pa_nil))) pa_nil))))
  (pss_cons (ps_if (PW.pt (pw_or (pt_not (pt_val (pe_callB call_isiT (by rfl) T.n_isinstance (by decide +kernel) (pa_cons (pv 0) (pa_cons (pe_tup (pa_cons (pe_bltn (v := .ty "tuple") (u := .type "tuple") (by rfl) T.n_tuple (by decide +kernel) rfl) (pa_cons (pe_bltn (v := .ty "list") (u := .type "list") (by rfl) T.n_list (by decide +kernel) rfl) pa_nil))) pa_nil))))) (pw_or1 (pt_cmpR op_ne (pe_callB call_isi (by rfl) T.n_isinstance (by decide +kernel) (pa_cons (pv 0) (pa_cons (pe_bltn (v := .ty "list") (u := .type "list") (by rfl) T.n_list (by decide +kernel) rfl) pa_nil))) (pe_callB call_isi (by rfl) T.n_isinstance (by decide +kernel) (pa_cons (pv 1) (pa_cons (pe_bltn (v := .ty "list") (u := .type "list") (by rfl) T.n_list (by decide +kernel) rfl) pa_nil))) (nomark _)))))
  (pss_one (ps_ret pe_bl))
  pss_nil)
  (pss_cons (ps_if (pt_cmpR op_ne (pe_callB call_len (by rfl) T.n_len (by decide +kernel) (pa_cons (pv 0) pa_nil)) (pe_callB call_len (by rfl) T.n_len (by decide +kernel) (pa_cons (pv 1) pa_nil)) (nomark _))
  (pss_one (ps_ret pe_bl))
  pss_nil)
  (pss_one (ps_ret (pe_cmpR (op_eqD hr.units) (pe_lc (own := [("_law_k", 3)]) (g := (gName 3)) (tt := (tNot (tB (tCall _ _ _ (tCons (tOp (rIx K) (tVar 0) (tVar 3)) (tCons (tOp (rIx K) (tVar 1) (tVar 3)) tNil)))))) (te := (tVar 3)) rfl sc_w_same.nd (pi_range1 (by rfl) T.n_range (pa_cons (pe_callB call_len (by rfl) T.n_len (by decide +kernel) (pa_cons (pv 1) pa_nil)) pa_nil)) (blkOk_by (N := N_w_same) (sc := defScope s_w_same) (by decide +kernel)) (fun _ _ _ _ _ => (pg_name (i := 3) sc_w_same.nd rfl (.inl rfl))) (fun _ _ _ _ _ => (pts_one (pt_not (pt_val (pe_call G_w_same hr (by rfl) T.g_w_same T.F_w_same.kp T.b_w_same .nil pass0 (pa_cons (pe_ix ix_seq (pv 0) (pv 3) (fun _ _ => rfl)) (pa_cons (pe_ix ix_seq (pv 1) (pv 3) (fun _ _ => rfl)) pa_nil))))))) (fun _ _ _ _ _ => (pv 3))) (pe_lst pa_nil) (nomark _))))))
  pss_nil)
  (pss_cons (ps_set (i := 2) sc_w_same.nd rfl (.inl rfl) (pe_and (pe_cmpR op_eq (pe_callB call_isi (by rfl) T.n_isinstance (by decide +kernel) (pa_cons (pv 0) (pa_cons (pe_bltn (v := .ty "bool") (u := .type "bool") (by rfl) T.n_bool (by decide +kernel) rfl) pa_nil))) (pe_callB call_isi (by rfl) T.n_isinstance (by decide +kernel) (pa_cons (pv 1) (pa_cons (pe_bltn (v := .ty "bool") (u := .type "bool") (by rfl) T.n_bool (by decide +kernel) rfl) pa_nil))) (nomark _)) (pe_one (pe_cmpR op_eq (pe_callB call_isi (by rfl) T.n_isinstance (by decide +kernel) (pa_cons (pv 0) (pa_cons (pe_bltn (v := .ty "int") (u := .type "int") (by rfl) T.n_int (by decide +kernel) rfl) pa_nil))) (pe_callB call_isi (by rfl) T.n_isinstance (by decide +kernel) (pa_cons (pv 1) (pa_cons (pe_bltn (v := .ty "int") (u := .type "int") (by rfl) T.n_int (by decide +kernel) rfl) pa_nil))) (nomark _)))))
  (pss_one (ps_ret (pe_and (pv 2) (pe_one (pe_cmpR op_eq (pv 0) (pv 1) (nomark _)))))))), ?_⟩
    have key : Scal d ∨ ∃ (m : Nat) (b : Bool) (a1 a2 : Addr) (xs1 xs2 : List V) (ds : List PyData), n = m + 1 ∧ v1 = .ref a1 ∧ v2 = .ref a2 ∧ Sq K b H a1 xs1 ∧ Sq K b H a2 xs2 ∧ DpAll K H xs1 ds ∧ DpAll K H xs2 ds ∧ ds.length ≤ 1000000 ∧ ∀ d ∈ ds, Sized m d := by
      cases hz with
      | sc h => exact .inl h
      | tup hl hds =>
        cases h1 with
        | tup q1 d1 =>
          cases h2 with
          | tup q2 d2 => exact .inr ⟨_, false, _, _, _, _, _, rfl, rfl, rfl, q1, q2, d1, d2, hl, hds⟩
      | lst hl hds =>
        cases h1 with
        | lst q1 d1 =>
          cases h2 with
          | lst q2 d2 => exact .inr ⟨_, true, _, _, _, _, _, rfl, rfl, rfl, q1, q2, d1, d2, hl, hds⟩
    rcases key with hs | ⟨m, b, a1, a2, xs1, xs2, ds, em, rfl, rfl, q1, q2, d1, d2, hl, hds⟩
    · have nt : ∃ (x : String) (c1 c2 : Bool), (∀ H, TyX K H v1 (.type x)) ∧ v2 = v1 ∧ scal v1 v1 = true ∧ kitB x "tuple" = some false ∧ kitB x "list" = some false ∧ kitB x "bool" = some c1 ∧ kitB x "int" = some c2 := by
        cases h1 with
        | non => cases h2; exact ⟨"NoneType", false, false, fun H => .base .non, rfl, rfl, by decide +kernel, by decide +kernel, by decide +kernel, by decide +kernel⟩
        | bl b => cases h2; exact ⟨"bool", true, true, fun H => .base (.bl b), rfl, rfl, by decide +kernel, by decide +kernel, by decide +kernel, by decide +kernel⟩
        | int b => cases h2; exact ⟨"int", false, true, fun H => .base (.int b), rfl, rfl, by decide +kernel, by decide +kernel, by decide +kernel, by decide +kernel⟩
        | str b => cases h2; exact ⟨"str", false, false, fun H => .base (.str b), rfl, rfl, by decide +kernel, by decide +kernel, by decide +kernel, by decide +kernel⟩
        | tup _ _ => exact hs.elim
        | lst _ _ => exact hs.elim
      obtain ⟨x, c1, c2, ty, rfl, fl, k1, k2, k3, k4⟩ := nt
      refine ⟨_, rfl, by show 2 ≤ sizeLine; decide, fun tp htp => ⟨_, tp, _, _, _, _, rfl, upd_same, .cons (.ty _) (.cons (.ty _) .nil), ty _, kany k1 k2, false, rfl, iteF ?_⟩⟩
      have s1 := same_upd (o := .tup [.ty "tuple", .ty "list"]) htp
      refine ⟨_, rfl, _, _, _, _, c1, rfl, .ty "bool", ty _, kv k3, _, rfl, _, _, _, _, c1, rfl, .ty "bool", ty _, kv k3, rfl, _, rfl, ?_⟩
      rw [if_pos (decide_eq_true rfl)]
      refine ⟨_, rfl, _, _, _, _, c2, rfl, .ty "int", ty _, kv k4, _, rfl, _, _, _, _, c2, rfl, .ty "int", ty _, kv k4, rfl, ?_⟩
      refine ⟨_, rfl, true, ?_, ?_⟩
      · show V.bl (decide (V.bl c2 = V.bl c2)) = _
        rw [decide_eq_true rfl]
      rw [if_pos rfl]
      refine ⟨_, rfl, _, rfl, fl, ?_⟩
      rw [decide_eq_true rfl]
      exact q _ s1
    · have l1 : xs1.length = ds.length := DpAll.length d1
      have l2 : xs2.length = ds.length := DpAll.length d2
      refine ⟨_, rfl, by show 2 ≤ sizeLine; decide, fun tp htp => ⟨_, tp, _, _, _, _, rfl, upd_same, .cons (.ty _) (.cons (.ty _) .nil), (q2.same (same_upd htp)).ty, kany (r1 := !b) (r2 := b) (by cases b <;> decide +kernel) (by cases b <;> decide +kernel), true, by cases b <;> rfl, iteT ?_⟩⟩
      have s1 := same_upd (o := .tup [.ty "tuple", .ty "list"]) htp
      refine ⟨_, rfl, by show 2 ≤ sizeLine; decide, fun tp2 htp2 => ⟨_, tp2, _, _, _, _, rfl, upd_same, .cons (.ty _) (.cons (.ty _) .nil), (q1.same (s1.trans (same_upd htp2))).ty, kany (r1 := !b) (r2 := b) (by cases b <;> decide +kernel) (by cases b <;> decide +kernel), true, by cases b <;> rfl, iteF ?_⟩⟩
      have s2 := s1.trans (same_upd (o := .tup [.ty "tuple", .ty "list"]) htp2)
      generalize upd (upd H tp (.tup [.ty "tuple", .ty "list"])) tp2 (.tup [.ty "tuple", .ty "list"]) = H2 at s2 ⊢
      have kl : kitB (seqTy b) "list" = some b := by cases b <;> decide +kernel
      refine ⟨_, rfl, _, _, _, _, b, rfl, .ty "list", (q1.same s2).ty, kv kl, _, rfl, _, _, _, _, b, rfl, .ty "list", (q2.same s2).ty, kv kl, rfl, _, rfl, itnd rfl ?_⟩
      refine ⟨_, rfl, _, _, rfl, (q1.same s2).len, _, rfl, _, _, rfl, (q2.same s2).len, rfl, _, rfl, itnd (by rw [l1, l2]) ?_⟩
      refine ⟨_, rfl, _, _, rfl, (q2.same s2).len, _, rfl, by omega, by omega, fun D hD => ?_⟩
      refine walk_by (walk_range (n := xs2.length)) (fun i H3 => Same H2 H3 ∧ H3 D = some (.lst [])) ⟨same_upd hD, upd_same⟩ (fun _ _ _ _ => True.intro) ?_ ?_
      · rintro i x H3 H4 hi ⟨s3, eD⟩ ⟨rfl, hx⟩
        have s3' := s2.trans s3
        have hi1 : i < xs1.length := by omega
        obtain ⟨e1, he1, f1⟩ := DpAll.get d1 (List.getElem?_eq_getElem hi1)
        obtain ⟨e2, he2, f2⟩ := DpAll.get d2 (List.getElem?_eq_getElem hi)
        rw [he1] at he2
        cases he2
        obtain rfl : x = .int (i : Nat) := by
          rw [hx]
          show V.int ((0 : Int) + ((i : Nat) : Int)) = _
          rw [Int.zero_add]
        refine ⟨rfl, _, rfl, _, rfl, (q1.same s3').ix (List.getElem?_eq_getElem hi1) ⟨_, rfl, _, rfl, (q2.same s3').ix (List.getElem?_eq_getElem hi) ?_⟩⟩
        refine hG _ _ _ _ m em ⟨_, _, e1, rfl, Dp.same s3' f1, Dp.same s3' f2, hds _ (List.mem_of_getElem? he1), fun H5 s5 => ⟨true, rfl, iteF ⟨s3.trans s5, s5 _ _ eD⟩⟩⟩
      · rintro H3 ⟨s3, eD⟩
        refine ⟨by show 0 ≤ sizeLine; decide, fun l2 hl2 => ⟨.list [], .list [], .lst (SqL.of (same_upd hl2 _ _ eD)) .nil, .lst (SqL.of upd_same) .nil, by decide +kernel, by decide +kernel, ?_⟩⟩
        exact q _ (s2.trans (s3.trans (same_upd hl2)))
theorem ok_w_same (T : Tx K w mg A) : ∀ n : Nat, FnOk P w K mg base CX0 (n + 1) A.f_w_same A.fd_w_same P_w_same (spSame K n)
  | 0 => step_w_same (P := P) (base := base) T 0 (fun _ _ _ _ => False) ⟨fun _ _ _ _ h => h.elim, fun _ _ _ _ _ _ _ _ _ _ _ _ _ h => h.elim⟩ fun _ _ _ _ _ e => nomatch e
  | n + 1 => step_w_same (P := P) (base := base) T (n + 1) (spSame K n) (ok_w_same T n) fun _ _ _ _ _ e h => by
    cases e
    exact h
end
end Cs
namespace Cs
open PySem PySem.Spec L2
section
variable {P : Program} {w : World} {K : PySem.W.Frag} {mg : Str → Option Value} {base : Heap} {A : Adr}
theorem ok_w_slots (T : Tx K w mg A) : FnOk P w K mg base CX0 1 A.f_w_slots A.fd_w_slots P_w_slots (spSlots K) := by
  refine T.F_w_slots.ok sc_w_slots (fun vs H Q E h => ?_) (fun cdv AA outer s H vs Q E hr h => ?_)
  · obtain ⟨l, ks, rfl, _⟩ := h
    rfl
  · obtain ⟨l, ks, rfl, hl, hlen, q⟩ := h
    refine ⟨_, (pss_cons (ps_set (i := 1) sc_w_slots.nd rfl (.inl rfl) (pe_lst (pa_cons (pe_tup pa_nil) pa_nil)))
  (pss_cons (ps_for PassesOwn.never rfl (pi_range1 (by rfl) T.n_range (pa_cons (pe_callB call_len (by rfl) T.n_len (by decide +kernel) (pa_cons (pv 0) pa_nil)) pa_nil)) (pg_name (i := 2) sc_w_slots.nd rfl (.inl rfl))
  (pss_one (ps_set (i := 1) sc_w_slots.nd rfl (.inl rfl) (pe_op op_cat (pv 1) (pe_ifExp (pt_cmpR op_eq (pe_ix ix_list (pv 0) (pv 2) (fun _ _ => rfl)) pe_str (nomark _)) (pe_lst (pa_cons (pe_tup (pa_cons pe_str (pa_cons (pv 2) pa_nil))) pa_nil)) (pe_lst (pa_cons (pe_tup (pa_cons pe_str (pa_cons (pv 2) pa_nil))) (pa_cons (pe_tup (pa_cons pe_str (pa_cons (pv 2) pa_nil))) pa_nil))))))))
  (pss_one (ps_ret (pv 1))))), ?_⟩
    refine ⟨by show 0 ≤ sizeLine; decide, fun z0 hz0 => ⟨by show 1 ≤ sizeLine; decide, fun fl hfl => ?_⟩⟩
    have s1 : Same H (upd H z0 (.tup [])) := same_upd hz0
    have s2 : Same (upd H z0 (.tup [])) (upd (upd H z0 (.tup [])) fl (.lst [.ref z0])) := same_upd hfl
    refine ⟨_, rfl, _, _, rfl, .inl ⟨_, (s1.trans s2).seq hl, (List.length_map _).symm⟩, (ks.length : Nat), rfl, by omega, by omega, for_it (walk_range (n := ks.length)) (fun i σ H1 => ∃ f1 y2 acc, σ = [some (.ref l), some (.ref f1), y2] ∧ Same H H1 ∧ H f1 = none ∧ H1 f1 = some (.lst acc) ∧ ImAll K H1 acc ((slotsOf (ks.take i)).map Sl.d))
      ⟨fl, none, [.ref z0], rfl, s1.trans s2, s1.free hfl, upd_same, .cons (.tup (.inl (.inl (s2 _ _ upd_same))) .nil) .nil⟩ (fun i σ H1 _ _ => True.intro) ?_ ?_⟩
    · rintro i x σ H2 H1 hi ⟨f1, y2, acc, rfl, h1, nf1, e1, hacc⟩ ⟨rfl, hx⟩
      obtain rfl : x = .int (i : Nat) := by
        rw [hx]
        show V.int ((0 : Int) + ((i : Nat) : Int)) = _
        rw [Int.zero_add]
      obtain ⟨kd, hkd⟩ : ∃ kd, ks[i]? = some kd := ⟨_, List.getElem?_eq_getElem hi⟩
      have hat : (ks.map Kd.v)[i]? = some kd.v := by rw [List.getElem?_map, hkd]; rfl
      have lacc : acc.length ≤ 201 := by
        have l1 := ImAll.length hacc
        have l2 := slotsOf_len (ks.take i)
        rw [List.length_map] at l1
        rw [List.length_take] at l2
        omega
      refine ⟨_, rfl, _, rfl, _, rfl, _, _, _, _, rfl, rfl, h1.seq hl, atI_nat hat, ?_⟩
      cases kd with
      | num =>
        refine ⟨rfl, _, rfl, itd (p := Kd.num.v = V.str "number") rfl ?_⟩
        refine ⟨_, rfl, by show 2 ≤ sizeLine; decide, fun p1 hp1 => ⟨by show 1 ≤ sizeLine; decide, fun p3 hp3 => ?_⟩⟩
        have s4 := same_upd (o := .tup [.str "of", .int (i : Nat)]) hp1
        have s6 := same_upd (o := .lst [.ref p1]) hp3
        refine ⟨f1, p3, _, _, rfl, rfl, s6 _ _ (s4 _ _ e1), upd_same, small (by show acc.length + 1 ≤ _; omega), fun p7 hp7 => ?_⟩
        have s7 := same_upd (o := .lst (acc ++ [.ref p1])) hp7
        refine ⟨p7, _, _, rfl, h1.trans (s4.trans (s6.trans s7)), (h1.trans (s4.trans s6)).free hp7, upd_same, ?_⟩
        rw [slotsOf_take hkd, List.map_append]
        exact ImAll.append (hacc.same (sameI_of (s4.trans (s6.trans s7)))) (.cons ((im_slot (z := "of") (k := i) upd_same).same (sameI_of (s6.trans s7))) .nil)
      | lst =>
        refine ⟨rfl, _, rfl, itn (p := Kd.lst.v = V.str "number") (by decide +kernel) ?_⟩
        refine ⟨_, rfl, by show 2 ≤ sizeLine; decide, fun p1 hp1 => ⟨_, rfl, by show 2 ≤ sizeLine; decide, fun p2 hp2 => ⟨by show 2 ≤ sizeLine; decide, fun p3 hp3 => ?_⟩⟩⟩
        have s4 := same_upd (o := .tup [.str "len", .int (i : Nat)]) hp1
        have s5 := same_upd (o := .tup [.str "each", .int (i : Nat)]) hp2
        have s6 := same_upd (o := .lst [.ref p1, .ref p2]) hp3
        refine ⟨f1, p3, _, _, rfl, rfl, s6 _ _ (s5 _ _ (s4 _ _ e1)), upd_same, small (by show acc.length + 2 ≤ _; omega), fun p7 hp7 => ?_⟩
        have s7 := same_upd (o := .lst (acc ++ [.ref p1, .ref p2])) hp7
        refine ⟨p7, _, _, rfl, h1.trans (s4.trans (s5.trans (s6.trans s7))), (h1.trans (s4.trans (s5.trans s6))).free hp7, upd_same, ?_⟩
        rw [slotsOf_take hkd, List.map_append]
        exact ImAll.append (hacc.same (sameI_of (s4.trans (s5.trans (s6.trans s7))))) (.cons ((im_slot (z := "len") (k := i) upd_same).same (sameI_of (s5.trans (s6.trans s7)))) (.cons ((im_slot (z := "each") (k := i) upd_same).same (sameI_of (s6.trans s7))) .nil))
    · rintro σ H1 ⟨f1, y2, acc, rfl, h1, nf1, e1, hacc⟩
      rw [List.take_length] at hacc
      exact ⟨_, rfl, q H1 f1 acc h1 nf1 e1 hacc⟩
def spKinds (K : PySem.W.Frag) : Sp := fun vs H Q _ => ∃ (pl : Addr) (pvs : List V) (i : Nat) (side : Str) (fv : V) (f : Fn), vs = [.ref pl, .int (i : Nat), .str side] ∧ SqL K H pl pvs ∧ pvs[i]? = some fv ∧ FnAt K H fv f ∧ f.ps.length ≤ 1000 ∧
  ∀ H1 p, Same H H1 → H p = none → H1 p = some (.lst ((f.hd.1 ++ if side = "behind" then [f.kd] else []).map Kd.v)) → Q (.ref p) H1
theorem ok_w_kinds (T : Tx K w mg A) : FnOk P w K mg base CX0 1 A.f_w_kinds A.fd_w_kinds P_w_kinds (spKinds K) := by
  refine T.F_w_kinds.ok sc_w_kinds (fun vs H Q E h => ?_) (fun cdv AA outer s H vs Q E hr h => ?_)
  · obtain ⟨pl, pvs, i, side, fv, f, rfl, _⟩ := h
    rfl
  · obtain ⟨pl, pvs, i, side, fv, f, rfl, hpl, hfv, ⟨a, p, tv, qs, rfl, ha, hp, hq, ht⟩, hlen, q⟩ := h
    refine ⟨_, (pss_cons (ps_setLc (i := 3) (own := [("_law_name", 4), ("_law_kind", 5)]) (g := (gTup K 2 (gCons (gName 4) (gCons (gName 5) gNil)))) (tt := tYes) (te := (tVar 5)) rfl sc_w_kinds.nd rfl rfl (sw_true rfl rfl rfl (by decide +kernel)) (pi_tup (pe_ix ix_tup (pe_ix ix_list (pv 0) (pv 1) (fun _ _ => rfl)) pe_int (fun _ _ => rfl))) (blkOk_by (N := N_w_kinds) (sc := defScope s_w_kinds) (by decide +kernel)) (fun _ _ _ _ _ => (pg_tup (by rfl) (pgs_cons (pg_name (i := 4) sc_w_kinds.nd rfl (.inl rfl)) (pgs_cons (pg_name (i := 5) sc_w_kinds.nd rfl (.inl rfl)) pgs_nil)))) (fun _ _ _ _ _ => pts_nil) (fun _ _ _ _ _ => (pv 5)))
  (pss_one (ps_ret (pe_op op_cat (pv 3) (pe_op op_rep (pe_lst (pa_cons (pe_ix ix_tup (pe_ix ix_list (pv 0) (pv 1) (fun _ _ => rfl)) pe_int (fun _ _ => rfl)) pa_nil)) (pe_callTy call_int1 (by rfl) T.n_int (by decide +kernel) (pa_cons (pe_cmpR op_eq (pv 2) pe_str (nomark _)) pa_nil))))))), ?_⟩
    refine ⟨_, rfl, _, rfl, _, _, _, _, rfl, rfl, hpl, atI_nat hfv, _, _, _, _, rfl, rfl, ha, atI_nat (j := 0) rfl, p, rfl, ⟨_, hp.sq⟩, fun D hD => ?_⟩
    refine lc_data (walk_tup (K := K) (a := p) (xs := qs.map V.ref)) (fun i y _ => ∃ x, f.ps[i]? = some x ∧ y = x.2.v) (fun _ _ _ _ _ e => e) hD (fun H1 s1 => Same.tup s1 hp.sq) (by rw [List.length_map, Paired.length hq]; omega) ?_ ?_
    · rintro i x H1 H2 k hi s1 ⟨rfl, hx⟩ hk
      rw [List.getElem?_map] at hx
      obtain ⟨t, ht2, rfl⟩ := Option.map_eq_some_iff.mp hx
      obtain ⟨pr, hpr, hat⟩ := paired_get hq ht2
      exact ⟨t, _, rfl, Same.tup s1 hat, rfl, _, _, rfl, _, _, rfl, rfl, rfl, _, rfl, hk _ _ (Same.refl _) ⟨pr, hpr, rfl⟩⟩
    · rintro H1 acc s1 e1 hl hE
      have eacc : acc = f.hd.1.map Kd.v := by
        show _ = (f.ps.map (·.2)).map Kd.v
        rw [List.map_map]
        refine List.ext_getElem? fun j => ?_
        rw [List.getElem?_map]
        cases hz : acc[j]? with
        | none =>
          have h1 := List.getElem?_eq_none_iff.mp hz
          rw [List.length_map, Paired.length hq] at hl
          rw [List.getElem?_eq_none (by omega)]
          rfl
        | some y =>
          obtain ⟨x, h1, rfl⟩ := hE j y hz
          rw [h1]
          rfl
      have lacc : acc.length ≤ 1000 := by rw [List.length_map, Paired.length hq] at hl; omega
      have e1' : H1 D = some (.lst (f.hd.1.map Kd.v)) := by rw [e1, eacc]
      rw [eacc] at lacc
      refine ⟨_, rfl, _, rfl, _, rfl, _, _, _, _, rfl, rfl, s1.seq hpl, atI_nat hfv, _, _, _, _, rfl, rfl, Same.tup s1 ha, atI_nat (j := 1) rfl, by show 1 ≤ sizeLine; decide, fun l2 hl2 => ?_⟩
      have s2 := same_upd (o := .lst [f.kd.v]) hl2
      refine ⟨_, rfl, rfl, .inr ⟨_, rfl, ?_⟩⟩
      by_cases hb : side = "behind"
      · rw [decide_eq_true (show V.str side = V.str "behind" by rw [hb])]
        refine ⟨l2, 1, _, rfl, rfl, upd_same, by decide, by decide, by show 1 ≤ sizeLine; decide, fun l3 hl3 => ?_⟩
        have s3 := same_upd (o := .lst (List.replicate (1 : Int).toNat [f.kd.v]).flatten) hl3
        refine ⟨D, l3, _, _, rfl, rfl, s3 _ _ (s2 _ _ e1'), upd_same, small (by show (f.hd.1.map Kd.v).length + 1 ≤ _; omega), fun l4 hl4 => ?_⟩
        have s4 := same_upd (o := .lst (f.hd.1.map Kd.v ++ (List.replicate (1 : Int).toNat [f.kd.v]).flatten)) hl4
        refine q _ l4 (s1.trans (s2.trans (s3.trans s4))) ((s1.trans (s2.trans s3)).free hl4) ?_
        rw [upd_same, if_pos hb, List.map_append]
        rfl
      · rw [decide_eq_false (show ¬ V.str side = V.str "behind" from fun z => hb (V.str.inj z))]
        refine ⟨l2, 0, _, rfl, rfl, upd_same, by decide, by decide, by show 0 ≤ sizeLine; decide, fun l3 hl3 => ?_⟩
        have s3 := same_upd (o := .lst (List.replicate (0 : Int).toNat [f.kd.v]).flatten) hl3
        refine ⟨D, l3, _, _, rfl, rfl, s3 _ _ (s2 _ _ e1'), upd_same, small (by show (f.hd.1.map Kd.v).length + 0 ≤ _; omega), fun l4 hl4 => ?_⟩
        have s4 := same_upd (o := .lst (f.hd.1.map Kd.v ++ (List.replicate (0 : Int).toNat [f.kd.v]).flatten)) hl4
        refine q _ l4 (s1.trans (s2.trans (s3.trans s4))) ((s1.trans (s2.trans s3)).free hl4) ?_
        rw [upd_same, if_neg hb, List.map_append]
        rfl
end
end Cs
namespace Cs
open PySem PySem.Spec L2
section
variable {P : Program} {w : World} {K : PySem.W.Frag} {mg : Str → Option Value} {base : Heap} {A : Adr}
def Jt (K : PySem.W.Frag) (b : Bool) (a : Addr) : It := match b with
  | true => Itl K a
  | false => Itt K a
theorem walk_sq {b : Bool} {a : Addr} {xs : List V} : Walk (Jt K b a) xs.length (fun H => Sq K b H a xs) (YAt xs) := by
  cases b
  · exact walk_tup
  · exact walk_list
theorem iseq {b : Bool} {i : Nat} {σ : L2.St} {H : Hp} {a : Addr} {xs : List V} {R : It → Hp → Prop} (hσ : σ[i]? = some (some (.ref a))) (h : Sq K b H a xs) (r : R (Jt K b a) H) : iList K (tVar i) σ H R ∨ iTup K (tVar i) σ H R := by
  cases b
  · exact .inr ⟨_, hσ, a, rfl, ⟨_, h⟩, r⟩
  · exact .inl ⟨_, hσ, a, rfl, ⟨_, h⟩, r⟩
def spWlat (K : PySem.W.Frag) : Sp := fun vs H Q _ => ∃ (l a : Addr) (b : Bool) (ks : List Kd) (ns : List Int), vs = [.ref l, .ref a] ∧ SqL K H l (ks.map Kd.v) ∧ Sq K b H a (ns.map V.int) ∧ ks.length ≤ 40 ∧ ns.length ≤ 5 ∧
  ∀ H1 p ys, Same H H1 → H p = none → H1 p = some (.lst ys) → DpAll K H1 ys (latOf (slotsOf ks) ns) → Q (.ref p) H1
set_option maxHeartbeats 4000000 in
theorem ok_w_lattice (T : Tx K w mg A) : FnOk P w K mg base CX0 2 A.f_w_lattice A.fd_w_lattice P_w_lattice (spWlat K) := by
  have G_w_slots := ok_w_slots (P := P) (base := base) T
  refine T.F_w_lattice.ok sc_w_lattice (fun vs H Q E h => ?_) (fun cdv AA outer s H vs Q E hr h => ?_)
  · obtain ⟨l, a, b, ks, ns, rfl, _⟩ := h
    rfl
  · obtain ⟨l, a, b, ks, ns, rfl, hl, ha, hk, hn, q⟩ := h
    refine ⟨_, (pss_cons (ps_set (i := 2) sc_w_lattice.nd rfl (.inl rfl) (pe_call G_w_slots (hr.mono (by decide)) (by rfl) T.g_w_slots T.F_w_slots.kp T.b_w_slots .nil pass0 (pa_cons (pv 0) pa_nil)))
  (pss_cons (ps_set (i := 3) sc_w_lattice.nd rfl (.inl rfl) (pe_lst pa_nil))
  (pss_cons (ps_for PassesOwn.never rfl (pi_list (pv 2)) (pg_name (i := 4) sc_w_lattice.nd rfl (.inr rfl))
  (pss_one (ps_for PassesOwn.never rfl (pi_list (pv 2)) (pg_name (i := 5) sc_w_lattice.nd rfl (.inr rfl))
  (pss_one (ps_set (i := 3) sc_w_lattice.nd rfl (.inl rfl) (pe_op op_cat (pv 3) (pe_lc (own := [("_law_n", 6)]) (g := (gName 6)) (tt := (tTest (tOp (rNeD K) (tVar 4) (tVar 5)))) (te := _) rfl sc_w_lattice.nd (pi_or (pi_list (pv 1)) (pi_tup (pv 1))) (blkOk_by (N := N_w_lattice) (sc := defScope s_w_lattice) (by decide +kernel)) (fun _ _ _ _ _ => (pg_name (i := 6) sc_w_lattice.nd rfl (.inl rfl))) (fun _ _ _ _ _ => (pts_one (pt_cmpR (op_neD hr.units) (pv 4) (pv 5) (nomark _)))) (fun _ _ _ _ _ => (pe_tup (pa_cons (pv 4) (pa_cons (pv 5) (pa_cons (pv 6) pa_nil))))))))))))
  (pss_one (ps_ret (pe_callB (cr_sortD hr.units) (by rfl) T.n_sorted (by decide +kernel) (pa_cons (pv 3) pa_nil))))))), ?_⟩
    refine ⟨_, rfl, l, ks, rfl, hl, by omega, fun H1 fl sv s1 nfl e1 hsv => ?_⟩
    have lsv : sv.length ≤ 100 := by
      have h1 := ImAll.length hsv
      have h2 := slotsOf_len ks
      rw [List.length_map] at h1
      omega
    generalize hS : slotsOf ks = S at hsv q
    have ha1 := ha.same s1
    have getS : ∀ {i : Nat} {x : V} {H2 : Hp}, Same H1 H2 → sv[i]? = some x → ∃ c, S[i]? = some c ∧ Im K H2 x c.d := fun {i x H2} s e => by
      obtain ⟨d, hd, hi⟩ := ImAll.get hsv e
      rw [List.getElem?_map] at hd
      obtain ⟨c, hc, rfl⟩ := Option.map_eq_some_iff.mp hd
      exact ⟨c, hc, hi.same (sameI_of s)⟩
    have el : sv.length = S.length := by
      have h1 := ImAll.length hsv
      rw [List.length_map] at h1
      exact h1
    refine ⟨by show 0 ≤ sizeLine; decide, fun f0 hf0 => ?_⟩
    refine ⟨_, rfl, fl, rfl, ⟨sv, SqL.of (same_upd hf0 _ _ e1)⟩, for_it (walk_list (K := K) (a := fl) (xs := sv)) (fun i σ H2 => ∃ y4 y5 f2 acc, σ = [some (.ref l), some (.ref a), some (.ref fl), some (.ref f2), y4, y5, none] ∧ Same H1 H2 ∧ H2 f2 = some (.lst acc) ∧ acc.length ≤ i * 1000 ∧
        ImAll K H2 acc (((S.take i).flatMap fun a => S.flatMap fun b => cms a b ns).map Cm.d))
      ⟨none, none, f0, [], rfl, same_upd hf0, upd_same, Nat.zero_le _, .nil⟩ (fun i σ H2 _ ⟨_, _, _, _, _, h1, _⟩ => SqL.of (h1 _ _ e1)) ?_ ?_⟩
    · rintro i x σ H3 H2 hi ⟨y4, y5, f2, acc, rfl, s2, eD, lacc, hacc⟩ ⟨rfl, hx⟩
      obtain ⟨ca, hca, ia⟩ := getS s2 hx
      refine ⟨_, rfl, fl, rfl, ⟨sv, SqL.of (s2 _ _ e1)⟩, for_it (walk_list (K := K) (a := fl) (xs := sv)) (fun j σ H4 => ∃ y5 f2 acc, σ = [some (.ref l), some (.ref a), some (.ref fl), some (.ref f2), some x, y5, none] ∧ Same H1 H4 ∧ H4 f2 = some (.lst acc) ∧ acc.length ≤ i * 1000 + j * 10 ∧
          ImAll K H4 acc ((((S.take i).flatMap fun a => S.flatMap fun b => cms a b ns) ++ (S.take j).flatMap fun b => cms ca b ns).map Cm.d))
        ⟨y5, f2, acc, rfl, s2, eD, by omega, by simpa only [List.take_zero, List.flatMap_nil, List.append_nil] using hacc⟩ (fun j σ H4 _ ⟨_, _, _, _, h1, _⟩ => SqL.of (h1 _ _ e1)) ?_ ?_⟩
      · rintro j y σ H4 H5 hj ⟨y5, f4, acc4, rfl, s4, eD4, lacc4, hacc4⟩ ⟨rfl, hy⟩
        obtain ⟨cb, hcb, ib⟩ := getS s4 hy
        refine ⟨_, rfl, iseq (b := b) rfl (ha1.same s4) fun D hD => ?_⟩
        have fin : ∀ (H6 : Hp) (acc6 : List V), Same H5 H6 → H6 D = some (.lst acc6) → acc6.length ≤ 10 → ImAll K H6 acc6 ((cms ca cb ns).map Cm.d) → rCat (.ref f4) (.ref D) H6 fun v H7 => ∃ y5' f2' acc', [some (V.ref l), some (.ref a), some (.ref fl), some v, some x, some y, none] = [some (.ref l), some (.ref a), some (.ref fl), some (.ref f2'), some x, y5', none] ∧ Same H1 H7 ∧ H7 f2' = some (.lst acc') ∧ acc'.length ≤ i * 1000 + (j + 1) * 10 ∧
            ImAll K H7 acc' ((((S.take i).flatMap fun a => S.flatMap fun b => cms a b ns) ++ (S.take (j + 1)).flatMap fun b => cms ca b ns).map Cm.d) := by
          intro H6 acc6 s6 e6 l6 i6
          have i9 : i ≤ 100 := by omega
          have j9 : j ≤ 100 := by omega
          refine ⟨f4, D, acc4, acc6, rfl, rfl, s6 _ _ eD4, e6, small (by omega), fun p hp => ?_⟩
          have s7 := same_upd (o := .lst (acc4 ++ acc6)) hp
          refine ⟨_, p, _, rfl, s4.trans (s6.trans s7), upd_same, by rw [List.length_append]; omega, ?_⟩
          rw [flatMap_take hcb, ← List.append_assoc, List.map_append]
          exact ImAll.append (hacc4.same (sameI_of (s6.trans s7))) (i6.same (sameI_of s7))
        cases he : PyData.eqv ca.d cb.d with
        | true =>
          refine walk_by (walk_sq (K := K) (b := b) (a := a) (xs := ns.map V.int)) (fun k H6 => Same H5 H6 ∧ H6 D = some (.lst [])) ⟨same_upd hD, upd_same⟩ (fun k H6 _ h => ha1.same (s4.trans h.1)) ?_ ?_
          · rintro k z H6 H7 hk2 ⟨s6, eD6⟩ ⟨rfl, hz⟩
            obtain ⟨c1, hc1, ia6⟩ := getS (s4.trans s6) hx
            rw [hca] at hc1
            cases hc1
            refine ⟨rfl, _, rfl, _, rfl, ca.d, cb.d, Im.dp ia6, Im.dp (ib.same (sameI_of s6)), sl_shaped _, sl_shaped _, _, rfl, ?_⟩
            rw [he]
            exact iteF ⟨s6, eD6⟩
          · rintro H6 ⟨s6, eD6⟩
            exact fin H6 [] s6 eD6 (Nat.zero_le _) (by unfold cms; rw [if_pos he]; exact .nil)
        | false =>
          refine walk_by (walk_sq (K := K) (b := b) (a := a) (xs := ns.map V.int)) (fun k H6 => Same H5 H6 ∧ ∃ acc6, H6 D = some (.lst acc6) ∧ acc6.length ≤ k ∧ ImAll K H6 acc6 (((ns.take k).map fun n => (ca, cb, n)).map Cm.d))
            ⟨same_upd hD, [], upd_same, Nat.zero_le _, .nil⟩ (fun k H6 _ h => ha1.same (s4.trans h.1)) ?_ ?_
          · rintro k z H6 H7 hk2 ⟨s6, acc6, eD6, lacc6, hacc6⟩ ⟨rfl, hz⟩
            rw [List.getElem?_map] at hz
            obtain ⟨n, hn2, rfl⟩ := Option.map_eq_some_iff.mp hz
            rw [List.length_map] at hk2
            obtain ⟨c1, hc1, ia6⟩ := getS (s4.trans s6) hx
            rw [hca] at hc1
            cases hc1
            have ib6 := ib.same (sameI_of s6)
            refine ⟨rfl, _, rfl, _, rfl, ca.d, cb.d, Im.dp ia6, Im.dp ib6, sl_shaped _, sl_shaped _, _, rfl, ?_⟩
            rw [he]
            refine iteT ⟨_, rfl, _, rfl, _, rfl, by show 3 ≤ sizeLine; decide, fun t ht => ?_⟩
            have s8 := same_upd (o := .tup [x, y, .int n]) ht
            refine ⟨acc6, s8 _ _ eD6, smaller (by omega), fun o u e => ?_, _, upd_same, by rw [List.length_append]; show acc6.length + 1 ≤ _; omega, ?_⟩
            · rw [upd_ne (ne_of_none e hD)]
              exact s8 _ _ (s6 _ _ e)
            rw [List.take_add_one, hn2, List.map_append (f := fun n => (ca, cb, n)), List.map_append]
            exact grown eD6 hacc6 s8 (.tup (.inl (.inl upd_same)) (.cons (ia6.same (sameI_of s8)) (.cons (ib6.same (sameI_of s8)) (.cons (.int n) .nil))))
          · rintro H6 ⟨s6, acc6, eD6, lacc6, hacc6⟩
            rw [List.length_map] at lacc6 hacc6
            rw [List.take_length] at hacc6
            refine fin H6 acc6 s6 eD6 (by omega) ?_
            unfold cms
            rw [if_neg (by rw [he]; exact Bool.false_ne_true)]
            exact hacc6
      · rintro σ H4 ⟨y5, f4, acc4, rfl, s4, eD4, lacc4, hacc4⟩
        rw [el, List.take_length] at hacc4
        refine ⟨_, _, f4, acc4, rfl, s4, eD4, by omega, ?_⟩
        rw [flatMap_take hca]
        exact hacc4
    · rintro σ H2 ⟨y4, y5, f2, acc, rfl, s2, eD, lacc, hacc⟩
      rw [el, List.take_length] at hacc
      refine ⟨_, rfl, f2, acc, _, rfl, SqL.of eD, ImAll.dp hacc, cms_alike _, cms_sortable _, fun d hd => ?_, fun ys p hys hp => ?_⟩
      · obtain ⟨c, _, rfl⟩ := List.mem_map.mp hd
        exact cm_depth c
      · have s3 := same_upd (o := .lst ys) hp
        exact q _ p ys (s1.trans (s2.trans s3)) ((s1.trans s2).free hp) upd_same (DpAll.same s3 hys)
end
end Cs
namespace Cs
open PySem PySem.Spec PyProof.Rows L2
/-! ## the programs that the law builds -/
instance (x : Str) : Decidable (okName x) := by unfold okName sign; infer_instance
def nm (k j : Nat) : Str := Txt.mul ⟨#[112 + k]⟩ (1 + (j : Int))
theorem nm_ok : ∀ k < 4, ∀ j < 6, okName (nm k j) := by decide +kernel
theorem nm_x : ∀ k < 4, ∀ j < 6, nm k j ≠ "x" := by decide +kernel
theorem nm_nd : ∀ n < 5, ∀ j < 6, ((List.range n).map fun k => nm k j).Nodup := by decide +kernel
theorem x_ok : okName "x" := by decide +kernel
theorem sg_at : ∀ k < 4, ("pqrs" : Str).cps.toList[k]? = some (112 + k) := by decide +kernel
instance (x : Str) (n : Int) : Decidable (MulOk x n) := by unfold MulOk; infer_instance
theorem nm_mul : ∀ k < 4, ∀ j : Nat, j < 6 → MulOk ⟨#[112 + k]⟩ (1 + (j : Int)) := by decide +kernel
def mkPs (j : Nat) (ks : List Kd) : Nm := ks.mapIdx fun k kd => (nm k j, kd)
def deedOf : Kd → Dd
  | .num => .num 3
  | .lst => .nil
def mkFn (j : Nat) (ks : List Kd) (kd : Kd) : Fn := ⟨mkPs j ks, kd, .let_ "x" (deedOf kd) (.tell "x")⟩
theorem mkPs_len (j : Nat) (ks : List Kd) : (mkPs j ks).length = ks.length := List.length_mapIdx
theorem mkPs_at {j : Nat} {ks : List Kd} {k : Nat} {kd : Kd} (h : ks[k]? = some kd) : (mkPs j ks)[k]? = some (nm k j, kd) := by
  unfold mkPs
  rw [List.getElem?_mapIdx, h]
  rfl
theorem mkPs_names (j : Nat) (ks : List Kd) : (mkPs j ks).map (·.1) = (List.range ks.length).map fun k => nm k j := by
  refine List.ext_getElem? fun k => ?_
  unfold mkPs
  rw [List.getElem?_map, List.getElem?_mapIdx, List.getElem?_map]
  rcases Nat.lt_or_ge k ks.length with h | h
  · rw [List.getElem?_eq_getElem h, List.getElem?_range h]
    rfl
  · rw [List.getElem?_eq_none h, List.getElem?_eq_none (by rw [List.length_range]; exact h)]
    rfl
theorem mkPs_mem {j : Nat} {ks : List Kd} {p : Str × Kd} (h : p ∈ mkPs j ks) : ∃ k, k < ks.length ∧ p.1 = nm k j := by
  have h2 : p.1 ∈ (mkPs j ks).map (·.1) := List.mem_map.mpr ⟨p, h, rfl⟩
  rw [mkPs_names] at h2
  obtain ⟨k, hk, e⟩ := List.mem_map.mp h2
  exact ⟨k, List.mem_range.mp hk, e.symm⟩
theorem look_snoc {ns : Nm} {x : Str} {kd : Kd} (h : look ns x = none) : look (ns ++ [(x, kd)]) x = some kd := by
  unfold look at *
  rw [Option.map_eq_none_iff] at h
  rw [List.find?_append, h]
  simp
theorem mk_ok {hs : Hd} {j : Nat} {ks : List Kd} {kd : Kd} (hj : j < 6) (hk : ks.length ≤ 4) : (mkFn j ks kd).ok hs := by
  have nx : look (mkPs j ks) "x" = none := by
    unfold look
    rw [Option.map_eq_none_iff, List.find?_eq_none]
    intro p hp
    obtain ⟨k, hk2, e⟩ := mkPs_mem hp
    rw [decide_eq_true_iff, e]
    exact nm_x k (by omega) j hj
  refine ⟨by rw [show (mkFn j ks kd).ps = mkPs j ks from rfl, mkPs_len]; exact hk, fun p hp => ?_, ?_, ⟨x_ok, nx, kd, ?_, look_snoc nx⟩, ?_, ?_⟩
  · obtain ⟨k, hk2, e⟩ := mkPs_mem hp
    rw [e]
    exact nm_ok k (by omega) j hj
  · rw [show (mkFn j ks kd).ps = mkPs j ks from rfl, mkPs_names]
    exact nm_nd _ (by omega) j hj
  · cases kd
    · exact ⟨by unfold near; decide, rfl⟩
    · exact rfl
  · show (1 + 1 : Nat) ≤ 60
    decide
  · show (1 + 1 : Nat) ≤ 20
    decide
/-! ## data without lists -/
section
variable {K : PySem.W.Frag} {H : Hp}
theorem dp_slot {s : Sl} {v : V} (h : Dp K H v s.d) : Im K H v s.d := by
  cases s with
  | z =>
    cases h with
    | tup q t => cases t; exact .tup q .nil
  | of k =>
    cases h with
    | tup q t => cases t with | cons a t => cases a; cases t with | cons b t => cases b; cases t; exact .tup q (.cons (.str _) (.cons (.int _) .nil))
  | len k =>
    cases h with
    | tup q t => cases t with | cons a t => cases a; cases t with | cons b t => cases b; cases t; exact .tup q (.cons (.str _) (.cons (.int _) .nil))
  | each k =>
    cases h with
    | tup q t => cases t with | cons a t => cases a; cases t with | cons b t => cases b; cases t; exact .tup q (.cons (.str _) (.cons (.int _) .nil))
theorem dp_claim {c : Cm} {v : V} (h : Dp K H v c.d) : Im K H v c.d := by
  cases h with
  | tup q t => cases t with | cons a t => cases t with | cons b t => cases t with | cons d t => cases d; cases t; exact .tup q (.cons (dp_slot a) (.cons (dp_slot b) (.cons (.int _) .nil)))
theorem dp_claims : ∀ {vs : List V} {ds : List PyData}, (∀ d ∈ ds, ∃ c : Cm, d = c.d) → DpAll K H vs ds → ImAll K H vs ds
  | _, _, _, .nil => .nil
  | _, _, hd, .cons h t => by
    obtain ⟨c, e⟩ := hd _ (List.mem_cons_self ..)
    subst e
    exact .cons (dp_claim h) (dp_claims (fun d hm => hd d (List.mem_cons_of_mem _ hm)) t)
end
theorem lat_mem {ss : List Sl} {ns : List Int} {d : PyData} (h : d ∈ latOf ss ns) : ∃ c : Cm, d = c.d := by
  rw [List.mem_mergeSort] at h
  obtain ⟨c, _, e⟩ := List.mem_map.mp h
  exact ⟨c, e.symm⟩
theorem len_flat {α β : Type} {f : α → List β} {m : Nat} : ∀ {l : List α}, (∀ x ∈ l, (f x).length ≤ m) → (l.flatMap f).length ≤ l.length * m
  | [], _ => Nat.zero_le _
  | x :: l, h => by
    rw [List.flatMap_cons, List.length_append, List.length_cons, Nat.succ_mul]
    have h1 := h x (List.mem_cons_self ..)
    have h2 := len_flat (l := l) fun y hy => h y (List.mem_cons_of_mem _ hy)
    omega
theorem lat_len {ss : List Sl} {ns : List Int} (h1 : ss.length ≤ 100) (h2 : ns.length ≤ 5) : (latOf ss ns).length ≤ 1000000 := by
  rw [List.length_mergeSort, List.length_map]
  have a : ∀ x ∈ ss, ∀ y ∈ ss, (cms x y ns).length ≤ 5 := fun x _ y _ => by
    unfold cms
    split
    · exact Nat.zero_le _
    · rw [List.length_map]; exact h2
  have b : ∀ x ∈ ss, (ss.flatMap fun y => cms x y ns).length ≤ 500 := fun x hx => Nat.le_trans (len_flat (m := 5) fun y hy => a x hx y hy) (by omega)
  exact Nat.le_trans (len_flat (m := 500) b) (by omega)
theorem sized_slot (s : Sl) : Sized 1 s.d := by
  cases s <;> refine .tup (by simp) fun d hd => .sc ?_
  · cases hd
  all_goals
    rcases List.mem_cons.mp hd with e | hd
    · rw [e]; exact True.intro
    · rw [List.mem_singleton.mp hd]; exact True.intro
theorem sized_claim (c : Cm) : Sized 2 c.d := by
  refine .tup (by simp) fun d hd => ?_
  rcases List.mem_cons.mp hd with e | hd
  · rw [e]; exact sized_slot _
  · rcases List.mem_cons.mp hd with e | hd
    · rw [e]; exact sized_slot _
    · rw [List.mem_singleton.mp hd]; exact .sc True.intro
theorem sized_lat {ss : List Sl} {ns : List Int} (h1 : ss.length ≤ 100) (h2 : ns.length ≤ 5) : Sized 3 (.list (latOf ss ns)) := .lst (lat_len h1 h2) fun d hd => by
  obtain ⟨c, rfl⟩ := lat_mem hd
  exact sized_claim c
theorem sized_two {a b : PyData} (h1 : Sized 3 a) (h2 : Sized 3 b) : Sized 4 (.tuple [a, b]) := .tup (by simp) fun d hd => by
  rcases List.mem_cons.mp hd with e | hd
  · rw [e]; exact h1
  · rw [List.mem_singleton.mp hd]; exact h2
/-- as lc_data; what is told may be changed, too -/
theorem lc_new {J : It} {n : Nat} {G : Hp → Prop} {Y : Nat → Hp → V → Hp → Prop} (w : Walk J n G Y) {g : TG} {te : TE} {vs : List Nat} {σ : L2.St} {H1 : Hp} {D : Addr} {Qd : Hp → Prop} (E : Nat → V → Hp → Prop)
    (hst : ∀ i v H H2 acc, H D = some (.lst acc) → SameX D H H2 → E i v H → E i v H2) (hD : H1 D = none) (hG : ∀ H, Same H1 H → G H) (hn : n ≤ 1000000)
    (hs : ∀ i x H H2 (k : V → Hp → Prop), i < n → Same H1 H → (∃ acc, H D = some (.lst acc)) → Y i H x H2 → (∀ y H4, Same H H4 → E i y H4 → k y H4) → g x (wipe σ vs) H2 fun σ2 H3 => wipe σ2 vs = wipe σ vs ∧ te σ2 H3 k)
    (hd : ∀ H acc, Same H1 H → H D = some (.lst acc) → acc.length = n → (∀ (i : Nat) y, acc[i]? = some y → E i y H) → Qd H) :
    ∃ W : Nat → Nat → Hp → Prop, (∃ m, W 0 m (upd H1 D (.lst []))) ∧ ∀ i m H, W i m H →
      (J.stop i H ∧ Qd H) ∨ (J.go i H ∧ ∃ Nx : Hp → Prop, (∀ H', Nx H' → ∃ m', m' < m ∧ W (i + 1) m' H') ∧ ∀ x H', J.yld i H x H' → g x (wipe σ vs) H' fun σ2 H2 => wipe σ2 vs = wipe σ vs ∧ tYes σ2 H2 fun b H3 =>
        if b = true then te σ2 H3 fun y H4 => ∃ acc, H4 D = some (.lst acc) ∧ acc.length < sizeLine ∧ Nx (upd H4 D (.lst (acc ++ [y]))) else Nx H3) := by
  refine ⟨fun i m H => m = n - i ∧ i ≤ n ∧ Same H1 H ∧ ∃ acc, H D = some (.lst acc) ∧ acc.length = i ∧ ∀ (j : Nat) y, acc[j]? = some y → E j y H, ⟨n, by simp, Nat.zero_le _, same_upd hD, [], upd_same, rfl, fun j y e => by simp at e⟩, ?_⟩
  rintro i m H ⟨rfl, hi, s1, acc, e1, hl, hE⟩
  by_cases hlt : i < n
  · refine .inr ⟨w.goes i H hlt (hG H s1), fun H' => Same H1 H' ∧ ∃ acc, H' D = some (.lst acc) ∧ acc.length = i + 1 ∧ ∀ (j : Nat) y, acc[j]? = some y → E j y H', fun H' p => ⟨n - (i + 1), by omega, rfl, hlt, p⟩, fun x H' y => ?_⟩
    have z := hs i x H H' (fun y H4 => ∃ acc, H4 D = some (.lst acc) ∧ acc.length < sizeLine ∧ (Same H1 (upd H4 D (.lst (acc ++ [y]))) ∧ ∃ a2, (upd H4 D (.lst (acc ++ [y]))) D = some (.lst a2) ∧ a2.length = i + 1 ∧ ∀ (j : Nat) z, a2[j]? = some z → E j z (upd H4 D (.lst (acc ++ [y])))))
      hlt s1 ⟨acc, e1⟩ (w.yields i H x H' hlt (hG H s1) y) (fun y H4 s4 hy => ?_)
    · exact z
    · have e4 : H4 D = some (.lst acc) := s4 _ _ e1
      have si : SameX D H4 (upd H4 D (.lst (acc ++ [y]))) := sameX_upd
      refine ⟨acc, e4, smaller (by omega), fun b o e => ?_, acc ++ [y], upd_same, by rw [List.length_append, hl]; rfl, fun j z hz => ?_⟩
      · rw [upd_ne (ne_of_none e hD)]
        exact s4 _ _ (s1 _ _ e)
      · rcases Nat.lt_or_ge j acc.length with hj | hj
        · rw [List.getElem?_append_left hj] at hz
          exact hst _ _ _ _ _ e4 si (hst _ _ _ _ _ e1 (sameX_of s4) (hE j z hz))
        · rw [List.getElem?_append_right hj] at hz
          have e0 : j - acc.length = 0 := by
            rcases Nat.eq_zero_or_pos (j - acc.length) with h | h
            · exact h
            · rw [List.getElem?_eq_none (by show 1 ≤ _; exact h)] at hz
              cases hz
          rw [e0] at hz
          cases hz
          have ej : j = i := by omega
          rw [ej]
          exact hst _ _ _ _ _ e4 si hy
  · have e : i = n := by omega
    subst e
    exact .inl ⟨w.stops H (hG H s1), hd H acc s1 e1 hl hE⟩
theorem refs_of {β : Type} {R : Addr → β → Prop} : ∀ {acc : List V} {l : List β}, acc.length = l.length → (∀ (i : Nat) y, acc[i]? = some y → ∃ p x, y = .ref p ∧ l[i]? = some x ∧ R p x) → ∃ qs : List Addr, acc = qs.map V.ref ∧ Paired R qs l
  | [], [], _, _ => ⟨[], rfl, .nil⟩
  | [], _ :: _, e, _ => nomatch e
  | _ :: _, [], e, _ => nomatch e
  | y :: acc, x :: l, e, h => by
    obtain ⟨p, x1, rfl, e1, r⟩ := h 0 y rfl
    cases e1
    obtain ⟨qs, rfl, rs⟩ := refs_of (acc := acc) (l := l) (Nat.succ.inj e) fun i y hy => h (i + 1) y hy
    exact ⟨p :: qs, rfl, .cons r rs⟩
end Cs
namespace Cs
open PySem PySem.Spec L2
section
variable {P : Program} {w : World} {K : PySem.W.Frag} {mg : Str → Option Value} {base : Heap} {A : Adr}
theorem Dw.upd {B H : Hp} {st p : Addr} {o : HO} (h : Dw K B H st) (n : p ≠ st) : Dw K B (L2.upd H p o) st := by
  obtain ⟨sc, ns, i, mx, r, e, q⟩ := h
  exact ⟨sc, ns, i, mx, r, by rw [upd_ne (fun z => n z.symm)]; exact e, q⟩
theorem Dw.step {B H H1 : Hp} {st : Addr} (h : Dw K B H st) (s : Same H H1) : Dw K B H1 st := by
  obtain ⟨sc, ns, i, mx, r, e, q⟩ := h
  exact ⟨sc, ns, i, mx, r, s _ _ e, q⟩
theorem Dw.ne {B H : Hp} {st p : Addr} (h : Dw K B H st) (n : H p = none) : p ≠ st := by
  obtain ⟨sc, ns, i, mx, r, e, q⟩ := h
  intro z
  rw [z, e] at n
  cases n
theorem Dw.i {B H H1 : Hp} {st : Addr} (h : Dw K B H st) (s : SameX st H H1) : SameI H H1 := by
  obtain ⟨sc, ns, i, mx, r, e, q⟩ := h
  exact s.i e id
/-- a fresh one, all else but l as before -/
theorem SameX.new {l p : Addr} {H H1 : Hp} {o : HO} (s : SameX l H H1) (n : H1 p = none) : SameX l H (L2.upd H1 p o) := s.trans (sameX_of (same_upd n))
/-- what wasn't there may change -/
theorem SameX.old {l p : Addr} {H H1 : Hp} {o : HO} (s : SameX l H H1) (n : H p = none) : SameX l H (L2.upd H1 p o) := fun b x hb e => by
  rw [upd_ne (ne_of_none e n)]
  exact s b x hb e
theorem Same.old {p : Addr} {H H1 : Hp} {o : HO} (s : Same H H1) (n : H p = none) : Same H (L2.upd H1 p o) := fun b x e => by
  rw [upd_ne (ne_of_none e n)]
  exact s b x e
def Made (f : Fn) : Prop := ∃ j ks kd, j < 6 ∧ ks.length ≤ 4 ∧ f = mkFn j ks kd
theorem made_okPg {fs : List Fn} (h1 : 1 ≤ fs.length) (h6 : fs.length ≤ 6) (hm : ∀ f ∈ fs, Made f) : okPg fs := ⟨h1, h6, fun f hf => by
  obtain ⟨j, ks, kd, hj, hk, rfl⟩ := hm f hf
  exact mk_ok hj hk⟩
def kdOf (d : Int) : Kd := if d = 0 then .num else .lst
theorem kd_at {d : Int} (h0 : 0 ≤ d) (h2 : d < 2) : atI [V.str "number", V.str "list"] d = some (kdOf d).v := by
  by_cases h : d = 0
  · subst h
    rfl
  · obtain rfl : d = 1 := by omega
    rfl
theorem yes_te {te : TE} {σ : L2.St} {H : Hp} {Qv : VK} {Nx : Hp → Prop} (h : te σ H Qv) : tYes σ H fun b H3 => if b = true then te σ H3 Qv else Nx H3 := by
  show (if true = true then te σ H Qv else Nx H)
  rw [if_pos rfl]; exact h
def spLaw (K : PySem.W.Frag) : Sp := fun vs H Q _ => ∃ (a : Addr) (ns : List Int), vs = [.ref a] ∧ SqL K H a (ns.map V.int) ∧ ns.length ≤ 1000 ∧ ∀ H1, Q (.bl true) H1
set_option maxHeartbeats 8000000 in
theorem ok_law (T : Tx K w mg A) : FnOk P w K mg base CX0 12 A.f_law A.fd_law P_law (spLaw K) := by
  have G_w_start := ok_w_start (P := P) (base := base) T
  have G_w_drawn := ok_w_drawn (P := P) (base := base) T
  have G_w_same := ok_w_same (P := P) (base := base) T 4
  have G_w_lattice := ok_w_lattice (P := P) (base := base) T
  have G_w_kinds := ok_w_kinds (P := P) (base := base) T
  have G_candidates := ok_candidates (P := P) (base := base) T
  obtain ⟨ds, vds, bds⟩ := b_candidates T
  refine T.F_law.ok sc_law (fun vs H Q E h => ?_) (fun cdv AA outer s B vs Q E hr h => ?_)
  · obtain ⟨a, ns, rfl, _⟩ := h
    rfl
  · obtain ⟨a, ns, rfl, hS, hn, q⟩ := h
    refine ⟨_, (pss_cons (ps_set (i := 1) sc_law.nd rfl (.inr rfl) (pe_call G_w_start (hr.mono (by decide)) (by rfl) T.g_w_start T.F_w_start.kp T.b_w_start .nil pass0 (pa_cons (pv 0) pa_nil)))
  (pss_cons (ps_for PassesOwn.never rfl (pi_range1 (by rfl) T.n_range (pa_cons pe_int pa_nil)) (pg_name (i := 2) sc_law.nd rfl (.inl rfl))
  (pss_cons (ps_set (i := 3) sc_law.nd rfl (.inr rfl) (pe_lst pa_nil))
  (pss_cons (ps_for PassesOwn.never rfl (pi_range1 (by rfl) T.n_range (pa_cons (pe_op op_add pe_int (pe_call G_w_drawn (hr.mono (by decide)) (by rfl) T.g_w_drawn T.F_w_drawn.kp T.b_w_drawn .nil pass0 (pa_cons (pv 1) (pa_cons pe_int pa_nil)))) pa_nil)) (pg_name (i := 4) sc_law.nd rfl (.inr rfl))
  (pss_cons (ps_set (i := 5) sc_law.nd rfl (.inr rfl) (pe_lc (own := [("_law_k", 14)]) (g := (gName 14)) (tt := tYes) (te := (tOp (rIxL K) _ _)) rfl sc_law.nd (pi_range1 (by rfl) T.n_range (pa_cons (pe_call G_w_drawn (hr.mono (by decide)) (by rfl) T.g_w_drawn T.F_w_drawn.kp T.b_w_drawn .nil pass0 (pa_cons (pv 1) (pa_cons pe_int pa_nil))) pa_nil)) (blkOk_by (N := N_law) (sc := defScope s_law) (by decide +kernel)) (fun _ _ _ _ _ => (pg_name (i := 14) sc_law.nd rfl (.inl rfl))) (fun _ _ _ _ _ => pts_nil) (fun _ _ _ _ _ => (pe_ix ix_list (pe_lst (pa_cons pe_str (pa_cons pe_str pa_nil))) (pe_call G_w_drawn (hr.mono (by decide)) (by rfl) T.g_w_drawn T.F_w_drawn.kp T.b_w_drawn .nil pass0 (pa_cons (pv 1) (pa_cons pe_int pa_nil))) (fun _ _ => rfl)))))
  (pss_cons (ps_set (i := 6) sc_law.nd rfl (.inl rfl) (pe_ix ix_list (pe_lst (pa_cons pe_str (pa_cons pe_str pa_nil))) (pe_call G_w_drawn (hr.mono (by decide)) (by rfl) T.g_w_drawn T.F_w_drawn.kp T.b_w_drawn .nil pass0 (pa_cons (pv 1) (pa_cons pe_int pa_nil))) (fun _ _ => rfl)))
  (pss_cons (ps_set (i := 7) sc_law.nd rfl (.inl rfl) (pe_callTy cr_tupF (by rfl) T.n_tuple (by decide +kernel) (pa_cons (pe_lc (own := [("_law_k", 14)]) (g := (gName 14)) (tt := tYes) (te := (tTup (tCons (tOp _ (tOp rIxS _ (tVar 14)) _) (tCons (tOp (rIxL K) (tVar 5) (tVar 14)) tNil)))) rfl sc_law.nd (pi_range1 (by rfl) T.n_range (pa_cons (pe_callB call_len (by rfl) T.n_len (by decide +kernel) (pa_cons (pv 5) pa_nil)) pa_nil)) (blkOk_by (N := N_law) (sc := defScope s_law) (by decide +kernel)) (fun _ _ _ _ _ => (pg_name (i := 14) sc_law.nd rfl (.inl rfl))) (fun _ _ _ _ _ => pts_nil) (fun _ _ _ _ _ => (pe_tup (pa_cons (pe_op op_mulS (pe_ix ix_str pe_str (pv 14) (fun _ _ => rfl)) (pe_op op_add pe_int (pv 4))) (pa_cons (pe_ix ix_list (pv 5) (pv 14) (fun _ _ => rfl)) pa_nil))))) pa_nil)))
  (pss_cons (ps_set (i := 8) sc_law.nd rfl (.inl rfl) (pe_ifExp (pt_cmpR op_eq (pv 6) pe_str (nomark _)) (pe_tup (pa_cons pe_str (pa_cons pe_int pa_nil))) (pe_tup (pa_cons pe_str pa_nil))))
  (pss_one (ps_expr (pe_bm PySem.F.plainAttrs_list PySem.F.slot_list_append PySem.F.type_list_append mt_append (pv 3) (pa_cons (pe_tup (pa_cons (pv 7) (pa_cons (pv 6) (pa_cons (pe_tup (pa_cons pe_str (pa_cons pe_str (pa_cons (pv 8) (pa_cons (pe_tup (pa_cons pe_str (pa_cons pe_str pa_nil))) pa_nil))))) pa_nil)))) pa_nil)))))))))
  (pss_cons (ps_set (i := 9) sc_law.nd rfl (.inr rfl) (pe_callB (cr_sortedSet rfl) (by rfl) T.n_sorted (by decide +kernel) (pa_cons (pe_callTy (cr_setL rfl) (by rfl) T.n_set (by decide +kernel) (pa_cons (pe_lc (own := [("_law_k", 14)]) (g := (gName 14)) (tt := tYes) (te := _) rfl sc_law.nd (pi_range1 (by rfl) T.n_range (pa_cons (pe_op op_add pe_int (pe_call G_w_drawn (hr.mono (by decide)) (by rfl) T.g_w_drawn T.F_w_drawn.kp T.b_w_drawn .nil pass0 (pa_cons (pv 1) (pa_cons pe_int pa_nil)))) pa_nil)) (blkOk_by (N := N_law) (sc := defScope s_law) (by decide +kernel)) (fun _ _ _ _ _ => (pg_name (i := 14) sc_law.nd rfl (.inl rfl))) (fun _ _ _ _ _ => pts_nil) (fun _ _ _ _ _ => (pe_op op_sub (pe_call G_w_drawn (hr.mono (by decide)) (by rfl) T.g_w_drawn T.F_w_drawn.kp T.b_w_drawn .nil pass0 (pa_cons (pv 1) (pa_cons pe_int pa_nil))) pe_int))) pa_nil)) pa_nil)))
  (pss_one (ps_for PassesOwn.never rfl (pi_range1 (by rfl) T.n_range (pa_cons (pe_callB call_len (by rfl) T.n_len (by decide +kernel) (pa_cons (pv 3) pa_nil)) pa_nil)) (pg_name (i := 4) sc_law.nd rfl (.inr rfl))
  (pss_cons (ps_setLc (i := 10) (own := [("_law_side", 15)]) (g := (gName 15)) (tt := tYes) (te := _) rfl sc_law.nd rfl rfl (sw_true rfl rfl rfl (by decide +kernel)) (pi_tup (pe_tup (pa_cons pe_str (pa_cons pe_str pa_nil)))) (blkOk_by (N := N_law) (sc := defScope s_law) (by decide +kernel)) (fun _ _ _ _ _ => (pg_name (i := 15) sc_law.nd rfl (.inl rfl))) (fun _ _ _ _ _ => pts_nil) (fun _ _ _ _ _ => (pe_call G_w_kinds (hr.mono (by decide)) (by rfl) T.g_w_kinds T.F_w_kinds.kp T.b_w_kinds .nil pass0 (pa_cons (pv 3) (pa_cons (pv 4) (pa_cons (pv 15) pa_nil))))))
  (pss_cons (ps_for PassesOwn.never rfl (pi_range1 (by rfl) T.n_range (pa_cons pe_int pa_nil)) (pg_name (i := 11) sc_law.nd rfl (.inl rfl))
  (pss_cons (ps_set (i := 12) sc_law.nd rfl (.inl rfl) (pe_callN G_candidates (hr.mono (by decide)) (by rfl) T.g_candidates T.F_candidates.kp (k_candidates T) pass0 (pa_cons (pe_callTy cr_tupF (by rfl) T.n_tuple (by decide +kernel) (pa_cons (pv 3) pa_nil)) (pa_cons (pv 4) pa_nil)) (pk_cons (pe_callTy cr_tupF (by rfl) T.n_tuple (by decide +kernel) (pa_cons (pv 9) pa_nil)) pk_nil)))
  (pss_cons (ps_if (pt_not (pt_val (pe_call G_w_same (hr.mono (by decide)) (by rfl) T.g_w_same T.F_w_same.kp T.b_w_same .nil pass0 (pa_cons (pv 12) (pa_cons (pe_callTy cr_tupF (by rfl) T.n_tuple (by decide +kernel) (pa_cons (pe_lc (own := [("_law_kinds_here", 5)]) (g := (gName 5)) (tt := tYes) (te := _) rfl sc_law.nd (pi_list (pv 10)) (blkOk_by (N := N_law) (sc := defScope s_law) (by decide +kernel)) (fun _ _ _ _ _ => (pg_name (i := 5) sc_law.nd rfl (.inl rfl))) (fun _ _ _ _ _ => pts_nil) (fun _ _ _ _ _ => (pe_call G_w_lattice (hr.mono (by decide)) (by rfl) T.g_w_lattice T.F_w_lattice.kp T.b_w_lattice .nil pass0 (pa_cons (pv 5) (pa_cons (pv 9) pa_nil))))) pa_nil)) pa_nil)))))
  (pss_one (ps_ret pe_bl))
  pss_nil)
  (pss_cons (ps_expr (pe_bm PySem.F.plainAttrs_list PySem.F.slot_list_append PySem.F.type_list_append mt_append (pe_ix ix_tup (pv 12) pe_int (fun _ _ => rfl)) (pa_cons (pe_tup pa_nil) pa_nil)))
  (pss_one (ps_expr (pe_bm0 PySem.F.plainAttrs_list PySem.F.slot_list_clear PySem.F.type_list_clear mt_clear (pe_ix ix_tup (pv 12) pe_int (fun _ _ => rfl)))))))))
  (pss_cons (ps_set (i := 13) sc_law.nd rfl (.inl rfl) (pe_callTy cr_tupF (by rfl) T.n_tuple (by decide +kernel) (pa_cons (pe_lc (own := [("_law_kinds_here", 5)]) (g := (gName 5)) (tt := tYes) (te := _) rfl sc_law.nd (pi_list (pv 10)) (blkOk_by (N := N_law) (sc := defScope s_law) (by decide +kernel)) (fun _ _ _ _ _ => (pg_name (i := 5) sc_law.nd rfl (.inl rfl))) (fun _ _ _ _ _ => pts_nil) (fun _ _ _ _ _ => (pe_call G_w_lattice (hr.mono (by decide)) (by rfl) T.g_w_lattice T.F_w_lattice.kp T.b_w_lattice .nil pass0 (pa_cons (pv 5) (pa_cons (pe_tup (pa_cons (pe_op op_sub pe_int pe_int) (pa_cons pe_int (pa_cons pe_int pa_nil)))) pa_nil))))) pa_nil)))
  (pss_one (ps_if (pt_not (pt_val (pe_call G_w_same (hr.mono (by decide)) (by rfl) T.g_w_same T.F_w_same.kp T.b_w_same .nil pass0 (pa_cons (pe_call G_candidates (hr.mono (by decide)) (by rfl) T.g_candidates T.F_candidates.kp bds vds pass0 (pa_cons (pe_callTy cr_tupF (by rfl) T.n_tuple (by decide +kernel) (pa_cons (pv 3) pa_nil)) (pa_cons (pv 4) pa_nil))) (pa_cons (pv 13) pa_nil)))))
  (pss_one (ps_ret pe_bl))
  pss_nil)))))))))))
  (pss_one (ps_ret (pe_call G_w_same (hr.mono (by decide)) (by rfl) T.g_w_same T.F_w_same.kp T.b_w_same .nil pass0 (pa_cons (pe_glob (v := .ref A.a_NUMBERS) rfl T.c_NUMBERS rfl) (pa_cons (pe_tup (pa_cons (pe_op op_sub pe_int pe_int) (pa_cons pe_int (pa_cons pe_int pa_nil)))) pa_nil))))))), ?_⟩
    refine ⟨_, rfl, a, ns, rfl, hS, hn, fun H1 st s1 nst dw1 => ?_⟩
    refine ⟨3, rfl, by decide, by decide, for_it (walk_range (n := 3)) (fun i σ H => ∃ y2 y3 y4 y5 y6 y7 y8 y9 y10 y11 y12 y13, σ = [some (.ref a), some (.ref st), y2, y3, y4, y5, y6, y7, y8, y9, y10, y11, y12, y13, none, none] ∧ Same B H ∧ Dw K B H st)
      ⟨none, none, none, none, none, none, none, none, none, none, none, none, rfl, s1, dw1⟩ (fun _ _ _ _ _ => True.intro) ?_ ?_⟩
    · rintro t x σ H2 H2' ht ⟨y2, y3, y4, y5, y6, y7, y8, y9, y10, y11, y12, y13, rfl, s2, dw2⟩ ⟨rfl, -⟩
      refine ⟨by show 0 ≤ sizeLine; decide, fun pl hpl => ?_⟩
      have npl : B pl = none := s2.free hpl
      have plst : pl ≠ st := dw2.ne hpl
      refine ⟨_, rfl, B, st, 6, rfl, Same.old s2 npl, nst, dw2.upd plst, by decide, by decide, fun H3 d d0 d6 x3 dw3 => ?_⟩
      have s3 : Same B H3 := SameX.same (Same.old s2 npl) x3 nst
      have e3 : H3 pl = some (.lst []) := x3 _ _ plst upd_same
      refine ⟨_, _, rfl, rfl, _, rfl, by omega, by omega, for_it (walk_range (n := (1 + d).toNat)) (fun i σ H => ∃ y4 y5 y6 y7 y8 pvs fs, σ = [some (.ref a), some (.ref st), some x, some (.ref pl), y4, y5, y6, y7, y8, y9, y10, y11, y12, y13, none, none] ∧ Same B H ∧ Dw K B H st ∧
          H pl = some (.lst pvs) ∧ Paired (FnAt K H) pvs fs ∧ fs.length = i ∧ ∀ f ∈ fs, Made f)
        ⟨y4, y5, y6, y7, y8, [], [], rfl, s3, dw3, e3, .nil, rfl, fun _ h => by cases h⟩ (fun _ _ _ _ _ => True.intro) ?_ ?_⟩
      · rintro j x4 σ H4 H4' hj ⟨y4, y5, y6, y7, y8, pvs, fs, rfl, s4, dw4, e4, hfs, lfs, mfs⟩ ⟨rfl, hx4⟩
        obtain rfl : x4 = .int (j : Nat) := by
          rw [hx4]
          show V.int ((0 : Int) + ((j : Nat) : Int)) = _
          rw [Int.zero_add]
        have j6 : j < 6 := by omega
        -- the kinds
        refine ⟨_, rfl, B, st, 5, rfl, s4, nst, dw4, by decide, by decide, fun H5 d5 d50 d55 x5 dw5 => ?_⟩
        have s5 : Same B H5 := SameX.same s4 x5 nst
        have e5 : H5 pl = some (.lst pvs) := x5 _ _ plst e4
        have hfs5 : Paired (FnAt K H5) pvs fs := Paired.mapP hfs fun _ _ q => q.same (dw4.i x5)
        refine ⟨_, rfl, by omega, by omega, fun D1 hD1 => ?_⟩
        have d1st : D1 ≠ st := dw5.ne hD1
        refine walk_by (walk_range (n := d5.toNat)) (fun k H6 => SameX st H5 H6 ∧ Dw K B H6 st ∧ ∃ ks : List Kd, H6 D1 = some (.lst (ks.map Kd.v)) ∧ ks.length = k)
          ⟨(SameX.refl _ _).new hD1, dw5.upd d1st, [], upd_same, rfl⟩ (fun _ _ _ _ => True.intro) ?_ ?_
        · rintro k x6 H6 H6' hk ⟨x6, dw6, ks, e6, lks⟩ ⟨rfl, -⟩
          refine ⟨rfl, yes_te ⟨by show 2 ≤ sizeLine; decide, fun L hL => ⟨_, rfl, B, st, 2, rfl, SameX.same s5 (x6.new hL) nst, nst, dw6.upd (dw6.ne hL), by decide, by decide, fun H7 d7 d70 d72 x7 dw7 => ?_⟩⟩⟩
          have lL : L ≠ st := dw6.ne hL
          have eL : H7 L = some (.lst [.str "number", .str "list"]) := x7 _ _ lL upd_same
          have e7 : H7 D1 = some (.lst (ks.map Kd.v)) := x7 _ _ d1st (same_upd hL _ _ e6)
          refine ⟨L, _, d7, (kdOf d7).v, rfl, rfl, SqL.of eL, kd_at d70 d72, _, e7, smaller (by rw [List.length_map]; omega), ?_⟩
          refine ⟨((x6.new hL).trans x7).old hD1, dw7.upd d1st, ks ++ [kdOf d7], ?_, by rw [List.length_append, lks]; rfl⟩
          rw [upd_same, List.map_append]
          rfl
        · rintro H6 ⟨x6, dw6, ks, e6, lks⟩
          have s6 : Same B H6 := SameX.same s5 x6 nst
          have e6p : H6 pl = some (.lst pvs) := x6 _ _ plst e5
          have hfs6 : Paired (FnAt K H6) pvs fs := Paired.mapP hfs5 fun _ _ q => q.same (dw5.i x6)
          -- the kind
          refine ⟨by show 2 ≤ sizeLine; decide, fun L hL => ⟨_, rfl, B, st, 2, rfl, SameX.same s6 ((SameX.refl _ _).new hL) nst, nst, dw6.upd (dw6.ne hL), by decide, by decide, fun H7 d7 d70 d72 x7 dw7 => ?_⟩⟩
          have lL : L ≠ st := dw6.ne hL
          have eL : H7 L = some (.lst [.str "number", .str "list"]) := x7 _ _ lL upd_same
          have x67 : SameX st H6 H7 := ((SameX.refl _ _).new hL).trans x7
          refine ⟨L, _, d7, (kdOf d7).v, rfl, rfl, SqL.of eL, kd_at d70 d72, ?_⟩
          generalize hkd : kdOf d7 = kd
          have s7 : Same B H7 := SameX.same s6 x67 nst
          have e7p : H7 pl = some (.lst pvs) := x67 _ _ plst e6p
          have e7D : H7 D1 = some (.lst (ks.map Kd.v)) := x67 _ _ d1st e6
          have hfs7 : Paired (FnAt K H7) pvs fs := Paired.mapP hfs6 fun _ _ q => q.same (dw6.i x67)
          have lk4 : ks.length ≤ 4 := by omega
          -- the params
          refine ⟨_, rfl, _, _, rfl, .inl ⟨_, SqL.of e7D, (List.length_map _).symm⟩, (ks.length : Nat), rfl, by omega, by omega, fun D2 hD2 => ?_⟩
          refine lc_data (walk_range (n := ks.length)) (fun i y H => ∃ p kd, y = .ref p ∧ ks[i]? = some kd ∧ PrAt K H p (nm i j, kd)) (fun i v H H2 si ⟨p, kd, h1, h2, h3⟩ => ⟨p, kd, h1, h2, h3.same si⟩) hD2 (fun _ _ => True.intro) (by omega) ?_ ?_
          · rintro i x8 H8 H8' k8 hi s8 ⟨rfl, hx8⟩ hk
            obtain rfl : x8 = .int (i : Nat) := by
              rw [hx8]
              show V.int ((0 : Int) + ((i : Nat) : Int)) = _
              rw [Int.zero_add]
            obtain ⟨ki, hki⟩ : ∃ ki, ks[i]? = some ki := ⟨_, List.getElem?_eq_getElem hi⟩
            have i4 : i < 4 := by omega
            refine ⟨rfl, _, rfl, _, _, _, rfl, rfl, by decide +kernel, atI_nat (sg_at i i4), _, rfl, _, _, rfl, rfl, _, _, rfl, rfl, nm_mul i i4 j j6, ?_⟩
            refine ⟨_, rfl, _, rfl, _, _, _, _, rfl, rfl, SqL.of (s8 _ _ e7D), atI_nat (j := i) (by rw [List.getElem?_map, hki]; rfl), by show 2 ≤ sizeLine; decide, fun t2 ht2 => ?_⟩
            exact hk _ _ (same_upd ht2) ⟨t2, ki, rfl, hki, .inl (.inl upd_same)⟩
          · rintro H8 acc s8 e8 l8 hE8
            obtain ⟨qs, rfl, hqs⟩ : ∃ qs : List Addr, acc = qs.map V.ref ∧ Paired (PrAt K H8) qs (mkPs j ks) := by
              refine refs_of (by rw [mkPs_len]; exact l8) fun i y hy => ?_
              obtain ⟨p, ki, h1, h2, h3⟩ := hE8 i y hy
              exact ⟨p, _, h1, mkPs_at h2, h3⟩
            refine ⟨D2, _, rfl, SqL.of e8, fun pa its hpa => ?_⟩
            have s9 := same_upd (o := .frz (tupObj its) (.tup (qs.map V.ref))) hpa
            have hpl9 : PlT (upd H8 pa (.frz (tupObj its) (.tup (qs.map V.ref)))) pa (qs.map V.ref) := PlT.new
            generalize upd H8 pa (.frz (tupObj its) (.tup (qs.map V.ref))) = H9 at s9 hpl9 ⊢
            have hqs9 : Paired (PrAt K H9) qs (mkPs j ks) := Paired.mapP hqs fun _ _ q => q.same (sameI_of s9)
            have s79 : Same H7 H9 := s8.trans s9
            -- the deed
            cases kd
            case' num =>
              refine ⟨_, rfl, rfl, _, rfl, itd (p := Kd.num.v = V.str "number") rfl ⟨by show 2 ≤ sizeLine; decide, fun td htd => ?_⟩⟩
              have s10 := same_upd (o := .tup [.str "num", .int 3]) htd
              have hd10 : Im K (upd H9 td (.tup [.str "num", .int 3])) (.ref td) (deedOf .num).d := .tup (.inl (.inl upd_same)) (.cons (.str _) (.cons (.int _) .nil))
              generalize upd H9 td (.tup [.str "num", .int 3]) = H10 at s10 hd10 ⊢
            case' lst =>
              refine ⟨_, rfl, rfl, _, rfl, itn (p := Kd.lst.v = V.str "number") (by decide +kernel) ⟨by show 1 ≤ sizeLine; decide, fun td htd => ?_⟩⟩
              have s10 := same_upd (o := .tup [.str "nil"]) htd
              have hd10 : Im K (upd H9 td (.tup [.str "nil"])) (.ref td) (deedOf .lst).d := .tup (.inl (.inl upd_same)) (.cons (.str _) .nil)
              generalize upd H9 td (.tup [.str "nil"]) = H10 at s10 hd10 ⊢
            all_goals
              have s710 : Same H7 H10 := s79.trans s10
              have e10 : H10 pl = some (.lst pvs) := s710 _ _ e7p
              refine ⟨_, rfl, .inl ⟨rfl, _, SqL.of e10⟩, _, rfl, _, rfl, _, rfl, by show 2 ≤ sizeLine; decide, fun t1 ht1 => ⟨by show 4 ≤ sizeLine; decide, fun t2 ht2 => ⟨by show 3 ≤ sizeLine; decide, fun t3 ht3 => ?_⟩⟩⟩
              have s11 := same_upd (o := .tup [.str "tell", .str "x"]) ht1
              have s12 := same_upd (o := .tup [.str "let", .str "x", .ref td, .ref t1]) ht2
              have i1 : Im K (upd H10 t1 (.tup [.str "tell", .str "x"])) (.ref t1) (.tuple [.str "tell", .str "x"]) := .tup (.inl (.inl upd_same)) (.cons (.str _) (.cons (.str _) .nil))
              have i2 := Im.tup (K := K) (.inl (.inl upd_same)) (.cons (.str "let") (.cons (.str "x") (.cons (hd10.same (sameI_of (s11.trans s12))) (.cons (i1.same (sameI_of s12)) .nil))))
              generalize upd (upd H10 t1 (.tup [.str "tell", .str "x"])) t2 (.tup [.str "let", .str "x", .ref td, .ref t1]) = H12 at s12 i2 ht3 ⊢
              have s712 : Same H7 H12 := s710.trans (s11.trans s12)
              have s912 : Same H9 H12 := s10.trans (s11.trans s12)
              have fn12 : ∀ kv : V, SameI H12 (upd H12 t3 (.tup [.ref pa, kv, .ref t2])) := fun kv => sameI_of (same_upd ht3)
              have e13 : ∀ kv : V, upd H12 t3 (.tup [.ref pa, kv, .ref t2]) pl = some (.lst pvs) := fun kv => same_upd ht3 _ _ (s712 _ _ e7p)
              have lp : pvs.length = j := by rw [Paired.length hfs7, lfs]
              refine ⟨pl, pvs, .ref t3, rfl, rfl, e13 _, smaller (by omega), _, _, _, _, _, pvs ++ [.ref t3], fs ++ [mkFn j ks (kdOf d7)], rfl, Same.old (s7.trans (s712.trans (same_upd ht3))) npl, (dw7.step (s712.trans (same_upd ht3))).upd plst, upd_same, ?_, by rw [List.length_append, lfs]; rfl, fun f hf => ?_⟩
              · have si : ∀ kv : V, SameI (upd H12 t3 (.tup [.ref pa, kv, .ref t2])) (upd (upd H12 t3 (.tup [.ref pa, kv, .ref t2])) pl (.lst (pvs ++ [.ref t3]))) := fun kv => sameI_upd (e13 kv) id
                refine paired_append (Paired.mapP hfs7 fun _ _ q => q.same ((sameI_of (s712.trans (same_upd ht3))).trans (si _))) (.cons ?_ .nil)
                rw [hkd]
                exact ⟨t3, pa, .ref t2, qs, rfl, (si _).tup (.inl (.inl upd_same)), ((sameI_of (s912.trans (same_upd ht3))).trans (si _)).pl hpl9, Paired.mapP hqs9 fun _ _ q => q.same ((sameI_of (s912.trans (same_upd ht3))).trans (si _)), i2.same ((fn12 _).trans (si _))⟩
              · rcases List.mem_append.mp hf with h | h
                · exact mfs f h
                · exact ⟨j, ks, _, j6, lk4, List.mem_singleton.mp h⟩
      · rintro σ H4 ⟨y4, y5, y6, y7, y8, pvs, fs, rfl, s4, dw4, e4, hfs, lfs, mfs⟩
        have okp : okPg fs := made_okPg (by omega) (by omega) mfs
        -- the numbers
        refine ⟨_, rfl, B, st, 5, rfl, s4, nst, dw4, by decide, by decide, fun H5 d5 d50 d55 x5 dw5 => ?_⟩
        have s5 : Same B H5 := SameX.same s4 x5 nst
        have e5 : H5 pl = some (.lst pvs) := x5 _ _ plst e4
        have hfs5 : Paired (FnAt K H5) pvs fs := Paired.mapP hfs fun _ _ q => q.same (dw4.i x5)
        refine ⟨_, _, rfl, rfl, _, rfl, by omega, by omega, fun D1 hD1 => ?_⟩
        have d1st : D1 ≠ st := dw5.ne hD1
        refine walk_by (walk_range (n := (1 + d5).toNat)) (fun k H6 => SameX st H5 H6 ∧ Dw K B H6 st ∧ ∃ zs : List Int, H6 D1 = some (.lst (zs.map V.int)) ∧ zs.length = k ∧ ∀ z ∈ zs, -9 ≤ z ∧ z ≤ 9)
          ⟨(SameX.refl _ _).new hD1, dw5.upd d1st, [], upd_same, rfl, fun _ h => by cases h⟩ (fun _ _ _ _ => True.intro) ?_ ?_
        · rintro k v6 H6 H6' hk ⟨x6, dw6, zs, e6, lzs, hzs⟩ ⟨rfl, -⟩
          refine ⟨rfl, yes_te ⟨_, rfl, B, st, 19, rfl, SameX.same s5 x6 nst, nst, dw6, by decide, by decide, fun H7 d7 d70 d719 x7 dw7 => ?_⟩⟩
          refine ⟨_, _, rfl, rfl, _, x7 _ _ d1st e6, smaller (by rw [List.length_map]; omega), (x6.trans x7).old hD1, dw7.upd d1st, zs ++ [d7 - 9], ?_, by rw [List.length_append, lzs]; rfl, fun z hz => ?_⟩
          · rw [upd_same, List.map_append]
            rfl
          · rcases List.mem_append.mp hz with h | h
            · exact hzs z h
            · rw [List.mem_singleton.mp h]
              omega
        · rintro H6 ⟨x6, dw6, zs, e6, lzs, hzs⟩
          have s6 : Same B H6 := SameX.same s5 x6 nst
          have e6p : H6 pl = some (.lst pvs) := x6 _ _ plst e5
          have hfs6 : Paired (FnAt K H6) pvs fs := Paired.mapP hfs5 fun _ _ q => q.same (dw5.i x6)
          refine ⟨D1, zs, rfl, SqL.of e6, by omega, fun S c hS hc => ⟨S, _, c, rfl, upd_same, by omega, fun ms tl pw hm hlm htl => ?_⟩⟩
          generalize hH7 : upd (upd H6 S _) tl _ = H7
          have s67 : Same H6 H7 := by rw [← hH7]; exact (same_upd hS).trans (same_upd htl)
          have etl : H7 tl = some (.lst (ms.map V.int)) := by rw [← hH7]; exact upd_same
          clear hH7
          have okn : okNums ms := by
            refine ⟨?_, by omega, fun n hn => hzs n (of_decide_eq_true ((hm n).mp hn)), pw⟩
            have : ∃ z, z ∈ zs := by
              cases zs with
              | nil => rw [List.length_nil] at lzs; omega
              | cons z _ => exact ⟨z, List.mem_cons_self ..⟩
            obtain ⟨z, hz⟩ := this
            have := (hm z).mpr (decide_eq_true hz)
            exact List.length_pos_of_mem this
          have s7 : Same B H7 := s6.trans s67
          have dw7 : Dw K B H7 st := dw6.step s67
          have e7p : H7 pl = some (.lst pvs) := s67 _ _ e6p
          have hfs7 : Paired (FnAt K H7) pvs fs := Paired.mapP hfs6 fun _ _ q => q.same (sameI_of s67)
          have lpf : pvs.length = fs.length := Paired.length hfs7
          refine ⟨_, rfl, _, _, rfl, .inl ⟨pvs, SqL.of e7p, rfl⟩, (pvs.length : Nat), rfl, by omega, by omega, for_it (walk_range (n := pvs.length)) (fun i σ H => ∃ y4 y5 y6 y7 y8 y10 y11 y12 y13, σ = [some (.ref a), some (.ref st), some x, some (.ref pl), y4, y5, y6, y7, y8, some (.ref tl), y10, y11, y12, y13, none, none] ∧ Same H7 H)
            ⟨y4, y5, y6, y7, y8, y10, y11, y12, y13, rfl, Same.refl _⟩ (fun _ _ _ _ _ => True.intro) ?_ ?_⟩
          · rintro i v8 σ H8p H8 hi ⟨y4, y5, y6, y7, y8, y10, y11, y12, y13, rfl, s8⟩ ⟨rfl, hx8⟩
            obtain rfl : v8 = .int (i : Nat) := by
              rw [hx8]
              show V.int ((0 : Int) + ((i : Nat) : Int)) = _
              rw [Int.zero_add]
            obtain ⟨fv, hfv⟩ : ∃ fv, pvs[i]? = some fv := ⟨_, List.getElem?_eq_getElem hi⟩
            obtain ⟨fn, hfn, hff⟩ := paired_get hfs7 hfv
            obtain ⟨jj, ks, kd, hjj, hks, efn⟩ := mfs fn (List.mem_of_getElem? hfn)
            have hps : fn.ps.length ≤ 4 := by rw [efn]; show (mkPs jj ks).length ≤ 4; rw [mkPs_len]; exact hks
            have hps2 : fn.hd.1.length ≤ 4 := by show (fn.ps.map (·.2)).length ≤ 4; rw [List.length_map]; exact hps
            have e8p : H8 pl = some (.lst pvs) := s8 _ _ e7p
            have hff8 : FnAt K H8 fv fn := hff.same (sameI_of s8)
            have hfs8 : Paired (FnAt K H8) pvs fs := Paired.mapP hfs7 fun _ _ q => q.same (sameI_of s8)
            -- the sides
            refine ⟨by show 2 ≤ sizeLine; decide, fun tp htp => ⟨tp, rfl, ⟨_, .inl (.inl upd_same)⟩, fun D2 hD2 => ?_⟩⟩
            have sT : Same H8 (upd H8 tp (.tup [.str "ahead", .str "behind"])) := same_upd htp
            have eT : upd H8 tp (.tup [.str "ahead", .str "behind"]) tp = some (.tup [.str "ahead", .str "behind"]) := upd_same
            generalize upd H8 tp (.tup [.str "ahead", .str "behind"]) = H9 at sT eT hD2 ⊢
            refine lc_new (walk_tup (K := K) (a := tp) (xs := [V.str "ahead", V.str "behind"])) (fun m y H => ∃ p, y = .ref p ∧ p ≠ D2 ∧ H p = some (.lst ((if m = 0 then fn.hd.1 else fn.hd.1 ++ [fn.kd]).map Kd.v)))
              (fun m y H H2 acc eD x ⟨p, h1, h2, h3⟩ => ⟨p, h1, h2, x _ _ h2 h3⟩) hD2 (fun H s => .inl (.inl (s _ _ eT))) (by simp) ?_ ?_
            · rintro m v10 H10 H10' k hm s10 ⟨acc, eD⟩ ⟨rfl, hv⟩ hk
              have s810 := sT.trans s10
              have hside : ∃ z : Str, v10 = .str z ∧ (fn.hd.1 ++ if z = "behind" then [fn.kd] else []) = if m = 0 then fn.hd.1 else fn.hd.1 ++ [fn.kd] := by
                match m, hm, hv with
                | 0, _, hv => cases hv; exact ⟨_, rfl, by rw [if_neg (by decide +kernel), if_pos rfl, List.append_nil]⟩
                | 1, _, hv => cases hv; exact ⟨_, rfl, by rw [if_pos rfl, if_neg (by decide)]⟩
              obtain ⟨z, rfl, ez⟩ := hside
              refine ⟨rfl, _, rfl, _, rfl, _, rfl, pl, pvs, i, z, fv, fn, rfl, SqL.of (s810 _ _ e8p), hfv, hff8.same (sameI_of s810), by omega, fun H11 p s11 np ep => ?_⟩
              rw [ez] at ep
              exact hk _ _ s11 ⟨p, rfl, (fun z2 => by rw [z2, eD] at np; cases np), ep⟩
            · rintro H10 acc s10 e10 l10 hE10
              obtain ⟨p0, p1, rfl, ep0, ep1⟩ : ∃ p0 p1, acc = [.ref p0, .ref p1] ∧ H10 p0 = some (.lst (fn.hd.1.map Kd.v)) ∧ H10 p1 = some (.lst ((fn.hd.1 ++ [fn.kd]).map Kd.v)) := by
                match acc, l10, hE10 with
                | [x0, x1], _, hE => 
                  obtain ⟨p0, rfl, _, f0⟩ := hE 0 x0 rfl
                  obtain ⟨p1, rfl, _, f1⟩ := hE 1 x1 rfl
                  exact ⟨p0, p1, rfl, f0, f1⟩
              have s810 := sT.trans s10
              have s710 := s8.trans s810
              have e10p : H10 pl = some (.lst pvs) := s810 _ _ e8p
              have e10t : H10 tl = some (.lst (ms.map V.int)) := s710 _ _ etl
              have hfs10 : Paired (FnAt K H10) pvs fs := Paired.mapP hfs8 fun _ _ q => q.same (sameI_of s810)
              have lk : ∀ m : Nat, (if m = 0 then fn.hd.1 else fn.hd.1 ++ [fn.kd]).length ≤ 40 := fun m => by
                split
                · omega
                · rw [List.length_append]; show _ + 1 ≤ 40; omega
              have ls : ∀ m : Nat, (slotsOf (if m = 0 then fn.hd.1 else fn.hd.1 ++ [fn.kd])).length ≤ 100 := fun m => by
                have h1 := slotsOf_len (if m = 0 then fn.hd.1 else fn.hd.1 ++ [fn.kd])
                have h2 := lk m
                omega
              have eat : ∀ {m : Nat} {v : V}, [V.ref p0, V.ref p1][m]? = some v → ∃ p, v = .ref p ∧ H10 p = some (.lst ((if m = 0 then fn.hd.1 else fn.hd.1 ++ [fn.kd]).map Kd.v)) := fun {m v} h => by
                match m, h with
                | 0, h => cases h; exact ⟨p0, rfl, ep0⟩
                | 1, h => cases h; exact ⟨p1, rfl, ep1⟩
              refine ⟨2, rfl, by decide, by decide, for_it (walk_range (n := 2)) (fun i2 σ H => ∃ y11 y12, σ = [some (.ref a), some (.ref st), some x, some (.ref pl), some (.int (i : Nat)), y5, y6, y7, y8, some (.ref tl), some (.ref D2), y11, y12, y13, none, none] ∧ Same H10 H)
                ⟨y11, y12, rfl, Same.refl _⟩ (fun _ _ _ _ _ => True.intro) ?_ ?_⟩
              · rintro i2 v11 σ H11p H11 hi2 ⟨y11, y12, rfl, s11⟩ ⟨rfl, -⟩
                refine ⟨_, rfl, pl, pvs, rfl, SqL.of (s11 _ _ e10p), fun t1 its1 ht1 => ⟨_, rfl, _, rfl, tl, _, rfl, SqL.of (same_upd ht1 _ _ (s11 _ _ e10t)), fun t2 its2 ht2 => ⟨rfl, rfl, ?_⟩⟩⟩
                have sA := (same_upd (o := .frz (tupObj its1) (.tup pvs)) ht1).trans (same_upd (o := .frz (tupObj its2) (.tup (ms.map V.int))) ht2)
                have eA1 : upd (upd H11 t1 (.frz (tupObj its1) (.tup pvs))) t2 (.frz (tupObj its2) (.tup (ms.map V.int))) t1 = some (.frz (tupObj its1) (.tup pvs)) := same_upd ht2 _ _ upd_same
                have eA2 : upd (upd H11 t1 (.frz (tupObj its1) (.tup pvs))) t2 (.frz (tupObj its2) (.tup (ms.map V.int))) t2 = some (.frz (tupObj its2) (.tup (ms.map V.int))) := upd_same
                generalize upd (upd H11 t1 (.frz (tupObj its1) (.tup pvs))) t2 (.frz (tupObj its2) (.tup (ms.map V.int))) = H12 at sA eA1 eA2 ⊢
                have s1012 := s11.trans sA
                refine ⟨.ref t1, t2, i, fs, fn, ms, rfl, ⟨t1, pvs, rfl, .inl (.inr ⟨_, eA1⟩), Paired.mapP hfs10 fun _ _ q => q.same (sameI_of s1012)⟩, okp, hfn, .inl (.inr ⟨_, eA2⟩), okn, fun H13 t p q2 ys zs2 s13 nt np nq npq et ep eq hys hzs2 => ?_⟩
                have s1013 := s1012.trans s13
                refine ⟨_, rfl, _, rfl, D2, rfl, ⟨_, SqL.of (s1013 _ _ e10)⟩, fun D3 hD3 => ?_⟩
                refine lc_new (walk_list (K := K) (a := D2) (xs := [V.ref p0, V.ref p1])) (fun m y H => ∃ p ys, y = .ref p ∧ p ≠ D3 ∧ H p = some (.lst ys) ∧ ImAll K H ys (latOf (slotsOf (if m = 0 then fn.hd.1 else fn.hd.1 ++ [fn.kd])) ms))
                  (fun m y H H2 acc eD x ⟨p, ys, h1, h2, h3, h4⟩ => ⟨p, ys, h1, h2, x _ _ h2 h3, h4.same (x.i eD id)⟩) hD3 (fun H s => SqL.of (s _ _ (s1013 _ _ e10))) (by simp) ?_ ?_
                · rintro m v14 H14 H14' k hm s14 ⟨acc, eD⟩ ⟨rfl, hv⟩ hk
                  obtain ⟨pm, rfl, epm⟩ := eat hv
                  have s1014 := s1013.trans s14
                  refine ⟨rfl, _, rfl, _, rfl, pm, tl, true, _, ms, rfl, SqL.of (s1014 _ _ epm), SqL.of (s1014 _ _ e10t), lk m, okn.2.1, fun H15 p5 ys5 s15 n5 ep5 hys5 => ?_⟩
                  exact hk _ _ s15 ⟨p5, ys5, rfl, (fun z2 => by rw [z2, eD] at n5; cases n5), ep5, dp_claims (fun d hd => lat_mem hd) hys5⟩
                · rintro H14 acc s14 e14 l14 hE14
                  obtain ⟨r0, r1, ys0, ys1, rfl, er0, er1, hy0, hy1⟩ : ∃ r0 r1 ys0 ys1, acc = [.ref r0, .ref r1] ∧ H14 r0 = some (.lst ys0) ∧ H14 r1 = some (.lst ys1) ∧ ImAll K H14 ys0 (latOf (slotsOf fn.hd.1) ms) ∧ ImAll K H14 ys1 (latOf (slotsOf (fn.hd.1 ++ [fn.kd])) ms) := by
                    match acc, l14, hE14 with
                    | [x0, x1], _, hE =>
                      obtain ⟨r0, ys0, rfl, _, f0, g0⟩ := hE 0 x0 rfl
                      obtain ⟨r1, ys1, rfl, _, f1, g1⟩ := hE 1 x1 rfl
                      exact ⟨r0, r1, ys0, ys1, rfl, f0, f1, g0, g1⟩
                  refine ⟨D3, _, rfl, SqL.of e14, fun t3 its3 ht3 => ?_⟩
                  have sB := same_upd (o := .frz (tupObj its3) (.tup [.ref r0, .ref r1])) ht3
                  have eB : upd H14 t3 (.frz (tupObj its3) (.tup [.ref r0, .ref r1])) t3 = some (.frz (tupObj its3) (.tup [.ref r0, .ref r1])) := upd_same
                  generalize upd H14 t3 (.frz (tupObj its3) (.tup [.ref r0, .ref r1])) = H15 at sB eB ⊢
                  have s1315 := s14.trans sB
                  refine ⟨_, _, .tuple [.list (latOf (slotsOf fn.hd.1) ms), .list (latOf (slotsOf (fn.hd.1 ++ [fn.kd])) ms)], rfl,
                    .tup (.inl (.inl (s1315 _ _ et))) (.cons (.lst (SqL.of (s1315 _ _ ep)) (DpAll.same s1315 hys)) (.cons (.lst (SqL.of (s1315 _ _ eq)) (DpAll.same s1315 hzs2)) .nil)),
                    .tup (.inl (.inr ⟨_, eB⟩)) (.cons (.lst (SqL.of (sB _ _ er0)) (DpAll.same sB (ImAll.dp hy0))) (.cons (.lst (SqL.of (sB _ _ er1)) (DpAll.same sB (ImAll.dp hy1))) .nil)),
                    sized_two (sized_lat (ls 0) okn.2.1) (sized_lat (ls 1) okn.2.1), fun H16 s16 => ⟨true, rfl, iteF ?_⟩⟩
                  have s1316 := s1315.trans s16
                  have lys : ys.length ≤ 1000000 := by rw [DpAll.length hys]; exact lat_len (ls 0) okn.2.1
                  have et16 := s1316 _ _ et
                  have ep16 := s1316 _ _ ep
                  have eq16 := s1316 _ _ eq
                  have tp2 : t ≠ p := fun z2 => by rw [z2, ep] at et; cases et
                  refine ⟨_, rfl, t, _, 0, .ref p, rfl, rfl, .inl (.inl et16), atI_nat (j := 0) rfl, .inl ⟨rfl, _, SqL.of ep16⟩, by show 0 ≤ sizeLine; decide, fun z hz => ⟨p, ys, .ref z, rfl, rfl, same_upd hz _ _ ep16, smaller lys, ?_⟩⟩
                  have s17 := same_upd (o := .tup []) hz
                  generalize upd H16 z (.tup []) = H17 at s17 ⊢
                  refine ⟨_, rfl, t, _, 1, .ref q2, rfl, rfl, .inl (.inl (by rw [upd_ne tp2]; exact s17 _ _ et16)), atI_nat (j := 1) rfl, .inl ⟨rfl, _, SqL.of (by rw [upd_ne (fun z2 => npq z2.symm)]; exact s17 _ _ eq16)⟩, q2, zs2, rfl, rfl, by rw [upd_ne (fun z2 => npq z2.symm)]; exact s17 _ _ eq16, ?_⟩
                  exact ⟨_, _, rfl, Same.old (Same.old (s1013.trans (s1316.trans s17)) (s1012.free np)) (s1012.free nq)⟩
              · rintro σ H11 ⟨y11, y12, rfl, s11⟩
                refine ⟨_, rfl, D2, rfl, ⟨_, SqL.of (s11 _ _ e10)⟩, fun D3 hD3 => ?_⟩
                refine lc_new (walk_list (K := K) (a := D2) (xs := [V.ref p0, V.ref p1])) (fun m y H => ∃ p ys, y = .ref p ∧ p ≠ D3 ∧ H p = some (.lst ys) ∧ ImAll K H ys (latOf (slotsOf (if m = 0 then fn.hd.1 else fn.hd.1 ++ [fn.kd])) [-1, 0, 1]))
                  (fun m y H H2 acc eD x ⟨p, ys, h1, h2, h3, h4⟩ => ⟨p, ys, h1, h2, x _ _ h2 h3, h4.same (x.i eD id)⟩) hD3 (fun H s => SqL.of (s _ _ (s11 _ _ e10))) (by simp) ?_ ?_
                · rintro m v14 H14 H14' k hm s14 ⟨acc, eD⟩ ⟨rfl, hv⟩ hk
                  obtain ⟨pm, rfl, epm⟩ := eat hv
                  have s1014 := s11.trans s14
                  refine ⟨rfl, _, rfl, _, _, rfl, rfl, by show 3 ≤ sizeLine; decide, fun t4 ht4 => ?_⟩
                  have s15 := same_upd (o := .tup [.int (0 - 1), .int 0, .int 1]) ht4
                  refine ⟨pm, t4, false, _, [-1, 0, 1], rfl, SqL.of ((s1014.trans s15) _ _ epm), .inl (.inl upd_same), lk m, by decide, fun H15 p5 ys5 s16 n5 ep5 hys5 => ?_⟩
                  exact hk _ _ (s15.trans s16) ⟨p5, ys5, rfl, (fun z2 => by rw [z2, s15 _ _ eD] at n5; cases n5), ep5, dp_claims (fun d hd => lat_mem hd) hys5⟩
                · rintro H14 acc s14 e14 l14 hE14
                  obtain ⟨r0, r1, ys0, ys1, rfl, er0, er1, hy0, hy1⟩ : ∃ r0 r1 ys0 ys1, acc = [.ref r0, .ref r1] ∧ H14 r0 = some (.lst ys0) ∧ H14 r1 = some (.lst ys1) ∧ ImAll K H14 ys0 (latOf (slotsOf fn.hd.1) [-1, 0, 1]) ∧ ImAll K H14 ys1 (latOf (slotsOf (fn.hd.1 ++ [fn.kd])) [-1, 0, 1]) := by
                    match acc, l14, hE14 with
                    | [x0, x1], _, hE =>
                      obtain ⟨r0, ys0, rfl, _, f0, g0⟩ := hE 0 x0 rfl
                      obtain ⟨r1, ys1, rfl, _, f1, g1⟩ := hE 1 x1 rfl
                      exact ⟨r0, r1, ys0, ys1, rfl, f0, f1, g0, g1⟩
                  refine ⟨D3, _, rfl, SqL.of e14, fun t3 its3 ht3 => ?_⟩
                  have sB := same_upd (o := .frz (tupObj its3) (.tup [.ref r0, .ref r1])) ht3
                  have eB : upd H14 t3 (.frz (tupObj its3) (.tup [.ref r0, .ref r1])) t3 = some (.frz (tupObj its3) (.tup [.ref r0, .ref r1])) := upd_same
                  generalize upd H14 t3 (.frz (tupObj its3) (.tup [.ref r0, .ref r1])) = H15 at sB eB ⊢
                  have s1015 := s11.trans (s14.trans sB)
                  have ok3 : okNums [-1, 0, 1] := ⟨by decide, by decide, by decide, by decide⟩
                  refine ⟨_, rfl, pl, pvs, rfl, SqL.of (s1015 _ _ e10p), fun t1 its1 ht1 => ⟨_, rfl, ?_⟩⟩
                  have sA := same_upd (o := .frz (tupObj its1) (.tup pvs)) ht1
                  have eA1 : upd H15 t1 (.frz (tupObj its1) (.tup pvs)) t1 = some (.frz (tupObj its1) (.tup pvs)) := upd_same
                  generalize upd H15 t1 (.frz (tupObj its1) (.tup pvs)) = H16 at sA eA1 ⊢
                  have s1016 := s1015.trans sA
                  refine ⟨.ref t1, A.a_NUMBERS, i, fs, fn, [-1, 0, 1], rfl, ⟨t1, pvs, rfl, .inl (.inr ⟨_, eA1⟩), Paired.mapP hfs10 fun _ _ q => q.same (sameI_of s1016)⟩, okp, hfn, T.q_NUMBERS _, ok3, fun H17 t p q2 ys zs2 s17 nt np nq npq et ep eq hys hzs2 => ?_⟩
                  have sC := sB.trans (sA.trans s17)
                  refine ⟨_, rfl, _, _, .tuple [.list (latOf (slotsOf fn.hd.1) [-1, 0, 1]), .list (latOf (slotsOf (fn.hd.1 ++ [fn.kd])) [-1, 0, 1])], rfl,
                    .tup (.inl (.inl et)) (.cons (.lst (SqL.of ep) hys) (.cons (.lst (SqL.of eq) hzs2) .nil)),
                    .tup (.inl (.inr ⟨_, (sA.trans s17) _ _ eB⟩)) (.cons (.lst (SqL.of (sC _ _ er0)) (DpAll.same sC (ImAll.dp hy0))) (.cons (.lst (SqL.of (sC _ _ er1)) (DpAll.same sC (ImAll.dp hy1))) .nil)),
                    sized_two (sized_lat (ls 0) ok3.2.1) (sized_lat (ls 1) ok3.2.1), fun H18 s18 => ⟨true, rfl, iteF ?_⟩⟩
                  exact ⟨_, _, _, _, _, _, _, _, _, rfl, s710.trans (s1016.trans (s17.trans s18))⟩
          · rintro σ H8 ⟨y4, y5, y6, y7, y8, y10, y11, y12, y13, rfl, s8⟩
            exact ⟨_, _, _, _, _, _, _, _, _, _, _, _, rfl, s7.trans s8, dw7.step s8⟩
    · rintro σ H2 ⟨y2, y3, y4, y5, y6, y7, y8, y9, y10, y11, y12, y13, rfl, s2, dw2⟩
      refine ⟨_, _, rfl, rfl, by show 3 ≤ sizeLine; decide, fun t ht => ?_⟩
      have s3 := same_upd (o := .tup [.int (0 - 1), .int 0, .int 1]) ht
      refine ⟨_, _, .tuple [.int (-1), .int 0, .int 1], rfl, .tup (T.q_NUMBERS _) (.cons (.int _) (.cons (.int _) (.cons (.int _) .nil))), .tup (.inl (.inl upd_same)) (.cons (.int _) (.cons (.int _) (.cons (.int _) .nil))), .tup (by simp) (fun d hd => .sc ?_), fun H4 s4 => q H4⟩
      rcases List.mem_cons.mp hd with e | hd
      · rw [e]; exact True.intro
      · rcases List.mem_cons.mp hd with e | hd
        · rw [e]; exact True.intro
        · rw [List.mem_singleton.mp hd]; exact True.intro
end
end Cs
namespace Cs
open PySem PySem.Spec PyProof.Rows L2
theorem all_mk {l : PySem.W.OpenLaw} {w : World} {K : PySem.W.Frag} {h : Heap} {mg : Str → Option Value} {fa : Addr} (X : K.In h) (G : h.Ns mainGlobals mg) (hfa : mg "law" = some (.ref fa))
    {f_w_start : Addr} {oc_w_start dc_w_start pm_w_start cd_w_start ct_w_start kV_w_start : Value} {od_w_start an_w_start : Option Addr} {sl_w_start : Array (Option Value)}
    {f_w_same : Addr} {oc_w_same dc_w_same pm_w_same cd_w_same ct_w_same kV_w_same : Value} {od_w_same an_w_same : Option Addr} {sl_w_same : Array (Option Value)}
    {f_w_drawn : Addr} {oc_w_drawn dc_w_drawn pm_w_drawn cd_w_drawn ct_w_drawn kV_w_drawn : Value} {od_w_drawn an_w_drawn : Option Addr} {sl_w_drawn : Array (Option Value)}
    {f_w_kinds : Addr} {oc_w_kinds dc_w_kinds pm_w_kinds cd_w_kinds ct_w_kinds kV_w_kinds : Value} {od_w_kinds an_w_kinds : Option Addr} {sl_w_kinds : Array (Option Value)}
    {f_has_word : Addr} {oc_has_word dc_has_word pm_has_word cd_has_word ct_has_word kV_has_word : Value} {od_has_word an_has_word : Option Addr} {sl_has_word : Array (Option Value)}
    {f_is_row : Addr} {oc_is_row dc_is_row pm_is_row cd_is_row ct_is_row kV_is_row : Value} {od_is_row an_is_row : Option Addr} {sl_is_row : Array (Option Value)}
    {f_is_whole : Addr} {oc_is_whole dc_is_whole pm_is_whole cd_is_whole ct_is_whole kV_is_whole : Value} {od_is_whole an_is_whole : Option Addr} {sl_is_whole : Array (Option Value)}
    {f_is_between : Addr} {oc_is_between dc_is_between pm_is_between cd_is_between ct_is_between kV_is_between : Value} {od_is_between an_is_between : Option Addr} {sl_is_between : Array (Option Value)}
    {f_is_near : Addr} {oc_is_near dc_is_near pm_is_near cd_is_near ct_is_near kV_is_near : Value} {od_is_near an_is_near : Option Addr} {sl_is_near : Array (Option Value)}
    {f_stands : Addr} {oc_stands dc_stands pm_stands cd_stands ct_stands kV_stands : Value} {od_stands an_stands : Option Addr} {sl_stands : Array (Option Value)}
    {f_all_fit : Addr} {oc_all_fit dc_all_fit pm_all_fit cd_all_fit ct_all_fit kV_all_fit : Value} {od_all_fit an_all_fit : Option Addr} {sl_all_fit : Array (Option Value)}
    {f_kinds_ahead : Addr} {oc_kinds_ahead dc_kinds_ahead pm_kinds_ahead cd_kinds_ahead ct_kinds_ahead kV_kinds_ahead : Value} {od_kinds_ahead an_kinds_ahead : Option Addr} {sl_kinds_ahead : Array (Option Value)}
    {f_call_kind : Addr} {oc_call_kind dc_call_kind pm_call_kind cd_call_kind ct_call_kind kV_call_kind : Value} {od_call_kind an_call_kind : Option Addr} {sl_call_kind : Array (Option Value)}
    {f_deed_kind : Addr} {oc_deed_kind dc_deed_kind pm_deed_kind cd_deed_kind ct_deed_kind kV_deed_kind : Value} {od_deed_kind an_deed_kind : Option Addr} {sl_deed_kind : Array (Option Value)}
    {f_is_name : Addr} {oc_is_name dc_is_name pm_is_name cd_is_name ct_is_name kV_is_name : Value} {od_is_name an_is_name : Option Addr} {sl_is_name : Array (Option Value)}
    {f_within_let : Addr} {oc_within_let dc_within_let pm_within_let cd_within_let ct_within_let kV_within_let : Value} {od_within_let an_within_let : Option Addr} {sl_within_let : Array (Option Value)}
    {f_is_measure : Addr} {oc_is_measure dc_is_measure pm_is_measure cd_is_measure ct_is_measure kV_is_measure : Value} {od_is_measure an_is_measure : Option Addr} {sl_is_measure : Array (Option Value)}
    {f_is_compared : Addr} {oc_is_compared dc_is_compared pm_is_compared cd_is_compared ct_is_compared kV_is_compared : Value} {od_is_compared an_is_compared : Option Addr} {sl_is_compared : Array (Option Value)}
    {f_trees_within : Addr} {oc_trees_within dc_trees_within pm_trees_within cd_trees_within ct_trees_within kV_trees_within : Value} {od_trees_within an_trees_within : Option Addr} {sl_trees_within : Array (Option Value)}
    {f_check_trees : Addr} {oc_check_trees dc_check_trees pm_check_trees cd_check_trees ct_check_trees kV_check_trees : Value} {od_check_trees an_check_trees : Option Addr} {sl_check_trees : Array (Option Value)}
    {f_is_param : Addr} {oc_is_param dc_is_param pm_is_param cd_is_param ct_is_param kV_is_param : Value} {od_is_param an_is_param : Option Addr} {sl_is_param : Array (Option Value)}
    {f_is_headed : Addr} {oc_is_headed dc_is_headed pm_is_headed cd_is_headed ct_is_headed kV_is_headed : Value} {od_is_headed an_is_headed : Option Addr} {sl_is_headed : Array (Option Value)}
    {f_check_program : Addr} {oc_check_program dc_check_program pm_check_program cd_check_program ct_check_program kV_check_program : Value} {od_check_program an_check_program : Option Addr} {sl_check_program : Array (Option Value)}
    {f_check_function : Addr} {oc_check_function dc_check_function pm_check_function cd_check_function ct_check_function kV_check_function : Value} {od_check_function an_check_function : Option Addr} {sl_check_function : Array (Option Value)}
    {f_check_numbers : Addr} {oc_check_numbers dc_check_numbers pm_check_numbers cd_check_numbers ct_check_numbers kV_check_numbers : Value} {od_check_numbers an_check_numbers : Option Addr} {sl_check_numbers : Array (Option Value)}
    {f_slots : Addr} {oc_slots dc_slots pm_slots cd_slots ct_slots kV_slots : Value} {od_slots an_slots : Option Addr} {sl_slots : Array (Option Value)}
    {f_lattice : Addr} {oc_lattice dc_lattice pm_lattice cd_lattice ct_lattice kV_lattice : Value} {od_lattice an_lattice : Option Addr} {sl_lattice : Array (Option Value)}
    {f_kinds_behind : Addr} {oc_kinds_behind dc_kinds_behind pm_kinds_behind cd_kinds_behind ct_kinds_behind kV_kinds_behind : Value} {od_kinds_behind an_kinds_behind : Option Addr} {sl_kinds_behind : Array (Option Value)}
    {f_candidates : Addr} {oc_candidates dc_candidates pm_candidates cd_candidates ct_candidates : Value} {od_candidates an_candidates : Option Addr} {sl_candidates : Array (Option Value)}
    {D_candidates : Addr}
    {f_w_slots : Addr} {oc_w_slots dc_w_slots pm_w_slots cd_w_slots ct_w_slots kV_w_slots : Value} {od_w_slots an_w_slots : Option Addr} {sl_w_slots : Array (Option Value)}
    {f_w_lattice : Addr} {oc_w_lattice dc_w_lattice pm_w_lattice cd_w_lattice ct_w_lattice kV_w_lattice : Value} {od_w_lattice an_w_lattice : Option Addr} {sl_w_lattice : Array (Option Value)}
    {f_law : Addr} {oc_law dc_law pm_law cd_law ct_law kV_law : Value} {od_law an_law : Option Addr} {sl_law : Array (Option Value)}
    {x_DEEDS : Addr} {e_DEEDS : Array DictEntry} {n_DEEDS : Nat}
    {x_DEEDS_num : Addr} {d_DEEDS_num : Option Addr} {i_DEEDS_num : Array Value} {n_DEEDS_num : Nat} {o_DEEDS_num : Array (Option Value)}
    {x_DEEDS_num_0 : Addr} {d_DEEDS_num_0 : Option Addr} {i_DEEDS_num_0 : Array Value} {n_DEEDS_num_0 : Nat} {o_DEEDS_num_0 : Array (Option Value)}
    {x_DEEDS_sum : Addr} {d_DEEDS_sum : Option Addr} {i_DEEDS_sum : Array Value} {n_DEEDS_sum : Nat} {o_DEEDS_sum : Array (Option Value)}
    {x_DEEDS_sum_0 : Addr} {d_DEEDS_sum_0 : Option Addr} {i_DEEDS_sum_0 : Array Value} {n_DEEDS_sum_0 : Nat} {o_DEEDS_sum_0 : Array (Option Value)}
    {x_DEEDS_len : Addr} {d_DEEDS_len : Option Addr} {i_DEEDS_len : Array Value} {n_DEEDS_len : Nat} {o_DEEDS_len : Array (Option Value)}
    {x_DEEDS_len_0 : Addr} {d_DEEDS_len_0 : Option Addr} {i_DEEDS_len_0 : Array Value} {n_DEEDS_len_0 : Nat} {o_DEEDS_len_0 : Array (Option Value)}
    {x_DEEDS_nil : Addr} {d_DEEDS_nil : Option Addr} {i_DEEDS_nil : Array Value} {n_DEEDS_nil : Nat} {o_DEEDS_nil : Array (Option Value)}
    {x_DEEDS_nil_0 : Addr} {d_DEEDS_nil_0 : Option Addr} {i_DEEDS_nil_0 : Array Value} {n_DEEDS_nil_0 : Nat} {o_DEEDS_nil_0 : Array (Option Value)}
    {x_DEEDS_put : Addr} {d_DEEDS_put : Option Addr} {i_DEEDS_put : Array Value} {n_DEEDS_put : Nat} {o_DEEDS_put : Array (Option Value)}
    {x_DEEDS_put_0 : Addr} {d_DEEDS_put_0 : Option Addr} {i_DEEDS_put_0 : Array Value} {n_DEEDS_put_0 : Nat} {o_DEEDS_put_0 : Array (Option Value)}
    {x_DEEDS_head : Addr} {d_DEEDS_head : Option Addr} {i_DEEDS_head : Array Value} {n_DEEDS_head : Nat} {o_DEEDS_head : Array (Option Value)}
    {x_DEEDS_head_0 : Addr} {d_DEEDS_head_0 : Option Addr} {i_DEEDS_head_0 : Array Value} {n_DEEDS_head_0 : Nat} {o_DEEDS_head_0 : Array (Option Value)}
    {x_DEEDS_tail : Addr} {d_DEEDS_tail : Option Addr} {i_DEEDS_tail : Array Value} {n_DEEDS_tail : Nat} {o_DEEDS_tail : Array (Option Value)}
    {x_DEEDS_tail_0 : Addr} {d_DEEDS_tail_0 : Option Addr} {i_DEEDS_tail_0 : Array Value} {n_DEEDS_tail_0 : Nat} {o_DEEDS_tail_0 : Array (Option Value)}
    {x_DEEDS_at : Addr} {d_DEEDS_at : Option Addr} {i_DEEDS_at : Array Value} {n_DEEDS_at : Nat} {o_DEEDS_at : Array (Option Value)}
    {x_DEEDS_at_0 : Addr} {d_DEEDS_at_0 : Option Addr} {i_DEEDS_at_0 : Array Value} {n_DEEDS_at_0 : Nat} {o_DEEDS_at_0 : Array (Option Value)}
    {x_DEEDS_ask : Addr} {d_DEEDS_ask : Option Addr} {i_DEEDS_ask : Array Value} {n_DEEDS_ask : Nat} {o_DEEDS_ask : Array (Option Value)}
    {x_DEEDS_ask_0 : Addr} {d_DEEDS_ask_0 : Option Addr} {i_DEEDS_ask_0 : Array Value} {n_DEEDS_ask_0 : Nat} {o_DEEDS_ask_0 : Array (Option Value)}
    {k_FARTHEST : Tok}
    {k_FARTHEST_NUMBER : Tok}
    {x_KINDS : Addr} {d_KINDS : Option Addr} {i_KINDS : Array Value} {n_KINDS : Nat} {o_KINDS : Array (Option Value)}
    {x_MEASURES : Addr} {e_MEASURES : Array DictEntry} {n_MEASURES : Nat}
    {k_MEASURES_of : Tok}
    {k_MEASURES_len : Tok}
    {k_MOST_DEPTH : Tok}
    {k_MOST_FUNCTIONS : Tok}
    {k_MOST_NUMBERS : Tok}
    {k_MOST_PARAMS : Tok}
    {k_MOST_SIGNS : Tok}
    {k_MOST_TREES : Tok}
    {x_NUMBERS : Addr} {d_NUMBERS : Option Addr} {i_NUMBERS : Array Value} {n_NUMBERS : Nat} {o_NUMBERS : Array (Option Value)}
    {x_TREES : Addr} {e_TREES : Array DictEntry} {n_TREES : Nat}
    {k_TREES_let : Tok}
    {k_TREES_if : Tok}
    {k_TREES_claim : Tok}
    {k_TREES_tell : Tok}
    (a_w_start : PySem.W.nsIn K mainGlobals "_law_start" = some (some (.ref f_w_start)))
    (l_w_start : K.lookup f_w_start = some ⟨oc_w_start, od_w_start, .func (PySem.W.fnOf "_law_start" "_law_start" (defArgs s_w_start) (defBody s_w_start) (defScope s_w_start) .none kV_w_start dc_w_start pm_w_start an_w_start cd_w_start ct_w_start), sl_w_start⟩)
    (c_w_start : PySem.W.codeIn K cd_w_start "_law_start" = true)
    (k_w_start : PySem.W.keepIn K (.ref f_w_start) = true)
    (a_w_same : PySem.W.nsIn K mainGlobals "_law_same" = some (some (.ref f_w_same)))
    (l_w_same : K.lookup f_w_same = some ⟨oc_w_same, od_w_same, .func (PySem.W.fnOf "_law_same" "_law_same" (defArgs s_w_same) (defBody s_w_same) (defScope s_w_same) .none kV_w_same dc_w_same pm_w_same an_w_same cd_w_same ct_w_same), sl_w_same⟩)
    (c_w_same : PySem.W.codeIn K cd_w_same "_law_same" = true)
    (k_w_same : PySem.W.keepIn K (.ref f_w_same) = true)
    (a_w_drawn : PySem.W.nsIn K mainGlobals "_law_drawn" = some (some (.ref f_w_drawn)))
    (l_w_drawn : K.lookup f_w_drawn = some ⟨oc_w_drawn, od_w_drawn, .func (PySem.W.fnOf "_law_drawn" "_law_drawn" (defArgs s_w_drawn) (defBody s_w_drawn) (defScope s_w_drawn) .none kV_w_drawn dc_w_drawn pm_w_drawn an_w_drawn cd_w_drawn ct_w_drawn), sl_w_drawn⟩)
    (c_w_drawn : PySem.W.codeIn K cd_w_drawn "_law_drawn" = true)
    (k_w_drawn : PySem.W.keepIn K (.ref f_w_drawn) = true)
    (a_w_kinds : PySem.W.nsIn K mainGlobals "_law_kinds" = some (some (.ref f_w_kinds)))
    (l_w_kinds : K.lookup f_w_kinds = some ⟨oc_w_kinds, od_w_kinds, .func (PySem.W.fnOf "_law_kinds" "_law_kinds" (defArgs s_w_kinds) (defBody s_w_kinds) (defScope s_w_kinds) .none kV_w_kinds dc_w_kinds pm_w_kinds an_w_kinds cd_w_kinds ct_w_kinds), sl_w_kinds⟩)
    (c_w_kinds : PySem.W.codeIn K cd_w_kinds "_law_kinds" = true)
    (k_w_kinds : PySem.W.keepIn K (.ref f_w_kinds) = true)
    (a_has_word : PySem.W.nsIn K mainGlobals "has_word" = some (some (.ref f_has_word)))
    (l_has_word : K.lookup f_has_word = some ⟨oc_has_word, od_has_word, .func (PySem.W.fnOf "has_word" "has_word" (defArgs s_has_word) (defBody s_has_word) (defScope s_has_word) .none kV_has_word dc_has_word pm_has_word an_has_word cd_has_word ct_has_word), sl_has_word⟩)
    (c_has_word : PySem.W.codeIn K cd_has_word "has_word" = true)
    (k_has_word : PySem.W.keepIn K (.ref f_has_word) = true)
    (a_is_row : PySem.W.nsIn K mainGlobals "is_row" = some (some (.ref f_is_row)))
    (l_is_row : K.lookup f_is_row = some ⟨oc_is_row, od_is_row, .func (PySem.W.fnOf "is_row" "is_row" (defArgs s_is_row) (defBody s_is_row) (defScope s_is_row) .none kV_is_row dc_is_row pm_is_row an_is_row cd_is_row ct_is_row), sl_is_row⟩)
    (c_is_row : PySem.W.codeIn K cd_is_row "is_row" = true)
    (k_is_row : PySem.W.keepIn K (.ref f_is_row) = true)
    (a_is_whole : PySem.W.nsIn K mainGlobals "is_whole" = some (some (.ref f_is_whole)))
    (l_is_whole : K.lookup f_is_whole = some ⟨oc_is_whole, od_is_whole, .func (PySem.W.fnOf "is_whole" "is_whole" (defArgs s_is_whole) (defBody s_is_whole) (defScope s_is_whole) .none kV_is_whole dc_is_whole pm_is_whole an_is_whole cd_is_whole ct_is_whole), sl_is_whole⟩)
    (c_is_whole : PySem.W.codeIn K cd_is_whole "is_whole" = true)
    (k_is_whole : PySem.W.keepIn K (.ref f_is_whole) = true)
    (a_is_between : PySem.W.nsIn K mainGlobals "is_between" = some (some (.ref f_is_between)))
    (l_is_between : K.lookup f_is_between = some ⟨oc_is_between, od_is_between, .func (PySem.W.fnOf "is_between" "is_between" (defArgs s_is_between) (defBody s_is_between) (defScope s_is_between) .none kV_is_between dc_is_between pm_is_between an_is_between cd_is_between ct_is_between), sl_is_between⟩)
    (c_is_between : PySem.W.codeIn K cd_is_between "is_between" = true)
    (k_is_between : PySem.W.keepIn K (.ref f_is_between) = true)
    (a_is_near : PySem.W.nsIn K mainGlobals "is_near" = some (some (.ref f_is_near)))
    (l_is_near : K.lookup f_is_near = some ⟨oc_is_near, od_is_near, .func (PySem.W.fnOf "is_near" "is_near" (defArgs s_is_near) (defBody s_is_near) (defScope s_is_near) .none kV_is_near dc_is_near pm_is_near an_is_near cd_is_near ct_is_near), sl_is_near⟩)
    (c_is_near : PySem.W.codeIn K cd_is_near "is_near" = true)
    (k_is_near : PySem.W.keepIn K (.ref f_is_near) = true)
    (a_stands : PySem.W.nsIn K mainGlobals "stands" = some (some (.ref f_stands)))
    (l_stands : K.lookup f_stands = some ⟨oc_stands, od_stands, .func (PySem.W.fnOf "stands" "stands" (defArgs s_stands) (defBody s_stands) (defScope s_stands) .none kV_stands dc_stands pm_stands an_stands cd_stands ct_stands), sl_stands⟩)
    (c_stands : PySem.W.codeIn K cd_stands "stands" = true)
    (k_stands : PySem.W.keepIn K (.ref f_stands) = true)
    (a_all_fit : PySem.W.nsIn K mainGlobals "all_fit" = some (some (.ref f_all_fit)))
    (l_all_fit : K.lookup f_all_fit = some ⟨oc_all_fit, od_all_fit, .func (PySem.W.fnOf "all_fit" "all_fit" (defArgs s_all_fit) (defBody s_all_fit) (defScope s_all_fit) .none kV_all_fit dc_all_fit pm_all_fit an_all_fit cd_all_fit ct_all_fit), sl_all_fit⟩)
    (c_all_fit : PySem.W.codeIn K cd_all_fit "all_fit" = true)
    (k_all_fit : PySem.W.keepIn K (.ref f_all_fit) = true)
    (a_kinds_ahead : PySem.W.nsIn K mainGlobals "kinds_ahead" = some (some (.ref f_kinds_ahead)))
    (l_kinds_ahead : K.lookup f_kinds_ahead = some ⟨oc_kinds_ahead, od_kinds_ahead, .func (PySem.W.fnOf "kinds_ahead" "kinds_ahead" (defArgs s_kinds_ahead) (defBody s_kinds_ahead) (defScope s_kinds_ahead) .none kV_kinds_ahead dc_kinds_ahead pm_kinds_ahead an_kinds_ahead cd_kinds_ahead ct_kinds_ahead), sl_kinds_ahead⟩)
    (c_kinds_ahead : PySem.W.codeIn K cd_kinds_ahead "kinds_ahead" = true)
    (k_kinds_ahead : PySem.W.keepIn K (.ref f_kinds_ahead) = true)
    (a_call_kind : PySem.W.nsIn K mainGlobals "call_kind" = some (some (.ref f_call_kind)))
    (l_call_kind : K.lookup f_call_kind = some ⟨oc_call_kind, od_call_kind, .func (PySem.W.fnOf "call_kind" "call_kind" (defArgs s_call_kind) (defBody s_call_kind) (defScope s_call_kind) .none kV_call_kind dc_call_kind pm_call_kind an_call_kind cd_call_kind ct_call_kind), sl_call_kind⟩)
    (c_call_kind : PySem.W.codeIn K cd_call_kind "call_kind" = true)
    (k_call_kind : PySem.W.keepIn K (.ref f_call_kind) = true)
    (a_deed_kind : PySem.W.nsIn K mainGlobals "deed_kind" = some (some (.ref f_deed_kind)))
    (l_deed_kind : K.lookup f_deed_kind = some ⟨oc_deed_kind, od_deed_kind, .func (PySem.W.fnOf "deed_kind" "deed_kind" (defArgs s_deed_kind) (defBody s_deed_kind) (defScope s_deed_kind) .none kV_deed_kind dc_deed_kind pm_deed_kind an_deed_kind cd_deed_kind ct_deed_kind), sl_deed_kind⟩)
    (c_deed_kind : PySem.W.codeIn K cd_deed_kind "deed_kind" = true)
    (k_deed_kind : PySem.W.keepIn K (.ref f_deed_kind) = true)
    (a_is_name : PySem.W.nsIn K mainGlobals "is_name" = some (some (.ref f_is_name)))
    (l_is_name : K.lookup f_is_name = some ⟨oc_is_name, od_is_name, .func (PySem.W.fnOf "is_name" "is_name" (defArgs s_is_name) (defBody s_is_name) (defScope s_is_name) .none kV_is_name dc_is_name pm_is_name an_is_name cd_is_name ct_is_name), sl_is_name⟩)
    (c_is_name : PySem.W.codeIn K cd_is_name "is_name" = true)
    (k_is_name : PySem.W.keepIn K (.ref f_is_name) = true)
    (a_within_let : PySem.W.nsIn K mainGlobals "within_let" = some (some (.ref f_within_let)))
    (l_within_let : K.lookup f_within_let = some ⟨oc_within_let, od_within_let, .func (PySem.W.fnOf "within_let" "within_let" (defArgs s_within_let) (defBody s_within_let) (defScope s_within_let) .none kV_within_let dc_within_let pm_within_let an_within_let cd_within_let ct_within_let), sl_within_let⟩)
    (c_within_let : PySem.W.codeIn K cd_within_let "within_let" = true)
    (k_within_let : PySem.W.keepIn K (.ref f_within_let) = true)
    (a_is_measure : PySem.W.nsIn K mainGlobals "is_measure" = some (some (.ref f_is_measure)))
    (l_is_measure : K.lookup f_is_measure = some ⟨oc_is_measure, od_is_measure, .func (PySem.W.fnOf "is_measure" "is_measure" (defArgs s_is_measure) (defBody s_is_measure) (defScope s_is_measure) .none kV_is_measure dc_is_measure pm_is_measure an_is_measure cd_is_measure ct_is_measure), sl_is_measure⟩)
    (c_is_measure : PySem.W.codeIn K cd_is_measure "is_measure" = true)
    (k_is_measure : PySem.W.keepIn K (.ref f_is_measure) = true)
    (a_is_compared : PySem.W.nsIn K mainGlobals "is_compared" = some (some (.ref f_is_compared)))
    (l_is_compared : K.lookup f_is_compared = some ⟨oc_is_compared, od_is_compared, .func (PySem.W.fnOf "is_compared" "is_compared" (defArgs s_is_compared) (defBody s_is_compared) (defScope s_is_compared) .none kV_is_compared dc_is_compared pm_is_compared an_is_compared cd_is_compared ct_is_compared), sl_is_compared⟩)
    (c_is_compared : PySem.W.codeIn K cd_is_compared "is_compared" = true)
    (k_is_compared : PySem.W.keepIn K (.ref f_is_compared) = true)
    (a_trees_within : PySem.W.nsIn K mainGlobals "trees_within" = some (some (.ref f_trees_within)))
    (l_trees_within : K.lookup f_trees_within = some ⟨oc_trees_within, od_trees_within, .func (PySem.W.fnOf "trees_within" "trees_within" (defArgs s_trees_within) (defBody s_trees_within) (defScope s_trees_within) .none kV_trees_within dc_trees_within pm_trees_within an_trees_within cd_trees_within ct_trees_within), sl_trees_within⟩)
    (c_trees_within : PySem.W.codeIn K cd_trees_within "trees_within" = true)
    (k_trees_within : PySem.W.keepIn K (.ref f_trees_within) = true)
    (a_check_trees : PySem.W.nsIn K mainGlobals "check_trees" = some (some (.ref f_check_trees)))
    (l_check_trees : K.lookup f_check_trees = some ⟨oc_check_trees, od_check_trees, .func (PySem.W.fnOf "check_trees" "check_trees" (defArgs s_check_trees) (defBody s_check_trees) (defScope s_check_trees) .none kV_check_trees dc_check_trees pm_check_trees an_check_trees cd_check_trees ct_check_trees), sl_check_trees⟩)
    (c_check_trees : PySem.W.codeIn K cd_check_trees "check_trees" = true)
    (k_check_trees : PySem.W.keepIn K (.ref f_check_trees) = true)
    (a_is_param : PySem.W.nsIn K mainGlobals "is_param" = some (some (.ref f_is_param)))
    (l_is_param : K.lookup f_is_param = some ⟨oc_is_param, od_is_param, .func (PySem.W.fnOf "is_param" "is_param" (defArgs s_is_param) (defBody s_is_param) (defScope s_is_param) .none kV_is_param dc_is_param pm_is_param an_is_param cd_is_param ct_is_param), sl_is_param⟩)
    (c_is_param : PySem.W.codeIn K cd_is_param "is_param" = true)
    (k_is_param : PySem.W.keepIn K (.ref f_is_param) = true)
    (a_is_headed : PySem.W.nsIn K mainGlobals "is_headed" = some (some (.ref f_is_headed)))
    (l_is_headed : K.lookup f_is_headed = some ⟨oc_is_headed, od_is_headed, .func (PySem.W.fnOf "is_headed" "is_headed" (defArgs s_is_headed) (defBody s_is_headed) (defScope s_is_headed) .none kV_is_headed dc_is_headed pm_is_headed an_is_headed cd_is_headed ct_is_headed), sl_is_headed⟩)
    (c_is_headed : PySem.W.codeIn K cd_is_headed "is_headed" = true)
    (k_is_headed : PySem.W.keepIn K (.ref f_is_headed) = true)
    (a_check_program : PySem.W.nsIn K mainGlobals "check_program" = some (some (.ref f_check_program)))
    (l_check_program : K.lookup f_check_program = some ⟨oc_check_program, od_check_program, .func (PySem.W.fnOf "check_program" "check_program" (defArgs s_check_program) (defBody s_check_program) (defScope s_check_program) .none kV_check_program dc_check_program pm_check_program an_check_program cd_check_program ct_check_program), sl_check_program⟩)
    (c_check_program : PySem.W.codeIn K cd_check_program "check_program" = true)
    (k_check_program : PySem.W.keepIn K (.ref f_check_program) = true)
    (a_check_function : PySem.W.nsIn K mainGlobals "check_function" = some (some (.ref f_check_function)))
    (l_check_function : K.lookup f_check_function = some ⟨oc_check_function, od_check_function, .func (PySem.W.fnOf "check_function" "check_function" (defArgs s_check_function) (defBody s_check_function) (defScope s_check_function) .none kV_check_function dc_check_function pm_check_function an_check_function cd_check_function ct_check_function), sl_check_function⟩)
    (c_check_function : PySem.W.codeIn K cd_check_function "check_function" = true)
    (k_check_function : PySem.W.keepIn K (.ref f_check_function) = true)
    (a_check_numbers : PySem.W.nsIn K mainGlobals "check_numbers" = some (some (.ref f_check_numbers)))
    (l_check_numbers : K.lookup f_check_numbers = some ⟨oc_check_numbers, od_check_numbers, .func (PySem.W.fnOf "check_numbers" "check_numbers" (defArgs s_check_numbers) (defBody s_check_numbers) (defScope s_check_numbers) .none kV_check_numbers dc_check_numbers pm_check_numbers an_check_numbers cd_check_numbers ct_check_numbers), sl_check_numbers⟩)
    (c_check_numbers : PySem.W.codeIn K cd_check_numbers "check_numbers" = true)
    (k_check_numbers : PySem.W.keepIn K (.ref f_check_numbers) = true)
    (a_slots : PySem.W.nsIn K mainGlobals "slots" = some (some (.ref f_slots)))
    (l_slots : K.lookup f_slots = some ⟨oc_slots, od_slots, .func (PySem.W.fnOf "slots" "slots" (defArgs s_slots) (defBody s_slots) (defScope s_slots) .none kV_slots dc_slots pm_slots an_slots cd_slots ct_slots), sl_slots⟩)
    (c_slots : PySem.W.codeIn K cd_slots "slots" = true)
    (k_slots : PySem.W.keepIn K (.ref f_slots) = true)
    (a_lattice : PySem.W.nsIn K mainGlobals "lattice" = some (some (.ref f_lattice)))
    (l_lattice : K.lookup f_lattice = some ⟨oc_lattice, od_lattice, .func (PySem.W.fnOf "lattice" "lattice" (defArgs s_lattice) (defBody s_lattice) (defScope s_lattice) .none kV_lattice dc_lattice pm_lattice an_lattice cd_lattice ct_lattice), sl_lattice⟩)
    (c_lattice : PySem.W.codeIn K cd_lattice "lattice" = true)
    (k_lattice : PySem.W.keepIn K (.ref f_lattice) = true)
    (a_kinds_behind : PySem.W.nsIn K mainGlobals "kinds_behind" = some (some (.ref f_kinds_behind)))
    (l_kinds_behind : K.lookup f_kinds_behind = some ⟨oc_kinds_behind, od_kinds_behind, .func (PySem.W.fnOf "kinds_behind" "kinds_behind" (defArgs s_kinds_behind) (defBody s_kinds_behind) (defScope s_kinds_behind) .none kV_kinds_behind dc_kinds_behind pm_kinds_behind an_kinds_behind cd_kinds_behind ct_kinds_behind), sl_kinds_behind⟩)
    (c_kinds_behind : PySem.W.codeIn K cd_kinds_behind "kinds_behind" = true)
    (k_kinds_behind : PySem.W.keepIn K (.ref f_kinds_behind) = true)
    (a_candidates : PySem.W.nsIn K mainGlobals "candidates" = some (some (.ref f_candidates)))
    (l_candidates : K.lookup f_candidates = some ⟨oc_candidates, od_candidates, .func (PySem.W.fnOf "candidates" "candidates" (defArgs s_candidates) (defBody s_candidates) (defScope s_candidates) .none (.ref D_candidates) dc_candidates pm_candidates an_candidates cd_candidates ct_candidates), sl_candidates⟩)
    (c_candidates : PySem.W.codeIn K cd_candidates "candidates" = true)
    (k_candidates : PySem.W.keepIn K (.ref f_candidates) = true)
    (w_candidates_numbers : PySem.W.nsIn K D_candidates "numbers" = some (some (.ref x_NUMBERS)))
    (a_w_slots : PySem.W.nsIn K mainGlobals "_law_slots" = some (some (.ref f_w_slots)))
    (l_w_slots : K.lookup f_w_slots = some ⟨oc_w_slots, od_w_slots, .func (PySem.W.fnOf "_law_slots" "_law_slots" (defArgs s_w_slots) (defBody s_w_slots) (defScope s_w_slots) .none kV_w_slots dc_w_slots pm_w_slots an_w_slots cd_w_slots ct_w_slots), sl_w_slots⟩)
    (c_w_slots : PySem.W.codeIn K cd_w_slots "_law_slots" = true)
    (k_w_slots : PySem.W.keepIn K (.ref f_w_slots) = true)
    (a_w_lattice : PySem.W.nsIn K mainGlobals "_law_lattice" = some (some (.ref f_w_lattice)))
    (l_w_lattice : K.lookup f_w_lattice = some ⟨oc_w_lattice, od_w_lattice, .func (PySem.W.fnOf "_law_lattice" "_law_lattice" (defArgs s_w_lattice) (defBody s_w_lattice) (defScope s_w_lattice) .none kV_w_lattice dc_w_lattice pm_w_lattice an_w_lattice cd_w_lattice ct_w_lattice), sl_w_lattice⟩)
    (c_w_lattice : PySem.W.codeIn K cd_w_lattice "_law_lattice" = true)
    (k_w_lattice : PySem.W.keepIn K (.ref f_w_lattice) = true)
    (a_law : PySem.W.nsIn K mainGlobals "law" = some (some (.ref f_law)))
    (l_law : K.lookup f_law = some ⟨oc_law, od_law, .func (PySem.W.fnOf "law" "law" (defArgs s_law) (defBody s_law) (defScope s_law) .none kV_law dc_law pm_law an_law cd_law ct_law), sl_law⟩)
    (c_law : PySem.W.codeIn K cd_law "law" = true)
    (k_law : PySem.W.keepIn K (.ref f_law) = true)
    (n_all : PySem.W.nsIn K mainGlobals "all" = some none)
    (n_bool : PySem.W.nsIn K mainGlobals "bool" = some none)
    (n_dict : PySem.W.nsIn K mainGlobals "dict" = some none)
    (n_enumerate : PySem.W.nsIn K mainGlobals "enumerate" = some none)
    (n_int : PySem.W.nsIn K mainGlobals "int" = some none)
    (n_isinstance : PySem.W.nsIn K mainGlobals "isinstance" = some none)
    (n_len : PySem.W.nsIn K mainGlobals "len" = some none)
    (n_list : PySem.W.nsIn K mainGlobals "list" = some none)
    (n_range : PySem.W.nsIn K mainGlobals "range" = some none)
    (n_reversed : PySem.W.nsIn K mainGlobals "reversed" = some none)
    (n_set : PySem.W.nsIn K mainGlobals "set" = some none)
    (n_sorted : PySem.W.nsIn K mainGlobals "sorted" = some none)
    (n_str : PySem.W.nsIn K mainGlobals "str" = some none)
    (n_tuple : PySem.W.nsIn K mainGlobals "tuple" = some none)
    (n_zip : PySem.W.nsIn K mainGlobals "zip" = some none)
    (m_DEEDS : PySem.W.nsIn K mainGlobals "DEEDS" = some (some (.ref x_DEEDS)))
    (t_DEEDS : K.lookup x_DEEDS = some ⟨.type "dict", none, .dict e_DEEDS n_DEEDS, #[]⟩)
    (v_DEEDS : PySem.W.KeysLit w.params e_DEEDS.toList)
    (z_DEEDS : (x_DEEDS == sysModules) = false)
    (y_DEEDS_num : PySem.W.nsIn K x_DEEDS "num" = some (some (.ref x_DEEDS_num)))
    (t_DEEDS_num : K.lookup x_DEEDS_num = some ⟨.type "tuple", d_DEEDS_num, .seq i_DEEDS_num n_DEEDS_num, o_DEEDS_num⟩)
    (v_DEEDS_num : Vals [.ref x_DEEDS_num_0, .str "number"] i_DEEDS_num.toList)
    (z_DEEDS_num : i_DEEDS_num.size ≤ 1000000)
    (t_DEEDS_num_0 : K.lookup x_DEEDS_num_0 = some ⟨.type "tuple", d_DEEDS_num_0, .seq i_DEEDS_num_0 n_DEEDS_num_0, o_DEEDS_num_0⟩)
    (v_DEEDS_num_0 : Vals [.str "n"] i_DEEDS_num_0.toList)
    (z_DEEDS_num_0 : i_DEEDS_num_0.size ≤ 1000000)
    (y_DEEDS_sum : PySem.W.nsIn K x_DEEDS "sum" = some (some (.ref x_DEEDS_sum)))
    (t_DEEDS_sum : K.lookup x_DEEDS_sum = some ⟨.type "tuple", d_DEEDS_sum, .seq i_DEEDS_sum n_DEEDS_sum, o_DEEDS_sum⟩)
    (v_DEEDS_sum : Vals [.ref x_DEEDS_sum_0, .str "number"] i_DEEDS_sum.toList)
    (z_DEEDS_sum : i_DEEDS_sum.size ≤ 1000000)
    (t_DEEDS_sum_0 : K.lookup x_DEEDS_sum_0 = some ⟨.type "tuple", d_DEEDS_sum_0, .seq i_DEEDS_sum_0 n_DEEDS_sum_0, o_DEEDS_sum_0⟩)
    (v_DEEDS_sum_0 : Vals [.str "number", .str "n"] i_DEEDS_sum_0.toList)
    (z_DEEDS_sum_0 : i_DEEDS_sum_0.size ≤ 1000000)
    (y_DEEDS_len : PySem.W.nsIn K x_DEEDS "len" = some (some (.ref x_DEEDS_len)))
    (t_DEEDS_len : K.lookup x_DEEDS_len = some ⟨.type "tuple", d_DEEDS_len, .seq i_DEEDS_len n_DEEDS_len, o_DEEDS_len⟩)
    (v_DEEDS_len : Vals [.ref x_DEEDS_len_0, .str "number"] i_DEEDS_len.toList)
    (z_DEEDS_len : i_DEEDS_len.size ≤ 1000000)
    (t_DEEDS_len_0 : K.lookup x_DEEDS_len_0 = some ⟨.type "tuple", d_DEEDS_len_0, .seq i_DEEDS_len_0 n_DEEDS_len_0, o_DEEDS_len_0⟩)
    (v_DEEDS_len_0 : Vals [.str "list"] i_DEEDS_len_0.toList)
    (z_DEEDS_len_0 : i_DEEDS_len_0.size ≤ 1000000)
    (y_DEEDS_nil : PySem.W.nsIn K x_DEEDS "nil" = some (some (.ref x_DEEDS_nil)))
    (t_DEEDS_nil : K.lookup x_DEEDS_nil = some ⟨.type "tuple", d_DEEDS_nil, .seq i_DEEDS_nil n_DEEDS_nil, o_DEEDS_nil⟩)
    (v_DEEDS_nil : Vals [.ref x_DEEDS_nil_0, .str "list"] i_DEEDS_nil.toList)
    (z_DEEDS_nil : i_DEEDS_nil.size ≤ 1000000)
    (t_DEEDS_nil_0 : K.lookup x_DEEDS_nil_0 = some ⟨.type "tuple", d_DEEDS_nil_0, .seq i_DEEDS_nil_0 n_DEEDS_nil_0, o_DEEDS_nil_0⟩)
    (v_DEEDS_nil_0 : Vals [] i_DEEDS_nil_0.toList)
    (z_DEEDS_nil_0 : i_DEEDS_nil_0.size ≤ 1000000)
    (y_DEEDS_put : PySem.W.nsIn K x_DEEDS "put" = some (some (.ref x_DEEDS_put)))
    (t_DEEDS_put : K.lookup x_DEEDS_put = some ⟨.type "tuple", d_DEEDS_put, .seq i_DEEDS_put n_DEEDS_put, o_DEEDS_put⟩)
    (v_DEEDS_put : Vals [.ref x_DEEDS_put_0, .str "list"] i_DEEDS_put.toList)
    (z_DEEDS_put : i_DEEDS_put.size ≤ 1000000)
    (t_DEEDS_put_0 : K.lookup x_DEEDS_put_0 = some ⟨.type "tuple", d_DEEDS_put_0, .seq i_DEEDS_put_0 n_DEEDS_put_0, o_DEEDS_put_0⟩)
    (v_DEEDS_put_0 : Vals [.str "number", .str "list"] i_DEEDS_put_0.toList)
    (z_DEEDS_put_0 : i_DEEDS_put_0.size ≤ 1000000)
    (y_DEEDS_head : PySem.W.nsIn K x_DEEDS "head" = some (some (.ref x_DEEDS_head)))
    (t_DEEDS_head : K.lookup x_DEEDS_head = some ⟨.type "tuple", d_DEEDS_head, .seq i_DEEDS_head n_DEEDS_head, o_DEEDS_head⟩)
    (v_DEEDS_head : Vals [.ref x_DEEDS_head_0, .str "number"] i_DEEDS_head.toList)
    (z_DEEDS_head : i_DEEDS_head.size ≤ 1000000)
    (t_DEEDS_head_0 : K.lookup x_DEEDS_head_0 = some ⟨.type "tuple", d_DEEDS_head_0, .seq i_DEEDS_head_0 n_DEEDS_head_0, o_DEEDS_head_0⟩)
    (v_DEEDS_head_0 : Vals [.str "list"] i_DEEDS_head_0.toList)
    (z_DEEDS_head_0 : i_DEEDS_head_0.size ≤ 1000000)
    (y_DEEDS_tail : PySem.W.nsIn K x_DEEDS "tail" = some (some (.ref x_DEEDS_tail)))
    (t_DEEDS_tail : K.lookup x_DEEDS_tail = some ⟨.type "tuple", d_DEEDS_tail, .seq i_DEEDS_tail n_DEEDS_tail, o_DEEDS_tail⟩)
    (v_DEEDS_tail : Vals [.ref x_DEEDS_tail_0, .str "list"] i_DEEDS_tail.toList)
    (z_DEEDS_tail : i_DEEDS_tail.size ≤ 1000000)
    (t_DEEDS_tail_0 : K.lookup x_DEEDS_tail_0 = some ⟨.type "tuple", d_DEEDS_tail_0, .seq i_DEEDS_tail_0 n_DEEDS_tail_0, o_DEEDS_tail_0⟩)
    (v_DEEDS_tail_0 : Vals [.str "list"] i_DEEDS_tail_0.toList)
    (z_DEEDS_tail_0 : i_DEEDS_tail_0.size ≤ 1000000)
    (y_DEEDS_at : PySem.W.nsIn K x_DEEDS "at" = some (some (.ref x_DEEDS_at)))
    (t_DEEDS_at : K.lookup x_DEEDS_at = some ⟨.type "tuple", d_DEEDS_at, .seq i_DEEDS_at n_DEEDS_at, o_DEEDS_at⟩)
    (v_DEEDS_at : Vals [.ref x_DEEDS_at_0, .str "number"] i_DEEDS_at.toList)
    (z_DEEDS_at : i_DEEDS_at.size ≤ 1000000)
    (t_DEEDS_at_0 : K.lookup x_DEEDS_at_0 = some ⟨.type "tuple", d_DEEDS_at_0, .seq i_DEEDS_at_0 n_DEEDS_at_0, o_DEEDS_at_0⟩)
    (v_DEEDS_at_0 : Vals [.str "list", .str "number"] i_DEEDS_at_0.toList)
    (z_DEEDS_at_0 : i_DEEDS_at_0.size ≤ 1000000)
    (y_DEEDS_ask : PySem.W.nsIn K x_DEEDS "ask" = some (some (.ref x_DEEDS_ask)))
    (t_DEEDS_ask : K.lookup x_DEEDS_ask = some ⟨.type "tuple", d_DEEDS_ask, .seq i_DEEDS_ask n_DEEDS_ask, o_DEEDS_ask⟩)
    (v_DEEDS_ask : Vals [.ref x_DEEDS_ask_0, .str "number"] i_DEEDS_ask.toList)
    (z_DEEDS_ask : i_DEEDS_ask.size ≤ 1000000)
    (t_DEEDS_ask_0 : K.lookup x_DEEDS_ask_0 = some ⟨.type "tuple", d_DEEDS_ask_0, .seq i_DEEDS_ask_0 n_DEEDS_ask_0, o_DEEDS_ask_0⟩)
    (v_DEEDS_ask_0 : Vals [] i_DEEDS_ask_0.toList)
    (z_DEEDS_ask_0 : i_DEEDS_ask_0.size ≤ 1000000)
    (m_FARTHEST : PySem.W.nsIn K mainGlobals "FARTHEST" = some (some (.int 99 k_FARTHEST)))
    (m_FARTHEST_NUMBER : PySem.W.nsIn K mainGlobals "FARTHEST_NUMBER" = some (some (.int 9 k_FARTHEST_NUMBER)))
    (m_KINDS : PySem.W.nsIn K mainGlobals "KINDS" = some (some (.ref x_KINDS)))
    (t_KINDS : K.lookup x_KINDS = some ⟨.type "tuple", d_KINDS, .seq i_KINDS n_KINDS, o_KINDS⟩)
    (v_KINDS : Vals [.str "number", .str "list"] i_KINDS.toList)
    (z_KINDS : i_KINDS.size ≤ 1000000)
    (m_MEASURES : PySem.W.nsIn K mainGlobals "MEASURES" = some (some (.ref x_MEASURES)))
    (t_MEASURES : K.lookup x_MEASURES = some ⟨.type "dict", none, .dict e_MEASURES n_MEASURES, #[]⟩)
    (v_MEASURES : PySem.W.KeysLit w.params e_MEASURES.toList)
    (z_MEASURES : (x_MEASURES == sysModules) = false)
    (y_MEASURES_of : PySem.W.nsIn K x_MEASURES "of" = some (some (.str "number" k_MEASURES_of)))
    (y_MEASURES_len : PySem.W.nsIn K x_MEASURES "len" = some (some (.str "list" k_MEASURES_len)))
    (m_MOST_DEPTH : PySem.W.nsIn K mainGlobals "MOST_DEPTH" = some (some (.int 20 k_MOST_DEPTH)))
    (m_MOST_FUNCTIONS : PySem.W.nsIn K mainGlobals "MOST_FUNCTIONS" = some (some (.int 6 k_MOST_FUNCTIONS)))
    (m_MOST_NUMBERS : PySem.W.nsIn K mainGlobals "MOST_NUMBERS" = some (some (.int 5 k_MOST_NUMBERS)))
    (m_MOST_PARAMS : PySem.W.nsIn K mainGlobals "MOST_PARAMS" = some (some (.int 4 k_MOST_PARAMS)))
    (m_MOST_SIGNS : PySem.W.nsIn K mainGlobals "MOST_SIGNS" = some (some (.int 8 k_MOST_SIGNS)))
    (m_MOST_TREES : PySem.W.nsIn K mainGlobals "MOST_TREES" = some (some (.int 60 k_MOST_TREES)))
    (m_NUMBERS : PySem.W.nsIn K mainGlobals "NUMBERS" = some (some (.ref x_NUMBERS)))
    (t_NUMBERS : K.lookup x_NUMBERS = some ⟨.type "tuple", d_NUMBERS, .seq i_NUMBERS n_NUMBERS, o_NUMBERS⟩)
    (v_NUMBERS : Vals [.int (-1), .int (0), .int (1)] i_NUMBERS.toList)
    (z_NUMBERS : i_NUMBERS.size ≤ 1000000)
    (m_TREES : PySem.W.nsIn K mainGlobals "TREES" = some (some (.ref x_TREES)))
    (t_TREES : K.lookup x_TREES = some ⟨.type "dict", none, .dict e_TREES n_TREES, #[]⟩)
    (v_TREES : PySem.W.KeysLit w.params e_TREES.toList)
    (z_TREES : (x_TREES == sysModules) = false)
    (y_TREES_let : PySem.W.nsIn K x_TREES "let" = some (some (.int 4 k_TREES_let)))
    (y_TREES_if : PySem.W.nsIn K x_TREES "if" = some (some (.int 6 k_TREES_if)))
    (y_TREES_claim : PySem.W.nsIn K x_TREES "claim" = some (some (.int 5 k_TREES_claim)))
    (y_TREES_tell : PySem.W.nsIn K x_TREES "tell" = some (some (.int 2 k_TREES_tell)))
    : ∃ fd : FuncData, (∀ (s : Shared) (v : Value), BindsTo s fd ⟨[v], []⟩ [("_law_script", v)]) ∧ ∀ base : Heap, K.In base → base.Ns mainGlobals mg → FnOk l.prog w K mg base CX0 12 fa fd ["_law_script"] (spLaw K) := by
  have e := hfa.symm.trans (PySem.W.mg_of X G a_law)
  cases e
  let A : Adr := {
    f_w_start := f_w_start,
    fd_w_start := PySem.W.fnOf "_law_start" "_law_start" (defArgs s_w_start) (defBody s_w_start) (defScope s_w_start) .none kV_w_start dc_w_start pm_w_start an_w_start cd_w_start ct_w_start,
    f_w_same := f_w_same,
    fd_w_same := PySem.W.fnOf "_law_same" "_law_same" (defArgs s_w_same) (defBody s_w_same) (defScope s_w_same) .none kV_w_same dc_w_same pm_w_same an_w_same cd_w_same ct_w_same,
    f_w_drawn := f_w_drawn,
    fd_w_drawn := PySem.W.fnOf "_law_drawn" "_law_drawn" (defArgs s_w_drawn) (defBody s_w_drawn) (defScope s_w_drawn) .none kV_w_drawn dc_w_drawn pm_w_drawn an_w_drawn cd_w_drawn ct_w_drawn,
    f_w_kinds := f_w_kinds,
    fd_w_kinds := PySem.W.fnOf "_law_kinds" "_law_kinds" (defArgs s_w_kinds) (defBody s_w_kinds) (defScope s_w_kinds) .none kV_w_kinds dc_w_kinds pm_w_kinds an_w_kinds cd_w_kinds ct_w_kinds,
    f_has_word := f_has_word,
    fd_has_word := PySem.W.fnOf "has_word" "has_word" (defArgs s_has_word) (defBody s_has_word) (defScope s_has_word) .none kV_has_word dc_has_word pm_has_word an_has_word cd_has_word ct_has_word,
    f_is_row := f_is_row,
    fd_is_row := PySem.W.fnOf "is_row" "is_row" (defArgs s_is_row) (defBody s_is_row) (defScope s_is_row) .none kV_is_row dc_is_row pm_is_row an_is_row cd_is_row ct_is_row,
    f_is_whole := f_is_whole,
    fd_is_whole := PySem.W.fnOf "is_whole" "is_whole" (defArgs s_is_whole) (defBody s_is_whole) (defScope s_is_whole) .none kV_is_whole dc_is_whole pm_is_whole an_is_whole cd_is_whole ct_is_whole,
    f_is_between := f_is_between,
    fd_is_between := PySem.W.fnOf "is_between" "is_between" (defArgs s_is_between) (defBody s_is_between) (defScope s_is_between) .none kV_is_between dc_is_between pm_is_between an_is_between cd_is_between ct_is_between,
    f_is_near := f_is_near,
    fd_is_near := PySem.W.fnOf "is_near" "is_near" (defArgs s_is_near) (defBody s_is_near) (defScope s_is_near) .none kV_is_near dc_is_near pm_is_near an_is_near cd_is_near ct_is_near,
    f_stands := f_stands,
    fd_stands := PySem.W.fnOf "stands" "stands" (defArgs s_stands) (defBody s_stands) (defScope s_stands) .none kV_stands dc_stands pm_stands an_stands cd_stands ct_stands,
    f_all_fit := f_all_fit,
    fd_all_fit := PySem.W.fnOf "all_fit" "all_fit" (defArgs s_all_fit) (defBody s_all_fit) (defScope s_all_fit) .none kV_all_fit dc_all_fit pm_all_fit an_all_fit cd_all_fit ct_all_fit,
    f_kinds_ahead := f_kinds_ahead,
    fd_kinds_ahead := PySem.W.fnOf "kinds_ahead" "kinds_ahead" (defArgs s_kinds_ahead) (defBody s_kinds_ahead) (defScope s_kinds_ahead) .none kV_kinds_ahead dc_kinds_ahead pm_kinds_ahead an_kinds_ahead cd_kinds_ahead ct_kinds_ahead,
    f_call_kind := f_call_kind,
    fd_call_kind := PySem.W.fnOf "call_kind" "call_kind" (defArgs s_call_kind) (defBody s_call_kind) (defScope s_call_kind) .none kV_call_kind dc_call_kind pm_call_kind an_call_kind cd_call_kind ct_call_kind,
    f_deed_kind := f_deed_kind,
    fd_deed_kind := PySem.W.fnOf "deed_kind" "deed_kind" (defArgs s_deed_kind) (defBody s_deed_kind) (defScope s_deed_kind) .none kV_deed_kind dc_deed_kind pm_deed_kind an_deed_kind cd_deed_kind ct_deed_kind,
    f_is_name := f_is_name,
    fd_is_name := PySem.W.fnOf "is_name" "is_name" (defArgs s_is_name) (defBody s_is_name) (defScope s_is_name) .none kV_is_name dc_is_name pm_is_name an_is_name cd_is_name ct_is_name,
    f_within_let := f_within_let,
    fd_within_let := PySem.W.fnOf "within_let" "within_let" (defArgs s_within_let) (defBody s_within_let) (defScope s_within_let) .none kV_within_let dc_within_let pm_within_let an_within_let cd_within_let ct_within_let,
    f_is_measure := f_is_measure,
    fd_is_measure := PySem.W.fnOf "is_measure" "is_measure" (defArgs s_is_measure) (defBody s_is_measure) (defScope s_is_measure) .none kV_is_measure dc_is_measure pm_is_measure an_is_measure cd_is_measure ct_is_measure,
    f_is_compared := f_is_compared,
    fd_is_compared := PySem.W.fnOf "is_compared" "is_compared" (defArgs s_is_compared) (defBody s_is_compared) (defScope s_is_compared) .none kV_is_compared dc_is_compared pm_is_compared an_is_compared cd_is_compared ct_is_compared,
    f_trees_within := f_trees_within,
    fd_trees_within := PySem.W.fnOf "trees_within" "trees_within" (defArgs s_trees_within) (defBody s_trees_within) (defScope s_trees_within) .none kV_trees_within dc_trees_within pm_trees_within an_trees_within cd_trees_within ct_trees_within,
    f_check_trees := f_check_trees,
    fd_check_trees := PySem.W.fnOf "check_trees" "check_trees" (defArgs s_check_trees) (defBody s_check_trees) (defScope s_check_trees) .none kV_check_trees dc_check_trees pm_check_trees an_check_trees cd_check_trees ct_check_trees,
    f_is_param := f_is_param,
    fd_is_param := PySem.W.fnOf "is_param" "is_param" (defArgs s_is_param) (defBody s_is_param) (defScope s_is_param) .none kV_is_param dc_is_param pm_is_param an_is_param cd_is_param ct_is_param,
    f_is_headed := f_is_headed,
    fd_is_headed := PySem.W.fnOf "is_headed" "is_headed" (defArgs s_is_headed) (defBody s_is_headed) (defScope s_is_headed) .none kV_is_headed dc_is_headed pm_is_headed an_is_headed cd_is_headed ct_is_headed,
    f_check_program := f_check_program,
    fd_check_program := PySem.W.fnOf "check_program" "check_program" (defArgs s_check_program) (defBody s_check_program) (defScope s_check_program) .none kV_check_program dc_check_program pm_check_program an_check_program cd_check_program ct_check_program,
    f_check_function := f_check_function,
    fd_check_function := PySem.W.fnOf "check_function" "check_function" (defArgs s_check_function) (defBody s_check_function) (defScope s_check_function) .none kV_check_function dc_check_function pm_check_function an_check_function cd_check_function ct_check_function,
    f_check_numbers := f_check_numbers,
    fd_check_numbers := PySem.W.fnOf "check_numbers" "check_numbers" (defArgs s_check_numbers) (defBody s_check_numbers) (defScope s_check_numbers) .none kV_check_numbers dc_check_numbers pm_check_numbers an_check_numbers cd_check_numbers ct_check_numbers,
    f_slots := f_slots,
    fd_slots := PySem.W.fnOf "slots" "slots" (defArgs s_slots) (defBody s_slots) (defScope s_slots) .none kV_slots dc_slots pm_slots an_slots cd_slots ct_slots,
    f_lattice := f_lattice,
    fd_lattice := PySem.W.fnOf "lattice" "lattice" (defArgs s_lattice) (defBody s_lattice) (defScope s_lattice) .none kV_lattice dc_lattice pm_lattice an_lattice cd_lattice ct_lattice,
    f_kinds_behind := f_kinds_behind,
    fd_kinds_behind := PySem.W.fnOf "kinds_behind" "kinds_behind" (defArgs s_kinds_behind) (defBody s_kinds_behind) (defScope s_kinds_behind) .none kV_kinds_behind dc_kinds_behind pm_kinds_behind an_kinds_behind cd_kinds_behind ct_kinds_behind,
    f_candidates := f_candidates,
    fd_candidates := PySem.W.fnOf "candidates" "candidates" (defArgs s_candidates) (defBody s_candidates) (defScope s_candidates) .none (.ref D_candidates) dc_candidates pm_candidates an_candidates cd_candidates ct_candidates,
    f_w_slots := f_w_slots,
    fd_w_slots := PySem.W.fnOf "_law_slots" "_law_slots" (defArgs s_w_slots) (defBody s_w_slots) (defScope s_w_slots) .none kV_w_slots dc_w_slots pm_w_slots an_w_slots cd_w_slots ct_w_slots,
    f_w_lattice := f_w_lattice,
    fd_w_lattice := PySem.W.fnOf "_law_lattice" "_law_lattice" (defArgs s_w_lattice) (defBody s_w_lattice) (defScope s_w_lattice) .none kV_w_lattice dc_w_lattice pm_w_lattice an_w_lattice cd_w_lattice ct_w_lattice,
    f_law := fa,
    fd_law := PySem.W.fnOf "law" "law" (defArgs s_law) (defBody s_law) (defScope s_law) .none kV_law dc_law pm_law an_law cd_law ct_law,
    a_DEEDS := x_DEEDS,
    e_DEEDS := e_DEEDS,
    m_DEEDS := n_DEEDS,
    a_DEEDS_num := x_DEEDS_num,
    a_DEEDS_num_0 := x_DEEDS_num_0,
    a_DEEDS_sum := x_DEEDS_sum,
    a_DEEDS_sum_0 := x_DEEDS_sum_0,
    a_DEEDS_len := x_DEEDS_len,
    a_DEEDS_len_0 := x_DEEDS_len_0,
    a_DEEDS_nil := x_DEEDS_nil,
    a_DEEDS_nil_0 := x_DEEDS_nil_0,
    a_DEEDS_put := x_DEEDS_put,
    a_DEEDS_put_0 := x_DEEDS_put_0,
    a_DEEDS_head := x_DEEDS_head,
    a_DEEDS_head_0 := x_DEEDS_head_0,
    a_DEEDS_tail := x_DEEDS_tail,
    a_DEEDS_tail_0 := x_DEEDS_tail_0,
    a_DEEDS_at := x_DEEDS_at,
    a_DEEDS_at_0 := x_DEEDS_at_0,
    a_DEEDS_ask := x_DEEDS_ask,
    a_DEEDS_ask_0 := x_DEEDS_ask_0,
    t_FARTHEST := k_FARTHEST,
    t_FARTHEST_NUMBER := k_FARTHEST_NUMBER,
    a_KINDS := x_KINDS,
    a_MEASURES := x_MEASURES,
    e_MEASURES := e_MEASURES,
    m_MEASURES := n_MEASURES,
    t_MOST_DEPTH := k_MOST_DEPTH,
    t_MOST_FUNCTIONS := k_MOST_FUNCTIONS,
    t_MOST_NUMBERS := k_MOST_NUMBERS,
    t_MOST_PARAMS := k_MOST_PARAMS,
    t_MOST_SIGNS := k_MOST_SIGNS,
    t_MOST_TREES := k_MOST_TREES,
    a_NUMBERS := x_NUMBERS,
    a_TREES := x_TREES,
    e_TREES := e_TREES,
    m_TREES := n_TREES }
  have T : Tx K w mg A := {
    g_w_start := PySem.W.mg_of X G a_w_start,
    F_w_start := fun_mk l_w_start c_w_start k_w_start,
    b_w_start := (fun_mk (st := s_w_start) l_w_start c_w_start k_w_start).binds (ps := P_w_start) fun _ _ _ _ _ _ us hl => match us, hl with | [_], _ => rfl,
    g_w_same := PySem.W.mg_of X G a_w_same,
    F_w_same := fun_mk l_w_same c_w_same k_w_same,
    b_w_same := (fun_mk (st := s_w_same) l_w_same c_w_same k_w_same).binds (ps := P_w_same) fun _ _ _ _ _ _ us hl => match us, hl with | [_, _], _ => rfl,
    g_w_drawn := PySem.W.mg_of X G a_w_drawn,
    F_w_drawn := fun_mk l_w_drawn c_w_drawn k_w_drawn,
    b_w_drawn := (fun_mk (st := s_w_drawn) l_w_drawn c_w_drawn k_w_drawn).binds (ps := P_w_drawn) fun _ _ _ _ _ _ us hl => match us, hl with | [_, _], _ => rfl,
    g_w_kinds := PySem.W.mg_of X G a_w_kinds,
    F_w_kinds := fun_mk l_w_kinds c_w_kinds k_w_kinds,
    b_w_kinds := (fun_mk (st := s_w_kinds) l_w_kinds c_w_kinds k_w_kinds).binds (ps := P_w_kinds) fun _ _ _ _ _ _ us hl => match us, hl with | [_, _, _], _ => rfl,
    g_has_word := PySem.W.mg_of X G a_has_word,
    F_has_word := fun_mk l_has_word c_has_word k_has_word,
    b_has_word := (fun_mk (st := s_has_word) l_has_word c_has_word k_has_word).binds (ps := P_has_word) fun _ _ _ _ _ _ us hl => match us, hl with | [_], _ => rfl,
    g_is_row := PySem.W.mg_of X G a_is_row,
    F_is_row := fun_mk l_is_row c_is_row k_is_row,
    b_is_row := (fun_mk (st := s_is_row) l_is_row c_is_row k_is_row).binds (ps := P_is_row) fun _ _ _ _ _ _ us hl => match us, hl with | [_, _], _ => rfl,
    g_is_whole := PySem.W.mg_of X G a_is_whole,
    F_is_whole := fun_mk l_is_whole c_is_whole k_is_whole,
    b_is_whole := (fun_mk (st := s_is_whole) l_is_whole c_is_whole k_is_whole).binds (ps := P_is_whole) fun _ _ _ _ _ _ us hl => match us, hl with | [_], _ => rfl,
    g_is_between := PySem.W.mg_of X G a_is_between,
    F_is_between := fun_mk l_is_between c_is_between k_is_between,
    b_is_between := (fun_mk (st := s_is_between) l_is_between c_is_between k_is_between).binds (ps := P_is_between) fun _ _ _ _ _ _ us hl => match us, hl with | [_, _, _], _ => rfl,
    g_is_near := PySem.W.mg_of X G a_is_near,
    F_is_near := fun_mk l_is_near c_is_near k_is_near,
    b_is_near := (fun_mk (st := s_is_near) l_is_near c_is_near k_is_near).binds (ps := P_is_near) fun _ _ _ _ _ _ us hl => match us, hl with | [_], _ => rfl,
    g_stands := PySem.W.mg_of X G a_stands,
    F_stands := fun_mk l_stands c_stands k_stands,
    b_stands := (fun_mk (st := s_stands) l_stands c_stands k_stands).binds (ps := P_stands) fun _ _ _ _ _ _ us hl => match us, hl with | [_, _, _], _ => rfl,
    g_all_fit := PySem.W.mg_of X G a_all_fit,
    F_all_fit := fun_mk l_all_fit c_all_fit k_all_fit,
    b_all_fit := (fun_mk (st := s_all_fit) l_all_fit c_all_fit k_all_fit).binds (ps := P_all_fit) fun _ _ _ _ _ _ us hl => match us, hl with | [_, _, _], _ => rfl,
    g_kinds_ahead := PySem.W.mg_of X G a_kinds_ahead,
    F_kinds_ahead := fun_mk l_kinds_ahead c_kinds_ahead k_kinds_ahead,
    b_kinds_ahead := (fun_mk (st := s_kinds_ahead) l_kinds_ahead c_kinds_ahead k_kinds_ahead).binds (ps := P_kinds_ahead) fun _ _ _ _ _ _ us hl => match us, hl with | [_], _ => rfl,
    g_call_kind := PySem.W.mg_of X G a_call_kind,
    F_call_kind := fun_mk l_call_kind c_call_kind k_call_kind,
    b_call_kind := (fun_mk (st := s_call_kind) l_call_kind c_call_kind k_call_kind).binds (ps := P_call_kind) fun _ _ _ _ _ _ us hl => match us, hl with | [_, _, _], _ => rfl,
    g_deed_kind := PySem.W.mg_of X G a_deed_kind,
    F_deed_kind := fun_mk l_deed_kind c_deed_kind k_deed_kind,
    b_deed_kind := (fun_mk (st := s_deed_kind) l_deed_kind c_deed_kind k_deed_kind).binds (ps := P_deed_kind) fun _ _ _ _ _ _ us hl => match us, hl with | [_, _, _], _ => rfl,
    g_is_name := PySem.W.mg_of X G a_is_name,
    F_is_name := fun_mk l_is_name c_is_name k_is_name,
    b_is_name := (fun_mk (st := s_is_name) l_is_name c_is_name k_is_name).binds (ps := P_is_name) fun _ _ _ _ _ _ us hl => match us, hl with | [_], _ => rfl,
    g_within_let := PySem.W.mg_of X G a_within_let,
    F_within_let := fun_mk l_within_let c_within_let k_within_let,
    b_within_let := (fun_mk (st := s_within_let) l_within_let c_within_let k_within_let).binds (ps := P_within_let) fun _ _ _ _ _ _ us hl => match us, hl with | [_, _, _], _ => rfl,
    g_is_measure := PySem.W.mg_of X G a_is_measure,
    F_is_measure := fun_mk l_is_measure c_is_measure k_is_measure,
    b_is_measure := (fun_mk (st := s_is_measure) l_is_measure c_is_measure k_is_measure).binds (ps := P_is_measure) fun _ _ _ _ _ _ us hl => match us, hl with | [_, _], _ => rfl,
    g_is_compared := PySem.W.mg_of X G a_is_compared,
    F_is_compared := fun_mk l_is_compared c_is_compared k_is_compared,
    b_is_compared := (fun_mk (st := s_is_compared) l_is_compared c_is_compared k_is_compared).binds (ps := P_is_compared) fun _ _ _ _ _ _ us hl => match us, hl with | [_, _], _ => rfl,
    g_trees_within := PySem.W.mg_of X G a_trees_within,
    F_trees_within := fun_mk l_trees_within c_trees_within k_trees_within,
    b_trees_within := (fun_mk (st := s_trees_within) l_trees_within c_trees_within k_trees_within).binds (ps := P_trees_within) fun _ _ _ _ _ _ us hl => match us, hl with | [_, _, _, _], _ => rfl,
    g_check_trees := PySem.W.mg_of X G a_check_trees,
    F_check_trees := fun_mk l_check_trees c_check_trees k_check_trees,
    b_check_trees := (fun_mk (st := s_check_trees) l_check_trees c_check_trees k_check_trees).binds (ps := P_check_trees) fun _ _ _ _ _ _ us hl => match us, hl with | [_, _], _ => rfl,
    g_is_param := PySem.W.mg_of X G a_is_param,
    F_is_param := fun_mk l_is_param c_is_param k_is_param,
    b_is_param := (fun_mk (st := s_is_param) l_is_param c_is_param k_is_param).binds (ps := P_is_param) fun _ _ _ _ _ _ us hl => match us, hl with | [_], _ => rfl,
    g_is_headed := PySem.W.mg_of X G a_is_headed,
    F_is_headed := fun_mk l_is_headed c_is_headed k_is_headed,
    b_is_headed := (fun_mk (st := s_is_headed) l_is_headed c_is_headed k_is_headed).binds (ps := P_is_headed) fun _ _ _ _ _ _ us hl => match us, hl with | [_], _ => rfl,
    g_check_program := PySem.W.mg_of X G a_check_program,
    F_check_program := fun_mk l_check_program c_check_program k_check_program,
    b_check_program := (fun_mk (st := s_check_program) l_check_program c_check_program k_check_program).binds (ps := P_check_program) fun _ _ _ _ _ _ us hl => match us, hl with | [_], _ => rfl,
    g_check_function := PySem.W.mg_of X G a_check_function,
    F_check_function := fun_mk l_check_function c_check_function k_check_function,
    b_check_function := (fun_mk (st := s_check_function) l_check_function c_check_function k_check_function).binds (ps := P_check_function) fun _ _ _ _ _ _ us hl => match us, hl with | [_, _], _ => rfl,
    g_check_numbers := PySem.W.mg_of X G a_check_numbers,
    F_check_numbers := fun_mk l_check_numbers c_check_numbers k_check_numbers,
    b_check_numbers := (fun_mk (st := s_check_numbers) l_check_numbers c_check_numbers k_check_numbers).binds (ps := P_check_numbers) fun _ _ _ _ _ _ us hl => match us, hl with | [_], _ => rfl,
    g_slots := PySem.W.mg_of X G a_slots,
    F_slots := fun_mk l_slots c_slots k_slots,
    b_slots := (fun_mk (st := s_slots) l_slots c_slots k_slots).binds (ps := P_slots) fun _ _ _ _ _ _ us hl => match us, hl with | [_], _ => rfl,
    g_lattice := PySem.W.mg_of X G a_lattice,
    F_lattice := fun_mk l_lattice c_lattice k_lattice,
    b_lattice := (fun_mk (st := s_lattice) l_lattice c_lattice k_lattice).binds (ps := P_lattice) fun _ _ _ _ _ _ us hl => match us, hl with | [_, _], _ => rfl,
    g_kinds_behind := PySem.W.mg_of X G a_kinds_behind,
    F_kinds_behind := fun_mk l_kinds_behind c_kinds_behind k_kinds_behind,
    b_kinds_behind := (fun_mk (st := s_kinds_behind) l_kinds_behind c_kinds_behind k_kinds_behind).binds (ps := P_kinds_behind) fun _ _ _ _ _ _ us hl => match us, hl with | [_], _ => rfl,
    g_candidates := PySem.W.mg_of X G a_candidates,
    F_candidates := ⟨⟨oc_candidates, od_candidates, .none, .ref D_candidates, dc_candidates, pm_candidates, an_candidates, cd_candidates, ct_candidates, sl_candidates, rfl, l_candidates, c_candidates, .inl ⟨rfl, rfl⟩, .inr ⟨D_candidates, rfl, fun q hq => by rw [List.mem_singleton.mp hq]; exact ⟨_, w_candidates_numbers, rfl⟩⟩⟩, k_candidates⟩,
    g_w_slots := PySem.W.mg_of X G a_w_slots,
    F_w_slots := fun_mk l_w_slots c_w_slots k_w_slots,
    b_w_slots := (fun_mk (st := s_w_slots) l_w_slots c_w_slots k_w_slots).binds (ps := P_w_slots) fun _ _ _ _ _ _ us hl => match us, hl with | [_], _ => rfl,
    g_w_lattice := PySem.W.mg_of X G a_w_lattice,
    F_w_lattice := fun_mk l_w_lattice c_w_lattice k_w_lattice,
    b_w_lattice := (fun_mk (st := s_w_lattice) l_w_lattice c_w_lattice k_w_lattice).binds (ps := P_w_lattice) fun _ _ _ _ _ _ us hl => match us, hl with | [_, _], _ => rfl,
    g_law := PySem.W.mg_of X G a_law,
    F_law := fun_mk l_law c_law k_law,
    b_law := (fun_mk (st := s_law) l_law c_law k_law).binds (ps := P_law) fun _ _ _ _ _ _ us hl => match us, hl with | [_], _ => rfl,
    n_all := PySem.W.mg_none_of X G n_all,
    n_bool := PySem.W.mg_none_of X G n_bool,
    n_dict := PySem.W.mg_none_of X G n_dict,
    n_enumerate := PySem.W.mg_none_of X G n_enumerate,
    n_int := PySem.W.mg_none_of X G n_int,
    n_isinstance := PySem.W.mg_none_of X G n_isinstance,
    n_len := PySem.W.mg_none_of X G n_len,
    n_list := PySem.W.mg_none_of X G n_list,
    n_range := PySem.W.mg_none_of X G n_range,
    n_reversed := PySem.W.mg_none_of X G n_reversed,
    n_set := PySem.W.mg_none_of X G n_set,
    n_sorted := PySem.W.mg_none_of X G n_sorted,
    n_str := PySem.W.mg_none_of X G n_str,
    n_tuple := PySem.W.mg_none_of X G n_tuple,
    n_zip := PySem.W.mg_none_of X G n_zip,
    c_DEEDS := PySem.W.mg_of X G m_DEEDS,
    d_DEEDS := ⟨t_DEEDS, v_DEEDS, z_DEEDS⟩,
    y_DEEDS_num := ⟨_, _, _, t_DEEDS, v_DEEDS, y_DEEDS_num, rfl⟩,
    q_DEEDS_num := fun _ => .inr ⟨_, i_DEEDS_num, n_DEEDS_num, t_DEEDS_num, rfl, rfl, small z_DEEDS_num, v_DEEDS_num⟩,
    q_DEEDS_num_0 := fun _ => .inr ⟨_, i_DEEDS_num_0, n_DEEDS_num_0, t_DEEDS_num_0, rfl, rfl, small z_DEEDS_num_0, v_DEEDS_num_0⟩,
    y_DEEDS_sum := ⟨_, _, _, t_DEEDS, v_DEEDS, y_DEEDS_sum, rfl⟩,
    q_DEEDS_sum := fun _ => .inr ⟨_, i_DEEDS_sum, n_DEEDS_sum, t_DEEDS_sum, rfl, rfl, small z_DEEDS_sum, v_DEEDS_sum⟩,
    q_DEEDS_sum_0 := fun _ => .inr ⟨_, i_DEEDS_sum_0, n_DEEDS_sum_0, t_DEEDS_sum_0, rfl, rfl, small z_DEEDS_sum_0, v_DEEDS_sum_0⟩,
    y_DEEDS_len := ⟨_, _, _, t_DEEDS, v_DEEDS, y_DEEDS_len, rfl⟩,
    q_DEEDS_len := fun _ => .inr ⟨_, i_DEEDS_len, n_DEEDS_len, t_DEEDS_len, rfl, rfl, small z_DEEDS_len, v_DEEDS_len⟩,
    q_DEEDS_len_0 := fun _ => .inr ⟨_, i_DEEDS_len_0, n_DEEDS_len_0, t_DEEDS_len_0, rfl, rfl, small z_DEEDS_len_0, v_DEEDS_len_0⟩,
    y_DEEDS_nil := ⟨_, _, _, t_DEEDS, v_DEEDS, y_DEEDS_nil, rfl⟩,
    q_DEEDS_nil := fun _ => .inr ⟨_, i_DEEDS_nil, n_DEEDS_nil, t_DEEDS_nil, rfl, rfl, small z_DEEDS_nil, v_DEEDS_nil⟩,
    q_DEEDS_nil_0 := fun _ => .inr ⟨_, i_DEEDS_nil_0, n_DEEDS_nil_0, t_DEEDS_nil_0, rfl, rfl, small z_DEEDS_nil_0, v_DEEDS_nil_0⟩,
    y_DEEDS_put := ⟨_, _, _, t_DEEDS, v_DEEDS, y_DEEDS_put, rfl⟩,
    q_DEEDS_put := fun _ => .inr ⟨_, i_DEEDS_put, n_DEEDS_put, t_DEEDS_put, rfl, rfl, small z_DEEDS_put, v_DEEDS_put⟩,
    q_DEEDS_put_0 := fun _ => .inr ⟨_, i_DEEDS_put_0, n_DEEDS_put_0, t_DEEDS_put_0, rfl, rfl, small z_DEEDS_put_0, v_DEEDS_put_0⟩,
    y_DEEDS_head := ⟨_, _, _, t_DEEDS, v_DEEDS, y_DEEDS_head, rfl⟩,
    q_DEEDS_head := fun _ => .inr ⟨_, i_DEEDS_head, n_DEEDS_head, t_DEEDS_head, rfl, rfl, small z_DEEDS_head, v_DEEDS_head⟩,
    q_DEEDS_head_0 := fun _ => .inr ⟨_, i_DEEDS_head_0, n_DEEDS_head_0, t_DEEDS_head_0, rfl, rfl, small z_DEEDS_head_0, v_DEEDS_head_0⟩,
    y_DEEDS_tail := ⟨_, _, _, t_DEEDS, v_DEEDS, y_DEEDS_tail, rfl⟩,
    q_DEEDS_tail := fun _ => .inr ⟨_, i_DEEDS_tail, n_DEEDS_tail, t_DEEDS_tail, rfl, rfl, small z_DEEDS_tail, v_DEEDS_tail⟩,
    q_DEEDS_tail_0 := fun _ => .inr ⟨_, i_DEEDS_tail_0, n_DEEDS_tail_0, t_DEEDS_tail_0, rfl, rfl, small z_DEEDS_tail_0, v_DEEDS_tail_0⟩,
    y_DEEDS_at := ⟨_, _, _, t_DEEDS, v_DEEDS, y_DEEDS_at, rfl⟩,
    q_DEEDS_at := fun _ => .inr ⟨_, i_DEEDS_at, n_DEEDS_at, t_DEEDS_at, rfl, rfl, small z_DEEDS_at, v_DEEDS_at⟩,
    q_DEEDS_at_0 := fun _ => .inr ⟨_, i_DEEDS_at_0, n_DEEDS_at_0, t_DEEDS_at_0, rfl, rfl, small z_DEEDS_at_0, v_DEEDS_at_0⟩,
    y_DEEDS_ask := ⟨_, _, _, t_DEEDS, v_DEEDS, y_DEEDS_ask, rfl⟩,
    q_DEEDS_ask := fun _ => .inr ⟨_, i_DEEDS_ask, n_DEEDS_ask, t_DEEDS_ask, rfl, rfl, small z_DEEDS_ask, v_DEEDS_ask⟩,
    q_DEEDS_ask_0 := fun _ => .inr ⟨_, i_DEEDS_ask_0, n_DEEDS_ask_0, t_DEEDS_ask_0, rfl, rfl, small z_DEEDS_ask_0, v_DEEDS_ask_0⟩,
    c_FARTHEST := PySem.W.mg_of X G m_FARTHEST,
    c_FARTHEST_NUMBER := PySem.W.mg_of X G m_FARTHEST_NUMBER,
    c_KINDS := PySem.W.mg_of X G m_KINDS,
    q_KINDS := fun _ => .inr ⟨_, i_KINDS, n_KINDS, t_KINDS, rfl, rfl, small z_KINDS, v_KINDS⟩,
    c_MEASURES := PySem.W.mg_of X G m_MEASURES,
    d_MEASURES := ⟨t_MEASURES, v_MEASURES, z_MEASURES⟩,
    y_MEASURES_of := ⟨_, _, _, t_MEASURES, v_MEASURES, y_MEASURES_of, ⟨_, rfl⟩⟩,
    y_MEASURES_len := ⟨_, _, _, t_MEASURES, v_MEASURES, y_MEASURES_len, ⟨_, rfl⟩⟩,
    c_MOST_DEPTH := PySem.W.mg_of X G m_MOST_DEPTH,
    c_MOST_FUNCTIONS := PySem.W.mg_of X G m_MOST_FUNCTIONS,
    c_MOST_NUMBERS := PySem.W.mg_of X G m_MOST_NUMBERS,
    c_MOST_PARAMS := PySem.W.mg_of X G m_MOST_PARAMS,
    c_MOST_SIGNS := PySem.W.mg_of X G m_MOST_SIGNS,
    c_MOST_TREES := PySem.W.mg_of X G m_MOST_TREES,
    c_NUMBERS := PySem.W.mg_of X G m_NUMBERS,
    q_NUMBERS := fun _ => .inr ⟨_, i_NUMBERS, n_NUMBERS, t_NUMBERS, rfl, rfl, small z_NUMBERS, v_NUMBERS⟩,
    c_TREES := PySem.W.mg_of X G m_TREES,
    d_TREES := ⟨t_TREES, v_TREES, z_TREES⟩,
    y_TREES_let := ⟨_, _, _, t_TREES, v_TREES, y_TREES_let, ⟨_, rfl⟩⟩,
    y_TREES_if := ⟨_, _, _, t_TREES, v_TREES, y_TREES_if, ⟨_, rfl⟩⟩,
    y_TREES_claim := ⟨_, _, _, t_TREES, v_TREES, y_TREES_claim, ⟨_, rfl⟩⟩,
    y_TREES_tell := ⟨_, _, _, t_TREES, v_TREES, y_TREES_tell, ⟨_, rfl⟩⟩ }
  exact ⟨A.fd_law, fun s v => .of_eq rfl, fun base _ _ => ok_law (P := l.prog) (base := base) T⟩
end Cs
open PySem PySem.W PyProof.Rows in
set_option maxRecDepth 100000 in
set_option maxHeartbeats 0 in
theorem PySem.Challenge.cw_claimsieve_k03_lattices_holds : PySem.Challenge.rw_claimsieve_k03_lattices.Holds := by
  w_on; o_law; k_head; (case hw => w_witness2)
  k_fill
  refine L2.walk_of (l := PySem.Challenge.rw_claimsieve_k03_lattices) (n := 63) (k := 12) (x := "_law_script") (CX := fun _ => L2.CX0) (sp := fun w => Cs.spLaw _) rfl (by decide) rfl ⟨rfl, by decide, by decide⟩ (fun w h Y => PySem.W.kIn_of Y) ?F (fun _ _ a ns hl _ hS => ⟨a, ns, rfl, hS, Nat.le_trans hl (by decide), fun _ => rfl⟩) (fun _ _ _ _ _ h => h)
  case F =>
    intro w mg fa h KX G hmg
    refine' Cs.all_mk KX G hmg ?a_w_start ?l_w_start ?c_w_start ?k_w_start ?a_w_same ?l_w_same ?c_w_same ?k_w_same ?a_w_drawn ?l_w_drawn ?c_w_drawn ?k_w_drawn ?a_w_kinds ?l_w_kinds ?c_w_kinds ?k_w_kinds ?a_has_word ?l_has_word ?c_has_word ?k_has_word ?a_is_row ?l_is_row ?c_is_row ?k_is_row ?a_is_whole ?l_is_whole ?c_is_whole ?k_is_whole ?a_is_between ?l_is_between ?c_is_between ?k_is_between ?a_is_near ?l_is_near ?c_is_near ?k_is_near ?a_stands ?l_stands ?c_stands ?k_stands ?a_all_fit ?l_all_fit ?c_all_fit ?k_all_fit ?a_kinds_ahead ?l_kinds_ahead ?c_kinds_ahead ?k_kinds_ahead ?a_call_kind ?l_call_kind ?c_call_kind ?k_call_kind ?a_deed_kind ?l_deed_kind ?c_deed_kind ?k_deed_kind ?a_is_name ?l_is_name ?c_is_name ?k_is_name ?a_within_let ?l_within_let ?c_within_let ?k_within_let ?a_is_measure ?l_is_measure ?c_is_measure ?k_is_measure ?a_is_compared ?l_is_compared ?c_is_compared ?k_is_compared ?a_trees_within ?l_trees_within ?c_trees_within ?k_trees_within ?a_check_trees ?l_check_trees ?c_check_trees ?k_check_trees ?a_is_param ?l_is_param ?c_is_param ?k_is_param ?a_is_headed ?l_is_headed ?c_is_headed ?k_is_headed ?a_check_program ?l_check_program ?c_check_program ?k_check_program ?a_check_function ?l_check_function ?c_check_function ?k_check_function ?a_check_numbers ?l_check_numbers ?c_check_numbers ?k_check_numbers ?a_slots ?l_slots ?c_slots ?k_slots ?a_lattice ?l_lattice ?c_lattice ?k_lattice ?a_kinds_behind ?l_kinds_behind ?c_kinds_behind ?k_kinds_behind ?a_candidates ?l_candidates ?c_candidates ?k_candidates ?w_candidates_numbers ?a_w_slots ?l_w_slots ?c_w_slots ?k_w_slots ?a_w_lattice ?l_w_lattice ?c_w_lattice ?k_w_lattice ?a_law ?l_law ?c_law ?k_law ?n_all ?n_bool ?n_dict ?n_enumerate ?n_int ?n_isinstance ?n_len ?n_list ?n_range ?n_reversed ?n_set ?n_sorted ?n_str ?n_tuple ?n_zip ?m_DEEDS ?t_DEEDS ?v_DEEDS ?z_DEEDS ?y_DEEDS_num ?t_DEEDS_num ?v_DEEDS_num ?z_DEEDS_num ?t_DEEDS_num_0 ?v_DEEDS_num_0 ?z_DEEDS_num_0 ?y_DEEDS_sum ?t_DEEDS_sum ?v_DEEDS_sum ?z_DEEDS_sum ?t_DEEDS_sum_0 ?v_DEEDS_sum_0 ?z_DEEDS_sum_0 ?y_DEEDS_len ?t_DEEDS_len ?v_DEEDS_len ?z_DEEDS_len ?t_DEEDS_len_0 ?v_DEEDS_len_0 ?z_DEEDS_len_0 ?y_DEEDS_nil ?t_DEEDS_nil ?v_DEEDS_nil ?z_DEEDS_nil ?t_DEEDS_nil_0 ?v_DEEDS_nil_0 ?z_DEEDS_nil_0 ?y_DEEDS_put ?t_DEEDS_put ?v_DEEDS_put ?z_DEEDS_put ?t_DEEDS_put_0 ?v_DEEDS_put_0 ?z_DEEDS_put_0 ?y_DEEDS_head ?t_DEEDS_head ?v_DEEDS_head ?z_DEEDS_head ?t_DEEDS_head_0 ?v_DEEDS_head_0 ?z_DEEDS_head_0 ?y_DEEDS_tail ?t_DEEDS_tail ?v_DEEDS_tail ?z_DEEDS_tail ?t_DEEDS_tail_0 ?v_DEEDS_tail_0 ?z_DEEDS_tail_0 ?y_DEEDS_at ?t_DEEDS_at ?v_DEEDS_at ?z_DEEDS_at ?t_DEEDS_at_0 ?v_DEEDS_at_0 ?z_DEEDS_at_0 ?y_DEEDS_ask ?t_DEEDS_ask ?v_DEEDS_ask ?z_DEEDS_ask ?t_DEEDS_ask_0 ?v_DEEDS_ask_0 ?z_DEEDS_ask_0 ?m_FARTHEST ?m_FARTHEST_NUMBER ?m_KINDS ?t_KINDS ?v_KINDS ?z_KINDS ?m_MEASURES ?t_MEASURES ?v_MEASURES ?z_MEASURES ?y_MEASURES_of ?y_MEASURES_len ?m_MOST_DEPTH ?m_MOST_FUNCTIONS ?m_MOST_NUMBERS ?m_MOST_PARAMS ?m_MOST_SIGNS ?m_MOST_TREES ?m_NUMBERS ?t_NUMBERS ?v_NUMBERS ?z_NUMBERS ?m_TREES ?t_TREES ?v_TREES ?z_TREES ?y_TREES_let ?y_TREES_if ?y_TREES_claim ?y_TREES_tell
    (case a_w_start => k_is)
    (case l_w_start => k_is)
    (case c_w_start => k_is)
    (case k_w_start => k_is)
    (case a_w_same => k_is)
    (case l_w_same => k_is)
    (case c_w_same => k_is)
    (case k_w_same => k_is)
    (case a_w_drawn => k_is)
    (case l_w_drawn => k_is)
    (case c_w_drawn => k_is)
    (case k_w_drawn => k_is)
    (case a_w_kinds => k_is)
    (case l_w_kinds => k_is)
    (case c_w_kinds => k_is)
    (case k_w_kinds => k_is)
    (case a_has_word => k_is)
    (case l_has_word => k_is)
    (case c_has_word => k_is)
    (case k_has_word => k_is)
    (case a_is_row => k_is)
    (case l_is_row => k_is)
    (case c_is_row => k_is)
    (case k_is_row => k_is)
    (case a_is_whole => k_is)
    (case l_is_whole => k_is)
    (case c_is_whole => k_is)
    (case k_is_whole => k_is)
    (case a_is_between => k_is)
    (case l_is_between => k_is)
    (case c_is_between => k_is)
    (case k_is_between => k_is)
    (case a_is_near => k_is)
    (case l_is_near => k_is)
    (case c_is_near => k_is)
    (case k_is_near => k_is)
    (case a_stands => k_is)
    (case l_stands => k_is)
    (case c_stands => k_is)
    (case k_stands => k_is)
    (case a_all_fit => k_is)
    (case l_all_fit => k_is)
    (case c_all_fit => k_is)
    (case k_all_fit => k_is)
    (case a_kinds_ahead => k_is)
    (case l_kinds_ahead => k_is)
    (case c_kinds_ahead => k_is)
    (case k_kinds_ahead => k_is)
    (case a_call_kind => k_is)
    (case l_call_kind => k_is)
    (case c_call_kind => k_is)
    (case k_call_kind => k_is)
    (case a_deed_kind => k_is)
    (case l_deed_kind => k_is)
    (case c_deed_kind => k_is)
    (case k_deed_kind => k_is)
    (case a_is_name => k_is)
    (case l_is_name => k_is)
    (case c_is_name => k_is)
    (case k_is_name => k_is)
    (case a_within_let => k_is)
    (case l_within_let => k_is)
    (case c_within_let => k_is)
    (case k_within_let => k_is)
    (case a_is_measure => k_is)
    (case l_is_measure => k_is)
    (case c_is_measure => k_is)
    (case k_is_measure => k_is)
    (case a_is_compared => k_is)
    (case l_is_compared => k_is)
    (case c_is_compared => k_is)
    (case k_is_compared => k_is)
    (case a_trees_within => k_is)
    (case l_trees_within => k_is)
    (case c_trees_within => k_is)
    (case k_trees_within => k_is)
    (case a_check_trees => k_is)
    (case l_check_trees => k_is)
    (case c_check_trees => k_is)
    (case k_check_trees => k_is)
    (case a_is_param => k_is)
    (case l_is_param => k_is)
    (case c_is_param => k_is)
    (case k_is_param => k_is)
    (case a_is_headed => k_is)
    (case l_is_headed => k_is)
    (case c_is_headed => k_is)
    (case k_is_headed => k_is)
    (case a_check_program => k_is)
    (case l_check_program => k_is)
    (case c_check_program => k_is)
    (case k_check_program => k_is)
    (case a_check_function => k_is)
    (case l_check_function => k_is)
    (case c_check_function => k_is)
    (case k_check_function => k_is)
    (case a_check_numbers => k_is)
    (case l_check_numbers => k_is)
    (case c_check_numbers => k_is)
    (case k_check_numbers => k_is)
    (case a_slots => k_is)
    (case l_slots => k_is)
    (case c_slots => k_is)
    (case k_slots => k_is)
    (case a_lattice => k_is)
    (case l_lattice => k_is)
    (case c_lattice => k_is)
    (case k_lattice => k_is)
    (case a_kinds_behind => k_is)
    (case l_kinds_behind => k_is)
    (case c_kinds_behind => k_is)
    (case k_kinds_behind => k_is)
    (case a_candidates => k_is)
    (case l_candidates => k_is)
    (case c_candidates => k_is)
    (case k_candidates => k_is)
    (case w_candidates_numbers => k_is)
    (case a_w_slots => k_is)
    (case l_w_slots => k_is)
    (case c_w_slots => k_is)
    (case k_w_slots => k_is)
    (case a_w_lattice => k_is)
    (case l_w_lattice => k_is)
    (case c_w_lattice => k_is)
    (case k_w_lattice => k_is)
    (case a_law => k_is)
    (case l_law => k_is)
    (case c_law => k_is)
    (case k_law => k_is)
    (case n_all => k_is)
    (case n_bool => k_is)
    (case n_dict => k_is)
    (case n_enumerate => k_is)
    (case n_int => k_is)
    (case n_isinstance => k_is)
    (case n_len => k_is)
    (case n_list => k_is)
    (case n_range => k_is)
    (case n_reversed => k_is)
    (case n_set => k_is)
    (case n_sorted => k_is)
    (case n_str => k_is)
    (case n_tuple => k_is)
    (case n_zip => k_is)
    (case m_DEEDS => k_is)
    (case t_DEEDS => k_is)
    (case v_DEEDS => exact ⟨⟨_, _, rfl, rfl⟩, ⟨_, _, rfl, rfl⟩, ⟨_, _, rfl, rfl⟩, ⟨_, _, rfl, rfl⟩, ⟨_, _, rfl, rfl⟩, ⟨_, _, rfl, rfl⟩, ⟨_, _, rfl, rfl⟩, ⟨_, _, rfl, rfl⟩, ⟨_, _, rfl, rfl⟩, trivial⟩)
    (case z_DEEDS => first | rfl | decide +kernel | k_is)
    (case y_DEEDS_num => k_is)
    (case t_DEEDS_num => k_is)
    (case v_DEEDS_num => exact (.cons rfl (.cons ⟨_, rfl⟩ .nil)))
    (case z_DEEDS_num => exact (by decide : 2 ≤ 1000000))
    (case t_DEEDS_num_0 => k_is)
    (case v_DEEDS_num_0 => exact (.cons ⟨_, rfl⟩ .nil))
    (case z_DEEDS_num_0 => exact (by decide : 1 ≤ 1000000))
    (case y_DEEDS_sum => k_is)
    (case t_DEEDS_sum => k_is)
    (case v_DEEDS_sum => exact (.cons rfl (.cons ⟨_, rfl⟩ .nil)))
    (case z_DEEDS_sum => exact (by decide : 2 ≤ 1000000))
    (case t_DEEDS_sum_0 => k_is)
    (case v_DEEDS_sum_0 => exact (.cons ⟨_, rfl⟩ (.cons ⟨_, rfl⟩ .nil)))
    (case z_DEEDS_sum_0 => exact (by decide : 2 ≤ 1000000))
    (case y_DEEDS_len => k_is)
    (case t_DEEDS_len => k_is)
    (case v_DEEDS_len => exact (.cons rfl (.cons ⟨_, rfl⟩ .nil)))
    (case z_DEEDS_len => exact (by decide : 2 ≤ 1000000))
    (case t_DEEDS_len_0 => k_is)
    (case v_DEEDS_len_0 => exact (.cons ⟨_, rfl⟩ .nil))
    (case z_DEEDS_len_0 => exact (by decide : 1 ≤ 1000000))
    (case y_DEEDS_nil => k_is)
    (case t_DEEDS_nil => k_is)
    (case v_DEEDS_nil => exact (.cons rfl (.cons ⟨_, rfl⟩ .nil)))
    (case z_DEEDS_nil => exact (by decide : 2 ≤ 1000000))
    (case t_DEEDS_nil_0 => k_is)
    (case v_DEEDS_nil_0 => exact .nil)
    (case z_DEEDS_nil_0 => exact (by decide : 0 ≤ 1000000))
    (case y_DEEDS_put => k_is)
    (case t_DEEDS_put => k_is)
    (case v_DEEDS_put => exact (.cons rfl (.cons ⟨_, rfl⟩ .nil)))
    (case z_DEEDS_put => exact (by decide : 2 ≤ 1000000))
    (case t_DEEDS_put_0 => k_is)
    (case v_DEEDS_put_0 => exact (.cons ⟨_, rfl⟩ (.cons ⟨_, rfl⟩ .nil)))
    (case z_DEEDS_put_0 => exact (by decide : 2 ≤ 1000000))
    (case y_DEEDS_head => k_is)
    (case t_DEEDS_head => k_is)
    (case v_DEEDS_head => exact (.cons rfl (.cons ⟨_, rfl⟩ .nil)))
    (case z_DEEDS_head => exact (by decide : 2 ≤ 1000000))
    (case t_DEEDS_head_0 => k_is)
    (case v_DEEDS_head_0 => exact (.cons ⟨_, rfl⟩ .nil))
    (case z_DEEDS_head_0 => exact (by decide : 1 ≤ 1000000))
    (case y_DEEDS_tail => k_is)
    (case t_DEEDS_tail => k_is)
    (case v_DEEDS_tail => exact (.cons rfl (.cons ⟨_, rfl⟩ .nil)))
    (case z_DEEDS_tail => exact (by decide : 2 ≤ 1000000))
    (case t_DEEDS_tail_0 => k_is)
    (case v_DEEDS_tail_0 => exact (.cons ⟨_, rfl⟩ .nil))
    (case z_DEEDS_tail_0 => exact (by decide : 1 ≤ 1000000))
    (case y_DEEDS_at => k_is)
    (case t_DEEDS_at => k_is)
    (case v_DEEDS_at => exact (.cons rfl (.cons ⟨_, rfl⟩ .nil)))
    (case z_DEEDS_at => exact (by decide : 2 ≤ 1000000))
    (case t_DEEDS_at_0 => k_is)
    (case v_DEEDS_at_0 => exact (.cons ⟨_, rfl⟩ (.cons ⟨_, rfl⟩ .nil)))
    (case z_DEEDS_at_0 => exact (by decide : 2 ≤ 1000000))
    (case y_DEEDS_ask => k_is)
    (case t_DEEDS_ask => k_is)
    (case v_DEEDS_ask => exact (.cons rfl (.cons ⟨_, rfl⟩ .nil)))
    (case z_DEEDS_ask => exact (by decide : 2 ≤ 1000000))
    (case t_DEEDS_ask_0 => k_is)
    (case v_DEEDS_ask_0 => exact .nil)
    (case z_DEEDS_ask_0 => exact (by decide : 0 ≤ 1000000))
    (case m_FARTHEST => k_is)
    (case m_FARTHEST_NUMBER => k_is)
    (case m_KINDS => k_is)
    (case t_KINDS => k_is)
    (case v_KINDS => exact (.cons ⟨_, rfl⟩ (.cons ⟨_, rfl⟩ .nil)))
    (case z_KINDS => exact (by decide : 2 ≤ 1000000))
    (case m_MEASURES => k_is)
    (case t_MEASURES => k_is)
    (case v_MEASURES => exact ⟨⟨_, _, rfl, rfl⟩, ⟨_, _, rfl, rfl⟩, trivial⟩)
    (case z_MEASURES => first | rfl | decide +kernel | k_is)
    (case y_MEASURES_of => k_is)
    (case y_MEASURES_len => k_is)
    (case m_MOST_DEPTH => k_is)
    (case m_MOST_FUNCTIONS => k_is)
    (case m_MOST_NUMBERS => k_is)
    (case m_MOST_PARAMS => k_is)
    (case m_MOST_SIGNS => k_is)
    (case m_MOST_TREES => k_is)
    (case m_NUMBERS => k_is)
    (case t_NUMBERS => k_is)
    (case v_NUMBERS => exact (.cons ⟨_, rfl⟩ (.cons ⟨_, rfl⟩ (.cons ⟨_, rfl⟩ .nil))))
    (case z_NUMBERS => exact (by decide : 3 ≤ 1000000))
    (case m_TREES => k_is)
    (case t_TREES => k_is)
    (case v_TREES => exact ⟨⟨_, _, rfl, rfl⟩, ⟨_, _, rfl, rfl⟩, ⟨_, _, rfl, rfl⟩, ⟨_, _, rfl, rfl⟩, trivial⟩)
    (case z_TREES => first | rfl | decide +kernel | k_is)
    (case y_TREES_let => k_is)
    (case y_TREES_if => k_is)
    (case y_TREES_claim => k_is)
    (case y_TREES_tell => k_is)
