import PyProof.Rows.All
import Wide.All
import OpenK.AllK
import Wide.FinOn
import HandS.ForMost
import HandS.AnyAll
import HandS.GenList
import PyProof.TupleOfGen
import HandS.ForExc
import HandS.EndTab
import HandS.IsInst
import HandS.Iter
import HandS.More
import HandS.Deep
import HandS.TupAny
import HandS.TupMul
import HandS.Style
import HandS.TupLe
import HandS.Conv
import HandS.RaiseMore
import PyProof.ReprRoads
import HandS.ExcIs
import HandS.ExcOwn
import HandS.Codes
import PySem.Challenge.RW_coheir_k12_programs_and_what_is_none
set_option Elab.async false
set_option linter.all false
set_option maxRecDepth 100000
set_option maxHeartbeats 3900000
/-! generator expressions of any element, consumed by all, any, tuple -/
namespace Gx
open PySem PySem.Spec PyProof.Rows L2 GenW GxR

/-- the context of a generator expression's frame -/
abbrev gx (X : Cx) (A : Around) (s : Shared) (H : Hp) (cenv : Env) (fp : List Addr) (pn : List (Addr × Obj)) : Cx :=
  { X with A := A, s_0 := s, H_0 := H, env := cenv, outer := X.stack, stack := cenv :: X.stack, ex := fp, fn := fun _ => false, pn := pn, xe := fun _ _ => False }

theorem over_loop {A : Around} {elt : Expr} {gs : List Comprehension} {scope : Scope} {pos : Pos} {it acc : Value} {env : Env} : A.over (.compLoop (.GeneratorExp elt gs scope pos) 0 it acc env) [] = A.deeper env := by
  first
    | rfl
    | (obtain ⟨hd, d, fr, gs, u⟩ := A; simp [Around.over, Around.deeper, marksOver, frameCount, unitsOf, envsOf, guardsOf, pushEnvs, pushGuards, Code.envs, Code.env?, Code.isFrame, Code.guards, Code.isGuard, Code.weight, Code.frames, Code.isCreation, Code.isCaller, Code.cUnits])

theorem seg_bw {M : Model} {A B : Around} {R : GenEnd} {Y : Protocol} {n : Nat} {s₀ : Shared} {c : Code} {fs : List Frame} {s : Shared} {α β : Type} {m : Sem α} {K : α → Sem β} {K' : β → Sem PySem.Fin} {H' : Value → Sem PySem.Fin} {gd lv}
    (e : A.over c fs = B) (h : wpAny M B m (fun a s' => Seg M A R Y n s₀ c ((K a).wrap K' H' gd lv) fs s') (fun x s' => Seg M A R Y n s₀ c (H' x) fs s') s) : Seg M A R Y n s₀ c ((m >>= K).wrap K' H' gd lv) fs s :=
  seg_bind_wrap (by rw [e]; exact h)

section
variable {α : Type}
/-- handed out: what the consumer is to do with it -/
def YG (X' : Cx) (Ca : α → List (Addr × Obj) → Prop) (G : α → (α → Hp → Prop) → V → Hp → Prop) : Protocol := fun _ _ v s kap =>
  ∃ a pl ip σ' H' y Nx, Ca a pl ∧ (∀ p ∈ ip, p.1 ∈ X'.ex) ∧ Inv X' (pl ++ ip) σ' H' s ∧ RelV y v ∧ G a Nx y H' ∧
    ∀ s' a' pl' H'', Ca a' pl' → Inv X' (pl' ++ ip) σ' H'' s' → Nx a' H'' → kap (.send .none) s'
def PG' (X' : Cx) (Ca : α → List (Addr × Obj) → Prop) (F : α → Hp → Prop) : Nat → Shared → Shared → Prop := fun _ _ s₁ => ∃ a pl σ' H', Ca a pl ∧ Inv X' pl σ' H' s₁ ∧ F a H'
abbrev RG (X' : Cx) (Ca : α → List (Addr × Obj) → Prop) (F : α → Hp → Prop) : GenEnd := fun n s₀ r s₁ => r = .ok .next ∧ PG' X' Ca F n s₀ s₁

/-- one turn of the walk, by the invariant -/
def Turns (J : It) (g : TG) (tt : TT) (te : TE) (vs : List Nat) (σ : L2.St) (W : Nat → Nat → α → Hp → Prop) (G : α → (α → Hp → Prop) → V → Hp → Prop) (F : α → Hp → Prop) : Prop :=
  ∀ i m a H, W i m a H → (J.stop i H ∧ F a H) ∨ (J.go i H ∧ ∃ Nx : α → Hp → Prop, (∀ a' H', Nx a' H' → ∃ m', m' < m ∧ W (i + 1) m' a' H') ∧
    ∀ x H', J.yld i H x H' → g x (wipe σ vs) H' fun σ2 H2 => wipe σ2 vs = wipe σ vs ∧ tt σ2 H2 fun b H3 => if b = true then te σ2 H3 fun y H4 => G a Nx y H4 else Nx a H3)

theorem seg_gx {X : Cx} {A : Around} {s0 : Shared} {H0 : Hp} {cenv : Env} {fp : List Addr} {pn : List (Addr × Obj)} {tg iter elt : Expr} {ifs : List Expr} {scope : Scope} {pos : Pos} {it : Addr} {tn : Nat → Heap → Prop} {J : It} {g : TG} {tt : TT} {te : TE}
    {σ : L2.St} {vs : List Nat} {Ca : α → List (Addr × Obj) → Prop} {W : Nat → Nat → α → Hp → Prop} {G : α → (α → Hp → Prop) → V → Hp → Prop} {F : α → Hp → Prop}
    (T : Turn X.prog X.w X.K tg J fp it tn) (hc : X.calm = true) (hco : cenv.scope.isCoroutine = false)
    (pg : PG (gx X (A.deeper cenv) s0 H0 cenv fp pn) tg g) (pt : PTs (gx X (A.deeper cenv) s0 H0 cenv fp pn) ifs tt) (pe : PE (gx X (A.deeper cenv) s0 H0 cenv fp pn) elt te)
    (hpn : ∀ p ∈ pn, p.1 ∉ fp) (hCa : ∀ a pl, Ca a pl → ∀ p ∈ pl, p.1 ∉ fp) (turn : Turns J g tt te vs σ W G F) :
    ∀ (m n i : Nat) (a : α) (pl : List (Addr × Obj)) (s₀ s : Shared) (H : Hp), m < n → Ca a pl → Inv (gx X (A.deeper cenv) s0 H0 cenv fp pn) pl (wipe σ vs) H s → tn i s.heap → (∀ b ∈ fp, H b = none) → W i m a H →
      Seg (model X.prog X.w) A (RG (gx X (A.deeper cenv) s0 H0 cenv fp pn) Ca F) (YG (gx X (A.deeper cenv) s0 H0 cenv fp pn) Ca G) n s₀ (.compLoop (.GeneratorExp elt [⟨tg, iter, ifs, 0⟩] scope pos) 0 (.ref it) .none cenv)
        ((model X.prog X.w).den (.compLoop (.GeneratorExp elt [⟨tg, iter, ifs, 0⟩] scope pos) 0 (.ref it) .none cenv)) [] s := by
  have stat : ∀ {a : α} {pl : List (Addr × Obj)} {σ' : L2.St} {H' : Hp} {s' : Shared}, Ca a pl → Inv (gx X (A.deeper cenv) s0 H0 cenv fp pn) pl σ' H' s' → (∀ b ∈ fp, H' b = none) → ∀ b ∈ fp, FpOk (gx X (A.deeper cenv) s0 H0 cenv fp pn) pl H' b := fun {a pl σ' H' s'} hca I' hn b hb =>
    ⟨hn b hb, (I'.ok.exf b hb).1, I'.ok.exfs b hb, .inl hb, fun x c e => (I'.ok.exf b hb).2 x c e, fun p hp z => by
      rcases List.mem_append.mp hp with q | q
      · exact hpn p q (by rw [z]; exact hb)
      · exact hCa a pl hca p q (by rw [z]; exact hb)⟩
  have e := over_loop (A := A) (elt := elt) (gs := [⟨tg, iter, ifs, 0⟩]) (scope := scope) (pos := pos) (it := .ref it) (acc := .none) (env := cenv)
  intro m
  induction m using Nat.strongRecOn with
  | _ m ih =>
  intro n i a pl s₀ s H hmn hca I st n5 w5
  show Seg _ A _ _ _ s₀ _ ((compTurn (.GeneratorExp elt [⟨tg, iter, ifs, 0⟩] scope pos) 0 (.ref it) .none cenv).onRaise (leaving cenv)) [] s
  rw [compTurn_gen, Sem.onRaise_eq_wrap]
  refine seg_bw e (wpAny_standAt ?_)
  rcases turn i m a H w5 with ⟨stop, qF⟩ | ⟨go, Nx, hNx, step⟩
  · have td := T.done (gx X (A.deeper cenv) s0 H0 cenv fp pn) rfl rfl rfl hc i pl s _ H (fun _ _ => False) I (stat hca I n5) st stop
    refine seg_bw e (thnF td fun r s6 ⟨hr, I6⟩ => ?_)
    subst hr
    exact seg_end (.ok .next) ⟨rfl, a, pl, _, H, hca, I6, qF⟩
  · have ti := T.item (gx X (A.deeper cenv) s0 H0 cenv fp pn) rfl rfl rfl hc i pl s _ H (fun _ _ => False) I (stat hca I n5) st go
    refine seg_bw e (thnF ti fun r s6 ⟨u, hr, h6⟩ => ?_)
    subst hr
    refine seg_bw e (thnF h6 fun _ s7 ⟨x, H7, I7, r7, y7, st7, n7⟩ => ?_)
    have I7' := I7.pinned (stat hca I7 n7) (T.obj _ _ st7)
    refine seg_bw e (thnF (pg.run _ s7 _ H7 x u _ I7' r7 (step x H7 y7)) fun _ s8 ⟨σ8, H8, I8, hw8, q8⟩ => ?_)
    refine seg_bw e (thnF (pt.run _ s8 σ8 H8 _ I8 q8) fun b s9 ⟨H9, I9, q9⟩ => ?_)
    have fin : ∀ {n' : Nat} {a' : α} {pl' : List (Addr × Obj)} {s₁ s' : Shared} {H' : Hp}, m ≤ n' → Ca a' pl' → Inv (gx X (A.deeper cenv) s0 H0 cenv fp pn) (pl' ++ pinsAt fp s7.heap) σ8 H' s' → Nx a' H' →
        Seg (model X.prog X.w) A (RG (gx X (A.deeper cenv) s0 H0 cenv fp pn) Ca F) (YG (gx X (A.deeper cenv) s0 H0 cenv fp pn) Ca G) n' s₁ (.compLoop (.GeneratorExp elt [⟨tg, iter, ifs, 0⟩] scope pos) 0 (.ref it) .none cenv)
          ((model X.prog X.w).den (.compLoop (.GeneratorExp elt [⟨tg, iter, ifs, 0⟩] scope pos) 0 (.ref it) .none cenv)) [] s' := fun {n' a' pl' s₁ s' H'} hn' hca' I' nx => by
      obtain ⟨m', hm, w'⟩ := hNx a' H' nx
      have pin' : ∀ b ∈ fp, ∀ o, s7.heap.get? b = some o → s'.heap.get? b = some o ∧ H' b = none := fun b hb o e =>
        let z := I'.pin (b, o) (List.mem_append_right _ (List.mem_append_right _ (mem_pinsAt hb e)))
        ⟨z.1, z.2.1⟩
      have hl : (wipe σ vs).length = σ8.length := by rw [← hw8, wipe_length]
      refine ih m' hm n' (i + 1) a' pl' s₁ s' H' (by omega) hca' ((I'.unpinned).weak hl (fun j v e => ?_)) (T.keep _ _ _ st7 fun b hb o e => (pin' b hb o e).1) (fun b hb => ?_) w'
      · rw [← hw8] at e
        exact (wipe_some e).1
      · obtain ⟨o, e, _⟩ := T.obj _ _ st7 b hb
        exact (pin' b hb o e).2
    cases b with
    | false =>
      simp only [Bool.false_eq_true, if_false] at q9 ⊢
      exact seg_again rfl (fin (Nat.le_of_lt hmn) hca I9 q9)
    | true =>
      simp only [if_true] at q9 ⊢
      have hy : ∀ v, yieldOut cenv v = yieldValue v := fun v => by simp only [yieldOut, hco, Bool.false_eq_true, if_false]
      simp only [hy]
      rw [Sem.bind_eq_wrap', Sem.bind_eq_wrap', Sem.wrap_wrap, Sem.wrap_wrap]
      obtain ⟨n', rfl⟩ : ∃ n', n = n' + 1 := ⟨n - 1, by omega⟩
      refine seg_wrap (by
        rw [e]
        exact thnF (pe.run _ s9 σ8 H9 _ I9 q9) fun z s10 ⟨yv, H10, I10, r10, qG⟩ => seg_at (seg_yield rfl rfl rfl ⟨a, pl, pinsAt fp s7.heap, σ8, H10, yv, Nx, hca, fun p hp => (of_pinsAt hp).1, I10, r10, qG, fun s'' a' pl' H'' hca' I'' nx => seg_again rfl (fin (Nat.le_of_lt_succ hmn) hca' I'' nx)⟩))

theorem seg_start {X : Cx} {A : Around} {cenv : Env} {fp : List Addr} {tg iter elt : Expr} {ifs : List Expr} {scope : Scope} {pos : Pos} {it : Addr} {tn : Nat → Heap → Prop} {J : It}
    {R : GenEnd} {Y : Protocol} {n : Nat} {s₀ s : Shared} {i : Nat}
    (T : Turn X.prog X.w X.K tg J fp it tn) (st : tn i s.heap)
    (loop : Seg (model X.prog X.w) A R Y n s₀ (.compLoop (.GeneratorExp elt [⟨tg, iter, ifs, 0⟩] scope pos) 0 (.ref it) .none cenv)
        ((model X.prog X.w).den (.compLoop (.GeneratorExp elt [⟨tg, iter, ifs, 0⟩] scope pos) 0 (.ref it) .none cenv)) [] s) :
    Seg (model X.prog X.w) A R Y n s₀ (.compStart (.GeneratorExp elt [⟨tg, iter, ifs, 0⟩] scope pos) 0 (.ref it) .none cenv)
        ((model X.prog X.w).den (.compStart (.GeneratorExp elt [⟨tg, iter, ifs, 0⟩] scope pos) 0 (.ref it) .none cenv)) [] s := by
  show Seg _ A _ _ _ s₀ _ ((compStart (.GeneratorExp elt [⟨tg, iter, ifs, 0⟩] scope pos) 0 (.ref it) .none cenv).onRaise (leaving cenv)) [] s
  unfold compStart
  rw [Sem.onRaise_eq_wrap]
  show Seg _ A _ _ _ s₀ _ ((ask >>= _).wrap _ _ _ _) [] s
  refine seg_bind_wrap (wpAny_askSetting ?_)
  split
  · exact seg_again rfl loop
  · first
      | exact seg_bind_wrap (wpAny_rule (seg_bind_wrap (wpAny_standAt (seg_bind_wrap (T.self _ i s _ _ st (seg_again rfl loop))))))
      | (refine seg_bind_wrap (wpAny_rule ?_); show Seg _ A _ _ _ s₀ _ ((standAt iter.pos >>= _).wrap _ _ _ _) [] s; exact seg_bind_wrap (wpAny_standAt (seg_bind_wrap (T.self _ i s _ _ st (seg_again rfl loop)))))
end
end Gx
namespace Gx
open PySem PySem.Spec PyProof.Rows L2 GenW GxR

theorem Inv.gens {X : Cx} {pins : List (Addr × Obj)} {σ : L2.St} {H : Hp} {s : Shared} (I : Inv X pins σ H s) {g' : Array GenState} (hg : AllBare g') : Inv X pins σ H { s with gens := g' } :=
  ⟨I.ok, I.os, hg, I.base, I.loc, I.cell, I.free, I.freeC, I.pin, I.hok, I.len⟩

section
variable {X : Cx} {pins : List (Addr × Obj)} {σ : L2.St} {H : Hp} {s : Shared}
/-- the frame is made, the generator stands: its own context -/
theorem gx_inv {scope : Scope} {own : List (Str × Nat)} {fp : List Addr} {A' : Around} {code : Value} {m0 : Str → Option Value} {s6 : Shared} {pn pl : List (Addr × Obj)}
    (I : Inv X pins σ H s) (ok : BlkOk X.N X.env.scope scope own) (hN : X.N.Nodup) (hcell : ∀ y ∈ scope.names, y.2 ≠ .cell) (hfp : ∀ b ∈ fp, FpOk X pins H b ∧ b < s.heap.objs.size)
    (hA : A'.handled = none) (hfr : A'.frames = some (genEnv scope (cloFrom X.env.cells scope.names []) s.heap.objs.size code builtinsNs X.env :: X.stack))
    (kp : ∀ b o, s.heap.get? b = some o → s6.heap.get? b = some o) (ns : s6.heap.Ns s.heap.objs.size m0) (os : s6.os = s.os) (bare : AllBare s6.gens)
    (hp : ∀ p ∈ pn ++ pl, s6.heap.get? p.1 = some p.2 ∧ s.heap.objs.size < p.1 ∧ ∀ v, p.2.data ≠ .cell v) :
    Inv (gx X A' s H (genEnv scope (cloFrom X.env.cells scope.names []) s.heap.objs.size code builtinsNs X.env) fp pn) pl (wipe σ (own.map (·.2))) H s6 := by
  have hfree : ∀ y ∈ scope.names, y.2 = .free → ∃ c, X.env.cells.lookup y.1 = some c := fun y hy e => by
    rcases ok.free y hy e with k | k
    · exact I.ok.has _ (.inl k)
    · exact I.ok.has _ (.inr k)
  generalize hcenv : genEnv scope (cloFrom X.env.cells scope.names []) s.heap.objs.size code builtinsNs X.env = cenv at hfr ⊢
  have hL : cenv.locals = s.heap.objs.size := by rw [← hcenv]; rfl
  have hcl : cenv.cells = cloFrom X.env.cells scope.names [] := by rw [← hcenv]; rfl
  have hsc : cenv.scope = scope := by rw [← hcenv]; rfl
  have cm : ∀ {y c}, (y, c) ∈ cloFrom X.env.cells scope.names [] → X.env.cells.lookup y = some c ∧ c < s.heap.objs.size := fun {y c} hm => by
    rcases cloFrom_mem hm with hm | ⟨h1, rfl⟩
    · cases hm
    · obtain ⟨c, hc⟩ := hfree _ h1 rfl
      rw [hc]
      obtain ⟨w, z⟩ := I.cell _ _ hc
      exact ⟨rfl, z.lt⟩
  have mem : ∀ {y c}, cenv.cells.lookup y = some c → X.env.cells.lookup y = some c ∧ c < s.heap.objs.size := fun {y c} e => by
    rw [hcl] at e
    exact cm (PySem.mem_of_lookup e)
  have look : ∀ {y}, scope.names.lookup y = some .free → ∃ c, cenv.cells.lookup y = some c ∧ X.env.cells.lookup y = some c := fun {y} hl => by
    have hy : (y, NameKind.free) ∈ scope.names := PySem.mem_of_lookup hl
    obtain ⟨c', e'⟩ := mem_lookup (cloFrom_has (cells := X.env.cells) (acc := []) hy)
    exact ⟨c', by rw [hcl]; exact e', (cm (PySem.mem_of_lookup e')).1⟩
  have okB : (gx X A' s H cenv fp pn).Ok := by
    refine ⟨I.ok.mod, by show cenv.scope.kind = _; rw [hsc]; exact ok.kind, by show cenv.globals = _; rw [← hcenv]; exact I.ok.glob, by show cenv.builtins = _; rw [← hcenv]; rfl, by show s.heap.objs.size ≤ cenv.locals; rw [hL]; exact Nat.le_refl _,
      fun y z c e1 e2 => ?_, fun y hy => ?_, fun y c z e => Bool.noConfusion (show false = true from z), fun _ => hA, hfr, .inr ⟨rfl, by show cenv.frame = some cenv.locals; rw [← hcenv]; rfl⟩, fun b hb => ⟨?_, fun y c e z => ?_⟩, I.bs, Nat.le_trans I.ok.bsz I.sz, fun b o e hb => ?_, fun b hb z => ?_, I.stack, I.stkFree⟩
    · exact I.ok.inj y z c (mem e1).1 (mem e2).1
    · show ∃ c, cenv.cells.lookup y = some c
      have key : ∀ k, cenv.kindOf y = some k → (k = .cell ∨ k = .free) → ∃ c, cenv.cells.lookup y = some c := fun k hk hk' => by
        unfold Env.kindOf at hk
        rw [hsc] at hk
        rcases hk' with rfl | rfl
        · exact absurd rfl (hcell _ (PySem.mem_of_lookup hk))
        · obtain ⟨c, h1, _⟩ := look hk
          exact ⟨c, h1⟩
      rcases hy with hy | hy
      · exact key _ hy (.inl rfl)
      · exact key _ hy (.inr rfl)
    · show b ≠ cenv.locals
      rw [hL]; exact Nat.ne_of_lt (hfp b hb).2
    · have e : cenv.cells.lookup y = some c := e
      exact (hfp b hb).1.2.2.2.2.1 y c (mem e).1 z
    · rcases (hfp b hb).1.2.2.2.1 with z | z
      · exact I.ok.noex b o e z
      · exact absurd (Nat.lt_of_lt_of_le (Heap.lt_size e) (Nat.le_trans I.ok.bsz z)) (Nat.lt_irrefl _)
    · rcases List.mem_cons.mp (I.stkSub b z) with z | z
      · exact (hfp b hb).1.2.1 z
      · exact (hfp b hb).1.2.2.1 z
  refine ⟨okB, os, bare, Un.kept kp, ⟨m0, ?_, fun i y av e1 e2 e3 => ?_⟩, fun y c e => ?_, ?_, fun y c e => ?_, fun p hq => ?_, I.hok.kept kp, by rw [wipe_length]; exact I.len⟩
  · show s6.heap.Ns cenv.locals _
    rw [hL]
    exact ns
  · obtain ⟨e2, hne⟩ := wipe_some e2
    have hfr : scope.names.lookup y = some .free ∧ cenv.kindOf y = some .free := by
      have key : ∀ k, cenv.scope.names.lookup y = some k → k = .local ∨ k = .cell ∨ k = .free → scope.names.lookup y = some .free ∧ cenv.kindOf y = some .free := fun k hk hk' => by
        have hk0 := hk
        rw [hsc] at hk
        have no : ¬ (k = .local ∨ k = .cell) := fun hh => by
          rcases ok.own _ (PySem.mem_of_lookup hk) hh with e' | e'
          · obtain ⟨p, hp, hpy⟩ := List.mem_map.mp e'
            have e3 := ok.ix p hp
            have : p.1 = y := hpy
            rw [this] at e3
            exact hne (List.mem_map.mpr ⟨p, hp, nodup_ix hN e3 e1⟩)
          · exact e' (List.mem_of_getElem? e1)
        rcases hk' with rfl | rfl | rfl
        · exact absurd (.inl rfl) no
        · exact absurd (.inr rfl) no
        · exact ⟨hk, hk0⟩
      have e3 : Vis cenv.scope y := e3
      rcases e3 with e3 | e3 | e3
      · exact key _ e3 (.inl rfl)
      · exact key _ e3 (.inr (.inl rfl))
      · exact key _ e3 (.inr (.inr rfl))
    obtain ⟨m, hn, hl⟩ := I.loc
    have hvis : Vis X.env.scope y := (ok.free _ (PySem.mem_of_lookup hfr.1) rfl).elim (fun k => .inr (.inl k)) (fun k => .inr (.inr k))
    obtain ⟨w, r, q⟩ := hl i y av e1 e2 hvis
    refine ⟨w, r, .inr ⟨.inr hfr.2, ?_⟩⟩
    obtain ⟨c, h1, h2⟩ := look hfr.1
    rcases q with ⟨k, _⟩ | ⟨_, c', e', z⟩
    · have k : X.env.scope.names.lookup y = some .local := k
      rcases ok.free _ (PySem.mem_of_lookup hfr.1) rfl with k' | k' <;> rw [show X.env.scope.names.lookup y = _ from k'] at k <;> cases k
    · rw [h2] at e'; cases e'
      exact ⟨c, h1, z.keeps kp⟩
  · have e : cenv.cells.lookup y = some c := e
    obtain ⟨w, z⟩ := I.cell y c (mem e).1
    exact ⟨w, z.keeps kp⟩
  · show H cenv.locals = none
    rw [hL]; exact I.hok.fresh (Nat.le_refl _)
  · have e : cenv.cells.lookup y = some c := e
    exact I.freeC y c (mem e).1
  · obtain ⟨h1, h2, h3⟩ := hp p hq
    have hle : s.heap.objs.size ≤ p.1 := Nat.le_of_lt h2
    refine ⟨h1, I.hok.fresh hle, by show p.1 ≠ cenv.locals; rw [hL]; exact Nat.ne_of_gt h2, fun z => ?_, h3⟩
    have z : p.1 ∈ frs X.stack := z
    rcases List.mem_cons.mp (I.stkSub _ z) with z | z
    · have h4 := I.lt
      rw [← z] at h4
      exact absurd (Nat.lt_of_lt_of_le h4 hle) (Nat.lt_irrefl _)
    · exact I.nofs hle z

/-- the generator is done with: back in the def's context -/
theorem gx_leave {A' : Around} {cenv : Env} {fp : List Addr} {pn pl : List (Addr × Obj)} {σ' : L2.St} {H' : Hp} {s' : Shared} (I : Inv X pins σ H s) (hfp : ∀ b ∈ fp, FpOk X pins H b) (I' : Inv (gx X A' s H cenv fp pn) pl σ' H' s') : Inv X pins σ H' s' :=
  I.call' (ch := fp) I'.os I'.base I'.hok I'.bare fun b hb => ⟨(hfp b hb).2.2.2.1, (hfp b hb).2.1, (hfp b hb).2.2.2.2.1, (hfp b hb).2.2.2.2.2⟩

/-- a generator expression is made: behind it, at s4 the def's own invariant (its table may have grown), at the value's state the frame C and the generator's object -/
theorem gx_make {c P : Addr} {elt tg iter : Expr} {ifs : List Expr} {gpos : Pos} {scope : Scope} {own : List (Str × Nat)} {wi : TI} {Q' : Value → Shared → Prop} {R : It → Hp → Prop} {k : Nat}
    (hr : Room k X.A) (TB : TabB X.base X.mg c P) (hcode : X.env.code = .ref c) (hco : scope.isCoroutine = false) (ok : BlkOk X.N X.env.scope scope own) (hcell : ∀ y ∈ scope.names, y.2 ≠ .cell) (hdot : scope.names.lookup (".0" : Str) = some NameKind.local)
    (hi : PI X tg iter wi) (hs : ∀ v, genFold iter X.env v = pure v) (I : Inv X pins σ H s) (h : wi σ H fun J H1 => TabG H1 P ∧ R J H1)
    (hQ : ∀ (it : Addr) (fp : List Addr) (tn : Nat → Heap → Prop) (J : It) (H1 H4 : Hp) (s4 s5 : Shared) (code : Value) (go : Obj) (m0 : Str → Option Value), R J H1 → Tabbed P H1 H4 → Inv X pins σ H4 s4 → Turn X.prog X.w X.K tg J fp it tn → tn 0 s4.heap → (∀ b ∈ fp, FpOk X pins H4 b ∧ b < s4.heap.objs.size) →
      (∀ b o, s4.heap.get? b = some o → s5.heap.get? b = some o) → s5.heap.Ns s4.heap.objs.size m0 → s5.os = s4.os → AllBare s5.gens →
      s5.heap.get? (s5.heap.objs.size - 1) = some go → s4.heap.objs.size < s5.heap.objs.size - 1 → (∀ v, go.data ≠ .cell v) → (∀ h : Heap, h.get? (s5.heap.objs.size - 1) = some go → h.IsGen (s5.heap.objs.size - 1) s4.gens.size) →
      s5.gens[s4.gens.size]? = some (.fresh (.compStart (.GeneratorExp elt [⟨tg, iter, ifs, 0⟩] scope gpos) 0 (.ref it) .none (genEnv scope (cloFrom X.env.cells scope.names []) s4.heap.objs.size code builtinsNs X.env))) →
      Q' (.ref (s5.heap.objs.size - 1)) s5) :
    wpAny (model X.prog X.w) X.A (eval (.GeneratorExp elt [⟨tg, iter, ifs, 0⟩] scope gpos) X.env) Q' X.xe s := by
  have hfree : ∀ y ∈ scope.names, y.2 = .free → ∃ c, X.env.cells.lookup y.1 = some c := fun y hy e => by
    rcases ok.free y hy e with k | k
    · exact I.ok.has _ (.inl k)
    · exact I.ok.has _ (.inr k)
  refine wpAny_GeneratorExp_make hco (closure_ok hfree) hcell hdot ok.kind hr.depth ?_ hs
  refine thn (hi.run pins s σ H _ I h) fun xv s1 hx => thn hx fun itv s2 h2 => ?_
  obtain ⟨it, fp, tn, J, H2, e, I2, T, st2, f2, ⟨ps, hP, ht⟩, hR⟩ := h2
  subst e
  have hPs : s2.heap.get? P = some { cls := .none, data := .fields ps } := I2.hok P _ hP
  have hPlt : P < s2.heap.objs.size := Heap.lt_size hPs
  have cd : PySem.W.CodeHd s2.heap c P := TB.code.keeps I2.bk
  refine ⟨I2.nolimit, ?_⟩
  have cont : ∀ (code : Value) (h3 : Heap) (tk : Nat) (ps' : Array Value), Heap.ExtBut P s2.heap h3 → s2.heap.objs.size ≤ h3.objs.size → h3.get? P = some { cls := .none, data := .fields ps' } → (∃ more, ps' = ps ++ more) → TriplesOk ps'.toList →
      wpAny (model X.prog X.w) X.A (builtinsFor X.env.globals X.env.builtins) (fun bi s₄ =>
        ∀ h', h'.Ns s₄.heap.objs.size (fun y => if y = ".0" then some (Value.ref it) else none) → Heap.SameBut s₄.heap.objs.size (s₄.heap.push { cls := .type "frame", data := .dict #[] }) h' →
          Q' (.ref h'.objs.size) { s₄ with
            gens := s₄.gens.push (.fresh (.compStart (.GeneratorExp elt [⟨tg, iter, ifs, 0⟩] scope gpos) 0 (.ref it) .none (genEnv scope (cloFrom X.env.cells scope.names []) s₄.heap.objs.size code bi X.env))),
            toks := s₄.toks + 1 + 1 + 1,
            heap := h'.push { cls := .type "generator", data := .fields #[.int s₄.gens.size 0, .str "<genexpr>" (s₄.toks + 1), .str (X.env.qual ++ "<genexpr>") (s₄.toks + 1 + 1)] } }) X.xe { s2 with heap := h3, toks := tk } := by
    intro code h3 tk ps' hx hsz hP3 hmore ht3
    obtain ⟨bm, ob, e1, e2, e3, e4, e5, e6, e7, e8⟩ := TB.bm
    have keep3 : ∀ b u, b ≠ P → s2.heap.get? b = some u → h3.get? b = some u := fun b u hb e => hx b u hb e
    refine wpAny_builtinsFor (m := X.mg) (by rw [I2.ok.glob]; exact (I2.mod.glob.keeps I2.bk).extBut hx TB.gP) e1 e2 (keep3 _ _ e4 (I2.bk _ _ e5)) e6 e7 e8 ?_
    intro h' hn' hs'
    obtain ⟨more, em⟩ := hmore
    subst em
    have I4 := inv_tab (more := more) (h' := h3) (g' := s2.gens) (d' := s2.drawn) (t' := tk) I2 hP (fun b u hb e => keep3 b u hb e) hP3 I2.bare
    have I4 : Inv X pins σ (upd H2 P (.tbl (ps ++ more))) { s2 with heap := h3, toks := tk } := I4
    have hsz' : h'.objs.size = h3.objs.size + 1 := by rw [hs'.1, Heap.size_push]
    have keep' : ∀ b o, h3.get? b = some o → h'.get? b = some o := fun b o e => hs'.extBut b o (Nat.ne_of_lt (Heap.lt_size e)) (Heap.get?_push_of_some _ e)
    have fP : ∀ b ∈ fp, b ≠ P := fun b hb z => by
      have q := (f2 b hb).1
      rw [z, hP] at q
      cases q
    have szf : ∀ b ∈ fp, b < s2.heap.objs.size := fun b hb => by
      obtain ⟨o, e, _⟩ := T.obj _ _ st2 b hb
      exact Heap.lt_size e
    have hlast : ∀ o : Obj, (h'.push o).objs.size - 1 = h'.objs.size := fun o => by rw [Heap.size_push]; rfl
    have := hQ it fp tn J H2 (upd H2 P (.tbl (ps ++ more))) { s2 with heap := h3, toks := tk } { s2 with
            gens := s2.gens.push (.fresh (.compStart (.GeneratorExp elt [⟨tg, iter, ifs, 0⟩] scope gpos) 0 (.ref it) .none (genEnv scope (cloFrom X.env.cells scope.names []) h3.objs.size code builtinsNs X.env))),
            toks := tk + 1 + 1 + 1,
            heap := h'.push { cls := .type "generator", data := .fields #[.int s2.gens.size 0, .str "<genexpr>" (tk + 1), .str (X.env.qual ++ "<genexpr>") (tk + 1 + 1)] } } code
            { cls := .type "generator", data := .fields #[.int s2.gens.size 0, .str "<genexpr>" (tk + 1), .str (X.env.qual ++ "<genexpr>") (tk + 1 + 1)] } (fun y => if y = ".0" then some (Value.ref it) else none)
            hR ⟨⟨ps ++ more, upd_same, ht3⟩, fun b hb => upd_ne hb⟩ I4 T (T.keep _ _ _ st2 fun b hb o e => keep3 b o (fP b hb) e) (fun b hb => ⟨⟨by rw [upd_ne (fP b hb)]; exact (f2 b hb).1, (f2 b hb).2⟩, Nat.lt_of_lt_of_le (szf b hb) hsz⟩)
            (fun b o e => Heap.get?_push_of_some _ (keep' b o e)) (hn'.push _) rfl (AllBare.push I2.bare rfl) (by show Heap.get? _ ((h'.push _).objs.size - 1) = _; rw [hlast]; exact Heap.get?_push_size _ rfl) (by show _ < (h'.push _).objs.size - 1; rw [hlast, hsz']; exact Nat.lt_succ_self _) (fun v q => by cases q)
            (fun h q => ⟨_, _, _, q, rfl, rfl, rfl⟩) (Array.getElem?_push_size ..)
    rw [show ({ s2 with
            gens := s2.gens.push (.fresh (.compStart (.GeneratorExp elt [⟨tg, iter, ifs, 0⟩] scope gpos) 0 (.ref it) .none (genEnv scope (cloFrom X.env.cells scope.names []) h3.objs.size code builtinsNs X.env))),
            toks := tk + 1 + 1 + 1,
            heap := h'.push { cls := .type "generator", data := .fields #[.int s2.gens.size 0, .str "<genexpr>" (tk + 1), .str (X.env.qual ++ "<genexpr>") (tk + 1 + 1)] } } : Shared).heap.objs.size - 1 = h'.objs.size from hlast _] at this
    exact this
  cases hf : codeAmong gpos ps.toList with
  | none =>
    refine wpAny_genexprCodeX hcode (cd.code hPs ht) (cd.tab hPs) hf fun c' h' tk hx hge hlt hco' _ htab' _ => ?_
    obtain ⟨o1, vs, f1, tf, fl, tg', inF, tx, tt, op, _, _, _, _, _, _, _, _, _, htr, _⟩ := hco'
    exact cont _ h' tk _ hx (Nat.le_trans hge (Nat.le_of_lt hlt)) htab'.2 ⟨_, rfl⟩ htr
  | some cv =>
    refine wpAny_genexprCode_hit hcode (cd.code hPs ht) hf ?_
    exact cont cv s2.heap s2.toks ps (Heap.ExtBut.refl _ _) (Nat.le_refl _) hPs ⟨#[], by simp⟩ ht
end
end Gx
namespace Gx
open PySem PySem.Spec PyProof.Rows L2 GenW GxR

section
variable {X : Cx} {pins : List (Addr × Obj)} {σ : L2.St} {H4 : Hp} {s4 : Shared}
/-- asleep, ready to be asked n more times at the most -/
def Susp (X : Cx) (A : Around) (ga : Addr) (g : Nat) (R : GenEnd) (Y : Protocol) (n : Nat) (s : Shared) : Prop :=
  s.heap.IsGen ga g ∧ s.heap.NoLimit ∧ ∃ gs, s.gens[g]? = some gs ∧ gs.Goes (model X.prog X.w) A R Y n (.send .none) (s.setGen g .running)

abbrev NoP : Unit → List (Addr × Obj) → Prop := fun _ pl => pl = []
/-- what all, any ask of a value -/
abbrev GAll (Q : VK) : Unit → (Unit → Hp → Prop) → V → Hp → Prop := fun _ Nx y H => ∃ k, y = .bl k ∧ if k = true then Nx () H else Q (.bl false) H
abbrev FAll (Q : VK) : Unit → Hp → Prop := fun _ H => Q (.bl true) H
abbrev GAny (Q : VK) : Unit → (Unit → Hp → Prop) → V → Hp → Prop := fun _ Nx y H => ∃ k, y = .bl k ∧ if k = true then Q (.bl true) H else Nx () H
abbrev FAny (Q : VK) : Unit → Hp → Prop := fun _ H => Q (.bl false) H

theorem all_loop {A A' : Around} {cenv : Env} {fp : List Addr} {ga : Addr} {go : Obj} {g : Nat} {Q : VK} {Rs : Result → Shared → Prop} (hh : A.handled = none) (hd : A.depth < recursionLimit)
    (I4 : Inv X pins σ H4 s4) (hfp : ∀ b ∈ fp, FpOk X pins H4 b) (hgo : ∀ h : Heap, h.get? ga = some go → h.IsGen ga g)
    (hR : ∀ b s' H', Inv X pins σ H' s' → Q (.bl b) H' → Rs (.ok (.ret (.bool b))) s') :
    ∀ (n : Nat) (s : Shared), Susp X A.in1.in1 ga g (RG (gx X A' s4 H4 cenv fp [(ga, go)]) NoP (FAll Q)) (YG (gx X A' s4 H4 cenv fp [(ga, go)]) NoP (GAll Q)) n s →
      codeAny (model X.prog X.w) A (.builtin "all.loop" ⟨[.ref ga], []⟩) Rs s := by
  intro n
  induction n with
  | zero =>
    intro s ⟨hg, hl, gs, hgs, hgo'⟩
    refine codeAny_builtin F.entry_all_loop ?_
    rw [Around.under_plainId F.plain_all_loop _]
    show wpAny _ A.in1 (pyNext (.ref ga) >>= _) _ _ s
    refine wpAny_bind (wpAny_pyNext_genexpQ (A := A.in1) hh hl hd hg hgs hgo' (fun v s₁ gs' hb hv => ?_) (fun s₁ hp h' hk => ?_))
    · obtain ⟨a, pl, ip, σ', H', y, Nx, hca, hip, I', rv, ⟨k, ek, q⟩, hk⟩ := hv
      subst ek
      cases rv
      refine wpAny_bind (wpAny_holding (wpAny_truthy_bool ?_))
      refine wpAny_bind (wpAny_letGo ?_)
      cases k with
      | true =>
        simp only [if_true] at q
        exact False.elim (hk s₁ () pl H' hca I' q)
      | false =>
        simp only [Bool.false_eq_true, if_false] at q ⊢
        exact wpAny_bind (wpAny_rule (wpAny_pure (hR false _ H' (Inv.gens (gx_leave I4 hfp I') (allBare_setGen I'.bare hb)) q)))
    · obtain ⟨a, pl, σ', H', hca, I', q⟩ := hp
      have J := (gx_leave I4 hfp I').kept (t' := s₁.toks) hk
      exact wpAny_bind (wpAny_rule (wpAny_pure (hR true _ H' (Inv.gens J (allBare_setGen I'.bare rfl)) q)))
  | succ n ih =>
    intro s ⟨hg, hl, gs, hgs, hgo'⟩
    have hgl : g < s.gens.size := (Array.getElem?_eq_some_iff.mp hgs).1
    refine codeAny_builtin F.entry_all_loop ?_
    rw [Around.under_plainId F.plain_all_loop _]
    show wpAny _ A.in1 (pyNext (.ref ga) >>= _) _ _ s
    refine wpAny_bind (wpAny_gsz (n := g + 1) hgl (wpAny_pyNext_genexpQ (A := A.in1) hh hl hd hg hgs hgo' (fun v s₁ gs' hb hv => ?_) (fun s₁ hp h' hk => ?_)))
    · intro hsz
      obtain ⟨a, pl, ip, σ', H', y, Nx, hca, hip, I', rv, ⟨k, ek, q⟩, hk⟩ := hv
      subst ek
      cases rv
      refine wpAny_bind (wpAny_holding (wpAny_truthy_bool ?_))
      refine wpAny_bind (wpAny_letGo ?_)
      cases k with
      | true =>
        simp only [if_true] at q ⊢
        have hsz1 : g < s₁.gens.size := by
          have q : (s₁.setGen g gs').gens.size = s₁.gens.size := setGen_size _ _ _
          have hsz' : g + 1 ≤ (s₁.setGen g gs').gens.size := hsz
          omega
        refine wpAny_pure ⟨plainId_quiet F.plain_all_loop _, ih (s₁.setGen g gs') ⟨hgo _ (I'.pin (ga, go) (List.mem_append_left _ (List.mem_singleton.mpr rfl))).1, I'.nolimit, gs', setGen_at hsz1, ?_⟩⟩
        exact hk ((s₁.setGen g gs').setGen g .running) () pl H' hca (Inv.gens I' (allBare_setGen (allBare_setGen I'.bare hb) rfl)) q
      | false =>
        simp only [Bool.false_eq_true, if_false] at q ⊢
        exact wpAny_bind (wpAny_rule (wpAny_pure (hR false _ H' (Inv.gens (gx_leave I4 hfp I') (allBare_setGen I'.bare hb)) q)))
    · intro hsz
      obtain ⟨a, pl, σ', H', hca, I', q⟩ := hp
      have J := (gx_leave I4 hfp I').kept (t' := s₁.toks) hk
      exact wpAny_bind (wpAny_rule (wpAny_pure (hR true _ H' (Inv.gens J (allBare_setGen I'.bare rfl)) q)))

theorem any_loop {A A' : Around} {cenv : Env} {fp : List Addr} {ga : Addr} {go : Obj} {g : Nat} {Q : VK} {Rs : Result → Shared → Prop} (hh : A.handled = none) (hd : A.depth < recursionLimit)
    (I4 : Inv X pins σ H4 s4) (hfp : ∀ b ∈ fp, FpOk X pins H4 b) (hgo : ∀ h : Heap, h.get? ga = some go → h.IsGen ga g)
    (hR : ∀ b s' H', Inv X pins σ H' s' → Q (.bl b) H' → Rs (.ok (.ret (.bool b))) s') :
    ∀ (n : Nat) (s : Shared), Susp X A.in1.in1 ga g (RG (gx X A' s4 H4 cenv fp [(ga, go)]) NoP (FAny Q)) (YG (gx X A' s4 H4 cenv fp [(ga, go)]) NoP (GAny Q)) n s →
      codeAny (model X.prog X.w) A (.builtin "any.loop" ⟨[.ref ga], []⟩) Rs s := by
  intro n
  induction n with
  | zero =>
    intro s ⟨hg, hl, gs, hgs, hgo'⟩
    refine codeAny_builtin F.entry_any_loop ?_
    rw [Around.under_plainId F.plain_any_loop _]
    show wpAny _ A.in1 (pyNext (.ref ga) >>= _) _ _ s
    refine wpAny_bind (wpAny_pyNext_genexpQ (A := A.in1) hh hl hd hg hgs hgo' (fun v s₁ gs' hb hv => ?_) (fun s₁ hp h' hk => ?_))
    · obtain ⟨a, pl, ip, σ', H', y, Nx, hca, hip, I', rv, ⟨k, ek, q⟩, hk⟩ := hv
      subst ek
      cases rv
      refine wpAny_bind (wpAny_holding (wpAny_truthy_bool ?_))
      refine wpAny_bind (wpAny_letGo ?_)
      cases k with
      | false =>
        simp only [Bool.false_eq_true, if_false] at q
        exact False.elim (hk s₁ () pl H' hca I' q)
      | true =>
        simp only [if_true] at q ⊢
        exact wpAny_bind (wpAny_rule (wpAny_pure (hR true _ H' (Inv.gens (gx_leave I4 hfp I') (allBare_setGen I'.bare hb)) q)))
    · obtain ⟨a, pl, σ', H', hca, I', q⟩ := hp
      have J := (gx_leave I4 hfp I').kept (t' := s₁.toks) hk
      exact wpAny_bind (wpAny_rule (wpAny_pure (hR false _ H' (Inv.gens J (allBare_setGen I'.bare rfl)) q)))
  | succ n ih =>
    intro s ⟨hg, hl, gs, hgs, hgo'⟩
    have hgl : g < s.gens.size := (Array.getElem?_eq_some_iff.mp hgs).1
    refine codeAny_builtin F.entry_any_loop ?_
    rw [Around.under_plainId F.plain_any_loop _]
    show wpAny _ A.in1 (pyNext (.ref ga) >>= _) _ _ s
    refine wpAny_bind (wpAny_gsz (n := g + 1) hgl (wpAny_pyNext_genexpQ (A := A.in1) hh hl hd hg hgs hgo' (fun v s₁ gs' hb hv => ?_) (fun s₁ hp h' hk => ?_)))
    · intro hsz
      obtain ⟨a, pl, ip, σ', H', y, Nx, hca, hip, I', rv, ⟨k, ek, q⟩, hk⟩ := hv
      subst ek
      cases rv
      refine wpAny_bind (wpAny_holding (wpAny_truthy_bool ?_))
      refine wpAny_bind (wpAny_letGo ?_)
      cases k with
      | false =>
        simp only [Bool.false_eq_true, if_false] at q ⊢
        have hsz1 : g < s₁.gens.size := by
          have q : (s₁.setGen g gs').gens.size = s₁.gens.size := setGen_size _ _ _
          have hsz' : g + 1 ≤ (s₁.setGen g gs').gens.size := hsz
          omega
        refine wpAny_pure ⟨plainId_quiet F.plain_any_loop _, ih (s₁.setGen g gs') ⟨hgo _ (I'.pin (ga, go) (List.mem_append_left _ (List.mem_singleton.mpr rfl))).1, I'.nolimit, gs', setGen_at hsz1, ?_⟩⟩
        exact hk ((s₁.setGen g gs').setGen g .running) () pl H' hca (Inv.gens I' (allBare_setGen (allBare_setGen I'.bare hb) rfl)) q
      | true =>
        simp only [if_true] at q ⊢
        exact wpAny_bind (wpAny_rule (wpAny_pure (hR true _ H' (Inv.gens (gx_leave I4 hfp I') (allBare_setGen I'.bare hb)) q)))
    · intro hsz
      obtain ⟨a, pl, σ', H', hca, I', q⟩ := hp
      have J := (gx_leave I4 hfp I').kept (t' := s₁.toks) hk
      exact wpAny_bind (wpAny_rule (wpAny_pure (hR false _ H' (Inv.gens J (allBare_setGen I'.bare rfl)) q)))

/-- the reading of a generator expression's walk: the table may grow, then the turns -/
def tGx {α : Type} (P : Addr) (wi : TI) (g : TG) (tt : TT) (te : TE) (vs : List Nat) (a0 : α) (G : α → (α → Hp → Prop) → V → Hp → Prop) (F : α → Hp → Prop) : L2.St → Hp → Prop := fun σ H =>
  wi σ H fun J H1 => TabG H1 P ∧ ∀ H2, Tabbed P H1 H2 → ∃ W : Nat → Nat → α → Hp → Prop, (∃ m, W 0 m a0 H2) ∧ Turns J g tt te vs σ W G F
def tAllG (P : Addr) (wi : TI) (g : TG) (tt : TT) (te : TE) (vs : List Nat) : TE := fun σ H Q => tGx P wi g tt te vs () (GAll Q) (FAll Q) σ H
def tAnyG (P : Addr) (wi : TI) (g : TG) (tt : TT) (te : TE) (vs : List Nat) : TE := fun σ H Q => tGx P wi g tt te vs () (GAny Q) (FAny Q) σ H

/-- the contexts in which a generator expression's parts run -/
def InGx (X : Cx) (k : Nat) (scope : Scope) (p : Cx → Prop) : Prop :=
  ∀ (A : Around) (s : Shared) (H : Hp) (cl : List (Str × Addr)) (C : Addr) (code : Value) (fp : List Addr) (pn : List (Addr × Obj)), Room k (A.deeper (genEnv scope cl C code builtinsNs X.env)) → A.guards = X.A.guards →
    p (gx X (A.deeper (genEnv scope cl C code builtinsNs X.env)) s H (genEnv scope cl C code builtinsNs X.env) fp pn)

theorem room_gx {k : Nat} {A : Around} (r : Room (k + 1) A) (env : Env) : Room k (A.in1.in1.deeper env) :=
  ⟨r.hd, by have := r.dp; show A.depth + 1 + 3 * k + 5 < _; omega, by have := r.un; show A.units + 1 + 1 + 3 + 16 * k + 200 < _; omega⟩

theorem pe_allG {c P : Addr} {elt tg iter : Expr} {ifs : List Expr} {p pos gpos : Pos} {scope : Scope} {own : List (Str × Nat)} {wi : TI} {g : TG} {tt : TT} {te : TE} {k : Nat}
    (hr : Room (k + 1) X.A) (hg : Gl X "all") (hm : X.mg "all" = none) (hb : bootBuiltins "all" = some (.builtin "all")) (hc : X.calm = true) (hN : X.N.Nodup) (TB : TabB X.base X.mg c P) (hcode : X.env.code = .ref c)
    (hco : scope.isCoroutine = false) (ok : BlkOk X.N X.env.scope scope own) (hcell : ∀ y ∈ scope.names, y.2 ≠ .cell) (hdot : scope.names.lookup (".0" : Str) = some NameKind.local)
    (hi : PI X tg iter wi) (pg : InGx X k scope fun X' => PG X' tg g) (pt : InGx X k scope fun X' => PTs X' ifs tt) (pe : InGx X k scope fun X' => PE X' elt te)
    (hs : ∀ v, genFold iter X.env v = pure v)
    (he : starEach [.GeneratorExp elt [⟨tg, iter, ifs, 0⟩] scope gpos] X.env = (false, eval (.GeneratorExp elt [⟨tg, iter, ifs, 0⟩] scope gpos) X.env) :: starEach [] X.env := by rfl) :
    PE X (.Call (.Name "all" p) [.GeneratorExp elt [⟨tg, iter, ifs, 0⟩] scope gpos] [] pos) (tAllG P wi g tt te (own.map (·.2))) := by
  refine ⟨fun pins s σ H Q I h => ?_⟩
  refine wpAny_Call_Name_kw (ld_blt I hg hm hb ?_)
  refine PyProof.Rows.callWith_builtin1 ?_ he (by rfl)
  rw [he]
  show wpAny _ _ (spliced ((false, eval (.GeneratorExp elt [⟨tg, iter, ifs, 0⟩] scope gpos) X.env) :: backTo pos (starEach [] X.env))) _ _ s
  refine Calls.spliced_cons (gx_make (R := fun J H1 => ∀ H2, Tabbed P H1 H2 → ∃ W : Nat → Nat → Unit → Hp → Prop, (∃ m, W 0 m () H2) ∧ Turns J g tt te (List.map (fun x : Str × Nat => x.2) own) σ W (GAll Q) (FAll Q)) hr TB hcode hco ok hcell hdot hi hs I h
    fun it fp tn J H1 H4 s4 s5 code go m0 hR hT I4 T st4 f4 kp ns os bare ego hlt hcl hgo hgs => ?_)
  refine Calls.spliced_nil ?_
  obtain ⟨W, ⟨m, w0⟩, turn⟩ := hR H4 hT
  generalize hga : s5.heap.objs.size - 1 = ga at ego hlt hgo ⊢
  refine call_function_tree F.kind_all F.plain_all F.entry_all (F.args_all1 _) ?_
  unfold Builtin.«all»
  refine wpAny_bind (m := oneArg "all" _) (wpAny_pure ?_)
  refine wpAny_bind (wpAny_pyIter_gen (hgo _ ego) ?_)
  have hrg := room_gx hr (genEnv scope (cloFrom X.env.cells scope.names []) s4.heap.objs.size code builtinsNs X.env)
  have bare' : AllBare (s5.setGen s4.gens.size .running).gens := allBare_setGen bare rfl
  have I5 := gx_inv (A' := X.A.in1.in1.deeper (genEnv scope (cloFrom X.env.cells scope.names []) s4.heap.objs.size code builtinsNs X.env)) (code := code) (s6 := s5.setGen s4.gens.size .running) (pn := [(ga, go)]) (pl := []) I4 ok hN hcell f4 hr.hd
    (Around.frames_deeper I4.ok.frames) kp ns os bare' (fun p hp => by
      rcases List.mem_append.mp hp with z | z
      · rw [List.mem_singleton.mp z]
        exact ⟨ego, hlt, hcl⟩
      · cases z)
  refine wpAny_pure ⟨plainId_quiet F.plain_all_loop _, all_loop (A := X.A) (A' := X.A.in1.in1.deeper (genEnv scope (cloFrom X.env.cells scope.names []) s4.heap.objs.size code builtinsNs X.env)) (cenv := genEnv scope (cloFrom X.env.cells scope.names []) s4.heap.objs.size code builtinsNs X.env) hr.hd hr.depth I4 (fun b hb => (f4 b hb).1) hgo (fun b s' H' I' q => ⟨.bl b, H', I', rfl, q⟩) (m + 1) s5 ⟨hgo _ ego, I4.nolimit.keeps kp, _, hgs, rfl, ?_⟩⟩
  refine seg_start (X := X) T (T.keep _ _ _ st4 fun b hb o e => kp b o e) (seg_gx T hc hco (pg _ _ _ _ _ _ _ _ hrg rfl) (pt _ _ _ _ _ _ _ _ hrg rfl) (pe _ _ _ _ _ _ _ _ hrg rfl) (fun p hp z => ?_) (fun a pl hca p hp => by rw [hca] at hp; cases hp) turn m (m + 1) 0 () [] _ _ H4 (Nat.lt_succ_self _) rfl I5 (T.keep _ _ _ st4 fun b hb o e => kp b o e) (fun b hb => (f4 b hb).1.1) w0)
  rw [List.mem_singleton.mp hp] at z
  exact absurd (Nat.lt_trans hlt (f4 _ z).2) (Nat.lt_irrefl _)

theorem pe_anyG {c P : Addr} {elt tg iter : Expr} {ifs : List Expr} {p pos gpos : Pos} {scope : Scope} {own : List (Str × Nat)} {wi : TI} {g : TG} {tt : TT} {te : TE} {k : Nat}
    (hr : Room (k + 1) X.A) (hg : Gl X "any") (hm : X.mg "any" = none) (hc : X.calm = true) (hN : X.N.Nodup) (TB : TabB X.base X.mg c P) (hcode : X.env.code = .ref c)
    (hco : scope.isCoroutine = false) (ok : BlkOk X.N X.env.scope scope own) (hcell : ∀ y ∈ scope.names, y.2 ≠ .cell) (hdot : scope.names.lookup (".0" : Str) = some NameKind.local)
    (hi : PI X tg iter wi) (pg : InGx X k scope fun X' => PG X' tg g) (pt : InGx X k scope fun X' => PTs X' ifs tt) (pe : InGx X k scope fun X' => PE X' elt te)
    (hs : ∀ v, genFold iter X.env v = pure v)
    (he : starEach [.GeneratorExp elt [⟨tg, iter, ifs, 0⟩] scope gpos] X.env = (false, eval (.GeneratorExp elt [⟨tg, iter, ifs, 0⟩] scope gpos) X.env) :: starEach [] X.env := by rfl) :
    PE X (.Call (.Name "any" p) [.GeneratorExp elt [⟨tg, iter, ifs, 0⟩] scope gpos] [] pos) (tAnyG P wi g tt te (own.map (·.2))) := by
  refine ⟨fun pins s σ H Q I h => ?_⟩
  refine wpAny_Call_Name_kw (ld_blt I hg hm boot_any ?_)
  refine PyProof.Rows.callWith_builtin1 ?_ he (by rfl)
  rw [he]
  show wpAny _ _ (spliced ((false, eval (.GeneratorExp elt [⟨tg, iter, ifs, 0⟩] scope gpos) X.env) :: backTo pos (starEach [] X.env))) _ _ s
  refine Calls.spliced_cons (gx_make (R := fun J H1 => ∀ H2, Tabbed P H1 H2 → ∃ W : Nat → Nat → Unit → Hp → Prop, (∃ m, W 0 m () H2) ∧ Turns J g tt te (List.map (fun x : Str × Nat => x.2) own) σ W (GAny Q) (FAny Q)) hr TB hcode hco ok hcell hdot hi hs I h
    fun it fp tn J H1 H4 s4 s5 code go m0 hR hT I4 T st4 f4 kp ns os bare ego hlt hcl hgo hgs => ?_)
  refine Calls.spliced_nil ?_
  obtain ⟨W, ⟨m, w0⟩, turn⟩ := hR H4 hT
  generalize hga : s5.heap.objs.size - 1 = ga at ego hlt hgo ⊢
  refine call_function_tree F.kind_any F.plain_any F.entry_any (F.args_any1 _) ?_
  unfold Builtin.«any»
  refine wpAny_bind (m := oneArg "any" _) (wpAny_pure ?_)
  refine wpAny_bind (wpAny_pyIter_gen (hgo _ ego) ?_)
  have hrg := room_gx hr (genEnv scope (cloFrom X.env.cells scope.names []) s4.heap.objs.size code builtinsNs X.env)
  have bare' : AllBare (s5.setGen s4.gens.size .running).gens := allBare_setGen bare rfl
  have I5 := gx_inv (A' := X.A.in1.in1.deeper (genEnv scope (cloFrom X.env.cells scope.names []) s4.heap.objs.size code builtinsNs X.env)) (code := code) (s6 := s5.setGen s4.gens.size .running) (pn := [(ga, go)]) (pl := []) I4 ok hN hcell f4 hr.hd
    (Around.frames_deeper I4.ok.frames) kp ns os bare' (fun p hp => by
      rcases List.mem_append.mp hp with z | z
      · rw [List.mem_singleton.mp z]
        exact ⟨ego, hlt, hcl⟩
      · cases z)
  refine wpAny_pure ⟨plainId_quiet F.plain_any_loop _, any_loop (A := X.A) (A' := X.A.in1.in1.deeper (genEnv scope (cloFrom X.env.cells scope.names []) s4.heap.objs.size code builtinsNs X.env)) (cenv := genEnv scope (cloFrom X.env.cells scope.names []) s4.heap.objs.size code builtinsNs X.env) hr.hd hr.depth I4 (fun b hb => (f4 b hb).1) hgo (fun b s' H' I' q => ⟨.bl b, H', I', rfl, q⟩) (m + 1) s5 ⟨hgo _ ego, I4.nolimit.keeps kp, _, hgs, rfl, ?_⟩⟩
  refine seg_start (X := X) T (T.keep _ _ _ st4 fun b hb o e => kp b o e) (seg_gx T hc hco (pg _ _ _ _ _ _ _ _ hrg rfl) (pt _ _ _ _ _ _ _ _ hrg rfl) (pe _ _ _ _ _ _ _ _ hrg rfl) (fun p hp z => ?_) (fun a pl hca p hp => by rw [hca] at hp; cases hp) turn m (m + 1) 0 () [] _ _ H4 (Nat.lt_succ_self _) rfl I5 (T.keep _ _ _ st4 fun b hb o e => kp b o e) (fun b hb => (f4 b hb).1.1) w0)
  rw [List.mem_singleton.mp hp] at z
  exact absurd (Nat.lt_trans hlt (f4 _ z).2) (Nat.lt_irrefl _)
end
end Gx
namespace Gx
open PySem PySem.Spec PyProof.Rows L2 GenW GxR

section
variable {X : Cx} {pins : List (Addr × Obj)} {σ : L2.St} {H4 : Hp} {s4 : Shared}
abbrev CaL (S : Addr) : List V → List (Addr × Obj) → Prop := fun ys pl => ∃ arr c, pl = [(S, lstObj arr c)] ∧ Vals ys arr.toList
/-- what tuple asks of a value -/
abbrev GTup : List V → (List V → Hp → Prop) → V → Hp → Prop := fun acc Nx y H => acc.length < sizeLine ∧ Nx (acc ++ [y]) H
abbrev FTup (Q : VK) : List V → Hp → Prop := fun acc H => acc.length ≤ sizeLine ∧ ∀ p, H p = none → Q (.ref p) (upd H p (.tup acc))

theorem ext_loop {A A' : Around} {cenv : Env} {fp : List Addr} {ga S : Addr} {go : Obj} {g : Nat} {Q : VK} {Rs : Result → Shared → Prop} {res : Value} (hh : A.handled = none) (hd : A.depth < recursionLimit)
    (I4 : Inv X pins σ H4 s4) (hfp : ∀ b ∈ fp, FpOk X pins H4 b) (hgo : ∀ h : Heap, h.get? ga = some go → h.IsGen ga g) (hSa : ga ≠ S) (hA : Apart (gx X A' s4 H4 cenv fp [(ga, go)]) S) (hSf : S ∉ fp)
    (hR : ∀ s' acc arr c H', Inv X pins σ H' s' → acc.length ≤ sizeLine → Vals acc arr.toList → s'.heap.get? S = some (lstObj arr c) → (∀ p, H' p = none → Q (.ref p) (upd H' p (.tup acc))) → Rs (.ok (.ret res)) s') :
    ∀ (n : Nat) (s : Shared), Susp X A.in1.in1 ga g (RG (gx X A' s4 H4 cenv fp [(ga, go)]) (CaL S) (FTup Q)) (YG (gx X A' s4 H4 cenv fp [(ga, go)]) (CaL S) GTup) n s →
      codeAny (model X.prog X.w) A (.builtin "list.extend.loop" ⟨[.ref S, .ref ga, res], []⟩) Rs s := by
  have hpn : ∀ p ∈ (gx X A' s4 H4 cenv fp [(ga, go)]).pn, p.1 ≠ S := fun p hp => by rw [List.mem_singleton.mp hp]; exact hSa
  have hip' : ∀ {ip : List (Addr × Obj)}, (∀ p ∈ ip, p.1 ∈ (gx X A' s4 H4 cenv fp [(ga, go)]).ex) → ∀ p ∈ ip, p.1 ≠ S := fun {ip} h p hp z => hSf (by rw [← z]; exact h p hp)
  have fin : ∀ {n : Nat} {s₀ s₁ : Shared} {h' : Heap}, PG' (gx X A' s4 H4 cenv fp [(ga, go)]) (CaL S) (FTup Q) n s₀ s₁ → (∀ b o, s₁.heap.get? b = some o → h'.get? b = some o) → Rs (.ok (.ret res)) { s₁.setGen g .finished with heap := h' } := fun {n s₀ s₁ h'} hp hk => by
    obtain ⟨a, pl, σ', H', ⟨arr, c, epl, rv⟩, I', q1, q2⟩ := hp
    subst epl
    have J := (gx_leave I4 hfp I').kept (t' := s₁.toks) hk
    exact hR _ a arr c H' (Inv.gens J (allBare_setGen I'.bare rfl)) q1 rv (hk _ _ (I'.pin (S, lstObj arr c) (List.mem_append_right _ (List.mem_singleton.mpr rfl))).1) q2
  intro n
  induction n with
  | zero =>
    intro s ⟨hg, hl, gs, hgs, hgo'⟩
    refine codeAny_builtin F.entry_extend_loop ?_
    rw [Around.under_plainId F.plain_extend_loop _]
    show wpAny _ A.in1 (pyNext (.ref ga) >>= _) _ _ s
    refine wpAny_bind (wpAny_pyNext_genexpQ (A := A.in1) hh hl hd hg hgs hgo' (fun v s₁ gs' hb hv => ?_) (fun s₁ hp h' hk => wpAny_pure (fin hp hk)))
    obtain ⟨a, pl, ip, σ', H', y, Nx, ⟨arr, c, epl, rvs⟩, hip, I', rv, ⟨hz, q⟩, hk⟩ := hv
    subst epl
    have W := GI.woken hpn (hip' hip) hA ⟨arr, c, rvs, I'⟩ rv (Slept.push (s := s₁) (G := s₁.gens) (I'.pin (S, lstObj arr c) (List.mem_append_right _ List.mem_cons_self)).1 I'.bare)
    obtain ⟨arr', c', rvs', I''⟩ := W
    exact False.elim (hk _ (a ++ [y]) [(S, lstObj arr' c')] H' ⟨arr', c', rfl, rvs'⟩ I'' q)
  | succ n ih =>
    intro s ⟨hg, hl, gs, hgs, hgo'⟩
    have hgl : g < s.gens.size := (Array.getElem?_eq_some_iff.mp hgs).1
    refine codeAny_builtin F.entry_extend_loop ?_
    rw [Around.under_plainId F.plain_extend_loop _]
    show wpAny _ A.in1 (pyNext (.ref ga) >>= _) _ _ s
    refine wpAny_bind (wpAny_gsz (n := g + 1) hgl (wpAny_pyNext_genexpQ (A := A.in1) hh hl hd hg hgs hgo' (fun v s₁ gs' hb hv => ?_) (fun s₁ hp h' hk => fun _ => wpAny_pure (fin hp hk))))
    intro hsz
    obtain ⟨a, pl, ip, σ', H', y, Nx, ⟨arr, c, epl, rvs⟩, hip, I', rv, ⟨hz, q⟩, hk⟩ := hv
    subst epl
    have eS : s₁.heap.get? S = some (lstObj arr c) := (I'.pin (S, lstObj arr c) (List.mem_append_right _ List.mem_cons_self)).1
    have hlen : arr.size = a.length := by
      have e1 := rvs.length
      have e2 : arr.toList.length = arr.size := by simp
      omega
    show wpAny _ A.in1 (updateSeq S (·.push v) >>= _) _ _ _
    refine wpAny_bind ?_
    have hsz1 : g < s₁.gens.size := by
      have q : (s₁.setGen g gs').gens.size = s₁.gens.size := setGen_size _ _ _
      have hsz' : g + 1 ≤ (s₁.setGen g gs').gens.size := hsz
      omega
    have bare2 : AllBare ({ s₁.setGen g gs' with heap := s₁.heap.update S (Obj.mapSeq (·.push v)) } : Shared).gens := allBare_setGen I'.bare hb
    have W2 := GI.woken hpn (hip' hip) hA ⟨arr, c, rvs, I'⟩ rv (Slept.push (G := (({ s₁.setGen g gs' with heap := s₁.heap.update S (Obj.mapSeq (·.push v)) } : Shared).setGen g .running).gens) eS (allBare_setGen bare2 rfl))
    obtain ⟨arr', c', rvs', I''⟩ := W2
    refine wpAny_updateSeq eS rfl (wpAny_pure ⟨plainId_quiet F.plain_extend_loop _, ?_⟩) (by rw [hlen]; exact Nat.le_of_lt hz) (by show (arr.push v).size ≤ sizeLine + 1; rw [Array.size_push, hlen]; omega)
    refine ih { s₁.setGen g gs' with heap := s₁.heap.update S (Obj.mapSeq (·.push v)) } ⟨hgo _ (I''.pin (ga, go) (List.mem_append_left _ (List.mem_singleton.mpr rfl))).1, I''.nolimit, gs', setGen_at hsz1, ?_⟩
    exact hk _ (a ++ [y]) [(S, lstObj arr' c')] H' ⟨arr', c', rfl, rvs'⟩ I'' q

/-- tuple(x for ..): collected, then made a tuple -/
theorem collect_gx {A A' : Around} {cenv : Env} {fp : List Addr} {ga : Addr} {go : Obj} {g : Nat} {Q : VK} {Qc : List Value → Shared → Prop} {E : Value → Shared → Prop} {n : Nat} {s : Shared} (hh : A.handled = none) (hd : A.depth < recursionLimit)
    (I4 : Inv X pins σ H4 s4) (hfp : ∀ b ∈ fp, FpOk X pins H4 b) (hgo : ∀ h : Heap, h.get? ga = some go → h.IsGen ga g) (ego : s.heap.get? ga = some go)
    (kp : ∀ b o, s4.heap.get? b = some o → s.heap.get? b = some o) (hA : Apart (gx X A' s4 H4 cenv fp [(ga, go)]) s.heap.objs.size) (hSf : s.heap.objs.size ∉ fp)
    (start : ∀ (h' : Heap) (c : Nat), (∀ b o, s.heap.get? b = some o → h'.get? b = some o) → h'.get? s.heap.objs.size = some (lstObj #[] c) →
      Susp X A.in1.in1 ga g (RG (gx X A' s4 H4 cenv fp [(ga, go)]) (CaL s.heap.objs.size) (FTup Q)) (YG (gx X A' s4 H4 cenv fp [(ga, go)]) (CaL s.heap.objs.size) GTup) n { s with heap := h' })
    (hR : ∀ s' acc us H', Inv X pins σ H' s' → acc.length ≤ sizeLine → Vals acc us → (∀ p, H' p = none → Q (.ref p) (upd H' p (.tup acc))) → Qc us s') :
    wpAny (model X.prog X.w) A (collect (.ref ga)) Qc E s := by
  have hlt : ga < s.heap.objs.size := Heap.lt_size ego
  have hSI : s.heap.objs.size ≠ ga := Nat.ne_of_gt hlt
  unfold collect
  refine wpAny_bind (wpAny_runValue (codeAny_builtin F.entry_proto_collect ?_))
  rw [Around.under_plainId F.plain_proto_collect _]
  show wpAny _ A.in1 (newList [] >>= fun l => again (.builtin "list.__iadd__" ⟨[l, .ref ga], []⟩)) _ _ s
  refine wpAny_bind (wpAny_newObj_type ?_)
  refine wpAny_pure ⟨plainId_quiet F.plain_list_iadd _, codeAny_builtin F.entry_list_iadd ?_⟩
  rw [Around.under_plainId F.plain_list_iadd _]
  have ego1 : (s.heap.push { cls := .type "list", data := .seq ([] : List Value).toArray }).get? ga = some go := Heap.get?_push_of_some _ ego
  show wpAny _ A.in1 (Builtin.List.listExtendWith (.ref s.heap.objs.size) (.ref ga) (.ref s.heap.objs.size)) _ _ _
  unfold Builtin.List.listExtendWith
  refine wpAny_bind (wpAny_typeOf (Heap.IsGen.typeIs (s := { s with heap := _ }) (hgo _ ego1)) ?_)
  have h1 : Builtin.List.listSameRef (.ref s.heap.objs.size) (.ref ga) = false := by simp [Builtin.List.listSameRef, hSI]
  have h2 : (Value.type "generator" == Value.type "list") = false := by decide
  have h3 : (Value.type "generator" == Value.type "tuple") = false := by decide
  simp only [h1, h2, h3, Bool.or_false, Bool.false_eq_true, if_false]
  refine wpAny_bind (wpAny_pyIter_gen (s := { s with heap := _ }) (hgo _ ego1) ?_)
  refine wpAny_bind (wpAny_holding ?_)
  unfold Builtin.List.listLengthHint
  refine wpAny_bind (wpAny_specialOf (Heap.IsGen.typeIs (s := { s with heap := _ }) (hgo _ ego1)) F.gen_no_len ?_)
  show wpAny _ A.in1 (specialOf (Value.ref ga) (Str.ofString "__length_hint__") >>= _) _ _ _
  refine wpAny_bind (wpAny_specialOf (Heap.IsGen.typeIs (s := { s with heap := _ }) (hgo _ ego1)) F.gen_no_hint ?_)
  refine wpAny_pure ?_
  show wpAny _ A.in1 (rule "list.extend.makes-room" >>= fun _ => Builtin.List.listTouch (.ref s.heap.objs.size) >>= fun _ =>
    again (.builtin "list.extend.loop" ⟨[.ref s.heap.objs.size, .ref ga, .ref s.heap.objs.size], []⟩)) _ _ _
  refine wpAny_bind (wpAny_rule ?_)
  have hS₁ : (s.heap.push { cls := .type "list", data := .seq ([] : List Value).toArray }).get? s.heap.objs.size = some { cls := .type "list", data := .seq ([] : List Value).toArray } := Heap.get?_push_size _ rfl
  refine wpAny_bind ?_
  show wpAny _ A.in1 (updateSeq s.heap.objs.size (·.push .none) >>= fun _ => updateSeq s.heap.objs.size (·.pop)) _ _ _
  refine wpAny_bind (wpAny_updateSeq hS₁ rfl ?_)
  have hS₂ := Heap.get?_update_self (Obj.mapSeq (·.push Value.none)) hS₁ rfl
  refine wpAny_updateSeq hS₂ rfl ?_
  have hS₃ := Heap.get?_update_self (Obj.mapSeq (·.pop)) hS₂ rfl
  have oth : ∀ b o, s.heap.get? b = some o →
      (((s.heap.push { cls := .type "list", data := .seq ([] : List Value).toArray }).update s.heap.objs.size (Obj.mapSeq (·.push Value.none))).update s.heap.objs.size (Obj.mapSeq (·.pop))).get? b = some o :=
    fun b o e => have hb : b ≠ s.heap.objs.size := Nat.ne_of_lt (Heap.lt_size e)
      (Heap.get?_update_other _ _ (Ne.symm hb)).trans ((Heap.get?_update_other _ _ (Ne.symm hb)).trans (Heap.get?_push_of_some _ e))
  refine wpAny_pure ⟨plainId_quiet F.plain_extend_loop _, ext_loop (A := A) hh hd I4 hfp hgo (Nat.ne_of_lt hlt) hA hSf (fun s' acc arr c H' I' hz rv eS q => ?_) n _ (start _ _ oth hS₃)⟩
  show wpAny _ A (load s.heap.objs.size >>= _) _ _ s'
  refine wpAny_bind (wpAny_load eS ?_)
  exact wpAny_pure (hR s' acc arr.toList H' I' hz rv q)

def tTupG (P : Addr) (wi : TI) (g : TG) (tt : TT) (te : TE) (vs : List Nat) : TE := fun σ H Q => tGx P wi g tt te vs [] GTup (FTup Q) σ H

theorem room_gx4 {k : Nat} {A : Around} (r : Room (k + 1) A) (env : Env) : Room k (A.in1.in1.in1.in1.deeper env) :=
  ⟨r.hd, by have := r.dp; show A.depth + 1 + 3 * k + 5 < _; omega, by have := r.un; show A.units + 1 + 1 + 1 + 1 + 3 + 16 * k + 200 < _; omega⟩

theorem pe_tupG {c P : Addr} {elt tg iter : Expr} {ifs : List Expr} {p pos gpos : Pos} {scope : Scope} {own : List (Str × Nat)} {wi : TI} {g : TG} {tt : TT} {te : TE} {k : Nat}
    (hr : Room (k + 1) X.A) (hg : Gl X "tuple") (hm : X.mg "tuple" = none) (hb : bootBuiltins "tuple" = some (.type "tuple")) (hc : X.calm = true) (hN : X.N.Nodup) (TB : TabB X.base X.mg c P) (hcode : X.env.code = .ref c)
    (hco : scope.isCoroutine = false) (ok : BlkOk X.N X.env.scope scope own) (hcell : ∀ y ∈ scope.names, y.2 ≠ .cell) (hdot : scope.names.lookup (".0" : Str) = some NameKind.local)
    (hi : PI X tg iter wi) (pg : InGx X k scope fun X' => PG X' tg g) (pt : InGx X k scope fun X' => PTs X' ifs tt) (pe : InGx X k scope fun X' => PE X' elt te)
    (hs : ∀ v, genFold iter X.env v = pure v)
    (he : starEach [.GeneratorExp elt [⟨tg, iter, ifs, 0⟩] scope gpos] X.env = (false, eval (.GeneratorExp elt [⟨tg, iter, ifs, 0⟩] scope gpos) X.env) :: starEach [] X.env := by rfl) :
    PE X (.Call (.Name "tuple" p) [.GeneratorExp elt [⟨tg, iter, ifs, 0⟩] scope gpos] [] pos) (tTupG P wi g tt te (own.map (·.2))) := by
  refine ⟨fun pins s σ H Q I h => ?_⟩
  refine wpAny_Call_Name_kw (ld_blt I hg hm hb ?_)
  refine PyProof.Rows.callWith_type1 ?_ he rfl
  rw [he]
  show wpAny _ _ (spliced ((false, eval (.GeneratorExp elt [⟨tg, iter, ifs, 0⟩] scope gpos) X.env) :: backTo pos (starEach [] X.env))) _ _ s
  refine Calls.spliced_cons (gx_make (R := fun J H1 => ∀ H2, Tabbed P H1 H2 → ∃ W : Nat → Nat → List V → Hp → Prop, (∃ m, W 0 m [] H2) ∧ Turns J g tt te (List.map (fun x : Str × Nat => x.2) own) σ W GTup (FTup Q)) hr TB hcode hco ok hcell hdot hi hs I h
    fun it fp tn J H1 H4 s4 s5 code go m0 hR hT I4 T st4 f4 kp ns os bare ego hlt hcl hgo hgs => ?_)
  refine Calls.spliced_nil ?_
  obtain ⟨W, ⟨m, w0⟩, turn⟩ := hR H4 hT
  generalize hga : s5.heap.objs.size - 1 = ga at ego hlt hgo ⊢
  have hgen := hgo _ ego
  have fin : ∀ us s' acc H', Inv X pins σ H' s' → acc.length ≤ sizeLine → Vals acc us → (∀ p, H' p = none → Q (.ref p) (upd H' p (.tup acc))) → EP X pins σ Q (.ref s'.heap.objs.size) { s' with heap := s'.heap.push { cls := .type "tuple", data := .seq us.toArray } } := fun us s' acc H' I' hz rv q => by
    refine ⟨.ref s'.heap.objs.size, upd H' s'.heap.objs.size (.tup acc), ?_, rfl, q _ (I'.hok.fresh (Nat.le_refl _))⟩
    exact I'.laid (t' := s'.toks) (fun b o e => Heap.get?_push_of_some _ e) (Nat.le_refl _) ⟨hz, us, rv, IsTup.new s'.heap _⟩
  refine callType_codes (Q₁ := fun obj s₁ => s₁.TypeIs obj "tuple" ∧ EP X pins σ Q obj s₁) F.called_tuple (F.typeCall_tuple_1 _) F.entry_object_init ?_ fun obj s₁ h₁ => ?_
  · refine codeAny_of_tree ?_
    show wpAny _ X.A.in1.in1 (do checkBuiltinCall "tuple.__new__" ⟨[.type "tuple", .ref ga], []⟩; again (.builtin "tuple.__new__" ⟨[.type "tuple", .ref ga], []⟩)) _ _ s5
    refine wpAny_bind (wpAny_of_eq (F.newCall_tuple_1 _) (wpAny_pure ⟨plainId_quiet F.plain_tuple_new _, codeAny_builtin F.entry_tuple_new ?_⟩))
    rw [Around.under_plainId F.plain_tuple_new _]
    have hsub := sub_tuple_self
    have hinit := init_tuple_lookup
    have hmh := madeHere_tuple
    have hTI : s5.TypeIs (.ref ga) "generator" := Heap.IsGen.typeIs hgen
    have hrg := room_gx4 hr (genEnv scope (cloFrom X.env.cells scope.names []) s4.heap.objs.size code builtinsNs X.env)
    have hS : ga < s5.heap.objs.size := Heap.lt_size ego
    have hC : s4.heap.objs.size < s5.heap.objs.size := Nat.lt_trans hlt hS
    have bare' : ∀ h' : Heap, AllBare (({ s5 with heap := h' } : Shared).setGen s4.gens.size .running).gens := fun h' => allBare_setGen bare rfl
    have I5 : ∀ (h' : Heap) (pl : List (Addr × Obj)), (∀ b o, s5.heap.get? b = some o → h'.get? b = some o) → (∀ p ∈ pl, h'.get? p.1 = some p.2 ∧ s4.heap.objs.size < p.1 ∧ ∀ v, p.2.data ≠ .cell v) → Inv (gx X (X.A.in1.in1.in1.in1.deeper (genEnv scope (cloFrom X.env.cells scope.names []) s4.heap.objs.size code builtinsNs X.env)) s4 H4 (genEnv scope (cloFrom X.env.cells scope.names []) s4.heap.objs.size code builtinsNs X.env) fp [(ga, go)]) pl (wipe σ (List.map (fun x : Str × Nat => x.2) own)) H4 (({ s5 with heap := h' } : Shared).setGen s4.gens.size .running) := fun h' pl kp' hp =>
      gx_inv (A' := X.A.in1.in1.in1.in1.deeper (genEnv scope (cloFrom X.env.cells scope.names []) s4.heap.objs.size code builtinsNs X.env)) (code := code) (s6 := ({ s5 with heap := h' } : Shared).setGen s4.gens.size .running) (pn := [(ga, go)]) (pl := pl) I4 ok hN hcell f4 hr.hd
        (Around.frames_deeper I4.ok.frames) (fun b o e => kp' b o (kp b o e)) (ns.keeps kp') os (bare' h') (fun p hq => by
          rcases List.mem_append.mp hq with z | z
          · rw [List.mem_singleton.mp z]
            exact ⟨kp' _ _ ego, hlt, hcl⟩
          · exact hp p z)
    have hcol := collect_gx (A := X.A.in1.in1) (A' := X.A.in1.in1.in1.in1.deeper (genEnv scope (cloFrom X.env.cells scope.names []) s4.heap.objs.size code builtinsNs X.env))
      (cenv := genEnv scope (cloFrom X.env.cells scope.names []) s4.heap.objs.size code builtinsNs X.env) (g := s4.gens.size) (Q := Q) (E := X.xe) (n := m + 1) (s := s5)
      (Qc := fun us s' => EP X pins σ Q (.ref s'.heap.objs.size) { s' with heap := s'.heap.push { cls := .type "tuple", data := .seq us.toArray } } ∧ us.length ≤ sizeLine)
      hr.hd hr.depth I4 (fun b hb => (f4 b hb).1) hgo ego kp
      ⟨Nat.le_of_lt hC, Nat.ne_of_gt hC, fun x c e z => ?_⟩ (fun z => absurd (Nat.lt_trans hC (f4 _ z).2) (Nat.lt_irrefl _)) (fun h' c kp' eS => ?_)
      (fun s' acc us H' I' hz rv q => ⟨fin us s' acc H' I' hz rv q, by rw [← rv.length]; exact hz⟩)
    · wp_walk using wpAny_typeOf hTI, wpAny_mono hcol
      · rintro us s' ⟨hq, hz⟩
        show wpAny _ _ (Builtin.Tuple.tupleExact us.toArray >>= fun v => ret v) _ _ _
        unfold Builtin.Tuple.tupleExact
        refine wpAny_bind (wpAny_newObj_type ?_ (by show us.toArray.size ≤ sizeLine; rw [List.size_toArray]; exact hz))
        exact wpAny_pure ⟨⟨_, Heap.get?_push_size _ rfl, rfl⟩, hq⟩
      · intro e s h
        exact h
    · obtain ⟨v, q⟩ := (I5 s5.heap [] (fun _ _ e => e) (fun p hp => by cases hp)).cell x c e
      have q := q.lt
      rw [z] at q
      exact absurd (show s5.heap.objs.size < s5.heap.objs.size from q) (Nat.lt_irrefl _)
    · refine ⟨hgo _ (kp' _ _ ego), (I4.nolimit.keeps kp).keeps kp', _, hgs, rfl, ?_⟩
      refine seg_start (X := X) T (T.keep _ _ _ st4 fun b hb o e => kp' b o (kp b o e)) (seg_gx T hc hco (pg _ _ _ _ _ _ _ _ hrg rfl) (pt _ _ _ _ _ _ _ _ hrg rfl) (pe _ _ _ _ _ _ _ _ hrg rfl) (fun p hp z => ?_) (fun a pl hca p hp z => ?_) turn m (m + 1) 0 [] [(s5.heap.objs.size, lstObj #[] c)] _ _ H4 (Nat.lt_succ_self _) ⟨#[], c, rfl, .nil⟩
        (I5 h' _ kp' (fun p hp => by rw [List.mem_singleton.mp hp]; exact ⟨eS, hC, fun v q => by cases q⟩)) (T.keep _ _ _ st4 fun b hb o e => kp' b o (kp b o e)) (fun b hb => (f4 b hb).1.1) w0)
      · rw [List.mem_singleton.mp hp] at z
        exact absurd (Nat.lt_trans hlt (f4 _ z).2) (Nat.lt_irrefl _)
      · obtain ⟨arr, c', e, _⟩ := hca
        rw [e] at hp
        rw [List.mem_singleton.mp hp] at z
        exact absurd (Nat.lt_trans hC (f4 _ z).2) (Nat.lt_irrefl _)
  · exact ⟨h₁.1, F.args_object_init_2 obj _, object_init_meets F.called_tuple.init.lookup F.called_tuple.made (by decide) _ _ X.A.in1 _ s₁ ⟨h₁.1, rfl, h₁.2⟩⟩
end
end Gx
/-! defs called where no repr runs -/
namespace Gx
open PySem PySem.Spec PyProof.Rows L2 GenW GxR

/-- as FnOk, but where no guarded code (a repr) runs around the call -/
structure FnG (P : Program) (w : World) (K : PySem.W.Frag) (mg : Str → Option Value) (base : Heap) (k : Nat) (f : Addr) (fd : FuncData) (ps : List Str) (sp : Sp) : Prop where
  len : ∀ vs H Q E, sp vs H Q E → vs.length = ps.length
  run : ∀ (A : Around) (outer : List Env) (s : Shared) (H : Hp) (args : Args) (us : List Value) (vs : List V) (Q : VK) (E : XK), Room k A → A.guards = some [] → Env0 P w K mg base A outer s H → BindsTo s fd args (ps.zip us) → Vals vs us → sp vs H Q E →
    codeAny (model P w) A (.call (.ref f) args) (CR (L2.CX P w) outer P w H s Q E) s
theorem FnG.mono {P : Program} {w : World} {K : PySem.W.Frag} {mg : Str → Option Value} {base : Heap} {j k : Nat} {f : Addr} {fd : FuncData} {ps : List Str} {sp : Sp} (F : FnG P w K mg base j f fd ps sp) (h : j ≤ k) :
    FnG P w K mg base k f fd ps sp := ⟨F.len, fun A outer s H args us vs Q E hr => F.run A outer s H args us vs Q E (hr.mono h)⟩
theorem FnG.imp {P : Program} {w : World} {K : PySem.W.Frag} {mg : Str → Option Value} {base : Heap} {k : Nat} {f : Addr} {fd : FuncData} {ps : List Str} {sp sp' : Sp} (F : FnG P w K mg base k f fd ps sp)
    (h : ∀ vs H Q E, sp' vs H Q E → sp vs H Q E) : FnG P w K mg base k f fd ps sp' :=
  ⟨fun vs H Q E q => F.len vs H Q E (h _ _ _ _ q), fun A outer s H args us vs Q E hr hg he hb hv hs => F.run A outer s H args us vs Q E hr hg he hb hv (h _ _ _ _ hs)⟩

section
variable {P : Program} {w : World} {K : PySem.W.Frag} {mg : Str → Option Value} {base : Heap}
/-- a def by its body -/
theorem fnG_of {x qual : Str} {st : Stmt} {f : Addr} {fd : FuncData} {N ps : List Str} {k : Nat} {sp : Sp} (F : Fun K x qual st f fd) (S : FnScope N ps (defScope st)) (len : ∀ vs H Q E, sp vs H Q E → vs.length = ps.length)
    (hbody : ∀ (cdv : Value) (A : Around) (outer : List Env) (s : Shared) (H : Hp) (vs : List V) (Q : VK) (E : XK), PySem.W.codeIn K cdv qual = true → Room k (A.deeper (envOfC qual (defScope st) s.heap.objs.size f cdv)) → A.guards = some [] → sp vs H Q E →
      ∃ t, PSs (cxOf (L2.CX P w) P w K mg base N qual (defScope st) f cdv A outer s H E) (defBody st) t ∧ t { nx := fun _ H' => Q .non H', rt := Q } (start N vs) H) : FnG P w K mg base (k + 1) f fd ps sp := by
  obtain ⟨oc, od, kV, doc, pm, an, cdv, ct, osl, rfl, lk, hcd⟩ := F.ex
  refine ⟨len, fun A outer s H args us vs Q E hr hgd e0 hb r hsp => ?_⟩
  have hl := len _ _ _ _ hsp
  have KX : K.In s.heap := e0.mod.kin.keeps fun b o e => (e0.bs b o e).1
  have lim : s.heap.NoLimit := e0.mod.nolimit.keeps fun b o e => (e0.bs b o e).1
  have hkind : ∀ y ∈ ps.zip us, (defScope st).names.lookup y.1 = some .local ∨ ((defScope st).names.lookup y.1 = some .cell ∧ ((cellsFrom (s.heap.objs.size + 1) (defScope st).names []).lookup y.1).isSome = true) := fun ⟨n, v⟩ hy => by
    rcases S.par n (List.of_mem_zip hy).1 with q | q
    · exact .inl q
    · exact .inr ⟨q, PySem.W.cellsFrom_some _ _ _ (.inl q)⟩
  refine codeAny_call_function hr.depth (KX _ _ lk) rfl S.co S.gen rfl (PySem.W.codeRec_of KX hcd) (hb _ _ _ _ ?_)
  refine wpAny_newFunctionEnv_cells S.kind hkind fun env he s1 x => ?_
  subst he
  refine ⟨lim.keeps x.toInCall.keep, codeAny_func ?_⟩
  obtain ⟨t, ht, hq⟩ := hbody cdv A outer s H vs Q E hcd (hr.deeper _) hgd hsp
  have I : Inv (cxOf (L2.CX P w) P w K mg base N qual (defScope st) f cdv A outer s H E) [] (start N vs) H s1 := inv_start S hr.hd e0 hl r x
  refine wpAny_mono (ht.run [] s1 (start N vs) H _ I hq) (fun fl s' hs => ?_) fun e s' hs => hs
  have fin : ∀ {σ' : L2.St} {H' : Hp} {v : V} {u : Value}, Inv (cxOf (L2.CX P w) P w K mg base N qual (defScope st) f cdv A outer s H E) [] σ' H' s' → RelV v u → Q v H' → CE outer P w H s Q u s' :=
    fun {σ' H' v u} J rv q => ⟨v, H', J.os, J.bare, J.base, J.hok, rv, q⟩
  cases fl with
  | ret u =>
    obtain ⟨v, σ', H', J, rv, q⟩ := hs
    exact fin J rv q
  | next =>
    obtain ⟨σ', H', J, q⟩ := hs
    exact fin (v := V.non) (u := Value.none) J rfl q
  | brk =>
    obtain ⟨_, _, _, q⟩ := hs
    exact False.elim q
  | cont =>
    obtain ⟨_, _, _, q⟩ := hs
    exact False.elim q
end

section
variable {X : Cx} {k : Nat} {f C : Addr} {fd : FuncData} {ps : List Str} {sp : Sp} {dvs : List V} {ds : List Value} {E : XK} {x m : Str} {p pos apos : Pos} {e o : Expr} {es : List Expr} {ta : TE} {t : TA}
theorem run_fnG {pins : List (Addr × Obj)} {σ : L2.St} {H : Hp} {s : Shared} {Q : VK} {us : List Value} {vs : List V} (F : FnG X.prog X.w X.K X.mg X.base k f fd ps sp) (hr : Room k X.A) (hgd : X.A.guards = some []) (hb : Binds X.K fd ps ds) (hd : Vals dvs ds) (hx : Passes (L2.CX X.prog X.w) X E)
    (I : Inv X pins σ H s) (r : Vals vs us) (h : sp (vs ++ dvs) H Q E) : wpAny (model X.prog X.w) X.A (call (.ref f) us) (EP X pins σ Q) X.xe s := by
  have r2 : Vals (vs ++ dvs) (us ++ ds) := r.append hd
  have hl : (us ++ ds).length = ps.length := by rw [← r2.length]; exact F.len _ _ _ _ h
  refine wpAny_call (codeAny_mono (F.run X.A X.stack s H ⟨us, []⟩ (us ++ ds) (vs ++ dvs) Q E hr hgd I.env0 (hb s us I.kIn hl) r2 h) fun r s' hq => ?_)
  cases r with
  | error e => exact hx pins σ H s e s' I hq
  | ok fl =>
    cases fl with
    | ret u => exact I.after hq
    | next => exact False.elim hq
    | brk => exact False.elim hq
    | cont => exact False.elim hq
theorem pe_callG (F : FnG X.prog X.w X.K X.mg X.base k f fd ps sp) (hr : Room k X.A) (hgd : X.A.guards = some []) (hg : Gl X x) (hm : X.mg x = some (.ref f)) (hk : PySem.W.keepIn X.K (.ref f) = true) (hb : Binds X.K fd ps ds) (hd : Vals dvs ds) (hx : Passes (L2.CX X.prog X.w) X E)
    (ha : PA X (e :: es) t) (hdb : (x == ("__debug__" : Str)) = false := by decide) (he : starEach (e :: es) X.env = (false, eval e X.env) :: starEach es X.env := by rfl) (hpl : (backTo pos (starEach es X.env)).any (·.1) = false := by rfl) :
    PE X (.Call (.Name x p) (e :: es) [] pos) (tCall sp dvs E t) := by
  refine ⟨fun pins s σ H Q I h => ?_⟩
  refine wpAny_Call_Name_kw (ld_glob I hg hm ?_ hdb)
  refine PySem.W.callWith_K (h₀ := X.base) I.ok.mod.kin hk (thn (ha.run pos pins s σ H _ I h) fun us s1 ⟨vs, H1, I1, r, q⟩ => ⟨I1.kIn, ?_⟩) he hpl
  exact run_fnG F hr hgd hb hd hx I1 r q
theorem pe_call0G (F : FnG X.prog X.w X.K X.mg X.base k f fd ps sp) (hr : Room k X.A) (hgd : X.A.guards = some []) (hg : Gl X x) (hm : X.mg x = some (.ref f)) (hk : PySem.W.keepIn X.K (.ref f) = true) (hb : Binds X.K fd ps ds) (hd : Vals dvs ds) (hx : Passes (L2.CX X.prog X.w) X E)
    (hdb : (x == ("__debug__" : Str)) = false := by decide) : PE X (.Call (.Name x p) [] [] pos) (tCall sp dvs E tNil) := by
  refine ⟨fun pins s σ H Q I h => ?_⟩
  refine wpAny_Call_Name_kw (ld_glob I hg hm ?_ hdb)
  exact PySem.W.callWith_K0 I.kIn hk (run_fnG (us := []) F hr hgd hb hd hx I .nil h)
/-- what a call lets out is taken, by the slots at the call -/
def PassesW (X : Cx) (E : L2.St → XK) : Prop := ∀ (pins : List (Addr × Obj)) (σ : L2.St) (H : Hp) (s : Shared) (e : Value) (s' : Shared), Inv X pins σ H s → L2.CX X.prog X.w X.stack H s (E σ) e s' → X.xe e s'
theorem passW {X : Cx} {E : L2.St → XK} (tk : Takes X (fun cls d σ H => E σ cls d H)) : PassesW X E := fun _ σ _ _ e s' I c => tk e s' (XE.of_call I (fun _ _ _ h => h) c)
theorem passW0 {X : Cx} : PassesW X (fun _ => E0) := fun _ _ _ _ _ _ _ c => by
  obtain ⟨_, _, _, _, _, _, _, _, _, _, _, _, h⟩ := c
  exact h.elim
def tCallW (sp : Sp) (dvs : List V) (E : L2.St → XK) (t : TA) : TE := fun σ H Q => t σ H fun vs H1 => sp (vs ++ dvs) H1 Q (E σ)
theorem run_fnGW {EW : L2.St → XK} {pins : List (Addr × Obj)} {σ : L2.St} {H : Hp} {s : Shared} {Q : VK} {us : List Value} {vs : List V} (F : FnG X.prog X.w X.K X.mg X.base k f fd ps sp) (hr : Room k X.A) (hgd : X.A.guards = some []) (hb : Binds X.K fd ps ds) (hd : Vals dvs ds) (hx : PassesW X EW)
    (I : Inv X pins σ H s) (r : Vals vs us) (h : sp (vs ++ dvs) H Q (EW σ)) : wpAny (model X.prog X.w) X.A (call (.ref f) us) (EP X pins σ Q) X.xe s := by
  have r2 : Vals (vs ++ dvs) (us ++ ds) := r.append hd
  have hl : (us ++ ds).length = ps.length := by rw [← r2.length]; exact F.len _ _ _ _ h
  refine wpAny_call (codeAny_mono (F.run X.A X.stack s H ⟨us, []⟩ (us ++ ds) (vs ++ dvs) Q (EW σ) hr hgd I.env0 (hb s us I.kIn hl) r2 h) fun r s' hq => ?_)
  cases r with
  | error e => exact hx pins σ H s e s' I hq
  | ok fl =>
    cases fl with
    | ret u => exact I.after hq
    | next => exact False.elim hq
    | brk => exact False.elim hq
    | cont => exact False.elim hq
theorem pe_callGW {EW : L2.St → XK} (F : FnG X.prog X.w X.K X.mg X.base k f fd ps sp) (hr : Room k X.A) (hgd : X.A.guards = some []) (hg : Gl X x) (hm : X.mg x = some (.ref f)) (hk : PySem.W.keepIn X.K (.ref f) = true) (hb : Binds X.K fd ps ds) (hd : Vals dvs ds) (hx : PassesW X EW)
    (ha : PA X (e :: es) t) (hdb : (x == ("__debug__" : Str)) = false := by decide) (he : starEach (e :: es) X.env = (false, eval e X.env) :: starEach es X.env := by rfl) (hpl : (backTo pos (starEach es X.env)).any (·.1) = false := by rfl) :
    PE X (.Call (.Name x p) (e :: es) [] pos) (tCallW sp dvs EW t) := by
  refine ⟨fun pins s σ H Q I h => ?_⟩
  refine wpAny_Call_Name_kw (ld_glob I hg hm ?_ hdb)
  refine PySem.W.callWith_K (h₀ := X.base) I.ok.mod.kin hk (thn (ha.run pos pins s σ H _ I h) fun us s1 ⟨vs, H1, I1, r, q⟩ => ⟨I1.kIn, ?_⟩) he hpl
  exact run_fnGW F hr hgd hb hd hx I1 r q
theorem pe_call0GW {EW : L2.St → XK} (F : FnG X.prog X.w X.K X.mg X.base k f fd ps sp) (hr : Room k X.A) (hgd : X.A.guards = some []) (hg : Gl X x) (hm : X.mg x = some (.ref f)) (hk : PySem.W.keepIn X.K (.ref f) = true) (hb : Binds X.K fd ps ds) (hd : Vals dvs ds) (hx : PassesW X EW)
    (hdb : (x == ("__debug__" : Str)) = false := by decide) : PE X (.Call (.Name x p) [] [] pos) (tCallW sp dvs EW tNil) := by
  refine ⟨fun pins s σ H Q I h => ?_⟩
  refine wpAny_Call_Name_kw (ld_glob I hg hm ?_ hdb)
  exact PySem.W.callWith_K0 I.kIn hk (run_fnGW (us := []) F hr hgd hb hd hx I .nil h)
end
end Gx
/-! Ti: what a def does, as a function over plain data; the heap by its mutable objects alone. -/
namespace Ti
open PySem PySem.Spec PyProof.Rows L2 GxR

/-- data: tuples are values, so is a list that is never written (frz); what can change is told by its place in the store -/
inductive D where
  | non | bl (b : Bool) | int (i : Int) | str (x : Str) | ty (n : String) | tup (xs : List D) | frz (xs : List D) | ref (i : Nat) | adr (a : Addr)
/-- what stands in the store: a list -/
inductive MO where
  | lst (xs : List D)
/-- a list that is never written -/
def SqF (K : PySem.W.Frag) (H : Hp) (a : Addr) (vs : List V) : Prop := (∃ o, H a = some (.frz o (.lst vs))) ∨
  ∃ (o : Obj) (its : Array Value) (n : Nat), K.lookup a = some o ∧ o.cls = .type "list" ∧ o.dict = none ∧ o.data = .seq its n ∧ its.size ≤ sizeLine ∧ Vals vs its.toList
theorem SqF.sq {K : PySem.W.Frag} {H : Hp} {a : Addr} {vs : List V} (h : SqF K H a vs) : SqL K H a vs := by
  rcases h with h | h
  · exact .inl (.inr h)
  · exact .inr h
/-- what stays once it stands -/
def Imm : HO → Prop
  | .tup _ => True
  | .frz _ (.lst _) => True
  | .frz _ (.tup _) => True
  | _ => False
abbrev Sto := List MO
/-- an exception: its class; its own dict where it has one -/
inductive Ex where
  | plain (C : Addr)
inductive R (α : Type) where
  | ok (a : α) (S : Sto) | exc (e : Ex) (S : Sto) | stuck
abbrev Slots := List (Option D)

mutual
def Is (K : PySem.W.Frag) (ρ : List Addr) (H : Hp) : D → V → Prop
  | .non, v => v = .non
  | .bl b, v => v = .bl b
  | .int i, v => v = .int i
  | .str x, v => v = .str x
  | .ty n, v => v = .ty n
  | .ref i, v => ∃ a, ρ[i]? = some a ∧ v = .ref a
  | .adr a, v => v = .ref a
  | .tup ds, v => ∃ a vs, v = .ref a ∧ SqT K H a vs ∧ IsL K ρ H ds vs
  | .frz ds, v => ∃ a vs, v = .ref a ∧ SqF K H a vs ∧ IsL K ρ H ds vs
def IsL (K : PySem.W.Frag) (ρ : List Addr) (H : Hp) : List D → List V → Prop
  | [], [] => True
  | d :: ds, v :: vs => Is K ρ H d v ∧ IsL K ρ H ds vs
  | _, _ => False
end

def MOk (K : PySem.W.Frag) (ρ : List Addr) (H : Hp) (a : Addr) : MO → Prop
  | .lst ds => ∃ vs, H a = some (.lst vs) ∧ IsL K ρ H ds vs

/-- what does not change: the written part, the tables of code objects -/
structure Cfg where
  K : PySem.W.Frag
  T : List Addr

structure Rel (c : Cfg) (ρ : List Addr) (S : Sto) (H : Hp) : Prop where
  len : ρ.length = S.length
  nd : ρ.Nodup
  obj : ∀ (i : Nat) (a : Addr) (o : MO), ρ[i]? = some a → S[i]? = some o → MOk c.K ρ H a o
  tab : ∀ P ∈ c.T, TabG H P

/-- from one heap to a later one: tuples stay; what the store does not tell stays, but for the tables; what the store tells in addition is new -/
structure Ext (c : Cfg) (ρ : List Addr) (H : Hp) (ρ' : List Addr) (H' : Hp) : Prop where
  pre : ρ <+: ρ'
  imm : ∀ a o, H a = some o → Imm o → H' a = some o
  fr : ∀ a o, H a = some o → a ∉ ρ → a ∉ c.T → H' a = some o
  live : ∀ a o, H a = some o → ∃ o', H' a = some o'
  new : ∀ a ∈ ρ', a ∈ ρ ∨ H a = none

theorem Ext.refl {c : Cfg} {ρ : List Addr} {H : Hp} : Ext c ρ H ρ H := ⟨List.prefix_refl _, fun _ _ h _ => h, fun _ _ h _ _ => h, fun _ o h => ⟨o, h⟩, fun _ h => .inl h⟩
theorem Ext.trans {c : Cfg} {ρ ρ1 ρ2 : List Addr} {H H1 H2 : Hp} (a : Ext c ρ H ρ1 H1) (b : Ext c ρ1 H1 ρ2 H2) : Ext c ρ H ρ2 H2 where
  pre := a.pre.trans b.pre
  imm := fun p o h i => b.imm p o (a.imm p o h i) i
  fr := fun p o h n t => b.fr p o (a.fr p o h n t) (fun z => by
    rcases a.new p z with q | q
    · exact n q
    · rw [h] at q; cases q) t
  live := fun p o h => let ⟨o1, h1⟩ := a.live p o h; b.live p o1 h1
  new := fun p hp => by
    rcases b.new p hp with q | q
    · exact a.new p q
    · refine .inr ?_
      cases e : H p with
      | none => rfl
      | some o =>
        obtain ⟨o1, h1⟩ := a.live p o e
        rw [q] at h1; cases h1

section
variable {K : PySem.W.Frag} {ρ ρ' : List Addr} {H H' : Hp}
theorem sqT_imm {a : Addr} {vs : List V} (t : ∀ a o, H a = some o → Imm o → H' a = some o) (h : SqT K H a vs) : SqT K H' a vs := by
  rcases h with (h | ⟨o, h⟩) | h
  · exact .inl (.inl (t _ _ h True.intro))
  · exact .inl (.inr ⟨o, t _ _ h True.intro⟩)
  · exact .inr h
theorem sqF_imm {a : Addr} {vs : List V} (t : ∀ a o, H a = some o → Imm o → H' a = some o) (h : SqF K H a vs) : SqF K H' a vs := by
  rcases h with ⟨o, h⟩ | h
  · exact .inl ⟨o, t _ _ h True.intro⟩
  · exact .inr h
theorem pre_get {i : Nat} {a : Addr} (p : ρ <+: ρ') (h : ρ[i]? = some a) : ρ'[i]? = some a := by
  obtain ⟨t, rfl⟩ := p
  rw [List.getElem?_append_left (List.getElem?_eq_some_iff.mp h).1]
  exact h
mutual
theorem Is.mono (p : ρ <+: ρ') (t : ∀ a o, H a = some o → Imm o → H' a = some o) : ∀ {d : D} {v : V}, Is K ρ H d v → Is K ρ' H' d v
  | .non, _, h => h
  | .bl _, _, h => h
  | .int _, _, h => h
  | .str _, _, h => h
  | .ty _, _, h => h
  | .adr _, _, h => h
  | .ref _, _, h => by
    unfold Is at h ⊢
    obtain ⟨a, e, q⟩ := h
    exact ⟨a, pre_get p e, q⟩
  | .tup ds, _, h => by
    unfold Is at h ⊢
    obtain ⟨a, vs, e, s, l⟩ := h
    exact ⟨a, vs, e, sqT_imm t s, IsL.mono p t l⟩
  | .frz ds, _, h => by
    unfold Is at h ⊢
    obtain ⟨a, vs, e, s, l⟩ := h
    exact ⟨a, vs, e, sqF_imm t s, IsL.mono p t l⟩
theorem IsL.mono (p : ρ <+: ρ') (t : ∀ a o, H a = some o → Imm o → H' a = some o) : ∀ {ds : List D} {vs : List V}, IsL K ρ H ds vs → IsL K ρ' H' ds vs
  | [], [], _ => by unfold IsL; trivial
  | d :: ds, v :: vs, h => by
    unfold IsL at h ⊢
    exact ⟨Is.mono p t h.1, IsL.mono p t h.2⟩
  | [], _ :: _, h => by unfold IsL at h; exact h.elim
  | _ :: _, [], h => by unfold IsL at h; exact h.elim
end
theorem Is.ext {c : Cfg} {d : D} {v : V} (x : Ext c ρ H ρ' H') (h : Is c.K ρ H d v) : Is c.K ρ' H' d v := h.mono x.pre x.imm
theorem IsL.ext {c : Cfg} {ds : List D} {vs : List V} (x : Ext c ρ H ρ' H') (h : IsL c.K ρ H ds vs) : IsL c.K ρ' H' ds vs := h.mono x.pre x.imm
theorem IsL.nil : IsL K ρ H [] [] := by unfold IsL; trivial
theorem IsL.cons {d : D} {v : V} {ds : List D} {vs : List V} (a : Is K ρ H d v) (b : IsL K ρ H ds vs) : IsL K ρ H (d :: ds) (v :: vs) := by unfold IsL; exact ⟨a, b⟩
theorem IsL.nil_inv {vs : List V} (h : IsL K ρ H [] vs) : vs = [] := by
  cases vs with
  | nil => rfl
  | cons v vs => unfold IsL at h; exact h.elim
theorem IsL.cons_inv {d : D} {ds : List D} {vs : List V} (h : IsL K ρ H (d :: ds) vs) : ∃ v ws, vs = v :: ws ∧ Is K ρ H d v ∧ IsL K ρ H ds ws := by
  cases vs with
  | nil => unfold IsL at h; exact h.elim
  | cons v vs => unfold IsL at h; exact ⟨v, vs, rfl, h.1, h.2⟩
theorem IsL.length : ∀ {ds : List D} {vs : List V}, IsL K ρ H ds vs → ds.length = vs.length
  | [], vs, h => by rw [h.nil_inv]; rfl
  | d :: ds, vs, h => by
    obtain ⟨v, ws, rfl, _, h2⟩ := h.cons_inv
    simp [IsL.length h2]
theorem IsL.append : ∀ {ds es : List D} {vs ws : List V}, IsL K ρ H ds vs → IsL K ρ H es ws → IsL K ρ H (ds ++ es) (vs ++ ws)
  | [], es, vs, ws, h, h' => by rw [h.nil_inv]; exact h'
  | d :: ds, es, vs, ws, h, h' => by
    obtain ⟨v, us, rfl, h1, h2⟩ := h.cons_inv
    exact IsL.cons h1 (IsL.append h2 h')
theorem IsL.get : ∀ {ds : List D} {vs : List V} {i : Nat} {d : D}, IsL K ρ H ds vs → ds[i]? = some d → ∃ v, vs[i]? = some v ∧ Is K ρ H d v
  | [], _, _, _, _, e => by simp at e
  | d :: ds, vs, 0, d', h, e => by
    obtain ⟨v, us, rfl, h1, h2⟩ := h.cons_inv
    simp at e; subst e
    exact ⟨v, rfl, h1⟩
  | d :: ds, vs, i + 1, d', h, e => by
    obtain ⟨v, us, rfl, h1, h2⟩ := h.cons_inv
    obtain ⟨w, e1, e2⟩ := IsL.get (i := i) h2 (by simpa using e)
    exact ⟨w, by simpa using e1, e2⟩
theorem IsL.getV : ∀ {ds : List D} {vs : List V} {i : Nat} {v : V}, IsL K ρ H ds vs → vs[i]? = some v → ∃ d, ds[i]? = some d ∧ Is K ρ H d v
  | [], vs, i, v, h, e => by rw [h.nil_inv] at e; simp at e
  | d :: ds, vs, 0, v', h, e => by
    obtain ⟨v, us, rfl, h1, h2⟩ := h.cons_inv
    simp at e; subst e
    exact ⟨d, rfl, h1⟩
  | d :: ds, vs, i + 1, v', h, e => by
    obtain ⟨v, us, rfl, h1, h2⟩ := h.cons_inv
    obtain ⟨w, e1, e2⟩ := IsL.getV (i := i) h2 (by simpa using e)
    exact ⟨w, by simpa using e1, e2⟩
theorem IsL.drop : ∀ {ds : List D} {vs : List V} (n : Nat), IsL K ρ H ds vs → IsL K ρ H (ds.drop n) (vs.drop n)
  | _, _, 0, h => h
  | [], vs, n + 1, h => by rw [h.nil_inv]; exact IsL.nil
  | d :: ds, vs, n + 1, h => by
    obtain ⟨v, us, rfl, h1, h2⟩ := h.cons_inv
    exact IsL.drop n h2
theorem IsL.take : ∀ {ds : List D} {vs : List V} (n : Nat), IsL K ρ H ds vs → IsL K ρ H (ds.take n) (vs.take n)
  | _, _, 0, h => by simp; exact IsL.nil
  | [], vs, n + 1, h => by rw [h.nil_inv]; exact IsL.nil
  | d :: ds, vs, n + 1, h => by
    obtain ⟨v, us, rfl, h1, h2⟩ := h.cons_inv
    exact IsL.cons h1 (IsL.take n h2)
theorem IsL.reverse : ∀ {ds : List D} {vs : List V}, IsL K ρ H ds vs → IsL K ρ H ds.reverse vs.reverse
  | [], vs, h => by rw [h.nil_inv]; exact IsL.nil
  | d :: ds, vs, h => by
    obtain ⟨v, us, rfl, h1, h2⟩ := h.cons_inv
    rw [List.reverse_cons, List.reverse_cons]
    exact IsL.append (IsL.reverse h2) (IsL.cons h1 IsL.nil)
theorem IsL.dropLast {ds : List D} {vs : List V} (h : IsL K ρ H ds vs) : IsL K ρ H ds.dropLast vs.dropLast := by
  rw [List.dropLast_eq_take, List.dropLast_eq_take, h.length]
  exact h.take _
theorem IsL.rep {ds : List D} {vs : List V} (h : IsL K ρ H ds vs) : ∀ k : Nat, IsL K ρ H (List.replicate k ds).flatten (List.replicate k vs).flatten
  | 0 => IsL.nil
  | k + 1 => by
    rw [List.replicate_succ, List.replicate_succ, List.flatten_cons, List.flatten_cons]
    exact IsL.append h (IsL.rep h k)
theorem IsL.set : ∀ {ds : List D} {vs : List V} (i : Nat) {d : D} {v : V}, IsL K ρ H ds vs → Is K ρ H d v → IsL K ρ H (ds.set i d) (vs.set i v)
  | [], vs, i, _, _, h, _ => by rw [h.nil_inv]; exact IsL.nil
  | d :: ds, vs, 0, _, _, h, h' => by
    obtain ⟨v, us, rfl, h1, h2⟩ := h.cons_inv
    exact IsL.cons h' h2
  | d :: ds, vs, i + 1, _, _, h, h' => by
    obtain ⟨v, us, rfl, h1, h2⟩ := h.cons_inv
    exact IsL.cons h1 (IsL.set i h2 h')
theorem IsL.ints : ∀ {ns : List Int} {vs : List V}, IsL K ρ H (ns.map D.int) vs → vs = ns.map V.int
  | [], vs, h => h.nil_inv
  | n :: ns, vs, h => by
    obtain ⟨v, us, rfl, h1, h2⟩ := h.cons_inv
    have h1 : v = .int n := by unfold Is at h1; exact h1
    rw [h1, IsL.ints h2]; rfl
theorem IsL.ofInts : ∀ (ns : List Int), IsL K ρ H (ns.map D.int) (ns.map V.int)
  | [] => IsL.nil
  | n :: ns => IsL.cons (by unfold Is; rfl) (IsL.ofInts ns)
theorem IsL.bls : ∀ {ns : List Bool} {vs : List V}, IsL K ρ H (ns.map D.bl) vs → vs = ns.map V.bl
  | [], vs, h => h.nil_inv
  | n :: ns, vs, h => by
    obtain ⟨v, us, rfl, h1, h2⟩ := h.cons_inv
    have h1 : v = .bl n := by unfold Is at h1; exact h1
    rw [h1, IsL.bls h2]; rfl
theorem IsL.strs : ∀ {ns : List Str} {vs : List V}, IsL K ρ H (ns.map D.str) vs → vs = ns.map V.str
  | [], vs, h => h.nil_inv
  | n :: ns, vs, h => by
    obtain ⟨v, us, rfl, h1, h2⟩ := h.cons_inv
    have h1 : v = .str n := by unfold Is at h1; exact h1
    rw [h1, IsL.strs h2]; rfl
end

/-! ### heaps that grow, heaps that change -/
section
variable {c : Cfg} {ρ : List Addr} {S : Sto} {H : Hp} {p : Addr}
theorem imm_new {o : HO} (h : H p = none) : ∀ a u, H a = some u → Imm u → upd H p o a = some u := fun a u e _ => by rw [upd_ne (ne_of_none e h)]; exact e
theorem imm_lst {o : HO} {vs : List V} (h : H p = some (.lst vs)) : ∀ a u, H a = some u → Imm u → upd H p o a = some u := fun a u e i => by
  rw [upd_ne (ne_of e h (by intro z; subst z; exact i))]; exact e
/-- a new thing that the store does not tell -/
theorem Ext.laid {o : HO} (h : H p = none) : Ext c ρ H ρ (upd H p o) where
  pre := List.prefix_refl _
  imm := imm_new h
  fr := fun a o e _ _ => by rw [upd_ne (ne_of_none e h)]; exact e
  live := fun a o e => ⟨o, by rw [upd_ne (ne_of_none e h)]; exact e⟩
  new := fun _ q => .inl q
theorem MOk.mono {K : PySem.W.Frag} {ρ ρ' : List Addr} {H H' : Hp} {a : Addr} {o : MO} (h : MOk K ρ H a o) (l : H' a = H a) (pre : ρ <+: ρ') (t : ∀ a o, H a = some o → Imm o → H' a = some o) : MOk K ρ' H' a o := by
  cases o with
  | lst ds =>
    obtain ⟨vs, e, q⟩ := h
    exact ⟨vs, by rw [l]; exact e, q.mono pre t⟩
theorem MOk.live {K : PySem.W.Frag} {ρ : List Addr} {H : Hp} {a : Addr} {o : MO} (h : MOk K ρ H a o) : ∃ vs, H a = some (.lst vs) := by
  cases o with
  | lst ds =>
    obtain ⟨vs, e, q⟩ := h
    exact ⟨vs, e⟩
theorem Rel.live (r : Rel c ρ S H) {a : Addr} (h : a ∈ ρ) : ∃ vs, H a = some (.lst vs) := by
  obtain ⟨i, hi, e⟩ := List.getElem_of_mem h
  have hS : i < S.length := by rw [← r.len]; exact hi
  exact (r.obj i a S[i] (by rw [List.getElem?_eq_getElem hi, e]) (List.getElem?_eq_getElem hS)).live
theorem Rel.nin (r : Rel c ρ S H) (h : H p = none) : p ∉ ρ := fun z => by
  obtain ⟨vs, e⟩ := r.live z
  rw [h] at e; cases e
theorem Rel.get (r : Rel c ρ S H) {i : Nat} {o : MO} (h : S[i]? = some o) : ∃ a, ρ[i]? = some a ∧ MOk c.K ρ H a o := by
  have hi : i < ρ.length := by rw [r.len]; exact (List.getElem?_eq_some_iff.mp h).1
  exact ⟨ρ[i], List.getElem?_eq_getElem hi, r.obj i _ o (List.getElem?_eq_getElem hi) h⟩
theorem TabG.keep {H H' : Hp} {P : Addr} (h : TabG H P) (e : H' P = H P) : TabG H' P := by
  obtain ⟨ps, h1, h2⟩ := h
  exact ⟨ps, by rw [e]; exact h1, h2⟩
/-- a new thing, not told in the store -/
theorem Rel.laid {o : HO} (r : Rel c ρ S H) (h : H p = none) : Rel c ρ S (upd H p o) where
  len := r.len
  nd := r.nd
  obj := fun i a ob e1 e2 => by
    have m := r.obj i a ob e1 e2
    obtain ⟨vs, q⟩ := m.live
    exact m.mono (upd_ne (ne_of_none q h)) (List.prefix_refl _) (imm_new h)
  tab := fun P hP => by
    obtain ⟨ps, h1, h2⟩ := r.tab P hP
    exact ⟨ps, by rw [upd_ne (ne_of_none h1 h)]; exact h1, h2⟩
/-- a list that is laid already comes into the store -/
theorem Rel.admit {ds : List D} {vs : List V} (r : Rel c ρ S H) (h : H p = some (.lst vs)) (n : p ∉ ρ) (q : IsL c.K ρ H ds vs) : Rel c (ρ ++ [p]) (S ++ [.lst ds]) H where
  len := by simp [r.len]
  nd := List.nodup_append.mpr ⟨r.nd, by simp, fun a ha b hb e => by simp at hb; subst hb; subst e; exact n ha⟩
  obj := fun i a ob e1 e2 => by
    by_cases hi : i < ρ.length
    · rw [List.getElem?_append_left hi] at e1
      rw [List.getElem?_append_left (by rw [← r.len]; exact hi)] at e2
      exact (r.obj i a ob e1 e2).mono rfl (List.prefix_append _ _) fun _ _ e _ => e
    · have hi : ρ.length ≤ i := Nat.le_of_not_lt hi
      rw [List.getElem?_append_right hi] at e1
      rw [List.getElem?_append_right (by rw [← r.len]; exact hi), ← r.len] at e2
      have z : i - ρ.length = 0 := by
        have := (List.getElem?_eq_some_iff.mp e1).1
        simp at this; exact this
      rw [z] at e1 e2
      simp at e1 e2
      subst e1 e2
      exact ⟨vs, h, q.mono (List.prefix_append _ _) fun _ _ e _ => e⟩
  tab := r.tab
theorem Ext.admit {vs : List V} (x : H p = some (.lst vs)) {ρ0 : List Addr} {H0 : Hp} (e : Ext c ρ0 H0 ρ H) (n : H0 p = none) : Ext c ρ0 H0 (ρ ++ [p]) H where
  pre := e.pre.trans (List.prefix_append _ _)
  imm := e.imm
  fr := e.fr
  live := e.live
  new := fun a ha => by
    rcases List.mem_append.mp ha with q | q
    · exact e.new a q
    · rw [List.mem_singleton.mp q]; exact .inr n
/-- a list of the store is written -/
theorem Rel.put {i : Nat} {ds : List D} {vs ws : List V} (r : Rel c ρ S H) (hi : ρ[i]? = some p) (h : H p = some (.lst ws)) (q : IsL c.K ρ H ds vs) : Rel c ρ (S.set i (.lst ds)) (upd H p (.lst vs)) where
  len := by simp [r.len]
  nd := r.nd
  obj := fun j a ob e1 e2 => by
    by_cases z : i = j
    · subst z
      rw [hi] at e1; cases e1
      have : i < S.length := by rw [← r.len]; exact (List.getElem?_eq_some_iff.mp hi).1
      rw [List.getElem?_set_self this] at e2; cases e2
      exact ⟨vs, upd_same, q.mono (List.prefix_refl _) (imm_lst h)⟩
    · rw [List.getElem?_set_ne z] at e2
      have ne : a ≠ p := fun e => by
        subst e
        obtain ⟨h1, e1'⟩ := List.getElem?_eq_some_iff.mp hi
        obtain ⟨h2, e2'⟩ := List.getElem?_eq_some_iff.mp e1
        exact z ((List.getElem_inj r.nd).mp (e1'.trans e2'.symm))
      exact (r.obj j a ob e1 e2).mono (upd_ne ne) (List.prefix_refl _) (imm_lst h)
  tab := fun P hP => by
    obtain ⟨ps, h1, h2⟩ := r.tab P hP
    exact ⟨ps, by rw [upd_ne (ne_of h1 h (by intro z; cases z))]; exact h1, h2⟩
theorem Ext.put {vs ws : List V} (hi : p ∈ ρ) (h : H p = some (.lst ws)) : Ext c ρ H ρ (upd H p (.lst vs)) where
  pre := List.prefix_refl _
  imm := imm_lst h
  fr := fun a o e n _ => by rw [upd_ne (fun z => n (by rw [z]; exact hi))]; exact e
  live := fun a o e => by
    by_cases z : a = p
    · subst z; exact ⟨_, upd_same⟩
    · exact ⟨o, by rw [upd_ne z]; exact e⟩
  new := fun _ q => .inl q
end
end Ti
namespace Ti
open PySem PySem.Spec PyProof.Rows L2 GxR

namespace R
def wp {α : Type} (r : R α) (Q : α → Sto → Prop) (E : Ex → Sto → Prop) : Prop := match r with
  | .ok a S => Q a S
  | .exc e S => E e S
  | .stuck => False
theorem wp.mono {α : Type} {r : R α} {Q Q' : α → Sto → Prop} {E E' : Ex → Sto → Prop} (h : r.wp Q E) (hq : ∀ a S, Q a S → Q' a S) (he : ∀ e S, E e S → E' e S) : r.wp Q' E' := by
  cases r with
  | ok a S => exact hq a S h
  | exc e S => exact he e S h
  | stuck => exact h
end R
def bnd {α β : Type} (m : Sto → R α) (k : α → Sto → R β) : Sto → R β := fun S => match m S with
  | .ok a S' => k a S'
  | .exc e S' => .exc e S'
  | .stuck => .stuck
theorem wp_bnd {α β : Type} {m : Sto → R α} {k : α → Sto → R β} {S : Sto} {Q : β → Sto → Prop} {E : Ex → Sto → Prop} (h : (bnd m k S).wp Q E) : (m S).wp (fun a S' => (k a S').wp Q E) E := by
  unfold bnd at h
  cases e : m S with
  | ok a S' => rw [e] at h; exact h
  | exc x S' => rw [e] at h; exact h
  | stuck => rw [e] at h; exact h

/-! ### what is wanted -/
section
variable (c : Cfg) (ρ : List Addr) (H : Hp)
def Post (Q : VK) : D → Sto → Prop := fun d S' => ∀ v H' ρ', Rel c ρ' S' H' → Ext c ρ H ρ' H' → Is c.K ρ' H' d v → Q v H'
def PostL (Q : VK) : List D → Sto → Prop := fun ds S' => ∀ p vs H' ρ', Rel c ρ' S' H' → Ext c ρ H ρ' H' → H' p = some (.lst vs) → p ∉ ρ' → H p = none → IsL c.K ρ' H' ds vs → Q (.ref p) H'
def PostA (Q : List V → Hp → Prop) : List D → Sto → Prop := fun ds S' => ∀ vs H' ρ', Rel c ρ' S' H' → Ext c ρ H ρ' H' → IsL c.K ρ' H' ds vs → Q vs H'
def PostT (Q : Bool → Hp → Prop) : Bool → Sto → Prop := fun b S' => ∀ H' ρ', Rel c ρ' S' H' → Ext c ρ H ρ' H' → Q b H'
def XPost (E : XK) : Ex → Sto → Prop := fun x S' => match x with
  | .plain C => ∀ H' ρ', Rel c ρ' S' H' → Ext c ρ H ρ' H' → E (.ref C) none H'
end
section
variable {c : Cfg} {ρ ρ1 : List Addr} {H H1 : Hp}
theorem Ext.dead (x : Ext c ρ H ρ1 H1) {p : Addr} (h : H1 p = none) : H p = none := by
  cases e : H p with
  | none => rfl
  | some o =>
    obtain ⟨o1, h1⟩ := x.live p o e
    rw [h] at h1; cases h1
theorem Post.ext {Q : VK} {d : D} {S : Sto} (x : Ext c ρ H ρ1 H1) (h : Post c ρ H Q d S) : Post c ρ1 H1 Q d S := fun v H' ρ' r y i => h v H' ρ' r (x.trans y) i
theorem PostL.ext {Q : VK} {d : List D} {S : Sto} (x : Ext c ρ H ρ1 H1) (h : PostL c ρ H Q d S) : PostL c ρ1 H1 Q d S := fun p vs H' ρ' r y e n z i => h p vs H' ρ' r (x.trans y) e n (x.dead z) i
theorem PostA.ext {Q : List V → Hp → Prop} {d : List D} {S : Sto} (x : Ext c ρ H ρ1 H1) (h : PostA c ρ H Q d S) : PostA c ρ1 H1 Q d S := fun v H' ρ' r y i => h v H' ρ' r (x.trans y) i
theorem PostT.ext {Q : Bool → Hp → Prop} {d : Bool} {S : Sto} (x : Ext c ρ H ρ1 H1) (h : PostT c ρ H Q d S) : PostT c ρ1 H1 Q d S := fun H' ρ' r y => h H' ρ' r (x.trans y)
theorem XPost.ext {E : XK} {e : Ex} {S : Sto} (x : Ext c ρ H ρ1 H1) (h : XPost c ρ H E e S) : XPost c ρ1 H1 E e S := by
  cases e with
  | plain C => exact fun H' ρ' r y => h H' ρ' r (x.trans y)
end

/-- the slots -/
structure EnvR (c : Cfg) (ρ : List Addr) (H : Hp) (env : Slots) (σ : L2.St) : Prop where
  len : env.length = σ.length
  at_ : ∀ (i : Nat) (d : D), env[i]? = some (some d) → ∃ v, σ[i]? = some (some v) ∧ Is c.K ρ H d v
theorem EnvR.ext {c : Cfg} {ρ ρ1 : List Addr} {H H1 : Hp} {env : Slots} {σ : L2.St} (e : EnvR c ρ H env σ) (x : Ext c ρ H ρ1 H1) : EnvR c ρ1 H1 env σ :=
  ⟨e.len, fun i d h => let ⟨v, h1, h2⟩ := e.at_ i d h; ⟨v, h1, h2.ext x⟩⟩
theorem EnvR.set {c : Cfg} {ρ : List Addr} {H : Hp} {env : Slots} {σ : L2.St} {d : D} {v : V} (e : EnvR c ρ H env σ) (i : Nat) (h : Is c.K ρ H d v) : EnvR c ρ H (env.set i (some d)) (σ.set i (some v)) := by
  refine ⟨by simp [e.len], fun j d' hj => ?_⟩
  by_cases z : i = j
  · subst z
    by_cases hi : i < env.length
    · rw [List.getElem?_set_self hi] at hj
      cases hj
      exact ⟨v, by rw [List.getElem?_set_self (by rw [← e.len]; exact hi)], h⟩
    · rw [List.getElem?_eq_none (by simp; omega)] at hj
      cases hj
  · rw [List.getElem?_set_ne z] at hj ⊢
    exact e.at_ j d' hj

/-- what is wanted of an exception, by the slots -/
abbrev WK := L2.St → XK
/-! ### ties: a reading, and the function that tells what it gives -/
abbrev MD := Slots → Sto → R D
abbrev ML := Slots → Sto → R (List D)
abbrev MB := Slots → Sto → R Bool
def Tie (c : Cfg) (E : WK) (t : TE) (m : MD) : Prop := ∀ ρ S H σ env Q, Rel c ρ S H → EnvR c ρ H env σ → (m env S).wp (Post c ρ H Q) (XPost c ρ H (E σ)) → t σ H Q
def TieL (c : Cfg) (E : WK) (t : TE) (m : ML) : Prop := ∀ ρ S H σ env Q, Rel c ρ S H → EnvR c ρ H env σ → (m env S).wp (PostL c ρ H Q) (XPost c ρ H (E σ)) → t σ H Q
def TieA (c : Cfg) (E : WK) (t : TA) (m : ML) : Prop := ∀ ρ S H σ env Q, Rel c ρ S H → EnvR c ρ H env σ → (m env S).wp (PostA c ρ H Q) (XPost c ρ H (E σ)) → t σ H Q
def TieT (c : Cfg) (E : WK) (t : TT) (m : MB) : Prop := ∀ ρ S H σ env Q, Rel c ρ S H → EnvR c ρ H env σ → (m env S).wp (PostT c ρ H Q) (XPost c ρ H (E σ)) → t σ H Q

abbrev cf (X : Cx) (T : List Addr) : Cfg := ⟨X.K, T⟩
/-- an expression and what it gives -/
structure CE (X : Cx) (T : List Addr) (E : WK) (e : Expr) (m : MD) : Prop where
  ex : ∃ t, PE X e t ∧ Tie (cf X T) E t m
/-- .. that gives a new list -/
structure CL (X : Cx) (T : List Addr) (E : WK) (e : Expr) (m : ML) : Prop where
  ex : ∃ t, PE X e t ∧ TieL (cf X T) E t m
structure CA (X : Cx) (T : List Addr) (E : WK) (es : List Expr) (m : ML) : Prop where
  ex : ∃ t, PA X es t ∧ TieA (cf X T) E t m
structure CT (X : Cx) (T : List Addr) (E : WK) (e : Expr) (m : MB) : Prop where
  ex : ∃ t, PT X e t ∧ TieT (cf X T) E t m
structure CW (X : Cx) (T : List Addr) (E : WK) (e : Expr) (m : MB) : Prop where
  ex : ∃ t, PW X e t ∧ TieT (cf X T) E t m

section
variable {X : Cx} {T : List Addr} {E : WK} {e a b : Expr} {es : List Expr} {pos : Pos} {ma mb : MD}

/-! ### names, constants -/
def mvar (i : Nat) : MD := fun env S => match env[i]? with
  | some (some d) => .ok d S
  | _ => .stuck
def mcon (d : D) : MD := fun _ S => .ok d S
theorem ce_var (i : Nat) {x : Str} (hN : X.N[i]? = some x := by rfl) (hv : Vis X.env.scope x := by first | exact Or.inl rfl | exact Or.inr (Or.inl rfl) | exact Or.inr (Or.inr rfl)) (hd : (x == ("__debug__" : Str)) = false := by decide)
    (hcd : (x == ("__classdict__" : Str)) = false := by decide) : CE X T E (.Name x pos) (mvar i) := by
  refine ⟨_, pe_var hN hv hd hcd, fun ρ S H σ env Q r en h => ?_⟩
  unfold mvar at h
  cases q : env[i]? with
  | none => rw [q] at h; exact h.elim
  | some o =>
    cases o with
    | none => rw [q] at h; exact h.elim
    | some d =>
      rw [q] at h
      obtain ⟨v, h1, h2⟩ := en.at_ i d q
      exact ⟨v, h1, h v H ρ r Ext.refl h2⟩
theorem tie_con {c : Cfg} {d : D} {v : V} (h : ∀ ρ H, Is c.K ρ H d v) : Tie c E (tC v) (mcon d) := fun ρ S H σ env Q r en q => q v H ρ r Ext.refl (h ρ H)
theorem ce_int {i : Int} {j : Nat} : CE X T E (.Constant (.int i) j pos) (mcon (.int i)) := ⟨_, pe_int, tie_con fun _ _ => by unfold Is; rfl⟩
theorem ce_bl {i : Bool} {j : Nat} : CE X T E (.Constant (.bool i) j pos) (mcon (.bl i)) := ⟨_, pe_bl, tie_con fun _ _ => by unfold Is; rfl⟩
theorem ce_non {j : Nat} : CE X T E (.Constant .none j pos) (mcon .non) := ⟨_, pe_non, tie_con fun _ _ => by unfold Is; rfl⟩
theorem ce_str {i : Str} {j : Nat} : CE X T E (.Constant (.str i) j pos) (mcon (.str i)) := ⟨_, pe_str, tie_con fun _ _ => by unfold Is; rfl⟩
/-- a module's constant -/
theorem ce_glob {x : Str} {u : Value} (d : D) {v : V} (hg : Gl X x) (hm : X.mg x = some u) (r : RelV v u) (h : ∀ ρ H, Is X.K ρ H d v) (hd : (x == ("__debug__" : Str)) = false := by decide) : CE X T E (.Name x pos) (mcon d) :=
  ⟨_, pe_glob hg hm r hd, tie_con h⟩
theorem ce_globI {x : Str} {i : Int} {t : Tok} (hg : Gl X x) (hm : X.mg x = some (.int i t)) (hd : (x == ("__debug__" : Str)) = false := by decide) : CE X T E (.Name x pos) (mcon (.int i)) :=
  ce_glob (v := .int i) (.int i) hg hm ⟨t, rfl⟩ (fun _ _ => by unfold Is; rfl) hd
/-- a built-in class as a value -/
theorem ce_ty {x : Str} {n : String} (hg : Gl X x) (hm : X.mg x = none) (hv : bootBuiltins x = some (.type n)) (hn : x ≠ "__name__" := by decide) (hd : (x == ("__debug__" : Str)) = false := by decide) : CE X T E (.Name x pos) (mcon (.ty n)) :=
  ⟨_, pe_bltn (v := .ty n) hg hm hv rfl hn hd, tie_con fun _ _ => by unfold Is; rfl⟩

/-! ### argument lists, displays -/
def mnil : ML := fun _ S => .ok [] S
def mcons (ma : MD) (mr : ML) : ML := fun env => bnd (ma env) fun x => bnd (mr env) fun xs S => .ok (x :: xs) S
theorem ca_nil : CA X T E [] mnil := ⟨_, pa_nil, fun ρ S H σ env Q r en h => h [] H ρ r Ext.refl IsL.nil⟩
theorem ca_cons {mr : ML} (ha : CE X T E e ma) (hr : CA X T E es mr) (hs : starEach (e :: es) X.env = (false, eval e X.env) :: starEach es X.env := by rfl) : CA X T E (e :: es) (mcons ma mr) := by
  obtain ⟨t, p, ht⟩ := ha.ex
  obtain ⟨u, q, hu⟩ := hr.ex
  refine ⟨_, pa_cons p q hs, fun ρ S H σ env Q r en h => ?_⟩
  refine ht ρ S H σ env _ r en ((wp_bnd h).mono (fun x S1 h1 v H1 ρ1 r1 x1 i1 => ?_) fun _ _ z => z)
  refine hu ρ1 S1 H1 σ env _ r1 (en.ext x1) ((wp_bnd h1).mono (fun xs S2 h2 vs H2 ρ2 r2 x2 i2 => ?_) fun _ _ z => z.ext x1)
  exact h2 (v :: vs) H2 ρ2 r2 (x1.trans x2) (IsL.cons (i1.ext x2) i2)
theorem ca_one (ha : CE X T E e ma) (hs : starEach [e] X.env = (false, eval e X.env) :: starEach [] X.env := by rfl) : CA X T E [e] (mcons ma mnil) := ca_cons ha ca_nil hs
def mtup (m : ML) : MD := fun env => bnd (m env) fun ds S => if ds.length ≤ sizeLine then .ok (.tup ds) S else .stuck
theorem ce_tup {m : ML} {k : Nat} (h : CA X T E es m) : CE X T E (.Tuple es k pos) (mtup m) := by
  obtain ⟨t, p, ht⟩ := h.ex
  refine ⟨_, pe_tup p, fun ρ S H σ env Q r en h => ?_⟩
  refine ht ρ S H σ env _ r en ((wp_bnd h).mono (fun ds S1 h1 vs H1 ρ1 r1 x1 i1 => ?_) fun _ _ z => z)
  split at h1
  · rename_i hz
    refine ⟨by rw [← i1.length]; exact hz, fun q hq => ?_⟩
    have x2 : Ext (cf X T) ρ1 H1 ρ1 (upd H1 q (.tup vs)) := Ext.laid hq
    refine h1 (.ref q) _ ρ1 (r1.laid hq) (x1.trans x2) ?_
    unfold Is
    exact ⟨q, vs, rfl, .of upd_same, i1.ext x2⟩
  · exact h1.elim
def mlist (m : ML) : ML := fun env => bnd (m env) fun ds S => if ds.length ≤ sizeLine then .ok ds S else .stuck
theorem cl_list {m : ML} (h : CA X T E es m) : CL X T E (.List es pos) (mlist m) := by
  obtain ⟨t, p, ht⟩ := h.ex
  refine ⟨_, pe_lst p, fun ρ S H σ env Q r en h => ?_⟩
  refine ht ρ S H σ env _ r en ((wp_bnd h).mono (fun ds S1 h1 vs H1 ρ1 r1 x1 i1 => ?_) fun _ _ z => z)
  split at h1
  · rename_i hz
    refine ⟨by rw [← i1.length]; exact hz, fun q hq => ?_⟩
    have x2 : Ext (cf X T) ρ1 H1 ρ1 (upd H1 q (.lst vs)) := Ext.laid hq
    exact h1 q vs _ ρ1 (r1.laid hq) (x1.trans x2) upd_same (r1.nin hq) (x1.dead hq) (i1.ext x2)
  · exact h1.elim
/-- a new list as a value: it comes into the store -/
def mnew (m : ML) : MD := fun env => bnd (m env) fun ds S => .ok (.ref S.length) (S ++ [.lst ds])
theorem CL.ce {m : ML} (h : CL X T E e m) : CE X T E e (mnew m) := by
  obtain ⟨t, p, ht⟩ := h.ex
  refine ⟨t, p, fun ρ S H σ env Q r en h => ?_⟩
  refine ht ρ S H σ env _ r en ((wp_bnd h).mono (fun ds S1 h1 q vs H1 ρ1 r1 x1 e1 n1 z1 i1 => ?_) fun _ _ z => z)
  refine h1 (.ref q) H1 (ρ1 ++ [q]) (r1.admit e1 n1 i1) (Ext.admit e1 x1 z1) ?_
  unfold Is
  refine ⟨q, ?_, rfl⟩
  rw [← r1.len, List.getElem?_append_right (Nat.le_refl _)]
  simp

/-! ### operators -/
/-- an operator by values -/
def OpT (c : Cfg) (r : R2) (f : D → D → Sto → R D) : Prop := ∀ ρ S H x y dx dy Q (Ew : XK), Rel c ρ S H → Is c.K ρ H dx x → Is c.K ρ H dy y → (f dx dy S).wp (Post c ρ H Q) (XPost c ρ H Ew) → r x y H Q
def OpTL (c : Cfg) (r : R2) (f : D → D → Sto → R (List D)) : Prop := ∀ ρ S H x y dx dy Q (Ew : XK), Rel c ρ S H → Is c.K ρ H dx x → Is c.K ρ H dy y → (f dx dy S).wp (PostL c ρ H Q) (XPost c ρ H Ew) → r x y H Q
def mop {α : Type} (f : D → D → Sto → R α) (ma mb : MD) : Slots → Sto → R α := fun env => bnd (ma env) fun x => bnd (mb env) fun y => f x y
theorem tie_op {ta tb : TE} {r : R2} {f : D → D → Sto → R D} (c : Cfg) (ha : Tie c E ta ma) (hb : Tie c E tb mb) (ho : OpT c r f) : Tie c E (tOp r ta tb) (mop f ma mb) := fun ρ S H σ env Q r en h => by
  refine ha ρ S H σ env _ r en ((wp_bnd h).mono (fun x S1 h1 v H1 ρ1 r1 x1 i1 => ?_) fun _ _ z => z)
  refine hb ρ1 S1 H1 σ env _ r1 (en.ext x1) ((wp_bnd h1).mono (fun y S2 h2 w H2 ρ2 r2 x2 i2 => ?_) fun _ _ z => z.ext x1)
  exact ho ρ2 S2 H2 v w x y Q _ r2 (i1.ext x2) i2 (h2.mono (fun _ _ z => z.ext (x1.trans x2)) fun _ _ z => z.ext (x1.trans x2))
theorem tie_opL {ta tb : TE} {r : R2} {f : D → D → Sto → R (List D)} (c : Cfg) (ha : Tie c E ta ma) (hb : Tie c E tb mb) (ho : OpTL c r f) : TieL c E (tOp r ta tb) (mop f ma mb) := fun ρ S H σ env Q r en h => by
  refine ha ρ S H σ env _ r en ((wp_bnd h).mono (fun x S1 h1 v H1 ρ1 r1 x1 i1 => ?_) fun _ _ z => z)
  refine hb ρ1 S1 H1 σ env _ r1 (en.ext x1) ((wp_bnd h1).mono (fun y S2 h2 w H2 ρ2 r2 x2 i2 => ?_) fun _ _ z => z.ext x1)
  exact ho ρ2 S2 H2 v w x y Q _ r2 (i1.ext x2) i2 (h2.mono (fun _ _ z => z.ext (x1.trans x2)) fun _ _ z => z.ext (x1.trans x2))
theorem ce_op {op : Operator} {r : R2} {f : D → D → Sto → R D} (o : OpR X (binaryOp op) r) (ho : OpT (cf X T) r f) (ha : CE X T E a ma) (hb : CE X T E b mb) : CE X T E (.BinOp a op b pos) (mop f ma mb) := by
  obtain ⟨t, p, ht⟩ := ha.ex
  obtain ⟨u, q, hu⟩ := hb.ex
  exact ⟨_, pe_op o p q, tie_op _ ht hu ho⟩
theorem cl_op {op : Operator} {r : R2} {f : D → D → Sto → R (List D)} (o : OpR X (binaryOp op) r) (ho : OpTL (cf X T) r f) (ha : CE X T E a ma) (hb : CE X T E b mb) : CL X T E (.BinOp a op b pos) (mop f ma mb) := by
  obtain ⟨t, p, ht⟩ := ha.ex
  obtain ⟨u, q, hu⟩ := hb.ex
  exact ⟨_, pe_op o p q, tie_opL _ ht hu ho⟩
theorem ce_cmp {op : CmpOp} {r : R2} {f : D → D → Sto → R D} (o : OpR X (compareOp op) r) (ho : OpT (cf X T) r f) (ha : CE X T E a ma) (hb : CE X T E b mb) (hm : behindInMarks op b = false) : CE X T E (.Compare a [op] [b] pos) (mop f ma mb) := by
  obtain ⟨t, p, ht⟩ := ha.ex
  obtain ⟨u, q, hu⟩ := hb.ex
  exact ⟨_, pe_cmpR o p q hm, tie_op _ ht hu ho⟩
/-- the truth of a bool -/
def mtst (m : MD) : MB := fun env => bnd (m env) fun d S => match d with
  | .bl k => .ok k S
  | _ => .stuck
theorem tie_tst {t : TE} {m : MD} (c : Cfg) (h : Tie c E t m) : TieT c E (tTest t) (mtst m) := fun ρ S H σ env Q r en q => by
  refine h ρ S H σ env _ r en ((wp_bnd q).mono (fun d S1 h1 v H1 ρ1 r1 x1 i1 => ?_) fun _ _ z => z)
  cases d <;> first | exact h1.elim | skip
  unfold Is at i1
  exact ⟨_, i1, h1 H1 ρ1 r1 x1⟩
theorem ct_cmp {op : CmpOp} {r : R2} {f : D → D → Sto → R D} (o : OpR X (compareOp op) r) (ho : OpT (cf X T) r f) (ha : CE X T E a ma) (hb : CE X T E b mb) (hm : behindInMarks op b = false) : CT X T E (.Compare a [op] [b] pos) (mtst (mop f ma mb)) := by
  obtain ⟨t, p, ht⟩ := ha.ex
  obtain ⟨u, q, hu⟩ := hb.ex
  exact ⟨_, pt_cmpR o p q hm, tie_tst _ (tie_op _ ht hu ho)⟩
/-- an expression that gives a bool, as a test -/
theorem ct_val {m : MD} (h : CE X T E e m) (he : ∀ whole, isTrue e X.env whole = (do let v ← whole; standAt e.pos; holding [v] (truthy v)) := by intro _; rfl) : CT X T E e (mtst m) := by
  obtain ⟨t, p, ht⟩ := h.ex
  exact ⟨_, pt_val p he, tie_tst _ ht⟩

/-! ### and, or, not, if -/
def mandT (m n : MB) : MB := fun env => bnd (m env) fun k S => if k = true then n env S else .ok false S
def morT (m n : MB) : MB := fun env => bnd (m env) fun k S => if k = true then .ok true S else n env S
def mnotT (m : MB) : MB := fun env => bnd (m env) fun k S => .ok (!k) S
variable {na nb : MB} {rest : List Expr}
theorem cw_and1 (ha : CT X T E a na) : CW X T E (.BoolOp .And [a] pos) na := let ⟨t, p, ht⟩ := ha.ex; ⟨t, pw_and1 p, ht⟩
theorem cw_or1 (ha : CT X T E a na) : CW X T E (.BoolOp .Or [a] pos) na := let ⟨t, p, ht⟩ := ha.ex; ⟨t, pw_or1 p, ht⟩
theorem cw_and (ha : CT X T E a na) (hb : CW X T E (.BoolOp .And (b :: rest) pos) nb) : CW X T E (.BoolOp .And (a :: b :: rest) pos) (mandT na nb) := by
  obtain ⟨t, p, ht⟩ := ha.ex
  obtain ⟨u, q, hu⟩ := hb.ex
  refine ⟨_, pw_and p q, fun ρ S H σ env Q r en h => ?_⟩
  refine ht ρ S H σ env _ r en ((wp_bnd h).mono (fun k S1 h1 H1 ρ1 r1 x1 => ?_) fun _ _ z => z)
  cases k with
  | true =>
    simp only [if_true] at h1 ⊢
    exact hu ρ1 S1 H1 σ env _ r1 (en.ext x1) (h1.mono (fun _ _ z => z.ext x1) fun _ _ z => z.ext x1)
  | false =>
    simp only [Bool.false_eq_true, if_false] at h1 ⊢
    exact h1 H1 ρ1 r1 x1
theorem cw_or (ha : CT X T E a na) (hb : CW X T E (.BoolOp .Or (b :: rest) pos) nb) : CW X T E (.BoolOp .Or (a :: b :: rest) pos) (morT na nb) := by
  obtain ⟨t, p, ht⟩ := ha.ex
  obtain ⟨u, q, hu⟩ := hb.ex
  refine ⟨_, pw_or p q, fun ρ S H σ env Q r en h => ?_⟩
  refine ht ρ S H σ env _ r en ((wp_bnd h).mono (fun k S1 h1 H1 ρ1 r1 x1 => ?_) fun _ _ z => z)
  cases k with
  | false =>
    simp only [Bool.false_eq_true, if_false] at h1 ⊢
    exact hu ρ1 S1 H1 σ env _ r1 (en.ext x1) (h1.mono (fun _ _ z => z.ext x1) fun _ _ z => z.ext x1)
  | true =>
    simp only [if_true] at h1 ⊢
    exact h1 H1 ρ1 r1 x1
theorem CW.ct (h : CW X T E e na) : CT X T E e na := let ⟨t, p, ht⟩ := h.ex; ⟨t, p.pt, ht⟩
theorem ct_not (ha : CT X T E a na) : CT X T E (.UnaryOp .Not a pos) (mnotT na) := by
  obtain ⟨t, p, ht⟩ := ha.ex
  refine ⟨_, pt_not p, fun ρ S H σ env Q r en h => ?_⟩
  exact ht ρ S H σ env _ r en ((wp_bnd h).mono (fun k S1 h1 H1 ρ1 r1 x1 => h1 H1 ρ1 r1 x1) fun _ _ z => z)
/-- as values: the left one is a bool -/
def mandV (ma mb : MD) : MD := fun env => bnd (ma env) fun d S => match d with
  | .bl k => if k = true then mb env S else .ok (.bl false) S
  | _ => .stuck
def morV (ma mb : MD) : MD := fun env => bnd (ma env) fun d S => match d with
  | .bl k => if k = true then .ok (.bl true) S else mb env S
  | _ => .stuck
def mnotV (ma : MD) : MD := fun env => bnd (ma env) fun d S => match d with
  | .bl k => .ok (.bl (!k)) S
  | _ => .stuck
theorem ce_one {op : BoolOp} (h : CE X T E a ma) : CE X T E (.BoolOp op [a] pos) ma := let ⟨t, p, ht⟩ := h.ex; ⟨t, pe_one p, ht⟩
theorem ce_and (ha : CE X T E a ma) (hb : CE X T E (.BoolOp .And (b :: rest) pos) mb) : CE X T E (.BoolOp .And (a :: b :: rest) pos) (mandV ma mb) := by
  obtain ⟨t, p, ht⟩ := ha.ex
  obtain ⟨u, q, hu⟩ := hb.ex
  refine ⟨_, pe_and p q, fun ρ S H σ env Q r en h => ?_⟩
  refine ht ρ S H σ env _ r en ((wp_bnd h).mono (fun d S1 h1 v H1 ρ1 r1 x1 i1 => ?_) fun _ _ z => z)
  cases d <;> first | exact h1.elim | skip
  rename_i k
  unfold Is at i1
  refine ⟨k, i1, ?_⟩
  cases k with
  | true =>
    simp only [if_true] at h1 ⊢
    exact hu ρ1 S1 H1 σ env _ r1 (en.ext x1) (h1.mono (fun _ _ z => z.ext x1) fun _ _ z => z.ext x1)
  | false =>
    simp only [Bool.false_eq_true, if_false] at h1 ⊢
    exact h1 _ H1 ρ1 r1 x1 (by unfold Is; rfl)
theorem ce_or (ha : CE X T E a ma) (hb : CE X T E (.BoolOp .Or (b :: rest) pos) mb) : CE X T E (.BoolOp .Or (a :: b :: rest) pos) (morV ma mb) := by
  obtain ⟨t, p, ht⟩ := ha.ex
  obtain ⟨u, q, hu⟩ := hb.ex
  refine ⟨_, pe_or p q, fun ρ S H σ env Q r en h => ?_⟩
  refine ht ρ S H σ env _ r en ((wp_bnd h).mono (fun d S1 h1 v H1 ρ1 r1 x1 i1 => ?_) fun _ _ z => z)
  cases d <;> first | exact h1.elim | skip
  rename_i k
  unfold Is at i1
  refine ⟨k, i1, ?_⟩
  cases k with
  | false =>
    simp only [Bool.false_eq_true, if_false] at h1 ⊢
    exact hu ρ1 S1 H1 σ env _ r1 (en.ext x1) (h1.mono (fun _ _ z => z.ext x1) fun _ _ z => z.ext x1)
  | true =>
    simp only [if_true] at h1 ⊢
    exact h1 _ H1 ρ1 r1 x1 (by unfold Is; rfl)
theorem ce_not (ha : CE X T E a ma) : CE X T E (.UnaryOp .Not a pos) (mnotV ma) := by
  obtain ⟨t, p, ht⟩ := ha.ex
  refine ⟨_, pe_not p, fun ρ S H σ env Q r en h => ?_⟩
  refine ht ρ S H σ env _ r en ((wp_bnd h).mono (fun d S1 h1 v H1 ρ1 r1 x1 i1 => ?_) fun _ _ z => z)
  cases d <;> first | exact h1.elim | skip
  unfold Is at i1
  exact ⟨_, i1, h1 _ H1 ρ1 r1 x1 (by unfold Is; rfl)⟩
def mif {α : Type} (c : MB) (x y : Slots → Sto → R α) : Slots → Sto → R α := fun env => bnd (c env) fun k S => if k = true then x env S else y env S
theorem ce_if {c : Expr} {nc : MB} (hc : CT X T E c nc) (ha : CE X T E a ma) (hb : CE X T E b mb) : CE X T E (.IfExp c a b pos) (mif nc ma mb) := by
  obtain ⟨s, o, hs⟩ := hc.ex
  obtain ⟨t, p, ht⟩ := ha.ex
  obtain ⟨u, q, hu⟩ := hb.ex
  refine ⟨_, pe_ifExp o p q, fun ρ S H σ env Q r en h => ?_⟩
  refine hs ρ S H σ env _ r en ((wp_bnd h).mono (fun k S1 h1 H1 ρ1 r1 x1 => ?_) fun _ _ z => z)
  cases k with
  | true =>
    simp only [if_true] at h1 ⊢
    exact ht ρ1 S1 H1 σ env _ r1 (en.ext x1) (h1.mono (fun _ _ z => z.ext x1) fun _ _ z => z.ext x1)
  | false =>
    simp only [Bool.false_eq_true, if_false] at h1 ⊢
    exact hu ρ1 S1 H1 σ env _ r1 (en.ext x1) (h1.mono (fun _ _ z => z.ext x1) fun _ _ z => z.ext x1)
end
end Ti
namespace Ti
open PySem PySem.Spec PyProof.Rows L2 GxR Gx

/-! ### statements -/
inductive SR where
  | nx (env : Slots) (S : Sto) | rt (d : D) (S : Sto) | bk (env : Slots) (S : Sto) | ct (env : Slots) (S : Sto) | exc (env : Slots) (e : Ex) (S : Sto) | stuck
abbrev MS := Slots → Sto → SR
def XPostS (c : Cfg) (ρ : List Addr) (H : Hp) (E : WK) (env : Slots) : Ex → Sto → Prop := fun x S' => match x with
  | .plain C => ∀ σ' H' ρ', Rel c ρ' S' H' → Ext c ρ H ρ' H' → EnvR c ρ' H' env σ' → E σ' (.ref C) none H'
theorem XPostS.ext {c : Cfg} {ρ ρ1 : List Addr} {H H1 : Hp} {E : WK} {env : Slots} {e : Ex} {S : Sto} (x : Ext c ρ H ρ1 H1) (h : XPostS c ρ H E env e S) : XPostS c ρ1 H1 E env e S := by
  cases e with
  | plain C => exact fun σ' H' ρ' r y e => h σ' H' ρ' r (x.trans y) e
theorem XPostS.at {c : Cfg} {ρ : List Addr} {H : Hp} {E : WK} {env : Slots} {σ : L2.St} {e : Ex} {S : Sto} (en : EnvR c ρ H env σ) (h : XPostS c ρ H E env e S) : XPost c ρ H (E σ) e S := by
  cases e with
  | plain C => exact fun H' ρ' r y => h σ H' ρ' r y (en.ext y)
def SWant (c : Cfg) (ρ : List Addr) (H : Hp) (E : WK) (D : Ends) : SR → Prop
  | .nx env' S' => ∀ σ' H' ρ', Rel c ρ' S' H' → Ext c ρ H ρ' H' → EnvR c ρ' H' env' σ' → D.nx σ' H'
  | .rt d S' => ∀ v H' ρ', Rel c ρ' S' H' → Ext c ρ H ρ' H' → Is c.K ρ' H' d v → D.rt v H'
  | .bk env' S' => ∀ σ' H' ρ', Rel c ρ' S' H' → Ext c ρ H ρ' H' → EnvR c ρ' H' env' σ' → D.bk σ' H'
  | .ct env' S' => ∀ σ' H' ρ', Rel c ρ' S' H' → Ext c ρ H ρ' H' → EnvR c ρ' H' env' σ' → D.ct σ' H'
  | .exc env e S' => XPostS c ρ H E env e S'
  | .stuck => False
theorem SWant.ext {c : Cfg} {ρ ρ1 : List Addr} {H H1 : Hp} {E : WK} {D : Ends} {r : SR} (x : Ext c ρ H ρ1 H1) (h : SWant c ρ H E D r) : SWant c ρ1 H1 E D r := by
  cases r with
  | nx env S => exact fun σ' H' ρ' r y e => h σ' H' ρ' r (x.trans y) e
  | rt d S => exact fun v H' ρ' r y e => h v H' ρ' r (x.trans y) e
  | bk env S => exact fun σ' H' ρ' r y e => h σ' H' ρ' r (x.trans y) e
  | ct env S => exact fun σ' H' ρ' r y e => h σ' H' ρ' r (x.trans y) e
  | exc env e S => exact XPostS.ext x h
  | stuck => exact h
def TieS (c : Cfg) (E : WK) (t : TS) (m : MS) : Prop := ∀ ρ S H σ env D, Rel c ρ S H → EnvR c ρ H env σ → SWant c ρ H E D (m env S) → t D σ H
structure CS (X : Cx) (T : List Addr) (E : WK) (st : Stmt) (m : MS) : Prop where
  ex : ∃ t, PS X st t ∧ TieS (cf X T) E t m
structure CSs (X : Cx) (T : List Addr) (E : WK) (st : List Stmt) (m : MS) : Prop where
  ex : ∃ t, PSs X st t ∧ TieS (cf X T) E t m

/-- targets -/
abbrev MG := D → Slots → Sto → R Slots
def GWant (c : Cfg) (ρ : List Addr) (H : Hp) (σ : L2.St) (js : List Nat) (Q : L2.St → Hp → Prop) : Slots → Sto → Prop := fun env' S' =>
  ∀ σ' H' ρ', Rel c ρ' S' H' → Ext c ρ H ρ' H' → EnvR c ρ' H' env' σ' → σ'.length = σ.length → (∀ k : Nat, k ∉ js → σ'[k]? = σ[k]?) → Q σ' H'
def TieG (c : Cfg) (t : TG) (m : MG) (js : List Nat) : Prop := ∀ ρ S H σ env d v Q, Rel c ρ S H → EnvR c ρ H env σ → Is c.K ρ H d v → (m d env S).wp (GWant c ρ H σ js Q) (fun _ _ => False) → t v σ H Q
structure CG (X : Cx) (T : List Addr) (e : Expr) (m : MG) (js : List Nat) : Prop where
  ex : ∃ t, PG X e t ∧ TieG (cf X T) t m js
abbrev MGs := List D → Slots → Sto → R Slots
def TieGs (c : Cfg) (t : TGs) (m : MGs) (js : List Nat) : Prop := ∀ ρ S H σ env ds vs Q, Rel c ρ S H → EnvR c ρ H env σ → IsL c.K ρ H ds vs → (m ds env S).wp (GWant c ρ H σ js Q) (fun _ _ => False) → t vs σ H Q
structure CGs (X : Cx) (T : List Addr) (es : List Expr) (m : MGs) (js : List Nat) : Prop where
  ex : ∃ t, PGs X es t ∧ TieGs (cf X T) t m js

/-- lift what gives a value into a statement -/
def lft {α : Type} (env : Slots) (m : Sto → R α) (k : α → Sto → SR) : Sto → SR := fun S => match m S with
  | .ok a S' => k a S'
  | .exc e S' => .exc env e S'
  | .stuck => .stuck
theorem want_lft {α : Type} {c : Cfg} {ρ : List Addr} {H : Hp} {E : WK} {D : Ends} {env : Slots} {σ : L2.St} {m : Sto → R α} {k : α → Sto → SR} {S : Sto} (en : EnvR c ρ H env σ) (h : SWant c ρ H E D (lft env m k S)) : (m S).wp (fun a S' => SWant c ρ H E D (k a S')) (XPost c ρ H (E σ)) := by
  unfold lft at h
  cases e : m S with
  | ok a S' => rw [e] at h; exact h
  | exc x S' => rw [e] at h; exact XPostS.at en h
  | stuck => rw [e] at h; exact h

section
variable {X : Cx} {T : List Addr} {E : WK} {e tg : Expr} {es : List Expr} {pos : Pos} {ma : MD} {st : Stmt} {rest : List Stmt} {m n : MS}
def snil : MS := fun env S => .nx env S
def sseq (m n : MS) : MS := fun env S => match m env S with
  | .nx env' S' => n env' S'
  | r => r
theorem cs_nil : CSs X T E [] snil := ⟨_, pss_nil, fun ρ S H σ env D r en h => h σ H ρ r Ext.refl en⟩
theorem cs_cons (ha : CS X T E st m) (hb : CSs X T E rest n) : CSs X T E (st :: rest) (sseq m n) := by
  obtain ⟨t, p, ht⟩ := ha.ex
  obtain ⟨u, q, hu⟩ := hb.ex
  refine ⟨_, pss_cons p q, fun ρ S H σ env D r en h => ?_⟩
  refine ht ρ S H σ env { D with nx := u D } r en ?_
  unfold sseq at h
  cases e : m env S with
  | nx env' S' =>
    rw [e] at h
    exact fun σ' H' ρ' r' x' en' => hu ρ' S' H' σ' env' D r' en' (h.ext x')
  | rt d S' => rw [e] at h; exact h
  | bk env' S' => rw [e] at h; exact h
  | ct env' S' => rw [e] at h; exact h
  | exc env' x S' => rw [e] at h; exact h
  | stuck => rw [e] at h; exact h
theorem cs_one (ha : CS X T E st m) : CSs X T E [st] m := let ⟨t, p, ht⟩ := ha.ex; ⟨t, pss_one p, ht⟩
def sbrk : MS := fun env S => .bk env S
def scnt : MS := fun env S => .ct env S
theorem cs_pass : CS X T E (.Pass pos) snil := ⟨_, ps_pass, fun ρ S H σ env D r en h => h σ H ρ r Ext.refl en⟩
theorem cs_brk : CS X T E (.Break pos) sbrk := ⟨_, ps_break, fun ρ S H σ env D r en h => h σ H ρ r Ext.refl en⟩
theorem cs_cnt : CS X T E (.Continue pos) scnt := ⟨_, ps_continue, fun ρ S H σ env D r en h => h σ H ρ r Ext.refl en⟩
theorem cs_doc {x j pos'} : CS X T E (.Expr (.Constant (.str x) j pos) pos') snil := ⟨_, ps_doc, fun ρ S H σ env D r en h => h σ H ρ r Ext.refl en⟩
def sexp (m : MD) : MS := fun env => lft env (m env) fun _ S => .nx env S
theorem cs_exp (h : CE X T E e ma) (hs : swapsWith e none pos.line X.env = pure false := by rfl) : CS X T E (.Expr e pos) (sexp ma) := by
  obtain ⟨t, p, ht⟩ := h.ex
  refine ⟨_, ps_expr p hs, fun ρ S H σ env D r en h => ?_⟩
  exact ht ρ S H σ env _ r en ((want_lft en h).mono (fun d S1 h1 v H1 ρ1 r1 x1 i1 => h1 σ H1 ρ1 r1 x1 (en.ext x1)) fun _ _ z => z)
def sret (m : MD) : MS := fun env => lft env (m env) fun d S => .rt d S
theorem cs_ret (h : CE X T E e ma) : CS X T E (.Return (some e) pos) (sret ma) := by
  obtain ⟨t, p, ht⟩ := h.ex
  refine ⟨_, ps_ret p, fun ρ S H σ env D r en h => ?_⟩
  exact ht ρ S H σ env _ r en ((want_lft en h).mono (fun d S1 h1 v H1 ρ1 r1 x1 i1 => h1 v H1 ρ1 r1 x1 i1) fun _ _ z => z)
def sretN : MS := fun _ S => .rt .non S
theorem cs_retN : CS X T E (.Return none pos) sretN := ⟨_, ps_retN, fun ρ S H σ env D r en h => h .non H ρ r Ext.refl (by unfold Is; rfl)⟩
def sif (c : MB) (m n : MS) : MS := fun env => lft env (c env) fun k S => if k = true then m env S else n env S
theorem cs_if {c : Expr} {nc : MB} {a b : List Stmt} (hc : CT X T E c nc) (ha : CSs X T E a m) (hb : CSs X T E b n) : CS X T E (.If c a b pos) (sif nc m n) := by
  obtain ⟨s, o, hs⟩ := hc.ex
  obtain ⟨t, p, ht⟩ := ha.ex
  obtain ⟨u, q, hu⟩ := hb.ex
  refine ⟨_, ps_if o p q, fun ρ S H σ env D r en h => ?_⟩
  refine hs ρ S H σ env _ r en ((want_lft en h).mono (fun k S1 h1 H1 ρ1 r1 x1 => ?_) fun _ _ z => z)
  cases k with
  | true =>
    simp only [if_true] at h1 ⊢
    exact ht ρ1 S1 H1 σ env D r1 (en.ext x1) (h1.ext x1)
  | false =>
    simp only [Bool.false_eq_true, if_false] at h1 ⊢
    exact hu ρ1 S1 H1 σ env D r1 (en.ext x1) (h1.ext x1)

/-! ### targets -/
def lftx {α : Type} (m : Sto → R α) (k : α → Sto → SR) : Sto → SR := fun S => match m S with
  | .ok a S' => k a S'
  | _ => .stuck
theorem want_lftx {α : Type} {c : Cfg} {ρ : List Addr} {H : Hp} {E : WK} {D : Ends} {m : Sto → R α} {k : α → Sto → SR} {S : Sto} (h : SWant c ρ H E D (lftx m k S)) : (m S).wp (fun a S' => SWant c ρ H E D (k a S')) (fun _ _ => False) := by
  unfold lftx at h
  cases e : m S with
  | ok a S' => rw [e] at h; exact h
  | exc x S' => rw [e] at h; exact h
  | stuck => rw [e] at h; exact h
def gnam (i : Nat) : MG := fun d env S => .ok (env.set i (some d)) S
theorem cg_nam (i : Nat) {x : Str} (hN : X.N.Nodup) (hi : X.N[i]? = some x := by rfl) (hx : Loc X.env.scope x := by first | exact Or.inl rfl | exact Or.inr rfl) (hf : X.fn x = true ∨ X.env.scope.names.lookup x = some .local := by first | exact .inl rfl | exact .inr rfl) : CG X T (.Name x pos) (gnam i) [i] := by
  refine ⟨_, pg_name hN hi hx hf, fun ρ S H σ env d v Q r en i1 h => ?_⟩
  refine h (σ.set i (some v)) H ρ r Ext.refl (en.set i i1) (by simp) fun k hk => ?_
  rw [List.getElem?_set_ne (by intro z; subst z; exact hk (by simp))]
def gsnil : MGs := fun ds env S => match ds with
  | [] => .ok env S
  | _ => .stuck
def gscons (m : MG) (ms : MGs) : MGs := fun ds env S => match ds with
  | d :: ds => bnd (m d env) (fun env' => ms ds env') S
  | _ => .stuck
theorem cgs_nil : CGs X T [] gsnil [] := by
  refine ⟨_, pgs_nil, fun ρ S H σ env ds vs Q r en il h => ?_⟩
  cases ds with
  | nil => exact ⟨il.nil_inv, h σ H ρ r Ext.refl en rfl fun _ _ => rfl⟩
  | cons d ds => exact h.elim
theorem cgs_cons {m : MG} {ms : MGs} {js ks : List Nat} (h1 : CG X T e m js) (h2 : CGs X T es ms ks) (hs : (assignEach (e :: es) X.env).map (·.2) = assign e X.env :: (assignEach es X.env).map (·.2) := by rfl) : CGs X T (e :: es) (gscons m ms) (js ++ ks) := by
  obtain ⟨t, p, ht⟩ := h1.ex
  obtain ⟨u, q, hu⟩ := h2.ex
  refine ⟨_, pgs_cons p q hs, fun ρ S H σ env ds vs Q r en il h => ?_⟩
  cases ds with
  | nil => exact h.elim
  | cons d ds =>
    obtain ⟨v, ws, rfl, i1, i2⟩ := il.cons_inv
    refine ⟨v, ws, rfl, ?_⟩
    refine ht ρ S H σ env d v _ r en i1 ((wp_bnd h).mono (fun env1 S1 h1 σ1 H1 ρ1 r1 x1 en1 l1 k1 => ?_) fun _ _ z => z)
    refine hu ρ1 S1 H1 σ1 env1 ds ws Q r1 en1 (i2.ext x1) (R.wp.mono h1 (fun env2 S2 h2 σ2 H2 ρ2 r2 x2 en2 l2 k2 => ?_) fun _ _ z => z)
    exact h2 σ2 H2 ρ2 r2 (x1.trans x2) en2 (l2.trans l1) fun k hk => (k2 k (fun z => hk (List.mem_append_right _ z))).trans (k1 k (fun z => hk (List.mem_append_left _ z)))
def gtup (n : Nat) (ms : MGs) : MG := fun d env S => match d with
  | .tup ds => if ds.length = n then ms ds env S else .stuck
  | _ => .stuck
theorem cg_tup {k : Nat} {ms : MGs} {js : List Nat} {n : Nat} (hc : X.calm = true) (h : CGs X T es ms js) (hn : (assignEach es X.env).length = n := by rfl) (hst : (assignEach es X.env).findIdx? (·.1) = none := by rfl) : CG X T (.Tuple es k pos) (gtup n ms) js := by
  obtain ⟨t, p, ht⟩ := h.ex
  refine ⟨_, pg_tup hc p hn hst, fun ρ S H σ env d v Q r en i1 h => ?_⟩
  cases d <;> first | exact h.elim | skip
  rename_i ds
  unfold gtup at h
  simp only at h
  split at h
  · rename_i hl
    unfold Is at i1
    obtain ⟨a, vs, rfl, hq, il⟩ := i1
    exact ⟨a, vs, rfl, hq, by rw [← il.length]; exact hl, ht ρ S H σ env ds vs Q r en il h⟩
  · exact h.elim
def sasg (m : MD) (g : MG) : MS := fun env => lft env (m env) fun d => lftx (g d env) fun env' S => .nx env' S
theorem cs_asg {g : MG} {js : List Nat} (he : CE X T E e ma) (hg : CG X T tg g js) (hs : swapsWithSole [tg] e pos.line X.env = pure false := by rfl) (hw : swappedStores [tg] e X.env = pure none := by rfl)
    (h1 : (assignEach [tg] X.env).map (·.2) = [assign tg X.env] := by rfl) : CS X T E (.Assign [tg] e pos) (sasg ma g) := by
  obtain ⟨t, p, ht⟩ := he.ex
  obtain ⟨u, q, hu⟩ := hg.ex
  refine ⟨_, ps_asg p q hs hw h1, fun ρ S H σ env D r en h => ?_⟩
  refine ht ρ S H σ env _ r en ((want_lft en h).mono (fun d S1 h1 v H1 ρ1 r1 x1 i1 => ?_) fun _ _ z => z)
  refine hu ρ1 S1 H1 σ env d v _ r1 (en.ext x1) i1 ((want_lftx h1).mono (fun env2 S2 h2 σ2 H2 ρ2 r2 x2 en2 _ _ => ?_) fun _ _ z => z)
  exact h2 σ2 H2 ρ2 r2 (x1.trans x2) en2
/-- name = value -/
theorem cs_set (i : Nat) {x : Str} {pos' : Pos} (hN : X.N.Nodup) (he : CE X T E e ma) (hi : X.N[i]? = some x := by rfl) (hx : Loc X.env.scope x := by first | exact Or.inl rfl | exact Or.inr rfl) (hs : swapsWith e (some (.Name x pos')) pos.line X.env = pure false := by rfl)
    (hf : X.fn x = true ∨ X.env.scope.names.lookup x = some .local := by first | exact .inl rfl | exact .inr rfl) : CS X T E (.Assign [.Name x pos'] e pos) (sasg ma (gnam i)) := by
  obtain ⟨t, p, ht⟩ := he.ex
  refine ⟨_, ps_set hN hi hx p hs hf, fun ρ S H σ env D r en h => ?_⟩
  refine ht ρ S H σ env _ r en ((want_lft en h).mono (fun d S1 h1 v H1 ρ1 r1 x1 i1 => ?_) fun _ _ z => z)
  exact h1 _ H1 ρ1 r1 x1 ((en.ext x1).set i i1)
end

/-! ### what is walked -/
abbrev Walked := List D × (Sto → Prop)
def IterOk (c : Cfg) (J : It) (w : Walked) (ρ : List Addr) (H : Hp) : Prop := ∀ ρ' S' H', Rel c ρ' S' H' → Ext c ρ H ρ' H' → w.2 S' →
  (∀ i, i < w.1.length → J.go i H') ∧ J.stop w.1.length H' ∧ ∀ i x H'', i < w.1.length → J.yld i H' x H'' → Rel c ρ' S' H'' ∧ Ext c ρ' H' ρ' H'' ∧ ∃ d, w.1[i]? = some d ∧ Is c.K ρ' H'' d x
abbrev MI := Slots → Sto → R Walked
def TieI (c : Cfg) (E : WK) (wi : TI) (m : MI) : Prop := ∀ ρ S H σ env (Q : It → Hp → Prop), Rel c ρ S H → EnvR c ρ H env σ →
  (m env S).wp (fun w S1 => ∀ J H1 ρ1, Rel c ρ1 S1 H1 → Ext c ρ H ρ1 H1 → IterOk c J w ρ1 H1 → Q J H1) (XPost c ρ H (E σ)) → wi σ H Q
structure CI (X : Cx) (T : List Addr) (E : WK) (tg iter : Expr) (m : MI) : Prop where
  ex : ∃ t, PI X tg iter t ∧ TieI (cf X T) E t m

open Classical in
noncomputable def forLoop (P : Sto → Prop) (g : MG) (body : MS) : List D → MS
  | [], env, S => if P S then .nx env S else .stuck
  | x :: xs, env, S => if P S then (match g x env S with
      | .ok env1 S1 => (match body env1 S1 with
        | .nx e s => forLoop P g body xs e s
        | .ct e s => forLoop P g body xs e s
        | .bk e s => .nx e s
        | r => r)
      | _ => .stuck) else .stuck
noncomputable def sfor (mi : MI) (g : MG) (body : MS) : MS := fun env => lft env (mi env) fun w => forLoop w.2 g body w.1 env
section
variable {X : Cx} {T : List Addr} {E : WK} {e tg iter : Expr} {pos : Pos} {mi : MI} {g : MG} {js : List Nat} {body : List Stmt} {mb : MS}
theorem drop_get {α : Type} {xs : List α} {i : Nat} (h : i < xs.length) : xs.drop i = xs[i] :: xs.drop (i + 1) := List.drop_eq_getElem_cons h
theorem cs_for (hp : PassesOwn (model X.prog X.w) X.A X.env X.xe) (hc : X.calm = true) (hi : CI X T E tg iter mi) (hg : CG X T tg g js) (hb : CSs X T E body mb) (hs : ∀ x, foldedSetIterable iter X.env x = pure x := by intro _; rfl) :
    CS X T E (.For tg iter body [] pos) (sfor mi g mb) := by
  obtain ⟨ti, pi, hti⟩ := hi.ex
  obtain ⟨tG, pG, htG⟩ := hg.ex
  obtain ⟨tB, pB, htB⟩ := hb.ex
  refine ⟨_, ps_for hp hc pi pG pB hs, fun ρ S H σ env D r en h => ?_⟩
  refine hti ρ S H σ env _ r en ((want_lft en h).mono (fun w S1 h1 J H1 ρ1 r1 x1 it => ?_) fun _ _ z => z)
  refine ⟨fun i m σ' H' => i ≤ w.1.length ∧ m = w.1.length - i ∧ ∃ ρ' S' env', Rel (cf X T) ρ' S' H' ∧ Ext (cf X T) ρ1 H1 ρ' H' ∧ EnvR (cf X T) ρ' H' env' σ' ∧ SWant (cf X T) ρ1 H1 E D (forLoop w.2 g mb (w.1.drop i) env' S'),
    ⟨w.1.length, Nat.zero_le _, by omega, ρ1, S1, env, r1, Ext.refl, en.ext x1, h1.ext x1⟩, ?_⟩
  rintro i m σ' H' ⟨hi, rfl, ρ', S', env', r', x', en', hw⟩
  by_cases hlt : i < w.1.length
  · rw [drop_get hlt] at hw
    unfold forLoop at hw
    split at hw
    · rename_i hP
      obtain ⟨go, _, yl⟩ := it ρ' S' H' r' x' hP
      refine .inr ⟨go i hlt, fun σ2 H2 => ∃ ρ2 S2 env2, Rel (cf X T) ρ2 S2 H2 ∧ Ext (cf X T) ρ1 H1 ρ2 H2 ∧ EnvR (cf X T) ρ2 H2 env2 σ2 ∧ SWant (cf X T) ρ1 H1 E D (forLoop w.2 g mb (w.1.drop (i + 1)) env2 S2),
        fun σ2 H2 q => ⟨w.1.length - (i + 1), by omega, by omega, rfl, q⟩, fun x H'' hy => ?_⟩
      obtain ⟨r2, x2, d, ed, isd⟩ := yl i x H'' hlt hy
      rw [List.getElem?_eq_getElem hlt] at ed
      cases ed
      refine htG ρ' S' H'' σ' env' _ x _ r2 (en'.ext x2) isd ?_
      cases eg : g w.1[i] env' S' with
      | stuck => rw [eg] at hw; exact hw.elim
      | exc e s => rw [eg] at hw; exact hw.elim
      | ok env3 S3 =>
        rw [eg] at hw
        simp only at hw
        show GWant _ _ _ _ _ _ env3 S3
        intro σ3 H3 ρ3 r3 x3 en3 _ _
        refine htB ρ3 S3 H3 σ3 env3 _ r3 en3 ?_
        have xx : Ext (cf X T) ρ1 H1 ρ3 H3 := (x'.trans x2).trans x3
        cases eb : mb env3 S3 with
        | nx e s => rw [eb] at hw; exact fun σ4 H4 ρ4 r4 x4 en4 => ⟨ρ4, s, e, r4, xx.trans x4, en4, hw⟩
        | ct e s => rw [eb] at hw; exact fun σ4 H4 ρ4 r4 x4 en4 => ⟨ρ4, s, e, r4, xx.trans x4, en4, hw⟩
        | bk e s => rw [eb] at hw; exact fun σ4 H4 ρ4 r4 x4 en4 => hw σ4 H4 ρ4 r4 (xx.trans x4) en4
        | rt d s => rw [eb] at hw; exact hw.ext xx
        | exc en' e s => rw [eb] at hw; exact XPostS.ext xx hw
        | stuck => rw [eb] at hw; exact hw
    · exact hw.elim
  · have e : i = w.1.length := by omega
    subst e
    rw [List.drop_length] at hw
    unfold forLoop at hw
    split at hw
    · rename_i hP
      obtain ⟨_, st, _⟩ := it ρ' S' H' r' x' hP
      exact .inl ⟨st, hw σ' H' ρ' r' x' en'⟩
    · exact hw.elim
end
end Ti
namespace Ti
open PySem PySem.Spec PyProof.Rows L2 GxR Gx

/-! ### sources -/
theorem rd_ext {c : Cfg} {ρ ρ' : List Addr} {H H' : Hp} {p : Addr} {vs : List V} (x : Ext c ρ H ρ' H') (n : p ∉ ρ) (ct : ∀ P ∈ c.T, TabG H P) (h : H p = some (.lst vs)) : H' p = some (.lst vs) :=
  x.fr p _ h n fun z => by
    obtain ⟨ps, e, _⟩ := ct p z
    rw [h] at e; cases e
/-- at one state -/
abbrev IterAt (c : Cfg) (J : It) (ds : List D) (ρ' : List Addr) (S' : Sto) (H' : Hp) : Prop :=
  (∀ i, i < ds.length → J.go i H') ∧ J.stop ds.length H' ∧ ∀ i x H'', i < ds.length → J.yld i H' x H'' → Rel c ρ' S' H'' ∧ Ext c ρ' H' ρ' H'' ∧ ∃ d, ds[i]? = some d ∧ Is c.K ρ' H'' d x
section
variable {X : Cx} {T : List Addr} {E : WK} {e tg a b : Expr} {es : List Expr} {pos : Pos} {ma : MD} {ml : ML}
theorem at_list {c : Cfg} {ρ : List Addr} {S : Sto} {H : Hp} {p : Addr} {ds : List D} {vs : List V} (r : Rel c ρ S H) (hs : SqL c.K H p vs) (q : IsL c.K ρ H ds vs) : IterAt c (Itl c.K p) ds ρ S H := by
  refine ⟨fun i hi => ?_, ?_, fun i v H'' hi y => ?_⟩
  · have hi' : i < vs.length := by rw [← q.length]; exact hi
    exact ⟨vs, vs[i], hs, by simp [hi']⟩
  · exact ⟨vs, hs, by rw [← q.length]; exact Nat.le_refl _⟩
  · obtain ⟨e1, e2⟩ := y
    subst e1
    obtain ⟨d, e3, e4⟩ := q.getV (e2 vs hs)
    exact ⟨r, Ext.refl, d, e3, e4⟩
theorem at_tup {c : Cfg} {ρ : List Addr} {S : Sto} {H : Hp} {p : Addr} {ds : List D} {vs : List V} (r : Rel c ρ S H) (hs : SqT c.K H p vs) (q : IsL c.K ρ H ds vs) : IterAt c (Itt c.K p) ds ρ S H := by
  refine ⟨fun i hi => ?_, ?_, fun i v H'' hi y => ?_⟩
  · have hi' : i < vs.length := by rw [← q.length]; exact hi
    exact ⟨vs, vs[i], hs, by simp [hi']⟩
  · exact ⟨vs, hs, by rw [← q.length]; exact Nat.le_refl _⟩
  · obtain ⟨e1, e2⟩ := y
    subst e1
    obtain ⟨d, e3, e4⟩ := q.getV (e2 vs hs)
    exact ⟨r, Ext.refl, d, e3, e4⟩
/-- over a list by a name or a call: of the store, or one that is never written -/
def ilst (m : MD) : MI := fun env => bnd (m env) fun d S => match d with
  | .ref i => match S[i]? with
    | some (.lst xs) => .ok (xs, fun S' => S'[i]? = some (.lst xs)) S
    | none => .stuck
  | .frz xs => .ok (xs, fun _ => True) S
  | _ => .stuck
theorem ci_list (h : CE X T E e ma) : CI X T E tg e (ilst ma) := by
  obtain ⟨t, p, ht⟩ := h.ex
  refine ⟨_, pi_list p, fun ρ S H σ env Q r en h => ?_⟩
  refine ht ρ S H σ env _ r en ((wp_bnd h).mono (fun d S1 h1 v H1 ρ1 r1 x1 i1 => ?_) fun _ _ z => z)
  cases d <;> first | exact h1.elim | skip
  · rename_i xs
    unfold Is at i1
    obtain ⟨a, vs, rfl, hf, il⟩ := i1
    exact ⟨a, rfl, ⟨vs, hf.sq⟩, h1 _ H1 ρ1 r1 x1 fun ρ' S' H' r' x' _ => at_list r' (sqF_imm x'.imm hf).sq (il.ext x')⟩
  · rename_i i
    simp only at h1
    unfold Is at i1
    obtain ⟨a, ea, rfl⟩ := i1
    cases es : S1[i]? with
    | none => rw [es] at h1; exact h1.elim
    | some o =>
      cases o with
      | lst xs =>
        rw [es] at h1
        obtain ⟨vs, e1, il⟩ := r1.obj i a _ ea es
        refine ⟨a, rfl, ⟨vs, .of e1⟩, h1 _ H1 ρ1 r1 x1 fun ρ' S' H' r' x' e' => ?_⟩
        obtain ⟨ws, e2, il2⟩ := r'.obj i a _ (pre_get x'.pre ea) e'
        exact at_list r' (.of e2) il2
/-- over a new list -/
def inew (m : ML) : MI := fun env => bnd (m env) fun ds S => .ok (ds, fun _ => True) S
theorem ci_new (h : CL X T E e ml) : CI X T E tg e (inew ml) := by
  obtain ⟨t, p, ht⟩ := h.ex
  refine ⟨_, pi_list p, fun ρ S H σ env Q r en h => ?_⟩
  refine ht ρ S H σ env _ r en ((wp_bnd h).mono (fun ds S1 h1 q vs H1 ρ1 r1 x1 e1 n1 z1 il => ?_) fun _ _ z => z)
  exact ⟨q, rfl, ⟨vs, .of e1⟩, h1 _ H1 ρ1 r1 x1 fun ρ' S' H' r' x' _ => at_list r' (.of (rd_ext x' n1 r1.tab e1)) (il.ext x')⟩
/-- over a tuple -/
def itup (m : MD) : MI := fun env => bnd (m env) fun d S => match d with
  | .tup xs => .ok (xs, fun _ => True) S
  | _ => .stuck
theorem ci_tup (h : CE X T E e ma) : CI X T E tg e (itup ma) := by
  obtain ⟨t, p, ht⟩ := h.ex
  refine ⟨_, pi_tup p, fun ρ S H σ env Q r en h => ?_⟩
  refine ht ρ S H σ env _ r en ((wp_bnd h).mono (fun d S1 h1 v H1 ρ1 r1 x1 i1 => ?_) fun _ _ z => z)
  cases d <;> first | exact h1.elim | skip
  rename_i xs
  unfold Is at i1
  obtain ⟨a, vs, rfl, hf, il⟩ := i1
  exact ⟨a, rfl, ⟨vs, hf⟩, h1 _ H1 ρ1 r1 x1 fun ρ' S' H' r' x' _ => at_tup r' (sqT_imm x'.imm hf) (il.ext x')⟩
/-- over a range -/
def intsD (lo : Int) (n : Nat) : List D := (List.range n).map fun i => D.int (lo + (i : Nat))
theorem at_rng {c : Cfg} {ρ : List Addr} {S : Sto} {H : Hp} {lo : Int} {n : Nat} (r : Rel c ρ S H) : IterAt c (Itr lo n) (intsD lo n) ρ S H := by
  have hl : (intsD lo n).length = n := by unfold intsD; simp
  refine ⟨fun i hi => by rw [hl] at hi; exact hi, by rw [hl]; exact Nat.le_refl _, fun i v H'' hi y => ?_⟩
  obtain ⟨e1, e2⟩ := y
  subst e1 e2
  rw [hl] at hi
  refine ⟨r, Ext.refl, .int (lo + (i : Nat)), ?_, by unfold Is; rfl⟩
  unfold intsD
  simp [hi]
def irng1 (m : MD) : MI := fun env => bnd (m env) fun d S => match d with
  | .int j => if -(2 ^ 62) ≤ j ∧ j < 2 ^ 62 then .ok (intsD 0 j.toNat, fun _ => True) S else .stuck
  | _ => .stuck
theorem ci_rng1 {p : Pos} (hg : Gl X "range") (hm : X.mg "range" = none) (h : CE X T E e ma) (hs : starEach [e] X.env = [(false, eval e X.env)] := by rfl) : CI X T E tg (.Call (.Name "range" p) [e] [] pos) (irng1 ma) := by
  obtain ⟨t, q, ht⟩ := h.ex
  refine ⟨_, pi_range1 hg hm (pa_cons q pa_nil hs) hs, fun ρ S H σ env Q r en h => ?_⟩
  refine ht ρ S H σ env _ r en ((wp_bnd h).mono (fun d S1 h1 v H1 ρ1 r1 x1 i1 => ?_) fun _ _ z => z)
  cases d <;> first | exact h1.elim | skip
  rename_i j
  simp only at h1
  split at h1
  · rename_i hj
    unfold Is at i1
    subst i1
    exact ⟨j, rfl, hj.1, hj.2, h1 _ H1 ρ1 r1 x1 fun ρ' S' H' r' x' _ => at_rng r'⟩
  · exact h1.elim
def irng2 (m n : MD) : MI := fun env => bnd (m env) fun d => bnd (n env) fun f S => match d, f with
  | .int i, .int j => if -(2 ^ 62) ≤ i ∧ i < 2 ^ 62 ∧ -(2 ^ 62) ≤ j ∧ j < 2 ^ 62 then .ok (intsD i (j - i).toNat, fun _ => True) S else .stuck
  | _, _ => .stuck
theorem ci_rng2 {p : Pos} {mb : MD} (hg : Gl X "range") (hm : X.mg "range" = none) (h : CE X T E a ma) (h' : CE X T E b mb) (hs : starEach [a, b] X.env = [(false, eval a X.env), (false, eval b X.env)] := by rfl) (hs2 : starEach [b] X.env = [(false, eval b X.env)] := by rfl) :
    CI X T E tg (.Call (.Name "range" p) [a, b] [] pos) (irng2 ma mb) := by
  obtain ⟨t, q, ht⟩ := h.ex
  obtain ⟨t', q', ht'⟩ := h'.ex
  refine ⟨_, pi_range2 hg hm (pa_cons q (pa_cons q' pa_nil (by rw [hs2]; rfl)) (by rw [hs, hs2])) hs hs2, fun ρ S H σ env Q r en h => ?_⟩
  refine ht ρ S H σ env _ r en ((wp_bnd h).mono (fun d S1 h1 v H1 ρ1 r1 x1 i1 => ?_) fun _ _ z => z)
  refine ht' ρ1 S1 H1 σ env _ r1 (en.ext x1) ((wp_bnd h1).mono (fun f S2 h2 w H2 ρ2 r2 x2 i2 => ?_) fun _ _ z => z.ext x1)
  cases d <;> first | exact h2.elim | skip
  cases f <;> first | exact h2.elim | skip
  rename_i i j
  simp only at h2
  split at h2
  · rename_i hj
    unfold Is at i1 i2
    subst i1 i2
    exact ⟨i, j, rfl, hj, h2 _ H2 ρ2 r2 (x1.trans x2) fun ρ' S' H' r' x' _ => at_rng r'⟩
  · exact h2.elim
end

/-! ### comprehensions -/
def wipeE (env : Slots) : List Nat → Slots
  | [] => env
  | v :: vs => (wipeE env vs).set v none
theorem EnvR.wipe {c : Cfg} {ρ : List Addr} {H : Hp} {env : Slots} {σ : L2.St} (e : EnvR c ρ H env σ) : ∀ vs : List Nat, EnvR c ρ H (wipeE env vs) (L2.wipe σ vs)
  | [] => e
  | v :: vs => by
    have ih := EnvR.wipe e vs
    refine ⟨by unfold wipeE L2.wipe; simp [ih.len], fun i d h => ?_⟩
    unfold wipeE at h
    unfold L2.wipe
    by_cases z : v = i
    · subst z
      by_cases hl : v < (wipeE env vs).length
      · rw [List.getElem?_set_self hl] at h; cases h
      · rw [List.getElem?_eq_none (by simpa using hl)] at h; cases h
    · rw [List.getElem?_set_ne z] at h ⊢
      exact ih.at_ i d h
theorem wipe_at (σ : L2.St) : ∀ (vs : List Nat) (k : Nat), (L2.wipe σ vs)[k]? = if k ∈ vs then (if k < σ.length then some none else none) else σ[k]?
  | [], k => by simp [L2.wipe]
  | v :: vs, k => by
    unfold L2.wipe
    have ih := wipe_at σ vs k
    by_cases z : v = k
    · subst z
      by_cases hl : v < (L2.wipe σ vs).length
      · rw [List.getElem?_set_self hl]
        rw [wipe_length] at hl
        simp [hl]
      · rw [List.getElem?_eq_none (by simpa using hl)]
        rw [wipe_length] at hl
        simp [hl]
    · rw [List.getElem?_set_ne z, ih]
      have : (k ∈ v :: vs) ↔ k ∈ vs := by simp; intro e; exact absurd e.symm z
      simp only [this]
theorem wipe_same {σ σ' : L2.St} {vs js : List Nat} (hj : ∀ j ∈ js, j ∈ vs) (hl : σ'.length = σ.length) (h : ∀ k, k ∉ js → σ'[k]? = (L2.wipe σ vs)[k]?) : L2.wipe σ' vs = L2.wipe σ vs := by
  apply List.ext_getElem?
  intro k
  rw [wipe_at, wipe_at]
  by_cases hk : k ∈ vs
  · rw [if_pos hk, if_pos hk, hl]
  · rw [if_neg hk, if_neg hk, h k (fun z => hk (hj k z)), wipe_at, if_neg hk]
theorem wipe_idem {σ : L2.St} {vs : List Nat} : L2.wipe (L2.wipe σ vs) vs = L2.wipe σ vs := wipe_same (js := []) (fun _ h => by cases h) (by rw [wipe_length]) fun _ _ => rfl

/-- without exceptions -/
def bndx {α β : Type} (m : Sto → R α) (k : α → Sto → R β) : Sto → R β := fun S => match m S with
  | .ok a S' => k a S'
  | _ => .stuck
theorem wp_bndx {α β : Type} {m : Sto → R α} {k : α → Sto → R β} {S : Sto} {Q : β → Sto → Prop} {E : Ex → Sto → Prop} (h : (bndx m k S).wp Q E) : (m S).wp (fun a S' => (k a S').wp Q E) (fun _ _ => False) := by
  unfold bndx at h
  cases e : m S with
  | ok a S' => rw [e] at h; exact h
  | exc x S' => rw [e] at h; exact h
  | stuck => rw [e] at h; exact h
def mtrue : MB := fun _ S => .ok true S
structure CTs (X : Cx) (T : List Addr) (E : WK) (ifs : List Expr) (m : MB) : Prop where
  ex : ∃ t, PTs X ifs t ∧ TieT (cf X T) E t m
section
variable {X : Cx} {T : List Addr} {E : WK} {e : Expr} {nb : MB}
theorem ct_nil : CTs X T E [] mtrue := ⟨_, pts_nil, fun ρ S H σ env Q r en h => h H ρ r Ext.refl⟩
theorem ct_one (h : CT X T E e nb) : CTs X T E [e] nb := let ⟨t, p, ht⟩ := h.ex; ⟨_, pts_one p, ht⟩
end
open Classical in
noncomputable def compLoop (P : Sto → Prop) (g : MG) (t : MB) (m : MD) (env : Slots) : List D → List D → Sto → R (List D)
  | [], acc, S => if P S then .ok acc S else .stuck
  | x :: xs, acc, S => if P S then bndx (g x env) (fun env1 => bndx (t env1) fun b => if b = true then bndx (m env1) (fun y S3 => if acc.length < sizeLine then compLoop P g t m env xs (acc ++ [y]) S3 else .stuck) else compLoop P g t m env xs acc) S else .stuck
noncomputable def mcomp (mi : MI) (g : MG) (t : MB) (m : MD) (vs : List Nat) : ML := fun env => bnd (mi env) fun w => compLoop w.2 g t m (wipeE env vs) w.1 []
section
variable {X : Cx} {T : List Addr} {E : WK} {elt tg iter : Expr} {ifs : List Expr} {scope : Scope} {own : List (Str × Nat)} {pos : Pos} {mi : MI} {g : MG} {js : List Nat} {mt : MB} {me : MD}
/-- the contexts of a comprehension's block -/
def InBlk (X : Cx) (scope : Scope) (p : Cx → Prop) : Prop := ∀ (s : Shared) (H : Hp) (C : Addr) (cl : List (Str × Addr)) (fp : List Addr), p (X.blk s H scope (compEnvC scope cl C X.env) fp)
theorem frame_lst {c : Cfg} {ρ ρ' : List Addr} {S : Sto} {H H' : Hp} {p : Addr} {vs : List V} (r : Rel c ρ S H) (x : Ext c ρ H ρ' H') (n : p ∉ ρ) (h : H p = some (.lst vs)) : H' p = some (.lst vs) ∧ p ∉ ρ' :=
  ⟨rd_ext x n r.tab h, fun z => by
    rcases x.new p z with q | q
    · exact n q
    · rw [h] at q; cases q⟩
/-- a list that the store does not tell is written -/
theorem Rel.putX {c : Cfg} {ρ : List Addr} {S : Sto} {H : Hp} {p : Addr} {vs ws : List V} (r : Rel c ρ S H) (n : p ∉ ρ) (h : H p = some (.lst ws)) : Rel c ρ S (upd H p (.lst vs)) where
  len := r.len
  nd := r.nd
  obj := fun j a ob e1 e2 => (r.obj j a ob e1 e2).mono (upd_ne fun e => n (by rw [← e]; exact List.mem_of_getElem? e1)) (List.prefix_refl _) (imm_lst h)
  tab := fun P hP => by
    obtain ⟨ps, h1, h2⟩ := r.tab P hP
    exact ⟨ps, by rw [upd_ne (ne_of h1 h (by intro z; cases z))]; exact h1, h2⟩
/-- .. one that was not there at the beginning -/
theorem Ext.putX {c : Cfg} {ρ0 ρ : List Addr} {H0 H : Hp} {p : Addr} {vs ws : List V} (x : Ext c ρ0 H0 ρ H) (h : H p = some (.lst ws)) (n : H0 p = none) : Ext c ρ0 H0 ρ (upd H p (.lst vs)) where
  pre := x.pre
  imm := fun a o e i => imm_lst h a o (x.imm a o e i) i
  fr := fun a o e n1 n2 => by rw [upd_ne (ne_of_none e n)]; exact x.fr a o e n1 n2
  live := fun a o e => by
    obtain ⟨o1, h1⟩ := x.live a o e
    by_cases z : a = p
    · subst z; exact ⟨_, upd_same⟩
    · exact ⟨o1, by rw [upd_ne z]; exact h1⟩
  new := x.new
theorem cl_comp (hc : X.calm = true) (hN : X.N.Nodup) (hi : CI X T E tg iter mi) (ok : BlkOk X.N X.env.scope scope own) (hj : ∀ j ∈ js, j ∈ own.map (·.2))
    (hg : ∃ t, InBlk X scope (fun X' => PG X' tg t) ∧ TieG (cf X T) t g js) (ht : ∃ t, InBlk X scope (fun X' => PTs X' ifs t) ∧ TieT (cf X T) (fun _ => E0) t mt)
    (he : ∃ t, InBlk X scope (fun X' => PE X' elt t) ∧ Tie (cf X T) (fun _ => E0) t me) (hs : ∀ x, foldedSetIterable iter X.env x = pure x := by intro _; rfl) :
    CL X T E (.ListComp elt [⟨tg, iter, ifs, 0⟩] scope pos) (mcomp mi g mt me (own.map (·.2))) := by
  obtain ⟨ti, pi, hti⟩ := hi.ex
  obtain ⟨tG, pG, htG⟩ := hg
  obtain ⟨tT, pT, htT⟩ := ht
  obtain ⟨tE, pE, htE⟩ := he
  refine ⟨_, pe_lc hc hN pi ok pG pT pE hs, fun ρ S H σ env Q r en h => ?_⟩
  refine hti ρ S H σ env _ r en ((wp_bnd h).mono (fun w S1 h1 J H1 ρ1 r1 x1 it => ?_) fun _ _ z => z)
  intro p hp
  have r2 : Rel (cf X T) ρ1 S1 (upd H1 p (.lst [])) := r1.laid hp
  have hp0 : H p = none := x1.dead hp
  have x2 : Ext (cf X T) ρ1 H1 ρ1 (upd H1 p (.lst [])) := Ext.laid hp
  refine ⟨fun i m H' => i ≤ w.1.length ∧ m = w.1.length - i ∧ ∃ ρ' S' acc vs, Rel (cf X T) ρ' S' H' ∧ Ext (cf X T) ρ1 H1 ρ' H' ∧ H' p = some (.lst vs) ∧ p ∉ ρ' ∧ IsL (cf X T).K ρ' H' acc vs ∧
      (compLoop w.2 g mt me (wipeE env (own.map (·.2))) (w.1.drop i) acc S').wp (PostL (cf X T) ρ H Q) (XPost (cf X T) ρ H (E σ)),
    ⟨w.1.length, Nat.zero_le _, by omega, ρ1, S1, [], [], r2, x2, upd_same, r1.nin hp, IsL.nil, h1⟩, ?_⟩
  rintro i m H' ⟨hi, rfl, ρ', S', acc, vs, r', x', hD, nD, il, hw⟩
  by_cases hlt : i < w.1.length
  · rw [drop_get hlt] at hw
    unfold compLoop at hw
    split at hw
    · rename_i hP
      obtain ⟨go, _, yl⟩ := it ρ' S' H' r' x' hP
      refine .inr ⟨go i hlt, fun H2 => ∃ ρ2 S2 acc2 vs2, Rel (cf X T) ρ2 S2 H2 ∧ Ext (cf X T) ρ1 H1 ρ2 H2 ∧ H2 p = some (.lst vs2) ∧ p ∉ ρ2 ∧ IsL (cf X T).K ρ2 H2 acc2 vs2 ∧
          (compLoop w.2 g mt me (wipeE env (own.map (·.2))) (w.1.drop (i + 1)) acc2 S2).wp (PostL (cf X T) ρ H Q) (XPost (cf X T) ρ H (E σ)),
        fun H2 q => ⟨w.1.length - (i + 1), by omega, by omega, rfl, q⟩, fun x H'' hy => ?_⟩
      obtain ⟨r3, x3, d, ed, isd⟩ := yl i x H'' hlt hy
      rw [List.getElem?_eq_getElem hlt] at ed
      cases ed
      have en3 : EnvR (cf X T) ρ' H'' (wipeE env (own.map (·.2))) (L2.wipe σ (own.map (·.2))) := (en.wipe _).ext (x1.trans (x'.trans x3))
      refine htG ρ' S' H'' _ _ _ x _ r3 en3 isd ((wp_bndx hw).mono (fun env4 S4 h4 σ4 H4 ρ4 r4 x4 en4 l4 k4 => ?_) fun _ _ z => z.elim)
      refine ⟨wipe_same hj (by rw [l4, wipe_length]) k4, ?_⟩
      refine htT ρ4 S4 H4 σ4 env4 _ r4 en4 ((wp_bndx h4).mono (fun b S5 h5 H5 ρ5 r5 x5 => ?_) fun _ _ z => z.elim)
      have xx : Ext (cf X T) ρ' H' ρ5 H5 := x3.trans (x4.trans x5)
      obtain ⟨hD5, nD5⟩ := frame_lst r' xx nD hD
      cases b with
      | false =>
        simp only [Bool.false_eq_true, if_false] at h5 ⊢
        exact ⟨ρ5, S5, acc, vs, r5, x'.trans xx, hD5, nD5, il.ext xx, h5⟩
      | true =>
        simp only [if_true] at h5 ⊢
        refine htE ρ5 S5 H5 σ4 env4 _ r5 (en4.ext x5) ((wp_bndx h5).mono (fun y S6 h6 v H6 ρ6 r6 x6 i6 => ?_) fun _ _ z => z.elim)
        have xx6 : Ext (cf X T) ρ' H' ρ6 H6 := xx.trans x6
        obtain ⟨hD6, nD6⟩ := frame_lst r' xx6 nD hD
        have hpH1 : H1 p = none := hp
        split at h6
        · rename_i hz
          have il6 := il.ext xx6
          refine ⟨vs, hD6, by rw [← il.length]; exact hz, ρ6, S6, acc ++ [y], vs ++ [v], r6.putX nD6 hD6, (x'.trans xx6).putX hD6 hpH1, upd_same, nD6, ?_, h6⟩
          exact IsL.append (il6.mono (List.prefix_refl _) (imm_lst hD6)) (IsL.cons (i6.mono (List.prefix_refl _) (imm_lst hD6)) IsL.nil)
        · exact h6.elim
    · exact hw.elim
  · have e : i = w.1.length := by omega
    subst e
    rw [List.drop_length] at hw
    unfold compLoop at hw
    split at hw
    · rename_i hP
      obtain ⟨_, st, _⟩ := it ρ' S' H' r' x' hP
      exact .inl ⟨st, hw p vs H' ρ' r' (x1.trans x') hD nD hp0 il⟩
    · exact hw.elim
end
end Ti
namespace Ti
open PySem PySem.Spec PyProof.Rows L2 GxR Gx

/-! ### generator expressions -/
section
variable {c : Cfg} {ρ : List Addr} {S : Sto} {H H2 : Hp} {P : Addr}
theorem Rel.tabbed (r : Rel c ρ S H) (hP : P ∈ c.T) (t : Tabbed P H H2) : Rel c ρ S H2 := by
  obtain ⟨ps, hps, _⟩ := r.tab P hP
  have imm : ∀ a o, H a = some o → Imm o → H2 a = some o := fun a o e i => by
    rw [t.2 a (fun z => by rw [z, hps] at e; cases e; exact i)]; exact e
  refine ⟨r.len, r.nd, fun j a ob e1 e2 => ?_, fun Q hQ => ?_⟩
  · have m := r.obj j a ob e1 e2
    obtain ⟨vs, q⟩ := m.live
    exact m.mono (t.2 a fun z => by rw [z, hps] at q; cases q) (List.prefix_refl _) imm
  · by_cases z : Q = P
    · rw [z]; exact t.1
    · obtain ⟨qs, h1, h2⟩ := r.tab Q hQ
      exact ⟨qs, by rw [t.2 Q z]; exact h1, h2⟩
theorem Ext.tabbed (r : Rel c ρ S H) (hP : P ∈ c.T) (t : Tabbed P H H2) : Ext c ρ H ρ H2 := by
  obtain ⟨ps, hps, _⟩ := r.tab P hP
  refine ⟨List.prefix_refl _, fun a o e i => ?_, fun a o e _ n => ?_, fun a o e => ?_, fun _ h => .inl h⟩
  · rw [t.2 a (fun z => by rw [z, hps] at e; cases e; exact i)]; exact e
  · rw [t.2 a (fun z => n (by rw [z]; exact hP))]; exact e
  · by_cases z : a = P
    · obtain ⟨qs, q, _⟩ := t.1
      exact ⟨_, by rw [z]; exact q⟩
    · exact ⟨o, by rw [t.2 a z]; exact e⟩
end

open Classical in
noncomputable def allLoop (P : Sto → Prop) (g : MG) (t : MB) (m : MD) (env : Slots) : List D → Sto → R D
  | [], S => if P S then .ok (.bl true) S else .stuck
  | x :: xs, S => if P S then bndx (g x env) (fun env1 => bndx (t env1) fun b => if b = true then bndx (m env1) (fun y S3 => match y with
      | .bl k => if k = true then allLoop P g t m env xs S3 else .ok (.bl false) S3
      | _ => .stuck) else allLoop P g t m env xs) S else .stuck
noncomputable def mall (mi : MI) (g : MG) (t : MB) (m : MD) (vs : List Nat) : MD := fun env => bnd (mi env) fun w => allLoop w.2 g t m (wipeE env vs) w.1
open Classical in
noncomputable def anyLoop (P : Sto → Prop) (g : MG) (t : MB) (m : MD) (env : Slots) : List D → Sto → R D
  | [], S => if P S then .ok (.bl false) S else .stuck
  | x :: xs, S => if P S then bndx (g x env) (fun env1 => bndx (t env1) fun b => if b = true then bndx (m env1) (fun y S3 => match y with
      | .bl k => if k = true then .ok (.bl true) S3 else anyLoop P g t m env xs S3
      | _ => .stuck) else anyLoop P g t m env xs) S else .stuck
noncomputable def many (mi : MI) (g : MG) (t : MB) (m : MD) (vs : List Nat) : MD := fun env => bnd (mi env) fun w => anyLoop w.2 g t m (wipeE env vs) w.1
/-- tuple(x for ..) -/
noncomputable def mtupG (mi : MI) (g : MG) (t : MB) (m : MD) (vs : List Nat) : MD := fun env => bnd (mi env) fun w => bnd (compLoop w.2 g t m (wipeE env vs) w.1 []) fun ds S => if ds.length ≤ sizeLine then .ok (.tup ds) S else .stuck

section
variable {X : Cx} {T : List Addr} {E : WK} {elt tg iter : Expr} {ifs : List Expr} {scope : Scope} {own : List (Str × Nat)} {p pos gpos : Pos} {mi : MI} {g : MG} {js : List Nat} {mt : MB} {me : MD} {k : Nat} {c P : Addr}
theorem ce_all (hr : Room (k + 1) X.A) (hgl : Gl X "all") (hm : X.mg "all" = none) (hb : bootBuiltins "all" = some (.builtin "all")) (hc : X.calm = true) (hN : X.N.Nodup) (TB : TabB X.base X.mg c P) (hP : P ∈ T) (hcode : X.env.code = .ref c)
    (hco : scope.isCoroutine = false) (ok : BlkOk X.N X.env.scope scope own) (hcell : ∀ y ∈ scope.names, y.2 ≠ .cell) (hdot : scope.names.lookup (".0" : Str) = some NameKind.local)
    (hi : CI X T E tg iter mi) (hj : ∀ j ∈ js, j ∈ own.map (·.2))
    (hg : ∃ t, InGx X k scope (fun X' => PG X' tg t) ∧ TieG (cf X T) t g js) (ht : ∃ t, InGx X k scope (fun X' => PTs X' ifs t) ∧ TieT (cf X T) (fun _ => E0) t mt)
    (hel : ∃ t, InGx X k scope (fun X' => PE X' elt t) ∧ Tie (cf X T) (fun _ => E0) t me)
    (hs : ∀ v, genFold iter X.env v = pure v := by intro _; rfl)
    (he : starEach [.GeneratorExp elt [⟨tg, iter, ifs, 0⟩] scope gpos] X.env = (false, eval (.GeneratorExp elt [⟨tg, iter, ifs, 0⟩] scope gpos) X.env) :: starEach [] X.env := by rfl) :
    CE X T E (.Call (.Name "all" p) [.GeneratorExp elt [⟨tg, iter, ifs, 0⟩] scope gpos] [] pos) (mall mi g mt me (own.map (·.2))) := by
  obtain ⟨ti, pi, hti⟩ := hi.ex
  obtain ⟨tG, pG, htG⟩ := hg
  obtain ⟨tT, pT, htT⟩ := ht
  obtain ⟨tE, pE, htE⟩ := hel
  refine ⟨_, pe_allG hr hgl hm hb hc hN TB hcode hco ok hcell hdot pi pG pT pE hs he, fun ρ S H σ env Q r en h => ?_⟩
  refine hti ρ S H σ env _ r en ((wp_bnd h).mono (fun w S1 h1 J H1 ρ1 r1 x1 it => ?_) fun _ _ z => z)
  refine ⟨r1.tab P hP, fun H2 tb => ?_⟩
  have r2 := r1.tabbed hP tb
  have x2 : Ext (cf X T) ρ1 H1 ρ1 H2 := Ext.tabbed r1 hP tb
  refine ⟨fun i m _ H' => i ≤ w.1.length ∧ m = w.1.length - i ∧ ∃ ρ' S', Rel (cf X T) ρ' S' H' ∧ Ext (cf X T) ρ1 H1 ρ' H' ∧
      (allLoop w.2 g mt me (wipeE env (own.map (·.2))) (w.1.drop i) S').wp (Post (cf X T) ρ H Q) (XPost (cf X T) ρ H (E σ)),
    ⟨w.1.length, Nat.zero_le _, by omega, ρ1, S1, r2, x2, h1⟩, ?_⟩
  rintro i m ⟨⟩ H' ⟨hi, rfl, ρ', S', r', x', hw⟩
  by_cases hlt : i < w.1.length
  · rw [drop_get hlt] at hw
    unfold allLoop at hw
    split at hw
    · rename_i hPS
      obtain ⟨go, _, yl⟩ := it ρ' S' H' r' x' hPS
      refine .inr ⟨go i hlt, fun _ H2 => ∃ ρ2 S2, Rel (cf X T) ρ2 S2 H2 ∧ Ext (cf X T) ρ1 H1 ρ2 H2 ∧
          (allLoop w.2 g mt me (wipeE env (own.map (·.2))) (w.1.drop (i + 1)) S2).wp (Post (cf X T) ρ H Q) (XPost (cf X T) ρ H (E σ)),
        fun _ H2 q => ⟨w.1.length - (i + 1), by omega, by omega, rfl, q⟩, fun x H'' hy => ?_⟩
      obtain ⟨r3, x3, d, ed, isd⟩ := yl i x H'' hlt hy
      rw [List.getElem?_eq_getElem hlt] at ed
      cases ed
      have en3 : EnvR (cf X T) ρ' H'' (wipeE env (own.map (·.2))) (L2.wipe σ (own.map (·.2))) := (en.wipe _).ext (x1.trans (x'.trans x3))
      refine htG ρ' S' H'' _ _ _ x _ r3 en3 isd ((wp_bndx hw).mono (fun env4 S4 h4 σ4 H4 ρ4 r4 x4 en4 l4 k4 => ?_) fun _ _ z => z.elim)
      refine ⟨wipe_same hj (by rw [l4, wipe_length]) k4, ?_⟩
      refine htT ρ4 S4 H4 σ4 env4 _ r4 en4 ((wp_bndx h4).mono (fun b S5 h5 H5 ρ5 r5 x5 => ?_) fun _ _ z => z.elim)
      have xx : Ext (cf X T) ρ' H' ρ5 H5 := x3.trans (x4.trans x5)
      cases b with
      | false =>
        simp only [Bool.false_eq_true, if_false] at h5 ⊢
        exact ⟨ρ5, S5, r5, x'.trans xx, h5⟩
      | true =>
        simp only [if_true] at h5 ⊢
        refine htE ρ5 S5 H5 σ4 env4 _ r5 (en4.ext x5) ((wp_bndx h5).mono (fun y S6 h6 v H6 ρ6 r6 x6 i6 => ?_) fun _ _ z => z.elim)
        cases y <;> first | exact h6.elim | skip
        rename_i kk
        unfold Is at i6
        refine ⟨kk, i6, ?_⟩
        cases kk with
        | true =>
          simp only [if_true] at h6 ⊢
          exact ⟨ρ6, S6, r6, x'.trans (xx.trans x6), h6⟩
        | false =>
          simp only [Bool.false_eq_true, if_false] at h6 ⊢
          exact h6 (.bl false) H6 ρ6 r6 (x1.trans (x'.trans (xx.trans x6))) (by unfold Is; rfl)
    · exact hw.elim
  · have e : i = w.1.length := by omega
    subst e
    rw [List.drop_length] at hw
    unfold allLoop at hw
    split at hw
    · rename_i hPS
      obtain ⟨_, st, _⟩ := it ρ' S' H' r' x' hPS
      exact .inl ⟨st, hw (.bl true) H' ρ' r' (x1.trans x') (by unfold Is; rfl)⟩
    · exact hw.elim

theorem ce_any (hr : Room (k + 1) X.A) (hgl : Gl X "any") (hm : X.mg "any" = none) (hc : X.calm = true) (hN : X.N.Nodup) (TB : TabB X.base X.mg c P) (hP : P ∈ T) (hcode : X.env.code = .ref c)
    (hco : scope.isCoroutine = false) (ok : BlkOk X.N X.env.scope scope own) (hcell : ∀ y ∈ scope.names, y.2 ≠ .cell) (hdot : scope.names.lookup (".0" : Str) = some NameKind.local)
    (hi : CI X T E tg iter mi) (hj : ∀ j ∈ js, j ∈ own.map (·.2))
    (hg : ∃ t, InGx X k scope (fun X' => PG X' tg t) ∧ TieG (cf X T) t g js) (ht : ∃ t, InGx X k scope (fun X' => PTs X' ifs t) ∧ TieT (cf X T) (fun _ => E0) t mt)
    (hel : ∃ t, InGx X k scope (fun X' => PE X' elt t) ∧ Tie (cf X T) (fun _ => E0) t me)
    (hs : ∀ v, genFold iter X.env v = pure v := by intro _; rfl)
    (he : starEach [.GeneratorExp elt [⟨tg, iter, ifs, 0⟩] scope gpos] X.env = (false, eval (.GeneratorExp elt [⟨tg, iter, ifs, 0⟩] scope gpos) X.env) :: starEach [] X.env := by rfl) :
    CE X T E (.Call (.Name "any" p) [.GeneratorExp elt [⟨tg, iter, ifs, 0⟩] scope gpos] [] pos) (many mi g mt me (own.map (·.2))) := by
  obtain ⟨ti, pi, hti⟩ := hi.ex
  obtain ⟨tG, pG, htG⟩ := hg
  obtain ⟨tT, pT, htT⟩ := ht
  obtain ⟨tE, pE, htE⟩ := hel
  refine ⟨_, pe_anyG hr hgl hm hc hN TB hcode hco ok hcell hdot pi pG pT pE hs he, fun ρ S H σ env Q r en h => ?_⟩
  refine hti ρ S H σ env _ r en ((wp_bnd h).mono (fun w S1 h1 J H1 ρ1 r1 x1 it => ?_) fun _ _ z => z)
  refine ⟨r1.tab P hP, fun H2 tb => ?_⟩
  have r2 := r1.tabbed hP tb
  have x2 : Ext (cf X T) ρ1 H1 ρ1 H2 := Ext.tabbed r1 hP tb
  refine ⟨fun i m _ H' => i ≤ w.1.length ∧ m = w.1.length - i ∧ ∃ ρ' S', Rel (cf X T) ρ' S' H' ∧ Ext (cf X T) ρ1 H1 ρ' H' ∧
      (anyLoop w.2 g mt me (wipeE env (own.map (·.2))) (w.1.drop i) S').wp (Post (cf X T) ρ H Q) (XPost (cf X T) ρ H (E σ)),
    ⟨w.1.length, Nat.zero_le _, by omega, ρ1, S1, r2, x2, h1⟩, ?_⟩
  rintro i m ⟨⟩ H' ⟨hi, rfl, ρ', S', r', x', hw⟩
  by_cases hlt : i < w.1.length
  · rw [drop_get hlt] at hw
    unfold anyLoop at hw
    split at hw
    · rename_i hPS
      obtain ⟨go, _, yl⟩ := it ρ' S' H' r' x' hPS
      refine .inr ⟨go i hlt, fun _ H2 => ∃ ρ2 S2, Rel (cf X T) ρ2 S2 H2 ∧ Ext (cf X T) ρ1 H1 ρ2 H2 ∧
          (anyLoop w.2 g mt me (wipeE env (own.map (·.2))) (w.1.drop (i + 1)) S2).wp (Post (cf X T) ρ H Q) (XPost (cf X T) ρ H (E σ)),
        fun _ H2 q => ⟨w.1.length - (i + 1), by omega, by omega, rfl, q⟩, fun x H'' hy => ?_⟩
      obtain ⟨r3, x3, d, ed, isd⟩ := yl i x H'' hlt hy
      rw [List.getElem?_eq_getElem hlt] at ed
      cases ed
      have en3 : EnvR (cf X T) ρ' H'' (wipeE env (own.map (·.2))) (L2.wipe σ (own.map (·.2))) := (en.wipe _).ext (x1.trans (x'.trans x3))
      refine htG ρ' S' H'' _ _ _ x _ r3 en3 isd ((wp_bndx hw).mono (fun env4 S4 h4 σ4 H4 ρ4 r4 x4 en4 l4 k4 => ?_) fun _ _ z => z.elim)
      refine ⟨wipe_same hj (by rw [l4, wipe_length]) k4, ?_⟩
      refine htT ρ4 S4 H4 σ4 env4 _ r4 en4 ((wp_bndx h4).mono (fun b S5 h5 H5 ρ5 r5 x5 => ?_) fun _ _ z => z.elim)
      have xx : Ext (cf X T) ρ' H' ρ5 H5 := x3.trans (x4.trans x5)
      cases b with
      | false =>
        simp only [Bool.false_eq_true, if_false] at h5 ⊢
        exact ⟨ρ5, S5, r5, x'.trans xx, h5⟩
      | true =>
        simp only [if_true] at h5 ⊢
        refine htE ρ5 S5 H5 σ4 env4 _ r5 (en4.ext x5) ((wp_bndx h5).mono (fun y S6 h6 v H6 ρ6 r6 x6 i6 => ?_) fun _ _ z => z.elim)
        cases y <;> first | exact h6.elim | skip
        rename_i kk
        unfold Is at i6
        refine ⟨kk, i6, ?_⟩
        cases kk with
        | false =>
          simp only [Bool.false_eq_true, if_false] at h6 ⊢
          exact ⟨ρ6, S6, r6, x'.trans (xx.trans x6), h6⟩
        | true =>
          simp only [if_true] at h6 ⊢
          exact h6 (.bl true) H6 ρ6 r6 (x1.trans (x'.trans (xx.trans x6))) (by unfold Is; rfl)
    · exact hw.elim
  · have e : i = w.1.length := by omega
    subst e
    rw [List.drop_length] at hw
    unfold anyLoop at hw
    split at hw
    · rename_i hPS
      obtain ⟨_, st, _⟩ := it ρ' S' H' r' x' hPS
      exact .inl ⟨st, hw (.bl false) H' ρ' r' (x1.trans x') (by unfold Is; rfl)⟩
    · exact hw.elim

theorem ce_tupG (hr : Room (k + 1) X.A) (hgl : Gl X "tuple") (hm : X.mg "tuple" = none) (hb : bootBuiltins "tuple" = some (.type "tuple")) (hc : X.calm = true) (hN : X.N.Nodup) (TB : TabB X.base X.mg c P) (hP : P ∈ T) (hcode : X.env.code = .ref c)
    (hco : scope.isCoroutine = false) (ok : BlkOk X.N X.env.scope scope own) (hcell : ∀ y ∈ scope.names, y.2 ≠ .cell) (hdot : scope.names.lookup (".0" : Str) = some NameKind.local)
    (hi : CI X T E tg iter mi) (hj : ∀ j ∈ js, j ∈ own.map (·.2))
    (hg : ∃ t, InGx X k scope (fun X' => PG X' tg t) ∧ TieG (cf X T) t g js) (ht : ∃ t, InGx X k scope (fun X' => PTs X' ifs t) ∧ TieT (cf X T) (fun _ => E0) t mt)
    (hel : ∃ t, InGx X k scope (fun X' => PE X' elt t) ∧ Tie (cf X T) (fun _ => E0) t me)
    (hs : ∀ v, genFold iter X.env v = pure v := by intro _; rfl)
    (he : starEach [.GeneratorExp elt [⟨tg, iter, ifs, 0⟩] scope gpos] X.env = (false, eval (.GeneratorExp elt [⟨tg, iter, ifs, 0⟩] scope gpos) X.env) :: starEach [] X.env := by rfl) :
    CE X T E (.Call (.Name "tuple" p) [.GeneratorExp elt [⟨tg, iter, ifs, 0⟩] scope gpos] [] pos) (mtupG mi g mt me (own.map (·.2))) := by
  obtain ⟨ti, pi, hti⟩ := hi.ex
  obtain ⟨tG, pG, htG⟩ := hg
  obtain ⟨tT, pT, htT⟩ := ht
  obtain ⟨tE, pE, htE⟩ := hel
  refine ⟨_, pe_tupG hr hgl hm hb hc hN TB hcode hco ok hcell hdot pi pG pT pE hs he, fun ρ S H σ env Q r en h => ?_⟩
  refine hti ρ S H σ env _ r en ((wp_bnd h).mono (fun w S1 h1 J H1 ρ1 r1 x1 it => ?_) fun _ _ z => z)
  have h1 := wp_bnd h1
  refine ⟨r1.tab P hP, fun H2 tb => ?_⟩
  have r2 := r1.tabbed hP tb
  have x2 : Ext (cf X T) ρ1 H1 ρ1 H2 := Ext.tabbed r1 hP tb
  refine ⟨fun i m vs H' => i ≤ w.1.length ∧ m = w.1.length - i ∧ ∃ ρ' S' acc, Rel (cf X T) ρ' S' H' ∧ Ext (cf X T) ρ1 H1 ρ' H' ∧ IsL (cf X T).K ρ' H' acc vs ∧
      (compLoop w.2 g mt me (wipeE env (own.map (·.2))) (w.1.drop i) acc S').wp (fun ds S2 => (if ds.length ≤ sizeLine then R.ok (D.tup ds) S2 else R.stuck).wp (Post (cf X T) ρ H Q) (XPost (cf X T) ρ H (E σ))) (XPost (cf X T) ρ H (E σ)),
    ⟨w.1.length, Nat.zero_le _, by omega, ρ1, S1, [], r2, x2, IsL.nil, h1⟩, ?_⟩
  rintro i m vs H' ⟨hi, rfl, ρ', S', acc, r', x', il, hw⟩
  by_cases hlt : i < w.1.length
  · rw [drop_get hlt] at hw
    unfold compLoop at hw
    split at hw
    · rename_i hPS
      obtain ⟨go, _, yl⟩ := it ρ' S' H' r' x' hPS
      refine .inr ⟨go i hlt, fun vs2 H2 => ∃ ρ2 S2 acc2, Rel (cf X T) ρ2 S2 H2 ∧ Ext (cf X T) ρ1 H1 ρ2 H2 ∧ IsL (cf X T).K ρ2 H2 acc2 vs2 ∧
          (compLoop w.2 g mt me (wipeE env (own.map (·.2))) (w.1.drop (i + 1)) acc2 S2).wp (fun ds S2 => (if ds.length ≤ sizeLine then R.ok (D.tup ds) S2 else R.stuck).wp (Post (cf X T) ρ H Q) (XPost (cf X T) ρ H (E σ))) (XPost (cf X T) ρ H (E σ)),
        fun vs2 H2 q => ⟨w.1.length - (i + 1), by omega, by omega, rfl, q⟩, fun x H'' hy => ?_⟩
      obtain ⟨r3, x3, d, ed, isd⟩ := yl i x H'' hlt hy
      rw [List.getElem?_eq_getElem hlt] at ed
      cases ed
      have en3 : EnvR (cf X T) ρ' H'' (wipeE env (own.map (·.2))) (L2.wipe σ (own.map (·.2))) := (en.wipe _).ext (x1.trans (x'.trans x3))
      refine htG ρ' S' H'' _ _ _ x _ r3 en3 isd ((wp_bndx hw).mono (fun env4 S4 h4 σ4 H4 ρ4 r4 x4 en4 l4 k4 => ?_) fun _ _ z => z.elim)
      refine ⟨wipe_same hj (by rw [l4, wipe_length]) k4, ?_⟩
      refine htT ρ4 S4 H4 σ4 env4 _ r4 en4 ((wp_bndx h4).mono (fun b S5 h5 H5 ρ5 r5 x5 => ?_) fun _ _ z => z.elim)
      have xx : Ext (cf X T) ρ' H' ρ5 H5 := x3.trans (x4.trans x5)
      cases b with
      | false =>
        simp only [Bool.false_eq_true, if_false] at h5 ⊢
        exact ⟨ρ5, S5, acc, r5, x'.trans xx, il.ext xx, h5⟩
      | true =>
        simp only [if_true] at h5 ⊢
        refine htE ρ5 S5 H5 σ4 env4 _ r5 (en4.ext x5) ((wp_bndx h5).mono (fun y S6 h6 v H6 ρ6 r6 x6 i6 => ?_) fun _ _ z => z.elim)
        split at h6
        · rename_i hz
          exact ⟨by rw [← il.length]; exact hz, ρ6, S6, acc ++ [y], r6, x'.trans (xx.trans x6), (il.ext (xx.trans x6)).append (IsL.cons i6 IsL.nil), h6⟩
        · exact h6.elim
    · exact hw.elim
  · have e : i = w.1.length := by omega
    subst e
    rw [List.drop_length] at hw
    unfold compLoop at hw
    split at hw
    · rename_i hPS
      obtain ⟨_, st, _⟩ := it ρ' S' H' r' x' hPS
      have hw : (if acc.length ≤ sizeLine then R.ok (D.tup acc) S' else R.stuck).wp (Post (cf X T) ρ H Q) (XPost (cf X T) ρ H (E σ)) := hw
      split at hw
      · rename_i hz
        refine .inl ⟨st, by rw [← il.length]; exact hz, fun q hq => ?_⟩
        have x3 : Ext (cf X T) ρ' H' ρ' (upd H' q (.tup vs)) := Ext.laid hq
        refine hw (.ref q) _ ρ' (r'.laid hq) ((x1.trans x').trans x3) ?_
        unfold Is
        exact ⟨q, vs, rfl, .of upd_same, il.ext x3⟩
      · exact hw.elim
    · exact hw.elim
end

/-! ### defs -/
def spS (c : Cfg) (n : Nat) (f : List D → Sto → R D) : Sp := fun vs H Q E => ∃ ρ S ds, Rel c ρ S H ∧ IsL c.K ρ H ds vs ∧ ds.length = n ∧ (f ds S).wp (Post c ρ H Q) (XPost c ρ H E)
def runDef (n : Nat) (m : MS) : List D → Sto → R D := fun ds S => match m (ds.map some ++ List.replicate (n - ds.length) none) S with
  | .nx _ S' => .ok .non S'
  | .rt d S' => .ok d S'
  | .exc _ e S' => .exc e S'
  | _ => .stuck
theorem env_start {c : Cfg} {ρ : List Addr} {H : Hp} {N : List Str} : ∀ {ds : List D} {vs : List V} {n : Nat}, IsL c.K ρ H ds vs → EnvR c ρ H (ds.map some ++ List.replicate n none) (vs.map some ++ List.replicate n none) := fun {ds vs n} il => by
  refine ⟨by simp [il.length], fun i d h => ?_⟩
  by_cases hi : i < ds.length
  · rw [List.getElem?_append_left (by simpa using hi)] at h
    rw [List.getElem?_map] at h
    cases e : ds[i]? with
    | none => rw [e] at h; cases h
    | some d' =>
      rw [e] at h; cases h
      obtain ⟨v, e1, e2⟩ := il.get e
      refine ⟨v, ?_, e2⟩
      rw [List.getElem?_append_left (by simpa using (List.getElem?_eq_some_iff.mp e1).1), List.getElem?_map, e1]
      rfl
  · rw [List.getElem?_append_right (by simpa using hi), List.getElem?_replicate] at h
    split at h <;> cases h
section
variable {P : Program} {w : World} {K : PySem.W.Frag} {mg : Str → Option Value} {base : Heap}
/-- a def, by its body -/
theorem fnS {x qual : Str} {st : Stmt} {f : Addr} {fd : FuncData} {N ps : List Str} {k : Nat} {T : List Addr} {m : MS} (F : Fun K x qual st f fd) (S : FnScope N ps (defScope st))
    (hbody : ∀ (cdv : Value) (A : Around) (outer : List Env) (s : Shared) (H : Hp) (E : XK), PySem.W.codeIn K cdv qual = true → Room k (A.deeper (envOfC qual (defScope st) s.heap.objs.size f cdv)) → A.guards = some [] →
      CSs (cxOf (L2.CX P w) P w K mg base N qual (defScope st) f cdv A outer s H E) T (fun _ => E) (defBody st) m) :
    FnG P w K mg base (k + 1) f fd ps (spS ⟨K, T⟩ ps.length (runDef N.length m)) := by
  refine fnG_of F S (fun vs H Q E h => ?_) (fun cdv A outer s H vs Q E hcd hr hgd h => ?_)
  · obtain ⟨ρ, S, ds, r, il, hl, _⟩ := h
    rw [← il.length, hl]
  · obtain ⟨t, p, ht⟩ := (hbody cdv A outer s H E hcd hr hgd).ex
    obtain ⟨ρ, S, ds, r, il, hl, hw⟩ := h
    refine ⟨t, p, ?_⟩
    have en : EnvR ⟨K, T⟩ ρ H (ds.map some ++ List.replicate (N.length - ds.length) none) (L2.start N vs) := by
      unfold L2.start
      rw [il.length]
      exact env_start (N := N) il
    refine ht ρ S H (L2.start N vs) _ _ r en ?_
    unfold runDef at hw
    cases e : m (ds.map some ++ List.replicate (N.length - ds.length) none) S with
    | nx env S' =>
      rw [e] at hw
      exact fun σ' H' ρ' r' x' en' => hw .non H' ρ' r' x' (by unfold Is; rfl)
    | rt d S' => rw [e] at hw; exact hw
    | exc env x S' =>
      rw [e] at hw
      cases x with
      | plain C => exact fun σ' H' ρ' r' x' en' => hw H' ρ' r' x'
    | bk env S' => rw [e] at hw; exact hw.elim
    | ct env S' => rw [e] at hw; exact hw.elim
    | stuck => rw [e] at hw; exact hw.elim

/-! ### calls -/
def mcall (n : Nat) (f : List D → Sto → R D) (m : ML) : MD := fun env => bnd (m env) fun ds S => if ds.length = n then f ds S else .stuck
end
section
variable {X : Cx} {T : List Addr} {E : WK} {k : Nat} {f : Addr} {fd : FuncData} {ps : List Str} {x : Str} {p pos : Pos} {e : Expr} {es : List Expr} {nice : List D → Sto → R D} {mr : ML}
theorem tie_call {ta : TA} {c : Cfg} (h : TieA c E ta mr) {n : Nat} : Tie c E (tCallW (spS c n nice) [] E ta) (mcall n nice mr) := fun ρ S H σ env Q r en q => by
  refine h ρ S H σ env _ r en ((wp_bnd q).mono (fun ds S1 h1 vs H1 ρ1 r1 x1 i1 => ?_) fun _ _ z => z)
  split at h1
  · rename_i hl
    rw [List.append_nil]
    exact ⟨ρ1, S1, ds, r1, i1, hl, h1.mono (fun _ _ z => z.ext x1) fun _ _ z => z.ext x1⟩
  · exact h1.elim
theorem ce_call {n : Nat} (F : FnG X.prog X.w X.K X.mg X.base k f fd ps (spS (cf X T) n nice)) (hr : Room k X.A) (hgd : X.A.guards = some []) (hg : Gl X x) (hm : X.mg x = some (.ref f)) (hk : PySem.W.keepIn X.K (.ref f) = true) (hb : Binds X.K fd ps []) (hx : PassesW X E)
    (ha : CA X T E (e :: es) mr) (hdb : (x == ("__debug__" : Str)) = false := by decide) (he : starEach (e :: es) X.env = (false, eval e X.env) :: starEach es X.env := by rfl) (hpl : (backTo pos (starEach es X.env)).any (·.1) = false := by rfl) :
    CE X T E (.Call (.Name x p) (e :: es) [] pos) (mcall n nice mr) := by
  obtain ⟨t, q, ht⟩ := ha.ex
  exact ⟨_, pe_callGW F hr hgd hg hm hk hb .nil hx q hdb he hpl, tie_call ht⟩
theorem ce_call0 {n : Nat} (F : FnG X.prog X.w X.K X.mg X.base k f fd ps (spS (cf X T) n nice)) (hr : Room k X.A) (hgd : X.A.guards = some []) (hg : Gl X x) (hm : X.mg x = some (.ref f)) (hk : PySem.W.keepIn X.K (.ref f) = true) (hb : Binds X.K fd ps []) (hx : PassesW X E)
    (hdb : (x == ("__debug__" : Str)) = false := by decide) : CE X T E (.Call (.Name x p) [] [] pos) (mcall n nice mnil) :=
  ⟨_, pe_call0GW F hr hgd hg hm hk hb .nil hx hdb, tie_call (c := cf X T) (mr := mnil) (fun ρ S H σ env Q r en h => (show PostA (cf X T) ρ H Q [] S from h) [] H ρ r Ext.refl IsL.nil)⟩
end
end Ti
namespace Ti
open PySem PySem.Spec PyProof.Rows L2 GxR Gx

/-! ### data as the library tells it -/
mutual
def pyD : D → Option PyData
  | .non => some .none
  | .bl b => some (.bool b)
  | .int i => some (.int i)
  | .str x => some (.str x)
  | .tup xs => match pyL xs with
    | some ps => some (.tuple ps)
    | none => none
  | .frz xs => match pyL xs with
    | some ps => some (.list ps)
    | none => none
  | _ => none
def pyL : List D → Option (List PyData)
  | [] => some []
  | d :: ds => match pyD d, pyL ds with
    | some p, some ps => some (p :: ps)
    | _, _ => none
end
section
variable {K : PySem.W.Frag} {ρ : List Addr} {H : Hp}
mutual
theorem dp_of : ∀ {d : D} {v : V} {p : PyData}, Is K ρ H d v → pyD d = some p → Dp K H v p
  | .non, v, p, h, e => by unfold Is at h; unfold pyD at e; cases e; subst h; exact .non
  | .bl b, v, p, h, e => by unfold Is at h; unfold pyD at e; cases e; subst h; exact .bl b
  | .int b, v, p, h, e => by unfold Is at h; unfold pyD at e; cases e; subst h; exact .int b
  | .str b, v, p, h, e => by unfold Is at h; unfold pyD at e; cases e; subst h; exact .str b
  | .tup xs, v, p, h, e => by
    unfold Is at h; unfold pyD at e
    obtain ⟨a, vs, rfl, hs, il⟩ := h
    cases q : pyL xs with
    | none => rw [q] at e; cases e
    | some ps => rw [q] at e; cases e; exact .tup hs (dps_of il q)
  | .frz xs, v, p, h, e => by
    unfold Is at h; unfold pyD at e
    obtain ⟨a, vs, rfl, hs, il⟩ := h
    cases q : pyL xs with
    | none => rw [q] at e; cases e
    | some ps => rw [q] at e; cases e; exact .lst hs.sq (dps_of il q)
  | .ty _, v, p, h, e => by unfold pyD at e; cases e
  | .ref _, v, p, h, e => by unfold pyD at e; cases e
  | .adr _, v, p, h, e => by unfold pyD at e; cases e
theorem dps_of : ∀ {ds : List D} {vs : List V} {ps : List PyData}, IsL K ρ H ds vs → pyL ds = some ps → DpAll K H vs ps
  | [], vs, ps, h, e => by rw [h.nil_inv]; unfold pyL at e; cases e; exact .nil
  | d :: ds, vs, ps, h, e => by
    obtain ⟨v, ws, rfl, h1, h2⟩ := h.cons_inv
    unfold pyL at e
    cases q1 : pyD d with
    | none => rw [q1] at e; cases e
    | some p =>
      cases q2 : pyL ds with
      | none => rw [q1, q2] at e; cases e
      | some qs => rw [q1, q2] at e; cases e; exact .cons (dp_of h1 q1) (dps_of h2 q2)
end
end
/-- with the lists of the store -/
def pyS (S : Sto) : D → Option PyData
  | .ref i => match S[i]? with
    | some (.lst xs) => match pyL xs with
      | some ps => some (.list ps)
      | none => none
    | none => none
  | d => pyD d
theorem dp_sto {c : Cfg} {ρ : List Addr} {S : Sto} {H : Hp} {d : D} {v : V} {p : PyData} (r : Rel c ρ S H) (h : Is c.K ρ H d v) (e : pyS S d = some p) : Dp c.K H v p := by
  cases d with
  | ref i =>
    unfold pyS at e
    simp only at e
    cases es : S[i]? with
    | none => rw [es] at e; cases e
    | some o =>
      cases o with
      | lst xs =>
        rw [es] at e
        simp only at e
        cases q : pyL xs with
        | none => rw [q] at e; cases e
        | some ps =>
          rw [q] at e; cases e
          unfold Is at h
          obtain ⟨a, ea, rfl⟩ := h
          obtain ⟨vs, e1, il⟩ := r.obj i a _ ea es
          exact .lst (.of e1) (dps_of il q)
  | _ => exact dp_of h e

/-! ### operators by values -/
def dI (f : Int → Int → Int) : D → D → Sto → R D := fun x y S => match x, y with
  | .int i, .int j => .ok (.int (f i j)) S
  | _, _ => .stuck
def dIB (f : Int → Int → Bool) : D → D → Sto → R D := fun x y S => match x, y with
  | .int i, .int j => .ok (.bl (f i j)) S
  | _, _ => .stuck
theorem is_int {K : PySem.W.Frag} {ρ : List Addr} {H : Hp} {i : Int} : Is K ρ H (.int i) (.int i) := by unfold Is; rfl
theorem is_bl {K : PySem.W.Frag} {ρ : List Addr} {H : Hp} {i : Bool} : Is K ρ H (.bl i) (.bl i) := by unfold Is; rfl
theorem is_str {K : PySem.W.Frag} {ρ : List Addr} {H : Hp} {i : Str} : Is K ρ H (.str i) (.str i) := by unfold Is; rfl
theorem is_non {K : PySem.W.Frag} {ρ : List Addr} {H : Hp} : Is K ρ H .non .non := by unfold Is; rfl
theorem is_tyn {K : PySem.W.Frag} {ρ : List Addr} {H : Hp} {n : String} : Is K ρ H (.ty n) (.ty n) := by unfold Is; rfl
section
variable {c : Cfg}
theorem ot_sub : OpT c (rI0 fun i j => .int (i - j)) (dI fun i j => i - j) := fun ρ S H x y dx dy Q Ew r h1 h2 q => by
  cases dx <;> first | exact q.elim | skip
  cases dy <;> first | exact q.elim | skip
  unfold Is at h1 h2
  exact ⟨_, _, h1, h2, q _ H ρ r Ext.refl is_int⟩
theorem ot_cmp (f : Int → Int → Bool) : OpT c (rI0 fun i j => .bl (f i j)) (dIB f) := fun ρ S H x y dx dy Q Ew r h1 h2 q => by
  cases dx <;> first | exact q.elim | skip
  cases dy <;> first | exact q.elim | skip
  unfold Is at h1 h2
  exact ⟨_, _, h1, h2, q _ H ρ r Ext.refl is_bl⟩
def dDiv : D → D → Sto → R D := fun x y S => match x, y with
  | .int i, .int j => if 0 < j ∧ j < 1073741824 then .ok (.int (i / j)) S else .stuck
  | _, _ => .stuck
theorem ot_div : OpT c (rI CDiv fun i j => .int (i / j)) dDiv := fun ρ S H x y dx dy Q Ew r h1 h2 q => by
  cases dx <;> first | exact q.elim | skip
  cases dy <;> first | exact q.elim | skip
  unfold dDiv at q
  simp only at q
  split at q
  · rename_i hj
    unfold Is at h1 h2
    exact ⟨_, _, h1, h2, hj, q _ H ρ r Ext.refl is_int⟩
  · exact q.elim
def dMod : D → D → Sto → R D := fun x y S => match x, y with
  | .int i, .int j => if 0 < j then .ok (.int (i % j)) S else .stuck
  | _, _ => .stuck
theorem ot_mod : OpT c (rI (fun _ j => 0 < j) fun i j => .int (i % j)) dMod := fun ρ S H x y dx dy Q Ew r h1 h2 q => by
  cases dx <;> first | exact q.elim | skip
  cases dy <;> first | exact q.elim | skip
  unfold dMod at q
  simp only at q
  split at q
  · rename_i hj
    unfold Is at h1 h2
    exact ⟨_, _, h1, h2, hj, q _ H ρ r Ext.refl is_int⟩
  · exact q.elim
/-- a list of the store, or one that is never written -/
def lstOf (S : Sto) : D → Option (List D)
  | .ref i => match S[i]? with
    | some (.lst xs) => some xs
    | none => none
  | .frz xs => some xs
  | _ => none
theorem lstOf_ref {S : Sto} {d : D} {xs : List D} {ρ : List Addr} {H : Hp} {v : V} (r : Rel c ρ S H) (h : Is c.K ρ H d v) (e : lstOf S d = some xs) : ∃ a vs, v = .ref a ∧ SqL c.K H a vs ∧ IsL c.K ρ H xs vs := by
  cases d <;> first | (unfold lstOf at e; cases e; done) | skip
  · unfold lstOf at e; cases e
    unfold Is at h
    obtain ⟨a, vs, e1, hf, il⟩ := h
    exact ⟨a, vs, e1, hf.sq, il⟩
  · rename_i i
    unfold lstOf at e
    simp only at e
    cases es : S[i]? with
    | none => rw [es] at e; cases e
    | some o =>
      cases o with
      | lst ys =>
        rw [es] at e; cases e
        unfold Is at h
        obtain ⟨a, ea, e1⟩ := h
        obtain ⟨vs, e2, il⟩ := r.obj i a _ ea es
        exact ⟨a, vs, e1, .of e2, il⟩
/-- a list of the store, at its place -/
theorem lst_ref {S : Sto} {i : Nat} {xs : List D} {ρ : List Addr} {H : Hp} {v : V} (r : Rel c ρ S H) (h : Is c.K ρ H (.ref i) v) (e : S[i]? = some (.lst xs)) : ∃ a vs, v = .ref a ∧ ρ[i]? = some a ∧ H a = some (.lst vs) ∧ IsL c.K ρ H xs vs := by
  unfold Is at h
  obtain ⟨a, ea, e1⟩ := h
  obtain ⟨vs, e2, il⟩ := r.obj i a _ ea e
  exact ⟨a, vs, e1, ea, e2, il⟩
/-- a new list comes into the store -/
theorem Post.new {ρ : List Addr} {S : Sto} {H : Hp} {Q : VK} {ds : List D} {vs : List V} {p : Addr} (r : Rel c ρ S H) (q : Post c ρ H Q (.ref S.length) (S ++ [.lst ds])) (il : IsL c.K ρ H ds vs) (hp : H p = none) : Q (.ref p) (upd H p (.lst vs)) := by
  have x : Ext c ρ H ρ (upd H p (.lst vs)) := Ext.laid hp
  refine q (.ref p) _ (ρ ++ [p]) ((r.laid hp).admit upd_same (r.nin hp) (il.ext x)) (Ext.admit upd_same x hp) ?_
  unfold Is
  refine ⟨p, ?_, rfl⟩
  rw [← r.len, List.getElem?_append_right (Nat.le_refl _)]
  simp
/-- a new tuple -/
theorem Post.newT {ρ : List Addr} {S : Sto} {H : Hp} {Q : VK} {ds : List D} {vs : List V} {p : Addr} (r : Rel c ρ S H) (q : Post c ρ H Q (.tup ds) S) (il : IsL c.K ρ H ds vs) (hp : H p = none) : Q (.ref p) (upd H p (.tup vs)) := by
  have x : Ext c ρ H ρ (upd H p (.tup vs)) := Ext.laid hp
  refine q (.ref p) _ ρ (r.laid hp) x ?_
  unfold Is
  exact ⟨p, vs, rfl, .of upd_same, il.ext x⟩
def dAdd : D → D → Sto → R D := fun x y S => match x, y with
  | .int i, .int j => .ok (.int (i + j)) S
  | .str i, .str j => if i.length + j.length ≤ sizeLine then .ok (.str (i ++ j)) S else .stuck
  | .tup xs, .tup ys => if xs.length + ys.length ≤ sizeLine then .ok (.tup (xs ++ ys)) S else .stuck
  | .ref i, .ref j => match S[i]?, S[j]? with
    | some (.lst xs), some (.lst ys) => if xs.length + ys.length ≤ sizeLine then .ok (.ref S.length) (S ++ [.lst (xs ++ ys)]) else .stuck
    | _, _ => .stuck
  | _, _ => .stuck
def rAddA (K : PySem.W.Frag) : R2 := fun x y H Q => ((rI0 fun i j => .int (i + j)) x y H Q ∨ (∃ i j, x = .str i ∧ y = .str j ∧ i.length + j.length ≤ sizeLine ∧ Q (.str (i ++ j)) H)) ∨ (rCatA K x y H Q ∨ rCat x y H Q)
theorem op_addA {X : Cx} (hu : True) : OpR X (binaryOp .Add) (rAddA X.K) := (op_add.or op_add_str).or (op_catA.or op_cat)
theorem ot_add : OpT c (rAddA c.K) dAdd := fun ρ S H x y dx dy Q Ew r h1 h2 q => by
  cases dx <;> first | exact q.elim | skip
  · cases dy <;> first | exact q.elim | skip
    unfold Is at h1 h2
    exact .inl (.inl ⟨_, _, h1, h2, q _ H ρ r Ext.refl is_int⟩)
  · cases dy <;> first | exact q.elim | skip
    unfold dAdd at q
    simp only at q
    split at q
    · rename_i hz
      unfold Is at h1 h2
      exact .inl (.inr ⟨_, _, h1, h2, hz, q _ H ρ r Ext.refl is_str⟩)
    · exact q.elim
  · cases dy <;> first | exact q.elim | skip
    rename_i xs ys
    unfold dAdd at q
    simp only at q
    split at q
    · rename_i hz
      have h1' := h1
      have h2' := h2
      unfold Is at h1 h2
      obtain ⟨a, vs, rfl, hs, il⟩ := h1
      obtain ⟨b, ws, rfl, hs2, il2⟩ := h2
      refine .inr (.inl ⟨a, b, vs, ws, rfl, rfl, hs, hs2, by rw [← il.length, ← il2.length]; exact hz, fun e => ?_, fun _ e => ?_, fun _ _ p hp => q.newT r (il.append il2) hp⟩)
      · refine q (.ref b) H ρ r Ext.refl ?_
        have : xs = [] := List.eq_nil_of_length_eq_zero (by rw [il.length, e]; rfl)
        rw [this]; exact h2'
      · refine q (.ref a) H ρ r Ext.refl ?_
        have : ys = [] := List.eq_nil_of_length_eq_zero (by rw [il2.length, e]; rfl)
        rw [this, List.append_nil]; exact h1'
    · exact q.elim
  · cases dy <;> first | exact q.elim | skip
    rename_i i j
    unfold dAdd at q
    simp only at q
    split at q
    · rename_i xs ys e1 e2
      split at q
      · rename_i hz
        obtain ⟨a, vs, rfl, _, hs, il⟩ := lst_ref r h1 e1
        obtain ⟨b, ws, rfl, _, hs2, il2⟩ := lst_ref r h2 e2
        exact .inr (.inr ⟨a, b, vs, ws, rfl, rfl, hs, hs2, by rw [← il.length, ← il2.length]; exact hz, fun p hp => Post.new r q (il.append il2) hp⟩)
      · exact q.elim
    · exact q.elim
def dMulI : D → D → Sto → R D := fun x y S => match x, y with
  | .int i, .int j => if (-(2 ^ 64) < i ∧ i < 2 ^ 64) ∨ (-(2 ^ 64) < j ∧ j < 2 ^ 64) then .ok (.int (i * j)) S else .stuck
  | _, _ => .stuck
theorem ot_mulI : OpT c (rI CMul fun i j => .int (i * j)) dMulI := fun ρ S H x y dx dy Q Ew r h1 h2 q => by
  cases dx <;> first | exact q.elim | skip
  cases dy <;> first | exact q.elim | skip
  unfold dMulI at q
  simp only at q
  split at q
  · rename_i hj
    unfold Is at h1 h2
    exact ⟨_, _, h1, h2, hj, q _ H ρ r Ext.refl is_int⟩
  · exact q.elim

/-! ### == != in -/
def dEq : D → D → Sto → R D := fun x y S => match pyS S x, pyS S y with
  | some p, some q => if SeqAt.shaped p = true ∧ SeqAt.shaped q = true then .ok (.bl (PyData.eqv p q)) S else .stuck
  | _, _ => .stuck
def dNe : D → D → Sto → R D := fun x y S => match pyS S x, pyS S y with
  | some p, some q => if SeqAt.shaped p = true ∧ SeqAt.shaped q = true then .ok (.bl (!PyData.eqv p q)) S else .stuck
  | _, _ => .stuck
theorem ot_eq : OpT c (rEqD c.K) dEq := fun ρ S H x y dx dy Q Ew r h1 h2 q => by
  unfold dEq at q
  split at q
  · rename_i p p' e1 e2
    split at q
    · rename_i hs
      exact ⟨p, p', dp_sto r h1 e1, dp_sto r h2 e2, hs.1, hs.2, q _ H ρ r Ext.refl is_bl⟩
    · exact q.elim
  · exact q.elim
theorem ot_ne : OpT c (rNeD c.K) dNe := fun ρ S H x y dx dy Q Ew r h1 h2 q => by
  unfold dNe at q
  split at q
  · rename_i p p' e1 e2
    split at q
    · rename_i hs
      exact ⟨p, p', dp_sto r h1 e1, dp_sto r h2 e2, hs.1, hs.2, q _ H ρ r Ext.refl is_bl⟩
    · exact q.elim
  · exact q.elim
def flatD : D → Bool
  | .non => true
  | .bl _ => true
  | .int _ => true
  | .str _ => true
  | _ => false
/-- == of flat data -/
def eqF : D → D → Bool
  | .non, .non => true
  | .bl a, .bl b => a == b
  | .bl a, .int b => (if a then 1 else 0) == b
  | .int a, .bl b => a == (if b then 1 else 0)
  | .int a, .int b => a == b
  | .str a, .str b => a == b
  | _, _ => false
theorem flat_V {K : PySem.W.Frag} {ρ : List Addr} {H : Hp} {d : D} {v : V} (h : Is K ρ H d v) (f : flatD d = true) : flatV v = true := by
  cases d <;> first | (unfold flatD at f; cases f; done) | (unfold Is at h; subst h; rfl)
theorem eq_V {K : PySem.W.Frag} {ρ : List Addr} {H : Hp} {d d' : D} {v v' : V} (h : Is K ρ H d v) (h' : Is K ρ H d' v') (f : flatD d = true) (f' : flatD d' = true) : eqV v v' = eqF d d' := by
  cases d <;> first | (unfold flatD at f; cases f; done) | (unfold Is at h; subst h; cases d' <;> first | (unfold flatD at f'; cases f'; done) | (unfold Is at h'; subst h'; rfl))
theorem flat_Vs {K : PySem.W.Frag} {ρ : List Addr} {H : Hp} : ∀ {ds : List D} {vs : List V}, IsL K ρ H ds vs → ds.all flatD = true → vs.all flatV = true
  | [], vs, h, _ => by rw [h.nil_inv]; rfl
  | d :: ds, vs, h, f => by
    obtain ⟨v, ws, rfl, h1, h2⟩ := h.cons_inv
    rw [List.all_cons, Bool.and_eq_true] at f ⊢
    exact ⟨flat_V h1 f.1, flat_Vs h2 f.2⟩
theorem any_V {K : PySem.W.Frag} {ρ : List Addr} {H : Hp} {d : D} {v : V} (h : Is K ρ H d v) (f : flatD d = true) : ∀ {ds : List D} {vs : List V}, IsL K ρ H ds vs → ds.all flatD = true → inV v vs = ds.any fun z => eqF z d
  | [], vs, h, _ => by rw [h.nil_inv]; rfl
  | d' :: ds, vs, h', f' => by
    obtain ⟨v', ws, rfl, h1, h2⟩ := h'.cons_inv
    rw [List.all_cons, Bool.and_eq_true] at f'
    have ih := any_V h f h2 f'.2
    unfold inV at ih ⊢
    rw [List.any_cons, List.any_cons, eq_V h1 h f'.1 f, ih]
/-- what `in` looks through -/
def seqOf (S : Sto) : D → Option (List D)
  | .tup xs => some xs
  | d => lstOf S d
theorem seqOf_ref {S : Sto} {d : D} {xs : List D} {ρ : List Addr} {H : Hp} {v : V} (r : Rel c ρ S H) (h : Is c.K ρ H d v) (e : seqOf S d = some xs) : ∃ a vs, v = .ref a ∧ (SqL c.K H a vs ∨ SqT c.K H a vs) ∧ IsL c.K ρ H xs vs := by
  cases d with
  | tup ys =>
    unfold seqOf at e; cases e
    unfold Is at h
    obtain ⟨a, vs, e1, hf, il⟩ := h
    exact ⟨a, vs, e1, .inr hf, il⟩
  | _ =>
    obtain ⟨a, vs, e1, hf, il⟩ := lstOf_ref r h e
    exact ⟨a, vs, e1, .inl hf, il⟩
def dIn (neg : Bool) : D → D → Sto → R D := fun x y S => match seqOf S y with
  | some ys => if flatD x = true ∧ ys.all flatD = true then .ok (.bl (if neg then !(ys.any fun z => eqF z x) else ys.any fun z => eqF z x)) S else .stuck
  | none => .stuck
theorem ot_in (neg : Bool) : OpT c (rIn c.K neg) (dIn neg) := fun ρ S H x y dx dy Q Ew r h1 h2 q => by
  unfold dIn at q
  split at q
  · rename_i ys e1
    split at q
    · rename_i hf
      obtain ⟨a, vs, rfl, hs, il⟩ := seqOf_ref r h2 e1
      have e := any_V h1 hf.1 il hf.2
      refine ⟨a, vs, rfl, hs, flat_V h1 hf.1, flat_Vs il hf.2, ?_⟩
      rw [e]
      exact q _ H ρ r Ext.refl is_bl
    · exact q.elim
  · exact q.elim
/-! ### is -/
def dIs (neg : Bool) : D → D → Sto → R D := fun x y S => match y with
  | .non => match x with
    | .non => .ok (.bl (!neg)) S
    | _ => .ok (.bl neg) S
  | .ty b => match x with
    | .ty a => .ok (.bl (if neg then !decide (a = b) else decide (a = b))) S
    | _ => .stuck
  | .bl b => match x with
    | .bl a => .ok (.bl (if neg then !decide (a = b) else decide (a = b))) S
    | _ => .stuck
  | _ => .stuck
def rIsA (neg : Bool) : R2 := fun x y H Q => (y = .non ∧ Q (.bl (if neg then !decide (x = .non) else decide (x = .non))) H) ∨
  ((∃ a b, x = .ty a ∧ y = .ty b ∧ Q (.bl (if neg then !decide (a = b) else decide (a = b))) H) ∨ (∃ a b, x = .bl a ∧ y = .bl b ∧ Q (.bl (if neg then !decide (a = b) else decide (a = b))) H))
theorem op_isA {X : Cx} : OpR X (compareOp .Is) (rIsA false) := op_isN.or (op_isTy.or op_is_bl)
theorem op_isnotA {X : Cx} : OpR X (compareOp .IsNot) (rIsA true) := op_notN.or (op_isNotTy.or op_isnot_bl)
theorem ot_is (neg : Bool) : OpT c (rIsA neg) (dIs neg) := fun ρ S H x y dx dy Q Ew r h1 h2 q => by
  unfold dIs at q
  cases dy <;> first | exact q.elim | skip
  · have h2 : y = V.non := by unfold Is at h2; exact h2
    refine .inl ⟨h2, ?_⟩
    cases dx with
    | non =>
      have h1 : x = V.non := by unfold Is at h1; exact h1
      subst h1
      have := q (.bl (!neg)) H ρ r Ext.refl is_bl
      cases neg <;> simpa using this
    | bl b =>
      have h1 : x = V.bl b := by unfold Is at h1; exact h1
      subst h1
      have := q (.bl neg) H ρ r Ext.refl is_bl
      cases neg <;> simpa using this
    | int b =>
      have h1 : x = V.int b := by unfold Is at h1; exact h1
      subst h1
      have := q (.bl neg) H ρ r Ext.refl is_bl
      cases neg <;> simpa using this
    | str b =>
      have h1 : x = V.str b := by unfold Is at h1; exact h1
      subst h1
      have := q (.bl neg) H ρ r Ext.refl is_bl
      cases neg <;> simpa using this
    | ty b =>
      have h1 : x = V.ty b := by unfold Is at h1; exact h1
      subst h1
      have := q (.bl neg) H ρ r Ext.refl is_bl
      cases neg <;> simpa using this
    | adr b =>
      have h1 : x = V.ref b := by unfold Is at h1; exact h1
      subst h1
      have := q (.bl neg) H ρ r Ext.refl is_bl
      cases neg <;> simpa using this
    | tup b =>
      unfold Is at h1
      obtain ⟨a, _, rfl, _⟩ := h1
      have := q (.bl neg) H ρ r Ext.refl is_bl
      cases neg <;> simpa using this
    | frz b =>
      unfold Is at h1
      obtain ⟨a, _, rfl, _⟩ := h1
      have := q (.bl neg) H ρ r Ext.refl is_bl
      cases neg <;> simpa using this
    | ref b =>
      unfold Is at h1
      obtain ⟨a, _, rfl⟩ := h1
      have := q (.bl neg) H ρ r Ext.refl is_bl
      cases neg <;> simpa using this
  · cases dx <;> first | exact q.elim | skip
    unfold Is at h1 h2
    exact .inr (.inr ⟨_, _, h1, h2, q _ H ρ r Ext.refl is_bl⟩)
  · cases dx <;> first | exact q.elim | skip
    unfold Is at h1 h2
    exact .inr (.inl ⟨_, _, h1, h2, q _ H ρ r Ext.refl is_bl⟩)
end
end Ti
namespace Ti
open PySem PySem.Spec PyProof.Rows L2 GxR Gx

/-! ### repr of data -/
section
variable {X : Cx}
def rReprD (K : PySem.W.Frag) : List V → Hp → VK → Prop := fun xs H Q => ∃ x d, xs = [x] ∧ Dp K H x d ∧ d.showable = true ∧ d.hasDict = false ∧ d.depth ≤ 60 ∧ d.shown.length ≤ sizeLine ∧ Q (.str d.shown) H
theorem call_reprD (hg : X.A.guards = some []) (hu : X.A.units + 64 < cLine) : CallR X (.builtin "repr") (rReprD X.K) := by
  intro pins s σ H xs us Q I r h
  obtain ⟨x, d, rfl, hd, h1, h2, h3, h4, q⟩ := h
  obtain ⟨u, rfl, rx⟩ := vals1 r
  have ref : ∀ a as, u = .ref a → Reads s.heap u d as → wpAny (model X.prog X.w) X.A (call (.builtin "repr") [u]) (EP X pins σ Q) X.xe s := fun a as e rr => by
    subst e
    exact repr_of_reads' rr h1 (PyData.noDict_hsm h2) hg (by omega) (fun _ _ e => e) (fun h' u tk hk => ⟨.str d.shown, H, I.kept hk, ⟨_, rfl⟩, q⟩) h4
  obtain ⟨as, rr⟩ := Dp.reads I d x u hd rx
  cases hd with
  | non => cases rx; exact PySem.P.repr_of_none ⟨.str _, H, I.tok _, ⟨_, rfl⟩, q⟩
  | bl b => cases rx; exact PySem.P.repr_of_bool ⟨.str _, H, I.tok _, ⟨_, rfl⟩, q⟩
  | int i =>
    obtain ⟨t, rfl⟩ := rx
    exact PySem.P.repr_of_int (by simpa [PyData.showable] using h1) ⟨.str _, H, I.tok _, ⟨_, rfl⟩, q⟩
  | str y =>
    obtain ⟨t, rfl⟩ := rx
    exact PySem.P.repr_of_str ⟨.str _, H, I.tok _, ⟨_, rfl⟩, q⟩ h4
  | lst h h' => exact ref _ _ rx rr
  | tup h h' => exact ref _ _ rx rr
end

/-! ### a built-in by values -/
abbrev RB := List V → Hp → VK → Prop
def OpB (c : Cfg) (r : RB) (f : List D → Sto → R D) : Prop := ∀ ρ S H vs ds Q (Ew : XK), Rel c ρ S H → IsL c.K ρ H ds vs → (f ds S).wp (Post c ρ H Q) (XPost c ρ H Ew) → r vs H Q
def OpBL (c : Cfg) (r : RB) (f : List D → Sto → R (List D)) : Prop := ∀ ρ S H vs ds Q (Ew : XK), Rel c ρ S H → IsL c.K ρ H ds vs → (f ds S).wp (PostL c ρ H Q) (XPost c ρ H Ew) → r vs H Q
def mbi {α : Type} (f : List D → Sto → R α) (m : ML) : Slots → Sto → R α := fun env => bnd (m env) fun ds => f ds
section
variable {X : Cx} {T : List Addr} {E : WK} {e a b : Expr} {es : List Expr} {x : Str} {p pos : Pos} {id : String} {r : RB} {f : List D → Sto → R D} {g : List D → Sto → R (List D)} {mr : ML} {ta : TA}
theorem tie_bi {c : Cfg} (h : TieA c E ta mr) (o : OpB c r f) : Tie c E (tCB r ta) (mbi f mr) := fun ρ S H σ env Q r0 en q =>
  h ρ S H σ env _ r0 en ((wp_bnd q).mono (fun ds S1 h1 vs H1 ρ1 r1 x1 i1 => o ρ1 S1 H1 vs ds Q _ r1 i1 (h1.mono (fun _ _ z => z.ext x1) fun _ _ z => z.ext x1)) fun _ _ z => z)
theorem tie_biL {c : Cfg} (h : TieA c E ta mr) (o : OpBL c r g) : TieL c E (tCB r ta) (mbi g mr) := fun ρ S H σ env Q r0 en q =>
  h ρ S H σ env _ r0 en ((wp_bnd q).mono (fun ds S1 h1 vs H1 ρ1 r1 x1 i1 => o ρ1 S1 H1 vs ds Q _ r1 i1 (h1.mono (fun _ _ z => z.ext x1) fun _ _ z => z.ext x1)) fun _ _ z => z)
theorem ce_bi (hc : CallR X (.builtin id) r) (o : OpB (cf X T) r f) (hg : Gl X x) (hm : X.mg x = none) (hv : bootBuiltins x = some (.builtin id)) (ha : CA X T E (e :: es) mr) (hn : x ≠ "__name__" := by decide) (hdb : (x == ("__debug__" : Str)) = false := by decide)
    (he : starEach (e :: es) X.env = (false, eval e X.env) :: starEach es X.env := by rfl) (hpl : (backTo pos (starEach es X.env)).any (·.1) = false := by rfl) : CE X T E (.Call (.Name x p) (e :: es) [] pos) (mbi f mr) := by
  obtain ⟨t, q, ht⟩ := ha.ex
  exact ⟨_, pe_callB hc hg hm hv q hn hdb he hpl, tie_bi ht o⟩
theorem ce_bt (hc : CallR X (.type id) r) (o : OpB (cf X T) r f) (hg : Gl X x) (hm : X.mg x = none) (hv : bootBuiltins x = some (.type id)) (ha : CA X T E (e :: es) mr) (hn : x ≠ "__name__" := by decide) (hdb : (x == ("__debug__" : Str)) = false := by decide)
    (he : starEach (e :: es) X.env = (false, eval e X.env) :: starEach es X.env := by rfl) (hpl : (backTo pos (starEach es X.env)).any (·.1) = false := by rfl) : CE X T E (.Call (.Name x p) (e :: es) [] pos) (mbi f mr) := by
  obtain ⟨t, q, ht⟩ := ha.ex
  exact ⟨_, pe_callTy hc hg hm hv q hn hdb he hpl, tie_bi ht o⟩
theorem cl_bt (hc : CallR X (.type id) r) (o : OpBL (cf X T) r g) (hg : Gl X x) (hm : X.mg x = none) (hv : bootBuiltins x = some (.type id)) (ha : CA X T E (e :: es) mr) (hn : x ≠ "__name__" := by decide) (hdb : (x == ("__debug__" : Str)) = false := by decide)
    (he : starEach (e :: es) X.env = (false, eval e X.env) :: starEach es X.env := by rfl) (hpl : (backTo pos (starEach es X.env)).any (·.1) = false := by rfl) : CL X T E (.Call (.Name x p) (e :: es) [] pos) (mbi g mr) := by
  obtain ⟨t, q, ht⟩ := ha.ex
  exact ⟨_, pe_callTy hc hg hm hv q hn hdb he hpl, tie_biL ht o⟩
end
theorem isL1 {K : PySem.W.Frag} {ρ : List Addr} {H : Hp} {d : D} {vs : List V} (h : IsL K ρ H [d] vs) : ∃ v, vs = [v] ∧ Is K ρ H d v := by
  obtain ⟨v, ws, rfl, h1, h2⟩ := h.cons_inv
  rw [h2.nil_inv]
  exact ⟨v, rfl, h1⟩
theorem isL2 {K : PySem.W.Frag} {ρ : List Addr} {H : Hp} {d e : D} {vs : List V} (h : IsL K ρ H [d, e] vs) : ∃ v w, vs = [v, w] ∧ Is K ρ H d v ∧ Is K ρ H e w := by
  obtain ⟨v, ws, rfl, h1, h2⟩ := h.cons_inv
  obtain ⟨w, rfl, h3⟩ := isL1 h2
  exact ⟨v, w, rfl, h1, h3⟩

section
variable {c : Cfg}
/-! len -/
def bLen : List D → Sto → R D
  | [.str z], S => if z.length ≤ sizeLine then .ok (.int z.length) S else .stuck
  | [d], S => match seqOf S d with
    | some xs => .ok (.int xs.length) S
    | none => .stuck
  | _, _ => .stuck
def rLen (K : PySem.W.Frag) : RB := fun xs H Q => (∃ p ys, xs = [.ref p] ∧ (SqL K H p ys ∨ SqT K H p ys) ∧ Q (.int ys.length) H) ∨ (∃ z, xs = [.str z] ∧ z.length ≤ sizeLine ∧ Q (.int z.length) H)
theorem call_lenA {X : Cx} : CallR X (.builtin "len") (rLen X.K) := call_len_seq.or call_len_str
theorem ob_len : OpB c (rLen c.K) bLen := fun ρ S H vs ds Q Ew r il q => by
  unfold bLen at q
  split at q
  · rename_i z
    obtain ⟨v, rfl, h⟩ := isL1 il
    split at q
    · rename_i hz
      have h : v = V.str z := by unfold Is at h; exact h
      exact .inr ⟨z, by rw [h], hz, q _ H ρ r Ext.refl is_int⟩
    · exact q.elim
  · rename_i d hd
    obtain ⟨v, rfl, h⟩ := isL1 il
    split at q
    · rename_i xs e
      obtain ⟨a, vs, rfl, hs, il⟩ := seqOf_ref r h e
      exact .inl ⟨a, vs, rfl, hs, by have := q (.int xs.length) H ρ r Ext.refl is_int; rw [il.length] at this; exact this⟩
    · exact q.elim
  · exact q.elim
/-! int -/
def bInt : List D → Sto → R D
  | [.int i], S => .ok (.int i) S
  | [.bl k], S => .ok (.int (if k then 1 else 0)) S
  | _, _ => .stuck
def rInt : RB := fun xs H Q => (∃ i, xs = [.int i] ∧ Q (.int i) H) ∨ ∃ k, xs = [.bl k] ∧ Q (.int (if k then 1 else 0)) H
theorem call_intA {X : Cx} : CallR X (.type "int") rInt := call_int1
theorem ob_int : OpB c rInt bInt := fun ρ S H vs ds Q Ew r il q => by
  unfold bInt at q
  split at q
  · rename_i i
    obtain ⟨v, rfl, h⟩ := isL1 il
    have h : v = V.int i := by unfold Is at h; exact h
    exact .inl ⟨i, by rw [h], q _ H ρ r Ext.refl is_int⟩
  · rename_i k
    obtain ⟨v, rfl, h⟩ := isL1 il
    have h : v = V.bl k := by unfold Is at h; exact h
    exact .inr ⟨k, by rw [h], q _ H ρ r Ext.refl is_int⟩
  · exact q.elim
/-! type -/
def tyD (S : Sto) : D → Option String
  | .non => some "NoneType"
  | .bl _ => some "bool"
  | .int _ => some "int"
  | .str _ => some "str"
  | .tup _ => some "tuple"
  | .frz _ => some "list"
  | .ref i => match S[i]? with
    | some (.lst _) => some "list"
    | none => none
  | _ => none
theorem ty_of {ρ : List Addr} {S : Sto} {H : Hp} {d : D} {v : V} {t : String} (r : Rel c ρ S H) (h : Is c.K ρ H d v) (e : tyD S d = some t) : TyB c.K H v t ∧ TyX c.K H v (.type t) := by
  cases d <;> first | (cases e; done) | skip
  · cases e; have h : v = V.non := by unfold Is at h; exact h
    subst h; exact ⟨.non, .base .non⟩
  · cases e; unfold Is at h; subst h; exact ⟨.bl _, .base (.bl _)⟩
  · cases e; unfold Is at h; subst h; exact ⟨.int _, .base (.int _)⟩
  · cases e; unfold Is at h; subst h; exact ⟨.str _, .base (.str _)⟩
  · cases e
    unfold Is at h
    obtain ⟨a, vs, rfl, hq, il⟩ := h
    refine ⟨.tup hq, ?_⟩
    rcases hq with (hq | ⟨o, hq⟩) | hq
    · exact .base (.tup hq)
    · exact .fTuple hq
    · obtain ⟨o, its, n, e, cl, _⟩ := hq
      exact .kTuple e cl
  · cases e
    unfold Is at h
    obtain ⟨a, vs, rfl, hq, il⟩ := h
    refine ⟨.lst hq.sq, ?_⟩
    rcases hq with ⟨o, hq⟩ | hq
    · exact .base (.frz hq)
    · obtain ⟨o, its, n, e, cl, _⟩ := hq
      exact .kList e cl
  · rename_i i
    unfold tyD at e
    simp only at e
    cases es : S[i]? with
    | none => rw [es] at e; cases e
    | some o =>
      cases o with
      | lst xs =>
        rw [es] at e; cases e
        obtain ⟨a, vs, rfl, ea, e1, il⟩ := lst_ref r h es
        exact ⟨.lst (.of e1), .base (.lst e1)⟩
def bTy : List D → Sto → R D
  | [d], S => match tyD S d with
    | some t => .ok (.ty t) S
    | none => .stuck
  | _, _ => .stuck
theorem ob_ty : OpB c (rTyp c.K) bTy := fun ρ S H vs ds Q Ew r il q => by
  unfold bTy at q
  split at q
  · rename_i d
    obtain ⟨v, rfl, h⟩ := isL1 il
    split at q
    · rename_i t e
      exact ⟨v, t, rfl, (ty_of r h e).1, q _ H ρ r Ext.refl is_tyn⟩
    · exact q.elim
  · exact q.elim
/-- isinstance(x, T), T a built-in type -/
def bIsi : List D → Sto → R D
  | [d, .ty n], S => match tyD S d with
    | some t => match kitB t n with
      | some b => .ok (.bl b) S
      | none => .stuck
    | none => .stuck
  | _, _ => .stuck
theorem ob_isi : OpB c (rIsi c.K) bIsi := fun ρ S H vs ds Q Ew r il q => by
  unfold bIsi at q
  split at q
  · rename_i d n
    obtain ⟨v, w, rfl, h, h2⟩ := isL2 il
    have h2 : w = V.ty n := by unfold Is at h2; exact h2
    subst h2
    split at q
    · rename_i t e
      split at q
      · rename_i b eb
        exact ⟨v, .ty n, .type t, .type n, b, rfl, .ty n, (ty_of r h e).2, kit_ty eb, q _ H ρ r Ext.refl is_bl⟩
      · exact q.elim
    · exact q.elim
  · exact q.elim
/-! list, tuple -/
def bList : List D → Sto → R (List D)
  | [d], S => match seqOf S d with
    | some xs => .ok xs S
    | none => .stuck
  | _, _ => .stuck
def rList (K : PySem.W.Frag) : RB := fun xs H Q => ∃ p ys, xs = [.ref p] ∧ (SqL K H p ys ∨ SqT K H p ys) ∧ ∀ l, H l = none → Q (.ref l) (upd H l (.lst ys))
theorem ob_list : OpBL c (rList c.K) bList := fun ρ S H vs ds Q Ew r il q => by
  unfold bList at q
  split at q
  · rename_i d
    obtain ⟨v, rfl, h⟩ := isL1 il
    split at q
    · rename_i xs e
      obtain ⟨a, ws, rfl, hs, il2⟩ := seqOf_ref r h e
      exact ⟨a, ws, rfl, hs, fun l hl => q l ws _ ρ (r.laid hl) (Ext.laid hl) upd_same (r.nin hl) hl (il2.ext (Ext.laid (c := c) hl))⟩
    · exact q.elim
  · exact q.elim
def bTup : List D → Sto → R D
  | [.tup xs], S => .ok (.tup xs) S
  | [d], S => match lstOf S d with
    | some xs => .ok (.tup xs) S
    | none => .stuck
  | _, _ => .stuck
def rTuple (K : PySem.W.Frag) : RB := fun xs H Q => ∃ p ys, xs = [.ref p] ∧ ((SqL K H p ys ∧ ∀ l, H l = none → Q (.ref l) (upd H l (.tup ys))) ∨ (SqT K H p ys ∧ Q (.ref p) H))
theorem ob_tup : OpB c (rTuple c.K) bTup := fun ρ S H vs ds Q Ew r il q => by
  unfold bTup at q
  split at q
  · rename_i xs
    obtain ⟨v, rfl, h⟩ := isL1 il
    have h' := h
    unfold Is at h
    obtain ⟨a, ws, rfl, hs, il2⟩ := h
    exact ⟨a, ws, rfl, .inr ⟨hs, q _ H ρ r Ext.refl h'⟩⟩
  · rename_i d hd
    obtain ⟨v, rfl, h⟩ := isL1 il
    split at q
    · rename_i xs e
      obtain ⟨a, ws, rfl, hs, il2⟩ := lstOf_ref r h e
      exact ⟨a, ws, rfl, .inl ⟨hs, fun l hl => q.newT r il2 hl⟩⟩
    · exact q.elim
  · exact q.elim
/-! sums, all, any, max, min of lists -/
def intsOf : List D → Option (List Int)
  | [] => some []
  | .int i :: r => match intsOf r with
    | some ns => some (i :: ns)
    | none => none
  | _ => none
theorem intsOf_eq : ∀ {ds : List D} {ns : List Int}, intsOf ds = some ns → ds = ns.map D.int
  | [], ns, h => by unfold intsOf at h; cases h; rfl
  | d :: ds, ns, h => by
    cases d <;> first | (unfold intsOf at h; cases h; done) | skip
    unfold intsOf at h
    cases e : intsOf ds with
    | none => rw [e] at h; cases h
    | some ms => rw [e] at h; cases h; rw [intsOf_eq e]; rfl
def blsOf : List D → Option (List Bool)
  | [] => some []
  | .bl i :: r => match blsOf r with
    | some ns => some (i :: ns)
    | none => none
  | _ => none
theorem blsOf_eq : ∀ {ds : List D} {ns : List Bool}, blsOf ds = some ns → ds = ns.map D.bl
  | [], ns, h => by unfold blsOf at h; cases h; rfl
  | d :: ds, ns, h => by
    cases d <;> first | (unfold blsOf at h; cases h; done) | skip
    unfold blsOf at h
    cases e : blsOf ds with
    | none => rw [e] at h; cases h
    | some ms => rw [e] at h; cases h; rw [blsOf_eq e]; rfl
def bInts (f : List Int → Option D) : List D → Sto → R D
  | [d], S => match lstOf S d with
    | some xs => match intsOf xs with
      | some ns => match f ns with
        | some y => .ok y S
        | none => .stuck
      | none => .stuck
    | none => .stuck
  | _, _ => .stuck
def bBls (f : List Bool → D) : List D → Sto → R D
  | [d], S => match lstOf S d with
    | some xs => match blsOf xs with
      | some ns => .ok (f ns) S
      | none => .stuck
    | none => .stuck
  | _, _ => .stuck
theorem ob_ints {r0 : RB} {f : List Int → Option D} (h : ∀ ρ H a (ns : List Int) y Q, SqL c.K H a (ns.map V.int) → f ns = some y → (∀ v, Is c.K ρ H y v → Q v H) → r0 [.ref a] H Q) : OpB c r0 (bInts f) := fun ρ S H vs ds Q Ew r il q => by
  unfold bInts at q
  split at q
  · rename_i d
    obtain ⟨v, rfl, h1⟩ := isL1 il
    split at q
    · rename_i xs e
      obtain ⟨a, ws, rfl, hs, il2⟩ := lstOf_ref r h1 e
      split at q
      · rename_i ns en
        rw [intsOf_eq en] at il2
        rw [il2.ints] at hs
        split at q
        · rename_i y ey
          exact h ρ H a ns y Q hs ey fun v hv => q v H ρ r Ext.refl hv
        · exact q.elim
      · exact q.elim
    · exact q.elim
  · exact q.elim
theorem ob_bls {r0 : RB} {f : List Bool → D} (h : ∀ ρ H a (ns : List Bool) Q, SqL c.K H a (ns.map V.bl) → (∀ v, Is c.K ρ H (f ns) v → Q v H) → r0 [.ref a] H Q) : OpB c r0 (bBls f) := fun ρ S H vs ds Q Ew r il q => by
  unfold bBls at q
  split at q
  · rename_i d
    obtain ⟨v, rfl, h1⟩ := isL1 il
    split at q
    · rename_i xs e
      obtain ⟨a, ws, rfl, hs, il2⟩ := lstOf_ref r h1 e
      split at q
      · rename_i ns en
        rw [blsOf_eq en] at il2
        rw [il2.bls] at hs
        exact h ρ H a ns Q hs fun v hv => q v H ρ r Ext.refl hv
      · exact q.elim
    · exact q.elim
  · exact q.elim
def bSum := bInts fun ns => some (.int ns.sum)
theorem ob_sum : OpB c (rSum c.K) bSum := ob_ints fun ρ H a ns y Q hs e q => by
  cases e; exact ⟨a, ns, rfl, hs, q _ is_int⟩
def bAll := bBls fun ns => .bl (ns.all id)
theorem ob_all : OpB c (rAll c.K) bAll := ob_bls fun ρ H a ns Q hs q => ⟨a, ns, rfl, hs, q _ is_bl⟩
def bAny := bBls fun ns => .bl (ns.any id)
theorem ob_any : OpB c (rAny c.K) bAny := ob_bls fun ρ H a ns Q hs q => ⟨a, ns, rfl, hs, q _ is_bl⟩
/-! repr -/
def bRepr : List D → Sto → R D
  | [d], S => match pyS S d with
    | some p => if p.showable = true ∧ p.hasDict = false ∧ p.depth ≤ 60 ∧ p.shown.length ≤ sizeLine then .ok (.str p.shown) S else .stuck
    | none => .stuck
  | _, _ => .stuck
theorem ob_repr : OpB c (rReprD c.K) bRepr := fun ρ S H vs ds Q Ew r il q => by
  unfold bRepr at q
  split at q
  · rename_i d
    obtain ⟨v, rfl, h1⟩ := isL1 il
    split at q
    · rename_i p e
      split at q
      · rename_i hp
        exact ⟨v, p, rfl, dp_sto r h1 e, hp.1, hp.2.1, hp.2.2.1, hp.2.2.2, q _ H ρ r Ext.refl is_str⟩
      · exact q.elim
    · exact q.elim
  · exact q.elim
end

/-! ### list(range(..)) -/
section
variable {X : Cx} {T : List Addr} {E : WK} {e a b : Expr} {ma mb : MD}
def mlrg2 (m n : MD) : ML := fun env => bnd (m env) fun d => bnd (n env) fun f S => match d, f with
  | .int i, .int j => if -(2 ^ 62) ≤ i ∧ i < 2 ^ 62 ∧ -(2 ^ 62) ≤ j ∧ j < 2 ^ 62 ∧ (j - i).toNat ≤ 2 ^ 24 then .ok (intsD i (j - i).toNat) S else .stuck
  | _, _ => .stuck
def mlrg1 (m : MD) : ML := fun env => bnd (m env) fun d S => match d with
  | .int j => if -(2 ^ 62) ≤ j ∧ j < 2 ^ 62 ∧ j.toNat ≤ 2 ^ 24 then .ok (intsD 0 j.toNat) S else .stuck
  | _ => .stuck
theorem isL_rg {K : PySem.W.Frag} {ρ : List Addr} {H : Hp} (i j : Int) : IsL K ρ H (intsD i (j - i).toNat) (rgV i j) := by
  have e1 : intsD i (j - i).toNat = ((List.range (j - i).toNat).map fun k => i + (k : Nat)).map D.int := by unfold intsD; simp
  have e2 : rgV i j = ((List.range (j - i).toNat).map fun k => i + (k : Nat)).map V.int := by unfold rgV; simp
  rw [e1, e2]
  exact IsL.ofInts _
theorem cl_lrg2 {p p2 pos pos2 : Pos} (hc : X.calm = true) (hg : Gl X "list") (hm : X.mg "list" = none) (hg2 : Gl X "range") (hm2 : X.mg "range" = none) (h : CE X T E a ma) (h' : CE X T E b mb)
    (na : starEach [a, b] X.env = (false, eval a X.env) :: starEach [b] X.env := by rfl) (nb : starEach [b] X.env = (false, eval b X.env) :: starEach [] X.env := by rfl) (hp : (backTo pos2 (starEach [b] X.env)).any (·.1) = false := by rfl)
    (nc : starEach [.Call (.Name "range" p2) [a, b] [] pos2] X.env = (false, eval (.Call (.Name "range" p2) [a, b] [] pos2) X.env) :: starEach [] X.env := by rfl) :
    CL X T E (.Call (.Name "list" p) [.Call (.Name "range" p2) [a, b] [] pos2] [] pos) (mlrg2 ma mb) := by
  obtain ⟨t, q, ht⟩ := h.ex
  obtain ⟨t', q', ht'⟩ := h'.ex
  refine ⟨_, pe_listRg hc hg hm (prg_2 hg2 hm2 q q' na nb hp) nc, fun ρ S H σ env Q r en h => ?_⟩
  refine ht ρ S H σ env _ r en ((wp_bnd h).mono (fun d S1 h1 v H1 ρ1 r1 x1 i1 => ?_) fun _ _ z => z)
  refine ht' ρ1 S1 H1 σ env _ r1 (en.ext x1) ((wp_bnd h1).mono (fun f S2 h2 w H2 ρ2 r2 x2 i2 => ?_) fun _ _ z => z.ext x1)
  cases d <;> first | exact h2.elim | skip
  cases f <;> first | exact h2.elim | skip
  rename_i i j
  simp only at h2
  split at h2
  · rename_i hj
    unfold Is at i1 i2
    refine ⟨i, j, i1, i2, ⟨hj.1, hj.2.1, hj.2.2.1, hj.2.2.2.1, hj.2.2.2.2⟩, fun l hl => ?_⟩
    have x3 : Ext (cf X T) ρ2 H2 ρ2 (upd H2 l (.lst (rgV i j))) := Ext.laid hl
    exact h2 l _ _ ρ2 (r2.laid hl) ((x1.trans x2).trans x3) upd_same (r2.nin hl) ((x1.trans x2).dead hl) (isL_rg i j)
  · exact h2.elim
theorem cl_lrg1 {p p2 pos pos2 : Pos} (hc : X.calm = true) (hg : Gl X "list") (hm : X.mg "list" = none) (hg2 : Gl X "range") (hm2 : X.mg "range" = none) (h : CE X T E a ma)
    (na : starEach [a] X.env = (false, eval a X.env) :: starEach [] X.env := by rfl)
    (nc : starEach [.Call (.Name "range" p2) [a] [] pos2] X.env = (false, eval (.Call (.Name "range" p2) [a] [] pos2) X.env) :: starEach [] X.env := by rfl) :
    CL X T E (.Call (.Name "list" p) [.Call (.Name "range" p2) [a] [] pos2] [] pos) (mlrg1 ma) := by
  obtain ⟨t, q, ht⟩ := h.ex
  refine ⟨_, pe_listRg hc hg hm (prg_1 hg2 hm2 q na) nc, fun ρ S H σ env Q r en h => ?_⟩
  refine ht ρ S H σ env _ r en ((wp_bnd h).mono (fun d S1 h1 v H1 ρ1 r1 x1 i1 => ?_) fun _ _ z => z)
  cases d <;> first | exact h1.elim | skip
  rename_i j
  simp only at h1
  split at h1
  · rename_i hj
    unfold Is at i1
    have ej : (j - 0).toNat = j.toNat := by rw [Int.sub_zero]
    refine ⟨j, i1, ⟨by omega, by omega, hj.1, hj.2.1, by rw [ej]; exact hj.2.2⟩, fun l hl => ?_⟩
    have x3 : Ext (cf X T) ρ1 H1 ρ1 (upd H1 l (.lst (rgV 0 j))) := Ext.laid hl
    have := isL_rg (K := (cf X T).K) (ρ := ρ1) (H := upd H1 l (.lst (rgV 0 j))) 0 j
    rw [ej] at this
    exact h1 l _ _ ρ1 (r1.laid hl) (x1.trans x3) upd_same (r1.nin hl) (x1.dead hl) this
  · exact h1.elim

/-! ### a[i] -/
theorem atI_is {K : PySem.W.Frag} {ρ : List Addr} {H : Hp} {ds : List D} {vs : List V} {i : Int} {d : D} (h : IsL K ρ H ds vs) (e : atI ds i = some d) : ∃ v, atI vs i = some v ∧ Is K ρ H d v := by
  unfold atI at e ⊢
  rw [h.length] at e
  cases q : ixN vs.length i with
  | none => rw [q] at e; cases e
  | some j =>
    rw [q] at e
    exact h.get (i := j) e
def dIx : D → D → Sto → R D := fun x y S => match x, y with
  | .str z, .int i => if z.length ≤ sizeLine then match atI z.cps.toList i with
      | some ch => .ok (.str ⟨#[ch]⟩) S
      | none => .stuck
    else .stuck
  | x, .int i => match seqOf S x with
    | some xs => match atI xs i with
      | some d => .ok d S
      | none => .stuck
    | none => .stuck
  | _, _ => .stuck
theorem ot_ix {c : Cfg} : OpT c (rIx c.K) dIx := fun ρ S H x y dx dy Q Ew r h1 h2 q => by
  unfold dIx at q
  split at q
  · rename_i z i
    have h1 : x = V.str z := by unfold Is at h1; exact h1
    have h2 : y = V.int i := by unfold Is at h2; exact h2
    split at q
    · rename_i hz
      split at q
      · rename_i ch e
        exact .inr (.inr ⟨z, i, ch, h1, h2, hz, e, q _ H ρ r Ext.refl is_str⟩)
      · exact q.elim
    · exact q.elim
  · rename_i i hx
    have h2 : y = V.int i := by unfold Is at h2; exact h2
    split at q
    · rename_i xs e
      obtain ⟨a, vs, ea, hs, il⟩ := seqOf_ref r h1 e
      split at q
      · rename_i d ed
        obtain ⟨v, ev, hv⟩ := atI_is il ed
        rcases hs with hs | hs
        · exact .inl ⟨a, vs, i, v, ea, h2, hs, ev, q v H ρ r Ext.refl hv⟩
        · exact .inr (.inl ⟨a, vs, i, v, ea, h2, hs, ev, q v H ρ r Ext.refl hv⟩)
      · exact q.elim
    · exact q.elim
  · exact q.elim
theorem ce_ix {pos : Pos} (ha : CE X T E a ma) (hb : CE X T E b mb) (hs : PlainIx b := by intro _ _; rfl) : CE X T E (.Subscript a b pos) (mop dIx ma mb) := by
  obtain ⟨t, p, ht⟩ := ha.ex
  obtain ⟨u, q, hu⟩ := hb.ex
  exact ⟨_, pe_ix ix_seq p q hs, tie_op _ ht hu ot_ix⟩

/-! ### slices -/
abbrev MO' := Slots → Sto → R (Option Int)
def TieO (c : Cfg) (E : WK) (t : TO) (m : MO') : Prop := ∀ ρ S H σ env (Q : Option Int → Hp → Prop), Rel c ρ S H → EnvR c ρ H env σ → (m env S).wp (fun o S1 => ∀ H1 ρ1, Rel c ρ1 S1 H1 → Ext c ρ H ρ1 H1 → Q o H1) (XPost c ρ H (E σ)) → t σ H Q
structure CO (X : Cx) (T : List Addr) (E : WK) (e : Option Expr) (m : MO') : Prop where
  ex : ∃ t, PO X e t ∧ TieO (cf X T) E t m
def mno : MO' := fun _ S => .ok none S
def mpart (m : MD) : MO' := fun env => bnd (m env) fun d S => match d with
  | .int i => .ok (some i) S
  | _ => .stuck
theorem co_none : CO X T E none mno := ⟨_, po_none, fun ρ S H σ env Q r en h => h H ρ r Ext.refl⟩
theorem co_some (h : CE X T E e ma) : CO X T E (some e) (mpart ma) := by
  obtain ⟨t, p, ht⟩ := h.ex
  refine ⟨_, po_some p, fun ρ S H σ env Q r en h => ?_⟩
  refine ht ρ S H σ env _ r en ((wp_bnd h).mono (fun d S1 h1 v H1 ρ1 r1 x1 i1 => ?_) fun _ _ z => z)
  cases d <;> first | exact h1.elim | skip
  rename_i i
  unfold Is at i1
  exact ⟨i, i1, h1 H1 ρ1 r1 x1⟩
def cutD (xs : List D) (lo hi : Option Int) : List D := (xs.drop (HT.sIx xs.length 0 lo)).take (HT.sIx xs.length xs.length hi - HT.sIx xs.length 0 lo)
theorem cut_is {K : PySem.W.Frag} {ρ : List Addr} {H : Hp} {ds : List D} {vs : List V} (h : IsL K ρ H ds vs) (lo hi : Option Int) : IsL K ρ H (cutD ds lo hi) (cutV vs lo hi) := by
  unfold cutD cutV
  rw [h.length]
  exact (h.drop _).take _
/-- of a tuple -/
def mslT (m : MD) (lo hi : MO') : MD := fun env => bnd (m env) fun d => bnd (lo env) fun l => bnd (hi env) fun u S => match d with
  | .tup xs => .ok (.tup (cutD xs l u)) S
  | _ => .stuck
theorem cutV_whole {xs : List V} {lo hi : Option Int} (h : HT.sIx xs.length 0 lo = 0 ∧ HT.sIx xs.length xs.length hi = xs.length) : cutV xs lo hi = xs := by
  unfold cutV
  rw [h.1, h.2]
  simp
theorem ce_slT {lo hi : Option Expr} {mlo mhi : MO'} {pos p2 : Pos} (ha : CE X T E a ma) (hl : CO X T E lo mlo) (hh : CO X T E hi mhi) : CE X T E (.Subscript a (.Slice lo hi none p2) pos) (mslT ma mlo mhi) := by
  obtain ⟨t, p, ht⟩ := ha.ex
  obtain ⟨tl, pl, htl⟩ := hl.ex
  obtain ⟨th, ph, hth⟩ := hh.ex
  refine ⟨_, pe_slice sl_tupA p pl ph, fun ρ S H σ env Q r en h => ?_⟩
  refine ht ρ S H σ env _ r en ((wp_bnd h).mono (fun d S1 h1 v H1 ρ1 r1 x1 i1 => ?_) fun _ _ z => z)
  refine htl ρ1 S1 H1 σ env _ r1 (en.ext x1) ((wp_bnd h1).mono (fun l S2 h2 H2 ρ2 r2 x2 => ?_) fun _ _ z => z.ext x1)
  refine hth ρ2 S2 H2 σ env _ r2 ((en.ext x1).ext x2) ((wp_bnd h2).mono (fun u S3 h3 H3 ρ3 r3 x3 => ?_) fun _ _ z => z.ext (x1.trans x2))
  cases d <;> first | exact h3.elim | skip
  rename_i xs
  have i3 := i1.ext (x2.trans x3)
  have i4 := i3
  have xx : Ext (cf X T) ρ H ρ3 H3 := x1.trans (x2.trans x3)
  unfold Is at i3
  obtain ⟨b, vs, rfl, hs, il⟩ := i3
  have il2 := cut_is il l u
  refine ⟨b, vs, rfl, hs, fun hw => ?_, fun _ q hq => ?_⟩
  · refine h3 _ H3 ρ3 r3 xx ?_
    unfold Is
    rw [cutV_whole hw] at il2
    exact ⟨b, vs, rfl, hs, il2⟩
  · exact (Post.ext xx h3).newT r3 il2 hq
/-- of a list: a new list -/
def mslL (m : MD) (lo hi : MO') : ML := fun env => bnd (m env) fun d => bnd (lo env) fun l => bnd (hi env) fun u S => match lstOf S d with
  | some xs => .ok (cutD xs l u) S
  | none => .stuck
theorem cl_slL {lo hi : Option Expr} {mlo mhi : MO'} {pos p2 : Pos} (ha : CE X T E a ma) (hl : CO X T E lo mlo) (hh : CO X T E hi mhi) : CL X T E (.Subscript a (.Slice lo hi none p2) pos) (mslL ma mlo mhi) := by
  obtain ⟨t, p, ht⟩ := ha.ex
  obtain ⟨tl, pl, htl⟩ := hl.ex
  obtain ⟨th, ph, hth⟩ := hh.ex
  refine ⟨_, pe_slice sl_list p pl ph, fun ρ S H σ env Q r en h => ?_⟩
  refine ht ρ S H σ env _ r en ((wp_bnd h).mono (fun d S1 h1 v H1 ρ1 r1 x1 i1 => ?_) fun _ _ z => z)
  refine htl ρ1 S1 H1 σ env _ r1 (en.ext x1) ((wp_bnd h1).mono (fun l S2 h2 H2 ρ2 r2 x2 => ?_) fun _ _ z => z.ext x1)
  refine hth ρ2 S2 H2 σ env _ r2 ((en.ext x1).ext x2) ((wp_bnd h2).mono (fun u S3 h3 H3 ρ3 r3 x3 => ?_) fun _ _ z => z.ext (x1.trans x2))
  have i3 := i1.ext (x2.trans x3)
  have xx : Ext (cf X T) ρ H ρ3 H3 := x1.trans (x2.trans x3)
  split at h3
  · rename_i xs e
    obtain ⟨b, vs, rfl, hs, il⟩ := lstOf_ref r3 i3 e
    have il2 := cut_is il l u
    exact ⟨b, vs, rfl, hs, fun q hq => h3 q _ _ ρ3 (r3.laid hq) (xx.trans (Ext.laid hq)) upd_same (r3.nin hq) (xx.dead hq) (il2.ext (Ext.laid (c := cf X T) hq))⟩
  · exact h3.elim
/-! ### truth -/
def truD (S : Sto) : D → Option Bool
  | .non => some false
  | .bl b => some b
  | .int i => some (i != 0)
  | .str z => if z.length ≤ sizeLine then some ((z.length : Int) != 0) else none
  | d => match seqOf S d with
    | some xs => some (!xs.isEmpty)
    | none => none
def mtru (m : MD) : MB := fun env => bnd (m env) fun d S => match truD S d with
  | some b => .ok b S
  | none => .stuck
theorem isL_empty {K : PySem.W.Frag} {ρ : List Addr} {H : Hp} {ds : List D} {vs : List V} (h : IsL K ρ H ds vs) : ds.isEmpty = vs.isEmpty := by
  have := h.length
  cases ds <;> cases vs <;> simp_all
theorem ct_tru (h : CE X T E e ma) (he : ∀ whole, isTrue e X.env whole = (do let v ← whole; standAt e.pos; holding [v] (truthy v)) := by intro _; rfl) : CT X T E e (mtru ma) := by
  obtain ⟨t, p, ht⟩ := h.ex
  refine ⟨_, pt_truth p he, fun ρ S H σ env Q r en q => ?_⟩
  refine ht ρ S H σ env _ r en ((wp_bnd q).mono (fun d S1 h1 v H1 ρ1 r1 x1 i1 => ?_) fun _ _ z => z)
  split at h1
  · rename_i b eb
    refine ⟨b, ?_, h1 H1 ρ1 r1 x1⟩
    have seq : ∀ xs, seqOf S1 d = some xs → b = !xs.isEmpty → TruV X.K v H1 b := fun xs e1 e2 => by
      obtain ⟨a, vs, rfl, hs, il⟩ := seqOf_ref r1 i1 e1
      rw [isL_empty il] at e2
      rcases hs with hs | hs
      · exact .inl ⟨vs, hs, e2⟩
      · exact .inr (.inl ⟨vs, hs, e2⟩)
    have seq2 : ((match seqOf S1 d with | some xs => some (!xs.isEmpty) | none => none) = some b) → TruV X.K v H1 b := fun e => by
      split at e
      · rename_i xs e1
        cases e
        exact seq xs e1 rfl
      · cases e
    cases d with
    | non => cases eb; have i1 : v = V.non := by unfold Is at i1; exact i1
             subst i1; rfl
    | bl k => cases eb; unfold Is at i1; subst i1; rfl
    | int k => cases eb; unfold Is at i1; subst i1; rfl
    | str z =>
      unfold Is at i1; subst i1
      unfold truD at eb
      simp only at eb
      split at eb
      · rename_i hz
        cases eb
        exact ⟨hz, rfl⟩
      · cases eb
    | ty n => exact seq2 eb
    | tup n => exact seq2 eb
    | frz n => exact seq2 eb
    | ref n => exact seq2 eb
    | adr n => exact seq2 eb
  · exact h1.elim
/-! ### chains, minus -/
def mchain (f g : D → D → Sto → R D) (ma mb mc : MD) : MD := fun env => bnd (ma env) fun x => bnd (mb env) fun y => bnd (f x y) fun z S => match z with
  | .bl k => if k = true then bnd (mc env) (fun w => g y w) S else .ok (.bl false) S
  | _ => .stuck
theorem tie_chain {c : Cfg} {ta tb tc : TE} {r r' : R2} {f g : D → D → Sto → R D} {mc : MD} (ha : Tie c E ta ma) (hb : Tie c E tb mb) (hc : Tie c E tc mc) (ho : OpT c r f) (ho' : OpT c r' g) : Tie c E (tChain r r' ta tb tc) (mchain f g ma mb mc) := fun ρ S H σ env Q r0 en h => by
  refine ha ρ S H σ env _ r0 en ((wp_bnd h).mono (fun x S1 h1 v H1 ρ1 r1 x1 i1 => ?_) fun _ _ z => z)
  refine hb ρ1 S1 H1 σ env _ r1 (en.ext x1) ((wp_bnd h1).mono (fun y S2 h2 w H2 ρ2 r2 x2 i2 => ?_) fun _ _ z => z.ext x1)
  refine ho ρ2 S2 H2 v w x y _ (E σ) r2 (i1.ext x2) i2 ((wp_bnd h2).mono (fun z S3 h3 u H3 ρ3 r3 x3 i3 => ?_) fun _ _ z => z.ext (x1.trans x2))
  cases z <;> first | exact h3.elim | skip
  rename_i k
  unfold Is at i3
  have xx : Ext c ρ H ρ3 H3 := x1.trans (x2.trans x3)
  refine ⟨k, i3, ?_⟩
  cases k with
  | true =>
    simp only [if_true] at h3 ⊢
    refine hc ρ3 S3 H3 σ env _ r3 (en.ext xx) ((wp_bnd h3).mono (fun y' S4 h4 w' H4 ρ4 r4 x4 i4 => ?_) fun _ _ z => z.ext xx)
    exact ho' ρ4 S4 H4 w w' y y' Q _ r4 (i2.ext (x3.trans x4)) i4 (h4.mono (fun _ _ z => z.ext (xx.trans x4)) fun _ _ z => z.ext (xx.trans x4))
  | false =>
    simp only [Bool.false_eq_true, if_false] at h3 ⊢
    exact h3 _ H3 ρ3 r3 xx is_bl
theorem ce_chain {op op' : CmpOp} {r r' : R2} {f g : D → D → Sto → R D} {mc : MD} {c : Expr} {pos : Pos} (o : OpR X (compareOp op) r) (o' : OpR X (compareOp op') r') (ho : OpT (cf X T) r f) (ho' : OpT (cf X T) r' g) (ha : CE X T E a ma) (hb : CE X T E b mb) (hc : CE X T E c mc)
    (hm : lastMarks [op, op'] [b, c] = false := by with_unfolding_all rfl) : CE X T E (.Compare a [op, op'] [b, c] pos) (mchain f g ma mb mc) := by
  obtain ⟨t, p, ht⟩ := ha.ex
  obtain ⟨u, q, hu⟩ := hb.ex
  obtain ⟨v, s, hv⟩ := hc.ex
  exact ⟨_, pe_chain o o' p q s hm, tie_chain ht hu hv ho ho'⟩
theorem ct_chain {op op' : CmpOp} {r r' : R2} {f g : D → D → Sto → R D} {mc : MD} {c : Expr} {pos : Pos} (o : OpR X (compareOp op) r) (o' : OpR X (compareOp op') r') (ho : OpT (cf X T) r f) (ho' : OpT (cf X T) r' g) (ha : CE X T E a ma) (hb : CE X T E b mb) (hc : CE X T E c mc)
    (hm : lastMarks [op, op'] [b, c] = false := by with_unfolding_all rfl) : CT X T E (.Compare a [op, op'] [b, c] pos) (mtst (mchain f g ma mb mc)) := by
  obtain ⟨t, p, ht⟩ := ha.ex
  obtain ⟨u, q, hu⟩ := hb.ex
  obtain ⟨v, s, hv⟩ := hc.ex
  exact ⟨_, pt_chain o o' p q s hm, tie_tst _ (tie_chain ht hu hv ho ho')⟩
def mneg (m : MD) : MD := fun env => bnd (m env) fun d S => match d with
  | .int i => .ok (.int (-i)) S
  | _ => .stuck
theorem ce_neg {pos : Pos} (h : CE X T E e ma) : CE X T E (.UnaryOp .USub e pos) (mneg ma) := by
  obtain ⟨t, p, ht⟩ := h.ex
  refine ⟨_, pe_un un_neg p, fun ρ S H σ env Q r en q => ?_⟩
  refine ht ρ S H σ env _ r en ((wp_bnd q).mono (fun d S1 h1 v H1 ρ1 r1 x1 i1 => ?_) fun _ _ z => z)
  cases d <;> first | exact h1.elim | skip
  rename_i i
  unfold Is at i1
  exact ⟨i, i1, h1 _ H1 ρ1 r1 x1 is_int⟩
end
end Ti
namespace Ti
open PySem PySem.Spec PyProof.Rows L2 GxR Gx

/-! ### methods of lists -/
abbrev RM := V → List V → Hp → VK → Prop
def OpM (c : Cfg) (r : RM) (f : Nat → List D → Sto → R D) : Prop := ∀ ρ S H a vs i ds Q (Ew : XK), Rel c ρ S H → ρ[i]? = some a → IsL c.K ρ H ds vs → (f i ds S).wp (Post c ρ H Q) (XPost c ρ H Ew) → r (.ref a) vs H Q
def mmeth (f : Nat → List D → Sto → R D) (mo : MD) (m : ML) : MD := fun env => bnd (mo env) fun o S => match o with
  | .ref i => bnd (m env) (fun ds => f i ds) S
  | _ => .stuck
theorem Rel.isList {c : Cfg} {ρ : List Addr} {S : Sto} {H : Hp} {i : Nat} {a : Addr} (r : Rel c ρ S H) (h : ρ[i]? = some a) : ∃ xs vs, S[i]? = some (.lst xs) ∧ H a = some (.lst vs) ∧ IsL c.K ρ H xs vs := by
  have hi : i < S.length := by rw [← r.len]; exact (List.getElem?_eq_some_iff.mp h).1
  have m := r.obj i a S[i] h (List.getElem?_eq_getElem hi)
  cases e : S[i] with
  | lst xs =>
    rw [e] at m
    obtain ⟨vs, e1, e2⟩ := m
    exact ⟨xs, vs, by rw [List.getElem?_eq_getElem hi, e], e1, e2⟩
section
variable {X : Cx} {T : List Addr} {E : WK} {o e : Expr} {es : List Expr} {name : Str} {apos cpos : Pos} {id : String} {r : RM} {f : Nat → List D → Sto → R D} {mo : MD} {mr : ML}
theorem tie_m {c : Cfg} {to : TE} {t : TA} (ho : Tie c E to mo) (hu : TieA c E t mr) (om : OpM c r f) : Tie c E (tBM c.K "list" r to t) (mmeth f mo mr) := fun ρ S H σ env Q r0 en h => by
  refine ho ρ S H σ env _ r0 en ((wp_bnd h).mono (fun d S1 h1 v H1 ρ1 r1 x1 i1 => ?_) fun _ _ z => z)
  cases d <;> first | exact h1.elim | skip
  rename_i i
  have h1 := wp_bnd h1
  unfold Is at i1
  obtain ⟨a, ea, rfl⟩ := i1
  obtain ⟨xs, vs, e1, e2, e3⟩ := r1.isList ea
  refine ⟨.inl ⟨rfl, vs, .of e2⟩, ?_⟩
  refine hu ρ1 S1 H1 σ env _ r1 (en.ext x1) (h1.mono (fun ds S2 h2 ws H2 ρ2 r2 x2 i2 => ?_) fun _ _ z => z.ext x1)
  exact om ρ2 S2 H2 a ws i ds Q _ r2 (pre_get x2.pre ea) i2 (h2.mono (fun _ _ z => z.ext (x1.trans x2)) fun _ _ z => z.ext (x1.trans x2))
theorem ce_m (slot : Slot "list" name id) (hty : typeOf (.builtin id) = pure (.type "method_descriptor")) (hm : MtR X id r) (om : OpM (cf X T) r f) (ho : CE X T E o mo) (ha : CA X T E (e :: es) mr)
    (hbase : attributeBase o name X.env (eval o X.env) = eval o X.env := by rfl)
    (hfew : ((backTo cpos (starEach (e :: es) X.env)).all (fun x => !x.1) && (backToKw cpos (keywordEach [] X.env)).all (fun x => x.1.isSome)
      && decide ((e :: es).length + ([] : List Keyword).length + (if ([] : List Keyword).isEmpty then 0 else 1) < 30)) = true := by rfl)
    (hline : (apos.endLine == cpos.line) = true := by rfl) (hs : starEach (e :: es) X.env = (false, eval e X.env) :: starEach es X.env := by rfl) (hplain : (backTo cpos (starEach es X.env)).any (·.1) = false := by rfl) :
    CE X T E (.Call (.Attribute o name apos) (e :: es) [] cpos) (mmeth f mo mr) := by
  obtain ⟨t, p, ht⟩ := ho.ex
  obtain ⟨u, q, hu⟩ := ha.ex
  exact ⟨_, pe_bm PySem.F.plainAttrs_list slot hty hm p q (hbase := hbase) (hfew := hfew) (hline := hline) (hs := hs) (hplain := hplain), tie_m ht hu om⟩
theorem ce_m0 (slot : Slot "list" name id) (hty : typeOf (.builtin id) = pure (.type "method_descriptor")) (hm : MtR X id r) (om : OpM (cf X T) r f) (ho : CE X T E o mo)
    (hbase : attributeBase o name X.env (eval o X.env) = eval o X.env := by rfl) (hline : (apos.endLine == cpos.line) = true := by rfl) :
    CE X T E (.Call (.Attribute o name apos) [] [] cpos) (mmeth f mo mnil) := by
  obtain ⟨t, p, ht⟩ := ho.ex
  refine ⟨_, pe_bm0 PySem.F.plainAttrs_list slot hty hm p (hbase := hbase) (hline := hline), ?_⟩
  exact tie_m (c := cf X T) (t := tNil) (mr := mnil) ht (fun ρ S H σ env Q r en h => (show PostA (cf X T) ρ H Q [] S from h) [] H ρ r Ext.refl IsL.nil) om
end
section
variable {c : Cfg}
/-- what is written into the list at i -/
theorem put_post {ρ : List Addr} {S : Sto} {H : Hp} {a : Addr} {i : Nat} {xs : List D} {vs ws : List V} {d : D} {v : V} {Q : VK} (r : Rel c ρ S H) (ha : ρ[i]? = some a) (e : H a = some (.lst ws)) (il : IsL c.K ρ H xs vs) (hv : Is c.K ρ H d v)
    (q : Post c ρ H Q d (S.set i (.lst xs))) : Q v (upd H a (.lst vs)) :=
  q v _ ρ (r.put ha e il) (Ext.put (List.mem_of_getElem? ha) e) (hv.ext (Ext.put (c := c) (List.mem_of_getElem? ha) e))
def fAppend : Nat → List D → Sto → R D := fun i ds S => match ds, S[i]? with
  | [y], some (.lst xs) => if xs.length < sizeLine then .ok .non (S.set i (.lst (xs ++ [y]))) else .stuck
  | _, _ => .stuck
theorem om_append : OpM c rAppend fAppend := fun ρ S H a vs i ds Q Ew r ha il q => by
  unfold fAppend at q
  split at q
  · rename_i y xs es
    obtain ⟨v, rfl, hv⟩ := isL1 il
    split at q
    · rename_i hz
      obtain ⟨xs', ws, e1, e2, e3⟩ := r.isList ha
      rw [es] at e1; cases e1
      exact ⟨a, ws, v, rfl, rfl, e2, by rw [← e3.length]; exact hz, put_post r ha e2 (e3.append (IsL.cons hv IsL.nil)) is_non q⟩
    · exact q.elim
  · exact q.elim
def fExtend : Nat → List D → Sto → R D := fun i ds S => match ds with
  | [.ref j] => match S[i]?, S[j]? with
    | some (.lst xs), some (.lst ys) => if xs.length + ys.length ≤ sizeLine then .ok .non (S.set i (.lst (xs ++ ys))) else .stuck
    | _, _ => .stuck
  | _ => .stuck
theorem om_extend : OpM c rExtend fExtend := fun ρ S H a vs i ds Q Ew r ha il q => by
  unfold fExtend at q
  split at q
  · rename_i j
    split at q
    · rename_i xs ys es et
      obtain ⟨v, rfl, hv⟩ := isL1 il
      split at q
      · rename_i hz
        obtain ⟨xs', ws, e1, e2, e3⟩ := r.isList ha
        rw [es] at e1; cases e1
        obtain ⟨b, us, rfl, eb, e4, e5⟩ := lst_ref r hv et
        exact ⟨a, b, ws, us, rfl, rfl, e2, e4, by rw [← e3.length, ← e5.length]; exact hz, put_post r ha e2 (e3.append e5) is_non q⟩
      · exact q.elim
    · exact q.elim
  · exact q.elim
def fPop : Nat → List D → Sto → R D := fun i ds S => match ds, S[i]? with
  | [], some (.lst xs) => match xs[xs.length - 1]? with
    | some y => .ok y (S.set i (.lst xs.dropLast))
    | none => .stuck
  | _, _ => .stuck
theorem om_pop : OpM c rPop fPop := fun ρ S H a vs i ds Q Ew r ha il q => by
  unfold fPop at q
  split at q
  · rename_i xs es
    have := il.nil_inv
    subst this
    split at q
    · rename_i y ey
      obtain ⟨xs', ws, e1, e2, e3⟩ := r.isList ha
      rw [es] at e1; cases e1
      obtain ⟨v, ev, hv⟩ := e3.get ey
      exact ⟨a, ws, v, rfl, rfl, e2, by rw [← e3.length]; exact ev, put_post r ha e2 e3.dropLast hv q⟩
    · exact q.elim
  · exact q.elim
def fRev : Nat → List D → Sto → R D := fun i ds S => match ds, S[i]? with
  | [], some (.lst xs) => .ok .non (S.set i (.lst xs.reverse))
  | _, _ => .stuck
theorem om_rev : OpM c rReverse fRev := fun ρ S H a vs i ds Q Ew r ha il q => by
  unfold fRev at q
  split at q
  · rename_i xs es
    have := il.nil_inv
    subst this
    obtain ⟨xs', ws, e1, e2, e3⟩ := r.isList ha
    rw [es] at e1; cases e1
    exact ⟨a, ws, rfl, rfl, e2, put_post r ha e2 e3.reverse is_non q⟩
  · exact q.elim
def fClear : Nat → List D → Sto → R D := fun i ds S => match ds with
  | [] => .ok .non (S.set i (.lst []))
  | _ => .stuck
theorem om_clear : OpM c rClear fClear := fun ρ S H a vs i ds Q Ew r ha il q => by
  unfold fClear at q
  split at q
  · have := il.nil_inv
    subst this
    obtain ⟨xs', ws, e1, e2, e3⟩ := r.isList ha
    exact ⟨a, ws, rfl, rfl, e2, put_post r ha e2 IsL.nil is_non q⟩
  · exact q.elim
def fInsert : Nat → List D → Sto → R D := fun i ds S => match ds, S[i]? with
  | [.int k, y], some (.lst xs) => if xs.length < sizeLine ∧ 0 ≤ k ∧ k < 2 ^ 63 then .ok .non (S.set i (.lst (xs.take k.toNat ++ [y] ++ xs.drop k.toNat))) else .stuck
  | _, _ => .stuck
def rInsert : RM := fun x vs H Q => ∃ (l : Addr) (xs : List V) (i : Int) (y : V), x = .ref l ∧ vs = [.int i, y] ∧ H l = some (.lst xs) ∧ xs.length < sizeLine ∧ 0 ≤ i ∧ i < 2 ^ 63 ∧ Q .non (upd H l (.lst (xs.take i.toNat ++ [y] ++ xs.drop i.toNat)))
theorem om_insert : OpM c rInsert fInsert := fun ρ S H a vs i ds Q Ew r ha il q => by
  unfold fInsert at q
  split at q
  · rename_i k y xs es
    obtain ⟨u, v, rfl, hu, hv⟩ := isL2 il
    have hu : u = V.int k := by unfold Is at hu; exact hu
    subst hu
    split at q
    · rename_i hz
      obtain ⟨xs', ws, e1, e2, e3⟩ := r.isList ha
      rw [es] at e1; cases e1
      exact ⟨a, ws, k, v, rfl, rfl, e2, by rw [← e3.length]; exact hz.1, hz.2.1, hz.2.2, put_post r ha e2 (((e3.take _).append (IsL.cons hv IsL.nil)).append (e3.drop _)) is_non q⟩
    · exact q.elim
  · exact q.elim

/-! ### tuple * int -/
/-- 2 ≤ k, and a tuple with items -/
def dRepT : D → D → Sto → R D := fun x y S => match x, y with
  | .tup xs, .int k => if xs ≠ [] ∧ 2 ≤ k ∧ k ≤ 1000 ∧ xs.length ≤ 1000 then .ok (.tup (List.replicate k.toNat xs).flatten) S else .stuck
  | _, _ => .stuck
theorem ot_repT : OpT c (rRepT c.K) dRepT := fun ρ S H x y dx dy Q Ew r h1 h2 q => by
  unfold dRepT at q
  split at q
  · rename_i xs k
    split at q
    · rename_i hz
      have h2 : y = V.int k := by unfold Is at h2; exact h2
      unfold Is at h1
      obtain ⟨a, vs, rfl, hs, il⟩ := h1
      refine ⟨a, k, vs, rfl, h2, hs, fun e => hz.1 ?_, hz.2.1, hz.2.2.1, by rw [← il.length]; exact hz.2.2.2, fun p hp => q.newT r (il.rep _) hp⟩
      have := il.length
      rw [e] at this
      exact List.eq_nil_of_length_eq_zero this
    · exact q.elim
  · exact q.elim
/-- list * int -/
def dRepL : D → D → Sto → R (List D) := fun x y S => match x, y with
  | .ref i, .int k => match S[i]? with
    | some (.lst xs) => if -(2 ^ 63) ≤ k ∧ k < 2 ^ 63 ∧ xs.length * k.toNat ≤ sizeLine then .ok (List.replicate k.toNat xs).flatten S else .stuck
    | none => .stuck
  | _, _ => .stuck
theorem ot_repL : OpTL c rRep dRepL := fun ρ S H x y dx dy Q Ew r h1 h2 q => by
  unfold dRepL at q
  split at q
  · rename_i i k
    have h2 : y = V.int k := by unfold Is at h2; exact h2
    split at q
    · rename_i xs es
      split at q
      · rename_i hz
        obtain ⟨a, vs, rfl, ea, e1, il⟩ := lst_ref r h1 es
        refine ⟨a, k, vs, rfl, h2, e1, hz.1, hz.2.1, by rw [← il.length]; exact hz.2.2, fun p hp => ?_⟩
        exact q p _ _ ρ (r.laid hp) (Ext.laid hp) upd_same (r.nin hp) hp ((il.rep _).ext (Ext.laid (c := c) hp))
      · exact q.elim
    · exact q.elim
  · exact q.elim
end
end Ti
namespace Ti
open PySem PySem.Spec PyProof.Rows L2 GxR Gx

theorem tuple_mul0 (l : Addr) (items : Array Value) (n : Nat) (dd : Option Addr) (sl : Array (Option Value)) (x : Int) (u : Tok) (c0 : (decide (x < -(2 ^ 63)) || decide (x ≥ 2 ^ 63)) = false) (c1 : (items.isEmpty || x == 1) = false) (c2 : (decide (x ≤ 0) || items.isEmpty) = true) :
    Meets (Builtin.«tuple.__mul__» ⟨[.ref l, .int x u], []⟩) (fun _ R s => s.heap.get? l = some { cls := .type "tuple", dict := dd, data := .seq items n, slots := sl } ∧
      R (.ok (.ret (Value.ref s.heap.objs.size))) { s with heap := s.heap.push { cls := Value.type "tuple", data := Data.seq #[] }, toks := s.toks }) :=
  .of_wp fun prog w A R s h => by
    obtain ⟨hp, g, d, tk, os⟩ := s
    obtain ⟨hl, h⟩ := h
    have f1 := AutoSeq1.idx_int
    wp_walk using wpAny_loadPart' hl
    repeat (first
      | (refine wpAny_ite_false (decide_eq_false (by rw [c0]; exact Bool.false_ne_true)) ?_; wp_walk using wpAny_loadPart' hl)
      | (refine wpAny_ite_false (decide_eq_false (by rw [c1]; exact Bool.false_ne_true)) ?_; wp_walk using wpAny_loadPart' hl)
      | (refine wpAny_ite_true (decide_eq_true c2) ?_; wp_walk using wpAny_loadPart' hl))
    exact ⟨_, rfl, h⟩
theorem tuple_mul1 (l : Addr) (items : Array Value) (n : Nat) (dd : Option Addr) (sl : Array (Option Value)) (x : Int) (u : Tok) (c0 : (decide (x < -(2 ^ 63)) || decide (x ≥ 2 ^ 63)) = false) (c1 : (items.isEmpty || x == 1) = true) :
    Meets (Builtin.«tuple.__mul__» ⟨[.ref l, .int x u], []⟩) (fun _ R s => s.heap.get? l = some { cls := .type "tuple", dict := dd, data := .seq items n, slots := sl } ∧
      R (.ok (.ret (Value.ref l))) s) :=
  .of_wp fun prog w A R s h => by
    obtain ⟨hp, g, d, tk, os⟩ := s
    obtain ⟨hl, h⟩ := h
    have f1 := AutoSeq1.idx_int
    wp_walk using wpAny_loadPart' hl
    repeat (first
      | (refine wpAny_ite_false (decide_eq_false (by rw [c0]; exact Bool.false_ne_true)) ?_; wp_walk using wpAny_loadPart' hl)
      | (refine wpAny_ite_true (decide_eq_true c1) ?_; wp_walk using wpAny_loadPart' hl))
    exact ⟨_, rfl, h⟩

def rRepT0 (K : PySem.W.Frag) : R2 := fun x y H Q => ∃ l k xs, x = .ref l ∧ y = .int k ∧ SqT K H l xs ∧ xs ≠ [] ∧ -(2 ^ 63) ≤ k ∧ k ≤ 0 ∧ ∀ p, H p = none → Q (.ref p) (upd H p (.tup []))
def rRepT1 (K : PySem.W.Frag) : R2 := fun x y H Q => ∃ l k xs, x = .ref l ∧ y = .int k ∧ SqT K H l xs ∧ (xs = [] ∨ k = 1) ∧ -(2 ^ 63) ≤ k ∧ k < 2 ^ 63 ∧ Q (.ref l) H
section
variable {X : Cx}
theorem op_repT0 : OpR X (binaryOp .Mult) (rRepT0 X.K) := by
  intro pins s σ H x y v u Q I rx ry h
  obtain ⟨l, k, xs, rfl, rfl, hT, hne, h1, h2, q⟩ := h
  cases rx
  obtain ⟨t, rfl⟩ := ry
  obtain ⟨its, r, ⟨⟨cls, dd, data, sl⟩, ho, hc, n, hd⟩, hs⟩ := I.tuple hT
  simp only at hc hd
  subst hc hd
  have hle : its.length = xs.length := r.length.symm
  have hn : its ≠ [] := fun e => hne (by
    rw [e] at hle
    exact List.eq_nil_of_length_eq_zero hle.symm)
  have hi : its.toArray.isEmpty = false := by
    cases its with
    | nil => exact absurd rfl hn
    | cons a b => rfl
  have c0 : (decide (k < -(2 ^ 63)) || decide (k ≥ 2 ^ 63)) = false := by
    rw [decide_eq_false (by omega), decide_eq_false (by omega)] <;> rfl
  have c1 : (its.toArray.isEmpty || k == 1) = false := by
    rw [hi, Bool.false_or]
    exact beq_eq_false_iff_ne.mpr (by omega)
  have c2 : (decide (k ≤ 0) || its.toArray.isEmpty) = true := by
    rw [hi, Bool.or_false]
    exact decide_eq_true (by omega)
  refine wpAny_binaryOp_repeat_ref (T := "tuple") (U := "int") (by decide) ⟨_, ho, rfl⟩ (fun s' => typeIs_int s' k t) noFill_tuple_mul F.fills_int_mul F.slot_int_rmul repeat_tuple F.slot_int_index.lookup
    (call_meets F.slot_int_rmul (typeIs_int s k t) F.entry_int_rmul (F.args_int_rmul_2 _ _) (int_rmul_tuple k t l its.toArray n dd sl)
      ⟨ho, rfl, ⟨_, ho, rfl⟩, call_meets F.slot_tuple_mul ⟨_, ho, rfl⟩ F.entry_tuple_mul (F.args_tuple_mul_2 _ _) (tuple_mul0 l its.toArray n dd sl k t c0 c1 c2) ⟨ho, ?_⟩⟩)
  refine ⟨.ref s.heap.objs.size, _, I.laid (t' := s.toks) (o := .tup []) (fun b ob q => Heap.get?_push_of_some _ q) (Nat.le_refl _) ?_, rfl, q _ (I.hok.fresh (Nat.le_refl _))⟩
  exact ⟨Nat.zero_le _, [], .nil, IsTup.new _ _⟩
theorem op_repT1 : OpR X (binaryOp .Mult) (rRepT1 X.K) := by
  intro pins s σ H x y v u Q I rx ry h
  obtain ⟨l, k, xs, rfl, rfl, hT, hne, h1, h2, q⟩ := h
  cases rx
  obtain ⟨t, rfl⟩ := ry
  obtain ⟨its, r, ⟨⟨cls, dd, data, sl⟩, ho, hc, n, hd⟩, hs⟩ := I.tuple hT
  simp only at hc hd
  subst hc hd
  have hle : its.length = xs.length := r.length.symm
  have c0 : (decide (k < -(2 ^ 63)) || decide (k ≥ 2 ^ 63)) = false := by
    rw [decide_eq_false (by omega), decide_eq_false (by omega)] <;> rfl
  have c1 : (its.toArray.isEmpty || k == 1) = true := by
    rcases hne with e | e
    · have : its = [] := List.eq_nil_of_length_eq_zero (by rw [hle, e]; rfl)
      rw [this]; rfl
    · rw [e]; simp
  refine wpAny_binaryOp_repeat_ref (T := "tuple") (U := "int") (by decide) ⟨_, ho, rfl⟩ (fun s' => typeIs_int s' k t) noFill_tuple_mul F.fills_int_mul F.slot_int_rmul repeat_tuple F.slot_int_index.lookup
    (call_meets F.slot_int_rmul (typeIs_int s k t) F.entry_int_rmul (F.args_int_rmul_2 _ _) (int_rmul_tuple k t l its.toArray n dd sl)
      ⟨ho, rfl, ⟨_, ho, rfl⟩, call_meets F.slot_tuple_mul ⟨_, ho, rfl⟩ F.entry_tuple_mul (F.args_tuple_mul_2 _ _) (tuple_mul1 l its.toArray n dd sl k t c0 c1) ⟨ho, ?_⟩⟩)
  exact ⟨.ref l, H, I, rfl, q⟩
end
/-- int * int, tuple * int -/
def rMulA (K : PySem.W.Frag) : R2 := fun x y H Q => (rI CMul fun i j => .int (i * j)) x y H Q ∨ (rRepT K x y H Q ∨ (rRepT0 K x y H Q ∨ rRepT1 K x y H Q))
theorem op_mulA {X : Cx} : OpR X (binaryOp .Mult) (rMulA X.K) := op_mul.or (op_repT.or (op_repT0.or op_repT1))
def dMul : D → D → Sto → R D := fun x y S => match x, y with
  | .tup xs, .int k => if xs = [] ∨ k = 1 then (if -(2 ^ 63) ≤ k ∧ k < 2 ^ 63 then .ok (.tup xs) S else .stuck)
      else if k ≤ 0 then (if -(2 ^ 63) ≤ k then .ok (.tup []) S else .stuck)
      else if k ≤ 1000 ∧ xs.length ≤ 1000 then .ok (.tup (List.replicate k.toNat xs).flatten) S else .stuck
  | x, y => dMulI x y S
theorem ot_mul {c : Cfg} : OpT c (rMulA c.K) dMul := fun ρ S H x y dx dy Q Ew r h1 h2 q => by
  unfold dMul at q
  split at q
  · rename_i xs k
    have h2 : y = V.int k := by unfold Is at h2; exact h2
    have h1' := h1
    unfold Is at h1
    obtain ⟨a, vs, rfl, hs, il⟩ := h1
    have emp : vs = [] ↔ xs = [] := by
      have := il.length
      constructor
      · intro e; rw [e] at this; exact List.eq_nil_of_length_eq_zero this
      · intro e; rw [e] at this; exact List.eq_nil_of_length_eq_zero this.symm
    split at q
    · rename_i hz
      split at q
      · rename_i hb
        exact .inr (.inr (.inr ⟨a, k, vs, rfl, h2, hs, hz.imp emp.mpr id, hb.1, hb.2, q _ H ρ r Ext.refl h1'⟩))
      · exact q.elim
    · rename_i hz
      split at q
      · rename_i h0
        split at q
        · rename_i hb
          exact .inr (.inr (.inl ⟨a, k, vs, rfl, h2, hs, fun e => hz (.inl (emp.mp e)), hb, h0, fun p hp => q.newT r IsL.nil hp⟩))
        · exact q.elim
      · rename_i h0
        split at q
        · rename_i hb
          exact .inr (.inl ⟨a, k, vs, rfl, h2, hs, fun e => hz (.inl (emp.mp e)), by omega, hb.1, by rw [← il.length]; exact hb.2, fun p hp => q.newT r (il.rep _) hp⟩)
        · exact q.elim
  · exact .inl (ot_mulI ρ S H x y dx dy Q Ew r h1 h2 q)

/-! ### while -/
/-- so many turns at most -/
def whileLoop (t : MB) (body : MS) : Nat → MS
  | 0, _, _ => .stuck
  | n + 1, env, S => match t env S with
    | .ok b S1 => if b = true then (match body env S1 with
        | .nx e s => whileLoop t body n e s
        | .ct e s => whileLoop t body n e s
        | .bk e s => .nx e s
        | r => r) else .nx env S1
    | .exc e S1 => .exc env e S1
    | .stuck => .stuck
-- a run that ends, if there is one
open Classical in
noncomputable def swhile (t : MB) (body : MS) : MS := fun env S => if h : ∃ n, whileLoop t body n env S ≠ .stuck then whileLoop t body h.choose env S else .stuck
section
variable {X : Cx} {T : List Addr} {E : WK} {e : Expr} {pos : Pos} {mt : MB} {body : List Stmt} {mb : MS}
theorem cs_while (hp : PassesOwn (model X.prog X.w) X.A X.env X.xe) (hc : CT X T E e mt) (hb : CSs X T E body mb) : CS X T E (.While e body [] pos) (swhile mt mb) := by
  obtain ⟨tC, pC, htC⟩ := hc.ex
  obtain ⟨tB, pB, htB⟩ := hb.ex
  refine ⟨_, ps_while hp pC pB, fun ρ S H σ env D r en h => ?_⟩
  unfold swhile at h
  split at h
  · rename_i hn
    refine ⟨fun m σ' H' => ∃ ρ' S' env', Rel (cf X T) ρ' S' H' ∧ Ext (cf X T) ρ H ρ' H' ∧ EnvR (cf X T) ρ' H' env' σ' ∧ SWant (cf X T) ρ H E D (whileLoop mt mb m env' S'), ⟨hn.choose, ρ, S, env, r, Ext.refl, en, h⟩, ?_⟩
    rintro m σ1 H1 ⟨ρ1, S1, env1, r1, x1, en1, h1⟩
    cases m with
    | zero => exact h1.elim
    | succ m =>
      unfold whileLoop at h1
      refine htC ρ1 S1 H1 σ1 env1 _ r1 en1 ?_
      cases et : mt env1 S1 with
      | stuck => rw [et] at h1; exact h1.elim
      | exc x S2 => rw [et] at h1; exact XPostS.at en1 (XPostS.ext x1 h1)
      | ok b S2 =>
        rw [et] at h1
        simp only at h1
        intro H2 ρ2 r2 x2
        cases b with
        | false =>
          simp only [Bool.false_eq_true, if_false] at h1 ⊢
          exact h1 σ1 H2 ρ2 r2 (x1.trans x2) (en1.ext x2)
        | true =>
          simp only [if_true] at h1 ⊢
          refine ⟨fun σ' H' => ∃ ρ' S' env', Rel (cf X T) ρ' S' H' ∧ Ext (cf X T) ρ H ρ' H' ∧ EnvR (cf X T) ρ' H' env' σ' ∧ SWant (cf X T) ρ H E D (whileLoop mt mb m env' S'), fun σ' H' q => ⟨m, Nat.lt_succ_self m, q⟩, ?_⟩
          refine htB ρ2 S2 H2 σ1 env1 _ r2 (en1.ext x2) ?_
          have xx : Ext (cf X T) ρ H ρ2 H2 := x1.trans x2
          cases eb : mb env1 S2 with
          | nx e' s' =>
            rw [eb] at h1
            exact fun σ' H' ρ' r' x' en' => ⟨ρ', s', e', r', xx.trans x', en', h1⟩
          | ct e' s' =>
            rw [eb] at h1
            exact fun σ' H' ρ' r' x' en' => ⟨ρ', s', e', r', xx.trans x', en', h1⟩
          | bk e' s' =>
            rw [eb] at h1
            exact fun σ' H' ρ' r' x' en' => h1 σ' H' ρ' r' (xx.trans x') en'
          | rt d s' => rw [eb] at h1; exact SWant.ext (D := D) xx h1
          | exc e' x s' => rw [eb] at h1; exact XPostS.ext xx h1
          | stuck => rw [eb] at h1; exact h1.elim
  · exact h.elim
theorem whileLoop_up {t : MB} {body : MS} : ∀ {n m : Nat} {env : Slots} {S : Sto}, n ≤ m → whileLoop t body n env S ≠ .stuck → whileLoop t body m env S = whileLoop t body n env S
  | 0, _, _, _, _, h => absurd rfl h
  | n + 1, 0, _, _, hl, _ => absurd hl (Nat.not_succ_le_zero n)
  | n + 1, m + 1, env, S, hl, h => by
    unfold whileLoop at h ⊢
    cases et : t env S with
    | stuck => rfl
    | exc x S2 => rfl
    | ok b S2 =>
      rw [et] at h
      simp only at h ⊢
      cases b with
      | false => rfl
      | true =>
        simp only [if_true] at h ⊢
        cases eb : body env S2 with
        | nx e' s' => rw [eb] at h; exact whileLoop_up (Nat.le_of_succ_le_succ hl) h
        | ct e' s' => rw [eb] at h; exact whileLoop_up (Nat.le_of_succ_le_succ hl) h
        | bk e' s' => rfl
        | rt d s' => rfl
        | exc e' x s' => rfl
        | stuck => rfl
/-- how a law's text tells what a while does: by a number of turns that is enough -/
theorem swhile_eq {t : MB} {body : MS} {n : Nat} {env : Slots} {S : Sto} (h : whileLoop t body n env S ≠ .stuck) : swhile t body env S = whileLoop t body n env S := by
  unfold swhile
  have hx : ∃ n, whileLoop t body n env S ≠ .stuck := ⟨n, h⟩
  rw [dif_pos hx]
  rcases Nat.le_total n hx.choose with q | q
  · exact whileLoop_up q h
  · exact (whileLoop_up q hx.choose_spec).symm
end
end Ti
namespace Ti
open PySem PySem.Spec PyProof.Rows L2 GxR Gx

/-! ### raise -/
def sraise (C : Addr) : MS := fun env S => .exc env (.plain C) S
section
variable {X : Cx} {T : List Addr} {E : WK}
theorem cs_raise {C : Addr} {bmB : List Value} {B newId initId : String} {x m : Str} {j : Nat} {p p2 pos pos' : Pos} (F : ExcBaseFacts B newId initId bmB) (hc : X.calm = true) (tk : Takes X (fun cls d σ H => E σ cls d H)) (q : PySem.W.excIn X.K C bmB newId = true) (gC : X.mg x = some (.ref C)) (kC : PySem.W.keepIn X.K (.ref C) = true)
    (r1 : PySem.W.subIn X.K (.ref C) (.type "BaseException") = some true) (r2 : PySem.W.typeIn X.K (.ref C) = some (.type "type")) (hg : Gl X x) (hdb : (x == ("__debug__" : Str)) = false := by decide) :
    CS X T E (.Raise (some (.Call (.Name x p) [.Constant (.str m) j p2] [] pos)) none pos') (sraise C) :=
  ⟨_, ps_raise hc tk (pmk_own F q gC kC (raises_own r1 r2) hg hdb), fun ρ S H σ env D r en h => h σ H ρ r Ext.refl en⟩
end

/-! ### the reading that a store function tells -/
def readS (c : Cfg) (E : WK) (m : MS) : TS := fun D σ H => ∃ ρ S env, Rel c ρ S H ∧ EnvR c ρ H env σ ∧ SWant c ρ H E D (m env S)
theorem readS_ps {X : Cx} {T : List Addr} {E : WK} {st : List Stmt} {m : MS} (h : CSs X T E st m) : PSs X st (readS (cf X T) E m) := by
  obtain ⟨t, p, ht⟩ := h.ex
  refine ⟨fun pins s σ H D I q => ?_⟩
  obtain ⟨ρ, S, env, r, en, w⟩ := q
  exact p.run pins s σ H D I (ht ρ S H σ env D r en w)
theorem no_ps {X : Cx} {st : List Stmt} {t : TS} (h : ∀ D σ H, ¬ t D σ H) : PSs X st t := ⟨fun _ _ σ H D _ q => absurd q (h D σ H)⟩

/-! ### try, except .. as n -/
/-- the name n, slot i, goes -/
def dropSR (i : Nat) : SR → SR
  | .nx env S => .nx (env.set i none) S
  | .rt d S => .rt d S
  | .bk env S => .bk (env.set i none) S
  | .ct env S => .ct (env.set i none) S
  | .exc _ _ _ => .stuck
  | .stuck => .stuck
theorem EnvR.drop {c : Cfg} {ρ : List Addr} {H : Hp} {env : Slots} {σ : L2.St} (e : EnvR c ρ H env σ) (i : Nat) : EnvR c ρ H (env.set i none) (σ.set i none) := by
  refine ⟨by simp [e.len], fun j d h => ?_⟩
  by_cases z : i = j
  · subst z
    by_cases hl : i < env.length
    · rw [List.getElem?_set_self hl] at h; cases h
    · rw [List.getElem?_eq_none (by simpa using hl)] at h; cases h
  · rw [List.getElem?_set_ne z] at h ⊢
    exact e.at_ j d h
theorem want_drop {c : Cfg} {ρ : List Addr} {H : Hp} {E E' : WK} {D : Ends} {i : Nat} {r : SR} (h : SWant c ρ H E D (dropSR i r)) :
    SWant c ρ H E' { nx := fun σ' H' => D.nx (σ'.set i none) H', rt := D.rt, bk := fun σ' H' => D.bk (σ'.set i none) H', ct := fun σ' H' => D.ct (σ'.set i none) H' } r := by
  cases r with
  | nx env S => exact fun σ' H' ρ' r x en => h _ H' ρ' r x (en.drop i)
  | rt d S => exact h
  | bk env S => exact fun σ' H' ρ' r x en => h _ H' ρ' r x (en.drop i)
  | ct env S => exact fun σ' H' ρ' r x en => h _ H' ρ' r x (en.drop i)
  | exc env e S => exact h.elim
  | stuck => exact h.elim
open Classical in
/-- body, then, for an error of a class in yes, the suite with the error in slot i: what it does must not depend on where the error stands -/
noncomputable def stry (i : Nat) (yes no : List Addr) (mb : MS) (ms : Addr → Addr → MS) : MS := fun env S => match mb env S with
  | .exc env' (.plain C) S' =>
    if C ∈ yes then (if h : ∃ r, ∀ a, dropSR i (ms a C (env'.set i (some (.adr a))) S') = r then h.choose else .stuck)
    else if C ∈ no then .exc env' (.plain C) S' else .stuck
  | r => r
theorem stry_eq {i : Nat} {yes no : List Addr} {mb : MS} {ms : Addr → Addr → MS} {env env' : Slots} {S S' : Sto} {C : Addr} {r : SR} (h : mb env S = .exc env' (.plain C) S') (hy : C ∈ yes) (hr : ∀ a, dropSR i (ms a C (env'.set i (some (.adr a))) S') = r) : stry i yes no mb ms env S = r := by
  have hx : ∃ r, ∀ a, dropSR i (ms a C (env'.set i (some (.adr a))) S') = r := ⟨r, hr⟩
  unfold stry
  rw [h]
  simp only
  rw [if_pos hy, dif_pos hx]
  exact (hx.choose_spec 0).symm.trans (hr 0)
theorem is_adr {K : PySem.W.Frag} {ρ : List Addr} {H : Hp} {a : Addr} : Is K ρ H (.adr a) (.ref a) := by unfold Is; rfl
section
variable {X : Cx} {T : List Addr} {E : WK} {x n : Str} {B : Addr} {i : Nat} {body suite : List Stmt} {b₀ : Stmt} {np pos pos' : Pos} {mb : MS} {ms : Addr → Addr → MS} {yes no : List Addr}
theorem cs_try (hs : X.stack = X.env :: X.outer) (hf : X.env.frame = some X.env.locals) (hN : X.N.Nodup) (hi : X.N[i]? = some n) (hln : X.env.kindOf n = some .local) (hc : Names X x (.ref B)) (tk : Takes X (fun cls d σ H => E σ cls d H))
    (hyes : ∀ C ∈ yes, PySem.W.exmOne X.K (.ref C) (.ref B) = some true) (hno : ∀ C ∈ no, PySem.W.exmOne X.K (.ref C) (.ref B) = some false)
    (hb : ∀ (W : WX) (pn : List (Addr × Obj)) (xe : Value → Shared → Prop), Takes (X.tr pn xe) W → PassesOwn (model X.prog X.w) X.A X.env xe → CSs (X.tr pn xe) T (fun σ cls d H => W cls d σ H) body mb)
    (hsu : ∀ C ∈ yes, ∀ (a : Addr) (oe : Obj) (pn : List (Addr × Obj)), Zc (.ref C) none oe → (∃ vs, oe.data = .fields vs) → CSs (X.suite a ((a, oe) :: pn)) T (fun _ => E0) (b₀ :: suite) (ms a C)) :
    CS X T E (.Try body [.ExceptHandler (some (.Name x np)) (some n) (b₀ :: suite) pos'] [] [] pos) (stry i yes no mb ms) := by
  refine ⟨_, ps_try_as (i := i) (n := n) (c := .ref B) (tb := fun W => readS (cf X T) (fun σ cls d H => W cls d σ H) mb) (ts := fun a cls d D σ H => ∃ C ∈ yes, cls = .ref C ∧ d = none ∧ readS (cf X T) (fun _ => E0) (ms a C) D σ H)
    (Wout := fun cls d σ H => E σ cls d H) hs hf hN hi hln hc tk (fun W pn xe tk' hp => ?_) (fun a oe cls d pn hz hfl => ?_), fun ρ S H σ env D r en h => ?_⟩
  · exact readS_ps (X := X.tr pn xe) (T := T) (hb W pn xe tk' hp)
  · by_cases hC : ∃ C ∈ yes, cls = .ref C ∧ d = none
    · obtain ⟨C, hy, rfl, rfl⟩ := hC
      have q := readS_ps (X := X.suite a ((a, oe) :: pn)) (T := T) (hsu C hy a oe pn hz hfl)
      refine ⟨fun pins s σ H D I w => ?_⟩
      obtain ⟨C', _, e, _, w⟩ := w
      cases e
      exact q.run pins s σ H D I w
    · exact no_ps fun D σ H ⟨C, hy, e1, e2, _⟩ => hC ⟨C, hy, e1, e2⟩
  · refine ⟨ρ, S, env, r, en, ?_⟩
    unfold stry at h
    cases eb : mb env S with
    | nx e s => rw [eb] at h; exact h
    | rt d s => rw [eb] at h; exact h
    | bk e s => rw [eb] at h; exact h
    | ct e s => rw [eb] at h; exact h
    | stuck => rw [eb] at h; exact h
    | exc env' ex S' =>
      rw [eb] at h
      cases ex with
      | plain C =>
        simp only at h
        intro σ' H' ρ' r' x' en'
        by_cases hy : C ∈ yes
        · rw [if_pos hy] at h
          split at h
          · rename_i hx
            refine ⟨true, hyes C hy, fun _ a ha => ⟨C, hy, rfl, rfl, ρ', S', env'.set i (some (.adr a)), r', en'.set i is_adr, ?_⟩, fun z => Bool.noConfusion z⟩
            have e := hx.choose_spec a
            rw [← e] at h
            exact want_drop (h.ext x')
          · exact h.elim
        · rw [if_neg hy] at h
          split at h
          · rename_i hn
            exact ⟨false, hno C hn, fun z => Bool.noConfusion z, fun _ => h σ' H' ρ' r' x' en'⟩
          · exact h.elim
end
/-- isinstance(error, C) in the suite -/
def bIsE (a : Addr) (tab : List (Addr × Bool)) : List D → Sto → R D
  | [.adr b, .adr C], S => if b = a then match tab.lookup C with
      | some k => .ok (.bl k) S
      | none => .stuck
    else .stuck
  | _, _ => .stuck
theorem lookup_mem {α β : Type} [BEq α] [LawfulBEq α] {a : α} {b : β} : ∀ {l : List (α × β)}, l.lookup a = some b → (a, b) ∈ l
  | [], h => by cases h
  | (x, y) :: l, h => by
    rw [List.lookup_cons] at h
    split at h
    · rename_i e
      cases h
      rw [eq_of_beq e]
      exact List.mem_cons_self
    · exact List.mem_cons_of_mem _ (lookup_mem h)
theorem ob_isE {c : Cfg} {a D0 : Addr} {tab : List (Addr × Bool)} (ht : ∀ p ∈ tab, PySem.W.kitOne c.K (.ref D0) (.ref p.1) = some p.2) : OpB c (rIsE c.K D0 a) (bIsE a tab) := fun ρ S H vs ds Q Ew r il q => by
  unfold bIsE at q
  split at q
  · rename_i b C
    obtain ⟨v, w, rfl, hv, hw⟩ := isL2 il
    have hv : v = V.ref b := by unfold Is at hv; exact hv
    have hw : w = V.ref C := by unfold Is at hw; exact hw
    subst hv hw
    split at q
    · rename_i e
      subst e
      split at q
      · rename_i k ek
        exact ⟨.ref C, .ref C, k, rfl, fun u hu => hu, ht _ (lookup_mem ek), q _ H ρ r Ext.refl is_bl⟩
      · exact q.elim
    · exact q.elim
  · exact q.elim
/-- a class by its name -/
theorem ce_cls {X : Cx} {T : List Addr} {E : WK} {x : Str} {C : Addr} {pos : Pos} (hg : Gl X x) (hm : X.mg x = some (.ref C)) (hd : (x == ("__debug__" : Str)) = false := by decide) : CE X T E (.Name x pos) (mcon (.adr C)) :=
  ce_glob (v := .ref C) (.adr C) hg hm rfl (fun _ _ => is_adr) hd
end Ti
/-! The end of a law: the def named law, told by a store function, called with the script. -/
namespace Ti
open PySem PySem.Spec PyProof.Rows L2 GxR Gx

/-- what is tracked when the law is called: the script, where it is not written (f), and the tables Ts -/
def beginH (a : Addr) (o : Obj) (ns : List Int) (Ts : List Addr) (f : Bool) : Hp := fun b =>
  if b ∈ Ts then some (.tbl #[]) else if f = true ∧ b = a then some (.frz o (.lst (ns.map V.int))) else none
section
variable {a : Addr} {o : Obj} {ns : List Int} {Ts : List Addr} {f : Bool} {b : Addr} {u : HO}
theorem begin_cases (h : beginH a o ns Ts f b = some u) : (b ∈ Ts ∧ u = .tbl #[]) ∨ (f = true ∧ b = a ∧ u = .frz o (.lst (ns.map V.int))) := by
  unfold beginH at h
  split at h
  · rename_i hb
    cases h
    exact .inl ⟨hb, rfl⟩
  · split at h
    · rename_i hb
      cases h
      exact .inr ⟨hb.1, hb.2, rfl⟩
    · cases h
theorem begin_tab (h : b ∈ Ts) : beginH a o ns Ts f b = some (.tbl #[]) := if_pos h
end

/-- a law's def by its store function -/
theorem law_end {P : Program} {w : World} {K : PySem.W.Frag} {mg mb : Str → Option Value} {k : Nat} {fa a : Addr} {cs : List (Addr × Addr)} {fd : FuncData} {x : Str} {f : List D → Sto → R D} {s : Shared} {vs : List Value} {ns : List Int}
    (KX : K.In s.heap) (hg : s.heap.Ns mainGlobals mg) (hb : s.heap.Ns builtinsNs mb) (hbb : ∀ x : Str, x ≠ "__name__" → mb x = bootBuiltins x) (hlim : s.heap.NoLimit) (hgen : s.gens = #[])
    (hT : ∀ p ∈ cs, s.heap.get? p.2 = some { cls := .none, data := .fields #[] }) (nT : ∀ p ∈ cs, K.lookup p.2 = none) (hC : ∀ p ∈ cs, PySem.W.CodeHd s.heap p.1 p.2)
    (hbm : ∃ (bm : Addr) (ob : Obj), mg "__builtins__" = some (.ref bm) ∧ bm ≠ builtinsNs ∧ s.heap.get? bm = some ob ∧ ob.cls = .type "module" ∧ ob.dict = some builtinsNs ∧ ob.data = .plain)
    (ha : s.heap.get? a = some { cls := .type "list", data := .seq vs.toArray }) (hi : IntsAre vs ns) (hl : ns.length ≤ sizeLine) (hr : Room k callerA)
    (F : ∀ base : Heap, K.In base → base.Ns mainGlobals mg → (∀ p ∈ cs, TabB base mg p.1 p.2) → FnG P w K mg base k fa fd [x] (spS ⟨K, cs.map (·.2)⟩ 1 f)) (hbind : ∀ (s : Shared) (u : Value), BindsTo s fd ⟨[u], []⟩ [(x, u)])
    (hf : ∃ S, f [.frz (ns.map D.int)] [] = .ok (.bl true) S) :
    codeAny (model P w) callerA (.call (.ref fa) ⟨[.ref a], []⟩) (fun r s' => r = .ok (.ret (.bool true)) ∧ OldK s.heap s'.heap ∧ s'.os = s.os ∧ AllBare s'.gens) s := by
  obtain ⟨Ts, hTs⟩ : ∃ Ts, Ts = cs.map (·.2) := ⟨_, rfl⟩
  obtain ⟨H, hH⟩ : ∃ H, H = beginH a { cls := .type "list", data := .seq vs.toArray } ns Ts (K.lookup a).isNone := ⟨_, rfl⟩
  have atT : ∀ b ∈ Ts, s.heap.get? b = some { cls := .none, data := .fields #[] } ∧ K.lookup b = none := fun b hm => by
    rw [hTs] at hm
    obtain ⟨p, hp, rfl⟩ := List.mem_map.mp hm
    exact ⟨hT p hp, nT p hp⟩
  have sees : ∀ b u, H b = some u → (b ∈ Ts ∧ u = .tbl #[]) ∨ (K.lookup a = none ∧ b = a ∧ u = .frz { cls := .type "list", data := .seq vs.toArray } (.lst (ns.map V.int))) := fun b u h => by
    rw [hH] at h
    rcases begin_cases h with q | ⟨q1, q2, q3⟩
    · exact .inl q
    · exact .inr ⟨by simpa using q1, q2, q3⟩
  -- what is neither a list nor an empty table is not tracked
  have free : ∀ b ob, s.heap.get? b = some ob → ob.data ≠ .fields #[] → ob.data ≠ .seq vs.toArray → H b = none := fun b ob e h1 h2 => by
    cases q : H b with
    | none => rfl
    | some u =>
      exfalso
      rcases sees b u q with ⟨hm, _⟩ | ⟨_, rfl, _⟩
      · rw [(atT b hm).1] at e; cases e; exact h1 rfl
      · rw [ha] at e; cases e; exact h2 rfl
  have freeK : ∀ b ob, K.lookup b = some ob → H b = none := fun b ob e => by
    cases q : H b with
    | none => rfl
    | some u =>
      exfalso
      rcases sees b u q with ⟨hm, _⟩ | ⟨z, rfl, _⟩
      · rw [(atT b hm).2] at e; cases e
      · rw [z] at e; cases e
  have ns_of : ∀ {b : Addr} {m : Str → Option Value}, s.heap.Ns b m → (hidT s.heap H).Ns b m := fun {b m} ⟨ob, es, ep, e, d, r⟩ =>
    ⟨ob, es, ep, hidT_get e (free b ob e (by rw [d]; exact nofun) (by rw [d]; exact nofun)), d, r⟩
  have hok : HOk P w H s.heap := fun b u q => by
    rcases sees b u q with ⟨hm, rfl⟩ | ⟨_, rfl, rfl⟩
    · exact (atT b hm).1
    · exact ⟨ha, by rw [List.length_map]; exact hl, vs, _, vals_ints hi, ha⟩
  have kb : K.In (hidT s.heap H) := fun b ob e => hidT_get (KX b ob e) (freeK b ob e)
  have md : L2.Mod K mg (hidT s.heap H) := ⟨kb, ns_of hg, ⟨mb, ns_of hb, hbb⟩, let ⟨mc, h1, h2⟩ := hlim; ⟨mc, ns_of h1, h2⟩⟩
  have e0 : Env0 P w K mg (hidT s.heap H) callerA [] s H :=
    { frames := rfl, mod := md, bs := fun b ob e => of_hidT e, bsz := Nat.le_of_eq (hidT_size _ _), funs := trivial, frf := fun b hm => absurd (show b ∈ ([] : List Addr) from hm) (by simp), hok := hok, bare := .of_eq hgen }
  have dictOf : ∀ {m : Str → Option Value} {b : Addr}, s.heap.Ns b m → ∃ ob es ep, s.heap.get? b = some ob ∧ ob.data = .dict es ep := fun {m b} ⟨ob, es, ep, e, d, _⟩ => ⟨ob, es, ep, e, d⟩
  obtain ⟨og, eg, epg, hgo, hgd⟩ := dictOf hg
  have tb : ∀ p ∈ cs, TabB (hidT s.heap H) mg p.1 p.2 := fun p hp => by
    refine ⟨?_, ?_, fun z => ?_⟩
    · obtain ⟨ob, us, file, tf, flags, tg, inF, text, tt, e1, r1, r2, r3, rest⟩ := hC p hp
      exact ⟨ob, us, file, tf, flags, tg, inF, text, tt, hidT_get e1 (free _ _ e1 (by rw [r2]; intro z; cases z; simp at r3) (by rw [r2]; exact nofun)), r1, r2, r3, rest⟩
    · obtain ⟨bm, ob, b1, b2, b3, b4, b5, b6⟩ := hbm
      refine ⟨bm, ob, b1, b2, ?_, ?_, hidT_get b3 (free _ _ b3 (by rw [b6]; exact nofun) (by rw [b6]; exact nofun)), b4, b5, b6⟩
      · intro z; rw [z, hgo] at b3; cases b3; rw [hgd] at b6; cases b6
      · intro z; rw [z, hT p hp] at b3; cases b3; cases b6
    · rw [z, hT p hp] at hgo; cases hgo; cases hgd
  have sq : SqF K H a (ns.map V.int) := by
    cases e : K.lookup a with
    | none =>
      refine .inl ⟨{ cls := .type "list", data := .seq vs.toArray }, ?_⟩
      have na : a ∉ Ts := fun hm => by rw [(atT a hm).1] at ha; cases ha
      rw [hH]
      unfold beginH
      rw [if_neg na, if_pos ⟨by rw [e]; rfl, rfl⟩]
    | some ob =>
      have q := KX a ob e
      rw [ha] at q
      cases q
      exact .inr ⟨_, vs.toArray, _, e, rfl, rfl, rfl, by rw [List.size_toArray, hi.length]; exact hl, by simpa using vals_ints hi⟩
  have hsp : spS ⟨K, cs.map (·.2)⟩ 1 f [.ref a] H (fun v _ => v = .bl true) fun _ _ _ => False := by
    obtain ⟨S, eS⟩ := hf
    refine ⟨[], [], [.frz (ns.map D.int)], ⟨rfl, List.nodup_nil, fun i a o h => by simp at h, fun Q hQ => ⟨#[], ?_, ?_⟩⟩, IsL.cons (by unfold Is; exact ⟨a, _, rfl, sq, IsL.ofInts ns⟩) IsL.nil, rfl, ?_⟩
    · rw [hH, hTs]; exact begin_tab hQ
    · first | trivial | exact True.intro | decide | rfl
    · rw [eS]
      exact fun v H' ρ' _ _ h => by unfold Is at h; exact h
  refine codeAny_mono ((F _ kb (ns_of hg) tb).run callerA [] s H ⟨[.ref a], []⟩ [.ref a] [.ref a] _ _ hr rfl e0 (hbind s (.ref a)) (.cons rfl .nil) hsp) fun r s' h => ?_
  cases r with
  | error e =>
    obtain ⟨_, _, _, _, _, _, _, _, _, _, _, _, z⟩ := h
    exact z.elim
  | ok fl =>
    cases fl with
    | next => exact False.elim h
    | brk => exact False.elim h
    | cont => exact False.elim h
    | ret u =>
      obtain ⟨v, H', os, bare, un, hok', r', q⟩ := h
      obtain rfl : v = .bl true := q
      obtain rfl : u = Value.bool true := r'
      have stays : ∀ b ob, b ∉ Ts → s.heap.get? b = some ob → s'.heap.get? b = some ob := fun b ob nb e => by
        cases q : H b with
        | none => exact un.keep b ob e q (fun z => by simp [frs] at z) (by simp)
        | some u =>
          rcases sees b u q with ⟨hm, _⟩ | ⟨_, rfl, rfl⟩
          · exact absurd hm nb
          · have e2 : s'.heap.get? b = some { cls := .type "list", data := .seq vs.toArray } := (hok' b _ (un.frzs b _ _ q)).1
            rw [ha] at e
            cases e
            exact e2
      have grows : ∀ b ∈ Ts, ∃ more : Array Value, s'.heap.get? b = some { cls := .none, data := .fields more } := fun b hm => by
        obtain ⟨more, z⟩ := un.tbls b #[] (by rw [hH]; exact begin_tab hm)
        exact ⟨_, hok' b _ z⟩
      refine ⟨rfl, ⟨fun b ob e => ?_, fun b ob e => ?_⟩, os, bare⟩
      · by_cases hm : b ∈ Ts
        · obtain ⟨more, hq⟩ := grows b hm
          have h0 := hm
          rw [hTs] at h0
          obtain ⟨p, hp, rfl⟩ := List.mem_map.mp h0
          rw [hT p hp] at e
          cases e
          exact .inr (.inl ⟨((hC p hp).tab (hT p hp)).isCodeTable, rfl, #[], more, rfl, by rw [Array.empty_append]; exact hq⟩)
        · exact .inl (stays b ob hm e)
      · by_cases hm : b ∈ Ts
        · obtain ⟨more, hq⟩ := grows b hm
          exact ⟨_, hq⟩
        · exact ⟨ob, stays b ob hm e⟩

/-- a law's row, by a store function -/
theorem walk_end {l : PySem.W.OpenLaw} {n k : Nat} {q : Program} {loose : List Str} {XP : (Str → Option Value) → Heap → Prop} {YP : World → Heap → Prop} {d : DefRec} {K : Params → PySem.W.Frag} {x : Str}
    (hn : l.most = some n) (hn2 : n ≤ sizeLine) (hdf : d.params.defaults = []) (hr : Room k callerA) (hY : ∀ (w : World) (h : Heap), YP w h → (K w.params).In h)
    (F : ∀ (w : World) (mg : Str → Option Value) (fa : Addr) (h : Heap), YP w h → (K w.params).In h → h.Ns mainGlobals mg → mg d.name = some (.ref fa) →
      (∀ (e : DefRec) (y : Str) (c P : Addr), (PyProof.Rows.recsOf q).find? (fun r => r.name == y) = some e → PySem.W.tabIn (K w.params) y = some (c, P) → PySem.W.CodeHd h c P ∧ h.get? P = some { cls := .none, data := .fields #[] }) →
      ∃ (fd : FuncData) (cs : List (Addr × Addr)) (f : List D → Sto → R D), (∀ p ∈ cs, h.get? p.2 = some { cls := .none, data := .fields #[] }) ∧ (∀ p ∈ cs, (K w.params).lookup p.2 = none) ∧ (∀ p ∈ cs, PySem.W.CodeHd h p.1 p.2) ∧ (∀ (s : Shared) (u : Value), BindsTo s fd ⟨[u], []⟩ [(x, u)]) ∧
        (∀ ns : List Int, ns.length ≤ n → (∀ z ∈ ns, Builtin.Int.intBits z ≤ 1048576) → ∃ S, f [.frz (ns.map D.int)] [] = .ok (.bl true) S) ∧
        ∀ base : Heap, (K w.params).In base → base.Ns mainGlobals mg → (∀ p ∈ cs, TabB base mg p.1 p.2) → FnG l.prog w (K w.params) mg base k fa fd [x] (spS ⟨K w.params, cs.map (·.2)⟩ 1 f)) :
    PySem.W.WalkO q loose XP YP l.row.toRowW d [] (fun f vs => PySem.call f vs) := by
  refine Att.attach_callB hn hdf fun w s₀ s mg mb fa o pm cd doc a vs ns G Y ho hd hcd hmg hobj hints hlen hbits hg => ?_
  have KX := hY w _ Y
  obtain ⟨fd, cs, f, hT, nT, hC, hb, hf, hF⟩ := F w mg fa _ Y KX G.T.g hmg fun e y c P e1 e2 => PySem.W.tab_of G.T KX e1 e2
  exact law_end KX G.T.g G.T.b G.T.builtins G.T.nolimit hg hT nT hC G.T.bmain hobj hints (Nat.le_trans hlen hn2) hr hF hb (hf ns hlen hbits)
end Ti
namespace Ti
open PySem PySem.Spec PyProof.Rows L2 GxR Gx

/-! ### the readings that store functions tell -/
def readE (c : Cfg) (E : WK) (m : MD) : TE := fun σ H Q => ∃ ρ S env, Rel c ρ S H ∧ EnvR c ρ H env σ ∧ (m env S).wp (Post c ρ H Q) (XPost c ρ H (E σ))
theorem readE_tie {c : Cfg} {E : WK} {m : MD} : Tie c E (readE c E m) m := fun ρ S H σ env Q r en h => ⟨ρ, S, env, r, en, h⟩
theorem readE_pe {X : Cx} {T : List Addr} {E : WK} {e : Expr} {m : MD} (h : CE X T E e m) : PE X e (readE (cf X T) E m) := by
  obtain ⟨t, p, ht⟩ := h.ex
  refine ⟨fun pins s σ H Q I q => ?_⟩
  obtain ⟨ρ, S, env, r, en, w⟩ := q
  exact p.run pins s σ H Q I (ht ρ S H σ env Q r en w)
def readT (c : Cfg) (E : WK) (m : MB) : TT := fun σ H Q => ∃ ρ S env, Rel c ρ S H ∧ EnvR c ρ H env σ ∧ (m env S).wp (PostT c ρ H Q) (XPost c ρ H (E σ))
theorem readT_tie {c : Cfg} {E : WK} {m : MB} : TieT c E (readT c E m) m := fun ρ S H σ env Q r en h => ⟨ρ, S, env, r, en, h⟩
theorem readT_pt {X : Cx} {T : List Addr} {E : WK} {es : List Expr} {m : MB} (h : CTs X T E es m) : PTs X es (readT (cf X T) E m) := by
  obtain ⟨t, p, ht⟩ := h.ex
  refine ⟨fun pins s σ H Q I q => ?_⟩
  obtain ⟨ρ, S, env, r, en, w⟩ := q
  exact p.run pins s σ H Q I (ht ρ S H σ env Q r en w)
def readG (c : Cfg) (m : MG) (js : List Nat) : TG := fun v σ H Q => ∃ ρ S env d, Rel c ρ S H ∧ EnvR c ρ H env σ ∧ Is c.K ρ H d v ∧ (m d env S).wp (GWant c ρ H σ js Q) (fun _ _ => False)
theorem readG_tie {c : Cfg} {m : MG} {js : List Nat} : TieG c (readG c m js) m js := fun ρ S H σ env d v Q r en i h => ⟨ρ, S, env, d, r, en, i, h⟩
theorem readG_pg {X : Cx} {T : List Addr} {e : Expr} {m : MG} {js : List Nat} (h : CG X T e m js) : PG X e (readG (cf X T) m js) := by
  obtain ⟨t, p, ht⟩ := h.ex
  refine ⟨fun pins s σ H v u Q I rv q => ?_⟩
  obtain ⟨ρ, S, env, d, r, en, i, w⟩ := q
  exact p.run pins s σ H v u Q I rv (ht ρ S H σ env d v Q r en i w)

/-! ### comprehensions and generator expressions by the parts' store functions -/
abbrev E0W : WK := fun _ => E0
section
variable {X : Cx} {T : List Addr} {E : WK} {elt tg iter : Expr} {ifs : List Expr} {scope : Scope} {own : List (Str × Nat)} {p pos gpos : Pos} {mi : MI} {g : MG} {js : List Nat} {mt : MB} {me : MD} {k : Nat} {c P : Addr}
theorem lc (hc : X.calm = true) (hN : X.N.Nodup) (hi : CI X T E tg iter mi) (ok : blkC X.N X.env.scope scope own = true) (hj : js.all (fun j => decide (j ∈ own.map (·.2))) = true)
    (hg : ∀ (s : Shared) (H : Hp) (C : Addr) (cl : List (Str × Addr)) (fp : List Addr), CG (X.blk s H scope (compEnvC scope cl C X.env) fp) T tg g js)
    (ht : ∀ (s : Shared) (H : Hp) (C : Addr) (cl : List (Str × Addr)) (fp : List Addr), CTs (X.blk s H scope (compEnvC scope cl C X.env) fp) T E0W ifs mt)
    (he : ∀ (s : Shared) (H : Hp) (C : Addr) (cl : List (Str × Addr)) (fp : List Addr), CE (X.blk s H scope (compEnvC scope cl C X.env) fp) T E0W elt me) (hs : ∀ x, foldedSetIterable iter X.env x = pure x := by intro _; rfl) :
    CL X T E (.ListComp elt [⟨tg, iter, ifs, 0⟩] scope pos) (mcomp mi g mt me (own.map (·.2))) :=
  cl_comp hc hN hi (blkOk_by ok) (fun j hm => by simpa using List.all_eq_true.mp hj j hm) ⟨_, fun s H C cl fp => readG_pg (hg s H C cl fp), readG_tie⟩ ⟨_, fun s H C cl fp => readT_pt (ht s H C cl fp), readT_tie⟩ ⟨_, fun s H C cl fp => readE_pe (he s H C cl fp), readE_tie⟩ hs
/-- the contexts of a generator expression's parts -/
abbrev ForGx (X : Cx) (k : Nat) (scope : Scope) (p : Cx → Prop) : Prop :=
  ∀ (A : Around) (s : Shared) (H : Hp) (cl : List (Str × Addr)) (C : Addr) (code : Value) (fp : List Addr) (pn : List (Addr × Obj)), Room k (A.deeper (genEnv scope cl C code builtinsNs X.env)) → A.guards = X.A.guards →
    p (gx X (A.deeper (genEnv scope cl C code builtinsNs X.env)) s H (genEnv scope cl C code builtinsNs X.env) fp pn)
theorem gall (hr : Room (k + 1) X.A) (hgl : Gl X "all") (hm : X.mg "all" = none) (hc : X.calm = true) (hN : X.N.Nodup) (TB : TabB X.base X.mg c P) (hP : P ∈ T) (hcode : X.env.code = .ref c)
    (hco : scope.isCoroutine = false) (ok : blkC X.N X.env.scope scope own = true) (hcell : scope.names.all (fun y => match y.2 with | .cell => false | _ => true) = true) (hdot : scope.names.lookup (".0" : Str) = some NameKind.local)
    (hi : CI X T E tg iter mi) (hj : js.all (fun j => decide (j ∈ own.map (·.2))) = true)
    (hg : ForGx X k scope fun X' => CG X' T tg g js) (ht : ForGx X k scope fun X' => CTs X' T E0W ifs mt) (hel : ForGx X k scope fun X' => CE X' T E0W elt me)
    (hs : ∀ v, genFold iter X.env v = pure v := by intro _; rfl)
    (he : starEach [.GeneratorExp elt [⟨tg, iter, ifs, 0⟩] scope gpos] X.env = (false, eval (.GeneratorExp elt [⟨tg, iter, ifs, 0⟩] scope gpos) X.env) :: starEach [] X.env := by rfl) :
    CE X T E (.Call (.Name "all" p) [.GeneratorExp elt [⟨tg, iter, ifs, 0⟩] scope gpos] [] pos) (mall mi g mt me (own.map (·.2))) :=
  ce_all hr hgl hm (by decide +kernel) hc hN TB hP hcode hco (blkOk_by ok) (fun y hy z => by have := List.all_eq_true.mp hcell y hy; rw [z] at this; cases this) hdot hi (fun j hm => by simpa using List.all_eq_true.mp hj j hm)
    ⟨_, fun A s H cl C code fp pn h1 h2 => readG_pg (hg A s H cl C code fp pn h1 h2), readG_tie⟩ ⟨_, fun A s H cl C code fp pn h1 h2 => readT_pt (ht A s H cl C code fp pn h1 h2), readT_tie⟩ ⟨_, fun A s H cl C code fp pn h1 h2 => readE_pe (hel A s H cl C code fp pn h1 h2), readE_tie⟩ hs he
theorem gany (hr : Room (k + 1) X.A) (hgl : Gl X "any") (hm : X.mg "any" = none) (hc : X.calm = true) (hN : X.N.Nodup) (TB : TabB X.base X.mg c P) (hP : P ∈ T) (hcode : X.env.code = .ref c)
    (hco : scope.isCoroutine = false) (ok : blkC X.N X.env.scope scope own = true) (hcell : scope.names.all (fun y => match y.2 with | .cell => false | _ => true) = true) (hdot : scope.names.lookup (".0" : Str) = some NameKind.local)
    (hi : CI X T E tg iter mi) (hj : js.all (fun j => decide (j ∈ own.map (·.2))) = true)
    (hg : ForGx X k scope fun X' => CG X' T tg g js) (ht : ForGx X k scope fun X' => CTs X' T E0W ifs mt) (hel : ForGx X k scope fun X' => CE X' T E0W elt me)
    (hs : ∀ v, genFold iter X.env v = pure v := by intro _; rfl)
    (he : starEach [.GeneratorExp elt [⟨tg, iter, ifs, 0⟩] scope gpos] X.env = (false, eval (.GeneratorExp elt [⟨tg, iter, ifs, 0⟩] scope gpos) X.env) :: starEach [] X.env := by rfl) :
    CE X T E (.Call (.Name "any" p) [.GeneratorExp elt [⟨tg, iter, ifs, 0⟩] scope gpos] [] pos) (many mi g mt me (own.map (·.2))) :=
  ce_any hr hgl hm hc hN TB hP hcode hco (blkOk_by ok) (fun y hy z => by have := List.all_eq_true.mp hcell y hy; rw [z] at this; cases this) hdot hi (fun j hm => by simpa using List.all_eq_true.mp hj j hm)
    ⟨_, fun A s H cl C code fp pn h1 h2 => readG_pg (hg A s H cl C code fp pn h1 h2), readG_tie⟩ ⟨_, fun A s H cl C code fp pn h1 h2 => readT_pt (ht A s H cl C code fp pn h1 h2), readT_tie⟩ ⟨_, fun A s H cl C code fp pn h1 h2 => readE_pe (hel A s H cl C code fp pn h1 h2), readE_tie⟩ hs he
theorem gtupx (hr : Room (k + 1) X.A) (hgl : Gl X "tuple") (hm : X.mg "tuple" = none) (hc : X.calm = true) (hN : X.N.Nodup) (TB : TabB X.base X.mg c P) (hP : P ∈ T) (hcode : X.env.code = .ref c)
    (hco : scope.isCoroutine = false) (ok : blkC X.N X.env.scope scope own = true) (hcell : scope.names.all (fun y => match y.2 with | .cell => false | _ => true) = true) (hdot : scope.names.lookup (".0" : Str) = some NameKind.local)
    (hi : CI X T E tg iter mi) (hj : js.all (fun j => decide (j ∈ own.map (·.2))) = true)
    (hg : ForGx X k scope fun X' => CG X' T tg g js) (ht : ForGx X k scope fun X' => CTs X' T E0W ifs mt) (hel : ForGx X k scope fun X' => CE X' T E0W elt me)
    (hs : ∀ v, genFold iter X.env v = pure v := by intro _; rfl)
    (he : starEach [.GeneratorExp elt [⟨tg, iter, ifs, 0⟩] scope gpos] X.env = (false, eval (.GeneratorExp elt [⟨tg, iter, ifs, 0⟩] scope gpos) X.env) :: starEach [] X.env := by rfl) :
    CE X T E (.Call (.Name "tuple" p) [.GeneratorExp elt [⟨tg, iter, ifs, 0⟩] scope gpos] [] pos) (mtupG mi g mt me (own.map (·.2))) :=
  ce_tupG hr hgl hm (by decide +kernel) hc hN TB hP hcode hco (blkOk_by ok) (fun y hy z => by have := List.all_eq_true.mp hcell y hy; rw [z] at this; cases this) hdot hi (fun j hm => by simpa using List.all_eq_true.mp hj j hm)
    ⟨_, fun A s H cl C code fp pn h1 h2 => readG_pg (hg A s H cl C code fp pn h1 h2), readG_tie⟩ ⟨_, fun A s H cl C code fp pn h1 h2 => readT_pt (ht A s H cl C code fp pn h1 h2), readT_tie⟩ ⟨_, fun A s H cl C code fp pn h1 h2 => readE_pe (hel A s H cl C code fp pn h1 h2), readE_tie⟩ hs he
end

/-! ### a def whose code object is known -/
structure FunC (K : PySem.W.Frag) (x qual : Str) (st : Stmt) (f : Addr) (fd : FuncData) (c : Addr) : Prop where
  ex : ∃ (oc : Value) (od : Option Addr) (kV doc pm : Value) (an : Option Addr) (ct : Value) (osl : Array (Option Value)),
    fd = PySem.W.fnOf x qual (defArgs st) (defBody st) (defScope st) .none kV doc pm an (.ref c) ct ∧ K.lookup f = some ⟨oc, od, .func fd, osl⟩ ∧ PySem.W.codeIn K (.ref c) qual = true
  kp : PySem.W.keepIn K (.ref f) = true
theorem funC_mk {K : PySem.W.Frag} {x qual : Str} {st : Stmt} {f c : Addr} {oc : Value} {od an : Option Addr} {osl : Array (Option Value)} {kV doc pm ct : Value} (l : K.lookup f = some ⟨oc, od, .func (PySem.W.fnOf x qual (defArgs st) (defBody st) (defScope st) .none kV doc pm an (.ref c) ct), osl⟩)
    (cd : PySem.W.codeIn K (.ref c) qual = true) (k : PySem.W.keepIn K (.ref f) = true) : FunC K x qual st f (PySem.W.fnOf x qual (defArgs st) (defBody st) (defScope st) .none kV doc pm an (.ref c) ct) c := ⟨⟨oc, od, kV, doc, pm, an, ct, osl, rfl, l, cd⟩, k⟩
section
variable {P : Program} {w : World} {K : PySem.W.Frag} {mg : Str → Option Value} {base : Heap}
theorem FunC.binds {x qual : Str} {st : Stmt} {f c : Addr} {fd : FuncData} {ps : List Str} (F : FunC K x qual st f fd c)
    (h : ∀ (kV doc pm : Value) (an : Option Addr) (ct : Value) (us : List Value), us.length = ps.length → bindArgs (PySem.W.fnOf x qual (defArgs st) (defBody st) (defScope st) .none kV doc pm an (.ref c) ct) ⟨us, []⟩ = pure (ps.zip us)) : Binds K fd ps [] := by
  obtain ⟨oc, od, kV, doc, pm, an, ct, osl, rfl, _, _⟩ := F.ex
  intro s us _ hl
  rw [List.append_nil] at hl ⊢
  exact .of_eq (h kV doc pm an ct us hl)
/-- a def, by its body -/
theorem fnC {x qual : Str} {st : Stmt} {f c : Addr} {fd : FuncData} {N ps : List Str} {k : Nat} {T : List Addr} {m : MS} (F : FunC K x qual st f fd c) (S : FnScope N ps (defScope st))
    (hbody : ∀ (A : Around) (outer : List Env) (s : Shared) (H : Hp) (E : XK), Room k (A.deeper (envOfC qual (defScope st) s.heap.objs.size f (.ref c))) → A.guards = some [] →
      CSs (cxOf (L2.CX P w) P w K mg base N qual (defScope st) f (.ref c) A outer s H E) T (fun _ => E) (defBody st) m) :
    FnG P w K mg base (k + 1) f fd ps (spS ⟨K, T⟩ ps.length (runDef N.length m)) := by
  obtain ⟨oc, od, kV, doc, pm, an, ct, osl, rfl, lk, hcd⟩ := F.ex
  have len : ∀ vs H Q E, spS ⟨K, T⟩ ps.length (runDef N.length m) vs H Q E → vs.length = ps.length := fun vs H Q E h => by
    obtain ⟨ρ, S, ds, r, il, hl, _⟩ := h
    rw [← il.length, hl]
  refine ⟨len, fun A outer s H args us vs Q E hr hgd e0 hb r hsp => ?_⟩
  have hl := len _ _ _ _ hsp
  have KX : K.In s.heap := e0.mod.kin.keeps fun b o e => (e0.bs b o e).1
  have lim : s.heap.NoLimit := e0.mod.nolimit.keeps fun b o e => (e0.bs b o e).1
  refine codeAny_call_function hr.depth (KX _ _ lk) rfl S.co S.gen rfl (PySem.W.codeRec_of KX hcd) (hb _ _ _ _ ?_)
  refine wpAny_newFunctionEnv_cells S.kind (fun ⟨n, v⟩ hy => ?_) fun env he s1 x => ?_
  · rcases S.par n (List.of_mem_zip hy).1 with q | q
    · exact .inl q
    · exact .inr ⟨q, PySem.W.cellsFrom_some _ _ _ (.inl q)⟩
  subst he
  refine ⟨lim.keeps x.toInCall.keep, codeAny_func ?_⟩
  obtain ⟨t, ht, hti⟩ := (hbody A outer s H E (hr.deeper _) hgd).ex
  have I : Inv (cxOf (L2.CX P w) P w K mg base N qual (defScope st) f (.ref c) A outer s H E) [] (L2.start N vs) H s1 := inv_start S hr.hd e0 hl r x
  obtain ⟨ρ, S0, ds, rr, il, hlen, hw⟩ := hsp
  have hq : t { nx := fun _ H' => Q .non H', rt := Q } (L2.start N vs) H := by
    have en : EnvR ⟨K, T⟩ ρ H (ds.map some ++ List.replicate (N.length - ds.length) none) (L2.start N vs) := by
      unfold L2.start
      rw [il.length]
      exact env_start (N := N) il
    refine hti ρ S0 H (L2.start N vs) _ _ rr en ?_
    unfold runDef at hw
    cases e : m (ds.map some ++ List.replicate (N.length - ds.length) none) S0 with
    | nx env S' => rw [e] at hw; exact fun σ' H' ρ' r' x' en' => hw .non H' ρ' r' x' (by unfold Is; rfl)
    | rt d S' => rw [e] at hw; exact hw
    | exc env x S' =>
      rw [e] at hw
      cases x with
      | plain C => exact fun σ' H' ρ' r' x' en' => hw H' ρ' r' x'
    | bk env S' => rw [e] at hw; exact hw.elim
    | ct env S' => rw [e] at hw; exact hw.elim
    | stuck => rw [e] at hw; exact hw.elim
  refine wpAny_mono (ht.run [] s1 (L2.start N vs) H _ I hq) (fun fl s' hs => ?_) fun e s' hs => hs
  have fin : ∀ {σ' : L2.St} {H' : Hp} {v : V} {u : Value}, Inv (cxOf (L2.CX P w) P w K mg base N qual (defScope st) f (.ref c) A outer s H E) [] σ' H' s' → RelV v u → Q v H' → L2.CE outer P w H s Q u s' :=
    fun {σ' H' v u} J rv q => ⟨v, H', J.os, J.bare, J.base, J.hok, rv, q⟩
  cases fl with
  | ret u =>
    obtain ⟨v, σ', H', J, rv, q⟩ := hs
    exact fin J rv q
  | next =>
    obtain ⟨σ', H', J, q⟩ := hs
    exact fin (v := V.non) (u := Value.none) J rfl q
  | brk =>
    obtain ⟨_, _, _, q⟩ := hs
    exact False.elim q
  | cont =>
    obtain ⟨_, _, _, q⟩ := hs
    exact False.elim q
end
end Ti
namespace Ti
open PySem PySem.Spec PyProof.Rows L2 GxR Gx

/-! ### * of ints, tuples, lists -/
def rMulB (K : PySem.W.Frag) : R2 := fun x y H Q => rMulA K x y H Q ∨ rRep x y H Q
theorem op_mulB {X : Cx} : OpR X (binaryOp .Mult) (rMulB X.K) := op_mulA.or op_rep
def dMulB : D → D → Sto → R D := fun x y S => match x, y with
  | .ref i, .int k => match S[i]? with
    | some (.lst xs) => if -(2 ^ 63) ≤ k ∧ k < 2 ^ 63 ∧ xs.length * k.toNat ≤ sizeLine then .ok (.ref S.length) (S ++ [.lst (List.replicate k.toNat xs).flatten]) else .stuck
    | none => .stuck
  | x, y => dMul x y S
theorem ot_mulB {c : Cfg} : OpT c (rMulB c.K) dMulB := fun ρ S H x y dx dy Q Ew r h1 h2 q => by
  unfold dMulB at q
  split at q
  · rename_i i k
    have h2 : y = V.int k := by unfold Is at h2; exact h2
    split at q
    · rename_i xs es
      split at q
      · rename_i hz
        obtain ⟨a, vs, rfl, ea, e1, il⟩ := lst_ref r h1 es
        exact .inr ⟨a, k, vs, rfl, h2, e1, hz.1, hz.2.1, by rw [← il.length]; exact hz.2.2, fun p hp => Post.new r q (il.rep _) hp⟩
      · exact q.elim
    · exact q.elim
  · exact .inl (ot_mul ρ S H x y dx dy Q Ew r h1 h2 q)

/-! ### slices of tuples, lists, texts -/
section
variable {X : Cx} {T : List Addr} {E : WK} {a e : Expr} {ma : MD}
def cutA (S : Sto) : D → Option Int → Option Int → R D := fun d l u => match d with
  | .tup xs => .ok (.tup (cutD xs l u)) S
  | .str z => if z.length ≤ sizeLine then .ok (.str (Txt.slice z l u)) S else .stuck
  | d => match lstOf S d with
    | some xs => .ok (.ref S.length) (S ++ [.lst (cutD xs l u)])
    | none => .stuck
def msl (m : MD) (lo hi : MO') : MD := fun env => bnd (m env) fun d => bnd (lo env) fun l => bnd (hi env) fun u S => cutA S d l u
def rSlAll (K : PySem.W.Frag) : V → Option Int → Option Int → Hp → VK → Prop := fun x lo hi H Q => rSlA K x lo hi H Q ∨ (rSlL K x lo hi H Q ∨ C8.rSlX x lo hi H Q)
theorem sl_all : SlR X (rSlAll X.K) := sl_tupA.or (sl_list.or C8.sl_txt)
theorem ce_sl {lo hi : Option Expr} {mlo mhi : MO'} {pos p2 : Pos} (ha : CE X T E a ma) (hl : CO X T E lo mlo) (hh : CO X T E hi mhi) : CE X T E (.Subscript a (.Slice lo hi none p2) pos) (msl ma mlo mhi) := by
  obtain ⟨t, p, ht⟩ := ha.ex
  obtain ⟨tl, pl, htl⟩ := hl.ex
  obtain ⟨th, ph, hth⟩ := hh.ex
  refine ⟨_, pe_slice sl_all p pl ph, fun ρ S H σ env Q r en h => ?_⟩
  refine ht ρ S H σ env _ r en ((wp_bnd h).mono (fun d S1 h1 v H1 ρ1 r1 x1 i1 => ?_) fun _ _ z => z)
  refine htl ρ1 S1 H1 σ env _ r1 (en.ext x1) ((wp_bnd h1).mono (fun l S2 h2 H2 ρ2 r2 x2 => ?_) fun _ _ z => z.ext x1)
  refine hth ρ2 S2 H2 σ env _ r2 ((en.ext x1).ext x2) ((wp_bnd h2).mono (fun u S3 h3 H3 ρ3 r3 x3 => ?_) fun _ _ z => z.ext (x1.trans x2))
  have i3 := i1.ext (x2.trans x3)
  have xx : Ext (cf X T) ρ H ρ3 H3 := x1.trans (x2.trans x3)
  have lst : ∀ ys, lstOf S3 d = some ys → Post (cf X T) ρ H Q (.ref S3.length) (S3 ++ [.lst (cutD ys l u)]) → rSlAll X.K v l u H3 Q := fun ys e hp => by
    obtain ⟨b, vs, rfl, hs, il⟩ := lstOf_ref r3 i3 e
    exact .inr (.inl ⟨b, vs, rfl, hs, fun q hq => (hp.ext xx).new r3 (cut_is il l u) hq⟩)
  have lst2 : (R.wp (match lstOf S3 d with | some xs => .ok (.ref S3.length) (S3 ++ [.lst (cutD xs l u)]) | none => .stuck) (Post (cf X T) ρ H Q) (XPost (cf X T) ρ H (E σ))) → rSlAll X.K v l u H3 Q := fun h => by
    split at h
    · rename_i ys e
      exact lst ys e h
    · exact h.elim
  cases d with
  | tup xs =>
    have i4 := i3
    unfold Is at i3
    obtain ⟨b, vs, rfl, hs, il⟩ := i3
    have il2 := cut_is il l u
    refine .inl ⟨b, vs, rfl, hs, fun hw => ?_, fun _ q hq => ?_⟩
    · refine h3 _ H3 ρ3 r3 xx ?_
      unfold Is
      rw [cutV_whole hw] at il2
      exact ⟨b, vs, rfl, hs, il2⟩
    · exact (Post.ext xx h3).newT r3 il2 hq
  | str z =>
    unfold Is at i3
    unfold cutA at h3
    simp only at h3
    split at h3
    · rename_i hz
      exact .inr (.inr ⟨z, i3, hz, h3 _ H3 ρ3 r3 xx is_str⟩)
    · exact h3.elim
  | frz xs => exact lst2 h3
  | ref i => exact lst2 h3
  | non => exact lst2 h3
  | bl i => exact lst2 h3
  | int i => exact lst2 h3
  | ty i => exact lst2 h3
  | adr i => exact lst2 h3

/-! ### for over a tuple or a list -/
def seqW (S : Sto) : D → R Walked := fun d => match d with
  | .tup xs => .ok (xs, fun _ => True) S
  | .frz xs => .ok (xs, fun _ => True) S
  | .ref i => match S[i]? with
    | some (.lst xs) => .ok (xs, fun S' => S'[i]? = some (.lst xs)) S
    | none => .stuck
  | _ => .stuck
def iany (m : MD) : MI := fun env => bnd (m env) fun d S => seqW S d
theorem pi_or {tg iter : Expr} {t u : TI} (h : PI X tg iter t) (h' : PI X tg iter u) : PI X tg iter (fun σ H Q => t σ H Q ∨ u σ H Q) :=
  ⟨fun pins s σ H R I q => q.elim (h.run pins s σ H R I) (h'.run pins s σ H R I)⟩
theorem ci_any {tg : Expr} (h : CE X T E e ma) : CI X T E tg e (iany ma) := by
  obtain ⟨t1, p1, h1⟩ := (ci_tup (tg := tg) h).ex
  obtain ⟨t2, p2, h2⟩ := (ci_list (tg := tg) h).ex
  refine ⟨_, pi_or p1 p2, fun ρ S H σ env Q r en hh => ?_⟩
  unfold iany bnd at hh
  cases e : ma env S with
  | stuck => rw [e] at hh; exact hh.elim
  | exc x S1 =>
    refine .inl (h1 ρ S H σ env Q r en ?_)
    unfold itup bnd
    rw [e] at hh ⊢
    exact hh
  | ok d S1 =>
    rw [e] at hh
    simp only at hh
    cases d with
    | tup xs =>
      refine .inl (h1 ρ S H σ env Q r en ?_)
      unfold itup bnd
      rw [e]
      exact hh
    | frz xs =>
      refine .inr (h2 ρ S H σ env Q r en ?_)
      unfold ilst bnd
      rw [e]
      exact hh
    | ref i =>
      refine .inr (h2 ρ S H σ env Q r en ?_)
      unfold ilst bnd
      rw [e]
      exact hh
    | _ => exact hh.elim
end

/-! ### short names for what gen.py prints -/
abbrev dLt := dIB fun i j => decide (i < j)
abbrev dLe := dIB fun i j => decide (i ≤ j)
abbrev dGt := dIB fun i j => decide (j < i)
abbrev dGe := dIB fun i j => decide (j ≤ i)
abbrev dSub := dI fun i j => i - j
theorem ot_lt {c : Cfg} : OpT c (rI0 fun i j => .bl (decide (i < j))) dLt := ot_cmp _
theorem ot_le {c : Cfg} : OpT c (rI0 fun i j => .bl (decide (i ≤ j))) dLe := ot_cmp _
theorem ot_gt {c : Cfg} : OpT c (rI0 fun i j => .bl (decide (j < i))) dGt := ot_cmp _
theorem ot_ge {c : Cfg} : OpT c (rI0 fun i j => .bl (decide (j ≤ i))) dGe := ot_cmp _
theorem op_inA {X : Cx} : OpR X (compareOp .In) (rIn X.K false) := op_in_seq
theorem op_notinA {X : Cx} : OpR X (compareOp .NotIn) (rIn X.K true) := op_notIn_seq
theorem ce_gI {X : Cx} {T : List Addr} {E : WK} {x : Str} {i : Int} {pos : Pos} (hg : Gl X x) (hm : ∃ t, X.mg x = some (.int i t)) (hd : (x == ("__debug__" : Str)) = false := by decide) : CE X T E (.Name x pos) (mcon (.int i)) :=
  let ⟨_, h⟩ := hm; ce_globI hg h hd
end Ti
/-! Store functions in plain Lean: loops, comprehensions, places that stay. -/
namespace Ti
open PySem PySem.Spec L2

/-! ### a walked tuple -/
theorem iany_tup {m : MD} {env : Slots} {S S' : Sto} {xs : List D} (h : m env S = .ok (.tup xs) S') : iany m env S = .ok (xs, fun _ => True) S' := by
  unfold iany bnd; rw [h]; rfl
theorem mall_pure {α : Type} {enc : α → D} {mi : MI} {i : Nat} {me : MD} {env : Slots} {S S1 : Sto} {l : List α} {p : α → Bool} {vs : List Nat} (h : mi env S = .ok (l.map enc, fun _ => True) S1)
    (he : ∀ x ∈ l, me ((wipeE env vs).set i (some (enc x))) S1 = .ok (.bl (p x)) S1) : mall mi (gnam i) mtrue me vs env S = .ok (.bl (l.all p)) S1 := by
  unfold mall bnd
  rw [h]
  simp only
  clear h
  induction l with
  | nil => unfold allLoop; simp
  | cons x xs ih =>
    rw [List.map_cons]
    unfold allLoop
    simp only [if_true]
    have h1 := he x List.mem_cons_self
    simp only [bndx, gnam, mtrue, if_true, h1]
    cases hp : p x with
    | true => simp [hp]; exact ih fun y hy => he y (List.mem_cons_of_mem _ hy)
    | false => simp [hp]

/-! ### comprehensions -/
/-- each element a function of its item; what is left behind in the store does not matter -/
theorem comp_g {α : Type} {enc : α → D} {P : Sto → Prop} {i : Nat} {me : MD} {env : Slots} {f : α → D} (hP : ∀ S, P S) : ∀ (l : List α), (∀ x ∈ l, ∀ S, ∃ gb, me (env.set i (some (enc x))) S = .ok (f x) (S ++ gb)) → ∀ (S : Sto) (acc : List D), acc.length + l.length ≤ sizeLine →
    ∃ gb, compLoop P (gnam i) mtrue me env (l.map enc) acc S = .ok (acc ++ l.map f) (S ++ gb)
  | [], he, S, acc, hl => ⟨[], by unfold compLoop; simp only [List.map_nil]; rw [if_pos (hP S)]; simp⟩
  | x :: xs, he, S, acc, hl => by
    obtain ⟨g1, h1⟩ := he x List.mem_cons_self S
    have hl' : acc.length + xs.length + 1 ≤ sizeLine := by simpa [Nat.add_assoc] using hl
    obtain ⟨g2, h2⟩ := comp_g hP xs (fun y hy => he y (List.mem_cons_of_mem _ hy)) (S ++ g1) (acc ++ [f x]) (by simp; omega)
    refine ⟨g1 ++ g2, ?_⟩
    rw [List.map_cons]
    unfold compLoop
    rw [if_pos (hP S)]
    simp only [bndx, gnam, mtrue, if_true, h1]
    rw [if_pos (by omega), h2]
    simp
theorem mcomp_g {α : Type} {enc : α → D} {mi : MI} {i : Nat} {me : MD} {env : Slots} {S S1 : Sto} {l : List α} {f : α → D} {vs : List Nat} (h : mi env S = .ok (l.map enc, fun _ => True) S1) (hl : l.length ≤ sizeLine)
    (he : ∀ x ∈ l, ∀ S, ∃ gb, me ((wipeE env vs).set i (some (enc x))) S = .ok (f x) (S ++ gb)) : ∃ gb, mcomp mi (gnam i) mtrue me vs env S = .ok (l.map f) (S1 ++ gb) := by
  obtain ⟨gb, h2⟩ := comp_g (P := fun _ => True) (fun _ => trivial) l he S1 [] (by simpa using hl)
  refine ⟨gb, ?_⟩
  unfold mcomp bnd
  rw [h]
  simpa using h2
/-- each element of a kind, the store under an invariant -/
theorem comp_inv {P : Sto → Prop} {i : Nat} {me : MD} {env : Slots} {I : Sto → Prop} {G : D → Prop} (hP : ∀ S, I S → P S) : ∀ (xs : List D), (∀ x ∈ xs, ∀ S, I S → ∃ y S', me (env.set i (some x)) S = .ok y S' ∧ G y ∧ I S') → ∀ (S : Sto) (acc : List D), I S → acc.length + xs.length ≤ sizeLine →
    ∃ ys S', compLoop P (gnam i) mtrue me env xs acc S = .ok (acc ++ ys) S' ∧ ys.length = xs.length ∧ (∀ y ∈ ys, G y) ∧ I S'
  | [], he, S, acc, h0, hl => ⟨[], S, by unfold compLoop; rw [if_pos (hP S h0)]; simp, rfl, fun _ h => by simp at h, h0⟩
  | x :: xs, he, S, acc, h0, hl => by
    obtain ⟨y, S1, h1, hg, i1⟩ := he x List.mem_cons_self S h0
    have hl' : acc.length + xs.length + 1 ≤ sizeLine := by simpa [Nat.add_assoc] using hl
    obtain ⟨ys, S2, h2, e2, g2, i2⟩ := comp_inv hP xs (fun y hy => he y (List.mem_cons_of_mem _ hy)) S1 (acc ++ [y]) i1 (by simp; omega)
    refine ⟨y :: ys, S2, ?_, by simp [e2], fun z hz => ?_, i2⟩
    · unfold compLoop
      rw [if_pos (hP S h0)]
      simp only [bndx, gnam, mtrue, if_true, h1]
      rw [if_pos (by omega), h2]
      simp
    · rcases List.mem_cons.mp hz with rfl | hz
      · exact hg
      · exact g2 z hz

/-! ### for -/
theorem for_inv {P : Sto → Prop} {g : MG} {body : MS} {I : Slots → Sto → Prop} (hP : ∀ env S, I env S → P S) : ∀ (xs : List D), (∀ x ∈ xs, ∀ env S, I env S → ∃ env1, g x env S = .ok env1 S ∧ ∃ env2 S2, (body env1 S = .nx env2 S2 ∨ body env1 S = .bk env2 S2) ∧ I env2 S2) →
    ∀ env S, I env S → ∃ env' S', forLoop P g body xs env S = .nx env' S' ∧ I env' S'
  | [], he, env, S, h0 => ⟨env, S, by unfold forLoop; rw [if_pos (hP env S h0)], h0⟩
  | x :: xs, he, env, S, h0 => by
    obtain ⟨env1, h1, env2, S2, h2, i2⟩ := he x List.mem_cons_self env S h0
    have step : forLoop P g body (x :: xs) env S = match body env1 S with
        | .nx e s => forLoop P g body xs e s
        | .ct e s => forLoop P g body xs e s
        | .bk e s => .nx e s
        | r => r := by
      conv => lhs; unfold forLoop
      rw [if_pos (hP env S h0), h1]
      try rfl
    rw [step]
    rcases h2 with h2 | h2
    · rw [h2]
      exact for_inv hP xs (fun y hy => he y (List.mem_cons_of_mem _ hy)) env2 S2 i2
    · rw [h2]
      exact ⟨env2, S2, rfl, i2⟩

/-- .. with a count of the turns -/
theorem for_idx {P : Sto → Prop} {g : MG} {body : MS} {I : Nat → Slots → Sto → Prop} (hP : ∀ n env S, I n env S → P S) : ∀ (xs : List D) (n : Nat), (∀ x ∈ xs, ∀ m env S, m < n + xs.length → I m env S → ∃ env1, g x env S = .ok env1 S ∧ ∃ env2 S2, (body env1 S = .nx env2 S2 ∨ body env1 S = .bk env2 S2) ∧ I (m + 1) env2 S2) →
    ∀ env S, I n env S → ∃ m env' S', m ≤ n + xs.length ∧ forLoop P g body xs env S = .nx env' S' ∧ I m env' S'
  | [], n, he, env, S, h0 => ⟨n, env, S, Nat.le_refl _, by unfold forLoop; rw [if_pos (hP n env S h0)], h0⟩
  | x :: xs, n, he, env, S, h0 => by
    obtain ⟨env1, h1, env2, S2, h2, i2⟩ := he x List.mem_cons_self n env S (by simp) h0
    have step : forLoop P g body (x :: xs) env S = match body env1 S with
        | .nx e s => forLoop P g body xs e s
        | .ct e s => forLoop P g body xs e s
        | .bk e s => .nx e s
        | r => r := by
      conv => lhs; unfold forLoop
      rw [if_pos (hP n env S h0), h1]
      try rfl
    rw [step]
    rcases h2 with h2 | h2
    · rw [h2]
      obtain ⟨m, e, s, hm, h3, h4⟩ := for_idx hP xs (n + 1) (fun y hy m env S hm hi => he y (List.mem_cons_of_mem _ hy) m env S (by simp only [List.length_cons]; omega) hi) env2 S2 i2
      exact ⟨m, e, s, by simp only [List.length_cons]; omega, h3, h4⟩
    · rw [h2]
      exact ⟨n + 1, env2, S2, by simp only [List.length_cons]; omega, rfl, i2⟩
theorem sfor_ok {mi : MI} {g : MG} {body : MS} {env : Slots} {S S1 : Sto} {xs : List D} {P : Sto → Prop} (h : mi env S = .ok (xs, P) S1) : sfor mi g body env S = forLoop P g body xs env S1 := by
  unfold sfor lft
  rw [h]

/-! ### the store but for the list at i -/
structure But (i : Nat) (S S' : Sto) : Prop where
  le : S.length ≤ S'.length
  at_ : ∀ j, j < S.length → j ≠ i → S'[j]? = S[j]?
theorem But.refl {i : Nat} {S : Sto} : But i S S := ⟨Nat.le_refl _, fun _ _ _ => rfl⟩
theorem But.trans {i : Nat} {S S1 S2 : Sto} (a : But i S S1) (b : But i S1 S2) : But i S S2 := ⟨Nat.le_trans a.le b.le, fun j h n => (b.at_ j (Nat.lt_of_lt_of_le h a.le) n).trans (a.at_ j h n)⟩
theorem But.set {i : Nat} {S : Sto} {o : MO} : But i S (S.set i o) := ⟨by simp, fun j h n => List.getElem?_set_ne (Ne.symm n)⟩
theorem But.app {i : Nat} {S g : Sto} : But i S (S ++ g) := ⟨by simp, fun j h n => List.getElem?_append_left h⟩
theorem app_at {i : Nat} {S g : Sto} {o : MO} (h : S[i]? = some o) : (S ++ g)[i]? = some o := by
  rw [List.getElem?_append_left (List.getElem?_eq_some_iff.mp h).1]; exact h

/-! ### steps -/
def R.and_ {α β : Type} (r : R α) (k : α → Sto → R β) : R β := match r with
  | .ok a S => k a S
  | .exc e S => .exc e S
  | .stuck => .stuck
theorem and_ok {α β : Type} {a : α} {S : Sto} {k : α → Sto → R β} : (R.ok a S).and_ k = k a S := id rfl
theorem and_exc {α β : Type} {a : Ex} {S : Sto} {k : α → Sto → R β} : (R.exc a S).and_ k = .exc a S := id rfl
theorem and_ite {α β : Type} {c : Prop} [Decidable c] {a b : R α} {k : α → Sto → R β} : (if c then a else b).and_ k = if c then a.and_ k else b.and_ k := by by_cases h : c <;> simp [h]
theorem bnd_and {α β : Type} {m : Sto → R α} {k : α → Sto → R β} {S : Sto} : bnd m k S = (m S).and_ k := id rfl
def SR.and_ (r : SR) (n : MS) : SR := match r with
  | .nx e s => n e s
  | r => r
theorem sand_nx {e : Slots} {S : Sto} {n : MS} : (SR.nx e S).and_ n = n e S := id rfl
theorem sand_rt {d : D} {S : Sto} {n : MS} : (SR.rt d S).and_ n = .rt d S := id rfl
theorem sand_bk {e : Slots} {S : Sto} {n : MS} : (SR.bk e S).and_ n = .bk e S := id rfl
theorem sand_ct {e : Slots} {S : Sto} {n : MS} : (SR.ct e S).and_ n = .ct e S := id rfl
theorem sseq_and {m n : MS} {env : Slots} {S : Sto} : sseq m n env S = (m env S).and_ n := by unfold sseq SR.and_; cases m env S <;> rfl
def R.up {α : Type} (r : R α) (env : Slots) (k : α → Sto → SR) : SR := match r with
  | .ok a S => k a S
  | .exc e S => .exc env e S
  | .stuck => .stuck
theorem up_ok {α : Type} {a : α} {S : Sto} {env : Slots} {k : α → Sto → SR} : (R.ok a S).up env k = k a S := id rfl
theorem up_exc {α : Type} {a : Ex} {S : Sto} {env : Slots} {k : α → Sto → SR} : (R.exc a S).up env k = .exc env a S := id rfl
theorem lft_up {α : Type} {env : Slots} {m : Sto → R α} {k : α → Sto → SR} {S : Sto} : lft env m k S = (m S).up env k := id rfl
theorem lftx_ok {α : Type} {m : Sto → R α} {k : α → Sto → SR} {S S' : Sto} {a : α} (h : m S = .ok a S') : lftx m k S = k a S' := by unfold lftx; rw [h]
theorem sasg_nam {m : MD} {i : Nat} {env : Slots} {S : Sto} : sasg m (gnam i) env S = (m env S).up env fun d S => .nx (env.set i (some d)) S := by
  unfold sasg lft R.up
  cases m env S <;> rfl
theorem sret_up {m : MD} {env : Slots} {S : Sto} : sret m env S = (m env S).up env fun d S => .rt d S := id rfl
theorem sexp_up {m : MD} {env : Slots} {S : Sto} : sexp m env S = (m env S).up env fun _ S => .nx env S := id rfl
theorem sif_up {c : MB} {m n : MS} {env : Slots} {S : Sto} : sif c m n env S = (c env S).up env fun k S => if k = true then m env S else n env S := id rfl
def SR.done : SR → R D
  | .nx _ S => .ok .non S
  | .rt d S => .ok d S
  | .exc _ e S => .exc e S
  | _ => .stuck
theorem done_nx {e : Slots} {S : Sto} : (SR.nx e S).done = .ok .non S := id rfl
theorem done_rt {d : D} {S : Sto} : (SR.rt d S).done = .ok d S := id rfl
theorem done_exc {e : Slots} {x : Ex} {S : Sto} : (SR.exc e x S).done = .exc x S := id rfl
theorem run_done {n : Nat} {m : MS} {ds : List D} {S : Sto} : runDef n m ds S = (m (ds.map some ++ List.replicate (n - ds.length) none) S).done := by unfold runDef SR.done; cases m _ S <;> rfl
theorem ite_and {p : Prop} [Decidable p] {b : Bool} {S : Sto} : (if p then R.ok (D.bl b) S else R.ok (D.bl false) S) = R.ok (D.bl (decide p && b)) S := by by_cases h : p <;> simp [h]
theorem ite_or {p : Prop} [Decidable p] {b : Bool} {S : Sto} : (if p then R.ok (D.bl true) S else R.ok (D.bl b) S) = R.ok (D.bl (decide p || b)) S := by by_cases h : p <;> simp [h]
theorem ite_andB {p : Prop} [Decidable p] {b : Bool} {S : Sto} : (if p then R.ok b S else R.ok false S) = R.ok (decide p && b) S := by by_cases h : p <;> simp [h]
theorem ite_orB {p : Prop} [Decidable p] {b : Bool} {S : Sto} : (if p then R.ok true S else R.ok b S) = R.ok (decide p || b) S := by by_cases h : p <;> simp [h]
def R.tru (r : R D) : R Bool := match r with
  | .ok d S => (match truD S d with | some b => .ok b S | none => .stuck)
  | .exc e S => .exc e S
  | .stuck => .stuck
theorem mtru_tru {m : MD} {env : Slots} {S : Sto} : mtru m env S = (m env S).tru := by unfold mtru bnd R.tru; cases m env S <;> rfl
theorem tru_bl {b : Bool} {S : Sto} : (R.ok (D.bl b) S).tru = .ok b S := id rfl
theorem tru_tup {xs : List D} {S : Sto} : (R.ok (D.tup xs) S).tru = .ok (!xs.isEmpty) S := id rfl
def R.tst (r : R D) : R Bool := match r with
  | .ok (.bl b) S => .ok b S
  | .exc e S => .exc e S
  | _ => .stuck
theorem mtst_tst {m : MD} {env : Slots} {S : Sto} : mtst m env S = (m env S).tst := by
  unfold mtst bnd R.tst
  cases m env S with
  | ok d S => cases d <;> rfl
  | exc e S => rfl
  | stuck => rfl
theorem tst_bl {b : Bool} {S : Sto} : (R.ok (D.bl b) S).tst = .ok b S := id rfl
/-! ### comparisons of flat data -/
theorem dEq_int (a b : Int) (S : Sto) : dEq (.int a) (.int b) S = .ok (.bl (decide (a = b))) S := by
  unfold dEq pyS pyD
  simp only
  rw [if_pos ⟨by rfl, by rfl⟩]
  congr 2
end Ti
namespace K12
open PySem PySem.Spec PyProof.Rows L2 GxR Gx Ti
def top (i : Nat) : Stmt := PySem.Challenge.pw_coheir_k12_programs_and_what_is_none.main.body.getD i (.Pass ⟨0, 0, 0, 0⟩)
structure Txt (K : PySem.W.Frag) (mg : Str → Option Value) (a_is_within a_is_tuple_of a_is_line a_is_instruction a_is_core a_is_program a_check_program a__law_number a__law_draws a__law_next a__law_pick a__law_put a__law_one a__law_program a__law_more a__law_any_program a__law_is_one a__law_is_program a__law_spoilt a__law_asked a__law_bounds_hold a_law C_BadNumber C_CoheirError C_NotObservation C_NotProgram C_NotTable : Addr) : Prop where
  b_all : mg "all" = none
  b_any : mg "any" = none
  b_int : mg "int" = none
  b_isinstance : mg "isinstance" = none
  b_len : mg "len" = none
  b_list : mg "list" = none
  b_range : mg "range" = none
  b_repr : mg "repr" = none
  b_tuple : mg "tuple" = none
  b_type : mg "type" = none
  c_MOST_CORES : ∃ t, mg "MOST_CORES" = some (.int 12 t)
  c_MOST_INSTRUCTIONS : ∃ t, mg "MOST_INSTRUCTIONS" = some (.int 24 t)
  c_MOST_LINE : ∃ t, mg "MOST_LINE" = some (.int 3 t)
  c_MOST_VALUE : ∃ t, mg "MOST_VALUE" = some (.int 99 t)
  g_is_within : mg "is_within" = some (.ref a_is_within)
  k_is_within : PySem.W.keepIn K (.ref a_is_within) = true
  g_is_tuple_of : mg "is_tuple_of" = some (.ref a_is_tuple_of)
  k_is_tuple_of : PySem.W.keepIn K (.ref a_is_tuple_of) = true
  g_is_line : mg "is_line" = some (.ref a_is_line)
  k_is_line : PySem.W.keepIn K (.ref a_is_line) = true
  g_is_instruction : mg "is_instruction" = some (.ref a_is_instruction)
  k_is_instruction : PySem.W.keepIn K (.ref a_is_instruction) = true
  g_is_core : mg "is_core" = some (.ref a_is_core)
  k_is_core : PySem.W.keepIn K (.ref a_is_core) = true
  g_is_program : mg "is_program" = some (.ref a_is_program)
  k_is_program : PySem.W.keepIn K (.ref a_is_program) = true
  g_check_program : mg "check_program" = some (.ref a_check_program)
  k_check_program : PySem.W.keepIn K (.ref a_check_program) = true
  g__law_number : mg "_law_number" = some (.ref a__law_number)
  k__law_number : PySem.W.keepIn K (.ref a__law_number) = true
  g__law_draws : mg "_law_draws" = some (.ref a__law_draws)
  k__law_draws : PySem.W.keepIn K (.ref a__law_draws) = true
  g__law_next : mg "_law_next" = some (.ref a__law_next)
  k__law_next : PySem.W.keepIn K (.ref a__law_next) = true
  g__law_pick : mg "_law_pick" = some (.ref a__law_pick)
  k__law_pick : PySem.W.keepIn K (.ref a__law_pick) = true
  g__law_put : mg "_law_put" = some (.ref a__law_put)
  k__law_put : PySem.W.keepIn K (.ref a__law_put) = true
  g__law_one : mg "_law_one" = some (.ref a__law_one)
  k__law_one : PySem.W.keepIn K (.ref a__law_one) = true
  g__law_program : mg "_law_program" = some (.ref a__law_program)
  k__law_program : PySem.W.keepIn K (.ref a__law_program) = true
  g__law_more : mg "_law_more" = some (.ref a__law_more)
  k__law_more : PySem.W.keepIn K (.ref a__law_more) = true
  g__law_any_program : mg "_law_any_program" = some (.ref a__law_any_program)
  k__law_any_program : PySem.W.keepIn K (.ref a__law_any_program) = true
  g__law_is_one : mg "_law_is_one" = some (.ref a__law_is_one)
  k__law_is_one : PySem.W.keepIn K (.ref a__law_is_one) = true
  g__law_is_program : mg "_law_is_program" = some (.ref a__law_is_program)
  k__law_is_program : PySem.W.keepIn K (.ref a__law_is_program) = true
  g__law_spoilt : mg "_law_spoilt" = some (.ref a__law_spoilt)
  k__law_spoilt : PySem.W.keepIn K (.ref a__law_spoilt) = true
  g__law_asked : mg "_law_asked" = some (.ref a__law_asked)
  k__law_asked : PySem.W.keepIn K (.ref a__law_asked) = true
  g__law_bounds_hold : mg "_law_bounds_hold" = some (.ref a__law_bounds_hold)
  k__law_bounds_hold : PySem.W.keepIn K (.ref a__law_bounds_hold) = true
  g_law : mg "law" = some (.ref a_law)
  k_law : PySem.W.keepIn K (.ref a_law) = true
  g_BadNumber : mg "BadNumber" = some (.ref C_BadNumber)
  g_CoheirError : mg "CoheirError" = some (.ref C_CoheirError)
  g_NotObservation : mg "NotObservation" = some (.ref C_NotObservation)
  g_NotProgram : mg "NotProgram" = some (.ref C_NotProgram)
  g_NotTable : mg "NotTable" = some (.ref C_NotTable)
  x_NotProgram : PySem.W.excIn K C_NotProgram [.type "ValueError", .type "Exception", .type "BaseException", .type "object"] "ValueError.__new__" = true
  k_NotProgram : PySem.W.keepIn K (.ref C_NotProgram) = true
  s_NotProgram : PySem.W.subIn K (.ref C_NotProgram) (.type "BaseException") = some true
  t_NotProgram : PySem.W.typeIn K (.ref C_NotProgram) = some (.type "type")
  m_NotProgram_CoheirError : PySem.W.exmOne K (.ref C_NotProgram) (.ref C_CoheirError) = some true
  e_NotProgram : ExcC K C_NotProgram
  i_NotProgram_BadNumber : PySem.W.kitOne K (.ref C_NotProgram) (.ref C_BadNumber) = some false
  i_NotProgram_NotObservation : PySem.W.kitOne K (.ref C_NotProgram) (.ref C_NotObservation) = some false
  i_NotProgram_NotProgram : PySem.W.kitOne K (.ref C_NotProgram) (.ref C_NotProgram) = some true
  i_NotProgram_NotTable : PySem.W.kitOne K (.ref C_NotProgram) (.ref C_NotTable) = some false
noncomputable def m_is_within : MS :=
  (sret (mandV (mop (dIs false) (mbi bTy (mcons (mvar 0) mnil)) (mcon (.ty "int"))) (mchain dLe dLe (mvar 1) (mvar 0) (mvar 2))))
noncomputable def s_is_within : List D → Sto → R D := runDef 3 (m_is_within)
noncomputable def m_is_tuple_of : MS :=
  (sret (mandV (mbi bIsi (mcons (mvar 0) (mcons (mcon (.ty "tuple")) mnil))) (mop dEq (mbi bLen (mcons (mvar 0) mnil)) (mvar 1))))
noncomputable def s_is_tuple_of : List D → Sto → R D := runDef 2 (m_is_tuple_of)
noncomputable def m_is_line : MS :=
  (sret (mcall 3 s_is_within (mcons (mvar 0) (mcons (mcon (.int 0)) (mcons (mcon (.int 3)) mnil)))))
noncomputable def s_is_line : List D → Sto → R D := runDef 1 (m_is_line)
noncomputable def m_is_instruction : MS :=
  (sseq (sif (mtru (mcall 2 s_is_tuple_of (mcons (mvar 0) (mcons (mcon (.int 1)) mnil)))) (sret (mop dEq (mop dIx (mvar 0) (mcon (.int 0))) (mcon (.str ("fence" : Str))))) snil)
  (sseq (sif (mtru (mcall 2 s_is_tuple_of (mcons (mvar 0) (mcons (mcon (.int 2)) mnil)))) (sret (mandV (mop dEq (mop dIx (mvar 0) (mcon (.int 0))) (mcon (.str ("load" : Str)))) (mcall 1 s_is_line (mcons (mop dIx (mvar 0) (mcon (.int 1))) mnil)))) snil)
  (sseq (sif (morT (mnotT (mtru (mcall 2 s_is_tuple_of (mcons (mvar 0) (mcons (mcon (.int 3)) mnil))))) (mtst (mop (dIn true) (mop dIx (mvar 0) (mcon (.int 0))) (mtup (mcons (mcon (.str ("store" : Str))) (mcons (mcon (.str ("swap" : Str))) mnil)))))) (sret (mcon (.bl false))) snil)
  (sret (mandV (mcall 1 s_is_line (mcons (mop dIx (mvar 0) (mcon (.int 1))) mnil)) (mcall 3 s_is_within (mcons (mop dIx (mvar 0) (mcon (.int 2))) (mcons (mcon (.int 1)) (mcons (mcon (.int 99)) mnil)))))))))
noncomputable def s_is_instruction : List D → Sto → R D := runDef 1 (m_is_instruction)
noncomputable def m_is_core : MS :=
  (sseq (sif (morT (mnotT (mtru (mbi bIsi (mcons (mvar 0) (mcons (mcon (.ty "tuple")) mnil))))) (mtst (mop dGt (mbi bLen (mcons (mvar 0) mnil)) (mcon (.int 24))))) (sret (mcon (.bl false))) snil)
  (sret (mall (iany (mvar 0)) (gnam 1) mtrue (mcall 1 s_is_instruction (mcons (mvar 1) mnil)) [1])))
noncomputable def s_is_core : List D → Sto → R D := runDef 2 (m_is_core)
noncomputable def m_is_program : MS :=
  (sseq (sif (morT (mnotT (mtru (mbi bIsi (mcons (mvar 0) (mcons (mcon (.ty "tuple")) mnil))))) (mnotT (mtst (mchain dLe dLe (mcon (.int 1)) (mbi bLen (mcons (mvar 0) mnil)) (mcon (.int 12)))))) (sret (mcon (.bl false))) snil)
  (sret (mall (iany (mvar 0)) (gnam 1) mtrue (mcall 1 s_is_core (mcons (mvar 1) mnil)) [1])))
noncomputable def s_is_program : List D → Sto → R D := runDef 2 (m_is_program)
noncomputable def m_check_program (C_NotProgram : Addr) : MS :=
  (sif (mnotT (mtru (mcall 1 s_is_program (mcons (mvar 0) mnil)))) (sraise C_NotProgram) snil)
noncomputable def s_check_program (C_NotProgram : Addr) : List D → Sto → R D := runDef 1 (m_check_program C_NotProgram)
noncomputable def m__law_number : MS :=
  (sseq (sif (mtst (mop dLt (mvar 0) (mcon (.int 0)))) (sret (mop dSub (mcon (.int 0)) (mvar 0))) snil)
  (sret (mvar 0)))
noncomputable def s__law_number : List D → Sto → R D := runDef 1 (m__law_number)
noncomputable def m__law_draws : MS :=
  (sseq (sasg (mnew (mlist mnil)) (gnam 1))
  (sseq (sfor (iany (mvar 0)) (gnam 2) (sseq (sasg (mcall 1 s__law_number (mcons (mvar 2) mnil)) (gnam 3))
  (sif (mtst (mop dGe (mvar 3) (mcon (.int 1000000000000000000)))) (sfor (irng1 (mcon (.int 60))) (gnam 4) (sseq (sif (mtst (mop dEq (mvar 3) (mcon (.int 0)))) sbrk snil)
  (sseq (sexp (mmeth fAppend (mvar 1) (mcons (mop dMod (mbi bInt (mcons (mvar 3) mnil)) (mcon (.int 1000))) mnil)))
  (sasg (mop dDiv (mvar 3) (mcon (.int 1000))) (gnam 3))))) (sseq (sasg (mop dMod (mbi bInt (mcons (mop dAdd (mop dMulB (mvar 3) (mcon (.int 48271))) (mcon (.int 11))) mnil)) (mcon (.int 2147483647))) (gnam 5))
  (sseq (sasg (mop dMod (mbi bInt (mcons (mop dAdd (mop dMulB (mvar 5) (mcon (.int 69621))) (mvar 3)) mnil)) (mcon (.int 2147483629))) (gnam 6))
  (sexp (mmeth fExtend (mvar 1) (mcons (mnew (mlist (mcons (mop dMod (mbi bInt (mcons (mvar 3) mnil)) (mcon (.int 1000))) (mcons (mop dMod (mbi bInt (mcons (mvar 5) mnil)) (mcon (.int 1000))) (mcons (mop dMod (mbi bInt (mcons (mvar 6) mnil)) (mcon (.int 1000))) mnil))))) mnil))))))))
  (sseq (sexp (mmeth fRev (mvar 1) mnil))
  (sret (mvar 1)))))
noncomputable def s__law_draws : List D → Sto → R D := runDef 7 (m__law_draws)
noncomputable def m__law_next : MS :=
  (sseq (sif (mtru (mvar 0)) (sret (mmeth fPop (mvar 0) mnil)) snil)
  (sret (mcon (.int 0))))
noncomputable def s__law_next : List D → Sto → R D := runDef 1 (m__law_next)
noncomputable def m__law_pick : MS :=
  (sret (mop dIx (mvar 1) (mop dMod (mbi bInt (mcons (mcall 1 s__law_next (mcons (mvar 0) mnil)) mnil)) (mbi bLen (mcons (mvar 1) mnil)))))
noncomputable def s__law_pick : List D → Sto → R D := runDef 2 (m__law_pick)
noncomputable def m__law_put : MS :=
  (sret (mop dAdd (mop dAdd (msl (mvar 0) mno (mpart (mvar 1))) (mtup (mcons (mvar 2) mnil))) (msl (mvar 0) (mpart (mop dAdd (mvar 1) (mcon (.int 1)))) mno)))
noncomputable def s__law_put : List D → Sto → R D := runDef 3 (m__law_put)
noncomputable def m__law_one : MS :=
  (sseq (sasg (mop dMod (mbi bInt (mcons (mcall 1 s__law_next (mcons (mvar 0) mnil)) mnil)) (mcon (.int 8))) (gnam 2))
  (sseq (sasg (mop dMod (mbi bInt (mcons (mcall 1 s__law_next (mcons (mvar 0) mnil)) mnil)) (mvar 1)) (gnam 3))
  (sseq (sasg (mif (mtst (mop dEq (mop dMod (mbi bInt (mcons (mcall 1 s__law_next (mcons (mvar 0) mnil)) mnil)) (mcon (.int 3))) (mcon (.int 0)))) (mop dAdd (mcon (.int 1)) (mop dMod (mbi bInt (mcons (mcall 1 s__law_next (mcons (mvar 0) mnil)) mnil)) (mcon (.int 99)))) (mop dAdd (mcon (.int 1)) (mop dMod (mbi bInt (mcons (mcall 1 s__law_next (mcons (mvar 0) mnil)) mnil)) (mcon (.int 3))))) (gnam 4))
  (sseq (sif (mtst (mop dLt (mvar 2) (mcon (.int 3)))) (sret (mtup (mcons (mcon (.str ("load" : Str))) (mcons (mvar 3) mnil)))) snil)
  (sseq (sif (mtst (mop dLt (mvar 2) (mcon (.int 6)))) (sret (mtup (mcons (mcon (.str ("store" : Str))) (mcons (mvar 3) (mcons (mvar 4) mnil))))) snil)
  (sret (mif (mtst (mop dEq (mvar 2) (mcon (.int 6)))) (mtup (mcons (mcon (.str ("swap" : Str))) (mcons (mvar 3) (mcons (mvar 4) mnil)))) (mtup (mcons (mcon (.str ("fence" : Str))) mnil)))))))))
noncomputable def s__law_one : List D → Sto → R D := runDef 5 (m__law_one)
noncomputable def m__law_program : MS :=
  (sret (mbi bTup (mcons (mnew (mcomp (irng1 (mvar 1)) (gnam 4) mtrue (mbi bTup (mcons (mnew (mcomp (irng1 (mop dMod (mbi bInt (mcons (mcall 1 s__law_next (mcons (mvar 0) mnil)) mnil)) (mop dAdd (mvar 2) (mcon (.int 1))))) (gnam 5) mtrue (mcall 2 s__law_one (mcons (mvar 0) (mcons (mvar 3) mnil))) [5])) mnil)) [4])) mnil)))
noncomputable def s__law_program : List D → Sto → R D := runDef 6 (m__law_program)
noncomputable def m__law_more : MS :=
  (sseq (sasg (mop dAdd (mop dAdd (mop dMulB (mcon (.int 1000)) (mcall 1 s__law_next (mcons (mvar 0) mnil))) (mcall 1 s__law_next (mcons (mvar 0) mnil))) (mcon (.int 1))) (gnam 2))
  (sseq (sasg (mnew (mlist mnil)) (gnam 3))
  (sseq (sfor (irng1 (mvar 1)) (gnam 4) (sseq (sasg (mop dMod (mbi bInt (mcons (mop dAdd (mop dMulB (mvar 2) (mcon (.int 48271))) (mcon (.int 12345))) mnil)) (mcon (.int 2147483647))) (gnam 2))
  (sexp (mmeth fAppend (mvar 3) (mcons (mop dMod (mbi bInt (mcons (mop dDiv (mvar 2) (mcon (.int 7))) mnil)) (mcon (.int 1000))) mnil)))))
  (sret (mop dAdd (mvar 3) (mvar 0))))))
noncomputable def s__law_more : List D → Sto → R D := runDef 5 (m__law_more)
noncomputable def m__law_any_program : MS :=
  (sseq (sif (mtst (mop dEq (mop dMod (mbi bInt (mcons (mcall 1 s__law_next (mcons (mvar 0) mnil)) mnil)) (mcon (.int 8))) (mcon (.int 5)))) (sret (mcall 4 s__law_program (mcons (mcall 2 s__law_more (mcons (mvar 0) (mcons (mcon (.int 1200)) mnil))) (mcons (mcon (.int 12)) (mcons (mcon (.int 24)) (mcons (mcon (.int 4)) mnil)))))) snil)
  (sret (mcall 4 s__law_program (mcons (mvar 0) (mcons (mop dAdd (mcon (.int 1)) (mop dMod (mbi bInt (mcons (mcall 1 s__law_next (mcons (mvar 0) mnil)) mnil)) (mcon (.int 4)))) (mcons (mcon (.int 5)) (mcons (mcon (.int 4)) mnil)))))))
noncomputable def s__law_any_program : List D → Sto → R D := runDef 1 (m__law_any_program)
noncomputable def m__law_is_one : MS :=
  (sseq (sif (mtst (mop dEq (mop dIx (mvar 0) (mcon (.int 0))) (mcon (.str ("fence" : Str))))) (sret (mop dEq (mbi bLen (mcons (mvar 0) mnil)) (mcon (.int 1)))) snil)
  (sseq (sif (mtst (mop dEq (mop dIx (mvar 0) (mcon (.int 0))) (mcon (.str ("load" : Str))))) (sret (mandV (mop dEq (mbi bLen (mcons (mvar 0) mnil)) (mcon (.int 2))) (mop (dIn false) (mop dIx (mvar 0) (mcon (.int 1))) (mnew (mlist (mcons (mcon (.int 0)) (mcons (mcon (.int 1)) (mcons (mcon (.int 2)) (mcons (mcon (.int 3)) mnil))))))))) snil)
  (sret (mandV (mop (dIn false) (mop dIx (mvar 0) (mcon (.int 0))) (mnew (mlist (mcons (mcon (.str ("store" : Str))) (mcons (mcon (.str ("swap" : Str))) mnil))))) (mandV (mop dEq (mbi bLen (mcons (mvar 0) mnil)) (mcon (.int 3))) (mandV (mop (dIn false) (mop dIx (mvar 0) (mcon (.int 1))) (mnew (mlist (mcons (mcon (.int 0)) (mcons (mcon (.int 1)) (mcons (mcon (.int 2)) (mcons (mcon (.int 3)) mnil))))))) (mop (dIn false) (mop dIx (mvar 0) (mcon (.int 2))) (mnew (mlrg2 (mcon (.int 1)) (mcon (.int 100)))))))))))
noncomputable def s__law_is_one : List D → Sto → R D := runDef 1 (m__law_is_one)
noncomputable def m__law_is_program : MS :=
  (sseq (sif (morT (mtst (mop (dIn true) (mbi bLen (mcons (mvar 0) mnil)) (mnew (mlrg2 (mcon (.int 1)) (mcon (.int 13)))))) (mtru (mbi bAny (mcons (mnew (mcomp (iany (mvar 0)) (gnam 1) mtrue (mop dGt (mbi bLen (mcons (mvar 1) mnil)) (mcon (.int 24))) [1])) mnil)))) (sret (mcon (.bl false))) snil)
  (sret (mbi bAll (mcons (mnew (mcomp (iany (mvar 0)) (gnam 1) mtrue (mbi bAll (mcons (mnew (mcomp (iany (mvar 1)) (gnam 2) mtrue (mcall 1 s__law_is_one (mcons (mvar 2) mnil)) [2])) mnil)) [1])) mnil))))
noncomputable def s__law_is_program : List D → Sto → R D := runDef 3 (m__law_is_program)
noncomputable def m__law_spoilt : MS :=
  (sseq (sasg (mop dMod (mbi bInt (mcons (mcall 1 s__law_next (mcons (mvar 0) mnil)) mnil)) (mcon (.int 7))) (gnam 2))
  (sseq (sasg (mop dMod (mbi bInt (mcons (mcall 1 s__law_next (mcons (mvar 0) mnil)) mnil)) (mbi bLen (mcons (mvar 1) mnil))) (gnam 3))
  (sseq (sasg (mop dIx (mvar 1) (mvar 3)) (gnam 4))
  (sseq (sif (mtst (mop dEq (mvar 2) (mcon (.int 0)))) (sret (mop dAdd (mvar 1) (mop dMulB (mtup (mcons (mtup mnil) mnil)) (mop dMod (mbi bInt (mcons (mcall 1 s__law_next (mcons (mvar 0) mnil)) mnil)) (mcon (.int 13)))))) snil)
  (sseq (sif (mtst (mop dEq (mvar 2) (mcon (.int 1)))) (sret (mop dAdd (msl (mvar 1) mno (mpart (mvar 3))) (msl (mvar 1) (mpart (mop dAdd (mvar 3) (mcon (.int 1)))) mno))) snil)
  (sseq (sif (mtst (mop dEq (mvar 2) (mcon (.int 2)))) (sret (mcall 3 s__law_put (mcons (mvar 1) (mcons (mvar 3) (mcons (msl (mop dAdd (mvar 4) (mop dMulB (mtup (mcons (mtup (mcons (mcon (.str ("fence" : Str))) mnil)) mnil)) (mcon (.int 25)))) mno (mpart (mop dAdd (mcon (.int 24)) (mop dMod (mbi bInt (mcons (mcall 1 s__law_next (mcons (mvar 0) mnil)) mnil)) (mcon (.int 2)))))) mnil))))) snil)
  (sseq (sif (mnotT (mtru (mvar 4))) (sret (mcall 3 s__law_put (mcons (mvar 1) (mcons (mvar 3) (mcons (mtup (mcons (mtup (mcons (mcon (.str ("load" : Str))) mnil)) mnil)) mnil))))) snil)
  (sseq (sasg (mop dMod (mbi bInt (mcons (mcall 1 s__law_next (mcons (mvar 0) mnil)) mnil)) (mbi bLen (mcons (mvar 4) mnil))) (gnam 5))
  (sseq (sasg (mop dIx (mvar 4) (mvar 5)) (gnam 6))
  (sseq (sif (mtst (mop dEq (mvar 2) (mcon (.int 3)))) (sasg (mop dAdd (mtup (mcons (mcall 2 s__law_pick (mcons (mvar 0) (mcons (mnew (mlist (mcons (mcon (.str ("Load" : Str))) (mcons (mcon (.str ("" : Str))) (mcons (mcon (.str ("store " : Str))) (mcons (mcon (.str ("load" : Str))) (mcons (mcon (.str ("store" : Str))) (mcons (mcon (.str ("swap" : Str))) (mcons (mcon (.str ("fence" : Str))) (mcons (mcon (.str ("drain" : Str))) mnil)))))))))) mnil))) mnil)) (msl (mvar 6) (mpart (mcon (.int 1))) mno)) (gnam 6)) snil)
  (sseq (sif (mandT (mtst (mop dEq (mvar 2) (mcon (.int 4)))) (mtst (mop dGt (mbi bLen (mcons (mvar 6) mnil)) (mcon (.int 1))))) (sasg (mcall 3 s__law_put (mcons (mvar 6) (mcons (mcon (.int 1)) (mcons (mop dSub (mop dMod (mbi bInt (mcons (mcall 1 s__law_next (mcons (mvar 0) mnil)) mnil)) (mcon (.int 7))) (mcon (.int 2))) mnil)))) (gnam 6)) snil)
  (sseq (sif (mtst (mop dEq (mvar 2) (mcon (.int 5)))) (sasg (mop dAdd (msl (mvar 6) mno (mpart (mcon (.int 2)))) (mtup (mcons (mcall 2 s__law_pick (mcons (mvar 0) (mcons (mnew (mlist (mcons (mcon (.int 0)) (mcons (mneg (mcon (.int 1))) (mcons (mcon (.int 1)) (mcons (mcon (.int 99)) (mcons (mcon (.int 100)) (mcons (mcon (.int 101)) mnil)))))))) mnil))) mnil))) (gnam 6)) snil)
  (sseq (sif (mtst (mop dEq (mvar 2) (mcon (.int 6)))) (sasg (mcall 2 s__law_pick (mcons (mvar 0) (mcons (mnew (mlist (mcons (mif (mtst (mop dGt (mbi bLen (mcons (mvar 6) mnil)) (mcon (.int 1)))) (msl (mvar 6) mno (mpart (mneg (mcon (.int 1))))) (mop dAdd (mvar 6) (mtup (mcons (mcon (.int 0)) mnil)))) (mcons (msl (mvar 6) mno (mpart (mcon (.int 2)))) mnil)))) mnil))) (gnam 6)) snil)
  (sret (mcall 3 s__law_put (mcons (mvar 1) (mcons (mvar 3) (mcons (mcall 3 s__law_put (mcons (mvar 4) (mcons (mvar 5) (mcons (mvar 6) mnil)))) mnil))))))))))))))))))
noncomputable def s__law_spoilt : List D → Sto → R D := runDef 7 (m__law_spoilt)
noncomputable def m__law_asked (C_BadNumber : Addr) (C_NotObservation : Addr) (C_NotProgram : Addr) (C_NotTable : Addr) : MS :=
  (stry 1 [C_NotProgram] [] (sret (mcall 1 (s_check_program C_NotProgram) (mcons (mvar 0) mnil))) (fun a_ _ => (sseq (sasg (mnew (mlist (mcons (mbi (bIsE a_ [(C_BadNumber, false), (C_NotObservation, false), (C_NotProgram, true), (C_NotTable, false)]) (mcons (mvar 1) (mcons (mcon (.adr C_NotProgram)) mnil))) (mcons (mbi (bIsE a_ [(C_BadNumber, false), (C_NotObservation, false), (C_NotProgram, true), (C_NotTable, false)]) (mcons (mvar 1) (mcons (mcon (.adr C_NotTable)) mnil))) (mcons (mbi (bIsE a_ [(C_BadNumber, false), (C_NotObservation, false), (C_NotProgram, true), (C_NotTable, false)]) (mcons (mvar 1) (mcons (mcon (.adr C_BadNumber)) mnil))) (mcons (mbi (bIsE a_ [(C_BadNumber, false), (C_NotObservation, false), (C_NotProgram, true), (C_NotTable, false)]) (mcons (mvar 1) (mcons (mcon (.adr C_NotObservation)) mnil))) mnil)))))) (gnam 2))
  (sret (mif (mtst (mop dEq (mvar 2) (mnew (mlist (mcons (mcon (.bl true)) (mcons (mcon (.bl false)) (mcons (mcon (.bl false)) (mcons (mcon (.bl false)) mnil)))))))) (mtup (mcons (mcon (.str ("refused" : Str))) mnil)) (mtup (mcons (mcon (.str ("other" : Str))) mnil)))))))
noncomputable def s__law_asked (C_BadNumber : Addr) (C_NotObservation : Addr) (C_NotProgram : Addr) (C_NotTable : Addr) : List D → Sto → R D := runDef 3 (m__law_asked C_BadNumber C_NotObservation C_NotProgram C_NotTable)
noncomputable def m__law_bounds_hold : MS :=
  (sseq (sfor (inew (mlist (mcons (mneg (mcon (.int 1))) (mcons (mcon (.int 0)) (mcons (mcon (.int 1)) (mcons (mcon (.int 3)) (mcons (mcon (.int 4)) (mcons (mcon (.int 5)) (mcons (mcon (.int 99)) (mcons (mcon (.int 100)) mnil)))))))))) (gnam 0) (sseq (sfor (inew (mlist (mcons (mcon (.str ("store" : Str))) (mcons (mcon (.str ("swap" : Str))) mnil)))) (gnam 1) (sseq (sif (mtst (mop dNe (mbi bRepr (mcons (mcall 1 s_is_program (mcons (mtup (mcons (mtup (mcons (mtup (mcons (mvar 1) (mcons (mvar 0) (mcons (mcon (.int 1)) mnil)))) mnil)) mnil)) mnil)) mnil)) (mbi bRepr (mcons (mchain dLe dLt (mcon (.int 0)) (mvar 0) (mcon (.int 4))) mnil)))) (sret (mcon (.bl false))) snil)
  (sif (mtst (mop dNe (mbi bRepr (mcons (mcall 1 s_is_program (mcons (mtup (mcons (mtup (mcons (mtup (mcons (mvar 1) (mcons (mcon (.int 0)) (mcons (mvar 0) mnil)))) mnil)) (mcons (mtup mnil) mnil))) mnil)) mnil)) (mbi bRepr (mcons (mchain dLt dLt (mcon (.int 0)) (mvar 0) (mcon (.int 100))) mnil)))) (sret (mcon (.bl false))) snil)))
  (sif (mtst (mop dNe (mbi bRepr (mcons (mcall 1 s_is_program (mcons (mtup (mcons (mtup mnil) (mcons (mtup (mcons (mtup (mcons (mcon (.str ("load" : Str))) (mcons (mvar 0) mnil))) mnil)) mnil))) mnil)) mnil)) (mbi bRepr (mcons (mchain dLe dLt (mcon (.int 0)) (mvar 0) (mcon (.int 4))) mnil)))) (sret (mcon (.bl false))) snil)))
  (sseq (sif (mtst (mop dNe (mnew (mcomp (inew (mlist (mcons (mcon (.int 0)) (mcons (mcon (.int 1)) (mcons (mcon (.int 12)) (mcons (mcon (.int 13)) mnil)))))) (gnam 2) mtrue (mcall 1 s_is_program (mcons (mop dMulB (mtup (mcons (mtup mnil) mnil)) (mvar 2)) mnil)) [2])) (mnew (mlist (mcons (mcon (.bl false)) (mcons (mcon (.bl true)) (mcons (mcon (.bl true)) (mcons (mcon (.bl false)) mnil)))))))) (sret (mcon (.bl false))) snil)
  (sret (mop dEq (mnew (mcomp (inew (mlist (mcons (mcon (.int 0)) (mcons (mcon (.int 24)) (mcons (mcon (.int 25)) mnil))))) (gnam 2) mtrue (mcall 1 s_is_program (mcons (mtup (mcons (mop dMulB (mtup (mcons (mtup (mcons (mcon (.str ("load" : Str))) (mcons (mcon (.int 3)) mnil))) mnil)) (mvar 2)) mnil)) mnil)) [2])) (mnew (mlist (mcons (mcon (.bl true)) (mcons (mcon (.bl true)) (mcons (mcon (.bl false)) mnil)))))))))
noncomputable def s__law_bounds_hold : List D → Sto → R D := runDef 3 (m__law_bounds_hold)
noncomputable def m_law (C_BadNumber : Addr) (C_NotObservation : Addr) (C_NotProgram : Addr) (C_NotTable : Addr) : MS :=
  (sseq (sasg (mcall 1 s__law_draws (mcons (mvar 0) mnil)) (gnam 1))
  (sseq (sasg (mcall 1 s__law_any_program (mcons (mvar 1) mnil)) (gnam 2))
  (sseq (sif (morT (mtst (mop (dIs true) (mcall 1 s_is_program (mcons (mvar 2) mnil)) (mcon (.bl true)))) (mnotT (mtru (mcall 0 s__law_bounds_hold mnil)))) (sret (mcon (.bl false))) snil)
  (sseq (sfor (irng1 (mcon (.int 5))) (gnam 3) (sseq (sasg (mcall 2 s__law_spoilt (mcons (mvar 1) (mcons (mvar 2) mnil))) (gnam 4))
  (sseq (sasg (mcall 1 s__law_is_program (mcons (mvar 4) mnil)) (gnam 5))
  (sif (morT (mtst (mop dNe (mbi bRepr (mcons (mcall 1 s_is_program (mcons (mvar 4) mnil)) mnil)) (mbi bRepr (mcons (mvar 5) mnil)))) (mtst (mop dNe (mcall 1 (s__law_asked C_BadNumber C_NotObservation C_NotProgram C_NotTable) (mcons (mvar 4) mnil)) (mif (mtru (mvar 5)) (mcon .non) (mtup (mcons (mcon (.str ("refused" : Str))) mnil)))))) (sret (mcon (.bl false))) snil))))
  (sret (mop (dIs false) (mcall 1 (s__law_asked C_BadNumber C_NotObservation C_NotProgram C_NotTable) (mcons (mvar 2) mnil)) (mcon .non)))))))
noncomputable def s_law (C_BadNumber : Addr) (C_NotObservation : Addr) (C_NotProgram : Addr) (C_NotTable : Addr) : List D → Sto → R D := runDef 6 (m_law C_BadNumber C_NotObservation C_NotProgram C_NotTable)
section
variable {P : Program} {w : World} {K : PySem.W.Frag} {mg : Str → Option Value} {base : Heap} {T : List Addr} {a_is_within a_is_tuple_of a_is_line a_is_instruction a_is_core a_is_program a_check_program a__law_number a__law_draws a__law_next a__law_pick a__law_put a__law_one a__law_program a__law_more a__law_any_program a__law_is_one a__law_is_program a__law_spoilt a__law_asked a__law_bounds_hold a_law C_BadNumber C_CoheirError C_NotObservation C_NotProgram C_NotTable : Addr} (X : Txt K mg a_is_within a_is_tuple_of a_is_line a_is_instruction a_is_core a_is_program a_check_program a__law_number a__law_draws a__law_next a__law_pick a__law_put a__law_one a__law_program a__law_more a__law_any_program a__law_is_one a__law_is_program a__law_spoilt a__law_asked a__law_bounds_hold a_law C_BadNumber C_CoheirError C_NotObservation C_NotProgram C_NotTable)
include X
/-- is_within -/
theorem ok_is_within {fd : FuncData} {c Pt : Addr} (F : FunC K "is_within" "is_within" (top 7) a_is_within fd c) :
    FnG P w K mg base 1 a_is_within fd ["value", "low", "high"] (spS ⟨K, T⟩ 3 s_is_within) := by
  have S : FnScope ["value", "low", "high"] ["value", "low", "high"] (defScope (top 7)) := ⟨rfl, rfl, rfl, by decide +kernel, rfl, by decide +kernel, by decide +kernel⟩
  refine fnC (N := ["value", "low", "high"]) F S fun A outer s H E hr hgd => ?_
  exact (cs_one (cs_ret (ce_and (ce_cmp op_isA (ot_is false) (ce_bt call_type1 ob_ty rfl X.b_type rfl (ca_one (ce_var 0))) (ce_ty rfl X.b_int rfl) (nomark _)) (ce_one (ce_chain op_le op_le ot_le ot_le (ce_var 1) (ce_var 0) (ce_var 2))))))
/-- is_tuple_of -/
theorem ok_is_tuple_of {fd : FuncData} {c Pt : Addr} (F : FunC K "is_tuple_of" "is_tuple_of" (top 8) a_is_tuple_of fd c) :
    FnG P w K mg base 1 a_is_tuple_of fd ["value", "size"] (spS ⟨K, T⟩ 2 s_is_tuple_of) := by
  have S : FnScope ["value", "size"] ["value", "size"] (defScope (top 8)) := ⟨rfl, rfl, rfl, by decide +kernel, rfl, by decide +kernel, by decide +kernel⟩
  refine fnC (N := ["value", "size"]) F S fun A outer s H E hr hgd => ?_
  exact (cs_one (cs_ret (ce_and (ce_bi call_isi ob_isi rfl X.b_isinstance rfl (ca_cons (ce_var 0) (ca_one (ce_ty rfl X.b_tuple rfl)))) (ce_one (ce_cmp (op_eqD hr.units) ot_eq (ce_bi call_lenA ob_len rfl X.b_len rfl (ca_one (ce_var 0))) (ce_var 1) (nomark _))))))
/-- is_line -/
theorem ok_is_line {fd : FuncData} {c Pt : Addr} (F : FunC K "is_line" "is_line" (top 17) a_is_line fd c) {fd_is_within : FuncData} (F_is_within : FnG P w K mg base 1 a_is_within fd_is_within ["value", "low", "high"] (spS ⟨K, T⟩ 3 s_is_within)) (b_is_within : Binds K fd_is_within ["value", "low", "high"] []) :
    FnG P w K mg base 2 a_is_line fd ["line"] (spS ⟨K, T⟩ 1 s_is_line) := by
  have S : FnScope ["line"] ["line"] (defScope (top 17)) := ⟨rfl, rfl, rfl, by decide +kernel, rfl, by decide +kernel, by decide +kernel⟩
  refine fnC (N := ["line"]) F S fun A outer s H E hr hgd => ?_
  exact (cs_one (cs_ret (ce_call F_is_within (hr.mono (by decide)) hgd rfl X.g_is_within X.k_is_within b_is_within (passW (takes_of rfl rfl rfl rfl)) (ca_cons (ce_var 0) (ca_cons ce_int (ca_one (ce_gI rfl X.c_MOST_LINE)))))))
/-- is_instruction -/
theorem ok_is_instruction {fd : FuncData} {c Pt : Addr} (F : FunC K "is_instruction" "is_instruction" (top 16) a_is_instruction fd c) {fd_is_within : FuncData} (F_is_within : FnG P w K mg base 1 a_is_within fd_is_within ["value", "low", "high"] (spS ⟨K, T⟩ 3 s_is_within)) (b_is_within : Binds K fd_is_within ["value", "low", "high"] []) {fd_is_line : FuncData} (F_is_line : FnG P w K mg base 2 a_is_line fd_is_line ["line"] (spS ⟨K, T⟩ 1 s_is_line)) (b_is_line : Binds K fd_is_line ["line"] []) {fd_is_tuple_of : FuncData} (F_is_tuple_of : FnG P w K mg base 1 a_is_tuple_of fd_is_tuple_of ["value", "size"] (spS ⟨K, T⟩ 2 s_is_tuple_of)) (b_is_tuple_of : Binds K fd_is_tuple_of ["value", "size"] []) :
    FnG P w K mg base 3 a_is_instruction fd ["instruction"] (spS ⟨K, T⟩ 1 s_is_instruction) := by
  have S : FnScope ["instruction"] ["instruction"] (defScope (top 16)) := ⟨rfl, rfl, rfl, by decide +kernel, rfl, by decide +kernel, by decide +kernel⟩
  refine fnC (N := ["instruction"]) F S fun A outer s H E hr hgd => ?_
  exact (cs_cons (cs_if (ct_tru (ce_call F_is_tuple_of (hr.mono (by decide)) hgd rfl X.g_is_tuple_of X.k_is_tuple_of b_is_tuple_of (passW (takes_of rfl rfl rfl rfl)) (ca_cons (ce_var 0) (ca_one ce_int)))) (cs_one (cs_ret (ce_cmp (op_eqD hr.units) ot_eq (ce_ix (ce_var 0) ce_int) ce_str (nomark _)))) cs_nil)
    (cs_cons (cs_if (ct_tru (ce_call F_is_tuple_of (hr.mono (by decide)) hgd rfl X.g_is_tuple_of X.k_is_tuple_of b_is_tuple_of (passW (takes_of rfl rfl rfl rfl)) (ca_cons (ce_var 0) (ca_one ce_int)))) (cs_one (cs_ret (ce_and (ce_cmp (op_eqD hr.units) ot_eq (ce_ix (ce_var 0) ce_int) ce_str (nomark _)) (ce_one (ce_call F_is_line (hr.mono (by decide)) hgd rfl X.g_is_line X.k_is_line b_is_line (passW (takes_of rfl rfl rfl rfl)) (ca_one (ce_ix (ce_var 0) ce_int))))))) cs_nil)
    (cs_cons (cs_if (CW.ct (cw_or (ct_not (ct_tru (ce_call F_is_tuple_of (hr.mono (by decide)) hgd rfl X.g_is_tuple_of X.k_is_tuple_of b_is_tuple_of (passW (takes_of rfl rfl rfl rfl)) (ca_cons (ce_var 0) (ca_one ce_int))))) (cw_or1 (ct_cmp op_notinA (ot_in true) (ce_ix (ce_var 0) ce_int) (ce_tup (ca_cons ce_str (ca_one ce_str))) rfl)))) (cs_one (cs_ret ce_bl)) cs_nil)
    (cs_one (cs_ret (ce_and (ce_call F_is_line (hr.mono (by decide)) hgd rfl X.g_is_line X.k_is_line b_is_line (passW (takes_of rfl rfl rfl rfl)) (ca_one (ce_ix (ce_var 0) ce_int))) (ce_one (ce_call F_is_within (hr.mono (by decide)) hgd rfl X.g_is_within X.k_is_within b_is_within (passW (takes_of rfl rfl rfl rfl)) (ca_cons (ce_ix (ce_var 0) ce_int) (ca_cons ce_int (ca_one (ce_gI rfl X.c_MOST_VALUE))))))))))))
/-- is_core -/
theorem ok_is_core {fd : FuncData} {c Pt : Addr} (F : FunC K "is_core" "is_core" (top 15) a_is_core fd c) {fd_is_instruction : FuncData} (F_is_instruction : FnG P w K mg base 3 a_is_instruction fd_is_instruction ["instruction"] (spS ⟨K, T⟩ 1 s_is_instruction)) (b_is_instruction : Binds K fd_is_instruction ["instruction"] []) (TB : TabB base mg c Pt) (hP : Pt ∈ T) :
    FnG P w K mg base 5 a_is_core fd ["core"] (spS ⟨K, T⟩ 1 s_is_core) := by
  have S : FnScope ["core", "instruction"] ["core"] (defScope (top 15)) := ⟨rfl, rfl, rfl, by decide +kernel, rfl, by decide +kernel, by decide +kernel⟩
  refine fnC (N := ["core", "instruction"]) F S fun A outer s H E hr hgd => ?_
  exact (cs_cons (cs_if (CW.ct (cw_or (ct_not (ct_tru (ce_bi call_isi ob_isi rfl X.b_isinstance rfl (ca_cons (ce_var 0) (ca_one (ce_ty rfl X.b_tuple rfl)))))) (cw_or1 (ct_cmp op_gt ot_gt (ce_bi call_lenA ob_len rfl X.b_len rfl (ca_one (ce_var 0))) (ce_gI rfl X.c_MOST_INSTRUCTIONS) (nomark _))))) (cs_one (cs_ret ce_bl)) cs_nil)
    (cs_one (cs_ret (gall (own := [(("instruction" : Str), 1)]) (k := 3) hr rfl X.b_all rfl S.nd TB hP rfl rfl (by kernel_rfl) (by kernel_rfl) rfl (ci_any (ce_var 0)) (by decide) (fun _ _ _ _ _ _ _ _ hr0 hg0 => (cg_nam 1 S.nd)) (fun _ _ _ _ _ _ _ _ hr0 hg0 => ct_nil) (fun _ _ _ _ _ _ _ _ hr0 hg0 => (ce_call F_is_instruction (hr0.mono (by decide)) (hg0.trans hgd) rfl X.g_is_instruction X.k_is_instruction b_is_instruction passW0 (ca_one (ce_var 1))))))))
/-- is_program -/
theorem ok_is_program {fd : FuncData} {c Pt : Addr} (F : FunC K "is_program" "is_program" (top 14) a_is_program fd c) {fd_is_core : FuncData} (F_is_core : FnG P w K mg base 5 a_is_core fd_is_core ["core"] (spS ⟨K, T⟩ 1 s_is_core)) (b_is_core : Binds K fd_is_core ["core"] []) (TB : TabB base mg c Pt) (hP : Pt ∈ T) :
    FnG P w K mg base 7 a_is_program fd ["program"] (spS ⟨K, T⟩ 1 s_is_program) := by
  have S : FnScope ["program", "core"] ["program"] (defScope (top 14)) := ⟨rfl, rfl, rfl, by decide +kernel, rfl, by decide +kernel, by decide +kernel⟩
  refine fnC (N := ["program", "core"]) F S fun A outer s H E hr hgd => ?_
  exact (cs_cons (cs_if (CW.ct (cw_or (ct_not (ct_tru (ce_bi call_isi ob_isi rfl X.b_isinstance rfl (ca_cons (ce_var 0) (ca_one (ce_ty rfl X.b_tuple rfl)))))) (cw_or1 (ct_not (ct_chain op_le op_le ot_le ot_le ce_int (ce_bi call_lenA ob_len rfl X.b_len rfl (ca_one (ce_var 0))) (ce_gI rfl X.c_MOST_CORES)))))) (cs_one (cs_ret ce_bl)) cs_nil)
    (cs_one (cs_ret (gall (own := [(("core" : Str), 1)]) (k := 5) hr rfl X.b_all rfl S.nd TB hP rfl rfl (by kernel_rfl) (by kernel_rfl) rfl (ci_any (ce_var 0)) (by decide) (fun _ _ _ _ _ _ _ _ hr0 hg0 => (cg_nam 1 S.nd)) (fun _ _ _ _ _ _ _ _ hr0 hg0 => ct_nil) (fun _ _ _ _ _ _ _ _ hr0 hg0 => (ce_call F_is_core (hr0.mono (by decide)) (hg0.trans hgd) rfl X.g_is_core X.k_is_core b_is_core passW0 (ca_one (ce_var 1))))))))
/-- check_program -/
theorem ok_check_program {fd : FuncData} {c Pt : Addr} (F : FunC K "check_program" "check_program" (top 18) a_check_program fd c) {fd_is_program : FuncData} (F_is_program : FnG P w K mg base 7 a_is_program fd_is_program ["program"] (spS ⟨K, T⟩ 1 s_is_program)) (b_is_program : Binds K fd_is_program ["program"] []) :
    FnG P w K mg base 8 a_check_program fd ["program"] (spS ⟨K, T⟩ 1 (s_check_program C_NotProgram)) := by
  have S : FnScope ["program"] ["program"] (defScope (top 18)) := ⟨rfl, rfl, rfl, by decide +kernel, rfl, by decide +kernel, by decide +kernel⟩
  refine fnC (N := ["program"]) F S fun A outer s H E hr hgd => ?_
  exact (cs_one (cs_if (ct_not (ct_tru (ce_call F_is_program (hr.mono (by decide)) hgd rfl X.g_is_program X.k_is_program b_is_program (passW (takes_of rfl rfl rfl rfl)) (ca_one (ce_var 0))))) (cs_one (cs_raise PySem.F.excBase_ValueError rfl (takes_of rfl rfl rfl rfl) X.x_NotProgram X.g_NotProgram X.k_NotProgram X.s_NotProgram X.t_NotProgram rfl)) cs_nil))
/-- _law_number -/
theorem ok__law_number {fd : FuncData} {c Pt : Addr} (F : FunC K "_law_number" "_law_number" (top 20) a__law_number fd c) :
    FnG P w K mg base 1 a__law_number fd ["cell"] (spS ⟨K, T⟩ 1 s__law_number) := by
  have S : FnScope ["cell"] ["cell"] (defScope (top 20)) := ⟨rfl, rfl, rfl, by decide +kernel, rfl, by decide +kernel, by decide +kernel⟩
  refine fnC (N := ["cell"]) F S fun A outer s H E hr hgd => ?_
  exact (cs_cons (cs_if (ct_cmp op_lt ot_lt (ce_var 0) ce_int (nomark _)) (cs_one (cs_ret (ce_op op_sub ot_sub ce_int (ce_var 0)))) cs_nil)
    (cs_one (cs_ret (ce_var 0))))
/-- _law_draws -/
theorem ok__law_draws {fd : FuncData} {c Pt : Addr} (F : FunC K "_law_draws" "_law_draws" (top 21) a__law_draws fd c) {fd__law_number : FuncData} (F__law_number : FnG P w K mg base 1 a__law_number fd__law_number ["cell"] (spS ⟨K, T⟩ 1 s__law_number)) (b__law_number : Binds K fd__law_number ["cell"] []) :
    FnG P w K mg base 2 a__law_draws fd ["script"] (spS ⟨K, T⟩ 1 s__law_draws) := by
  have S : FnScope ["script", "draws", "cell", "rest", "k", "once", "twice"] ["script"] (defScope (top 21)) := ⟨rfl, rfl, rfl, by decide +kernel, rfl, by decide +kernel, by decide +kernel⟩
  refine fnC (N := ["script", "draws", "cell", "rest", "k", "once", "twice"]) F S fun A outer s H E hr hgd => ?_
  exact (cs_cons (cs_set 1 S.nd (CL.ce (cl_list ca_nil)))
    (cs_cons (cs_for (passes_of rfl) rfl (ci_any (ce_var 0)) (cg_nam 2 S.nd) (cs_cons (cs_set 3 S.nd (ce_call F__law_number (hr.mono (by decide)) hgd rfl X.g__law_number X.k__law_number b__law_number (passW (takes_of rfl rfl rfl rfl)) (ca_one (ce_var 2))))
    (cs_one (cs_if (ct_cmp op_ge ot_ge (ce_var 3) ce_int (nomark _)) (cs_one (cs_for (passes_of rfl) rfl (ci_rng1 rfl X.b_range ce_int) (cg_nam 4 S.nd) (cs_cons (cs_if (ct_cmp (op_eqD hr.units) ot_eq (ce_var 3) ce_int (nomark _)) (cs_one cs_brk) cs_nil)
    (cs_cons (cs_exp (ce_m PySem.F.slot_list_append PySem.F.type_list_append mt_append om_append (ce_var 1) (ca_one (ce_op op_mod ot_mod (ce_bt call_intA ob_int rfl X.b_int rfl (ca_one (ce_var 3))) ce_int))))
    (cs_one (cs_set 3 S.nd (ce_op op_fdiv ot_div (ce_var 3) ce_int))))))) (cs_cons (cs_set 5 S.nd (ce_op op_mod ot_mod (ce_bt call_intA ob_int rfl X.b_int rfl (ca_one (ce_op (op_addA trivial) ot_add (ce_op op_mulB ot_mulB (ce_var 3) ce_int) ce_int))) ce_int))
    (cs_cons (cs_set 6 S.nd (ce_op op_mod ot_mod (ce_bt call_intA ob_int rfl X.b_int rfl (ca_one (ce_op (op_addA trivial) ot_add (ce_op op_mulB ot_mulB (ce_var 5) ce_int) (ce_var 3)))) ce_int))
    (cs_one (cs_exp (ce_m PySem.F.slot_list_extend PySem.F.type_list_extend mt_extend om_extend (ce_var 1) (ca_one (CL.ce (cl_list (ca_cons (ce_op op_mod ot_mod (ce_bt call_intA ob_int rfl X.b_int rfl (ca_one (ce_var 3))) ce_int) (ca_cons (ce_op op_mod ot_mod (ce_bt call_intA ob_int rfl X.b_int rfl (ca_one (ce_var 5))) ce_int) (ca_one (ce_op op_mod ot_mod (ce_bt call_intA ob_int rfl X.b_int rfl (ca_one (ce_var 6))) ce_int))))))))))))))))
    (cs_cons (cs_exp (ce_m0 PySem.F.slot_list_reverse PySem.F.type_list_reverse mt_reverse om_rev (ce_var 1)))
    (cs_one (cs_ret (ce_var 1))))))
/-- _law_next -/
theorem ok__law_next {fd : FuncData} {c Pt : Addr} (F : FunC K "_law_next" "_law_next" (top 22) a__law_next fd c) :
    FnG P w K mg base 1 a__law_next fd ["draws"] (spS ⟨K, T⟩ 1 s__law_next) := by
  have S : FnScope ["draws"] ["draws"] (defScope (top 22)) := ⟨rfl, rfl, rfl, by decide +kernel, rfl, by decide +kernel, by decide +kernel⟩
  refine fnC (N := ["draws"]) F S fun A outer s H E hr hgd => ?_
  exact (cs_cons (cs_if (ct_tru (ce_var 0)) (cs_one (cs_ret (ce_m0 PySem.F.slot_list_pop PySem.F.type_list_pop mt_pop om_pop (ce_var 0)))) cs_nil)
    (cs_one (cs_ret ce_int)))
/-- _law_pick -/
theorem ok__law_pick {fd : FuncData} {c Pt : Addr} (F : FunC K "_law_pick" "_law_pick" (top 23) a__law_pick fd c) {fd__law_next : FuncData} (F__law_next : FnG P w K mg base 1 a__law_next fd__law_next ["draws"] (spS ⟨K, T⟩ 1 s__law_next)) (b__law_next : Binds K fd__law_next ["draws"] []) :
    FnG P w K mg base 2 a__law_pick fd ["draws", "some"] (spS ⟨K, T⟩ 2 s__law_pick) := by
  have S : FnScope ["draws", "some"] ["draws", "some"] (defScope (top 23)) := ⟨rfl, rfl, rfl, by decide +kernel, rfl, by decide +kernel, by decide +kernel⟩
  refine fnC (N := ["draws", "some"]) F S fun A outer s H E hr hgd => ?_
  exact (cs_one (cs_ret (ce_ix (ce_var 1) (ce_op op_mod ot_mod (ce_bt call_intA ob_int rfl X.b_int rfl (ca_one (ce_call F__law_next (hr.mono (by decide)) hgd rfl X.g__law_next X.k__law_next b__law_next (passW (takes_of rfl rfl rfl rfl)) (ca_one (ce_var 0))))) (ce_bi call_lenA ob_len rfl X.b_len rfl (ca_one (ce_var 1)))))))
/-- _law_put -/
theorem ok__law_put {fd : FuncData} {c Pt : Addr} (F : FunC K "_law_put" "_law_put" (top 24) a__law_put fd c) :
    FnG P w K mg base 1 a__law_put fd ["parts", "at", "part"] (spS ⟨K, T⟩ 3 s__law_put) := by
  have S : FnScope ["parts", "at", "part"] ["parts", "at", "part"] (defScope (top 24)) := ⟨rfl, rfl, rfl, by decide +kernel, rfl, by decide +kernel, by decide +kernel⟩
  refine fnC (N := ["parts", "at", "part"]) F S fun A outer s H E hr hgd => ?_
  exact (cs_one (cs_ret (ce_op (op_addA trivial) ot_add (ce_op (op_addA trivial) ot_add (ce_sl (ce_var 0) co_none (co_some (ce_var 1))) (ce_tup (ca_one (ce_var 2)))) (ce_sl (ce_var 0) (co_some (ce_op (op_addA trivial) ot_add (ce_var 1) ce_int)) co_none))))
/-- _law_one -/
theorem ok__law_one {fd : FuncData} {c Pt : Addr} (F : FunC K "_law_one" "_law_one" (top 25) a__law_one fd c) {fd__law_next : FuncData} (F__law_next : FnG P w K mg base 1 a__law_next fd__law_next ["draws"] (spS ⟨K, T⟩ 1 s__law_next)) (b__law_next : Binds K fd__law_next ["draws"] []) :
    FnG P w K mg base 2 a__law_one fd ["draws", "lines"] (spS ⟨K, T⟩ 2 s__law_one) := by
  have S : FnScope ["draws", "lines", "kind", "line", "value"] ["draws", "lines"] (defScope (top 25)) := ⟨rfl, rfl, rfl, by decide +kernel, rfl, by decide +kernel, by decide +kernel⟩
  refine fnC (N := ["draws", "lines", "kind", "line", "value"]) F S fun A outer s H E hr hgd => ?_
  exact (cs_cons (cs_set 2 S.nd (ce_op op_mod ot_mod (ce_bt call_intA ob_int rfl X.b_int rfl (ca_one (ce_call F__law_next (hr.mono (by decide)) hgd rfl X.g__law_next X.k__law_next b__law_next (passW (takes_of rfl rfl rfl rfl)) (ca_one (ce_var 0))))) ce_int))
    (cs_cons (cs_set 3 S.nd (ce_op op_mod ot_mod (ce_bt call_intA ob_int rfl X.b_int rfl (ca_one (ce_call F__law_next (hr.mono (by decide)) hgd rfl X.g__law_next X.k__law_next b__law_next (passW (takes_of rfl rfl rfl rfl)) (ca_one (ce_var 0))))) (ce_var 1)))
    (cs_cons (cs_set 4 S.nd (ce_if (ct_cmp (op_eqD hr.units) ot_eq (ce_op op_mod ot_mod (ce_bt call_intA ob_int rfl X.b_int rfl (ca_one (ce_call F__law_next (hr.mono (by decide)) hgd rfl X.g__law_next X.k__law_next b__law_next (passW (takes_of rfl rfl rfl rfl)) (ca_one (ce_var 0))))) ce_int) ce_int (nomark _)) (ce_op (op_addA trivial) ot_add ce_int (ce_op op_mod ot_mod (ce_bt call_intA ob_int rfl X.b_int rfl (ca_one (ce_call F__law_next (hr.mono (by decide)) hgd rfl X.g__law_next X.k__law_next b__law_next (passW (takes_of rfl rfl rfl rfl)) (ca_one (ce_var 0))))) ce_int)) (ce_op (op_addA trivial) ot_add ce_int (ce_op op_mod ot_mod (ce_bt call_intA ob_int rfl X.b_int rfl (ca_one (ce_call F__law_next (hr.mono (by decide)) hgd rfl X.g__law_next X.k__law_next b__law_next (passW (takes_of rfl rfl rfl rfl)) (ca_one (ce_var 0))))) ce_int))))
    (cs_cons (cs_if (ct_cmp op_lt ot_lt (ce_var 2) ce_int (nomark _)) (cs_one (cs_ret (ce_tup (ca_cons ce_str (ca_one (ce_var 3)))))) cs_nil)
    (cs_cons (cs_if (ct_cmp op_lt ot_lt (ce_var 2) ce_int (nomark _)) (cs_one (cs_ret (ce_tup (ca_cons ce_str (ca_cons (ce_var 3) (ca_one (ce_var 4))))))) cs_nil)
    (cs_one (cs_ret (ce_if (ct_cmp (op_eqD hr.units) ot_eq (ce_var 2) ce_int (nomark _)) (ce_tup (ca_cons ce_str (ca_cons (ce_var 3) (ca_one (ce_var 4))))) (ce_tup (ca_one ce_str))))))))))
/-- _law_program -/
theorem ok__law_program {fd : FuncData} {c Pt : Addr} (F : FunC K "_law_program" "_law_program" (top 26) a__law_program fd c) {fd__law_next : FuncData} (F__law_next : FnG P w K mg base 1 a__law_next fd__law_next ["draws"] (spS ⟨K, T⟩ 1 s__law_next)) (b__law_next : Binds K fd__law_next ["draws"] []) {fd__law_one : FuncData} (F__law_one : FnG P w K mg base 2 a__law_one fd__law_one ["draws", "lines"] (spS ⟨K, T⟩ 2 s__law_one)) (b__law_one : Binds K fd__law_one ["draws", "lines"] []) :
    FnG P w K mg base 3 a__law_program fd ["draws", "cores", "most", "lines"] (spS ⟨K, T⟩ 4 s__law_program) := by
  have S : FnScope ["draws", "cores", "most", "lines", "c", "i"] ["draws", "cores", "most", "lines"] (defScope (top 26)) := ⟨rfl, rfl, rfl, by decide +kernel, rfl, by decide +kernel, by decide +kernel⟩
  refine fnC (N := ["draws", "cores", "most", "lines", "c", "i"]) F S fun A outer s H E hr hgd => ?_
  exact (cs_one (cs_ret (ce_bt call_tuple_of ob_tup rfl X.b_tuple rfl (ca_one (CL.ce (lc (own := [(("c" : Str), 4)]) rfl S.nd (ci_rng1 rfl X.b_range (ce_var 1)) (by kernel_rfl) (by decide) (fun _ _ _ _ _ => (cg_nam 4 S.nd)) (fun _ _ _ _ _ => ct_nil) (fun _ _ _ _ _ => (ce_bt call_tuple_of ob_tup rfl X.b_tuple rfl (ca_one (CL.ce (lc (own := [(("i" : Str), 5)]) rfl S.nd (ci_rng1 rfl X.b_range (ce_op op_mod ot_mod (ce_bt call_intA ob_int rfl X.b_int rfl (ca_one (ce_call F__law_next (hr.mono (by decide)) hgd rfl X.g__law_next X.k__law_next b__law_next passW0 (ca_one (ce_var 0))))) (ce_op (op_addA trivial) ot_add (ce_var 2) ce_int))) (by kernel_rfl) (by decide) (fun _ _ _ _ _ => (cg_nam 5 S.nd)) (fun _ _ _ _ _ => ct_nil) (fun _ _ _ _ _ => (ce_call F__law_one (hr.mono (by decide)) hgd rfl X.g__law_one X.k__law_one b__law_one passW0 (ca_cons (ce_var 0) (ca_one (ce_var 3))))))))))))))))
/-- _law_more -/
theorem ok__law_more {fd : FuncData} {c Pt : Addr} (F : FunC K "_law_more" "_law_more" (top 27) a__law_more fd c) {fd__law_next : FuncData} (F__law_next : FnG P w K mg base 1 a__law_next fd__law_next ["draws"] (spS ⟨K, T⟩ 1 s__law_next)) (b__law_next : Binds K fd__law_next ["draws"] []) :
    FnG P w K mg base 2 a__law_more fd ["draws", "many"] (spS ⟨K, T⟩ 2 s__law_more) := by
  have S : FnScope ["draws", "many", "seed", "more", "k"] ["draws", "many"] (defScope (top 27)) := ⟨rfl, rfl, rfl, by decide +kernel, rfl, by decide +kernel, by decide +kernel⟩
  refine fnC (N := ["draws", "many", "seed", "more", "k"]) F S fun A outer s H E hr hgd => ?_
  exact (cs_cons (cs_set 2 S.nd (ce_op (op_addA trivial) ot_add (ce_op (op_addA trivial) ot_add (ce_op op_mulB ot_mulB ce_int (ce_call F__law_next (hr.mono (by decide)) hgd rfl X.g__law_next X.k__law_next b__law_next (passW (takes_of rfl rfl rfl rfl)) (ca_one (ce_var 0)))) (ce_call F__law_next (hr.mono (by decide)) hgd rfl X.g__law_next X.k__law_next b__law_next (passW (takes_of rfl rfl rfl rfl)) (ca_one (ce_var 0)))) ce_int))
    (cs_cons (cs_set 3 S.nd (CL.ce (cl_list ca_nil)))
    (cs_cons (cs_for (passes_of rfl) rfl (ci_rng1 rfl X.b_range (ce_var 1)) (cg_nam 4 S.nd) (cs_cons (cs_set 2 S.nd (ce_op op_mod ot_mod (ce_bt call_intA ob_int rfl X.b_int rfl (ca_one (ce_op (op_addA trivial) ot_add (ce_op op_mulB ot_mulB (ce_var 2) ce_int) ce_int))) ce_int))
    (cs_one (cs_exp (ce_m PySem.F.slot_list_append PySem.F.type_list_append mt_append om_append (ce_var 3) (ca_one (ce_op op_mod ot_mod (ce_bt call_intA ob_int rfl X.b_int rfl (ca_one (ce_op op_fdiv ot_div (ce_var 2) ce_int))) ce_int)))))))
    (cs_one (cs_ret (ce_op (op_addA trivial) ot_add (ce_var 3) (ce_var 0)))))))
/-- _law_any_program -/
theorem ok__law_any_program {fd : FuncData} {c Pt : Addr} (F : FunC K "_law_any_program" "_law_any_program" (top 28) a__law_any_program fd c) {fd__law_program : FuncData} (F__law_program : FnG P w K mg base 3 a__law_program fd__law_program ["draws", "cores", "most", "lines"] (spS ⟨K, T⟩ 4 s__law_program)) (b__law_program : Binds K fd__law_program ["draws", "cores", "most", "lines"] []) {fd__law_next : FuncData} (F__law_next : FnG P w K mg base 1 a__law_next fd__law_next ["draws"] (spS ⟨K, T⟩ 1 s__law_next)) (b__law_next : Binds K fd__law_next ["draws"] []) {fd__law_more : FuncData} (F__law_more : FnG P w K mg base 2 a__law_more fd__law_more ["draws", "many"] (spS ⟨K, T⟩ 2 s__law_more)) (b__law_more : Binds K fd__law_more ["draws", "many"] []) :
    FnG P w K mg base 4 a__law_any_program fd ["draws"] (spS ⟨K, T⟩ 1 s__law_any_program) := by
  have S : FnScope ["draws"] ["draws"] (defScope (top 28)) := ⟨rfl, rfl, rfl, by decide +kernel, rfl, by decide +kernel, by decide +kernel⟩
  refine fnC (N := ["draws"]) F S fun A outer s H E hr hgd => ?_
  exact (cs_cons (cs_if (ct_cmp (op_eqD hr.units) ot_eq (ce_op op_mod ot_mod (ce_bt call_intA ob_int rfl X.b_int rfl (ca_one (ce_call F__law_next (hr.mono (by decide)) hgd rfl X.g__law_next X.k__law_next b__law_next (passW (takes_of rfl rfl rfl rfl)) (ca_one (ce_var 0))))) ce_int) ce_int (nomark _)) (cs_one (cs_ret (ce_call F__law_program (hr.mono (by decide)) hgd rfl X.g__law_program X.k__law_program b__law_program (passW (takes_of rfl rfl rfl rfl)) (ca_cons (ce_call F__law_more (hr.mono (by decide)) hgd rfl X.g__law_more X.k__law_more b__law_more (passW (takes_of rfl rfl rfl rfl)) (ca_cons (ce_var 0) (ca_one ce_int))) (ca_cons ce_int (ca_cons ce_int (ca_one ce_int))))))) cs_nil)
    (cs_one (cs_ret (ce_call F__law_program (hr.mono (by decide)) hgd rfl X.g__law_program X.k__law_program b__law_program (passW (takes_of rfl rfl rfl rfl)) (ca_cons (ce_var 0) (ca_cons (ce_op (op_addA trivial) ot_add ce_int (ce_op op_mod ot_mod (ce_bt call_intA ob_int rfl X.b_int rfl (ca_one (ce_call F__law_next (hr.mono (by decide)) hgd rfl X.g__law_next X.k__law_next b__law_next (passW (takes_of rfl rfl rfl rfl)) (ca_one (ce_var 0))))) ce_int)) (ca_cons ce_int (ca_one ce_int))))))))
/-- _law_is_one -/
theorem ok__law_is_one {fd : FuncData} {c Pt : Addr} (F : FunC K "_law_is_one" "_law_is_one" (top 29) a__law_is_one fd c) :
    FnG P w K mg base 1 a__law_is_one fd ["one"] (spS ⟨K, T⟩ 1 s__law_is_one) := by
  have S : FnScope ["one"] ["one"] (defScope (top 29)) := ⟨rfl, rfl, rfl, by decide +kernel, rfl, by decide +kernel, by decide +kernel⟩
  refine fnC (N := ["one"]) F S fun A outer s H E hr hgd => ?_
  exact (cs_cons (cs_if (ct_cmp (op_eqD hr.units) ot_eq (ce_ix (ce_var 0) ce_int) ce_str (nomark _)) (cs_one (cs_ret (ce_cmp (op_eqD hr.units) ot_eq (ce_bi call_lenA ob_len rfl X.b_len rfl (ca_one (ce_var 0))) ce_int (nomark _)))) cs_nil)
    (cs_cons (cs_if (ct_cmp (op_eqD hr.units) ot_eq (ce_ix (ce_var 0) ce_int) ce_str (nomark _)) (cs_one (cs_ret (ce_and (ce_cmp (op_eqD hr.units) ot_eq (ce_bi call_lenA ob_len rfl X.b_len rfl (ca_one (ce_var 0))) ce_int (nomark _)) (ce_one (ce_cmp op_inA (ot_in false) (ce_ix (ce_var 0) ce_int) (CL.ce (cl_list (ca_cons ce_int (ca_cons ce_int (ca_cons ce_int (ca_one ce_int)))))) rfl))))) cs_nil)
    (cs_one (cs_ret (ce_and (ce_cmp op_inA (ot_in false) (ce_ix (ce_var 0) ce_int) (CL.ce (cl_list (ca_cons ce_str (ca_one ce_str)))) rfl) (ce_and (ce_cmp (op_eqD hr.units) ot_eq (ce_bi call_lenA ob_len rfl X.b_len rfl (ca_one (ce_var 0))) ce_int (nomark _)) (ce_and (ce_cmp op_inA (ot_in false) (ce_ix (ce_var 0) ce_int) (CL.ce (cl_list (ca_cons ce_int (ca_cons ce_int (ca_cons ce_int (ca_one ce_int)))))) rfl) (ce_one (ce_cmp op_inA (ot_in false) (ce_ix (ce_var 0) ce_int) (CL.ce (cl_lrg2 rfl rfl X.b_list rfl X.b_range ce_int ce_int)) rfl)))))))))
/-- _law_is_program -/
theorem ok__law_is_program {fd : FuncData} {c Pt : Addr} (F : FunC K "_law_is_program" "_law_is_program" (top 30) a__law_is_program fd c) {fd__law_is_one : FuncData} (F__law_is_one : FnG P w K mg base 1 a__law_is_one fd__law_is_one ["one"] (spS ⟨K, T⟩ 1 s__law_is_one)) (b__law_is_one : Binds K fd__law_is_one ["one"] []) :
    FnG P w K mg base 2 a__law_is_program fd ["program"] (spS ⟨K, T⟩ 1 s__law_is_program) := by
  have S : FnScope ["program", "core", "one"] ["program"] (defScope (top 30)) := ⟨rfl, rfl, rfl, by decide +kernel, rfl, by decide +kernel, by decide +kernel⟩
  refine fnC (N := ["program", "core", "one"]) F S fun A outer s H E hr hgd => ?_
  exact (cs_cons (cs_if (CW.ct (cw_or (ct_cmp op_notinA (ot_in true) (ce_bi call_lenA ob_len rfl X.b_len rfl (ca_one (ce_var 0))) (CL.ce (cl_lrg2 rfl rfl X.b_list rfl X.b_range ce_int ce_int)) rfl) (cw_or1 (ct_tru (ce_bi (cr_any rfl) ob_any rfl X.b_any rfl (ca_one (CL.ce (lc (own := [(("core" : Str), 1)]) rfl S.nd (ci_any (ce_var 0)) (by kernel_rfl) (by decide) (fun _ _ _ _ _ => (cg_nam 1 S.nd)) (fun _ _ _ _ _ => ct_nil) (fun _ _ _ _ _ => (ce_cmp op_gt ot_gt (ce_bi call_lenA ob_len rfl X.b_len rfl (ca_one (ce_var 1))) ce_int (nomark _))))))))))) (cs_one (cs_ret ce_bl)) cs_nil)
    (cs_one (cs_ret (ce_bi (cr_all rfl) ob_all rfl X.b_all rfl (ca_one (CL.ce (lc (own := [(("core" : Str), 1)]) rfl S.nd (ci_any (ce_var 0)) (by kernel_rfl) (by decide) (fun _ _ _ _ _ => (cg_nam 1 S.nd)) (fun _ _ _ _ _ => ct_nil) (fun _ _ _ _ _ => (ce_bi (cr_all rfl) ob_all rfl X.b_all rfl (ca_one (CL.ce (lc (own := [(("one" : Str), 2)]) rfl S.nd (ci_any (ce_var 1)) (by kernel_rfl) (by decide) (fun _ _ _ _ _ => (cg_nam 2 S.nd)) (fun _ _ _ _ _ => ct_nil) (fun _ _ _ _ _ => (ce_call F__law_is_one (hr.mono (by decide)) hgd rfl X.g__law_is_one X.k__law_is_one b__law_is_one passW0 (ca_one (ce_var 2))))))))))))))))
/-- _law_spoilt -/
theorem ok__law_spoilt {fd : FuncData} {c Pt : Addr} (F : FunC K "_law_spoilt" "_law_spoilt" (top 31) a__law_spoilt fd c) {fd__law_put : FuncData} (F__law_put : FnG P w K mg base 1 a__law_put fd__law_put ["parts", "at", "part"] (spS ⟨K, T⟩ 3 s__law_put)) (b__law_put : Binds K fd__law_put ["parts", "at", "part"] []) {fd__law_pick : FuncData} (F__law_pick : FnG P w K mg base 2 a__law_pick fd__law_pick ["draws", "some"] (spS ⟨K, T⟩ 2 s__law_pick)) (b__law_pick : Binds K fd__law_pick ["draws", "some"] []) {fd__law_next : FuncData} (F__law_next : FnG P w K mg base 1 a__law_next fd__law_next ["draws"] (spS ⟨K, T⟩ 1 s__law_next)) (b__law_next : Binds K fd__law_next ["draws"] []) :
    FnG P w K mg base 3 a__law_spoilt fd ["draws", "program"] (spS ⟨K, T⟩ 2 s__law_spoilt) := by
  have S : FnScope ["draws", "program", "kind", "c", "core", "i", "one"] ["draws", "program"] (defScope (top 31)) := ⟨rfl, rfl, rfl, by decide +kernel, rfl, by decide +kernel, by decide +kernel⟩
  refine fnC (N := ["draws", "program", "kind", "c", "core", "i", "one"]) F S fun A outer s H E hr hgd => ?_
  exact (cs_cons (cs_set 2 S.nd (ce_op op_mod ot_mod (ce_bt call_intA ob_int rfl X.b_int rfl (ca_one (ce_call F__law_next (hr.mono (by decide)) hgd rfl X.g__law_next X.k__law_next b__law_next (passW (takes_of rfl rfl rfl rfl)) (ca_one (ce_var 0))))) ce_int))
    (cs_cons (cs_set 3 S.nd (ce_op op_mod ot_mod (ce_bt call_intA ob_int rfl X.b_int rfl (ca_one (ce_call F__law_next (hr.mono (by decide)) hgd rfl X.g__law_next X.k__law_next b__law_next (passW (takes_of rfl rfl rfl rfl)) (ca_one (ce_var 0))))) (ce_bi call_lenA ob_len rfl X.b_len rfl (ca_one (ce_var 1)))))
    (cs_cons (cs_set 4 S.nd (ce_ix (ce_var 1) (ce_var 3)))
    (cs_cons (cs_if (ct_cmp (op_eqD hr.units) ot_eq (ce_var 2) ce_int (nomark _)) (cs_one (cs_ret (ce_op (op_addA trivial) ot_add (ce_var 1) (ce_op op_mulB ot_mulB (ce_tup (ca_one (ce_tup ca_nil))) (ce_op op_mod ot_mod (ce_bt call_intA ob_int rfl X.b_int rfl (ca_one (ce_call F__law_next (hr.mono (by decide)) hgd rfl X.g__law_next X.k__law_next b__law_next (passW (takes_of rfl rfl rfl rfl)) (ca_one (ce_var 0))))) ce_int))))) cs_nil)
    (cs_cons (cs_if (ct_cmp (op_eqD hr.units) ot_eq (ce_var 2) ce_int (nomark _)) (cs_one (cs_ret (ce_op (op_addA trivial) ot_add (ce_sl (ce_var 1) co_none (co_some (ce_var 3))) (ce_sl (ce_var 1) (co_some (ce_op (op_addA trivial) ot_add (ce_var 3) ce_int)) co_none)))) cs_nil)
    (cs_cons (cs_if (ct_cmp (op_eqD hr.units) ot_eq (ce_var 2) ce_int (nomark _)) (cs_one (cs_ret (ce_call F__law_put (hr.mono (by decide)) hgd rfl X.g__law_put X.k__law_put b__law_put (passW (takes_of rfl rfl rfl rfl)) (ca_cons (ce_var 1) (ca_cons (ce_var 3) (ca_one (ce_sl (ce_op (op_addA trivial) ot_add (ce_var 4) (ce_op op_mulB ot_mulB (ce_tup (ca_one (ce_tup (ca_one ce_str)))) ce_int)) co_none (co_some (ce_op (op_addA trivial) ot_add ce_int (ce_op op_mod ot_mod (ce_bt call_intA ob_int rfl X.b_int rfl (ca_one (ce_call F__law_next (hr.mono (by decide)) hgd rfl X.g__law_next X.k__law_next b__law_next (passW (takes_of rfl rfl rfl rfl)) (ca_one (ce_var 0))))) ce_int)))))))))) cs_nil)
    (cs_cons (cs_if (ct_not (ct_tru (ce_var 4))) (cs_one (cs_ret (ce_call F__law_put (hr.mono (by decide)) hgd rfl X.g__law_put X.k__law_put b__law_put (passW (takes_of rfl rfl rfl rfl)) (ca_cons (ce_var 1) (ca_cons (ce_var 3) (ca_one (ce_tup (ca_one (ce_tup (ca_one ce_str)))))))))) cs_nil)
    (cs_cons (cs_set 5 S.nd (ce_op op_mod ot_mod (ce_bt call_intA ob_int rfl X.b_int rfl (ca_one (ce_call F__law_next (hr.mono (by decide)) hgd rfl X.g__law_next X.k__law_next b__law_next (passW (takes_of rfl rfl rfl rfl)) (ca_one (ce_var 0))))) (ce_bi call_lenA ob_len rfl X.b_len rfl (ca_one (ce_var 4)))))
    (cs_cons (cs_set 6 S.nd (ce_ix (ce_var 4) (ce_var 5)))
    (cs_cons (cs_if (ct_cmp (op_eqD hr.units) ot_eq (ce_var 2) ce_int (nomark _)) (cs_one (cs_set 6 S.nd (ce_op (op_addA trivial) ot_add (ce_tup (ca_one (ce_call F__law_pick (hr.mono (by decide)) hgd rfl X.g__law_pick X.k__law_pick b__law_pick (passW (takes_of rfl rfl rfl rfl)) (ca_cons (ce_var 0) (ca_one (CL.ce (cl_list (ca_cons ce_str (ca_cons ce_str (ca_cons ce_str (ca_cons ce_str (ca_cons ce_str (ca_cons ce_str (ca_cons ce_str (ca_one ce_str))))))))))))))) (ce_sl (ce_var 6) (co_some ce_int) co_none)))) cs_nil)
    (cs_cons (cs_if (CW.ct (cw_and (ct_cmp (op_eqD hr.units) ot_eq (ce_var 2) ce_int (nomark _)) (cw_and1 (ct_cmp op_gt ot_gt (ce_bi call_lenA ob_len rfl X.b_len rfl (ca_one (ce_var 6))) ce_int (nomark _))))) (cs_one (cs_set 6 S.nd (ce_call F__law_put (hr.mono (by decide)) hgd rfl X.g__law_put X.k__law_put b__law_put (passW (takes_of rfl rfl rfl rfl)) (ca_cons (ce_var 6) (ca_cons ce_int (ca_one (ce_op op_sub ot_sub (ce_op op_mod ot_mod (ce_bt call_intA ob_int rfl X.b_int rfl (ca_one (ce_call F__law_next (hr.mono (by decide)) hgd rfl X.g__law_next X.k__law_next b__law_next (passW (takes_of rfl rfl rfl rfl)) (ca_one (ce_var 0))))) ce_int) ce_int))))))) cs_nil)
    (cs_cons (cs_if (ct_cmp (op_eqD hr.units) ot_eq (ce_var 2) ce_int (nomark _)) (cs_one (cs_set 6 S.nd (ce_op (op_addA trivial) ot_add (ce_sl (ce_var 6) co_none (co_some ce_int)) (ce_tup (ca_one (ce_call F__law_pick (hr.mono (by decide)) hgd rfl X.g__law_pick X.k__law_pick b__law_pick (passW (takes_of rfl rfl rfl rfl)) (ca_cons (ce_var 0) (ca_one (CL.ce (cl_list (ca_cons ce_int (ca_cons (ce_neg ce_int) (ca_cons ce_int (ca_cons ce_int (ca_cons ce_int (ca_one ce_int)))))))))))))))) cs_nil)
    (cs_cons (cs_if (ct_cmp (op_eqD hr.units) ot_eq (ce_var 2) ce_int (nomark _)) (cs_one (cs_set 6 S.nd (ce_call F__law_pick (hr.mono (by decide)) hgd rfl X.g__law_pick X.k__law_pick b__law_pick (passW (takes_of rfl rfl rfl rfl)) (ca_cons (ce_var 0) (ca_one (CL.ce (cl_list (ca_cons (ce_if (ct_cmp op_gt ot_gt (ce_bi call_lenA ob_len rfl X.b_len rfl (ca_one (ce_var 6))) ce_int (nomark _)) (ce_sl (ce_var 6) co_none (co_some (ce_neg ce_int))) (ce_op (op_addA trivial) ot_add (ce_var 6) (ce_tup (ca_one ce_int)))) (ca_one (ce_sl (ce_var 6) co_none (co_some ce_int))))))))))) cs_nil)
    (cs_one (cs_ret (ce_call F__law_put (hr.mono (by decide)) hgd rfl X.g__law_put X.k__law_put b__law_put (passW (takes_of rfl rfl rfl rfl)) (ca_cons (ce_var 1) (ca_cons (ce_var 3) (ca_one (ce_call F__law_put (hr.mono (by decide)) hgd rfl X.g__law_put X.k__law_put b__law_put (passW (takes_of rfl rfl rfl rfl)) (ca_cons (ce_var 4) (ca_cons (ce_var 5) (ca_one (ce_var 6))))))))))))))))))))))))
/-- _law_asked -/
theorem ok__law_asked {fd : FuncData} {c Pt : Addr} (F : FunC K "_law_asked" "_law_asked" (top 32) a__law_asked fd c) {fd_check_program : FuncData} (F_check_program : FnG P w K mg base 8 a_check_program fd_check_program ["program"] (spS ⟨K, T⟩ 1 (s_check_program C_NotProgram))) (b_check_program : Binds K fd_check_program ["program"] []) :
    FnG P w K mg base 9 a__law_asked fd ["program"] (spS ⟨K, T⟩ 1 (s__law_asked C_BadNumber C_NotObservation C_NotProgram C_NotTable)) := by
  have S : FnScope ["program", "error", "kinds"] ["program"] (defScope (top 32)) := ⟨rfl, rfl, rfl, by decide +kernel, rfl, by decide +kernel, by decide +kernel⟩
  refine fnC (N := ["program", "error", "kinds"]) F S fun A outer s H E hr hgd => ?_
  exact (cs_one (cs_try (i := 1) (yes := [C_NotProgram]) (no := []) rfl rfl S.nd rfl rfl ⟨rfl, by decide, Or.inl X.g_CoheirError⟩ (takes_of rfl rfl rfl rfl) (by intro C hC; simp only [List.mem_singleton] at hC; subst hC; exact X.m_NotProgram_CoheirError) (by intro C hC; cases hC) (fun _ _ _ tk_ hp_ => (cs_one (cs_ret (ce_call F_check_program (hr.mono (by decide)) hgd rfl X.g_check_program X.k_check_program b_check_program (passW tk_) (ca_one (ce_var 0)))))) (by intro C hC; simp only [List.mem_singleton] at hC; subst hC; exact fun a_ _ _ hz_ hf_ => (cs_cons (cs_set 2 S.nd (CL.ce (cl_list (ca_cons (ce_bi (call_isE X.e_NotProgram hz_ hf_) (ob_isE (by intro p hp; simp only [List.mem_cons, List.not_mem_nil, or_false] at hp; rcases hp with rfl | rfl | rfl | rfl <;> first | exact X.i_NotProgram_BadNumber | exact X.i_NotProgram_NotObservation | exact X.i_NotProgram_NotProgram | exact X.i_NotProgram_NotTable)) rfl X.b_isinstance rfl (ca_cons (ce_var 1) (ca_one (ce_cls rfl X.g_NotProgram)))) (ca_cons (ce_bi (call_isE X.e_NotProgram hz_ hf_) (ob_isE (by intro p hp; simp only [List.mem_cons, List.not_mem_nil, or_false] at hp; rcases hp with rfl | rfl | rfl | rfl <;> first | exact X.i_NotProgram_BadNumber | exact X.i_NotProgram_NotObservation | exact X.i_NotProgram_NotProgram | exact X.i_NotProgram_NotTable)) rfl X.b_isinstance rfl (ca_cons (ce_var 1) (ca_one (ce_cls rfl X.g_NotTable)))) (ca_cons (ce_bi (call_isE X.e_NotProgram hz_ hf_) (ob_isE (by intro p hp; simp only [List.mem_cons, List.not_mem_nil, or_false] at hp; rcases hp with rfl | rfl | rfl | rfl <;> first | exact X.i_NotProgram_BadNumber | exact X.i_NotProgram_NotObservation | exact X.i_NotProgram_NotProgram | exact X.i_NotProgram_NotTable)) rfl X.b_isinstance rfl (ca_cons (ce_var 1) (ca_one (ce_cls rfl X.g_BadNumber)))) (ca_one (ce_bi (call_isE X.e_NotProgram hz_ hf_) (ob_isE (by intro p hp; simp only [List.mem_cons, List.not_mem_nil, or_false] at hp; rcases hp with rfl | rfl | rfl | rfl <;> first | exact X.i_NotProgram_BadNumber | exact X.i_NotProgram_NotObservation | exact X.i_NotProgram_NotProgram | exact X.i_NotProgram_NotTable)) rfl X.b_isinstance rfl (ca_cons (ce_var 1) (ca_one (ce_cls rfl X.g_NotObservation)))))))))))
    (cs_one (cs_ret (ce_if (ct_cmp (op_eqD hr.units) ot_eq (ce_var 2) (CL.ce (cl_list (ca_cons ce_bl (ca_cons ce_bl (ca_cons ce_bl (ca_one ce_bl)))))) (nomark _)) (ce_tup (ca_one ce_str)) (ce_tup (ca_one ce_str)))))))))
/-- _law_bounds_hold -/
theorem ok__law_bounds_hold {fd : FuncData} {c Pt : Addr} (F : FunC K "_law_bounds_hold" "_law_bounds_hold" (top 33) a__law_bounds_hold fd c) {fd_is_program : FuncData} (F_is_program : FnG P w K mg base 7 a_is_program fd_is_program ["program"] (spS ⟨K, T⟩ 1 s_is_program)) (b_is_program : Binds K fd_is_program ["program"] []) :
    FnG P w K mg base 8 a__law_bounds_hold fd [] (spS ⟨K, T⟩ 0 s__law_bounds_hold) := by
  have S : FnScope ["number", "word", "many"] [] (defScope (top 33)) := ⟨rfl, rfl, rfl, by decide +kernel, rfl, by decide +kernel, by decide +kernel⟩
  refine fnC (N := ["number", "word", "many"]) F S fun A outer s H E hr hgd => ?_
  exact (cs_cons (cs_for (passes_of rfl) rfl (ci_new (cl_list (ca_cons (ce_neg ce_int) (ca_cons ce_int (ca_cons ce_int (ca_cons ce_int (ca_cons ce_int (ca_cons ce_int (ca_cons ce_int (ca_one ce_int)))))))))) (cg_nam 0 S.nd) (cs_cons (cs_for (passes_of rfl) rfl (ci_new (cl_list (ca_cons ce_str (ca_one ce_str)))) (cg_nam 1 S.nd) (cs_cons (cs_if (ct_cmp (op_neD hr.units) ot_ne (ce_bi (call_reprD hgd hr.units) ob_repr rfl X.b_repr rfl (ca_one (ce_call F_is_program (hr.mono (by decide)) hgd rfl X.g_is_program X.k_is_program b_is_program (passW (takes_of rfl rfl rfl rfl)) (ca_one (ce_tup (ca_one (ce_tup (ca_one (ce_tup (ca_cons (ce_var 1) (ca_cons (ce_var 0) (ca_one ce_int)))))))))))) (ce_bi (call_reprD hgd hr.units) ob_repr rfl X.b_repr rfl (ca_one (ce_chain op_le op_lt ot_le ot_lt ce_int (ce_var 0) ce_int))) (nomark _)) (cs_one (cs_ret ce_bl)) cs_nil)
    (cs_one (cs_if (ct_cmp (op_neD hr.units) ot_ne (ce_bi (call_reprD hgd hr.units) ob_repr rfl X.b_repr rfl (ca_one (ce_call F_is_program (hr.mono (by decide)) hgd rfl X.g_is_program X.k_is_program b_is_program (passW (takes_of rfl rfl rfl rfl)) (ca_one (ce_tup (ca_cons (ce_tup (ca_one (ce_tup (ca_cons (ce_var 1) (ca_cons ce_int (ca_one (ce_var 0))))))) (ca_one (ce_tup ca_nil)))))))) (ce_bi (call_reprD hgd hr.units) ob_repr rfl X.b_repr rfl (ca_one (ce_chain op_lt op_lt ot_lt ot_lt ce_int (ce_var 0) ce_int))) (nomark _)) (cs_one (cs_ret ce_bl)) cs_nil))))
    (cs_one (cs_if (ct_cmp (op_neD hr.units) ot_ne (ce_bi (call_reprD hgd hr.units) ob_repr rfl X.b_repr rfl (ca_one (ce_call F_is_program (hr.mono (by decide)) hgd rfl X.g_is_program X.k_is_program b_is_program (passW (takes_of rfl rfl rfl rfl)) (ca_one (ce_tup (ca_cons (ce_tup ca_nil) (ca_one (ce_tup (ca_one (ce_tup (ca_cons ce_str (ca_one (ce_var 0))))))))))))) (ce_bi (call_reprD hgd hr.units) ob_repr rfl X.b_repr rfl (ca_one (ce_chain op_le op_lt ot_le ot_lt ce_int (ce_var 0) ce_int))) (nomark _)) (cs_one (cs_ret ce_bl)) cs_nil))))
    (cs_cons (cs_if (ct_cmp (op_neD hr.units) ot_ne (CL.ce (lc (own := [(("many" : Str), 2)]) rfl S.nd (ci_new (cl_list (ca_cons ce_int (ca_cons ce_int (ca_cons ce_int (ca_one ce_int)))))) (by kernel_rfl) (by decide) (fun _ _ _ _ _ => (cg_nam 2 S.nd)) (fun _ _ _ _ _ => ct_nil) (fun _ _ _ _ _ => (ce_call F_is_program (hr.mono (by decide)) hgd rfl X.g_is_program X.k_is_program b_is_program passW0 (ca_one (ce_op op_mulB ot_mulB (ce_tup (ca_one (ce_tup ca_nil))) (ce_var 2))))))) (CL.ce (cl_list (ca_cons ce_bl (ca_cons ce_bl (ca_cons ce_bl (ca_one ce_bl)))))) (nomark _)) (cs_one (cs_ret ce_bl)) cs_nil)
    (cs_one (cs_ret (ce_cmp (op_eqD hr.units) ot_eq (CL.ce (lc (own := [(("many" : Str), 2)]) rfl S.nd (ci_new (cl_list (ca_cons ce_int (ca_cons ce_int (ca_one ce_int))))) (by kernel_rfl) (by decide) (fun _ _ _ _ _ => (cg_nam 2 S.nd)) (fun _ _ _ _ _ => ct_nil) (fun _ _ _ _ _ => (ce_call F_is_program (hr.mono (by decide)) hgd rfl X.g_is_program X.k_is_program b_is_program passW0 (ca_one (ce_tup (ca_one (ce_op op_mulB ot_mulB (ce_tup (ca_one (ce_tup (ca_cons ce_str (ca_one ce_int))))) (ce_var 2))))))))) (CL.ce (cl_list (ca_cons ce_bl (ca_cons ce_bl (ca_one ce_bl))))) (nomark _))))))
/-- law -/
theorem ok_law {fd : FuncData} {c Pt : Addr} (F : FunC K "law" "law" (top 34) a_law fd c) {fd__law_asked : FuncData} (F__law_asked : FnG P w K mg base 9 a__law_asked fd__law_asked ["program"] (spS ⟨K, T⟩ 1 (s__law_asked C_BadNumber C_NotObservation C_NotProgram C_NotTable))) (b__law_asked : Binds K fd__law_asked ["program"] []) {fd_is_program : FuncData} (F_is_program : FnG P w K mg base 7 a_is_program fd_is_program ["program"] (spS ⟨K, T⟩ 1 s_is_program)) (b_is_program : Binds K fd_is_program ["program"] []) {fd__law_is_program : FuncData} (F__law_is_program : FnG P w K mg base 2 a__law_is_program fd__law_is_program ["program"] (spS ⟨K, T⟩ 1 s__law_is_program)) (b__law_is_program : Binds K fd__law_is_program ["program"] []) {fd__law_spoilt : FuncData} (F__law_spoilt : FnG P w K mg base 3 a__law_spoilt fd__law_spoilt ["draws", "program"] (spS ⟨K, T⟩ 2 s__law_spoilt)) (b__law_spoilt : Binds K fd__law_spoilt ["draws", "program"] []) {fd__law_bounds_hold : FuncData} (F__law_bounds_hold : FnG P w K mg base 8 a__law_bounds_hold fd__law_bounds_hold [] (spS ⟨K, T⟩ 0 s__law_bounds_hold)) (b__law_bounds_hold : Binds K fd__law_bounds_hold [] []) {fd__law_any_program : FuncData} (F__law_any_program : FnG P w K mg base 4 a__law_any_program fd__law_any_program ["draws"] (spS ⟨K, T⟩ 1 s__law_any_program)) (b__law_any_program : Binds K fd__law_any_program ["draws"] []) {fd__law_draws : FuncData} (F__law_draws : FnG P w K mg base 2 a__law_draws fd__law_draws ["script"] (spS ⟨K, T⟩ 1 s__law_draws)) (b__law_draws : Binds K fd__law_draws ["script"] []) :
    FnG P w K mg base 10 a_law fd ["script"] (spS ⟨K, T⟩ 1 (s_law C_BadNumber C_NotObservation C_NotProgram C_NotTable)) := by
  have S : FnScope ["script", "draws", "program", "k", "given", "due"] ["script"] (defScope (top 34)) := ⟨rfl, rfl, rfl, by decide +kernel, rfl, by decide +kernel, by decide +kernel⟩
  refine fnC (N := ["script", "draws", "program", "k", "given", "due"]) F S fun A outer s H E hr hgd => ?_
  exact (cs_cons (cs_set 1 S.nd (ce_call F__law_draws (hr.mono (by decide)) hgd rfl X.g__law_draws X.k__law_draws b__law_draws (passW (takes_of rfl rfl rfl rfl)) (ca_one (ce_var 0))))
    (cs_cons (cs_set 2 S.nd (ce_call F__law_any_program (hr.mono (by decide)) hgd rfl X.g__law_any_program X.k__law_any_program b__law_any_program (passW (takes_of rfl rfl rfl rfl)) (ca_one (ce_var 1))))
    (cs_cons (cs_if (CW.ct (cw_or (ct_cmp op_isnotA (ot_is true) (ce_call F_is_program (hr.mono (by decide)) hgd rfl X.g_is_program X.k_is_program b_is_program (passW (takes_of rfl rfl rfl rfl)) (ca_one (ce_var 2))) ce_bl (nomark _)) (cw_or1 (ct_not (ct_tru (ce_call0 F__law_bounds_hold (hr.mono (by decide)) hgd rfl X.g__law_bounds_hold X.k__law_bounds_hold b__law_bounds_hold (passW (takes_of rfl rfl rfl rfl)))))))) (cs_one (cs_ret ce_bl)) cs_nil)
    (cs_cons (cs_for (passes_of rfl) rfl (ci_rng1 rfl X.b_range ce_int) (cg_nam 3 S.nd) (cs_cons (cs_set 4 S.nd (ce_call F__law_spoilt (hr.mono (by decide)) hgd rfl X.g__law_spoilt X.k__law_spoilt b__law_spoilt (passW (takes_of rfl rfl rfl rfl)) (ca_cons (ce_var 1) (ca_one (ce_var 2)))))
    (cs_cons (cs_set 5 S.nd (ce_call F__law_is_program (hr.mono (by decide)) hgd rfl X.g__law_is_program X.k__law_is_program b__law_is_program (passW (takes_of rfl rfl rfl rfl)) (ca_one (ce_var 4))))
    (cs_one (cs_if (CW.ct (cw_or (ct_cmp (op_neD hr.units) ot_ne (ce_bi (call_reprD hgd hr.units) ob_repr rfl X.b_repr rfl (ca_one (ce_call F_is_program (hr.mono (by decide)) hgd rfl X.g_is_program X.k_is_program b_is_program (passW (takes_of rfl rfl rfl rfl)) (ca_one (ce_var 4))))) (ce_bi (call_reprD hgd hr.units) ob_repr rfl X.b_repr rfl (ca_one (ce_var 5))) (nomark _)) (cw_or1 (ct_cmp (op_neD hr.units) ot_ne (ce_call F__law_asked (hr.mono (by decide)) hgd rfl X.g__law_asked X.k__law_asked b__law_asked (passW (takes_of rfl rfl rfl rfl)) (ca_one (ce_var 4))) (ce_if (ct_tru (ce_var 5)) ce_non (ce_tup (ca_one ce_str))) (nomark _))))) (cs_one (cs_ret ce_bl)) cs_nil)))))
    (cs_one (cs_ret (ce_cmp op_isA (ot_is false) (ce_call F__law_asked (hr.mono (by decide)) hgd rfl X.g__law_asked X.k__law_asked b__law_asked (passW (takes_of rfl rfl rfl rfl)) (ca_one (ce_var 2))) ce_non (nomark _))))))))
/-- the law, by the text alone -/
theorem all_ok {fd_is_within : FuncData} {c_is_within : Addr} (F_is_within : FunC K "is_within" "is_within" (top 7) a_is_within fd_is_within c_is_within) (b_is_within : Binds K fd_is_within ["value", "low", "high"] []) {fd_is_tuple_of : FuncData} {c_is_tuple_of : Addr} (F_is_tuple_of : FunC K "is_tuple_of" "is_tuple_of" (top 8) a_is_tuple_of fd_is_tuple_of c_is_tuple_of) (b_is_tuple_of : Binds K fd_is_tuple_of ["value", "size"] []) {fd_is_line : FuncData} {c_is_line : Addr} (F_is_line : FunC K "is_line" "is_line" (top 17) a_is_line fd_is_line c_is_line) (b_is_line : Binds K fd_is_line ["line"] []) {fd_is_instruction : FuncData} {c_is_instruction : Addr} (F_is_instruction : FunC K "is_instruction" "is_instruction" (top 16) a_is_instruction fd_is_instruction c_is_instruction) (b_is_instruction : Binds K fd_is_instruction ["instruction"] []) {fd_is_core : FuncData} {c_is_core P_is_core : Addr} (F_is_core : FunC K "is_core" "is_core" (top 15) a_is_core fd_is_core c_is_core) (b_is_core : Binds K fd_is_core ["core"] []) (TB_is_core : TabB base mg c_is_core P_is_core) (hP_is_core : P_is_core ∈ T) {fd_is_program : FuncData} {c_is_program P_is_program : Addr} (F_is_program : FunC K "is_program" "is_program" (top 14) a_is_program fd_is_program c_is_program) (b_is_program : Binds K fd_is_program ["program"] []) (TB_is_program : TabB base mg c_is_program P_is_program) (hP_is_program : P_is_program ∈ T) {fd_check_program : FuncData} {c_check_program : Addr} (F_check_program : FunC K "check_program" "check_program" (top 18) a_check_program fd_check_program c_check_program) (b_check_program : Binds K fd_check_program ["program"] []) {fd__law_number : FuncData} {c__law_number : Addr} (F__law_number : FunC K "_law_number" "_law_number" (top 20) a__law_number fd__law_number c__law_number) (b__law_number : Binds K fd__law_number ["cell"] []) {fd__law_draws : FuncData} {c__law_draws : Addr} (F__law_draws : FunC K "_law_draws" "_law_draws" (top 21) a__law_draws fd__law_draws c__law_draws) (b__law_draws : Binds K fd__law_draws ["script"] []) {fd__law_next : FuncData} {c__law_next : Addr} (F__law_next : FunC K "_law_next" "_law_next" (top 22) a__law_next fd__law_next c__law_next) (b__law_next : Binds K fd__law_next ["draws"] []) {fd__law_pick : FuncData} {c__law_pick : Addr} (F__law_pick : FunC K "_law_pick" "_law_pick" (top 23) a__law_pick fd__law_pick c__law_pick) (b__law_pick : Binds K fd__law_pick ["draws", "some"] []) {fd__law_put : FuncData} {c__law_put : Addr} (F__law_put : FunC K "_law_put" "_law_put" (top 24) a__law_put fd__law_put c__law_put) (b__law_put : Binds K fd__law_put ["parts", "at", "part"] []) {fd__law_one : FuncData} {c__law_one : Addr} (F__law_one : FunC K "_law_one" "_law_one" (top 25) a__law_one fd__law_one c__law_one) (b__law_one : Binds K fd__law_one ["draws", "lines"] []) {fd__law_program : FuncData} {c__law_program : Addr} (F__law_program : FunC K "_law_program" "_law_program" (top 26) a__law_program fd__law_program c__law_program) (b__law_program : Binds K fd__law_program ["draws", "cores", "most", "lines"] []) {fd__law_more : FuncData} {c__law_more : Addr} (F__law_more : FunC K "_law_more" "_law_more" (top 27) a__law_more fd__law_more c__law_more) (b__law_more : Binds K fd__law_more ["draws", "many"] []) {fd__law_any_program : FuncData} {c__law_any_program : Addr} (F__law_any_program : FunC K "_law_any_program" "_law_any_program" (top 28) a__law_any_program fd__law_any_program c__law_any_program) (b__law_any_program : Binds K fd__law_any_program ["draws"] []) {fd__law_is_one : FuncData} {c__law_is_one : Addr} (F__law_is_one : FunC K "_law_is_one" "_law_is_one" (top 29) a__law_is_one fd__law_is_one c__law_is_one) (b__law_is_one : Binds K fd__law_is_one ["one"] []) {fd__law_is_program : FuncData} {c__law_is_program : Addr} (F__law_is_program : FunC K "_law_is_program" "_law_is_program" (top 30) a__law_is_program fd__law_is_program c__law_is_program) (b__law_is_program : Binds K fd__law_is_program ["program"] []) {fd__law_spoilt : FuncData} {c__law_spoilt : Addr} (F__law_spoilt : FunC K "_law_spoilt" "_law_spoilt" (top 31) a__law_spoilt fd__law_spoilt c__law_spoilt) (b__law_spoilt : Binds K fd__law_spoilt ["draws", "program"] []) {fd__law_asked : FuncData} {c__law_asked : Addr} (F__law_asked : FunC K "_law_asked" "_law_asked" (top 32) a__law_asked fd__law_asked c__law_asked) (b__law_asked : Binds K fd__law_asked ["program"] []) {fd__law_bounds_hold : FuncData} {c__law_bounds_hold : Addr} (F__law_bounds_hold : FunC K "_law_bounds_hold" "_law_bounds_hold" (top 33) a__law_bounds_hold fd__law_bounds_hold c__law_bounds_hold) (b__law_bounds_hold : Binds K fd__law_bounds_hold [] []) {fd_law : FuncData} {c_law : Addr} (F_law : FunC K "law" "law" (top 34) a_law fd_law c_law) (b_law : Binds K fd_law ["script"] []) :
    FnG P w K mg base 10 a_law fd_law ["script"] (spS ⟨K, T⟩ 1 (s_law C_BadNumber C_NotObservation C_NotProgram C_NotTable)) := by
  have o_is_within : FnG P w K mg base 1 a_is_within fd_is_within ["value", "low", "high"] (spS ⟨K, T⟩ 3 s_is_within) := ok_is_within (Pt := 0) X F_is_within
  have o_is_tuple_of : FnG P w K mg base 1 a_is_tuple_of fd_is_tuple_of ["value", "size"] (spS ⟨K, T⟩ 2 s_is_tuple_of) := ok_is_tuple_of (Pt := 0) X F_is_tuple_of
  have o_is_line : FnG P w K mg base 2 a_is_line fd_is_line ["line"] (spS ⟨K, T⟩ 1 s_is_line) := ok_is_line (Pt := 0) X F_is_line o_is_within b_is_within
  have o_is_instruction : FnG P w K mg base 3 a_is_instruction fd_is_instruction ["instruction"] (spS ⟨K, T⟩ 1 s_is_instruction) := ok_is_instruction (Pt := 0) X F_is_instruction o_is_within b_is_within o_is_line b_is_line o_is_tuple_of b_is_tuple_of
  have o_is_core : FnG P w K mg base 5 a_is_core fd_is_core ["core"] (spS ⟨K, T⟩ 1 s_is_core) := ok_is_core (Pt := P_is_core) X F_is_core o_is_instruction b_is_instruction TB_is_core hP_is_core
  have o_is_program : FnG P w K mg base 7 a_is_program fd_is_program ["program"] (spS ⟨K, T⟩ 1 s_is_program) := ok_is_program (Pt := P_is_program) X F_is_program o_is_core b_is_core TB_is_program hP_is_program
  have o_check_program : FnG P w K mg base 8 a_check_program fd_check_program ["program"] (spS ⟨K, T⟩ 1 (s_check_program C_NotProgram)) := ok_check_program (Pt := 0) X F_check_program o_is_program b_is_program
  have o__law_number : FnG P w K mg base 1 a__law_number fd__law_number ["cell"] (spS ⟨K, T⟩ 1 s__law_number) := ok__law_number (Pt := 0) X F__law_number
  have o__law_draws : FnG P w K mg base 2 a__law_draws fd__law_draws ["script"] (spS ⟨K, T⟩ 1 s__law_draws) := ok__law_draws (Pt := 0) X F__law_draws o__law_number b__law_number
  have o__law_next : FnG P w K mg base 1 a__law_next fd__law_next ["draws"] (spS ⟨K, T⟩ 1 s__law_next) := ok__law_next (Pt := 0) X F__law_next
  have o__law_pick : FnG P w K mg base 2 a__law_pick fd__law_pick ["draws", "some"] (spS ⟨K, T⟩ 2 s__law_pick) := ok__law_pick (Pt := 0) X F__law_pick o__law_next b__law_next
  have o__law_put : FnG P w K mg base 1 a__law_put fd__law_put ["parts", "at", "part"] (spS ⟨K, T⟩ 3 s__law_put) := ok__law_put (Pt := 0) X F__law_put
  have o__law_one : FnG P w K mg base 2 a__law_one fd__law_one ["draws", "lines"] (spS ⟨K, T⟩ 2 s__law_one) := ok__law_one (Pt := 0) X F__law_one o__law_next b__law_next
  have o__law_program : FnG P w K mg base 3 a__law_program fd__law_program ["draws", "cores", "most", "lines"] (spS ⟨K, T⟩ 4 s__law_program) := ok__law_program (Pt := 0) X F__law_program o__law_next b__law_next o__law_one b__law_one
  have o__law_more : FnG P w K mg base 2 a__law_more fd__law_more ["draws", "many"] (spS ⟨K, T⟩ 2 s__law_more) := ok__law_more (Pt := 0) X F__law_more o__law_next b__law_next
  have o__law_any_program : FnG P w K mg base 4 a__law_any_program fd__law_any_program ["draws"] (spS ⟨K, T⟩ 1 s__law_any_program) := ok__law_any_program (Pt := 0) X F__law_any_program o__law_program b__law_program o__law_next b__law_next o__law_more b__law_more
  have o__law_is_one : FnG P w K mg base 1 a__law_is_one fd__law_is_one ["one"] (spS ⟨K, T⟩ 1 s__law_is_one) := ok__law_is_one (Pt := 0) X F__law_is_one
  have o__law_is_program : FnG P w K mg base 2 a__law_is_program fd__law_is_program ["program"] (spS ⟨K, T⟩ 1 s__law_is_program) := ok__law_is_program (Pt := 0) X F__law_is_program o__law_is_one b__law_is_one
  have o__law_spoilt : FnG P w K mg base 3 a__law_spoilt fd__law_spoilt ["draws", "program"] (spS ⟨K, T⟩ 2 s__law_spoilt) := ok__law_spoilt (Pt := 0) X F__law_spoilt o__law_put b__law_put o__law_pick b__law_pick o__law_next b__law_next
  have o__law_asked : FnG P w K mg base 9 a__law_asked fd__law_asked ["program"] (spS ⟨K, T⟩ 1 (s__law_asked C_BadNumber C_NotObservation C_NotProgram C_NotTable)) := ok__law_asked (Pt := 0) X F__law_asked o_check_program b_check_program
  have o__law_bounds_hold : FnG P w K mg base 8 a__law_bounds_hold fd__law_bounds_hold [] (spS ⟨K, T⟩ 0 s__law_bounds_hold) := ok__law_bounds_hold (Pt := 0) X F__law_bounds_hold o_is_program b_is_program
  have o_law : FnG P w K mg base 10 a_law fd_law ["script"] (spS ⟨K, T⟩ 1 (s_law C_BadNumber C_NotObservation C_NotProgram C_NotTable)) := ok_law (Pt := 0) X F_law o__law_asked b__law_asked o_is_program b_is_program o__law_is_program b__law_is_program o__law_spoilt b__law_spoilt o__law_bounds_hold b__law_bounds_hold o__law_any_program b__law_any_program o__law_draws b__law_draws
  exact o_law
end
/-- what the law asks of its store function, for any places of the classes -/
def Pure : Prop := ∀ (C_BadNumber C_NotObservation C_NotProgram C_NotTable : Addr) (ns : List Int), ns.length ≤ 63 → (∀ z ∈ ns, Builtin.Int.intBits z ≤ 1048576) → C_BadNumber ≠ C_NotProgram → C_NotObservation ≠ C_NotProgram → C_NotTable ≠ C_NotProgram → ∃ S, s_law C_BadNumber C_NotObservation C_NotProgram C_NotTable [.frz (ns.map D.int)] [] = .ok (.bl true) S
theorem all_mk {l : PySem.W.OpenLaw} {q : Program} {w : World} {K : PySem.W.Frag} {h : Heap} {mg : Str → Option Value} {fa : Addr} {a_is_within a_is_tuple_of a_is_line a_is_instruction a_is_core a_is_program a_check_program a__law_number a__law_draws a__law_next a__law_pick a__law_put a__law_one a__law_program a__law_more a__law_any_program a__law_is_one a__law_is_program a__law_spoilt a__law_asked a__law_bounds_hold a_law C_BadNumber C_CoheirError C_NotObservation C_NotProgram C_NotTable : Addr} {t_MOST_CORES t_MOST_INSTRUCTIONS t_MOST_LINE t_MOST_VALUE : Tok} {oc_is_within kV_is_within dc_is_within pm_is_within ct_is_within : Value} {od_is_within an_is_within : Option Addr} {sl_is_within : Array (Option Value)} {c_is_within : Addr} {oc_is_tuple_of kV_is_tuple_of dc_is_tuple_of pm_is_tuple_of ct_is_tuple_of : Value} {od_is_tuple_of an_is_tuple_of : Option Addr} {sl_is_tuple_of : Array (Option Value)} {c_is_tuple_of : Addr} {oc_is_line kV_is_line dc_is_line pm_is_line ct_is_line : Value} {od_is_line an_is_line : Option Addr} {sl_is_line : Array (Option Value)} {c_is_line : Addr} {oc_is_instruction kV_is_instruction dc_is_instruction pm_is_instruction ct_is_instruction : Value} {od_is_instruction an_is_instruction : Option Addr} {sl_is_instruction : Array (Option Value)} {c_is_instruction : Addr} {oc_is_core kV_is_core dc_is_core pm_is_core ct_is_core : Value} {od_is_core an_is_core : Option Addr} {sl_is_core : Array (Option Value)} {c_is_core : Addr} {oc_is_program kV_is_program dc_is_program pm_is_program ct_is_program : Value} {od_is_program an_is_program : Option Addr} {sl_is_program : Array (Option Value)} {c_is_program : Addr} {oc_check_program kV_check_program dc_check_program pm_check_program ct_check_program : Value} {od_check_program an_check_program : Option Addr} {sl_check_program : Array (Option Value)} {c_check_program : Addr} {oc__law_number kV__law_number dc__law_number pm__law_number ct__law_number : Value} {od__law_number an__law_number : Option Addr} {sl__law_number : Array (Option Value)} {c__law_number : Addr} {oc__law_draws kV__law_draws dc__law_draws pm__law_draws ct__law_draws : Value} {od__law_draws an__law_draws : Option Addr} {sl__law_draws : Array (Option Value)} {c__law_draws : Addr} {oc__law_next kV__law_next dc__law_next pm__law_next ct__law_next : Value} {od__law_next an__law_next : Option Addr} {sl__law_next : Array (Option Value)} {c__law_next : Addr} {oc__law_pick kV__law_pick dc__law_pick pm__law_pick ct__law_pick : Value} {od__law_pick an__law_pick : Option Addr} {sl__law_pick : Array (Option Value)} {c__law_pick : Addr} {oc__law_put kV__law_put dc__law_put pm__law_put ct__law_put : Value} {od__law_put an__law_put : Option Addr} {sl__law_put : Array (Option Value)} {c__law_put : Addr} {oc__law_one kV__law_one dc__law_one pm__law_one ct__law_one : Value} {od__law_one an__law_one : Option Addr} {sl__law_one : Array (Option Value)} {c__law_one : Addr} {oc__law_program kV__law_program dc__law_program pm__law_program ct__law_program : Value} {od__law_program an__law_program : Option Addr} {sl__law_program : Array (Option Value)} {c__law_program : Addr} {oc__law_more kV__law_more dc__law_more pm__law_more ct__law_more : Value} {od__law_more an__law_more : Option Addr} {sl__law_more : Array (Option Value)} {c__law_more : Addr} {oc__law_any_program kV__law_any_program dc__law_any_program pm__law_any_program ct__law_any_program : Value} {od__law_any_program an__law_any_program : Option Addr} {sl__law_any_program : Array (Option Value)} {c__law_any_program : Addr} {oc__law_is_one kV__law_is_one dc__law_is_one pm__law_is_one ct__law_is_one : Value} {od__law_is_one an__law_is_one : Option Addr} {sl__law_is_one : Array (Option Value)} {c__law_is_one : Addr} {oc__law_is_program kV__law_is_program dc__law_is_program pm__law_is_program ct__law_is_program : Value} {od__law_is_program an__law_is_program : Option Addr} {sl__law_is_program : Array (Option Value)} {c__law_is_program : Addr} {oc__law_spoilt kV__law_spoilt dc__law_spoilt pm__law_spoilt ct__law_spoilt : Value} {od__law_spoilt an__law_spoilt : Option Addr} {sl__law_spoilt : Array (Option Value)} {c__law_spoilt : Addr} {oc__law_asked kV__law_asked dc__law_asked pm__law_asked ct__law_asked : Value} {od__law_asked an__law_asked : Option Addr} {sl__law_asked : Array (Option Value)} {c__law_asked : Addr} {oc__law_bounds_hold kV__law_bounds_hold dc__law_bounds_hold pm__law_bounds_hold ct__law_bounds_hold : Value} {od__law_bounds_hold an__law_bounds_hold : Option Addr} {sl__law_bounds_hold : Array (Option Value)} {c__law_bounds_hold : Addr} {oc_law kV_law dc_law pm_law ct_law : Value} {od_law an_law : Option Addr} {sl_law : Array (Option Value)} {c_law : Addr} {P_is_core : Addr} {e_is_core : DefRec} {P_is_program : Addr} {e_is_program : DefRec} (hpure : Pure) (KX : K.In h) (G : h.Ns mainGlobals mg) (hfa : mg "law" = some (.ref fa))
    (TBL : ∀ (e : DefRec) (y : Str) (c P : Addr), (PyProof.Rows.recsOf q).find? (fun r => r.name == y) = some e → PySem.W.tabIn K y = some (c, P) → PySem.W.CodeHd h c P ∧ h.get? P = some { cls := .none, data := .fields #[] })
    (z_all : PySem.W.nsIn K mainGlobals "all" = some none)
    (z_any : PySem.W.nsIn K mainGlobals "any" = some none)
    (z_int : PySem.W.nsIn K mainGlobals "int" = some none)
    (z_isinstance : PySem.W.nsIn K mainGlobals "isinstance" = some none)
    (z_len : PySem.W.nsIn K mainGlobals "len" = some none)
    (z_list : PySem.W.nsIn K mainGlobals "list" = some none)
    (z_range : PySem.W.nsIn K mainGlobals "range" = some none)
    (z_repr : PySem.W.nsIn K mainGlobals "repr" = some none)
    (z_tuple : PySem.W.nsIn K mainGlobals "tuple" = some none)
    (z_type : PySem.W.nsIn K mainGlobals "type" = some none)
    (z_MOST_CORES : PySem.W.nsIn K mainGlobals "MOST_CORES" = some (some (.int 12 t_MOST_CORES)))
    (z_MOST_INSTRUCTIONS : PySem.W.nsIn K mainGlobals "MOST_INSTRUCTIONS" = some (some (.int 24 t_MOST_INSTRUCTIONS)))
    (z_MOST_LINE : PySem.W.nsIn K mainGlobals "MOST_LINE" = some (some (.int 3 t_MOST_LINE)))
    (z_MOST_VALUE : PySem.W.nsIn K mainGlobals "MOST_VALUE" = some (some (.int 99 t_MOST_VALUE)))
    (z_BadNumber : PySem.W.nsIn K mainGlobals "BadNumber" = some (some (.ref C_BadNumber)))
    (z_CoheirError : PySem.W.nsIn K mainGlobals "CoheirError" = some (some (.ref C_CoheirError)))
    (z_NotObservation : PySem.W.nsIn K mainGlobals "NotObservation" = some (some (.ref C_NotObservation)))
    (z_NotProgram : PySem.W.nsIn K mainGlobals "NotProgram" = some (some (.ref C_NotProgram)))
    (z_NotTable : PySem.W.nsIn K mainGlobals "NotTable" = some (some (.ref C_NotTable)))
    (n_is_within : PySem.W.nsIn K mainGlobals "is_within" = some (some (.ref a_is_within)))
    (l_is_within : K.lookup a_is_within = some ⟨oc_is_within, od_is_within, .func (PySem.W.fnOf "is_within" "is_within" (defArgs (top 7)) (defBody (top 7)) (defScope (top 7)) .none kV_is_within dc_is_within pm_is_within an_is_within (.ref c_is_within) ct_is_within), sl_is_within⟩)
    (d_is_within : PySem.W.codeIn K (.ref c_is_within) "is_within" = true)
    (k_is_within : PySem.W.keepIn K (.ref a_is_within) = true)
    (n_is_tuple_of : PySem.W.nsIn K mainGlobals "is_tuple_of" = some (some (.ref a_is_tuple_of)))
    (l_is_tuple_of : K.lookup a_is_tuple_of = some ⟨oc_is_tuple_of, od_is_tuple_of, .func (PySem.W.fnOf "is_tuple_of" "is_tuple_of" (defArgs (top 8)) (defBody (top 8)) (defScope (top 8)) .none kV_is_tuple_of dc_is_tuple_of pm_is_tuple_of an_is_tuple_of (.ref c_is_tuple_of) ct_is_tuple_of), sl_is_tuple_of⟩)
    (d_is_tuple_of : PySem.W.codeIn K (.ref c_is_tuple_of) "is_tuple_of" = true)
    (k_is_tuple_of : PySem.W.keepIn K (.ref a_is_tuple_of) = true)
    (n_is_line : PySem.W.nsIn K mainGlobals "is_line" = some (some (.ref a_is_line)))
    (l_is_line : K.lookup a_is_line = some ⟨oc_is_line, od_is_line, .func (PySem.W.fnOf "is_line" "is_line" (defArgs (top 17)) (defBody (top 17)) (defScope (top 17)) .none kV_is_line dc_is_line pm_is_line an_is_line (.ref c_is_line) ct_is_line), sl_is_line⟩)
    (d_is_line : PySem.W.codeIn K (.ref c_is_line) "is_line" = true)
    (k_is_line : PySem.W.keepIn K (.ref a_is_line) = true)
    (n_is_instruction : PySem.W.nsIn K mainGlobals "is_instruction" = some (some (.ref a_is_instruction)))
    (l_is_instruction : K.lookup a_is_instruction = some ⟨oc_is_instruction, od_is_instruction, .func (PySem.W.fnOf "is_instruction" "is_instruction" (defArgs (top 16)) (defBody (top 16)) (defScope (top 16)) .none kV_is_instruction dc_is_instruction pm_is_instruction an_is_instruction (.ref c_is_instruction) ct_is_instruction), sl_is_instruction⟩)
    (d_is_instruction : PySem.W.codeIn K (.ref c_is_instruction) "is_instruction" = true)
    (k_is_instruction : PySem.W.keepIn K (.ref a_is_instruction) = true)
    (n_is_core : PySem.W.nsIn K mainGlobals "is_core" = some (some (.ref a_is_core)))
    (l_is_core : K.lookup a_is_core = some ⟨oc_is_core, od_is_core, .func (PySem.W.fnOf "is_core" "is_core" (defArgs (top 15)) (defBody (top 15)) (defScope (top 15)) .none kV_is_core dc_is_core pm_is_core an_is_core (.ref c_is_core) ct_is_core), sl_is_core⟩)
    (d_is_core : PySem.W.codeIn K (.ref c_is_core) "is_core" = true)
    (k_is_core : PySem.W.keepIn K (.ref a_is_core) = true)
    (n_is_program : PySem.W.nsIn K mainGlobals "is_program" = some (some (.ref a_is_program)))
    (l_is_program : K.lookup a_is_program = some ⟨oc_is_program, od_is_program, .func (PySem.W.fnOf "is_program" "is_program" (defArgs (top 14)) (defBody (top 14)) (defScope (top 14)) .none kV_is_program dc_is_program pm_is_program an_is_program (.ref c_is_program) ct_is_program), sl_is_program⟩)
    (d_is_program : PySem.W.codeIn K (.ref c_is_program) "is_program" = true)
    (k_is_program : PySem.W.keepIn K (.ref a_is_program) = true)
    (n_check_program : PySem.W.nsIn K mainGlobals "check_program" = some (some (.ref a_check_program)))
    (l_check_program : K.lookup a_check_program = some ⟨oc_check_program, od_check_program, .func (PySem.W.fnOf "check_program" "check_program" (defArgs (top 18)) (defBody (top 18)) (defScope (top 18)) .none kV_check_program dc_check_program pm_check_program an_check_program (.ref c_check_program) ct_check_program), sl_check_program⟩)
    (d_check_program : PySem.W.codeIn K (.ref c_check_program) "check_program" = true)
    (k_check_program : PySem.W.keepIn K (.ref a_check_program) = true)
    (n__law_number : PySem.W.nsIn K mainGlobals "_law_number" = some (some (.ref a__law_number)))
    (l__law_number : K.lookup a__law_number = some ⟨oc__law_number, od__law_number, .func (PySem.W.fnOf "_law_number" "_law_number" (defArgs (top 20)) (defBody (top 20)) (defScope (top 20)) .none kV__law_number dc__law_number pm__law_number an__law_number (.ref c__law_number) ct__law_number), sl__law_number⟩)
    (d__law_number : PySem.W.codeIn K (.ref c__law_number) "_law_number" = true)
    (k__law_number : PySem.W.keepIn K (.ref a__law_number) = true)
    (n__law_draws : PySem.W.nsIn K mainGlobals "_law_draws" = some (some (.ref a__law_draws)))
    (l__law_draws : K.lookup a__law_draws = some ⟨oc__law_draws, od__law_draws, .func (PySem.W.fnOf "_law_draws" "_law_draws" (defArgs (top 21)) (defBody (top 21)) (defScope (top 21)) .none kV__law_draws dc__law_draws pm__law_draws an__law_draws (.ref c__law_draws) ct__law_draws), sl__law_draws⟩)
    (d__law_draws : PySem.W.codeIn K (.ref c__law_draws) "_law_draws" = true)
    (k__law_draws : PySem.W.keepIn K (.ref a__law_draws) = true)
    (n__law_next : PySem.W.nsIn K mainGlobals "_law_next" = some (some (.ref a__law_next)))
    (l__law_next : K.lookup a__law_next = some ⟨oc__law_next, od__law_next, .func (PySem.W.fnOf "_law_next" "_law_next" (defArgs (top 22)) (defBody (top 22)) (defScope (top 22)) .none kV__law_next dc__law_next pm__law_next an__law_next (.ref c__law_next) ct__law_next), sl__law_next⟩)
    (d__law_next : PySem.W.codeIn K (.ref c__law_next) "_law_next" = true)
    (k__law_next : PySem.W.keepIn K (.ref a__law_next) = true)
    (n__law_pick : PySem.W.nsIn K mainGlobals "_law_pick" = some (some (.ref a__law_pick)))
    (l__law_pick : K.lookup a__law_pick = some ⟨oc__law_pick, od__law_pick, .func (PySem.W.fnOf "_law_pick" "_law_pick" (defArgs (top 23)) (defBody (top 23)) (defScope (top 23)) .none kV__law_pick dc__law_pick pm__law_pick an__law_pick (.ref c__law_pick) ct__law_pick), sl__law_pick⟩)
    (d__law_pick : PySem.W.codeIn K (.ref c__law_pick) "_law_pick" = true)
    (k__law_pick : PySem.W.keepIn K (.ref a__law_pick) = true)
    (n__law_put : PySem.W.nsIn K mainGlobals "_law_put" = some (some (.ref a__law_put)))
    (l__law_put : K.lookup a__law_put = some ⟨oc__law_put, od__law_put, .func (PySem.W.fnOf "_law_put" "_law_put" (defArgs (top 24)) (defBody (top 24)) (defScope (top 24)) .none kV__law_put dc__law_put pm__law_put an__law_put (.ref c__law_put) ct__law_put), sl__law_put⟩)
    (d__law_put : PySem.W.codeIn K (.ref c__law_put) "_law_put" = true)
    (k__law_put : PySem.W.keepIn K (.ref a__law_put) = true)
    (n__law_one : PySem.W.nsIn K mainGlobals "_law_one" = some (some (.ref a__law_one)))
    (l__law_one : K.lookup a__law_one = some ⟨oc__law_one, od__law_one, .func (PySem.W.fnOf "_law_one" "_law_one" (defArgs (top 25)) (defBody (top 25)) (defScope (top 25)) .none kV__law_one dc__law_one pm__law_one an__law_one (.ref c__law_one) ct__law_one), sl__law_one⟩)
    (d__law_one : PySem.W.codeIn K (.ref c__law_one) "_law_one" = true)
    (k__law_one : PySem.W.keepIn K (.ref a__law_one) = true)
    (n__law_program : PySem.W.nsIn K mainGlobals "_law_program" = some (some (.ref a__law_program)))
    (l__law_program : K.lookup a__law_program = some ⟨oc__law_program, od__law_program, .func (PySem.W.fnOf "_law_program" "_law_program" (defArgs (top 26)) (defBody (top 26)) (defScope (top 26)) .none kV__law_program dc__law_program pm__law_program an__law_program (.ref c__law_program) ct__law_program), sl__law_program⟩)
    (d__law_program : PySem.W.codeIn K (.ref c__law_program) "_law_program" = true)
    (k__law_program : PySem.W.keepIn K (.ref a__law_program) = true)
    (n__law_more : PySem.W.nsIn K mainGlobals "_law_more" = some (some (.ref a__law_more)))
    (l__law_more : K.lookup a__law_more = some ⟨oc__law_more, od__law_more, .func (PySem.W.fnOf "_law_more" "_law_more" (defArgs (top 27)) (defBody (top 27)) (defScope (top 27)) .none kV__law_more dc__law_more pm__law_more an__law_more (.ref c__law_more) ct__law_more), sl__law_more⟩)
    (d__law_more : PySem.W.codeIn K (.ref c__law_more) "_law_more" = true)
    (k__law_more : PySem.W.keepIn K (.ref a__law_more) = true)
    (n__law_any_program : PySem.W.nsIn K mainGlobals "_law_any_program" = some (some (.ref a__law_any_program)))
    (l__law_any_program : K.lookup a__law_any_program = some ⟨oc__law_any_program, od__law_any_program, .func (PySem.W.fnOf "_law_any_program" "_law_any_program" (defArgs (top 28)) (defBody (top 28)) (defScope (top 28)) .none kV__law_any_program dc__law_any_program pm__law_any_program an__law_any_program (.ref c__law_any_program) ct__law_any_program), sl__law_any_program⟩)
    (d__law_any_program : PySem.W.codeIn K (.ref c__law_any_program) "_law_any_program" = true)
    (k__law_any_program : PySem.W.keepIn K (.ref a__law_any_program) = true)
    (n__law_is_one : PySem.W.nsIn K mainGlobals "_law_is_one" = some (some (.ref a__law_is_one)))
    (l__law_is_one : K.lookup a__law_is_one = some ⟨oc__law_is_one, od__law_is_one, .func (PySem.W.fnOf "_law_is_one" "_law_is_one" (defArgs (top 29)) (defBody (top 29)) (defScope (top 29)) .none kV__law_is_one dc__law_is_one pm__law_is_one an__law_is_one (.ref c__law_is_one) ct__law_is_one), sl__law_is_one⟩)
    (d__law_is_one : PySem.W.codeIn K (.ref c__law_is_one) "_law_is_one" = true)
    (k__law_is_one : PySem.W.keepIn K (.ref a__law_is_one) = true)
    (n__law_is_program : PySem.W.nsIn K mainGlobals "_law_is_program" = some (some (.ref a__law_is_program)))
    (l__law_is_program : K.lookup a__law_is_program = some ⟨oc__law_is_program, od__law_is_program, .func (PySem.W.fnOf "_law_is_program" "_law_is_program" (defArgs (top 30)) (defBody (top 30)) (defScope (top 30)) .none kV__law_is_program dc__law_is_program pm__law_is_program an__law_is_program (.ref c__law_is_program) ct__law_is_program), sl__law_is_program⟩)
    (d__law_is_program : PySem.W.codeIn K (.ref c__law_is_program) "_law_is_program" = true)
    (k__law_is_program : PySem.W.keepIn K (.ref a__law_is_program) = true)
    (n__law_spoilt : PySem.W.nsIn K mainGlobals "_law_spoilt" = some (some (.ref a__law_spoilt)))
    (l__law_spoilt : K.lookup a__law_spoilt = some ⟨oc__law_spoilt, od__law_spoilt, .func (PySem.W.fnOf "_law_spoilt" "_law_spoilt" (defArgs (top 31)) (defBody (top 31)) (defScope (top 31)) .none kV__law_spoilt dc__law_spoilt pm__law_spoilt an__law_spoilt (.ref c__law_spoilt) ct__law_spoilt), sl__law_spoilt⟩)
    (d__law_spoilt : PySem.W.codeIn K (.ref c__law_spoilt) "_law_spoilt" = true)
    (k__law_spoilt : PySem.W.keepIn K (.ref a__law_spoilt) = true)
    (n__law_asked : PySem.W.nsIn K mainGlobals "_law_asked" = some (some (.ref a__law_asked)))
    (l__law_asked : K.lookup a__law_asked = some ⟨oc__law_asked, od__law_asked, .func (PySem.W.fnOf "_law_asked" "_law_asked" (defArgs (top 32)) (defBody (top 32)) (defScope (top 32)) .none kV__law_asked dc__law_asked pm__law_asked an__law_asked (.ref c__law_asked) ct__law_asked), sl__law_asked⟩)
    (d__law_asked : PySem.W.codeIn K (.ref c__law_asked) "_law_asked" = true)
    (k__law_asked : PySem.W.keepIn K (.ref a__law_asked) = true)
    (n__law_bounds_hold : PySem.W.nsIn K mainGlobals "_law_bounds_hold" = some (some (.ref a__law_bounds_hold)))
    (l__law_bounds_hold : K.lookup a__law_bounds_hold = some ⟨oc__law_bounds_hold, od__law_bounds_hold, .func (PySem.W.fnOf "_law_bounds_hold" "_law_bounds_hold" (defArgs (top 33)) (defBody (top 33)) (defScope (top 33)) .none kV__law_bounds_hold dc__law_bounds_hold pm__law_bounds_hold an__law_bounds_hold (.ref c__law_bounds_hold) ct__law_bounds_hold), sl__law_bounds_hold⟩)
    (d__law_bounds_hold : PySem.W.codeIn K (.ref c__law_bounds_hold) "_law_bounds_hold" = true)
    (k__law_bounds_hold : PySem.W.keepIn K (.ref a__law_bounds_hold) = true)
    (n_law : PySem.W.nsIn K mainGlobals "law" = some (some (.ref a_law)))
    (l_law : K.lookup a_law = some ⟨oc_law, od_law, .func (PySem.W.fnOf "law" "law" (defArgs (top 34)) (defBody (top 34)) (defScope (top 34)) .none kV_law dc_law pm_law an_law (.ref c_law) ct_law), sl_law⟩)
    (d_law : PySem.W.codeIn K (.ref c_law) "law" = true)
    (k_law : PySem.W.keepIn K (.ref a_law) = true)
    (x_NotProgram : PySem.W.excIn K C_NotProgram [.type "ValueError", .type "Exception", .type "BaseException", .type "object"] "ValueError.__new__" = true)
    (k_NotProgram : PySem.W.keepIn K (.ref C_NotProgram) = true)
    (s_NotProgram : PySem.W.subIn K (.ref C_NotProgram) (.type "BaseException") = some true)
    (t_NotProgram : PySem.W.typeIn K (.ref C_NotProgram) = some (.type "type"))
    (m_NotProgram_CoheirError : PySem.W.exmOne K (.ref C_NotProgram) (.ref C_CoheirError) = some true)
    (hg_NotProgram : PySem.W.findIn K (.ref C_NotProgram) "__getattribute__" = some (some (.builtin "BaseException.__getattribute__")))
    (hk_NotProgram : PySem.W.findIn K (.ref C_NotProgram) "__getattr__" = some none)
    (hs_NotProgram : PySem.W.subIn K (.ref C_NotProgram) (.type "BaseException") = some true)
    (hd_NotProgram : PySem.W.hasDictIn K C_NotProgram = true)
    (ha_NotProgram : PySem.W.findIn K (.ref C_NotProgram) "__class__" = some (some (.builtin "object.__class__")))
    (hm_NotProgram : PySem.W.mroIn K C_NotProgram (.type "object") = some true)
    (hn_NotProgram : PySem.W.specialIn K (.builtin "object.__class__") "__get__" = some (some (.builtin "getset_descriptor.__get__")))
    (ht_NotProgram : PySem.W.takesIn K (.builtin "object.__class__") = some true)
    (i_NotProgram_BadNumber : PySem.W.kitOne K (.ref C_NotProgram) (.ref C_BadNumber) = some false)
    (i_NotProgram_NotObservation : PySem.W.kitOne K (.ref C_NotProgram) (.ref C_NotObservation) = some false)
    (i_NotProgram_NotProgram : PySem.W.kitOne K (.ref C_NotProgram) (.ref C_NotProgram) = some true)
    (i_NotProgram_NotTable : PySem.W.kitOne K (.ref C_NotProgram) (.ref C_NotTable) = some false)
    (u_is_core : PySem.W.tabIn K "is_core" = some (c_is_core, P_is_core))
    (v_is_core : K.lookup P_is_core = none)
    (r_is_core : (PyProof.Rows.recsOf q).find? (fun r => r.name == ("is_core" : Str)) = some e_is_core)
    (u_is_program : PySem.W.tabIn K "is_program" = some (c_is_program, P_is_program))
    (v_is_program : K.lookup P_is_program = none)
    (r_is_program : (PyProof.Rows.recsOf q).find? (fun r => r.name == ("is_program" : Str)) = some e_is_program)
    : ∃ (fd : FuncData) (cs : List (Addr × Addr)) (f : List D → Sto → R D), (∀ p ∈ cs, h.get? p.2 = some { cls := .none, data := .fields #[] }) ∧ (∀ p ∈ cs, K.lookup p.2 = none) ∧ (∀ p ∈ cs, PySem.W.CodeHd h p.1 p.2) ∧ (∀ (s : Shared) (u : Value), BindsTo s fd ⟨[u], []⟩ [(("script" : Str), u)]) ∧
        (∀ ns : List Int, ns.length ≤ 63 → (∀ z ∈ ns, Builtin.Int.intBits z ≤ 1048576) → ∃ S, f [.frz (ns.map D.int)] [] = .ok (.bl true) S) ∧
        ∀ base : Heap, K.In base → base.Ns mainGlobals mg → (∀ p ∈ cs, TabB base mg p.1 p.2) → FnG l.prog w K mg base 10 fa fd ["script"] (spS ⟨K, cs.map (·.2)⟩ 1 f) := by
  have e0 : a_law = fa := (Value.ref.inj (Option.some.inj (hfa.symm.trans (PySem.W.mg_of KX G n_law)))).symm
  subst e0
  have X : Txt K mg a_is_within a_is_tuple_of a_is_line a_is_instruction a_is_core a_is_program a_check_program a__law_number a__law_draws a__law_next a__law_pick a__law_put a__law_one a__law_program a__law_more a__law_any_program a__law_is_one a__law_is_program a__law_spoilt a__law_asked a__law_bounds_hold a_law C_BadNumber C_CoheirError C_NotObservation C_NotProgram C_NotTable := {
    b_all := PySem.W.mg_none_of KX G z_all
    b_any := PySem.W.mg_none_of KX G z_any
    b_int := PySem.W.mg_none_of KX G z_int
    b_isinstance := PySem.W.mg_none_of KX G z_isinstance
    b_len := PySem.W.mg_none_of KX G z_len
    b_list := PySem.W.mg_none_of KX G z_list
    b_range := PySem.W.mg_none_of KX G z_range
    b_repr := PySem.W.mg_none_of KX G z_repr
    b_tuple := PySem.W.mg_none_of KX G z_tuple
    b_type := PySem.W.mg_none_of KX G z_type
    c_MOST_CORES := ⟨_, PySem.W.mg_of KX G z_MOST_CORES⟩
    c_MOST_INSTRUCTIONS := ⟨_, PySem.W.mg_of KX G z_MOST_INSTRUCTIONS⟩
    c_MOST_LINE := ⟨_, PySem.W.mg_of KX G z_MOST_LINE⟩
    c_MOST_VALUE := ⟨_, PySem.W.mg_of KX G z_MOST_VALUE⟩
    g_is_within := PySem.W.mg_of KX G n_is_within
    k_is_within := k_is_within
    g_is_tuple_of := PySem.W.mg_of KX G n_is_tuple_of
    k_is_tuple_of := k_is_tuple_of
    g_is_line := PySem.W.mg_of KX G n_is_line
    k_is_line := k_is_line
    g_is_instruction := PySem.W.mg_of KX G n_is_instruction
    k_is_instruction := k_is_instruction
    g_is_core := PySem.W.mg_of KX G n_is_core
    k_is_core := k_is_core
    g_is_program := PySem.W.mg_of KX G n_is_program
    k_is_program := k_is_program
    g_check_program := PySem.W.mg_of KX G n_check_program
    k_check_program := k_check_program
    g__law_number := PySem.W.mg_of KX G n__law_number
    k__law_number := k__law_number
    g__law_draws := PySem.W.mg_of KX G n__law_draws
    k__law_draws := k__law_draws
    g__law_next := PySem.W.mg_of KX G n__law_next
    k__law_next := k__law_next
    g__law_pick := PySem.W.mg_of KX G n__law_pick
    k__law_pick := k__law_pick
    g__law_put := PySem.W.mg_of KX G n__law_put
    k__law_put := k__law_put
    g__law_one := PySem.W.mg_of KX G n__law_one
    k__law_one := k__law_one
    g__law_program := PySem.W.mg_of KX G n__law_program
    k__law_program := k__law_program
    g__law_more := PySem.W.mg_of KX G n__law_more
    k__law_more := k__law_more
    g__law_any_program := PySem.W.mg_of KX G n__law_any_program
    k__law_any_program := k__law_any_program
    g__law_is_one := PySem.W.mg_of KX G n__law_is_one
    k__law_is_one := k__law_is_one
    g__law_is_program := PySem.W.mg_of KX G n__law_is_program
    k__law_is_program := k__law_is_program
    g__law_spoilt := PySem.W.mg_of KX G n__law_spoilt
    k__law_spoilt := k__law_spoilt
    g__law_asked := PySem.W.mg_of KX G n__law_asked
    k__law_asked := k__law_asked
    g__law_bounds_hold := PySem.W.mg_of KX G n__law_bounds_hold
    k__law_bounds_hold := k__law_bounds_hold
    g_law := PySem.W.mg_of KX G n_law
    k_law := k_law
    g_BadNumber := PySem.W.mg_of KX G z_BadNumber
    g_CoheirError := PySem.W.mg_of KX G z_CoheirError
    g_NotObservation := PySem.W.mg_of KX G z_NotObservation
    g_NotProgram := PySem.W.mg_of KX G z_NotProgram
    g_NotTable := PySem.W.mg_of KX G z_NotTable
    x_NotProgram := x_NotProgram
    k_NotProgram := k_NotProgram
    s_NotProgram := s_NotProgram
    t_NotProgram := t_NotProgram
    m_NotProgram_CoheirError := m_NotProgram_CoheirError
    e_NotProgram := ⟨hg_NotProgram, hk_NotProgram, hs_NotProgram, hd_NotProgram, ha_NotProgram, hn_NotProgram, ht_NotProgram, hm_NotProgram⟩
    i_NotProgram_BadNumber := i_NotProgram_BadNumber
    i_NotProgram_NotObservation := i_NotProgram_NotObservation
    i_NotProgram_NotProgram := i_NotProgram_NotProgram
    i_NotProgram_NotTable := i_NotProgram_NotTable
  }
  have F_is_within := funC_mk (st := top 7) l_is_within d_is_within k_is_within
  have b_is_within := F_is_within.binds (ps := ["value", "low", "high"]) fun _ _ _ _ _ us hl => match us, hl with | [_, _, _], _ => rfl
  have F_is_tuple_of := funC_mk (st := top 8) l_is_tuple_of d_is_tuple_of k_is_tuple_of
  have b_is_tuple_of := F_is_tuple_of.binds (ps := ["value", "size"]) fun _ _ _ _ _ us hl => match us, hl with | [_, _], _ => rfl
  have F_is_line := funC_mk (st := top 17) l_is_line d_is_line k_is_line
  have b_is_line := F_is_line.binds (ps := ["line"]) fun _ _ _ _ _ us hl => match us, hl with | [_], _ => rfl
  have F_is_instruction := funC_mk (st := top 16) l_is_instruction d_is_instruction k_is_instruction
  have b_is_instruction := F_is_instruction.binds (ps := ["instruction"]) fun _ _ _ _ _ us hl => match us, hl with | [_], _ => rfl
  have F_is_core := funC_mk (st := top 15) l_is_core d_is_core k_is_core
  have b_is_core := F_is_core.binds (ps := ["core"]) fun _ _ _ _ _ us hl => match us, hl with | [_], _ => rfl
  have F_is_program := funC_mk (st := top 14) l_is_program d_is_program k_is_program
  have b_is_program := F_is_program.binds (ps := ["program"]) fun _ _ _ _ _ us hl => match us, hl with | [_], _ => rfl
  have F_check_program := funC_mk (st := top 18) l_check_program d_check_program k_check_program
  have b_check_program := F_check_program.binds (ps := ["program"]) fun _ _ _ _ _ us hl => match us, hl with | [_], _ => rfl
  have F__law_number := funC_mk (st := top 20) l__law_number d__law_number k__law_number
  have b__law_number := F__law_number.binds (ps := ["cell"]) fun _ _ _ _ _ us hl => match us, hl with | [_], _ => rfl
  have F__law_draws := funC_mk (st := top 21) l__law_draws d__law_draws k__law_draws
  have b__law_draws := F__law_draws.binds (ps := ["script"]) fun _ _ _ _ _ us hl => match us, hl with | [_], _ => rfl
  have F__law_next := funC_mk (st := top 22) l__law_next d__law_next k__law_next
  have b__law_next := F__law_next.binds (ps := ["draws"]) fun _ _ _ _ _ us hl => match us, hl with | [_], _ => rfl
  have F__law_pick := funC_mk (st := top 23) l__law_pick d__law_pick k__law_pick
  have b__law_pick := F__law_pick.binds (ps := ["draws", "some"]) fun _ _ _ _ _ us hl => match us, hl with | [_, _], _ => rfl
  have F__law_put := funC_mk (st := top 24) l__law_put d__law_put k__law_put
  have b__law_put := F__law_put.binds (ps := ["parts", "at", "part"]) fun _ _ _ _ _ us hl => match us, hl with | [_, _, _], _ => rfl
  have F__law_one := funC_mk (st := top 25) l__law_one d__law_one k__law_one
  have b__law_one := F__law_one.binds (ps := ["draws", "lines"]) fun _ _ _ _ _ us hl => match us, hl with | [_, _], _ => rfl
  have F__law_program := funC_mk (st := top 26) l__law_program d__law_program k__law_program
  have b__law_program := F__law_program.binds (ps := ["draws", "cores", "most", "lines"]) fun _ _ _ _ _ us hl => match us, hl with | [_, _, _, _], _ => rfl
  have F__law_more := funC_mk (st := top 27) l__law_more d__law_more k__law_more
  have b__law_more := F__law_more.binds (ps := ["draws", "many"]) fun _ _ _ _ _ us hl => match us, hl with | [_, _], _ => rfl
  have F__law_any_program := funC_mk (st := top 28) l__law_any_program d__law_any_program k__law_any_program
  have b__law_any_program := F__law_any_program.binds (ps := ["draws"]) fun _ _ _ _ _ us hl => match us, hl with | [_], _ => rfl
  have F__law_is_one := funC_mk (st := top 29) l__law_is_one d__law_is_one k__law_is_one
  have b__law_is_one := F__law_is_one.binds (ps := ["one"]) fun _ _ _ _ _ us hl => match us, hl with | [_], _ => rfl
  have F__law_is_program := funC_mk (st := top 30) l__law_is_program d__law_is_program k__law_is_program
  have b__law_is_program := F__law_is_program.binds (ps := ["program"]) fun _ _ _ _ _ us hl => match us, hl with | [_], _ => rfl
  have F__law_spoilt := funC_mk (st := top 31) l__law_spoilt d__law_spoilt k__law_spoilt
  have b__law_spoilt := F__law_spoilt.binds (ps := ["draws", "program"]) fun _ _ _ _ _ us hl => match us, hl with | [_, _], _ => rfl
  have F__law_asked := funC_mk (st := top 32) l__law_asked d__law_asked k__law_asked
  have b__law_asked := F__law_asked.binds (ps := ["program"]) fun _ _ _ _ _ us hl => match us, hl with | [_], _ => rfl
  have F__law_bounds_hold := funC_mk (st := top 33) l__law_bounds_hold d__law_bounds_hold k__law_bounds_hold
  have b__law_bounds_hold := F__law_bounds_hold.binds (ps := []) fun _ _ _ _ _ us hl => match us, hl with | [], _ => rfl
  have F_law := funC_mk (st := top 34) l_law d_law k_law
  have b_law := F_law.binds (ps := ["script"]) fun _ _ _ _ _ us hl => match us, hl with | [_], _ => rfl
  have tt_is_core := TBL _ _ _ _ r_is_core u_is_core
  have tt_is_program := TBL _ _ _ _ r_is_program u_is_program
  refine ⟨PySem.W.fnOf "law" "law" (defArgs (top 34)) (defBody (top 34)) (defScope (top 34)) .none kV_law dc_law pm_law an_law (.ref c_law) ct_law, [(c_is_core, P_is_core), (c_is_program, P_is_program)], s_law C_BadNumber C_NotObservation C_NotProgram C_NotTable, (by intro p hp; simp only [List.mem_cons, List.not_mem_nil, or_false] at hp; rcases hp with rfl | rfl <;> first | exact tt_is_core.2 | exact tt_is_program.2), (by intro p hp; simp only [List.mem_cons, List.not_mem_nil, or_false] at hp; rcases hp with rfl | rfl <;> first | exact v_is_core | exact v_is_program), (by intro p hp; simp only [List.mem_cons, List.not_mem_nil, or_false] at hp; rcases hp with rfl | rfl <;> first | exact tt_is_core.1 | exact tt_is_program.1), fun s v => .of_eq rfl, fun ns h1 h2 => hpure C_BadNumber C_NotObservation C_NotProgram C_NotTable ns h1 h2 (fun z => by have q1 := i_NotProgram_BadNumber; rw [z] at q1; have q2 := q1.symm.trans i_NotProgram_NotProgram; cases q2) (fun z => by have q1 := i_NotProgram_NotObservation; rw [z] at q1; have q2 := q1.symm.trans i_NotProgram_NotProgram; cases q2) (fun z => by have q1 := i_NotProgram_NotTable; rw [z] at q1; have q2 := q1.symm.trans i_NotProgram_NotProgram; cases q2), fun base _ _ TB => ?_⟩
  exact all_ok X F_is_within b_is_within F_is_tuple_of b_is_tuple_of F_is_line b_is_line F_is_instruction b_is_instruction F_is_core b_is_core (TB (c_is_core, P_is_core) (by simp)) (by simp) F_is_program b_is_program (TB (c_is_program, P_is_program) (by simp)) (by simp) F_check_program b_check_program F__law_number b__law_number F__law_draws b__law_draws F__law_next b__law_next F__law_pick b__law_pick F__law_put b__law_put F__law_one b__law_one F__law_program b__law_program F__law_more b__law_more F__law_any_program b__law_any_program F__law_is_one b__law_is_one F__law_is_program b__law_is_program F__law_spoilt b__law_spoilt F__law_asked b__law_asked F__law_bounds_hold b__law_bounds_hold F_law b_law
end K12
namespace K12
open PySem PySem.Spec L2 Ti
theorem kit_tup : kitB "tuple" "tuple" = some true := by decide +kernel
theorem line_big : 100000 ≤ sizeLine := by decide

theorem is_within_ok (n lo hi : Int) (S : Sto) : s_is_within [.int n, .int lo, .int hi] S = .ok (.bl (decide (lo ≤ n) && decide (n ≤ hi))) S := by
  unfold s_is_within m_is_within
  simp [run_done, done_nx, done_rt, done_exc, sseq_and, sand_nx, sand_rt, sand_bk, sand_ct, sasg_nam, sret_up, sexp_up, sif_up, lft_up, up_ok, up_exc, bnd_and, and_ok, and_exc, mtru_tru, tru_bl, tru_tup, mtst_tst, tst_bl, mvar, mcon, mnil, mcons, mop, mandV, mchain, mbi, mcall, morT, mandT, mnotT, mnotV, mif, mtup, snil, mnew, mlist, mneg, bTy, bIsi, bLen, bInt, tyD, seqOf, lstOf, dIs, dIB, dI, dEq_int, ite_and, ite_or, ite_andB, ite_orB, sizeLine_eq]
theorem is_line_ok (n : Int) (S : Sto) : s_is_line [.int n] S = .ok (.bl (decide (0 ≤ n) && decide (n ≤ 3))) S := by
  unfold s_is_line m_is_line
  simp [run_done, done_nx, done_rt, done_exc, sseq_and, sand_nx, sand_rt, sand_bk, sand_ct, sasg_nam, sret_up, sexp_up, sif_up, lft_up, up_ok, up_exc, bnd_and, and_ok, and_exc, mtru_tru, tru_bl, tru_tup, mtst_tst, tst_bl, mvar, mcon, mnil, mcons, mop, mandV, mchain, mbi, mcall, morT, mandT, mnotT, mnotV, mif, mtup, snil, mnew, mlist, mneg, bTy, bIsi, bLen, bInt, tyD, seqOf, lstOf, dIs, dIB, dI, dEq_int, ite_and, ite_or, ite_andB, ite_orB, sizeLine_eq, is_within_ok]
theorem is_tuple_of_ok (xs : List D) (k : Int) (S : Sto) : s_is_tuple_of [.tup xs, .int k] S = .ok (.bl (decide ((xs.length : Int) = k))) S := by
  unfold s_is_tuple_of m_is_tuple_of
  simp [run_done, done_nx, done_rt, done_exc, sseq_and, sand_nx, sand_rt, sand_bk, sand_ct, sasg_nam, sret_up, sexp_up, sif_up, lft_up, up_ok, up_exc, bnd_and, and_ok, and_exc, mtru_tru, tru_bl, tru_tup, mtst_tst, tst_bl, mvar, mcon, mnil, mcons, mop, mandV, mchain, mbi, mcall, morT, mandT, mnotT, mnotV, mif, mtup, snil, mnew, mlist, mneg, bTy, bIsi, bLen, bInt, tyD, seqOf, lstOf, dIs, dIB, dI, dEq_int, ite_and, ite_or, ite_andB, ite_orB, sizeLine_eq, kit_tup]

theorem ne_load_store : (("load" : Str) = ("store" : Str)) = False := by decide
theorem ne_load_swap : (("load" : Str) = ("swap" : Str)) = False := by decide
theorem ne_load_fence : (("load" : Str) = ("fence" : Str)) = False := by decide
theorem ne_store_load : (("store" : Str) = ("load" : Str)) = False := by decide
theorem ne_store_swap : (("store" : Str) = ("swap" : Str)) = False := by decide
theorem ne_store_fence : (("store" : Str) = ("fence" : Str)) = False := by decide
theorem ne_swap_load : (("swap" : Str) = ("load" : Str)) = False := by decide
theorem ne_swap_store : (("swap" : Str) = ("store" : Str)) = False := by decide
theorem ne_swap_fence : (("swap" : Str) = ("fence" : Str)) = False := by decide
theorem ne_fence_load : (("fence" : Str) = ("load" : Str)) = False := by decide
theorem ne_fence_store : (("fence" : Str) = ("store" : Str)) = False := by decide
theorem ne_fence_swap : (("fence" : Str) = ("swap" : Str)) = False := by decide
/-! ### instructions as data -/
abbrev W : List Str := ["load", "store", "swap", "fence", "Load", "", "store ", "drain"]
def encI (p : Str × List Int) : D := .tup (.str p.1 :: p.2.map D.int)
def isI (p : Str × List Int) : Bool := match p.2 with
  | [] => decide (p.1 = "fence")
  | [l] => decide (p.1 = "load") && (decide (0 ≤ l) && decide (l ≤ 3))
  | [l, v] => (decide (p.1 = "store") || decide (p.1 = "swap")) && ((decide (0 ≤ l) && decide (l ≤ 3)) && (decide (1 ≤ v) && decide (v ≤ 99)))
  | _ => false
theorem W_ok : ∀ w ∈ W, SeqAt.shaped (.str w) = true := by decide +kernel
theorem dEq_str {a b : Str} (ha : a ∈ W) (hb : b ∈ W) (S : Sto) : dEq (.str a) (.str b) S = .ok (.bl (decide (a = b))) S := by
  unfold dEq pyS pyD
  simp only
  rw [if_pos ⟨W_ok a ha, W_ok b hb⟩]
  congr 2
theorem atI0 (x : D) (xs : List D) : atI (x :: xs) 0 = some x := by
  unfold atI ixN
  simp
theorem atI1 (x y : D) (xs : List D) : atI (x :: y :: xs) 1 = some y := by
  have e : ixN (x :: y :: xs).length 1 = some 1 := by
    unfold ixN
    rw [if_pos (by decide), if_pos (by simp; omega)]
    rfl
  unfold atI
  rw [e]
  rfl
theorem atI2 (x y z : D) (xs : List D) : atI (x :: y :: z :: xs) 2 = some z := by
  have e : ixN (x :: y :: z :: xs).length 2 = some 2 := by
    unfold ixN
    rw [if_pos (by decide), if_pos (by simp; omega)]
    rfl
  unfold atI
  rw [e]
  rfl
theorem is_instruction_ok (w : Str) (as : List Int) (hw : w ∈ W) (S : Sto) : s_is_instruction [encI (w, as)] S = .ok (.bl (isI (w, as))) S := by
  have f : ("fence" : Str) ∈ W := by decide
  have l : ("load" : Str) ∈ W := by decide
  unfold s_is_instruction m_is_instruction encI isI
  match as with
  | [] => simp [run_done, done_nx, done_rt, done_exc, sseq_and, sand_nx, sand_rt, sand_bk, sand_ct, sasg_nam, sret_up, sexp_up, sif_up, lft_up, up_ok, up_exc, bnd_and, and_ok, and_exc, mtru_tru, tru_bl, tru_tup, mtst_tst, tst_bl, mvar, mcon, mnil, mcons, mop, mandV, mchain, mbi, mcall, morT, mandT, mnotT, mnotV, mif, mtup, snil, mnew, mlist, mneg, bTy, bIsi, bLen, bInt, tyD, seqOf, lstOf, dIs, dIB, dI, dEq_int, ite_and, ite_or, ite_andB, ite_orB, sizeLine_eq, is_tuple_of_ok, dIx, atI0, dEq_str hw f]
  | [x] => simp [run_done, done_nx, done_rt, done_exc, sseq_and, sand_nx, sand_rt, sand_bk, sand_ct, sasg_nam, sret_up, sexp_up, sif_up, lft_up, up_ok, up_exc, bnd_and, and_ok, and_exc, mtru_tru, tru_bl, tru_tup, mtst_tst, tst_bl, mvar, mcon, mnil, mcons, mop, mandV, mchain, mbi, mcall, morT, mandT, mnotT, mnotV, mif, mtup, snil, mnew, mlist, mneg, bTy, bIsi, bLen, bInt, tyD, seqOf, lstOf, dIs, dIB, dI, dEq_int, ite_and, ite_or, ite_andB, ite_orB, sizeLine_eq, is_tuple_of_ok, dIx, atI0, atI1, dEq_str hw l, is_line_ok]
  | [x, y] =>
    simp [run_done, done_nx, done_rt, done_exc, sseq_and, sand_nx, sand_rt, sand_bk, sand_ct, sasg_nam, sret_up, sexp_up, sif_up, lft_up, up_ok, up_exc, bnd_and, and_ok, and_exc, mtru_tru, tru_bl, tru_tup, mtst_tst, tst_bl, mvar, mcon, mnil, mcons, mop, mandV, mchain, mbi, mcall, morT, mandT, mnotT, mnotV, mif, mtup, snil, mnew, mlist, mneg, bTy, bIsi, bLen, bInt, tyD, seqOf, lstOf, dIs, dIB, dI, dEq_int, ite_and, ite_or, ite_andB, ite_orB, sizeLine_eq, is_tuple_of_ok, dIx, atI0, atI1, atI2, is_line_ok, is_within_ok, dIn, flatD, eqF]
    by_cases h1 : w = "store"
    · simp [run_done, done_nx, done_rt, done_exc, sseq_and, sand_nx, sand_rt, sand_bk, sand_ct, sasg_nam, sret_up, sexp_up, sif_up, lft_up, up_ok, up_exc, bnd_and, and_ok, and_exc, mtru_tru, tru_bl, tru_tup, mtst_tst, tst_bl, mvar, mcon, mnil, mcons, mop, mandV, mchain, mbi, mcall, morT, mandT, mnotT, mnotV, mif, mtup, snil, mnew, mlist, mneg, bTy, bIsi, bLen, bInt, tyD, seqOf, lstOf, dIs, dIB, dI, dEq_int, ite_and, ite_or, ite_andB, ite_orB, sizeLine_eq, h1, is_tuple_of_ok, dIx, atI0, atI1, atI2, is_line_ok, is_within_ok, dIn, flatD, eqF]
    · by_cases h2 : w = "swap"
      · simp [run_done, done_nx, done_rt, done_exc, sseq_and, sand_nx, sand_rt, sand_bk, sand_ct, sasg_nam, sret_up, sexp_up, sif_up, lft_up, up_ok, up_exc, bnd_and, and_ok, and_exc, mtru_tru, tru_bl, tru_tup, mtst_tst, tst_bl, mvar, mcon, mnil, mcons, mop, mandV, mchain, mbi, mcall, morT, mandT, mnotT, mnotV, mif, mtup, snil, mnew, mlist, mneg, bTy, bIsi, bLen, bInt, tyD, seqOf, lstOf, dIs, dIB, dI, dEq_int, ite_and, ite_or, ite_andB, ite_orB, sizeLine_eq, h2, is_tuple_of_ok, dIx, atI0, atI1, atI2, is_line_ok, is_within_ok, dIn, flatD, eqF]
      · have h3 : ¬ ("store" : Str) = w := fun e => h1 e.symm
        have h4 : ¬ ("swap" : Str) = w := fun e => h2 e.symm
        simp [run_done, done_nx, done_rt, done_exc, sseq_and, sand_nx, sand_rt, sand_bk, sand_ct, sasg_nam, sret_up, sexp_up, sif_up, lft_up, up_ok, up_exc, bnd_and, and_ok, and_exc, mtru_tru, tru_bl, tru_tup, mtst_tst, tst_bl, mvar, mcon, mnil, mcons, mop, mandV, mchain, mbi, mcall, morT, mandT, mnotT, mnotV, mif, mtup, snil, mnew, mlist, mneg, bTy, bIsi, bLen, bInt, tyD, seqOf, lstOf, dIs, dIB, dI, dEq_int, ite_and, ite_or, ite_andB, ite_orB, sizeLine_eq, h1, h2, h3, h4]
  | x :: y :: z :: r =>
    have h1 : ¬ ((r.length : Int) + 1 + 1 + 1 + 1 = 1) := by omega
    have h2 : ¬ ((r.length : Int) + 1 + 1 + 1 + 1 = 2) := by omega
    have h3 : ¬ ((r.length : Int) + 1 + 1 + 1 + 1 = 3) := by omega
    simp [run_done, done_nx, done_rt, done_exc, sseq_and, sand_nx, sand_rt, sand_bk, sand_ct, sasg_nam, sret_up, sexp_up, sif_up, lft_up, up_ok, up_exc, bnd_and, and_ok, and_exc, mtru_tru, tru_bl, tru_tup, mtst_tst, tst_bl, mvar, mcon, mnil, mcons, mop, mandV, mchain, mbi, mcall, morT, mandT, mnotT, mnotV, mif, mtup, snil, mnew, mlist, mneg, bTy, bIsi, bLen, bInt, tyD, seqOf, lstOf, dIs, dIB, dI, dEq_int, ite_and, ite_or, ite_andB, ite_orB, sizeLine_eq, is_tuple_of_ok, dIx, atI0, h1, h2, h3]
/-! ### cores, programs -/
def encC (c : List (Str × List Int)) : D := .tup (c.map encI)
def isC (c : List (Str × List Int)) : Bool := decide (c.length ≤ 24) && c.all isI
def okC (c : List (Str × List Int)) : Prop := ∀ p ∈ c, p.1 ∈ W
theorem is_core_ok (c : List (Str × List Int)) (hc : okC c) (S : Sto) : s_is_core [encC c] S = .ok (.bl (isC c)) S := by
  unfold s_is_core m_is_core encC isC
  have hm : ∀ S, mall (iany (mvar 0)) (gnam 1) mtrue (mcall 1 s_is_instruction (mcons (mvar 1) mnil)) [1] [some (D.tup (c.map encI)), none] S = .ok (.bl (c.all isI)) S := fun S => by
    refine mall_pure (enc := encI) (iany_tup rfl) fun x hx => ?_
    simp [run_done, done_nx, done_rt, done_exc, sseq_and, sand_nx, sand_rt, sand_bk, sand_ct, sasg_nam, sret_up, sexp_up, sif_up, lft_up, up_ok, up_exc, bnd_and, and_ok, and_exc, mtru_tru, tru_bl, tru_tup, mtst_tst, tst_bl, mvar, mcon, mnil, mcons, mop, mandV, mchain, mbi, mcall, morT, mandT, mnotT, mnotV, mif, mtup, snil, mnew, mlist, mneg, bTy, bIsi, bLen, bInt, tyD, seqOf, lstOf, dIs, dIB, dI, dEq_int, ite_and, ite_or, ite_andB, ite_orB, sizeLine_eq, wipeE, is_instruction_ok x.1 x.2 (hc x hx)]
  simp [run_done, done_nx, done_rt, done_exc, sseq_and, sand_nx, sand_rt, sand_bk, sand_ct, sasg_nam, sret_up, sexp_up, sif_up, lft_up, up_ok, up_exc, bnd_and, and_ok, and_exc, mtru_tru, tru_bl, tru_tup, mtst_tst, tst_bl, mvar, mcon, mnil, mcons, mop, mandV, mchain, mbi, mcall, morT, mandT, mnotT, mnotV, mif, mtup, snil, mnew, mlist, mneg, bTy, bIsi, bLen, bInt, tyD, seqOf, lstOf, dIs, dIB, dI, dEq_int, ite_and, ite_or, ite_andB, ite_orB, sizeLine_eq, kit_tup]
  by_cases h : (24 : Int) < c.length
  · have : ¬ c.length ≤ 24 := by omega
    simp [run_done, done_nx, done_rt, done_exc, sseq_and, sand_nx, sand_rt, sand_bk, sand_ct, sasg_nam, sret_up, sexp_up, sif_up, lft_up, up_ok, up_exc, bnd_and, and_ok, and_exc, mtru_tru, tru_bl, tru_tup, mtst_tst, tst_bl, mvar, mcon, mnil, mcons, mop, mandV, mchain, mbi, mcall, morT, mandT, mnotT, mnotV, mif, mtup, snil, mnew, mlist, mneg, bTy, bIsi, bLen, bInt, tyD, seqOf, lstOf, dIs, dIB, dI, dEq_int, ite_and, ite_or, ite_andB, ite_orB, sizeLine_eq, h, this]
  · have : c.length ≤ 24 := by omega
    simp [run_done, done_nx, done_rt, done_exc, sseq_and, sand_nx, sand_rt, sand_bk, sand_ct, sasg_nam, sret_up, sexp_up, sif_up, lft_up, up_ok, up_exc, bnd_and, and_ok, and_exc, mtru_tru, tru_bl, tru_tup, mtst_tst, tst_bl, mvar, mcon, mnil, mcons, mop, mandV, mchain, mbi, mcall, morT, mandT, mnotT, mnotV, mif, mtup, snil, mnew, mlist, mneg, bTy, bIsi, bLen, bInt, tyD, seqOf, lstOf, dIs, dIB, dI, dEq_int, ite_and, ite_or, ite_andB, ite_orB, sizeLine_eq, h, this, hm]
def encP (p : List (List (Str × List Int))) : D := .tup (p.map encC)
def isP (p : List (List (Str × List Int))) : Bool := (decide (1 ≤ p.length) && decide (p.length ≤ 12)) && p.all isC
def okP (p : List (List (Str × List Int))) : Prop := ∀ c ∈ p, okC c
theorem is_program_ok (p : List (List (Str × List Int))) (hp : okP p) (S : Sto) : s_is_program [encP p] S = .ok (.bl (isP p)) S := by
  unfold s_is_program m_is_program encP isP
  have hm : ∀ S, mall (iany (mvar 0)) (gnam 1) mtrue (mcall 1 s_is_core (mcons (mvar 1) mnil)) [1] [some (D.tup (p.map encC)), none] S = .ok (.bl (p.all isC)) S := fun S => by
    refine mall_pure (enc := encC) (iany_tup rfl) fun x hx => ?_
    simp [run_done, done_nx, done_rt, done_exc, sseq_and, sand_nx, sand_rt, sand_bk, sand_ct, sasg_nam, sret_up, sexp_up, sif_up, lft_up, up_ok, up_exc, bnd_and, and_ok, and_exc, mtru_tru, tru_bl, tru_tup, mtst_tst, tst_bl, mvar, mcon, mnil, mcons, mop, mandV, mchain, mbi, mcall, morT, mandT, mnotT, mnotV, mif, mtup, snil, mnew, mlist, mneg, bTy, bIsi, bLen, bInt, tyD, seqOf, lstOf, dIs, dIB, dI, dEq_int, ite_and, ite_or, ite_andB, ite_orB, sizeLine_eq, wipeE, is_core_ok x (hp x hx)]
  simp [run_done, done_nx, done_rt, done_exc, sseq_and, sand_nx, sand_rt, sand_bk, sand_ct, sasg_nam, sret_up, sexp_up, sif_up, lft_up, up_ok, up_exc, bnd_and, and_ok, and_exc, mtru_tru, tru_bl, tru_tup, mtst_tst, tst_bl, mvar, mcon, mnil, mcons, mop, mandV, mchain, mbi, mcall, morT, mandT, mnotT, mnotV, mif, mtup, snil, mnew, mlist, mneg, bTy, bIsi, bLen, bInt, tyD, seqOf, lstOf, dIs, dIB, dI, dEq_int, ite_and, ite_or, ite_andB, ite_orB, sizeLine_eq, kit_tup]
  by_cases h : (p.length : Int) < 1 ∨ (12 : Int) < p.length
  · have : ¬ (1 ≤ p.length ∧ p.length ≤ 12) := by omega
    have h2 : (decide (1 ≤ p.length) && decide (p.length ≤ 12)) = false := by simpa using this
    simp [run_done, done_nx, done_rt, done_exc, sseq_and, sand_nx, sand_rt, sand_bk, sand_ct, sasg_nam, sret_up, sexp_up, sif_up, lft_up, up_ok, up_exc, bnd_and, and_ok, and_exc, mtru_tru, tru_bl, tru_tup, mtst_tst, tst_bl, mvar, mcon, mnil, mcons, mop, mandV, mchain, mbi, mcall, morT, mandT, mnotT, mnotV, mif, mtup, snil, mnew, mlist, mneg, bTy, bIsi, bLen, bInt, tyD, seqOf, lstOf, dIs, dIB, dI, dEq_int, ite_and, ite_or, ite_andB, ite_orB, sizeLine_eq, h, h2]
  · have : 1 ≤ p.length ∧ p.length ≤ 12 := by omega
    have h2 : (decide (1 ≤ p.length) && decide (p.length ≤ 12)) = true := by simpa using this
    rw [h2]
    simp [run_done, done_nx, done_rt, done_exc, sseq_and, sand_nx, sand_rt, sand_bk, sand_ct, sasg_nam, sret_up, sexp_up, sif_up, lft_up, up_ok, up_exc, bnd_and, and_ok, and_exc, mtru_tru, tru_bl, tru_tup, mtst_tst, tst_bl, mvar, mcon, mnil, mcons, mop, mandV, mchain, mbi, mcall, morT, mandT, mnotT, mnotV, mif, mtup, snil, mnew, mlist, mneg, bTy, bIsi, bLen, bInt, tyD, seqOf, lstOf, dIs, dIB, dI, dEq_int, ite_and, ite_or, ite_andB, ite_orB, sizeLine_eq, h, hm]
theorem check_ok (C : Addr) (p : List (List (Str × List Int))) (hp : okP p) (S : Sto) : s_check_program C [encP p] S = if isP p = true then .ok .non S else .exc (.plain C) S := by
  unfold s_check_program m_check_program
  simp [run_done, done_nx, done_rt, done_exc, sseq_and, sand_nx, sand_rt, sand_bk, sand_ct, sasg_nam, sret_up, sexp_up, sif_up, lft_up, up_ok, up_exc, bnd_and, and_ok, and_exc, mtru_tru, tru_bl, tru_tup, mtst_tst, tst_bl, mvar, mcon, mnil, mcons, mop, mandV, mchain, mbi, mcall, morT, mandT, mnotT, mnotV, mif, mtup, snil, mnew, mlist, mneg, bTy, bIsi, bLen, bInt, tyD, seqOf, lstOf, dIs, dIB, dI, dEq_int, ite_and, ite_or, ite_andB, ite_orB, sizeLine_eq, is_program_ok p hp, sraise]
  by_cases h : isP p = true <;> simp [run_done, done_nx, done_rt, done_exc, sseq_and, sand_nx, sand_rt, sand_bk, sand_ct, sasg_nam, sret_up, sexp_up, sif_up, lft_up, up_ok, up_exc, bnd_and, and_ok, and_exc, mtru_tru, tru_bl, tru_tup, mtst_tst, tst_bl, mvar, mcon, mnil, mcons, mop, mandV, mchain, mbi, mcall, morT, mandT, mnotT, mnotV, mif, mtup, snil, mnew, mlist, mneg, bTy, bIsi, bLen, bInt, tyD, seqOf, lstOf, dIs, dIB, dI, dEq_int, ite_and, ite_or, ite_andB, ite_orB, sizeLine_eq, h]

/-! ### the law's own check -/
theorem in03 (l : Int) : ((((0 : Int) == l) || (((1 : Int) == l) || (((2 : Int) == l) || ((3 : Int) == l))))) = (decide (0 ≤ l) && decide (l ≤ 3)) := by
  rw [Bool.eq_iff_iff]
  simp
  omega
theorem in199 (lo : Int) (n : Nat) (v : Int) : (intsD lo n).any (fun z => eqF z (.int v)) = (decide (lo ≤ v) && decide (v < lo + n)) := by
  rw [Bool.eq_iff_iff]
  unfold intsD
  simp [eqF]
  constructor
  · rintro ⟨k, hk, e⟩
    omega
  · rintro ⟨h1, h2⟩
    exact ⟨(v - lo).toNat, by omega, by omega⟩
theorem flat_ints (lo : Int) (n : Nat) : (intsD lo n).all flatD = true := by
  unfold intsD
  simp [flatD]
theorem dIn_03 {v : Int} {i : Nat} {S : Sto} (h : S[i]? = some (.lst [.int 0, .int 1, .int 2, .int 3])) : dIn false (.int v) (.ref i) S = .ok (.bl (decide (0 ≤ v) && decide (v ≤ 3))) S := by
  rw [← in03]
  simp [dIn, seqOf, lstOf, h, flatD, eqF]
theorem dIn_rg {neg : Bool} {v lo : Int} {n i : Nat} {S : Sto} (h : S[i]? = some (.lst (intsD lo n))) : dIn neg (.int v) (.ref i) S = .ok (.bl (if neg then !(decide (lo ≤ v) && decide (v < lo + n)) else (decide (lo ≤ v) && decide (v < lo + n)))) S := by
  rw [← in199]
  unfold dIn seqOf lstOf
  simp only [h]
  rw [if_pos ⟨rfl, flat_ints lo n⟩]
theorem dIn_ss {w : Str} {i : Nat} {S : Sto} (h : S[i]? = some (.lst [.str "store", .str "swap"])) : dIn false (.str w) (.ref i) S = .ok (.bl (decide (w = "store") || decide (w = "swap"))) S := by
  have e : ((("store" : Str) == w) || (("swap" : Str) == w)) = (decide (w = "store") || decide (w = "swap")) := by
    have q : ∀ a : Str, (a == w) = decide (w = a) := fun a => by
      rw [Bool.eq_iff_iff, beq_iff_eq, decide_eq_true_iff]
      exact eq_comm
    rw [q, q]
  rw [← e]
  simp [dIn, seqOf, lstOf, h, flatD, eqF]
theorem at2 {S : Sto} {a b c : MO} : (S ++ [a, b, c])[S.length + 1 + 1]? = some c := by
  rw [List.getElem?_append_right (by omega)]
  simp [Nat.add_assoc]
theorem lt99 (y : Int) : decide (y < 1 + 99) = decide (y ≤ 99) := by
  rw [Bool.eq_iff_iff]; simp; omega
theorem dIn_100 {v : Int} {i : Nat} {S : Sto} (h : S[i]? = some (.lst (intsD 1 99))) : dIn false (.int v) (.ref i) S = .ok (.bl (decide (1 ≤ v) && decide (v ≤ 99))) S := by
  rw [dIn_rg (neg := false) (v := v) h]
  simp only [Bool.false_eq_true, if_false]
  rw [show decide (v < 1 + ((99 : Nat) : Int)) = decide (v ≤ 99) from lt99 v]
theorem mlrg_100 {env : Slots} {S : Sto} : mlrg2 (mcon (.int 1)) (mcon (.int 100)) env S = .ok (intsD 1 99) S := by
  simp [mlrg2, bnd, mcon]
theorem mlrg_13 {env : Slots} {S : Sto} : mlrg2 (mcon (.int 1)) (mcon (.int 13)) env S = .ok (intsD 1 12) S := by
  simp [mlrg2, bnd, mcon]
theorem is_one_ok (w : Str) (as : List Int) (hw : w ∈ W) (S : Sto) : ∃ g, s__law_is_one [encI (w, as)] S = .ok (.bl (isI (w, as))) (S ++ g) := by
  have f : ("fence" : Str) ∈ W := by decide
  have l : ("load" : Str) ∈ W := by decide
  unfold s__law_is_one m__law_is_one encI isI
  by_cases h1 : w = "fence"
  · refine ⟨[], ?_⟩
    subst h1
    match as with
    | [] => simp [run_done, done_nx, done_rt, done_exc, sseq_and, sand_nx, sand_rt, sand_bk, sand_ct, sasg_nam, sret_up, sexp_up, sif_up, lft_up, up_ok, up_exc, bnd_and, and_ok, and_exc, mtru_tru, tru_bl, tru_tup, mtst_tst, tst_bl, mvar, mcon, mnil, mcons, mop, mandV, mchain, mbi, mcall, morT, mandT, mnotT, mnotV, mif, mtup, snil, mnew, mlist, mneg, bTy, bIsi, bLen, bInt, tyD, seqOf, lstOf, dIs, dIB, dI, dEq_int, ite_and, ite_or, ite_andB, ite_orB, sizeLine_eq, ne_load_store, ne_load_swap, ne_load_fence, ne_store_load, ne_store_swap, ne_store_fence, ne_swap_load, ne_swap_store, ne_swap_fence, ne_fence_load, ne_fence_store, ne_fence_swap, dIx, atI0, dEq_str f f]
    | [x] => simp [run_done, done_nx, done_rt, done_exc, sseq_and, sand_nx, sand_rt, sand_bk, sand_ct, sasg_nam, sret_up, sexp_up, sif_up, lft_up, up_ok, up_exc, bnd_and, and_ok, and_exc, mtru_tru, tru_bl, tru_tup, mtst_tst, tst_bl, mvar, mcon, mnil, mcons, mop, mandV, mchain, mbi, mcall, morT, mandT, mnotT, mnotV, mif, mtup, snil, mnew, mlist, mneg, bTy, bIsi, bLen, bInt, tyD, seqOf, lstOf, dIs, dIB, dI, dEq_int, ite_and, ite_or, ite_andB, ite_orB, sizeLine_eq, ne_load_store, ne_load_swap, ne_load_fence, ne_store_load, ne_store_swap, ne_store_fence, ne_swap_load, ne_swap_store, ne_swap_fence, ne_fence_load, ne_fence_store, ne_fence_swap, dIx, atI0, dEq_str f f]
    | [x, y] => simp [run_done, done_nx, done_rt, done_exc, sseq_and, sand_nx, sand_rt, sand_bk, sand_ct, sasg_nam, sret_up, sexp_up, sif_up, lft_up, up_ok, up_exc, bnd_and, and_ok, and_exc, mtru_tru, tru_bl, tru_tup, mtst_tst, tst_bl, mvar, mcon, mnil, mcons, mop, mandV, mchain, mbi, mcall, morT, mandT, mnotT, mnotV, mif, mtup, snil, mnew, mlist, mneg, bTy, bIsi, bLen, bInt, tyD, seqOf, lstOf, dIs, dIB, dI, dEq_int, ite_and, ite_or, ite_andB, ite_orB, sizeLine_eq, ne_load_store, ne_load_swap, ne_load_fence, ne_store_load, ne_store_swap, ne_store_fence, ne_swap_load, ne_swap_store, ne_swap_fence, ne_fence_load, ne_fence_store, ne_fence_swap, dIx, atI0, dEq_str f f]
    | x :: y :: z :: r =>
      have h1 : ¬ ((r.length : Int) + 1 + 1 + 1 + 1 = 1) := by omega
      simp [run_done, done_nx, done_rt, done_exc, sseq_and, sand_nx, sand_rt, sand_bk, sand_ct, sasg_nam, sret_up, sexp_up, sif_up, lft_up, up_ok, up_exc, bnd_and, and_ok, and_exc, mtru_tru, tru_bl, tru_tup, mtst_tst, tst_bl, mvar, mcon, mnil, mcons, mop, mandV, mchain, mbi, mcall, morT, mandT, mnotT, mnotV, mif, mtup, snil, mnew, mlist, mneg, bTy, bIsi, bLen, bInt, tyD, seqOf, lstOf, dIs, dIB, dI, dEq_int, ite_and, ite_or, ite_andB, ite_orB, sizeLine_eq, ne_load_store, ne_load_swap, ne_load_fence, ne_store_load, ne_store_swap, ne_store_fence, ne_swap_load, ne_swap_store, ne_swap_fence, ne_fence_load, ne_fence_store, ne_fence_swap, dIx, atI0, dEq_str f f, h1]
  · by_cases h2 : w = "load"
    · subst h2
      match as with
      | [] => exact ⟨[], by simp [run_done, done_nx, done_rt, done_exc, sseq_and, sand_nx, sand_rt, sand_bk, sand_ct, sasg_nam, sret_up, sexp_up, sif_up, lft_up, up_ok, up_exc, bnd_and, and_ok, and_exc, mtru_tru, tru_bl, tru_tup, mtst_tst, tst_bl, mvar, mcon, mnil, mcons, mop, mandV, mchain, mbi, mcall, morT, mandT, mnotT, mnotV, mif, mtup, snil, mnew, mlist, mneg, bTy, bIsi, bLen, bInt, tyD, seqOf, lstOf, dIs, dIB, dI, dEq_int, ite_and, ite_or, ite_andB, ite_orB, sizeLine_eq, ne_load_store, ne_load_swap, ne_load_fence, ne_store_load, ne_store_swap, ne_store_fence, ne_swap_load, ne_swap_store, ne_swap_fence, ne_fence_load, ne_fence_store, ne_fence_swap, dIx, atI0, dEq_str l f, dEq_str l l]⟩
      | [x] => exact ⟨[.lst [.int 0, .int 1, .int 2, .int 3]], by simp [run_done, done_nx, done_rt, done_exc, sseq_and, sand_nx, sand_rt, sand_bk, sand_ct, sasg_nam, sret_up, sexp_up, sif_up, lft_up, up_ok, up_exc, bnd_and, and_ok, and_exc, mtru_tru, tru_bl, tru_tup, mtst_tst, tst_bl, mvar, mcon, mnil, mcons, mop, mandV, mchain, mbi, mcall, morT, mandT, mnotT, mnotV, mif, mtup, snil, mnew, mlist, mneg, bTy, bIsi, bLen, bInt, tyD, seqOf, lstOf, dIs, dIB, dI, dEq_int, ite_and, ite_or, ite_andB, ite_orB, sizeLine_eq, ne_load_store, ne_load_swap, ne_load_fence, ne_store_load, ne_store_swap, ne_store_fence, ne_swap_load, ne_swap_store, ne_swap_fence, ne_fence_load, ne_fence_store, ne_fence_swap, dIx, atI0, atI1, dEq_str l f, dEq_str l l, dIn_03]⟩
      | [x, y] => exact ⟨[], by simp [run_done, done_nx, done_rt, done_exc, sseq_and, sand_nx, sand_rt, sand_bk, sand_ct, sasg_nam, sret_up, sexp_up, sif_up, lft_up, up_ok, up_exc, bnd_and, and_ok, and_exc, mtru_tru, tru_bl, tru_tup, mtst_tst, tst_bl, mvar, mcon, mnil, mcons, mop, mandV, mchain, mbi, mcall, morT, mandT, mnotT, mnotV, mif, mtup, snil, mnew, mlist, mneg, bTy, bIsi, bLen, bInt, tyD, seqOf, lstOf, dIs, dIB, dI, dEq_int, ite_and, ite_or, ite_andB, ite_orB, sizeLine_eq, ne_load_store, ne_load_swap, ne_load_fence, ne_store_load, ne_store_swap, ne_store_fence, ne_swap_load, ne_swap_store, ne_swap_fence, ne_fence_load, ne_fence_store, ne_fence_swap, dIx, atI0, dEq_str l f, dEq_str l l]⟩
      | x :: y :: z :: r =>
        have h1 : ¬ ((r.length : Int) + 1 + 1 + 1 + 1 = 2) := by omega
        exact ⟨[], by simp [run_done, done_nx, done_rt, done_exc, sseq_and, sand_nx, sand_rt, sand_bk, sand_ct, sasg_nam, sret_up, sexp_up, sif_up, lft_up, up_ok, up_exc, bnd_and, and_ok, and_exc, mtru_tru, tru_bl, tru_tup, mtst_tst, tst_bl, mvar, mcon, mnil, mcons, mop, mandV, mchain, mbi, mcall, morT, mandT, mnotT, mnotV, mif, mtup, snil, mnew, mlist, mneg, bTy, bIsi, bLen, bInt, tyD, seqOf, lstOf, dIs, dIB, dI, dEq_int, ite_and, ite_or, ite_andB, ite_orB, sizeLine_eq, ne_load_store, ne_load_swap, ne_load_fence, ne_store_load, ne_store_swap, ne_store_fence, ne_swap_load, ne_swap_store, ne_swap_fence, ne_fence_load, ne_fence_store, ne_fence_swap, dIx, atI0, dEq_str l f, dEq_str l l, h1]⟩
    · by_cases h3 : w = "store" ∨ w = "swap"
      · have hb : (decide (w = "store") || decide (w = "swap")) = true := by simpa using h3
        match as with
        | [] => exact ⟨[.lst [.str "store", .str "swap"]], by simp [run_done, done_nx, done_rt, done_exc, sseq_and, sand_nx, sand_rt, sand_bk, sand_ct, sasg_nam, sret_up, sexp_up, sif_up, lft_up, up_ok, up_exc, bnd_and, and_ok, and_exc, mtru_tru, tru_bl, tru_tup, mtst_tst, tst_bl, mvar, mcon, mnil, mcons, mop, mandV, mchain, mbi, mcall, morT, mandT, mnotT, mnotV, mif, mtup, snil, mnew, mlist, mneg, bTy, bIsi, bLen, bInt, tyD, seqOf, lstOf, dIs, dIB, dI, dEq_int, ite_and, ite_or, ite_andB, ite_orB, sizeLine_eq, ne_load_store, ne_load_swap, ne_load_fence, ne_store_load, ne_store_swap, ne_store_fence, ne_swap_load, ne_swap_store, ne_swap_fence, ne_fence_load, ne_fence_store, ne_fence_swap, dIx, atI0, dEq_str hw f, dEq_str hw l, h1, h2, dIn_ss, h3]⟩
        | [x] => exact ⟨[.lst [.str "store", .str "swap"]], by simp [run_done, done_nx, done_rt, done_exc, sseq_and, sand_nx, sand_rt, sand_bk, sand_ct, sasg_nam, sret_up, sexp_up, sif_up, lft_up, up_ok, up_exc, bnd_and, and_ok, and_exc, mtru_tru, tru_bl, tru_tup, mtst_tst, tst_bl, mvar, mcon, mnil, mcons, mop, mandV, mchain, mbi, mcall, morT, mandT, mnotT, mnotV, mif, mtup, snil, mnew, mlist, mneg, bTy, bIsi, bLen, bInt, tyD, seqOf, lstOf, dIs, dIB, dI, dEq_int, ite_and, ite_or, ite_andB, ite_orB, sizeLine_eq, ne_load_store, ne_load_swap, ne_load_fence, ne_store_load, ne_store_swap, ne_store_fence, ne_swap_load, ne_swap_store, ne_swap_fence, ne_fence_load, ne_fence_store, ne_fence_swap, dIx, atI0, dEq_str hw f, dEq_str hw l, h1, h2, dIn_ss, h3]⟩
        | [x, y] =>
          by_cases hx : 0 ≤ x ∧ x ≤ 3
          · refine ⟨[.lst [.str "store", .str "swap"], .lst [.int 0, .int 1, .int 2, .int 3], .lst (intsD 1 99)], ?_⟩
            simp [run_done, done_nx, done_rt, done_exc, sseq_and, sand_nx, sand_rt, sand_bk, sand_ct, sasg_nam, sret_up, sexp_up, sif_up, lft_up, up_ok, up_exc, bnd_and, and_ok, and_exc, mtru_tru, tru_bl, tru_tup, mtst_tst, tst_bl, mvar, mcon, mnil, mcons, mop, mandV, mchain, mbi, mcall, morT, mandT, mnotT, mnotV, mif, mtup, snil, mnew, mlist, mneg, bTy, bIsi, bLen, bInt, tyD, seqOf, lstOf, dIs, dIB, dI, dEq_int, ite_and, ite_or, ite_andB, ite_orB, sizeLine_eq, ne_load_store, ne_load_swap, ne_load_fence, ne_store_load, ne_store_swap, ne_store_fence, ne_swap_load, ne_swap_store, ne_swap_fence, ne_fence_load, ne_fence_store, ne_fence_swap, dIx, atI0, atI1, atI2, dEq_str hw f, dEq_str hw l, h1, h2, dIn_ss, dIn_03, dIn_100, at2, hb, h3, hx, mlrg_100]
          · refine ⟨[.lst [.str "store", .str "swap"], .lst [.int 0, .int 1, .int 2, .int 3]], ?_⟩
            simp [run_done, done_nx, done_rt, done_exc, sseq_and, sand_nx, sand_rt, sand_bk, sand_ct, sasg_nam, sret_up, sexp_up, sif_up, lft_up, up_ok, up_exc, bnd_and, and_ok, and_exc, mtru_tru, tru_bl, tru_tup, mtst_tst, tst_bl, mvar, mcon, mnil, mcons, mop, mandV, mchain, mbi, mcall, morT, mandT, mnotT, mnotV, mif, mtup, snil, mnew, mlist, mneg, bTy, bIsi, bLen, bInt, tyD, seqOf, lstOf, dIs, dIB, dI, dEq_int, ite_and, ite_or, ite_andB, ite_orB, sizeLine_eq, ne_load_store, ne_load_swap, ne_load_fence, ne_store_load, ne_store_swap, ne_store_fence, ne_swap_load, ne_swap_store, ne_swap_fence, ne_fence_load, ne_fence_store, ne_fence_swap, dIx, atI0, atI1, atI2, dEq_str hw f, dEq_str hw l, h1, h2, dIn_ss, dIn_03, dIn_100, at2, hb, h3, hx, mlrg_100]
        | x :: y :: z :: r =>
          have h4 : ¬ ((r.length : Int) + 1 + 1 + 1 + 1 = 3) := by omega
          exact ⟨[.lst [.str "store", .str "swap"]], by simp [run_done, done_nx, done_rt, done_exc, sseq_and, sand_nx, sand_rt, sand_bk, sand_ct, sasg_nam, sret_up, sexp_up, sif_up, lft_up, up_ok, up_exc, bnd_and, and_ok, and_exc, mtru_tru, tru_bl, tru_tup, mtst_tst, tst_bl, mvar, mcon, mnil, mcons, mop, mandV, mchain, mbi, mcall, morT, mandT, mnotT, mnotV, mif, mtup, snil, mnew, mlist, mneg, bTy, bIsi, bLen, bInt, tyD, seqOf, lstOf, dIs, dIB, dI, dEq_int, ite_and, ite_or, ite_andB, ite_orB, sizeLine_eq, ne_load_store, ne_load_swap, ne_load_fence, ne_store_load, ne_store_swap, ne_store_fence, ne_swap_load, ne_swap_store, ne_swap_fence, ne_fence_load, ne_fence_store, ne_fence_swap, dIx, atI0, dEq_str hw f, dEq_str hw l, h1, h2, dIn_ss, h3, h4]⟩
      · have hb : (decide (w = "store") || decide (w = "swap")) = false := by simpa using h3
        refine ⟨[.lst [.str "store", .str "swap"]], ?_⟩
        match as with
        | [] => simp [run_done, done_nx, done_rt, done_exc, sseq_and, sand_nx, sand_rt, sand_bk, sand_ct, sasg_nam, sret_up, sexp_up, sif_up, lft_up, up_ok, up_exc, bnd_and, and_ok, and_exc, mtru_tru, tru_bl, tru_tup, mtst_tst, tst_bl, mvar, mcon, mnil, mcons, mop, mandV, mchain, mbi, mcall, morT, mandT, mnotT, mnotV, mif, mtup, snil, mnew, mlist, mneg, bTy, bIsi, bLen, bInt, tyD, seqOf, lstOf, dIs, dIB, dI, dEq_int, ite_and, ite_or, ite_andB, ite_orB, sizeLine_eq, ne_load_store, ne_load_swap, ne_load_fence, ne_store_load, ne_store_swap, ne_store_fence, ne_swap_load, ne_swap_store, ne_swap_fence, ne_fence_load, ne_fence_store, ne_fence_swap, dIx, atI0, dEq_str hw f, dEq_str hw l, h1, h2, dIn_ss, h3]
        | [x] => simp [run_done, done_nx, done_rt, done_exc, sseq_and, sand_nx, sand_rt, sand_bk, sand_ct, sasg_nam, sret_up, sexp_up, sif_up, lft_up, up_ok, up_exc, bnd_and, and_ok, and_exc, mtru_tru, tru_bl, tru_tup, mtst_tst, tst_bl, mvar, mcon, mnil, mcons, mop, mandV, mchain, mbi, mcall, morT, mandT, mnotT, mnotV, mif, mtup, snil, mnew, mlist, mneg, bTy, bIsi, bLen, bInt, tyD, seqOf, lstOf, dIs, dIB, dI, dEq_int, ite_and, ite_or, ite_andB, ite_orB, sizeLine_eq, ne_load_store, ne_load_swap, ne_load_fence, ne_store_load, ne_store_swap, ne_store_fence, ne_swap_load, ne_swap_store, ne_swap_fence, ne_fence_load, ne_fence_store, ne_fence_swap, dIx, atI0, dEq_str hw f, dEq_str hw l, h1, h2, dIn_ss, h3]
        | [x, y] => simp [run_done, done_nx, done_rt, done_exc, sseq_and, sand_nx, sand_rt, sand_bk, sand_ct, sasg_nam, sret_up, sexp_up, sif_up, lft_up, up_ok, up_exc, bnd_and, and_ok, and_exc, mtru_tru, tru_bl, tru_tup, mtst_tst, tst_bl, mvar, mcon, mnil, mcons, mop, mandV, mchain, mbi, mcall, morT, mandT, mnotT, mnotV, mif, mtup, snil, mnew, mlist, mneg, bTy, bIsi, bLen, bInt, tyD, seqOf, lstOf, dIs, dIB, dI, dEq_int, ite_and, ite_or, ite_andB, ite_orB, sizeLine_eq, ne_load_store, ne_load_swap, ne_load_fence, ne_store_load, ne_store_swap, ne_store_fence, ne_swap_load, ne_swap_store, ne_swap_fence, ne_fence_load, ne_fence_store, ne_fence_swap, dIx, atI0, dEq_str hw f, dEq_str hw l, h1, h2, dIn_ss, h3, hb]
        | x :: y :: z :: r => simp [run_done, done_nx, done_rt, done_exc, sseq_and, sand_nx, sand_rt, sand_bk, sand_ct, sasg_nam, sret_up, sexp_up, sif_up, lft_up, up_ok, up_exc, bnd_and, and_ok, and_exc, mtru_tru, tru_bl, tru_tup, mtst_tst, tst_bl, mvar, mcon, mnil, mcons, mop, mandV, mchain, mbi, mcall, morT, mandT, mnotT, mnotV, mif, mtup, snil, mnew, mlist, mneg, bTy, bIsi, bLen, bInt, tyD, seqOf, lstOf, dIs, dIB, dI, dEq_int, ite_and, ite_or, ite_andB, ite_orB, sizeLine_eq, ne_load_store, ne_load_swap, ne_load_fence, ne_store_load, ne_store_swap, ne_store_fence, ne_swap_load, ne_swap_store, ne_swap_fence, ne_fence_load, ne_fence_store, ne_fence_swap, dIx, atI0, dEq_str hw f, dEq_str hw l, h1, h2, dIn_ss, h3]
theorem dIn_12 {v : Int} {i : Nat} {S : Sto} (h : S[i]? = some (.lst (intsD 1 12))) : dIn true (.int v) (.ref i) S = .ok (.bl (!(decide (1 ≤ v) && decide (v ≤ 12)))) S := by
  rw [dIn_rg (neg := true) (v := v) h]
  simp only [if_true]
  rw [show decide (v < 1 + ((12 : Nat) : Int)) = decide (v ≤ 12) from by rw [Bool.eq_iff_iff]; simp; omega]
theorem bls_map (l : List Bool) : blsOf (l.map D.bl) = some l := by
  induction l with
  | nil => rfl
  | cons b l ih => rw [List.map_cons]; unfold blsOf; rw [ih]
theorem at0 {S : Sto} {a : MO} {g : List MO} : (S ++ a :: g)[S.length]? = some a := by simp
theorem bls_mapf {α : Type} (g : α → Bool) (l : List α) : blsOf (l.map fun c => D.bl (g c)) = some (l.map g) := by
  rw [← bls_map (l.map g), List.map_map]; rfl
theorem at_app {A B : Sto} {x : MO} {i j : Nat} (h : B[j]? = some x) (e : i = A.length + j) : (A ++ B)[i]? = some x := by
  rw [e, List.getElem?_append_right (by omega), Nat.add_sub_cancel_left]; exact h
theorem atA {A B : Sto} {x : MO} : (A ++ (B ++ [x]))[A.length + B.length]? = some x := at_app (at_app (j := 0) rfl rfl) rfl
theorem atB {A B : Sto} {x y : MO} : (A ++ y :: (B ++ [x]))[A.length + (B.length + 1)]? = some x := at_app (B := y :: (B ++ [x])) (j := B.length + 1) (by rw [List.getElem?_cons_succ]; exact at_app (j := 0) rfl rfl) rfl
theorem atC {A B C : Sto} {x y z : MO} : (A ++ y :: (B ++ z :: (C ++ [x])))[A.length + (B.length + (C.length + 1) + 1)]? = some x :=
  at_app (B := y :: (B ++ z :: (C ++ [x]))) (j := B.length + (C.length + 1) + 1) (by rw [List.getElem?_cons_succ]; exact at_app (B := z :: (C ++ [x])) (j := C.length + 1) (by rw [List.getElem?_cons_succ]; exact at_app (j := 0) rfl rfl) rfl) rfl
theorem bAll_ref {α : Type} {g : α → Bool} {l : List α} {i : Nat} {S : Sto} (h : S[i]? = some (.lst (l.map fun c => D.bl (g c)))) : bAll [.ref i] S = .ok (.bl (l.all g)) S := by
  simp [bAll, bBls, lstOf, h, bls_mapf, List.all_map]
theorem bAny_ref {α : Type} {g : α → Bool} {l : List α} {i : Nat} {S : Sto} (h : S[i]? = some (.lst (l.map fun c => D.bl (g c)))) : bAny [.ref i] S = .ok (.bl (l.any g)) S := by
  simp [bAny, bBls, lstOf, h, bls_mapf, List.any_map]
theorem big : 1000 ≤ sizeLine := by decide
theorem is_program2_ok (p : List (List (Str × List Int))) (hp : okP p) (hl : p.length ≤ 1000) (hc : ∀ c ∈ p, c.length ≤ 1000) (S : Sto) : ∃ g, s__law_is_program [encP p] S = .ok (.bl (isP p)) (S ++ g) := by
  unfold s__law_is_program m__law_is_program encP isP
  -- any([len(core) > 24 ..])
  have c1 : ∀ S, ∃ gb, mcomp (iany (mvar 0)) (gnam 1) mtrue (mop dGt (mbi bLen (mcons (mvar 1) mnil)) (mcon (.int 24))) [1] [some (D.tup (p.map encC)), none, none] S = .ok (p.map fun c => D.bl (decide (24 < c.length))) (S ++ gb) := fun S => by
    refine mcomp_g (enc := encC) (f := fun c => D.bl (decide (24 < c.length))) (iany_tup rfl) (Nat.le_trans hl big) fun c hcm S' => ⟨[], ?_⟩
    have e : decide ((24 : Int) < c.length) = decide (24 < c.length) := by rw [Bool.eq_iff_iff]; simp; omega
    simp [run_done, done_nx, done_rt, done_exc, sseq_and, sand_nx, sand_rt, sand_bk, sand_ct, sasg_nam, sret_up, sexp_up, sif_up, lft_up, up_ok, up_exc, bnd_and, and_ok, and_exc, mtru_tru, tru_bl, tru_tup, mtst_tst, tst_bl, mvar, mcon, mnil, mcons, mop, mandV, mchain, mbi, mcall, morT, mandT, mnotT, mnotV, mif, mtup, snil, mnew, mlist, mneg, bTy, bIsi, bLen, bInt, tyD, seqOf, lstOf, dIs, dIB, dI, dEq_int, ite_and, ite_or, ite_andB, ite_orB, sizeLine_eq, wipeE, encC, e]
  -- all([all([..]) ..])
  have c2 : ∀ S, ∃ gb, mcomp (iany (mvar 0)) (gnam 1) mtrue (mbi bAll (mcons (mnew (mcomp (iany (mvar 1)) (gnam 2) mtrue (mcall 1 s__law_is_one (mcons (mvar 2) mnil)) [2])) mnil)) [1] [some (D.tup (p.map encC)), none, none] S = .ok (p.map fun c => D.bl (c.all isI)) (S ++ gb) := fun S => by
    refine mcomp_g (enc := encC) (f := fun c => D.bl (c.all isI)) (iany_tup rfl) (Nat.le_trans hl big) fun c hcm S' => ?_
    have c3 : ∃ gb, mcomp (iany (mvar 1)) (gnam 2) mtrue (mcall 1 s__law_is_one (mcons (mvar 2) mnil)) [2] [some (D.tup (p.map encC)), some (encC c), none] S' = .ok (c.map fun i => D.bl (isI i)) (S' ++ gb) := by
      refine mcomp_g (enc := encI) (f := fun i => D.bl (isI i)) (iany_tup rfl) (Nat.le_trans (hc c hcm) big) fun i him S2 => ?_
      obtain ⟨g, hg⟩ := is_one_ok i.1 i.2 (hp c hcm i him) S2
      exact ⟨g, by simp [run_done, done_nx, done_rt, done_exc, sseq_and, sand_nx, sand_rt, sand_bk, sand_ct, sasg_nam, sret_up, sexp_up, sif_up, lft_up, up_ok, up_exc, bnd_and, and_ok, and_exc, mtru_tru, tru_bl, tru_tup, mtst_tst, tst_bl, mvar, mcon, mnil, mcons, mop, mandV, mchain, mbi, mcall, morT, mandT, mnotT, mnotV, mif, mtup, snil, mnew, mlist, mneg, bTy, bIsi, bLen, bInt, tyD, seqOf, lstOf, dIs, dIB, dI, dEq_int, ite_and, ite_or, ite_andB, ite_orB, sizeLine_eq, wipeE, hg]⟩
    obtain ⟨gb, h3⟩ := c3
    refine ⟨gb ++ [.lst (c.map fun i => D.bl (isI i))], ?_⟩
    simp [run_done, done_nx, done_rt, done_exc, sseq_and, sand_nx, sand_rt, sand_bk, sand_ct, sasg_nam, sret_up, sexp_up, sif_up, lft_up, up_ok, up_exc, bnd_and, and_ok, and_exc, mtru_tru, tru_bl, tru_tup, mtst_tst, tst_bl, mvar, mcon, mnil, mcons, mop, mandV, mchain, mbi, mcall, morT, mandT, mnotT, mnotV, mif, mtup, snil, mnew, mlist, mneg, bTy, bIsi, bLen, bInt, tyD, seqOf, lstOf, dIs, dIB, dI, dEq_int, ite_and, ite_or, ite_andB, ite_orB, sizeLine_eq, wipeE, h3, bAll_ref (g := isI) (l := c), atA]
  by_cases hn : 1 ≤ p.length ∧ p.length ≤ 12
  · have hn2 : (decide (1 ≤ (p.length : Int)) && decide ((p.length : Int) ≤ 12)) = true := by simp; omega
    have hn3 : (decide (1 ≤ p.length) && decide (p.length ≤ 12)) = true := by simpa using hn
    obtain ⟨g1, h1⟩ := c1 (S ++ [.lst (intsD 1 12)])
    by_cases ha : (p.any fun c => decide (24 < c.length)) = true
    · have hf : p.all isC = false := by
        rw [← Bool.not_eq_true, List.all_eq_true]
        intro q
        obtain ⟨c, hcm, hx⟩ := List.any_eq_true.mp ha
        have := q c hcm
        unfold isC at this
        simp at this hx
        omega
      refine ⟨.lst (intsD 1 12) :: (g1 ++ [.lst (p.map fun c => D.bl (decide (24 < c.length)))]), ?_⟩
      simp [run_done, done_nx, done_rt, done_exc, sseq_and, sand_nx, sand_rt, sand_bk, sand_ct, sasg_nam, sret_up, sexp_up, sif_up, lft_up, up_ok, up_exc, bnd_and, and_ok, and_exc, mtru_tru, tru_bl, tru_tup, mtst_tst, tst_bl, mvar, mcon, mnil, mcons, mop, mandV, mchain, mbi, mcall, morT, mandT, mnotT, mnotV, mif, mtup, snil, mnew, mlist, mneg, bTy, bIsi, bLen, bInt, tyD, seqOf, lstOf, dIs, dIB, dI, dEq_int, ite_and, ite_or, ite_andB, ite_orB, sizeLine_eq, mlrg_13, dIn_12, hn2, h1, bAny_ref (g := fun c => decide (24 < List.length c)) (l := p), ha, hf, atB]
    · obtain ⟨g2, h2⟩ := c2 (S ++ .lst (intsD 1 12) :: (g1 ++ [.lst (p.map fun c => D.bl (decide (24 < c.length)))]))
      have hf : p.all isC = p.all fun c => c.all isI := by
        rw [Bool.eq_iff_iff, List.all_eq_true, List.all_eq_true]
        refine forall_congr' fun c => forall_congr' fun hcm => ?_
        unfold isC
        have : ¬ 24 < c.length := fun z => ha (List.any_eq_true.mpr ⟨c, hcm, by simpa using z⟩)
        simp
        omega
      refine ⟨.lst (intsD 1 12) :: (g1 ++ (.lst (p.map fun c => D.bl (decide (24 < c.length))) :: (g2 ++ [.lst (p.map fun c => D.bl (c.all isI))]))), ?_⟩
      simp [run_done, done_nx, done_rt, done_exc, sseq_and, sand_nx, sand_rt, sand_bk, sand_ct, sasg_nam, sret_up, sexp_up, sif_up, lft_up, up_ok, up_exc, bnd_and, and_ok, and_exc, mtru_tru, tru_bl, tru_tup, mtst_tst, tst_bl, mvar, mcon, mnil, mcons, mop, mandV, mchain, mbi, mcall, morT, mandT, mnotT, mnotV, mif, mtup, snil, mnew, mlist, mneg, bTy, bIsi, bLen, bInt, tyD, seqOf, lstOf, dIs, dIB, dI, dEq_int, ite_and, ite_or, ite_andB, ite_orB, sizeLine_eq, mlrg_13, dIn_12, hn2, h1, h2, hn3, bAny_ref (g := fun c => decide (24 < List.length c)) (l := p), bAll_ref (g := fun c => List.all c isI) (l := p), ha, hf, atB, atC]
  · have hn2 : (decide (1 ≤ (p.length : Int)) && decide ((p.length : Int) ≤ 12)) = false := by
      rw [← Bool.not_eq_true]; simp; omega
    have hn3 : (decide (1 ≤ p.length) && decide (p.length ≤ 12)) = false := by rw [← Bool.not_eq_true]; simp; omega
    refine ⟨[.lst (intsD 1 12)], ?_⟩
    simp [run_done, done_nx, done_rt, done_exc, sseq_and, sand_nx, sand_rt, sand_bk, sand_ct, sasg_nam, sret_up, sexp_up, sif_up, lft_up, up_ok, up_exc, bnd_and, and_ok, and_exc, mtru_tru, tru_bl, tru_tup, mtst_tst, tst_bl, mvar, mcon, mnil, mcons, mop, mandV, mchain, mbi, mcall, morT, mandT, mnotT, mnotV, mif, mtup, snil, mnew, mlist, mneg, bTy, bIsi, bLen, bInt, tyD, seqOf, lstOf, dIs, dIB, dI, dEq_int, ite_and, ite_or, ite_andB, ite_orB, sizeLine_eq, mlrg_13, dIn_12, hn2, hn3]
end K12
namespace K12
open PySem PySem.Spec L2 Ti

/-! ### what is drawn -/
def Dr (B : Nat) (i : Nat) (S : Sto) : Prop := ∃ ns : List Int, S[i]? = some (.lst (ns.map D.int)) ∧ (∀ n ∈ ns, 0 ≤ n ∧ n < 1000) ∧ ns.length ≤ B
theorem tru_ref {i : Nat} {S : Sto} {xs : List D} (h : S[i]? = some (.lst xs)) : (R.ok (D.ref i) S).tru = .ok (!xs.isEmpty) S := by
  unfold R.tru truD seqOf lstOf
  simp only [h]
theorem next_ok {i : Nat} {S : Sto} (h : Dr B i S) : ∃ n S', s__law_next [.ref i] S = .ok (.int n) S' ∧ 0 ≤ n ∧ n < 1000 ∧ Dr B i S' ∧ But i S S' := by
  obtain ⟨ns, e, hn, hb⟩ := h
  unfold s__law_next m__law_next
  rcases List.eq_nil_or_concat ns with rfl | ⟨ms, m, rfl⟩
  · exact ⟨0, S, by simp [run_done, done_nx, done_rt, done_exc, sseq_and, sand_nx, sand_rt, sand_bk, sand_ct, sasg_nam, sret_up, sexp_up, sif_up, lft_up, up_ok, up_exc, bnd_and, and_ok, and_exc, mtru_tru, tru_bl, tru_tup, mtst_tst, tst_bl, mvar, mcon, mnil, mcons, mop, mandV, mchain, mbi, mcall, morT, mandT, mnotT, mnotV, mif, mtup, snil, mnew, mlist, mneg, bTy, bIsi, bLen, bInt, tyD, seqOf, lstOf, dIs, dIB, dI, dEq_int, ite_and, ite_or, ite_andB, ite_orB, sizeLine_eq, tru_ref e], by decide, by decide, ⟨[], e, hn, hb⟩, But.refl⟩
  · have hi : i < S.length := (List.getElem?_eq_some_iff.mp e).1
    refine ⟨m, S.set i (.lst (ms.map D.int)), ?_, (hn m (by simp)).1, (hn m (by simp)).2, ⟨ms, by rw [List.getElem?_set_self hi], fun n hm => hn n (by simp [hm]), by simp at hb; omega⟩, But.set⟩
    have e' := e
    simp at e'
    simp [run_done, done_nx, done_rt, done_exc, sseq_and, sand_nx, sand_rt, sand_bk, sand_ct, sasg_nam, sret_up, sexp_up, sif_up, lft_up, up_ok, up_exc, bnd_and, and_ok, and_exc, mtru_tru, tru_bl, tru_tup, mtst_tst, tst_bl, mvar, mcon, mnil, mcons, mop, mandV, mchain, mbi, mcall, morT, mandT, mnotT, mnotV, mif, mtup, snil, mnew, mlist, mneg, bTy, bIsi, bLen, bInt, tyD, seqOf, lstOf, dIs, dIB, dI, dEq_int, ite_and, ite_or, ite_andB, ite_orB, sizeLine_eq, tru_ref e, mmeth, fPop, e']
theorem Dr.app {i : Nat} {S g : Sto} (h : Dr B i S) : Dr B i (S ++ g) := by
  obtain ⟨ns, e, hn⟩ := h
  exact ⟨ns, app_at e, hn⟩
theorem Dr.but {i j : Nat} {S S' : Sto} (h : Dr B i S) (b : But j S S') (hne : i ≠ j) : Dr B i S' := by
  obtain ⟨ns, e, hn⟩ := h
  exact ⟨ns, (b.at_ i (List.getElem?_eq_some_iff.mp e).1 hne).trans e, hn⟩
/-- .. a number below k -/
theorem mod_ok {n k : Int} (hk : 0 < k) {S : Sto} : dMod (.int n) (.int k) S = .ok (.int (n % k)) S := by
  unfold dMod
  simp only
  rw [if_pos hk]
theorem pick_ok {i j : Nat} {S : Sto} {xs : List D} (h : Dr B i S) (hj : S[j]? = some (.lst xs)) (hne : j ≠ i) (h0 : xs ≠ []) : ∃ d S', s__law_pick [.ref i, .ref j] S = .ok d S' ∧ d ∈ xs ∧ Dr B i S' ∧ But i S S' := by
  obtain ⟨n, S1, e1, h1, h2, d1, b1⟩ := next_ok h
  have hl : (0 : Int) < xs.length := by
    cases xs with
    | nil => exact absurd rfl h0
    | cons x xs => simp
  have ej : S1[j]? = some (.lst xs) := (b1.at_ j (List.getElem?_eq_some_iff.mp hj).1 hne).trans hj
  have hr1 := Int.emod_nonneg n (by omega : (xs.length : Int) ≠ 0)
  have hr2 := Int.emod_lt_of_pos n hl
  have hlt : (n % xs.length).toNat < xs.length := by omega
  refine ⟨xs[(n % xs.length).toNat], S1, ?_, List.getElem_mem hlt, d1, b1⟩
  have ea : atI xs (n % xs.length) = some xs[(n % xs.length).toNat] := by
    unfold atI ixN
    rw [if_pos hr1, if_pos (by exact hr2)]
    exact List.getElem?_eq_getElem hlt
  unfold s__law_pick m__law_pick
  simp [run_done, done_nx, done_rt, done_exc, sseq_and, sand_nx, sand_rt, sand_bk, sand_ct, sasg_nam, sret_up, sexp_up, sif_up, lft_up, up_ok, up_exc, bnd_and, and_ok, and_exc, mtru_tru, tru_bl, tru_tup, mtst_tst, tst_bl, mvar, mcon, mnil, mcons, mop, mandV, mchain, mbi, mcall, morT, mandT, mnotT, mnotV, mif, mtup, snil, mnew, mlist, mneg, bTy, bIsi, bLen, bInt, tyD, seqOf, lstOf, dIs, dIB, dI, dEq_int, ite_and, ite_or, ite_andB, ite_orB, sizeLine_eq, e1, dIx, ej, mod_ok hl, ea]
theorem cut_take (xs : List D) (k : Nat) (h : k ≤ xs.length) : cutD xs none (some (k : Int)) = xs.take k := by
  unfold cutD
  rw [HT.sIx_none, HT.sIx_nat, Nat.min_eq_left h]
  simp
theorem cut_drop (xs : List D) (k : Nat) (h : k ≤ xs.length) : cutD xs (some (k : Int)) none = xs.drop k := by
  unfold cutD
  rw [HT.sIx_none, HT.sIx_nat, Nat.min_eq_left h]
  rw [List.take_of_length_le (by simp)]
theorem dAdd_int (a b : Int) (S : Sto) : dAdd (.int a) (.int b) S = .ok (.int (a + b)) S := rfl
theorem dAdd_tup {xs ys : List D} {S : Sto} (h : xs.length + ys.length ≤ 10000) : dAdd (.tup xs) (.tup ys) S = .ok (.tup (xs ++ ys)) S := by
  unfold dAdd
  simp only
  rw [if_pos (Nat.le_trans h (by decide))]
theorem cutA_tup (xs : List D) (l u : Option Int) (S : Sto) : cutA S (.tup xs) l u = .ok (.tup (cutD xs l u)) S := rfl
theorem put_ok (xs : List D) (k : Nat) (y : D) (h : k < xs.length) (hz : xs.length + 1 ≤ 1000) (S : Sto) : s__law_put [.tup xs, .int k, y] S = .ok (.tup (xs.take k ++ [y] ++ xs.drop (k + 1))) S := by
  have e1 := cut_take xs k (by omega)
  have e2 : cutD xs (some ((k : Int) + 1)) none = xs.drop (k + 1) := by
    have := cut_drop xs (k + 1) (by omega)
    simpa using this
  have f1 : dAdd (.tup (xs.take k)) (.tup [y]) S = .ok (.tup (xs.take k ++ [y])) S := dAdd_tup (by simp; omega)
  have f2 : dAdd (.tup (xs.take k ++ [y])) (.tup (xs.drop (k + 1))) S = .ok (.tup (xs.take k ++ y :: xs.drop (k + 1))) S := by
    rw [dAdd_tup (by simp; omega)]; simp
  unfold s__law_put m__law_put
  simp [run_done, done_nx, done_rt, done_exc, sseq_and, sand_nx, sand_rt, sand_bk, sand_ct, sasg_nam, sret_up, sexp_up, sif_up, lft_up, up_ok, up_exc, bnd_and, and_ok, and_exc, mtru_tru, tru_bl, tru_tup, mtst_tst, tst_bl, mvar, mcon, mnil, mcons, mop, mandV, mchain, mbi, mcall, morT, mandT, mnotT, mnotV, mif, mtup, snil, mnew, mlist, mneg, bTy, bIsi, bLen, bInt, tyD, seqOf, lstOf, dIs, dIB, dI, dEq_int, ite_and, ite_or, ite_andB, ite_orB, sizeLine_eq, msl, mno, mpart, cutA_tup, e1, dAdd_int, e2, f1, f2]
/-! ### programs that are drawn -/
theorem one_ok {i : Nat} {S : Sto} (h : Dr B i S) (lines : Int) (hl : lines = 4) : ∃ p S', s__law_one [.ref i, .int lines] S = .ok (encI p) S' ∧ p.1 ∈ W ∧ isI p = true ∧ p.2.length ≤ 2 ∧ Dr B i S' ∧ But i S S' := by
  subst hl
  obtain ⟨n1, S1, e1, a1, b1, d1, f1⟩ := next_ok h
  obtain ⟨n2, S2, e2, a2, b2, d2, f2⟩ := next_ok d1
  obtain ⟨n3, S3, e3, a3, b3, d3, f3⟩ := next_ok d2
  obtain ⟨n4, S4, e4, a4, b4, d4, f4⟩ := next_ok d3
  have f := f1.trans (f2.trans (f3.trans f4))
  have r1 := Int.emod_nonneg n2 (by decide : (4 : Int) ≠ 0)
  have r2 := Int.emod_lt_of_pos n2 (by decide : (0 : Int) < 4)
  have q1 := Int.emod_nonneg n4 (by decide : (99 : Int) ≠ 0)
  have q2 := Int.emod_lt_of_pos n4 (by decide : (0 : Int) < 99)
  have q3 := Int.emod_nonneg n4 (by decide : (3 : Int) ≠ 0)
  have q4 := Int.emod_lt_of_pos n4 (by decide : (0 : Int) < 3)
  obtain ⟨v, hv, hv1, hv2⟩ : ∃ v, (if n3 % 3 = 0 then 1 + n4 % 99 else 1 + n4 % 3) = v ∧ 1 ≤ v ∧ v ≤ 99 := ⟨_, rfl, by split <;> omega, by split <;> omega⟩
  have go : ∀ (p : Str × List Int), p.1 ∈ W → isI p = true → p.2.length ≤ 2 → s__law_one [.ref i, .int 4] S = .ok (encI p) S4 → ∃ p S', s__law_one [.ref i, .int 4] S = .ok (encI p) S' ∧ p.1 ∈ W ∧ isI p = true ∧ p.2.length ≤ 2 ∧ Dr B i S' ∧ But i S S' :=
    fun p h1 h2 h3 e => ⟨p, S4, e, h1, h2, h3, d4, f⟩
  have m8 := mod_ok (n := n1) (by decide : (0:Int) < 8) (S := S1)
  have m4 := mod_ok (n := n2) (by decide : (0:Int) < 4) (S := S2)
  have m3 := mod_ok (n := n3) (by decide : (0:Int) < 3) (S := S3)
  have m99 := mod_ok (n := n4) (by decide : (0:Int) < 99) (S := S4)
  have m33 := mod_ok (n := n4) (by decide : (0:Int) < 3) (S := S4)
  by_cases k1 : n1 % 8 < 3
  · refine go ("load", [n2 % 4]) (show ("load" : Str) ∈ W by decide) (by simp [isI]; omega) (by simp) ?_
    unfold s__law_one m__law_one encI
    by_cases h3 : n3 % 3 = 0 <;> simp [run_done, done_nx, done_rt, done_exc, sseq_and, sand_nx, sand_rt, sand_bk, sand_ct, sasg_nam, sret_up, sexp_up, sif_up, lft_up, up_ok, up_exc, bnd_and, and_ok, and_exc, mtru_tru, tru_bl, tru_tup, mtst_tst, tst_bl, mvar, mcon, mnil, mcons, mop, mandV, mchain, mbi, mcall, morT, mandT, mnotT, mnotV, mif, mtup, snil, mnew, mlist, mneg, bTy, bIsi, bLen, bInt, tyD, seqOf, lstOf, dIs, dIB, dI, dEq_int, ite_and, ite_or, ite_andB, ite_orB, sizeLine_eq, e1, e2, e3, e4, m8, m4, m3, m99, m33, h3, dAdd_int, k1]
  · by_cases k2 : n1 % 8 < 6
    · refine go ("store", [n2 % 4, v]) (show ("store" : Str) ∈ W by decide) (by simp [isI]; omega) (by simp) ?_
      unfold s__law_one m__law_one encI
      by_cases h3 : n3 % 3 = 0
      · rw [if_pos h3] at hv
        simp [run_done, done_nx, done_rt, done_exc, sseq_and, sand_nx, sand_rt, sand_bk, sand_ct, sasg_nam, sret_up, sexp_up, sif_up, lft_up, up_ok, up_exc, bnd_and, and_ok, and_exc, mtru_tru, tru_bl, tru_tup, mtst_tst, tst_bl, mvar, mcon, mnil, mcons, mop, mandV, mchain, mbi, mcall, morT, mandT, mnotT, mnotV, mif, mtup, snil, mnew, mlist, mneg, bTy, bIsi, bLen, bInt, tyD, seqOf, lstOf, dIs, dIB, dI, dEq_int, ite_and, ite_or, ite_andB, ite_orB, sizeLine_eq, e1, e2, e3, e4, m8, m4, m3, m99, m33, h3, dAdd_int, k1, k2, hv]
      · rw [if_neg h3] at hv
        simp [run_done, done_nx, done_rt, done_exc, sseq_and, sand_nx, sand_rt, sand_bk, sand_ct, sasg_nam, sret_up, sexp_up, sif_up, lft_up, up_ok, up_exc, bnd_and, and_ok, and_exc, mtru_tru, tru_bl, tru_tup, mtst_tst, tst_bl, mvar, mcon, mnil, mcons, mop, mandV, mchain, mbi, mcall, morT, mandT, mnotT, mnotV, mif, mtup, snil, mnew, mlist, mneg, bTy, bIsi, bLen, bInt, tyD, seqOf, lstOf, dIs, dIB, dI, dEq_int, ite_and, ite_or, ite_andB, ite_orB, sizeLine_eq, e1, e2, e3, e4, m8, m4, m3, m99, m33, h3, dAdd_int, k1, k2, hv]
    · by_cases k3 : n1 % 8 = 6
      · refine go ("swap", [n2 % 4, v]) (show ("swap" : Str) ∈ W by decide) (by simp [isI]; omega) (by simp) ?_
        unfold s__law_one m__law_one encI
        by_cases h3 : n3 % 3 = 0
        · rw [if_pos h3] at hv
          simp [run_done, done_nx, done_rt, done_exc, sseq_and, sand_nx, sand_rt, sand_bk, sand_ct, sasg_nam, sret_up, sexp_up, sif_up, lft_up, up_ok, up_exc, bnd_and, and_ok, and_exc, mtru_tru, tru_bl, tru_tup, mtst_tst, tst_bl, mvar, mcon, mnil, mcons, mop, mandV, mchain, mbi, mcall, morT, mandT, mnotT, mnotV, mif, mtup, snil, mnew, mlist, mneg, bTy, bIsi, bLen, bInt, tyD, seqOf, lstOf, dIs, dIB, dI, dEq_int, ite_and, ite_or, ite_andB, ite_orB, sizeLine_eq, e1, e2, e3, e4, m8, m4, m3, m99, m33, h3, dAdd_int, k1, k2, k3, hv]
        · rw [if_neg h3] at hv
          simp [run_done, done_nx, done_rt, done_exc, sseq_and, sand_nx, sand_rt, sand_bk, sand_ct, sasg_nam, sret_up, sexp_up, sif_up, lft_up, up_ok, up_exc, bnd_and, and_ok, and_exc, mtru_tru, tru_bl, tru_tup, mtst_tst, tst_bl, mvar, mcon, mnil, mcons, mop, mandV, mchain, mbi, mcall, morT, mandT, mnotT, mnotV, mif, mtup, snil, mnew, mlist, mneg, bTy, bIsi, bLen, bInt, tyD, seqOf, lstOf, dIs, dIB, dI, dEq_int, ite_and, ite_or, ite_andB, ite_orB, sizeLine_eq, e1, e2, e3, e4, m8, m4, m3, m99, m33, h3, dAdd_int, k1, k2, k3, hv]
      · refine go ("fence", []) (show ("fence" : Str) ∈ W by decide) (by simp [isI]) (by simp) ?_
        unfold s__law_one m__law_one encI
        by_cases h3 : n3 % 3 = 0 <;> simp [run_done, done_nx, done_rt, done_exc, sseq_and, sand_nx, sand_rt, sand_bk, sand_ct, sasg_nam, sret_up, sexp_up, sif_up, lft_up, up_ok, up_exc, bnd_and, and_ok, and_exc, mtru_tru, tru_bl, tru_tup, mtst_tst, tst_bl, mvar, mcon, mnil, mcons, mop, mandV, mchain, mbi, mcall, morT, mandT, mnotT, mnotV, mif, mtup, snil, mnew, mlist, mneg, bTy, bIsi, bLen, bInt, tyD, seqOf, lstOf, dIs, dIB, dI, dEq_int, ite_and, ite_or, ite_andB, ite_orB, sizeLine_eq, e1, e2, e3, e4, m8, m4, m3, m99, m33, h3, dAdd_int, k1, k2, k3]
theorem ex_list {α : Type} {enc : α → D} {G : α → Prop} : ∀ (ys : List D), (∀ y ∈ ys, ∃ a, y = enc a ∧ G a) → ∃ l : List α, ys = l.map enc ∧ ∀ a ∈ l, G a
  | [], _ => ⟨[], rfl, fun _ h => by simp at h⟩
  | y :: ys, h => by
    obtain ⟨a, e, g⟩ := h y List.mem_cons_self
    obtain ⟨l, el, gl⟩ := ex_list ys fun z hz => h z (List.mem_cons_of_mem _ hz)
    exact ⟨a :: l, by rw [e, el]; rfl, fun b hb => by
      rcases List.mem_cons.mp hb with rfl | hb
      · exact g
      · exact gl b hb⟩
theorem mcomp_inv {α : Type} {enc : α → D} {G : α → Prop} {I : Sto → Prop} {mi : MI} {v : Nat} {me : MD} {vs : List Nat} {env : Slots} {S S1 : Sto} {xs : List D} (h : mi env S = .ok (xs, fun _ => True) S1) (hl : xs.length ≤ sizeLine) (h0 : I S1)
    (he : ∀ x ∈ xs, ∀ S, I S → ∃ a S', me ((wipeE env vs).set v (some x)) S = .ok (enc a) S' ∧ G a ∧ I S') :
    ∃ (l : List α) (S' : Sto), mcomp mi (gnam v) mtrue me vs env S = .ok (l.map enc) S' ∧ l.length = xs.length ∧ (∀ a ∈ l, G a) ∧ I S' := by
  obtain ⟨ys, S', e, el, g, i⟩ := comp_inv (P := fun _ => True) (G := fun y => ∃ a, y = enc a ∧ G a) (fun _ _ => trivial) xs (fun x hx S hS => by
    obtain ⟨a, S', e, g, i⟩ := he x hx S hS
    exact ⟨_, S', e, ⟨a, rfl, g⟩, i⟩) S1 [] h0 (by simpa using hl)
  obtain ⟨l, rfl, gl⟩ := ex_list ys g
  refine ⟨l, S', ?_, by simpa using el, gl, i⟩
  unfold mcomp bnd
  rw [h]
  simpa using e
theorem irng_ok {m : MD} {env : Slots} {S S' : Sto} {n : Nat} (h : m env S = .ok (.int n) S') (hn : n ≤ 100000) : irng1 m env S = .ok (intsD 0 n, fun _ => True) S' := by
  unfold irng1 bnd
  rw [h]
  simp only
  rw [if_pos (by omega), Int.toNat_natCast]
theorem intsD_len (lo : Int) (n : Nat) : (intsD lo n).length = n := by unfold intsD; simp
/-- a program of so many cores -/
def goodC (most : Nat) (c : List (Str × List Int)) : Prop := c.length ≤ most ∧ c.all isI = true ∧ okC c
theorem program_ok {i : Nat} {S : Sto} (h : Dr B i S) (cores most : Nat) (hc : cores ≤ 12) (hm : most ≤ 24) :
    ∃ p S', s__law_program [.ref i, .int cores, .int most, .int 4] S = .ok (encP p) S' ∧ p.length = cores ∧ (∀ c ∈ p, goodC most c) ∧ Dr B i S' ∧ But i S S' := by
  have big : 100000 ≤ sizeLine := by decide
  have step : ∀ x ∈ intsD 0 cores, ∀ S1, (Dr B i S1 ∧ But i S S1) → ∃ c S', (mbi bTup (mcons (mnew (mcomp (irng1 (mop dMod (mbi bInt (mcons (mcall 1 s__law_next (mcons (mvar 0) mnil)) mnil)) (mop dAdd (mvar 2) (mcon (.int 1))))) (gnam 5) mtrue (mcall 2 s__law_one (mcons (mvar 0) (mcons (mvar 3) mnil))) [5])) mnil))
      ((wipeE [some (.ref i), some (.int cores), some (.int most), some (.int 4), none, none] [4]).set 4 (some x)) S1 = .ok (encC c) S' ∧ goodC most c ∧ (Dr B i S' ∧ But i S S') := by
    intro x hx S1 ⟨d1, b1⟩
    obtain ⟨n, S2, e2, a2, b2, d2, f2⟩ := next_ok d1
    have hpos : (0 : Int) < (most : Int) + 1 := by omega
    have r1 := Int.emod_nonneg n (by omega : (most : Int) + 1 ≠ 0)
    have r2 := Int.emod_lt_of_pos n hpos
    obtain ⟨k, hk⟩ : ∃ k : Nat, n % ((most : Int) + 1) = k := ⟨(n % ((most : Int) + 1)).toNat, by omega⟩
    have md := mod_ok (n := n) hpos (S := S2)
    have hi : irng1 (mop dMod (mbi bInt (mcons (mcall 1 s__law_next (mcons (mvar 0) mnil)) mnil)) (mop dAdd (mvar 2) (mcon (.int 1)))) [some (.ref i), some (.int cores), some (.int most), some (.int 4), some x, none] S1 = .ok (intsD 0 k, fun _ => True) S2 := by
      refine irng_ok ?_ (by omega)
      simp [run_done, done_nx, done_rt, done_exc, sseq_and, sand_nx, sand_rt, sand_bk, sand_ct, sasg_nam, sret_up, sexp_up, sif_up, lft_up, up_ok, up_exc, bnd_and, and_ok, and_exc, mtru_tru, tru_bl, tru_tup, mtst_tst, tst_bl, mvar, mcon, mnil, mcons, mop, mandV, mchain, mbi, mcall, morT, mandT, mnotT, mnotV, mif, mtup, snil, mnew, mlist, mneg, bTy, bIsi, bLen, bInt, tyD, seqOf, lstOf, dIs, dIB, dI, dEq_int, ite_and, ite_or, ite_andB, ite_orB, sizeLine_eq, e2, dAdd_int, md, hk]
    obtain ⟨c, S3, e3, el3, g3, d3, b3⟩ := mcomp_inv (enc := encI) (G := fun q => q.1 ∈ W ∧ isI q = true) (I := fun S' => Dr B i S' ∧ But i S1 S') (v := 5) (vs := [5]) (me := mcall 2 s__law_one (mcons (mvar 0) (mcons (mvar 3) mnil))) hi (by rw [intsD_len]; omega) ⟨d2, f2⟩ fun y hy S4 ⟨d4, b4⟩ => by
      obtain ⟨q, S5, e5, w5, i5, l5, d5, b5⟩ := one_ok d4 4 rfl
      exact ⟨q, S5, by simp [run_done, done_nx, done_rt, done_exc, sseq_and, sand_nx, sand_rt, sand_bk, sand_ct, sasg_nam, sret_up, sexp_up, sif_up, lft_up, up_ok, up_exc, bnd_and, and_ok, and_exc, mtru_tru, tru_bl, tru_tup, mtst_tst, tst_bl, mvar, mcon, mnil, mcons, mop, mandV, mchain, mbi, mcall, morT, mandT, mnotT, mnotV, mif, mtup, snil, mnew, mlist, mneg, bTy, bIsi, bLen, bInt, tyD, seqOf, lstOf, dIs, dIB, dI, dEq_int, ite_and, ite_or, ite_andB, ite_orB, sizeLine_eq, wipeE, e5], ⟨w5, i5⟩, d5, b4.trans b5⟩
    refine ⟨c, S3 ++ [.lst (c.map encI)], ?_, ⟨by rw [el3, intsD_len]; omega, List.all_eq_true.mpr fun q hq => (g3 q hq).2, fun q hq => (g3 q hq).1⟩, d3.app, b1.trans (b3.trans But.app)⟩
    simp [run_done, done_nx, done_rt, done_exc, sseq_and, sand_nx, sand_rt, sand_bk, sand_ct, sasg_nam, sret_up, sexp_up, sif_up, lft_up, up_ok, up_exc, bnd_and, and_ok, and_exc, mtru_tru, tru_bl, tru_tup, mtst_tst, tst_bl, mvar, mcon, mnil, mcons, mop, mandV, mchain, mbi, mcall, morT, mandT, mnotT, mnotV, mif, mtup, snil, mnew, mlist, mneg, bTy, bIsi, bLen, bInt, tyD, seqOf, lstOf, dIs, dIB, dI, dEq_int, ite_and, ite_or, ite_andB, ite_orB, sizeLine_eq, wipeE, e3, bTup, encC]
  have hi : irng1 (mvar 1) [some (D.ref i), some (.int cores), some (.int most), some (.int 4), none, none] S = .ok (intsD 0 cores, fun _ => True) S := irng_ok (by rfl) (by omega)
  have hlen : (intsD 0 cores).length ≤ sizeLine := by rw [intsD_len]; omega
  obtain ⟨p, S', e, el, g, d, b⟩ := mcomp_inv (enc := encC) (G := goodC most) (I := fun S' => Dr B i S' ∧ But i S S') (v := 4) (vs := [4]) hi hlen ⟨h, But.refl⟩ step
  rw [intsD_len] at el
  refine ⟨p, S' ++ [.lst (p.map encC)], ?_, el, g, d.app, b.trans But.app⟩
  unfold s__law_program m__law_program
  simp [run_done, done_nx, done_rt, done_exc, sseq_and, sand_nx, sand_rt, sand_bk, sand_ct, sasg_nam, sret_up, sexp_up, sif_up, lft_up, up_ok, up_exc, bnd_and, and_ok, and_exc, mtru_tru, tru_bl, tru_tup, mtst_tst, tst_bl, mvar, mcon, mnil, mcons, mop, mandV, mchain, mbi, mcall, morT, mandT, mnotT, mnotV, mif, mtup, snil, mnew, mlist, mneg, bTy, bIsi, bLen, bInt, tyD, seqOf, lstOf, dIs, dIB, dI, dEq_int, ite_and, ite_or, ite_andB, ite_orB, sizeLine_eq, e, bTup, encP]
end K12
namespace K12
open PySem PySem.Spec L2 Ti

theorem dMulB_int {a b : Int} {S : Sto} (h : L2.CMul a b) : dMulB (.int a) (.int b) S = .ok (.int (a * b)) S := by
  unfold dMulB dMul dMulI
  exact if_pos h
theorem dDiv_int {a b : Int} {S : Sto} (h : L2.CDiv a b) : dDiv (.int a) (.int b) S = .ok (.int (a / b)) S := by
  unfold dDiv
  exact if_pos h
theorem small_mul {a b : Int} (h : -(2 ^ 64) < b ∧ b < 2 ^ 64) : L2.CMul a b := .inr h
theorem append_ok {i : Nat} {S : Sto} {xs : List D} {y : D} (h : S[i]? = some (.lst xs)) (hz : xs.length < sizeLine) : fAppend i [y] S = .ok .non (S.set i (.lst (xs ++ [y]))) := by
  unfold fAppend
  simp only [h]
  rw [if_pos hz]
theorem more_ok {B i : Nat} {S : Sto} (h : Dr B i S) (hB : B ≤ 100000) : ∃ k S', s__law_more [.ref i, .int 1200] S = .ok (.ref k) S' ∧ Dr (1200 + B) k S' ∧ Dr B i S' ∧ But i S S' ∧ S.length ≤ k := by
  obtain ⟨n1, S1, e1, a1, b1, d1, f1⟩ := next_ok h
  obtain ⟨n2, S2, e2, a2, b2, d2, f2⟩ := next_ok d1
  have c1 : dMulB (.int 1000) (.int n1) S1 = .ok (.int (1000 * n1)) S1 := dMulB_int (small_mul ⟨by omega, by omega⟩)
  have big : 16777216 ≤ sizeLine := by rw [sizeLine_eq]; exact Nat.le_refl _
  have hm : S2.length < (S2 ++ [MO.lst []]).length := by simp
  -- the loop
  let I : Nat → Slots → Sto → Prop := fun j env S' => ∃ seed x, ∃ ms : List Int, env = [some (.ref i), some (.int 1200), some (.int seed), some (.ref S2.length), x] ∧ S'[S2.length]? = some (.lst (ms.map D.int)) ∧ (∀ n ∈ ms, 0 ≤ n ∧ n < 1000) ∧ ms.length = j ∧ But S2.length (S2 ++ [.lst []]) S'
  obtain ⟨j, env', S', hj, hl, seed, x, ms, rfl, em, hms, elen, bs⟩ := for_idx (P := fun _ => True) (g := gnam 4) (body := (sseq (sasg (mop dMod (mbi bInt (mcons (mop dAdd (mop dMulB (mvar 2) (mcon (.int 48271))) (mcon (.int 12345))) mnil)) (mcon (.int 2147483647))) (gnam 2))
    (sexp (mmeth fAppend (mvar 3) (mcons (mop dMod (mbi bInt (mcons (mop dDiv (mvar 2) (mcon (.int 7))) mnil)) (mcon (.int 1000))) mnil))))) (I := I) (fun _ _ _ _ => trivial) (intsD 0 1200) 0
    (fun x hx m env S' hlt hI => by
      obtain ⟨seed, y, ms, rfl, em, hms, elen, bs⟩ := hI
      rw [intsD_len] at hlt
      have hS : S2.length < S'.length := (List.getElem?_eq_some_iff.mp em).1
      have q1 := Int.emod_nonneg ((seed * 48271 + 12345) % 2147483647 / 7) (by decide : (1000 : Int) ≠ 0)
      have q2 := Int.emod_lt_of_pos ((seed * 48271 + 12345) % 2147483647 / 7) (by decide : (0 : Int) < 1000)
      refine ⟨_, rfl, [some (.ref i), some (.int 1200), some (.int ((seed * 48271 + 12345) % 2147483647)), some (.ref S2.length), some x], S'.set S2.length (.lst (ms.map D.int ++ [.int ((seed * 48271 + 12345) % 2147483647 / 7 % 1000)])), .inl ?_,
        (seed * 48271 + 12345) % 2147483647, some x, ms ++ [(seed * 48271 + 12345) % 2147483647 / 7 % 1000], rfl, ?_, ?_, by simp [elen], bs.trans But.set⟩
      · have k1 : dMulB (.int seed) (.int 48271) S' = .ok (.int (seed * 48271)) S' := dMulB_int (small_mul ⟨by decide, by decide⟩)
        have k2 := mod_ok (n := seed * 48271 + 12345) (by decide : (0 : Int) < 2147483647) (S := S')
        have k3 : dDiv (.int ((seed * 48271 + 12345) % 2147483647)) (.int 7) S' = .ok (.int ((seed * 48271 + 12345) % 2147483647 / 7)) S' := dDiv_int ⟨by decide, by decide⟩
        have k4 := mod_ok (n := (seed * 48271 + 12345) % 2147483647 / 7) (by decide : (0 : Int) < 1000) (S := S')
        have k5 := append_ok (y := .int ((seed * 48271 + 12345) % 2147483647 / 7 % 1000)) em (by simp [elen]; omega)
        simp [run_done, done_nx, done_rt, done_exc, sseq_and, sand_nx, sand_rt, sand_bk, sand_ct, sasg_nam, sret_up, sexp_up, sif_up, lft_up, up_ok, up_exc, bnd_and, and_ok, and_exc, mtru_tru, tru_bl, tru_tup, mtst_tst, tst_bl, mvar, mcon, mnil, mcons, mop, mandV, mchain, mbi, mcall, morT, mandT, mnotT, mnotV, mif, mtup, snil, mnew, mlist, mneg, bTy, bIsi, bLen, bInt, tyD, seqOf, lstOf, dIs, dIB, dI, dEq_int, ite_and, ite_or, ite_andB, ite_orB, sizeLine_eq, gnam, k1, dAdd_int, k2, k3, k4, mmeth, k5]
      · rw [List.getElem?_set_self hS]; simp
      · intro n hn
        rcases List.mem_append.mp hn with hn | hn
        · exact hms n hn
        · rw [List.mem_singleton.mp hn]; exact ⟨q1, q2⟩)
    [some (.ref i), some (.int 1200), some (.int (1000 * n1 + n2 + 1)), some (.ref S2.length), none] (S2 ++ [.lst []]) ⟨1000 * n1 + n2 + 1, none, [], rfl, by simp, by simp, rfl, But.refl⟩
  have d3 : Dr B i S' := (d2.app (g := [.lst []])).but bs (by
    obtain ⟨_, e, _⟩ := d2
    have := (List.getElem?_eq_some_iff.mp e).1
    omega)
  obtain ⟨ns, en, hns, hnb⟩ := d3
  rw [intsD_len] at hj
  have il : i < S2.length := by
    obtain ⟨_, e, _⟩ := d2
    exact (List.getElem?_eq_some_iff.mp e).1
  refine ⟨S'.length, S' ++ [.lst (ms.map D.int ++ ns.map D.int)], ?_, ⟨ms ++ ns, by simp, ?_, by simp; omega⟩, Dr.app ⟨ns, en, hns, hnb⟩, ?_, ?_⟩
  · have hs : sfor (irng1 (mvar 1)) (gnam 4) (sseq (sasg (mop dMod (mbi bInt (mcons (mop dAdd (mop dMulB (mvar 2) (mcon (.int 48271))) (mcon (.int 12345))) mnil)) (mcon (.int 2147483647))) (gnam 2))
      (sexp (mmeth fAppend (mvar 3) (mcons (mop dMod (mbi bInt (mcons (mop dDiv (mvar 2) (mcon (.int 7))) mnil)) (mcon (.int 1000))) mnil)))) [some (.ref i), some (.int 1200), some (.int (1000 * n1 + n2 + 1)), some (.ref S2.length), none] (S2 ++ [.lst []]) = _ :=
      (sfor_ok (irng_ok (n := 1200) rfl (by decide))).trans hl
    have ha : dAdd (.ref S2.length) (.ref i) S' = .ok (.ref S'.length) (S' ++ [.lst (ms.map D.int ++ ns.map D.int)]) := by
      unfold dAdd
      simp only [em, en]
      exact if_pos (by simp; omega)
    unfold s__law_more m__law_more
    simp [run_done, done_nx, done_rt, done_exc, sseq_and, sand_nx, sand_rt, sand_bk, sand_ct, sasg_nam, sret_up, sexp_up, sif_up, lft_up, up_ok, up_exc, bnd_and, and_ok, and_exc, mtru_tru, tru_bl, tru_tup, mtst_tst, tst_bl, mvar, mcon, mnil, mcons, mop, mandV, mchain, mbi, mcall, morT, mandT, mnotT, mnotV, mif, mtup, snil, mnew, mlist, mneg, bTy, bIsi, bLen, bInt, tyD, seqOf, lstOf, dIs, dIB, dI, dEq_int, ite_and, ite_or, ite_andB, ite_orB, sizeLine_eq, e1, e2, c1, dAdd_int, hs, ha]
  · intro n hn
    rcases List.mem_append.mp hn with hn | hn
    · exact hms n hn
    · exact hns n hn
  · refine But.trans ⟨?_, fun j hj hne => ?_⟩ But.app
    · have := f1.le; have := f2.le; have := bs.le; simp at this; omega
    · have l1 := f1.le
      have l2 := f2.le
      rw [bs.at_ j (by simp; omega) (by omega), List.getElem?_append_left (by omega), f2.at_ j (by omega) hne, f1.at_ j hj hne]
  · have := f1.le; have := f2.le; have := bs.le; simp at this; omega
theorem goodC.up {a b : Nat} {c : List (Str × List Int)} (h : goodC a c) (hab : a ≤ b) : goodC b c := ⟨Nat.le_trans h.1 hab, h.2⟩
theorem any_ok {B i : Nat} {S : Sto} (h : Dr B i S) (hB : B ≤ 100000) : ∃ p S', s__law_any_program [.ref i] S = .ok (encP p) S' ∧ 1 ≤ p.length ∧ p.length ≤ 12 ∧ (∀ c ∈ p, goodC 24 c) ∧ Dr B i S' := by
  obtain ⟨n1, S1, e1, a1, b1, d1, f1⟩ := next_ok h
  have m1 := mod_ok (n := n1) (by decide : (0 : Int) < 8) (S := S1)
  by_cases h5 : n1 % 8 = 5
  · obtain ⟨k, S2, e2, d2, d1', b2, l2⟩ := more_ok d1 hB
    obtain ⟨p, S3, e3, el, g, d3, b3⟩ := program_ok d2 12 24 (by decide) (by decide)
    have hi : i < S1.length := by obtain ⟨_, e, _⟩ := d1; exact (List.getElem?_eq_some_iff.mp e).1
    refine ⟨p, S3, ?_, by omega, by omega, g, d1'.but b3 (by omega)⟩
    unfold s__law_any_program m__law_any_program
    have e3' : s__law_program [.ref k, .int 12, .int 24, .int 4] S2 = .ok (encP p) S3 := e3
    simp [run_done, done_nx, done_rt, done_exc, sseq_and, sand_nx, sand_rt, sand_bk, sand_ct, sasg_nam, sret_up, sexp_up, sif_up, lft_up, up_ok, up_exc, bnd_and, and_ok, and_exc, mtru_tru, tru_bl, tru_tup, mtst_tst, tst_bl, mvar, mcon, mnil, mcons, mop, mandV, mchain, mbi, mcall, morT, mandT, mnotT, mnotV, mif, mtup, snil, mnew, mlist, mneg, bTy, bIsi, bLen, bInt, tyD, seqOf, lstOf, dIs, dIB, dI, dEq_int, ite_and, ite_or, ite_andB, ite_orB, sizeLine_eq, e1, m1, h5, e2, e3']
  · obtain ⟨n2, S2, e2, a2, b2, d2, f2⟩ := next_ok d1
    have m2 := mod_ok (n := n2) (by decide : (0 : Int) < 4) (S := S2)
    have r1 := Int.emod_nonneg n2 (by decide : (4 : Int) ≠ 0)
    have r2 := Int.emod_lt_of_pos n2 (by decide : (0 : Int) < 4)
    obtain ⟨c, hc⟩ : ∃ c : Nat, 1 + n2 % 4 = c := ⟨(1 + n2 % 4).toNat, by omega⟩
    obtain ⟨p, S3, e3, el, g, d3, b3⟩ := program_ok d2 c 5 (by omega) (by decide)
    refine ⟨p, S3, ?_, by omega, by omega, fun c hc => (g c hc).up (by decide), d3⟩
    unfold s__law_any_program m__law_any_program
    have e3' : s__law_program [.ref i, .int c, .int 5, .int 4] S2 = .ok (encP p) S3 := e3
    simp [run_done, done_nx, done_rt, done_exc, sseq_and, sand_nx, sand_rt, sand_bk, sand_ct, sasg_nam, sret_up, sexp_up, sif_up, lft_up, up_ok, up_exc, bnd_and, and_ok, and_exc, mtru_tru, tru_bl, tru_tup, mtst_tst, tst_bl, mvar, mcon, mnil, mcons, mop, mandV, mchain, mbi, mcall, morT, mandT, mnotT, mnotV, mif, mtup, snil, mnew, mlist, mneg, bTy, bIsi, bLen, bInt, tyD, seqOf, lstOf, dIs, dIB, dI, dEq_int, ite_and, ite_or, ite_andB, ite_orB, sizeLine_eq, e1, m1, h5, e2, m2, dAdd_int, hc, e3']
end K12
namespace K12
open PySem PySem.Spec L2 Ti
theorem ix_ok {xs : List D} {k : Nat} (h : k < xs.length) (S : Sto) : dIx (.tup xs) (.int k) S = .ok xs[k] S := by
  have e : atI xs (k : Int) = some xs[k] := by
    unfold atI ixN
    rw [if_pos (by omega), if_pos (by omega), Int.toNat_natCast]
    exact List.getElem?_eq_getElem h
  unfold dIx seqOf
  simp only [e]
theorem rep_ok (x : D) (r : Nat) (hr : r ≤ 1000) (S : Sto) : dMulB (.tup [x]) (.int r) S = .ok (.tup (List.replicate r x)) S := by
  have fl : ∀ n, (List.replicate n [x]).flatten = List.replicate n x := fun n => by
    induction n with
    | zero => rfl
    | succ n ih => rw [List.replicate_succ, List.flatten_cons, ih]; rfl
  unfold dMulB dMul
  simp only
  by_cases h1 : r = 1
  · subst h1
    rw [if_pos (.inr rfl), if_pos (by decide)]
    rfl
  · rw [if_neg (by simp; omega)]
    by_cases h0 : r = 0
    · subst h0
      rw [if_pos (by decide), if_pos (by decide)]
      rfl
    · rw [if_neg (by omega), if_pos ⟨by omega, by simp⟩, Int.toNat_natCast, fl]
abbrev Prog := List (List (Str × List Int))
/-- what the law may hand in -/
def fine (q : Prog) : Prop := okP q ∧ q.length ≤ 1000 ∧ ∀ c ∈ q, c.length ≤ 1000
theorem encP_len (p : Prog) : (p.map encC).length = p.length := by simp
theorem put_core (p : Prog) (k : Nat) (c : List (Str × List Int)) (hk : k < p.length) (hz : p.length ≤ 900) (S : Sto) : s__law_put [.tup (p.map encC), .int k, .tup (c.map encI)] S = .ok (.tup ((p.take k ++ [c] ++ p.drop (k + 1)).map encC)) S := by
  have := put_ok (p.map encC) k (encC c) (by simpa using hk) (by simp; omega) S
  unfold encC at this ⊢
  rw [this]
  simp
theorem put_ins (c : List (Str × List Int)) (k : Nat) (x : Str × List Int) (hk : k < c.length) (hz : c.length ≤ 900) (S : Sto) : s__law_put [.tup (c.map encI), .int k, encI x] S = .ok (.tup ((c.take k ++ [x] ++ c.drop (k + 1)).map encI)) S := by
  have := put_ok (c.map encI) k (encI x) (by simpa using hk) (by simp; omega) S
  rw [this]
  simp
theorem fine_put {p : Prog} {k : Nat} {c : List (Str × List Int)} (hp : ∀ c ∈ p, goodC 24 c) (hl : p.length ≤ 12) (hc : okC c) (hz : c.length ≤ 1000) : fine (p.take k ++ [c] ++ p.drop (k + 1)) := by
  have hm : ∀ d ∈ p.take k ++ [c] ++ p.drop (k + 1), d = c ∨ d ∈ p := fun d hd => by
    rcases List.mem_append.mp hd with hd | hd
    · rcases List.mem_append.mp hd with hd | hd
      · exact .inr (List.mem_of_mem_take hd)
      · exact .inl (List.mem_singleton.mp hd)
    · exact .inr (List.mem_of_mem_drop hd)
  refine ⟨fun d hd => ?_, by simp; omega, fun d hd => ?_⟩
  · rcases hm d hd with rfl | h
    · exact hc
    · exact (hp d h).2.2
  · rcases hm d hd with rfl | h
    · exact hz
    · have := (hp d h).1; omega
theorem draw {B i : Nat} {S : Sto} (h : Dr B i S) (m : Nat) (hm : 0 < m) : ∃ (n : Int) (k : Nat) (S' : Sto), s__law_next [.ref i] S = .ok (.int n) S' ∧ dMod (.int n) (.int m) S' = .ok (.int k) S' ∧ k < m ∧ Dr B i S' ∧ But i S S' := by
  obtain ⟨n, S1, e1, a1, b1, d1, f1⟩ := next_ok h
  have r1 := Int.emod_nonneg n (by omega : (m : Int) ≠ 0)
  have r2 := Int.emod_lt_of_pos n (by omega : (0 : Int) < m)
  refine ⟨n, (n % (m : Int)).toNat, S1, e1, ?_, by omega, d1, f1⟩
  rw [mod_ok (by omega)]
  congr 2
  omega
theorem pick_new {B i : Nat} {S : Sto} (xs : List D) (h : Dr B i S) (h0 : xs ≠ []) : ∃ d S', s__law_pick [.ref i, .ref S.length] (S ++ [.lst xs]) = .ok d S' ∧ d ∈ xs ∧ Dr B i S' := by
  have hi : i < S.length := by obtain ⟨_, e, _⟩ := h; exact (List.getElem?_eq_some_iff.mp e).1
  obtain ⟨d, S', e, hd, hD, _⟩ := pick_ok (xs := xs) (j := S.length) (S := S ++ [.lst xs]) h.app (by simp) (by omega) h0
  exact ⟨d, S', e, hd, hD⟩
theorem okC_one {w : Str} {as : List Int} (h : w ∈ W) : okC [(w, as)] := fun p hp => by rw [List.mem_singleton.mp hp]; exact h
theorem spoilt_ok {B i : Nat} {S : Sto} (h : Dr B i S) (p : Prog) (h1 : 1 ≤ p.length) (h2 : p.length ≤ 12) (hp : ∀ c ∈ p, goodC 24 c) : ∃ q S', s__law_spoilt [.ref i, encP p] S = .ok (encP q) S' ∧ fine q ∧ Dr B i S' := by
  obtain ⟨n1, r, S1, e1, m1, hr, d1, f1⟩ := draw h 7 (by decide)
  obtain ⟨n2, k, S2, e2, m2, hk, d2, f2⟩ := draw d1 p.length (by omega)
  have m1' : dMod (.int n1) (.int 7) S1 = .ok (.int r) S1 := m1
  have hc := hp p[k] (List.getElem_mem hk)
  have ix : dIx (.tup (p.map encC)) (.int k) S2 = .ok (.tup (p[k].map encI)) S2 := by
    rw [ix_ok (xs := p.map encC) (k := k) (by simpa using hk) S2]
    simp [encC]
  have okp : okP p := fun c hc => (hp c hc).2.2
  unfold encP
  rcases (by omega : r = 0 ∨ r = 1 ∨ r = 2 ∨ (r = 3 ∨ r = 4 ∨ r = 5 ∨ r = 6)) with rfl | rfl | rfl | h36
  · -- more cores
    obtain ⟨n3, t, S3, e3, m3, ht, d3, f3⟩ := draw d2 13 (by decide)
    have m3' : dMod (.int n3) (.int 13) S3 = .ok (.int t) S3 := m3
    have q1 := rep_ok (.tup []) t (by omega) S3
    have q2 : dAdd (.tup (p.map encC)) (.tup (List.replicate t (.tup []))) S3 = .ok (.tup (p.map encC ++ List.replicate t (.tup []))) S3 := dAdd_tup (by simp; omega)
    refine ⟨p ++ List.replicate t [], S3, ?_, ⟨fun c hc => ?_, by simp; omega, fun c hc => ?_⟩, d3⟩
    · unfold s__law_spoilt m__law_spoilt
      simp [run_done, done_nx, done_rt, done_exc, sseq_and, sand_nx, sand_rt, sand_bk, sand_ct, sasg_nam, sret_up, sexp_up, sif_up, lft_up, up_ok, up_exc, bnd_and, and_ok, and_exc, mtru_tru, tru_bl, tru_tup, mtst_tst, tst_bl, mvar, mcon, mnil, mcons, mop, mandV, mchain, mbi, mcall, morT, mandT, mnotT, mnotV, mif, mtup, snil, mnew, mlist, mneg, bTy, bIsi, bLen, bInt, tyD, seqOf, lstOf, dIs, dIB, dI, dEq_int, ite_and, ite_or, ite_andB, ite_orB, sizeLine_eq, e1, m1', e2, m2, ix, e3, m3', q1, q2]
      simp [encC]
    · rcases List.mem_append.mp hc with hc | hc
      · exact okp c hc
      · rw [(List.mem_replicate.mp hc).2]; intro z hz; simp at hz
    · rcases List.mem_append.mp hc with hc | hc
      · have := (hp c hc).1; omega
      · rw [(List.mem_replicate.mp hc).2]; simp
  · -- a core left out
    have q1 := cut_take (p.map encC) k (by simp; omega)
    have q2 : cutD (p.map encC) (some ((k : Int) + 1)) none = (p.map encC).drop (k + 1) := by
      have := cut_drop (p.map encC) (k + 1) (by simp; omega)
      simpa using this
    have q3 : dAdd (.tup ((p.map encC).take k)) (.tup ((p.map encC).drop (k + 1))) S2 = .ok (.tup ((p.map encC).take k ++ (p.map encC).drop (k + 1))) S2 := dAdd_tup (by simp; omega)
    have hm : ∀ c ∈ p.take k ++ p.drop (k + 1), c ∈ p := fun c hc => by
      rcases List.mem_append.mp hc with hc | hc
      · exact List.mem_of_mem_take hc
      · exact List.mem_of_mem_drop hc
    refine ⟨p.take k ++ p.drop (k + 1), S2, ?_, ⟨fun c hc => okp c (hm c hc), by simp; omega, fun c hc => by have := (hp c (hm c hc)).1; omega⟩, d2⟩
    unfold s__law_spoilt m__law_spoilt
    simp [run_done, done_nx, done_rt, done_exc, sseq_and, sand_nx, sand_rt, sand_bk, sand_ct, sasg_nam, sret_up, sexp_up, sif_up, lft_up, up_ok, up_exc, bnd_and, and_ok, and_exc, mtru_tru, tru_bl, tru_tup, mtst_tst, tst_bl, mvar, mcon, mnil, mcons, mop, mandV, mchain, mbi, mcall, morT, mandT, mnotT, mnotV, mif, mtup, snil, mnew, mlist, mneg, bTy, bIsi, bLen, bInt, tyD, seqOf, lstOf, dIs, dIB, dI, dEq_int, ite_and, ite_or, ite_andB, ite_orB, sizeLine_eq, e1, m1', e2, m2, ix, msl, mno, mpart, cutA_tup, q1, q2, q3, dAdd_int]
  · -- a core that is too long, or nearly
    obtain ⟨n3, t, S3, e3, m3, ht, d3, f3⟩ := draw d2 2 (by decide)
    have m3' : dMod (.int n3) (.int 2) S3 = .ok (.int t) S3 := m3
    have hx : p[k].length ≤ 24 := hc.1
    obtain ⟨L, hL, hw, hlen⟩ : ∃ L : List (Str × List Int), List.replicate 25 (D.tup [.str "fence"]) = L.map encI ∧ (∀ z ∈ L, z.1 ∈ W) ∧ L.length = 25 :=
      ⟨List.replicate 25 ("fence", []), by rw [List.map_replicate]; rfl, fun z hz => by rw [(List.mem_replicate.mp hz).2]; exact (show ("fence" : Str) ∈ W by decide), by simp⟩
    have q1 : dMulB (.tup [.tup [.str "fence"]]) (.int 25) S2 = .ok (.tup (L.map encI)) S2 := by
      rw [← hL]; exact rep_ok (.tup [.str "fence"]) 25 (by decide) S2
    have q2 : dAdd (.tup (p[k].map encI)) (.tup (L.map encI)) S2 = .ok (.tup (p[k].map encI ++ L.map encI)) S2 := dAdd_tup (by simp; omega)
    obtain ⟨c, hcd⟩ : ∃ c, c = (p[k] ++ L).take (24 + t) := ⟨_, rfl⟩
    have q3 : cutD (p[k].map encI ++ L.map encI) none (some (24 + (t : Int))) = c.map encI := by
      have := cut_take (p[k].map encI ++ L.map encI) (24 + t) (by simp; omega)
      rw [hcd, List.map_take, List.map_append, ← this]
      rfl
    have hcl : c.length ≤ 25 := by rw [hcd]; simp; omega
    obtain ⟨q, hq⟩ : ∃ q, q = p.take k ++ [c] ++ p.drop (k + 1) := ⟨_, rfl⟩
    have q4 : s__law_put [.tup (p.map encC), .int k, .tup (c.map encI)] S3 = .ok (.tup (q.map encC)) S3 := by rw [hq]; exact put_core p k c hk (by omega) S3
    have hcW : okC c := fun z hz => by
      rw [hcd] at hz
      rcases List.mem_append.mp (List.mem_of_mem_take hz) with hz | hz
      · exact hc.2.2 z hz
      · exact hw z hz
    refine ⟨q, S3, ?_, by rw [hq]; exact fine_put (c := c) hp h2 hcW (by omega), d3⟩
    unfold s__law_spoilt m__law_spoilt
    simp [run_done, done_nx, done_rt, done_exc, sseq_and, sand_nx, sand_rt, sand_bk, sand_ct, sasg_nam, sret_up, sexp_up, sif_up, lft_up, up_ok, up_exc, bnd_and, and_ok, and_exc, mtru_tru, tru_bl, tru_tup, mtst_tst, tst_bl, mvar, mcon, mnil, mcons, mop, mandV, mchain, mbi, mcall, morT, mandT, mnotT, mnotV, mif, mtup, snil, mnew, mlist, mneg, bTy, bIsi, bLen, bInt, tyD, seqOf, lstOf, dIs, dIB, dI, dEq_int, ite_and, ite_or, ite_andB, ite_orB, sizeLine_eq, e1, m1', e2, m2, ix, e3, m3', q1, q2, msl, mno, mpart, cutA_tup, q3, q4, dAdd_int]
  · -- an instruction
    have z0 : ¬ ((r : Int) = 0) := by omega
    have z1 : ¬ ((r : Int) = 1) := by omega
    have z2 : ¬ ((r : Int) = 2) := by omega
    have y0 : ¬ (r = 0) := by omega
    have y1 : ¬ (r = 1) := by omega
    have y2 : ¬ (r = 2) := by omega
    by_cases h0 : p[k] = []
    · obtain ⟨q, hq⟩ : ∃ q, q = p.take k ++ [[(("load" : Str), ([] : List Int))]] ++ p.drop (k + 1) := ⟨_, rfl⟩
      have q4 : s__law_put [.tup (p.map encC), .int k, .tup [.tup [.str "load"]]] S2 = .ok (.tup (q.map encC)) S2 := by rw [hq]; exact put_core p k [("load", [])] hk (by omega) S2
      refine ⟨q, S2, ?_, by rw [hq]; exact fine_put (c := [(("load" : Str), ([] : List Int))]) hp h2 (okC_one (by decide)) (by simp), d2⟩
      unfold s__law_spoilt m__law_spoilt
      simp [run_done, done_nx, done_rt, done_exc, sseq_and, sand_nx, sand_rt, sand_bk, sand_ct, sasg_nam, sret_up, sexp_up, sif_up, lft_up, up_ok, up_exc, bnd_and, and_ok, and_exc, mtru_tru, tru_bl, tru_tup, mtst_tst, tst_bl, mvar, mcon, mnil, mcons, mop, mandV, mchain, mbi, mcall, morT, mandT, mnotT, mnotV, mif, mtup, snil, mnew, mlist, mneg, bTy, bIsi, bLen, bInt, tyD, seqOf, lstOf, dIs, dIB, dI, dEq_int, ite_and, ite_or, ite_andB, ite_orB, sizeLine_eq, e1, m1', e2, m2, ix, q4, z0, z1, z2, y0, y1, y2, h0]
    · have hl0 : 0 < p[k].length := by
        cases hh : p[k] with
        | nil => exact absurd hh h0
        | cons a b => simp
      obtain ⟨n3, j, S3, e3, m3, hj, d3, f3⟩ := draw d2 p[k].length hl0
      obtain ⟨w, as, hwa⟩ : ∃ w as, p[k][j] = (w, as) := ⟨_, _, rfl⟩
      have hmem : (w, as) ∈ p[k] := by rw [← hwa]; exact List.getElem_mem hj
      have hw : w ∈ W := hc.2.2 _ hmem
      have hz24 : p[k].length ≤ 24 := hc.1
      have ix2 : dIx (.tup (p[k].map encI)) (.int j) S3 = .ok (.tup (.str w :: as.map D.int)) S3 := by
        rw [ix_ok (xs := p[k].map encI) (k := j) (by simpa using hj) S3, List.getElem_map, hwa]
        rfl
      have hlas : as.length ≤ 2 := by
        have := List.all_eq_true.mp hc.2.1 _ hmem
        unfold isI at this
        match as, this with
        | [], _ => simp
        | [_], _ => simp
        | [_, _], _ => simp
      have he : p[k].isEmpty = false := by
        cases hh : p[k] with
        | nil => exact absurd hh h0
        | cons a b => rfl
      have fin : ∀ (w' : Str) (as' : List Int) (S' : Sto), w' ∈ W → ∃ (c : List (Str × List Int)) (q : Prog), s__law_put [.tup (p[k].map encI), .int j, .tup (.str w' :: as'.map D.int)] S' = .ok (.tup (c.map encI)) S' ∧ s__law_put [.tup (p.map encC), .int k, .tup (c.map encI)] S' = .ok (.tup (q.map encC)) S' ∧ fine q := by
        intro w' as' S' hw'
        refine ⟨p[k].take j ++ [(w', as')] ++ p[k].drop (j + 1), p.take k ++ [p[k].take j ++ [(w', as')] ++ p[k].drop (j + 1)] ++ p.drop (k + 1), put_ins p[k] j (w', as') hj (by omega) S', put_core p k _ hk (by omega) S', fine_put hp h2 (fun z hz => ?_) (by simp; omega)⟩
        rcases List.mem_append.mp hz with hz | hz
        · rcases List.mem_append.mp hz with hz | hz
          · exact hc.2.2 z (List.mem_of_mem_take hz)
          · rw [List.mem_singleton.mp hz]; exact hw'
        · exact hc.2.2 z (List.mem_of_mem_drop hz)
      rcases h36 with rfl | rfl | rfl | rfl
      · -- another word
        obtain ⟨d, S4, e4, hd, d4⟩ := pick_new [.str "Load", .str "", .str "store ", .str "load", .str "store", .str "swap", .str "fence", .str "drain"] d3 (by simp)
        obtain ⟨w', rfl, hw'⟩ : ∃ w', d = .str w' ∧ w' ∈ W := by
          simp only [List.mem_cons, List.not_mem_nil, or_false] at hd
          rcases hd with rfl | rfl | rfl | rfl | rfl | rfl | rfl | rfl <;> exact ⟨_, rfl, by decide⟩
        obtain ⟨c, q, q5, q6, fq⟩ := fin w' as S4 hw'
        have q1 : cutD (.str w :: as.map D.int) (some 1) none = as.map D.int := cut_drop (.str w :: as.map D.int) 1 (by simp)
        have q2 : dAdd (.tup [.str w']) (.tup (as.map D.int)) S4 = .ok (.tup (.str w' :: as.map D.int)) S4 := by rw [dAdd_tup (by simp; omega)]; rfl
        refine ⟨q, S4, ?_, fq, d4⟩
        unfold s__law_spoilt m__law_spoilt
        simp [run_done, done_nx, done_rt, done_exc, sseq_and, sand_nx, sand_rt, sand_bk, sand_ct, sasg_nam, sret_up, sexp_up, sif_up, lft_up, up_ok, up_exc, bnd_and, and_ok, and_exc, mtru_tru, tru_bl, tru_tup, mtst_tst, tst_bl, mvar, mcon, mnil, mcons, mop, mandV, mchain, mbi, mcall, morT, mandT, mnotT, mnotV, mif, mtup, snil, mnew, mlist, mneg, bTy, bIsi, bLen, bInt, tyD, seqOf, lstOf, dIs, dIB, dI, dEq_int, ite_and, ite_or, ite_andB, ite_orB, sizeLine_eq, e1, m1', e2, m2, ix, e3, m3, ix2, he, h0, z0, z1, z2, e4, msl, mno, mpart, cutA_tup, q1, q2, q5, q6]
      · -- another number behind the word
        match as, hlas with
        | [], _ =>
          obtain ⟨c, q, q5, q6, fq⟩ := fin w [] S3 hw
          have q5' : s__law_put [.tup (p[k].map encI), .int j, .tup [.str w]] S3 = .ok (.tup (c.map encI)) S3 := q5
          have ix2' : dIx (.tup (p[k].map encI)) (.int j) S3 = .ok (.tup [.str w]) S3 := ix2
          refine ⟨q, S3, ?_, fq, d3⟩
          unfold s__law_spoilt m__law_spoilt
          simp [run_done, done_nx, done_rt, done_exc, sseq_and, sand_nx, sand_rt, sand_bk, sand_ct, sasg_nam, sret_up, sexp_up, sif_up, lft_up, up_ok, up_exc, bnd_and, and_ok, and_exc, mtru_tru, tru_bl, tru_tup, mtst_tst, tst_bl, mvar, mcon, mnil, mcons, mop, mandV, mchain, mbi, mcall, morT, mandT, mnotT, mnotV, mif, mtup, snil, mnew, mlist, mneg, bTy, bIsi, bLen, bInt, tyD, seqOf, lstOf, dIs, dIB, dI, dEq_int, ite_and, ite_or, ite_andB, ite_orB, sizeLine_eq, e1, m1', e2, m2, ix, e3, m3, ix2', he, h0, msl, mno, mpart, cutA_tup, q5', q6]
        | a :: r, hr2 =>
          obtain ⟨n4, t, S4, e4, m4, ht, d4, f4⟩ := draw d3 7 (by decide)
          have m4' : dMod (.int n4) (.int 7) S4 = .ok (.int t) S4 := m4
          obtain ⟨c, q, q5, q6, fq⟩ := fin w ((t - 2) :: r) S4 hw
          have q5' : s__law_put [.tup (p[k].map encI), .int j, .tup (.str w :: .int (t - 2) :: r.map D.int)] S4 = .ok (.tup (c.map encI)) S4 := q5
          have ix2' : dIx (.tup (p[k].map encI)) (.int j) S3 = .ok (.tup (.str w :: .int a :: r.map D.int)) S3 := ix2
          have q7 : s__law_put [.tup (.str w :: .int a :: r.map D.int), .int 1, .int (t - 2)] S4 = .ok (.tup (.str w :: .int (t - 2) :: r.map D.int)) S4 := by
            have := put_ok (.str w :: .int a :: r.map D.int) 1 (.int (t - 2)) (by simp) (by simp at hr2 ⊢; omega) S4
            exact this
          have z : (1 : Int) < (r.length : Int) + 1 + 1 := by omega
          refine ⟨q, S4, ?_, fq, d4⟩
          unfold s__law_spoilt m__law_spoilt
          simp [run_done, done_nx, done_rt, done_exc, sseq_and, sand_nx, sand_rt, sand_bk, sand_ct, sasg_nam, sret_up, sexp_up, sif_up, lft_up, up_ok, up_exc, bnd_and, and_ok, and_exc, mtru_tru, tru_bl, tru_tup, mtst_tst, tst_bl, mvar, mcon, mnil, mcons, mop, mandV, mchain, mbi, mcall, morT, mandT, mnotT, mnotV, mif, mtup, snil, mnew, mlist, mneg, bTy, bIsi, bLen, bInt, tyD, seqOf, lstOf, dIs, dIB, dI, dEq_int, ite_and, ite_or, ite_andB, ite_orB, sizeLine_eq, e1, m1', e2, m2, ix, e3, m3, ix2', he, h0, e4, m4', q7, msl, mno, mpart, cutA_tup, q5', q6, z]
      · -- another number at the end
        obtain ⟨d, S4, e4, hd, d4⟩ := pick_new [.int 0, .int (-1), .int 1, .int 99, .int 100, .int 101] d3 (by simp)
        obtain ⟨v, rfl⟩ : ∃ v, d = .int v := by
          simp only [List.mem_cons, List.not_mem_nil, or_false] at hd
          rcases hd with rfl | rfl | rfl | rfl | rfl | rfl <;> exact ⟨_, rfl⟩
        obtain ⟨c, q, q5, q6, fq⟩ := fin w (as.take 1 ++ [v]) S4 hw
        have q1 : cutD (.str w :: as.map D.int) none (some 2) = .str w :: (as.take 1).map D.int := by
          match as with
          | [] => rfl
          | [a] => rfl
          | a :: b :: r => 
            have := cut_take (.str w :: (a :: b :: r).map D.int) 2 (by simp)
            exact this
        have q2 : dAdd (.tup (.str w :: (as.take 1).map D.int)) (.tup [.int v]) S4 = .ok (.tup (.str w :: (as.take 1 ++ [v]).map D.int)) S4 := by rw [dAdd_tup (by simp; omega)]; simp
        refine ⟨q, S4, ?_, fq, d4⟩
        generalize hB : (as.take 1 ++ [v]).map D.int = bs at q2 q5
        generalize hA : (as.take 1).map D.int = cs at q1 q2
        unfold s__law_spoilt m__law_spoilt
        simp [run_done, done_nx, done_rt, done_exc, sseq_and, sand_nx, sand_rt, sand_bk, sand_ct, sasg_nam, sret_up, sexp_up, sif_up, lft_up, up_ok, up_exc, bnd_and, and_ok, and_exc, mtru_tru, tru_bl, tru_tup, mtst_tst, tst_bl, mvar, mcon, mnil, mcons, mop, mandV, mchain, mbi, mcall, morT, mandT, mnotT, mnotV, mif, mtup, snil, mnew, mlist, mneg, bTy, bIsi, bLen, bInt, tyD, seqOf, lstOf, dIs, dIB, dI, dEq_int, ite_and, ite_or, ite_andB, ite_orB, sizeLine_eq, e1, m1', e2, m2, ix, e3, m3, ix2, he, h0, e4, msl, mno, mpart, cutA_tup, q1, q2, q5, q6]
      · -- one too many, or one less
        obtain ⟨as1, q0, hlen1⟩ : ∃ as1 : List Int, mif (mtst (mop dGt (mbi bLen (mcons (mvar 6) mnil)) (mcon (.int 1)))) (msl (mvar 6) mno (mpart (mneg (mcon (.int 1))))) (mop dAdd (mvar 6) (mtup (mcons (mcon (.int 0)) mnil)))
            [some (.ref i), some (.tup (p.map encC)), some (.int 6), some (.int k), some (.tup (p[k].map encI)), some (.int j), some (.tup (.str w :: as.map D.int))] S3 = .ok (.tup (.str w :: as1.map D.int)) S3 ∧ as1.length ≤ 2 := by
          match as, hlas with
          | [], _ =>
            have q2 : dAdd (.tup [.str w]) (.tup [.int 0]) S3 = .ok (.tup [.str w, .int 0]) S3 := dAdd_tup (by simp)
            exact ⟨[0], by simp [run_done, done_nx, done_rt, done_exc, sseq_and, sand_nx, sand_rt, sand_bk, sand_ct, sasg_nam, sret_up, sexp_up, sif_up, lft_up, up_ok, up_exc, bnd_and, and_ok, and_exc, mtru_tru, tru_bl, tru_tup, mtst_tst, tst_bl, mvar, mcon, mnil, mcons, mop, mandV, mchain, mbi, mcall, morT, mandT, mnotT, mnotV, mif, mtup, snil, mnew, mlist, mneg, bTy, bIsi, bLen, bInt, tyD, seqOf, lstOf, dIs, dIB, dI, dEq_int, ite_and, ite_or, ite_andB, ite_orB, sizeLine_eq, q2], by simp⟩
          | [a], _ =>
            have q2 : cutD [.str w, .int a] none (some (-1)) = [.str w] := rfl
            exact ⟨[], by simp [run_done, done_nx, done_rt, done_exc, sseq_and, sand_nx, sand_rt, sand_bk, sand_ct, sasg_nam, sret_up, sexp_up, sif_up, lft_up, up_ok, up_exc, bnd_and, and_ok, and_exc, mtru_tru, tru_bl, tru_tup, mtst_tst, tst_bl, mvar, mcon, mnil, mcons, mop, mandV, mchain, mbi, mcall, morT, mandT, mnotT, mnotV, mif, mtup, snil, mnew, mlist, mneg, bTy, bIsi, bLen, bInt, tyD, seqOf, lstOf, dIs, dIB, dI, dEq_int, ite_and, ite_or, ite_andB, ite_orB, sizeLine_eq, msl, mno, mpart, cutA_tup, q2], by simp⟩
          | [a, b], _ =>
            have q2 : cutD [.str w, .int a, .int b] none (some (-1)) = [.str w, .int a] := rfl
            exact ⟨[a], by simp [run_done, done_nx, done_rt, done_exc, sseq_and, sand_nx, sand_rt, sand_bk, sand_ct, sasg_nam, sret_up, sexp_up, sif_up, lft_up, up_ok, up_exc, bnd_and, and_ok, and_exc, mtru_tru, tru_bl, tru_tup, mtst_tst, tst_bl, mvar, mcon, mnil, mcons, mop, mandV, mchain, mbi, mcall, morT, mandT, mnotT, mnotV, mif, mtup, snil, mnew, mlist, mneg, bTy, bIsi, bLen, bInt, tyD, seqOf, lstOf, dIs, dIB, dI, dEq_int, ite_and, ite_or, ite_andB, ite_orB, sizeLine_eq, msl, mno, mpart, cutA_tup, q2], by simp⟩
        have q1 : cutD (.str w :: as.map D.int) none (some 2) = .str w :: (as.take 1).map D.int := by
          match as with
          | [] => rfl
          | [a] => rfl
          | a :: b :: r => 
            have := cut_take (.str w :: (a :: b :: r).map D.int) 2 (by simp)
            exact this
        obtain ⟨d, S4, e4, hd, d4⟩ := pick_new [.tup (.str w :: as1.map D.int), .tup (.str w :: (as.take 1).map D.int)] d3 (by simp)
        obtain ⟨as2, rfl⟩ : ∃ as2 : List Int, d = .tup (.str w :: as2.map D.int) := by
          simp only [List.mem_cons, List.not_mem_nil, or_false] at hd
          rcases hd with rfl | rfl <;> exact ⟨_, rfl⟩
        obtain ⟨c, q, q5, q6, fq⟩ := fin w as2 S4 hw
        refine ⟨q, S4, ?_, fq, d4⟩
        generalize hB : as2.map D.int = bs at e4 q5
        generalize hA : (as.take 1).map D.int = cs at q1 e4
        generalize hC : as1.map D.int = ds at q0 e4
        generalize hE : as.map D.int = es at q0 q1 ix2
        have q0' : (mif (mtst (mop dGt (mbi bLen (mcons (mvar 6) mnil)) (mcon (.int 1)))) (msl (mvar 6) mno (mpart (mneg (mcon (.int 1))))) (mop dAdd (mvar 6) (mtup (mcons (mcon (.int 0)) mnil))) : MD) = fun env S => mif (mtst (mop dGt (mbi bLen (mcons (mvar 6) mnil)) (mcon (.int 1)))) (msl (mvar 6) mno (mpart (mneg (mcon (.int 1))))) (mop dAdd (mvar 6) (mtup (mcons (mcon (.int 0)) mnil))) env S := rfl
        unfold s__law_spoilt m__law_spoilt
        generalize hF : (mif (mtst (mop dGt (mbi bLen (mcons (mvar 6) mnil)) (mcon (.int 1)))) (msl (mvar 6) mno (mpart (mneg (mcon (.int 1))))) (mop dAdd (mvar 6) (mtup (mcons (mcon (.int 0)) mnil))) : MD) = F at q0
        simp [run_done, done_nx, done_rt, done_exc, sseq_and, sand_nx, sand_rt, sand_bk, sand_ct, sasg_nam, sret_up, sexp_up, sif_up, lft_up, up_ok, up_exc, bnd_and, and_ok, and_exc, mtru_tru, tru_bl, tru_tup, mtst_tst, tst_bl, mvar, mcon, mnil, mcons, mop, mandV, mchain, mbi, mcall, morT, mandT, mnotT, mnotV, mif, mtup, snil, mnew, mlist, mneg, bTy, bIsi, bLen, bInt, tyD, seqOf, lstOf, dIs, dIB, dI, dEq_int, ite_and, ite_or, ite_andB, ite_orB, sizeLine_eq, e1, m1', e2, m2, ix, e3, m3, ix2, he, h0, e4, msl, mno, mpart, cutA_tup, q0, q1, q5, q6]
end K12
namespace K12
open PySem PySem.Spec L2 Ti

/-! ### the answer of check_program -/
theorem eq_kinds {i j : Nat} {S : Sto} {a b c d a' b' c' d' : Bool} (hi : S[i]? = some (.lst [.bl a, .bl b, .bl c, .bl d])) (hj : S[j]? = some (.lst [.bl a', .bl b', .bl c', .bl d'])) : dEq (.ref i) (.ref j) S = .ok (.bl (a == a' && (b == b' && (c == c' && d == d')))) S := by
  have sh : ∀ p q r s : Bool, SeqAt.shaped (.list [.bool p, .bool q, .bool r, .bool s]) = true := fun p q r s => by cases p <;> cases q <;> cases r <;> cases s <;> decide +kernel
  unfold dEq pyS
  simp only [hi, hj, pyL, pyD]
  rw [if_pos ⟨sh _ _ _ _, sh _ _ _ _⟩]
  simp [PyData.eqv, PyData.eqvAll]
theorem isE_ok {a C : Addr} {tab : List (Addr × Bool)} {k : Bool} (h : tab.lookup C = some k) (S : Sto) : bIsE a tab [.adr a, .adr C] S = .ok (.bl k) S := by
  unfold bIsE
  simp only [h]
  exact if_pos trivial
theorem asked_ok (Cb Cn Cp Ct : Addr) (h1 : Cb ≠ Cp) (h2 : Cn ≠ Cp) (h3 : Ct ≠ Cp) (p : Prog) (hp : okP p) (S : Sto) :
    ∃ g, s__law_asked Cb Cn Cp Ct [encP p] S = .ok (if isP p = true then .non else .tup [.str "refused"]) (S ++ g) := by
  have hk := check_ok Cp p hp S
  unfold s__law_asked m__law_asked
  by_cases h : isP p = true
  · rw [if_pos h] at hk ⊢
    refine ⟨[], ?_⟩
    rw [run_done]
    have e : sret (mcall 1 (s_check_program Cp) (mcons (mvar 0) mnil)) [some (encP p), none, none] S = .rt .non S := by simp [run_done, done_nx, done_rt, done_exc, sseq_and, sand_nx, sand_rt, sand_bk, sand_ct, sasg_nam, sret_up, sexp_up, sif_up, lft_up, up_ok, up_exc, bnd_and, and_ok, and_exc, mtru_tru, tru_bl, tru_tup, mtst_tst, tst_bl, mvar, mcon, mnil, mcons, mop, mandV, mchain, mbi, mcall, morT, mandT, mnotT, mnotV, mif, mtup, snil, mnew, mlist, mneg, bTy, bIsi, bLen, bInt, tyD, seqOf, lstOf, dIs, dIB, dI, dEq_int, ite_and, ite_or, ite_andB, ite_orB, sizeLine_eq, hk]
    unfold stry
    simp only [List.map_cons, List.map_nil, List.length_cons, List.length_nil, List.replicate]
    show SR.done (match sret (mcall 1 (s_check_program Cp) (mcons (mvar 0) mnil)) [some (encP p), none, none] S with | .exc env' (.plain C) S' => _ | r => r) = _
    rw [e]
    simp [done_rt]
  · rw [if_neg h] at hk ⊢
    have e : sret (mcall 1 (s_check_program Cp) (mcons (mvar 0) mnil)) [some (encP p), none, none] S = .exc [some (encP p), none, none] (.plain Cp) S := by simp [run_done, done_nx, done_rt, done_exc, sseq_and, sand_nx, sand_rt, sand_bk, sand_ct, sasg_nam, sret_up, sexp_up, sif_up, lft_up, up_ok, up_exc, bnd_and, and_ok, and_exc, mtru_tru, tru_bl, tru_tup, mtst_tst, tst_bl, mvar, mcon, mnil, mcons, mop, mandV, mchain, mbi, mcall, morT, mandT, mnotT, mnotV, mif, mtup, snil, mnew, mlist, mneg, bTy, bIsi, bLen, bInt, tyD, seqOf, lstOf, dIs, dIB, dI, dEq_int, ite_and, ite_or, ite_andB, ite_orB, sizeLine_eq, hk]
    refine ⟨[.lst [.bl true, .bl false, .bl false, .bl false], .lst [.bl true, .bl false, .bl false, .bl false]], ?_⟩
    rw [run_done]
    have := stry_eq (i := 1) (yes := [Cp]) (no := []) (ms := fun a_ _ => (sseq (sasg (mnew (mlist (mcons (mbi (bIsE a_ [(Cb, false), (Cn, false), (Cp, true), (Ct, false)]) (mcons (mvar 1) (mcons (mcon (.adr Cp)) mnil))) (mcons (mbi (bIsE a_ [(Cb, false), (Cn, false), (Cp, true), (Ct, false)]) (mcons (mvar 1) (mcons (mcon (.adr Ct)) mnil))) (mcons (mbi (bIsE a_ [(Cb, false), (Cn, false), (Cp, true), (Ct, false)]) (mcons (mvar 1) (mcons (mcon (.adr Cb)) mnil))) (mcons (mbi (bIsE a_ [(Cb, false), (Cn, false), (Cp, true), (Ct, false)]) (mcons (mvar 1) (mcons (mcon (.adr Cn)) mnil))) mnil)))))) (gnam 2))
      (sret (mif (mtst (mop dEq (mvar 2) (mnew (mlist (mcons (mcon (.bl true)) (mcons (mcon (.bl false)) (mcons (mcon (.bl false)) (mcons (mcon (.bl false)) mnil)))))))) (mtup (mcons (mcon (.str ("refused" : Str))) mnil)) (mtup (mcons (mcon (.str ("other" : Str))) mnil))))))
      (r := .rt (.tup [.str "refused"]) (S ++ [.lst [.bl true, .bl false, .bl false, .bl false], .lst [.bl true, .bl false, .bl false, .bl false]])) e (by simp) (fun a => by
        have l1 : List.lookup Cp [(Cb, false), (Cn, false), (Cp, true), (Ct, false)] = some true := by simp [List.lookup, beq_eq_false_iff_ne.mpr h1.symm, beq_eq_false_iff_ne.mpr h2.symm]
        have l2 : List.lookup Ct [(Cb, false), (Cn, false), (Cp, true), (Ct, false)] = some false := by
          simp only [List.lookup, beq_eq_false_iff_ne.mpr h3]
          cases (Ct == Cb) <;> cases (Ct == Cn) <;> simp
        have l3 : List.lookup Cb [(Cb, false), (Cn, false), (Cp, true), (Ct, false)] = some false := by simp [List.lookup]
        have l4 : List.lookup Cn [(Cb, false), (Cn, false), (Cp, true), (Ct, false)] = some false := by
          simp only [List.lookup]
          cases (Cn == Cb) <;> simp
        have r1 := isE_ok (a := a) l1 S
        have r2 := isE_ok (a := a) l2 S
        have r3 := isE_ok (a := a) l3 S
        have r4 := isE_ok (a := a) l4 S
        have q := eq_kinds (i := S.length) (j := S.length + 1) (S := S ++ [.lst [.bl true, .bl false, .bl false, .bl false], .lst [.bl true, .bl false, .bl false, .bl false]]) (a := true) (b := false) (c := false) (d := false) (a' := true) (b' := false) (c' := false) (d' := false) (by simp) (by simp)
        simp [run_done, done_nx, done_rt, done_exc, sseq_and, sand_nx, sand_rt, sand_bk, sand_ct, sasg_nam, sret_up, sexp_up, sif_up, lft_up, up_ok, up_exc, bnd_and, and_ok, and_exc, mtru_tru, tru_bl, tru_tup, mtst_tst, tst_bl, mvar, mcon, mnil, mcons, mop, mandV, mchain, mbi, mcall, morT, mandT, mnotT, mnotV, mif, mtup, snil, mnew, mlist, mneg, bTy, bIsi, bLen, bInt, tyD, seqOf, lstOf, dIs, dIB, dI, dEq_int, ite_and, ite_or, ite_andB, ite_orB, sizeLine_eq, r1, r2, r3, r4, q, dropSR])
    simp only [List.map_cons, List.map_nil, List.length_cons, List.length_nil, List.replicate]
    exact (congrArg SR.done this).trans rfl
/-! ### the told bounds -/
theorem repr_bl (b : Bool) (S : Sto) : bRepr [.bl b] S = .ok (.str (PyData.shown (.bool b))) S := by
  unfold bRepr pyS pyD
  simp only
  rw [if_pos (by cases b <;> decide +kernel)]
theorem ne_repr (a b : Bool) (S : Sto) : dNe (.str (PyData.shown (.bool a))) (.str (PyData.shown (.bool b))) S = .ok (.bl (a != b)) S := by
  unfold dNe pyS pyD
  simp only
  rw [if_pos (by cases a <;> cases b <;> decide +kernel)]
  cases a <;> cases b <;> rfl
theorem ne_kinds {i j : Nat} {S : Sto} {a b c d a' b' c' d' : Bool} (hi : S[i]? = some (.lst [.bl a, .bl b, .bl c, .bl d])) (hj : S[j]? = some (.lst [.bl a', .bl b', .bl c', .bl d'])) : dNe (.ref i) (.ref j) S = .ok (.bl (!(a == a' && (b == b' && (c == c' && d == d'))))) S := by
  have sh : ∀ p q r s : Bool, SeqAt.shaped (.list [.bool p, .bool q, .bool r, .bool s]) = true := fun p q r s => by cases p <;> cases q <;> cases r <;> cases s <;> decide +kernel
  unfold dNe pyS
  simp only [hi, hj, pyL, pyD]
  rw [if_pos ⟨sh _ _ _ _, sh _ _ _ _⟩]
  simp [PyData.eqv, PyData.eqvAll]
theorem eq_three {i j : Nat} {S : Sto} {a b c a' b' c' : Bool} (hi : S[i]? = some (.lst [.bl a, .bl b, .bl c])) (hj : S[j]? = some (.lst [.bl a', .bl b', .bl c'])) : dEq (.ref i) (.ref j) S = .ok (.bl (a == a' && (b == b' && c == c'))) S := by
  have sh : ∀ p q r : Bool, SeqAt.shaped (.list [.bool p, .bool q, .bool r]) = true := fun p q r => by cases p <;> cases q <;> cases r <;> decide +kernel
  unfold dEq pyS
  simp only [hi, hj, pyL, pyD]
  rw [if_pos ⟨sh _ _ _, sh _ _ _⟩]
  simp [PyData.eqv, PyData.eqvAll]
theorem prog1 (w : Str) (hw : w ∈ W) (x y : Int) (S : Sto) : s_is_program [.tup [.tup [.tup [.str w, .int x, .int y]]]] S = .ok (.bl (isI (w, [x, y]))) S := by
  have := is_program_ok [[(w, [x, y])]] (fun c hc => by rw [List.mem_singleton.mp hc]; exact okC_one hw) S
  have e : isP [[(w, [x, y])]] = isI (w, [x, y]) := by simp [isP, isC]
  rw [e] at this
  exact this
theorem prog2 (w : Str) (hw : w ∈ W) (x y : Int) (S : Sto) : s_is_program [.tup [.tup [.tup [.str w, .int x, .int y]], .tup []]] S = .ok (.bl (isI (w, [x, y]))) S := by
  have := is_program_ok [[(w, [x, y])], []] (fun c hc => by
    simp only [List.mem_cons, List.not_mem_nil, or_false] at hc
    rcases hc with rfl | rfl
    · exact okC_one hw
    · intro z hz; simp at hz) S
  have e : isP [[(w, [x, y])], []] = isI (w, [x, y]) := by simp [isP, isC]
  rw [e] at this
  exact this
theorem prog3 (w : Str) (hw : w ∈ W) (x : Int) (S : Sto) : s_is_program [.tup [.tup [], .tup [.tup [.str w, .int x]]]] S = .ok (.bl (isI (w, [x]))) S := by
  have := is_program_ok [[], [(w, [x])]] (fun c hc => by
    simp only [List.mem_cons, List.not_mem_nil, or_false] at hc
    rcases hc with rfl | rfl
    · intro z hz; simp at hz
    · exact okC_one hw) S
  have e : isP [[], [(w, [x])]] = isI (w, [x]) := by simp [isP, isC]
  rw [e] at this
  exact this
theorem lt4 (n : Int) : (decide (0 ≤ n) && decide (n < 4)) = (decide (0 ≤ n) && decide (n ≤ 3)) := by
  rw [Bool.eq_iff_iff]; simp; omega
abbrev numL : MI := (inew (mlist (mcons (mneg (mcon (.int 1))) (mcons (mcon (.int 0)) (mcons (mcon (.int 1)) (mcons (mcon (.int 3)) (mcons (mcon (.int 4)) (mcons (mcon (.int 5)) (mcons (mcon (.int 99)) (mcons (mcon (.int 100)) mnil))))))))))
abbrev wordL : MI := (inew (mlist (mcons (mcon (.str ("store" : Str))) (mcons (mcon (.str ("swap" : Str))) mnil))))
noncomputable abbrev ib : MS := (sseq (sif (mtst (mop dNe (mbi bRepr (mcons (mcall 1 s_is_program (mcons (mtup (mcons (mtup (mcons (mtup (mcons (mvar 1) (mcons (mvar 0) (mcons (mcon (.int 1)) mnil)))) mnil)) mnil)) mnil)) mnil)) (mbi bRepr (mcons (mchain dLe dLt (mcon (.int 0)) (mvar 0) (mcon (.int 4))) mnil)))) (sret (mcon (.bl false))) snil)
  (sif (mtst (mop dNe (mbi bRepr (mcons (mcall 1 s_is_program (mcons (mtup (mcons (mtup (mcons (mtup (mcons (mvar 1) (mcons (mcon (.int 0)) (mcons (mvar 0) mnil)))) mnil)) (mcons (mtup mnil) mnil))) mnil)) mnil)) (mbi bRepr (mcons (mchain dLt dLt (mcon (.int 0)) (mvar 0) (mcon (.int 100))) mnil)))) (sret (mcon (.bl false))) snil))
noncomputable abbrev ifc : MS := (sif (mtst (mop dNe (mbi bRepr (mcons (mcall 1 s_is_program (mcons (mtup (mcons (mtup mnil) (mcons (mtup (mcons (mtup (mcons (mcon (.str ("load" : Str))) (mcons (mvar 0) mnil))) mnil)) mnil))) mnil)) mnil)) (mbi bRepr (mcons (mchain dLe dLt (mcon (.int 0)) (mvar 0) (mcon (.int 4))) mnil)))) (sret (mcon (.bl false))) snil)
noncomputable abbrev ob : MS := sseq (sfor wordL (gnam 1) ib) ifc
noncomputable abbrev restB : MS := (sseq (sif (mtst (mop dNe (mnew (mcomp (inew (mlist (mcons (mcon (.int 0)) (mcons (mcon (.int 1)) (mcons (mcon (.int 12)) (mcons (mcon (.int 13)) mnil)))))) (gnam 2) mtrue (mcall 1 s_is_program (mcons (mop dMulB (mtup (mcons (mtup mnil) mnil)) (mvar 2)) mnil)) [2])) (mnew (mlist (mcons (mcon (.bl false)) (mcons (mcon (.bl true)) (mcons (mcon (.bl true)) (mcons (mcon (.bl false)) mnil)))))))) (sret (mcon (.bl false))) snil)
  (sret (mop dEq (mnew (mcomp (inew (mlist (mcons (mcon (.int 0)) (mcons (mcon (.int 24)) (mcons (mcon (.int 25)) mnil))))) (gnam 2) mtrue (mcall 1 s_is_program (mcons (mtup (mcons (mop dMulB (mtup (mcons (mtup (mcons (mcon (.str ("load" : Str))) (mcons (mcon (.int 3)) mnil))) mnil)) (mvar 2)) mnil)) mnil)) [2])) (mnew (mlist (mcons (mcon (.bl true)) (mcons (mcon (.bl true)) (mcons (mcon (.bl false)) mnil))))))))
theorem bounds_is : m__law_bounds_hold = sseq (sfor numL (gnam 0) ob) restB := rfl
theorem ib_ok (n : Int) (w : Str) (hw : w = "store" ∨ w = "swap") (x : Option D) (S : Sto) : ib [some (.int n), some (.str w), x] S = .nx [some (.int n), some (.str w), x] S := by
  have hW : w ∈ W := by rcases hw with rfl | rfl <;> decide
  have hb : (decide (w = "store") || decide (w = "swap")) = true := by simpa using hw
  have e1 : isI (w, [n, 1]) = (decide (0 ≤ n) && decide (n ≤ 3)) := by simp [isI, hw]
  have e2 : isI (w, [0, n]) = (decide (1 ≤ n) && decide (n ≤ 99)) := by simp [isI, hw]
  have p1 := prog1 w hW n 1 S
  have p2 := prog2 w hW 0 n S
  rw [e1] at p1
  rw [e2] at p2
  have l4 := lt4 n
  have l100 : (decide (0 < n) && decide (n < 100)) = (decide (1 ≤ n) && decide (n ≤ 99)) := by rw [Bool.eq_iff_iff]; simp; omega
  simp [run_done, done_nx, done_rt, done_exc, sseq_and, sand_nx, sand_rt, sand_bk, sand_ct, sasg_nam, sret_up, sexp_up, sif_up, lft_up, up_ok, up_exc, bnd_and, and_ok, and_exc, mtru_tru, tru_bl, tru_tup, mtst_tst, tst_bl, mvar, mcon, mnil, mcons, mop, mandV, mchain, mbi, mcall, morT, mandT, mnotT, mnotV, mif, mtup, snil, mnew, mlist, mneg, bTy, bIsi, bLen, bInt, tyD, seqOf, lstOf, dIs, dIB, dI, dEq_int, ite_and, ite_or, ite_andB, ite_orB, sizeLine_eq, p1, p2, repr_bl, ne_repr, l4, l100]
theorem ifc_ok (n : Int) (w x : Option D) (S : Sto) : ifc [some (.int n), w, x] S = .nx [some (.int n), w, x] S := by
  have hW : ("load" : Str) ∈ W := by decide
  have e1 : isI ("load", [n]) = (decide (0 ≤ n) && decide (n ≤ 3)) := by simp [isI]
  have p1 := prog3 "load" hW n S
  rw [e1] at p1
  have l4 := lt4 n
  simp [run_done, done_nx, done_rt, done_exc, sseq_and, sand_nx, sand_rt, sand_bk, sand_ct, sasg_nam, sret_up, sexp_up, sif_up, lft_up, up_ok, up_exc, bnd_and, and_ok, and_exc, mtru_tru, tru_bl, tru_tup, mtst_tst, tst_bl, mvar, mcon, mnil, mcons, mop, mandV, mchain, mbi, mcall, morT, mandT, mnotT, mnotV, mif, mtup, snil, mnew, mlist, mneg, bTy, bIsi, bLen, bInt, tyD, seqOf, lstOf, dIs, dIB, dI, dEq_int, ite_and, ite_or, ite_andB, ite_orB, sizeLine_eq, p1, repr_bl, ne_repr, l4]
theorem loops_ok (S : Sto) : ∃ e, sfor numL (gnam 0) ob [none, none, none] S = .nx e S ∧ ∃ a b c, e = [a, b, c] := by
  have wl : ∀ env S, wordL env S = .ok ([.str "store", .str "swap"], fun _ => True) S := fun env S => by simp [run_done, done_nx, done_rt, done_exc, sseq_and, sand_nx, sand_rt, sand_bk, sand_ct, sasg_nam, sret_up, sexp_up, sif_up, lft_up, up_ok, up_exc, bnd_and, and_ok, and_exc, mtru_tru, tru_bl, tru_tup, mtst_tst, tst_bl, mvar, mcon, mnil, mcons, mop, mandV, mchain, mbi, mcall, morT, mandT, mnotT, mnotV, mif, mtup, snil, mnew, mlist, mneg, bTy, bIsi, bLen, bInt, tyD, seqOf, lstOf, dIs, dIB, dI, dEq_int, ite_and, ite_or, ite_andB, ite_orB, sizeLine_eq, inew]
  have nl : ∀ env S, numL env S = .ok ([.int (-1), .int 0, .int 1, .int 3, .int 4, .int 5, .int 99, .int 100], fun _ => True) S := fun env S => by simp [run_done, done_nx, done_rt, done_exc, sseq_and, sand_nx, sand_rt, sand_bk, sand_ct, sasg_nam, sret_up, sexp_up, sif_up, lft_up, up_ok, up_exc, bnd_and, and_ok, and_exc, mtru_tru, tru_bl, tru_tup, mtst_tst, tst_bl, mvar, mcon, mnil, mcons, mop, mandV, mchain, mbi, mcall, morT, mandT, mnotT, mnotV, mif, mtup, snil, mnew, mlist, mneg, bTy, bIsi, bLen, bInt, tyD, seqOf, lstOf, dIs, dIB, dI, dEq_int, ite_and, ite_or, ite_andB, ite_orB, sizeLine_eq, inew]
  obtain ⟨e, S', h, hS, a, b, c, he⟩ := for_inv (P := fun _ => True) (g := gnam 0) (body := ob) (I := fun env S' => S' = S ∧ ∃ a b c, env = [a, b, c]) (fun _ _ _ => trivial) [.int (-1), .int 0, .int 1, .int 3, .int 4, .int 5, .int 99, .int 100] (fun x hx env S' hI => by
    obtain ⟨rfl, a, b, c, rfl⟩ := hI
    obtain ⟨n, rfl⟩ : ∃ n, x = .int n := by
      simp only [List.mem_cons, List.not_mem_nil, or_false] at hx
      rcases hx with rfl | rfl | rfl | rfl | rfl | rfl | rfl | rfl <;> exact ⟨_, rfl⟩
    obtain ⟨e2, S2, h2, hS2, b2, he2⟩ := for_inv (P := fun _ => True) (g := gnam 1) (body := ib) (I := fun env S2 => S2 = S' ∧ ∃ b, env = [some (.int n), b, c]) (fun _ _ _ => trivial) [.str "store", .str "swap"] (fun y hy env S2 hI => by
      obtain ⟨rfl, b, rfl⟩ := hI
      simp only [List.mem_cons, List.not_mem_nil, or_false] at hy
      rcases hy with rfl | rfl
      · exact ⟨_, rfl, _, _, .inl (ib_ok n "store" (.inl rfl) c S2), rfl, _, rfl⟩
      · exact ⟨_, rfl, _, _, .inl (ib_ok n "swap" (.inr rfl) c S2), rfl, _, rfl⟩) [some (.int n), b, c] S' ⟨rfl, b, rfl⟩
    subst hS2 he2
    refine ⟨[some (.int n), b, c], rfl, _, _, .inl ?_, rfl, some (.int n), b2, c, rfl⟩
    show sseq (sfor wordL (gnam 1) ib) ifc [some (.int n), b, c] S2 = _
    rw [sseq_and, sfor_ok (wl _ _), h2, sand_nx]
    exact ifc_ok n b2 c S2) [none, none, none] S ⟨rfl, none, none, none, rfl⟩
  subst hS
  exact ⟨e, (sfor_ok (nl _ _)).trans h, a, b, c, he⟩
theorem bounds_ok (S : Sto) : ∃ g, s__law_bounds_hold [] S = .ok (.bl true) (S ++ g) := by
  obtain ⟨e, h, a, b, c, rfl⟩ := loops_ok S
  have many (n : Nat) (hn : n ≤ 1000) (S : Sto) : s_is_program [.tup (List.replicate n (.tup []))] S = .ok (.bl (decide (1 ≤ n) && decide (n ≤ 12))) S := by
    have := is_program_ok (List.replicate n []) (fun c hc => by rw [(List.mem_replicate.mp hc).2]; intro z hz; simp at hz) S
    have e : isP (List.replicate n []) = (decide (1 ≤ n) && decide (n ≤ 12)) := by
      have : (List.replicate n ([] : List (Str × List Int))).all isC = true := by
        rw [List.all_eq_true]
        intro c hc
        rw [(List.mem_replicate.mp hc).2]
        rfl
      simp [isP, this]
    rw [e] at this
    unfold encP at this
    rw [List.map_replicate] at this
    exact this
  have long (n : Nat) (hn : n ≤ 1000) (S : Sto) : s_is_program [.tup [.tup (List.replicate n (.tup [.str "load", .int 3]))]] S = .ok (.bl (decide (n ≤ 24))) S := by
    have := is_program_ok [List.replicate n (("load" : Str), [(3 : Int)])] (fun c hc => by
      rw [List.mem_singleton.mp hc]
      intro z hz
      rw [(List.mem_replicate.mp hz).2]
      exact (show ("load" : Str) ∈ W by decide)) S
    have e : isP [List.replicate n (("load" : Str), [(3 : Int)])] = decide (n ≤ 24) := by
      have : (List.replicate n (("load" : Str), [(3 : Int)])).all isI = true := by
        rw [List.all_eq_true]
        intro c hc
        rw [(List.mem_replicate.mp hc).2]
        rfl
      simp [isP, isC, this]
    rw [e] at this
    unfold encP encC at this
    simp only [List.map_cons, List.map_nil, List.map_replicate] at this
    exact this
  obtain ⟨g1, k1⟩ := mcomp_g (enc := fun n : Nat => D.int n) (f := fun n : Nat => D.bl (decide (1 ≤ n) && decide (n ≤ 12))) (l := [0, 1, 12, 13]) (mi := inew (mlist (mcons (mcon (.int 0)) (mcons (mcon (.int 1)) (mcons (mcon (.int 12)) (mcons (mcon (.int 13)) mnil)))))) (i := 2) (vs := [2]) (env := [a, b, c]) (S := S) (S1 := S)
    (me := mcall 1 s_is_program (mcons (mop dMulB (mtup (mcons (mtup mnil) mnil)) (mvar 2)) mnil)) (by simp [run_done, done_nx, done_rt, done_exc, sseq_and, sand_nx, sand_rt, sand_bk, sand_ct, sasg_nam, sret_up, sexp_up, sif_up, lft_up, up_ok, up_exc, bnd_and, and_ok, and_exc, mtru_tru, tru_bl, tru_tup, mtst_tst, tst_bl, mvar, mcon, mnil, mcons, mop, mandV, mchain, mbi, mcall, morT, mandT, mnotT, mnotV, mif, mtup, snil, mnew, mlist, mneg, bTy, bIsi, bLen, bInt, tyD, seqOf, lstOf, dIs, dIB, dI, dEq_int, ite_and, ite_or, ite_andB, ite_orB, sizeLine_eq, inew]) (by decide) (fun n hn S' => ⟨[], by
      have hn' : n ≤ 1000 := by simp at hn; omega
      have q := rep_ok (.tup []) n hn' S'
      simp [run_done, done_nx, done_rt, done_exc, sseq_and, sand_nx, sand_rt, sand_bk, sand_ct, sasg_nam, sret_up, sexp_up, sif_up, lft_up, up_ok, up_exc, bnd_and, and_ok, and_exc, mtru_tru, tru_bl, tru_tup, mtst_tst, tst_bl, mvar, mcon, mnil, mcons, mop, mandV, mchain, mbi, mcall, morT, mandT, mnotT, mnotV, mif, mtup, snil, mnew, mlist, mneg, bTy, bIsi, bLen, bInt, tyD, seqOf, lstOf, dIs, dIB, dI, dEq_int, ite_and, ite_or, ite_andB, ite_orB, sizeLine_eq, wipeE, q, many n hn' S']⟩)
  obtain ⟨g2, k2⟩ := mcomp_g (enc := fun n : Nat => D.int n) (f := fun n : Nat => D.bl (decide (n ≤ 24))) (l := [0, 24, 25]) (mi := inew (mlist (mcons (mcon (.int 0)) (mcons (mcon (.int 24)) (mcons (mcon (.int 25)) mnil))))) (i := 2) (vs := [2]) (env := [a, b, c]) (S := S ++ (g1 ++ [.lst [.bl false, .bl true, .bl true, .bl false], .lst [.bl false, .bl true, .bl true, .bl false]])) (S1 := S ++ (g1 ++ [.lst [.bl false, .bl true, .bl true, .bl false], .lst [.bl false, .bl true, .bl true, .bl false]]))
    (me := mcall 1 s_is_program (mcons (mtup (mcons (mop dMulB (mtup (mcons (mtup (mcons (mcon (.str ("load" : Str))) (mcons (mcon (.int 3)) mnil))) mnil)) (mvar 2)) mnil)) mnil)) (by simp [run_done, done_nx, done_rt, done_exc, sseq_and, sand_nx, sand_rt, sand_bk, sand_ct, sasg_nam, sret_up, sexp_up, sif_up, lft_up, up_ok, up_exc, bnd_and, and_ok, and_exc, mtru_tru, tru_bl, tru_tup, mtst_tst, tst_bl, mvar, mcon, mnil, mcons, mop, mandV, mchain, mbi, mcall, morT, mandT, mnotT, mnotV, mif, mtup, snil, mnew, mlist, mneg, bTy, bIsi, bLen, bInt, tyD, seqOf, lstOf, dIs, dIB, dI, dEq_int, ite_and, ite_or, ite_andB, ite_orB, sizeLine_eq, inew]) (by decide) (fun n hn S' => ⟨[], by
      have hn' : n ≤ 1000 := by simp at hn; omega
      have q := rep_ok (.tup [.str "load", .int 3]) n hn' S'
      simp [run_done, done_nx, done_rt, done_exc, sseq_and, sand_nx, sand_rt, sand_bk, sand_ct, sasg_nam, sret_up, sexp_up, sif_up, lft_up, up_ok, up_exc, bnd_and, and_ok, and_exc, mtru_tru, tru_bl, tru_tup, mtst_tst, tst_bl, mvar, mcon, mnil, mcons, mop, mandV, mchain, mbi, mcall, morT, mandT, mnotT, mnotV, mif, mtup, snil, mnew, mlist, mneg, bTy, bIsi, bLen, bInt, tyD, seqOf, lstOf, dIs, dIB, dI, dEq_int, ite_and, ite_or, ite_andB, ite_orB, sizeLine_eq, wipeE, q, long n hn' S']⟩)
  simp at k1 k2
  have q1 := ne_kinds (i := S.length + g1.length) (j := S.length + (g1.length + 1)) (S := S ++ (g1 ++ [.lst [.bl false, .bl true, .bl true, .bl false], .lst [.bl false, .bl true, .bl true, .bl false]])) (a := false) (b := true) (c := true) (d := false) (a' := false) (b' := true) (c' := true) (d' := false)
    (at_app (at_app (j := 0) rfl rfl) rfl) (at_app (at_app (j := 1) rfl rfl) rfl)
  refine ⟨g1 ++ .lst [.bl false, .bl true, .bl true, .bl false] :: .lst [.bl false, .bl true, .bl true, .bl false] :: (g2 ++ [.lst [.bl true, .bl true, .bl false], .lst [.bl true, .bl true, .bl false]]), ?_⟩
  unfold s__law_bounds_hold
  rw [bounds_is, run_done, sseq_and]
  show ((sfor numL (gnam 0) ob [none, none, none] S).and_ restB).done = _
  rw [h, sand_nx]
  have x1 : (g2 ++ [MO.lst [D.bl true, D.bl true, D.bl false], MO.lst [D.bl true, D.bl true, D.bl false]])[g2.length]? = some (.lst [.bl true, .bl true, .bl false]) := at_app (j := 0) rfl rfl
  have x2 : (g2 ++ [MO.lst [D.bl true, D.bl true, D.bl false], MO.lst [D.bl true, D.bl true, D.bl false]])[g2.length + 1]? = some (.lst [.bl true, .bl true, .bl false]) := at_app (j := 1) rfl rfl
  have q2 := eq_three (i := S.length + (g1.length + (g2.length + 1 + 1))) (j := S.length + (g1.length + (g2.length + 1 + 1 + 1))) (a := true) (b := true) (c := false) (a' := true) (b' := true) (c' := false)
    (S := S ++ (g1 ++ MO.lst [D.bl false, D.bl true, D.bl true, D.bl false] :: MO.lst [D.bl false, D.bl true, D.bl true, D.bl false] :: (g2 ++ [MO.lst [D.bl true, D.bl true, D.bl false], MO.lst [D.bl true, D.bl true, D.bl false]])))
    (at_app (at_app (j := g2.length + 1 + 1) (by rw [List.getElem?_cons_succ, List.getElem?_cons_succ]; exact x1) rfl) rfl) (at_app (at_app (j := g2.length + 1 + 1 + 1) (by rw [List.getElem?_cons_succ, List.getElem?_cons_succ]; exact x2) rfl) rfl)
  simp [run_done, done_nx, done_rt, done_exc, sseq_and, sand_nx, sand_rt, sand_bk, sand_ct, sasg_nam, sret_up, sexp_up, sif_up, lft_up, up_ok, up_exc, bnd_and, and_ok, and_exc, mtru_tru, tru_bl, tru_tup, mtst_tst, tst_bl, mvar, mcon, mnil, mcons, mop, mandV, mchain, mbi, mcall, morT, mandT, mnotT, mnotV, mif, mtup, snil, mnew, mlist, mneg, bTy, bIsi, bLen, bInt, tyD, seqOf, lstOf, dIs, dIB, dI, dEq_int, ite_and, ite_or, ite_andB, ite_orB, sizeLine_eq, k1, k2, q1, q2]
end K12
namespace K12
open PySem PySem.Spec L2 Ti
noncomputable abbrev inD : MS := (sseq (sif (mtst (mop dEq (mvar 3) (mcon (.int 0)))) sbrk snil)
  (sseq (sexp (mmeth fAppend (mvar 1) (mcons (mop dMod (mbi bInt (mcons (mvar 3) mnil)) (mcon (.int 1000))) mnil)))
  (sasg (mop dDiv (mvar 3) (mcon (.int 1000))) (gnam 3))))
noncomputable abbrev smD : MS := (sseq (sasg (mop dMod (mbi bInt (mcons (mop dAdd (mop dMulB (mvar 3) (mcon (.int 48271))) (mcon (.int 11))) mnil)) (mcon (.int 2147483647))) (gnam 5))
  (sseq (sasg (mop dMod (mbi bInt (mcons (mop dAdd (mop dMulB (mvar 5) (mcon (.int 69621))) (mvar 3)) mnil)) (mcon (.int 2147483629))) (gnam 6))
  (sexp (mmeth fExtend (mvar 1) (mcons (mnew (mlist (mcons (mop dMod (mbi bInt (mcons (mvar 3) mnil)) (mcon (.int 1000))) (mcons (mop dMod (mbi bInt (mcons (mvar 5) mnil)) (mcon (.int 1000))) (mcons (mop dMod (mbi bInt (mcons (mvar 6) mnil)) (mcon (.int 1000))) mnil))))) mnil)))))
noncomputable abbrev outD : MS := (sseq (sasg (mcall 1 s__law_number (mcons (mvar 2) mnil)) (gnam 3)) (sif (mtst (mop dGe (mvar 3) (mcon (.int 1000000000000000000)))) (sfor (irng1 (mcon (.int 60))) (gnam 4) inD) smD))
noncomputable abbrev reD : MS := (sseq (sexp (mmeth fRev (mvar 1) mnil))
  (sret (mvar 1)))
theorem draws_is : m__law_draws = sseq (sasg (mnew (mlist mnil)) (gnam 1)) (sseq (sfor (iany (mvar 0)) (gnam 2) outD) reD) := rfl
noncomputable abbrev loL (Cb Cn Cp Ct : Addr) : MS := (sseq (sasg (mcall 2 s__law_spoilt (mcons (mvar 1) (mcons (mvar 2) mnil))) (gnam 4))
  (sseq (sasg (mcall 1 s__law_is_program (mcons (mvar 4) mnil)) (gnam 5))
  (sif (morT (mtst (mop dNe (mbi bRepr (mcons (mcall 1 s_is_program (mcons (mvar 4) mnil)) mnil)) (mbi bRepr (mcons (mvar 5) mnil)))) (mtst (mop dNe (mcall 1 (s__law_asked Cb Cn Cp Ct) (mcons (mvar 4) mnil)) (mif (mtru (mvar 5)) (mcon .non) (mtup (mcons (mcon (.str ("refused" : Str))) mnil)))))) (sret (mcon (.bl false))) snil)))
noncomputable abbrev reL (Cb Cn Cp Ct : Addr) : MS := (sret (mop (dIs false) (mcall 1 (s__law_asked Cb Cn Cp Ct) (mcons (mvar 2) mnil)) (mcon .non)))
theorem number_ok (z : Int) (S : Sto) : ∃ m : Int, 0 ≤ m ∧ s__law_number [.int z] S = .ok (.int m) S := by
  unfold s__law_number m__law_number
  by_cases h : z < 0
  · exact ⟨0 - z, by omega, by simp [run_done, done_nx, done_rt, done_exc, sseq_and, sand_nx, sand_rt, sand_bk, sand_ct, sasg_nam, sret_up, sexp_up, sif_up, lft_up, up_ok, up_exc, bnd_and, and_ok, and_exc, mtru_tru, tru_bl, tru_tup, mtst_tst, tst_bl, mvar, mcon, mnil, mcons, mop, mandV, mchain, mbi, mcall, morT, mandT, mnotT, mnotV, mif, mtup, snil, mnew, mlist, mneg, bTy, bIsi, bLen, bInt, tyD, seqOf, lstOf, dIs, dIB, dI, dEq_int, ite_and, ite_or, ite_andB, ite_orB, sizeLine_eq, h, dSub]⟩
  · exact ⟨z, by omega, by simp [run_done, done_nx, done_rt, done_exc, sseq_and, sand_nx, sand_rt, sand_bk, sand_ct, sasg_nam, sret_up, sexp_up, sif_up, lft_up, up_ok, up_exc, bnd_and, and_ok, and_exc, mtru_tru, tru_bl, tru_tup, mtst_tst, tst_bl, mvar, mcon, mnil, mcons, mop, mandV, mchain, mbi, mcall, morT, mandT, mnotT, mnotV, mif, mtup, snil, mnew, mlist, mneg, bTy, bIsi, bLen, bInt, tyD, seqOf, lstOf, dIs, dIB, dI, dEq_int, ite_and, ite_or, ite_andB, ite_orB, sizeLine_eq, h]⟩
/-- the list of draws as it grows -/
def Gr (k n : Nat) (S : Sto) : Prop := ∃ ms : List Int, S[k]? = some (.lst (ms.map D.int)) ∧ (∀ m ∈ ms, 0 ≤ m ∧ m < 1000) ∧ ms.length ≤ n
theorem mod1000 (m : Int) : 0 ≤ m % 1000 ∧ m % 1000 < 1000 := ⟨Int.emod_nonneg _ (by decide), Int.emod_lt_of_pos _ (by decide)⟩
theorem inD_ok {k n : Nat} {s x2 x4 x5 x6 : Option D} {rest : Int} {S : Sto} (hn : n ≤ 100000) (h : Gr k n S) (hr : 0 ≤ rest) :
    ∃ env2 S2, (inD [s, some (.ref k), x2, some (.int rest), x4, x5, x6] S = .nx env2 S2 ∨ inD [s, some (.ref k), x2, some (.int rest), x4, x5, x6] S = .bk env2 S2) ∧ (∃ rest', env2 = [s, some (.ref k), x2, some (.int rest'), x4, x5, x6] ∧ 0 ≤ rest') ∧ Gr k (n + 1) S2 := by
  obtain ⟨ms, e, hm, hl⟩ := h
  by_cases h0 : rest = 0
  · subst h0
    exact ⟨_, S, .inr (by simp [run_done, done_nx, done_rt, done_exc, sseq_and, sand_nx, sand_rt, sand_bk, sand_ct, sasg_nam, sret_up, sexp_up, sif_up, lft_up, up_ok, up_exc, bnd_and, and_ok, and_exc, mtru_tru, tru_bl, tru_tup, mtst_tst, tst_bl, mvar, mcon, mnil, mcons, mop, mandV, mchain, mbi, mcall, morT, mandT, mnotT, mnotV, mif, mtup, snil, mnew, mlist, mneg, bTy, bIsi, bLen, bInt, tyD, seqOf, lstOf, dIs, dIB, dI, dEq_int, ite_and, ite_or, ite_andB, ite_orB, sizeLine_eq, sbrk]), ⟨0, rfl, by decide⟩, ms, e, hm, by omega⟩
  · have hk : k < S.length := (List.getElem?_eq_some_iff.mp e).1
    have big : 16777216 ≤ sizeLine := by rw [sizeLine_eq]; exact Nat.le_refl _
    have q1 := mod_ok (n := rest) (by decide : (0 : Int) < 1000) (S := S)
    have q2 := append_ok (y := .int (rest % 1000)) e (by simp; omega)
    have q3 : dDiv (.int rest) (.int 1000) (S.set k (.lst (ms.map D.int ++ [.int (rest % 1000)]))) = .ok (.int (rest / 1000)) (S.set k (.lst (ms.map D.int ++ [.int (rest % 1000)]))) := dDiv_int ⟨by decide, by decide⟩
    refine ⟨[s, some (.ref k), x2, some (.int (rest / 1000)), x4, x5, x6], S.set k (.lst (ms.map D.int ++ [.int (rest % 1000)])), .inl ?_, ⟨rest / 1000, rfl, by omega⟩, ms ++ [rest % 1000], by rw [List.getElem?_set_self hk]; simp, fun m hm' => ?_, by simp; omega⟩
    · simp [run_done, done_nx, done_rt, done_exc, sseq_and, sand_nx, sand_rt, sand_bk, sand_ct, sasg_nam, sret_up, sexp_up, sif_up, lft_up, up_ok, up_exc, bnd_and, and_ok, and_exc, mtru_tru, tru_bl, tru_tup, mtst_tst, tst_bl, mvar, mcon, mnil, mcons, mop, mandV, mchain, mbi, mcall, morT, mandT, mnotT, mnotV, mif, mtup, snil, mnew, mlist, mneg, bTy, bIsi, bLen, bInt, tyD, seqOf, lstOf, dIs, dIB, dI, dEq_int, ite_and, ite_or, ite_andB, ite_orB, sizeLine_eq, h0, mmeth, q1, q2, q3]
    · rcases List.mem_append.mp hm' with h | h
      · exact hm m h
      · rw [List.mem_singleton.mp h]; exact mod1000 rest
theorem smD_ok {k n : Nat} {s x2 x4 x5 x6 : Option D} {rest : Int} {S : Sto} (hn : n ≤ 100000) (h : Gr k n S) :
    ∃ y5 y6 S2, smD [s, some (.ref k), x2, some (.int rest), x4, x5, x6] S = .nx [s, some (.ref k), x2, some (.int rest), x4, y5, y6] S2 ∧ Gr k (n + 3) S2 := by
  obtain ⟨ms, e, hm, hl⟩ := h
  have hk : k < S.length := (List.getElem?_eq_some_iff.mp e).1
  have big : 16777216 ≤ sizeLine := by rw [sizeLine_eq]; exact Nat.le_refl _
  obtain ⟨o, ho⟩ : ∃ o, (rest * 48271 + 11) % 2147483647 = o := ⟨_, rfl⟩
  obtain ⟨t, ht⟩ : ∃ t, (o * 69621 + rest) % 2147483629 = t := ⟨_, rfl⟩
  have q1 : dMulB (.int rest) (.int 48271) S = .ok (.int (rest * 48271)) S := dMulB_int (small_mul ⟨by decide, by decide⟩)
  have q2 := mod_ok (n := rest * 48271 + 11) (by decide : (0 : Int) < 2147483647) (S := S)
  rw [ho] at q2
  have q3 : dMulB (.int o) (.int 69621) S = .ok (.int (o * 69621)) S := dMulB_int (small_mul ⟨by decide, by decide⟩)
  have q4 := mod_ok (n := o * 69621 + rest) (by decide : (0 : Int) < 2147483629) (S := S)
  rw [ht] at q4
  have m1 := mod_ok (n := rest) (by decide : (0 : Int) < 1000) (S := S)
  have m2 := mod_ok (n := o) (by decide : (0 : Int) < 1000) (S := S)
  have m3 := mod_ok (n := t) (by decide : (0 : Int) < 1000) (S := S)
  obtain ⟨L3, hL3⟩ : ∃ L3 : List D, L3 = [.int (rest % 1000), .int (o % 1000), .int (t % 1000)] := ⟨_, rfl⟩
  have e' : (S ++ [MO.lst L3])[k]? = some (.lst (ms.map D.int)) := app_at e
  have x1 : fExtend k [.ref S.length] (S ++ [MO.lst L3]) = .ok .non ((S ++ [MO.lst L3]).set k (.lst (ms.map D.int ++ L3))) := by
    unfold fExtend
    simp only [e', at0]
    exact if_pos (by rw [hL3]; simp; omega)
  rw [hL3] at x1
  refine ⟨some (.int o), some (.int t), (S ++ [MO.lst L3]).set k (.lst (ms.map D.int ++ L3)), ?_, ms ++ [rest % 1000, o % 1000, t % 1000], ?_, fun m hm' => ?_, by simp; omega⟩
  · rw [hL3]
    simp [run_done, done_nx, done_rt, done_exc, sseq_and, sand_nx, sand_rt, sand_bk, sand_ct, sasg_nam, sret_up, sexp_up, sif_up, lft_up, up_ok, up_exc, bnd_and, and_ok, and_exc, mtru_tru, tru_bl, tru_tup, mtst_tst, tst_bl, mvar, mcon, mnil, mcons, mop, mandV, mchain, mbi, mcall, morT, mandT, mnotT, mnotV, mif, mtup, snil, mnew, mlist, mneg, bTy, bIsi, bLen, bInt, tyD, seqOf, lstOf, dIs, dIB, dI, dEq_int, ite_and, ite_or, ite_andB, ite_orB, sizeLine_eq, q1, dAdd_int, q2, q3, q4, m1, m2, m3, mmeth, x1]
  · rw [List.getElem?_set_self (by simp; omega), hL3]; simp
  · rcases List.mem_append.mp hm' with h | h
    · exact hm m h
    · simp only [List.mem_cons, List.not_mem_nil, or_false] at h
      rcases h with rfl | rfl | rfl <;> exact mod1000 _
theorem outD_ok {k n : Nat} {s x3 x4 x5 x6 : Option D} {z : Int} {S : Sto} (hn : n ≤ 50000) (h : Gr k n S) :
    ∃ y3 y4 y5 y6 S2, outD [s, some (.ref k), some (.int z), x3, x4, x5, x6] S = .nx [s, some (.ref k), some (.int z), y3, y4, y5, y6] S2 ∧ Gr k (n + 60) S2 := by
  obtain ⟨m, hm0, em⟩ := number_ok z S
  by_cases hb : (1000000000000000000 : Int) ≤ m
  · obtain ⟨j, e, S2, hj, hl, ⟨y2, rest, y4, y5, y6, rfl, hr⟩, hg⟩ := for_idx (P := fun _ => True) (g := gnam 4) (body := inD) (I := fun j env S' => (∃ y2 rest y4 y5 y6, env = [s, some (.ref k), y2, some (.int rest), y4, y5, y6] ∧ 0 ≤ rest ∧ y2 = some (.int z)) ∧ Gr k (n + j) S') (fun _ _ _ _ => trivial) (intsD 0 60) 0
      (fun x hx j env S' hj hI => by
        obtain ⟨⟨y2, rest, y4, y5, y6, rfl, hr, rfl⟩, hg⟩ := hI
        rw [intsD_len] at hj
        obtain ⟨e2, S2, h2, ⟨rest', rfl, hr'⟩, hg2⟩ := inD_ok (s := s) (x2 := some (.int z)) (x4 := some x) (x5 := y5) (x6 := y6) (by omega) hg hr
        exact ⟨_, rfl, _, S2, h2, ⟨_, rest', _, y5, y6, rfl, hr', rfl⟩, hg2⟩) [s, some (.ref k), some (.int z), some (.int m), x4, x5, x6] S ⟨⟨_, m, _, x5, x6, rfl, hm0, rfl⟩, h⟩
    obtain ⟨hr, rfl⟩ := hr
    rw [intsD_len] at hj
    obtain ⟨ms, e1, e2, e3⟩ := hg
    refine ⟨some (.int rest), y4, y5, y6, S2, ?_, ms, e1, e2, by omega⟩
    have hs : sfor (irng1 (mcon (.int 60))) (gnam 4) inD [s, some (.ref k), some (.int z), some (.int m), x4, x5, x6] S = _ := (sfor_ok (irng_ok (n := 60) rfl (by decide))).trans hl
    have c1 : mcall 1 s__law_number (mcons (mvar 2) mnil) [s, some (.ref k), some (.int z), x3, x4, x5, x6] S = .ok (.int m) S := by simp [run_done, done_nx, done_rt, done_exc, sseq_and, sand_nx, sand_rt, sand_bk, sand_ct, sasg_nam, sret_up, sexp_up, sif_up, lft_up, up_ok, up_exc, bnd_and, and_ok, and_exc, mtru_tru, tru_bl, tru_tup, mtst_tst, tst_bl, mvar, mcon, mnil, mcons, mop, mandV, mchain, mbi, mcall, morT, mandT, mnotT, mnotV, mif, mtup, snil, mnew, mlist, mneg, bTy, bIsi, bLen, bInt, tyD, seqOf, lstOf, dIs, dIB, dI, dEq_int, ite_and, ite_or, ite_andB, ite_orB, sizeLine_eq, em]
    have c2 : mtst (mop dGe (mvar 3) (mcon (.int 1000000000000000000))) [s, some (.ref k), some (.int z), some (.int m), x4, x5, x6] S = .ok true S := by simp [run_done, done_nx, done_rt, done_exc, sseq_and, sand_nx, sand_rt, sand_bk, sand_ct, sasg_nam, sret_up, sexp_up, sif_up, lft_up, up_ok, up_exc, bnd_and, and_ok, and_exc, mtru_tru, tru_bl, tru_tup, mtst_tst, tst_bl, mvar, mcon, mnil, mcons, mop, mandV, mchain, mbi, mcall, morT, mandT, mnotT, mnotV, mif, mtup, snil, mnew, mlist, mneg, bTy, bIsi, bLen, bInt, tyD, seqOf, lstOf, dIs, dIB, dI, dEq_int, ite_and, ite_or, ite_andB, ite_orB, sizeLine_eq, hb]
    unfold outD
    rw [sseq_and, sasg_nam, c1, up_ok, sand_nx]
    show sif _ _ _ [s, some (.ref k), some (.int z), some (.int m), x4, x5, x6] S = _
    rw [sif_up, c2, up_ok, if_pos rfl]
    exact hs
  · obtain ⟨y5, y6, S2, h2, hg2⟩ := smD_ok (s := s) (x2 := some (.int z)) (x4 := x4) (x5 := x5) (x6 := x6) (rest := m) (by omega) h
    obtain ⟨ms, e1, e2, e3⟩ := hg2
    refine ⟨some (.int m), x4, y5, y6, S2, ?_, ms, e1, e2, by omega⟩
    have c1 : mcall 1 s__law_number (mcons (mvar 2) mnil) [s, some (.ref k), some (.int z), x3, x4, x5, x6] S = .ok (.int m) S := by simp [run_done, done_nx, done_rt, done_exc, sseq_and, sand_nx, sand_rt, sand_bk, sand_ct, sasg_nam, sret_up, sexp_up, sif_up, lft_up, up_ok, up_exc, bnd_and, and_ok, and_exc, mtru_tru, tru_bl, tru_tup, mtst_tst, tst_bl, mvar, mcon, mnil, mcons, mop, mandV, mchain, mbi, mcall, morT, mandT, mnotT, mnotV, mif, mtup, snil, mnew, mlist, mneg, bTy, bIsi, bLen, bInt, tyD, seqOf, lstOf, dIs, dIB, dI, dEq_int, ite_and, ite_or, ite_andB, ite_orB, sizeLine_eq, em]
    have c2 : mtst (mop dGe (mvar 3) (mcon (.int 1000000000000000000))) [s, some (.ref k), some (.int z), some (.int m), x4, x5, x6] S = .ok false S := by simp [run_done, done_nx, done_rt, done_exc, sseq_and, sand_nx, sand_rt, sand_bk, sand_ct, sasg_nam, sret_up, sexp_up, sif_up, lft_up, up_ok, up_exc, bnd_and, and_ok, and_exc, mtru_tru, tru_bl, tru_tup, mtst_tst, tst_bl, mvar, mcon, mnil, mcons, mop, mandV, mchain, mbi, mcall, morT, mandT, mnotT, mnotV, mif, mtup, snil, mnew, mlist, mneg, bTy, bIsi, bLen, bInt, tyD, seqOf, lstOf, dIs, dIB, dI, dEq_int, ite_and, ite_or, ite_andB, ite_orB, sizeLine_eq, hb]
    unfold outD
    rw [sseq_and, sasg_nam, c1, up_ok, sand_nx]
    show sif _ _ _ [s, some (.ref k), some (.int z), some (.int m), x4, x5, x6] S = _
    rw [sif_up, c2, up_ok, if_neg Bool.false_ne_true]
    exact h2
theorem draws_ok (ns : List Int) (hn : ns.length ≤ 63) : ∃ k S', s__law_draws [.frz (ns.map D.int)] [] = .ok (.ref k) S' ∧ Dr 3780 k S' := by
  obtain ⟨j, e, S2, hj, hl, ⟨y2, y3, y4, y5, y6, rfl⟩, hg⟩ := for_idx (P := fun _ => True) (g := gnam 2) (body := outD) (I := fun j env S' => (∃ y2 y3 y4 y5 y6, env = [some (.frz (ns.map D.int)), some (.ref 0), y2, y3, y4, y5, y6]) ∧ Gr 0 (60 * j) S') (fun _ _ _ _ => trivial) (ns.map D.int) 0
    (fun x hx j env S' hj hI => by
      obtain ⟨⟨y2, y3, y4, y5, y6, rfl⟩, hg⟩ := hI
      obtain ⟨z, _, rfl⟩ := List.mem_map.mp hx
      rw [List.length_map] at hj
      obtain ⟨z3, z4, z5, z6, S2, h2, hg2⟩ := outD_ok (s := some (.frz (ns.map D.int))) (x3 := y3) (x4 := y4) (x5 := y5) (x6 := y6) (z := z) (by omega) hg
      exact ⟨_, rfl, _, S2, .inl h2, ⟨_, z3, z4, z5, z6, rfl⟩, by rw [Nat.mul_add]; exact hg2⟩)
    [some (.frz (ns.map D.int)), some (.ref 0), none, none, none, none, none] [.lst []] ⟨⟨none, none, none, none, none, rfl⟩, [], rfl, by simp, by simp⟩
  rw [List.length_map] at hj
  obtain ⟨ms, e1, e2, e3⟩ := hg
  have h0 : 0 < S2.length := (List.getElem?_eq_some_iff.mp e1).1
  have hr : fRev 0 [] S2 = .ok .non (S2.set 0 (.lst (ms.map D.int).reverse)) := by
    unfold fRev
    simp only [e1]
  refine ⟨0, S2.set 0 (.lst (ms.map D.int).reverse), ?_, ms.reverse, by rw [List.getElem?_set_self h0]; simp, fun m hm => e2 m (by simpa using hm), by simp; omega⟩
  have hi : iany (mvar 0) [some (.frz (ns.map D.int)), some (.ref 0), none, none, none, none, none] [MO.lst []] = .ok (ns.map D.int, fun _ => True) [MO.lst []] := rfl
  have hs := (sfor_ok (g := gnam 2) (body := outD) hi).trans hl
  unfold s__law_draws
  rw [run_done, draws_is, sseq_and]
  have c1 : sasg (mnew (mlist mnil)) (gnam 1) ([D.frz (ns.map D.int)].map some ++ List.replicate (7 - [D.frz (ns.map D.int)].length) none) [] = .nx [some (.frz (ns.map D.int)), some (.ref 0), none, none, none, none, none] [.lst []] := by simp [run_done, done_nx, done_rt, done_exc, sseq_and, sand_nx, sand_rt, sand_bk, sand_ct, sasg_nam, sret_up, sexp_up, sif_up, lft_up, up_ok, up_exc, bnd_and, and_ok, and_exc, mtru_tru, tru_bl, tru_tup, mtst_tst, tst_bl, mvar, mcon, mnil, mcons, mop, mandV, mchain, mbi, mcall, morT, mandT, mnotT, mnotV, mif, mtup, snil, mnew, mlist, mneg, bTy, bIsi, bLen, bInt, tyD, seqOf, lstOf, dIs, dIB, dI, dEq_int, ite_and, ite_or, ite_andB, ite_orB, sizeLine_eq]
  rw [c1, sand_nx, sseq_and, hs, sand_nx]
  simp [run_done, done_nx, done_rt, done_exc, sseq_and, sand_nx, sand_rt, sand_bk, sand_ct, sasg_nam, sret_up, sexp_up, sif_up, lft_up, up_ok, up_exc, bnd_and, and_ok, and_exc, mtru_tru, tru_bl, tru_tup, mtst_tst, tst_bl, mvar, mcon, mnil, mcons, mop, mandV, mchain, mbi, mcall, morT, mandT, mnotT, mnotV, mif, mtup, snil, mnew, mlist, mneg, bTy, bIsi, bLen, bInt, tyD, seqOf, lstOf, dIs, dIB, dI, dEq_int, ite_and, ite_or, ite_andB, ite_orB, sizeLine_eq, mmeth, hr]
theorem good_isP {p : Prog} (h1 : 1 ≤ p.length) (h2 : p.length ≤ 12) (h : ∀ c ∈ p, goodC 24 c) : isP p = true := by
  have : p.all isC = true := List.all_eq_true.mpr fun c hc => by
    obtain ⟨a, b, _⟩ := h c hc
    simp [isC, a, b]
  simp [isP, this, h1, h2]
theorem ne_ans (b : Bool) (S : Sto) : dNe (if b = true then D.non else .tup [.str "refused"]) (if b = true then D.non else .tup [.str "refused"]) S = .ok (.bl false) S := by
  have sh : SeqAt.shaped (.tuple [.str "refused"]) = true := by decide +kernel
  cases b with
  | true => rfl
  | false =>
    unfold dNe pyS
    simp only [Bool.false_eq_true, if_false, pyD, pyL]
    rw [if_pos ⟨sh, sh⟩]
    simp [PyData.eqv, PyData.eqvAll]
theorem pure_ : Pure := by
  intro Cb Cn Cp Ct ns hl hbits h1 h2 h3
  obtain ⟨k, S1, e1, d1⟩ := draws_ok ns hl
  obtain ⟨p, S2, e2, l1, l2, gp, d2⟩ := any_ok d1 (by decide)
  have okp : okP p := fun c hc => (gp c hc).2.2
  have hP := good_isP l1 l2 gp
  have i1 := is_program_ok p okp S2
  rw [hP] at i1
  obtain ⟨g3, e3⟩ := bounds_ok S2
  have d3 : Dr 3780 k (S2 ++ g3) := d2.app
  obtain ⟨j, e, S4, hj, hl4, ⟨y3, y4, y5, rfl⟩, d4⟩ := for_idx (P := fun _ => True) (g := gnam 3) (body := loL Cb Cn Cp Ct) (I := fun _ env S' => (∃ y3 y4 y5, env = [some (.frz (ns.map D.int)), some (.ref k), some (encP p), y3, y4, y5]) ∧ Dr 3780 k S') (fun _ _ _ _ => trivial) (intsD 0 5) 0
    (fun x hx j env S' hj hI => by
      obtain ⟨⟨y3, y4, y5, rfl⟩, d⟩ := hI
      obtain ⟨q, S5, e5, fq, d5⟩ := spoilt_ok d p l1 l2 gp
      obtain ⟨g6, e6⟩ := is_program2_ok q fq.1 fq.2.1 fq.2.2 S5
      have i6 := is_program_ok q fq.1 (S5 ++ g6)
      obtain ⟨g7, e7⟩ := asked_ok Cb Cn Cp Ct h1 h2 h3 q fq.1 (S5 ++ g6)
      refine ⟨_, rfl, [some (.frz (ns.map D.int)), some (.ref k), some (encP p), some x, some (encP q), some (.bl (isP q))], S5 ++ g6 ++ g7, .inl ?_, ⟨_, _, _, rfl⟩, d5.app.app⟩
      have n1 := ne_ans (isP q) (S5 ++ g6 ++ g7)
      cases hq : isP q with
      | true =>
        rw [hq] at e6 i6 e7 n1
        simp only [if_true] at e7 n1
        have n2 := ne_repr true true (S5 ++ g6)
        simp at e6 i6 e7 n1 n2
        unfold loL
        simp [run_done, done_nx, done_rt, done_exc, sseq_and, sand_nx, sand_rt, sand_bk, sand_ct, sasg_nam, sret_up, sexp_up, sif_up, lft_up, up_ok, up_exc, bnd_and, and_ok, and_exc, mtru_tru, tru_bl, tru_tup, mtst_tst, tst_bl, mvar, mcon, mnil, mcons, mop, mandV, mchain, mbi, mcall, morT, mandT, mnotT, mnotV, mif, mtup, snil, mnew, mlist, mneg, bTy, bIsi, bLen, bInt, tyD, seqOf, lstOf, dIs, dIB, dI, dEq_int, ite_and, ite_or, ite_andB, ite_orB, sizeLine_eq, gnam, e5, e6, i6, repr_bl, n2, e7, n1]
      | false =>
        rw [hq] at e6 i6 e7 n1
        simp only [Bool.false_eq_true, if_false] at e7 n1
        have n2 := ne_repr false false (S5 ++ g6)
        simp at e6 i6 e7 n1 n2
        unfold loL
        simp [run_done, done_nx, done_rt, done_exc, sseq_and, sand_nx, sand_rt, sand_bk, sand_ct, sasg_nam, sret_up, sexp_up, sif_up, lft_up, up_ok, up_exc, bnd_and, and_ok, and_exc, mtru_tru, tru_bl, tru_tup, mtst_tst, tst_bl, mvar, mcon, mnil, mcons, mop, mandV, mchain, mbi, mcall, morT, mandT, mnotT, mnotV, mif, mtup, snil, mnew, mlist, mneg, bTy, bIsi, bLen, bInt, tyD, seqOf, lstOf, dIs, dIB, dI, dEq_int, ite_and, ite_or, ite_andB, ite_orB, sizeLine_eq, gnam, e5, e6, i6, repr_bl, n2, e7, n1]) [some (.frz (ns.map D.int)), some (.ref k), some (encP p), none, none, none] (S2 ++ g3) ⟨⟨none, none, none, rfl⟩, d3⟩
  obtain ⟨g8, e8⟩ := asked_ok Cb Cn Cp Ct h1 h2 h3 p okp S4
  rw [hP] at e8
  have hs : sfor (irng1 (mcon (.int 5))) (gnam 3) (loL Cb Cn Cp Ct) [some (.frz (ns.map D.int)), some (.ref k), some (encP p), none, none, none] (S2 ++ g3) = _ := (sfor_ok (irng_ok (n := 5) rfl (by decide))).trans hl4
  refine ⟨S4 ++ g8, ?_⟩
  simp only [if_true] at e8
  have sp : [D.frz (ns.map D.int)].map some ++ List.replicate (6 - [D.frz (ns.map D.int)].length) none = [some (D.frz (ns.map D.int)), none, none, none, none, none] := rfl
  unfold s_law m_law
  rw [run_done, sp]
  have c1 : mcall 1 s__law_draws (mcons (mvar 0) mnil) [some (.frz (ns.map D.int)), none, none, none, none, none] [] = .ok (.ref k) S1 := by simp [run_done, done_nx, done_rt, done_exc, sseq_and, sand_nx, sand_rt, sand_bk, sand_ct, sasg_nam, sret_up, sexp_up, sif_up, lft_up, up_ok, up_exc, bnd_and, and_ok, and_exc, mtru_tru, tru_bl, tru_tup, mtst_tst, tst_bl, mvar, mcon, mnil, mcons, mop, mandV, mchain, mbi, mcall, morT, mandT, mnotT, mnotV, mif, mtup, snil, mnew, mlist, mneg, bTy, bIsi, bLen, bInt, tyD, seqOf, lstOf, dIs, dIB, dI, dEq_int, ite_and, ite_or, ite_andB, ite_orB, sizeLine_eq, e1]
  rw [sseq_and, sasg_nam, c1, up_ok, sand_nx]
  have c2 : mcall 1 s__law_any_program (mcons (mvar 1) mnil) [some (.frz (ns.map D.int)), some (.ref k), none, none, none, none] S1 = .ok (encP p) S2 := by simp [run_done, done_nx, done_rt, done_exc, sseq_and, sand_nx, sand_rt, sand_bk, sand_ct, sasg_nam, sret_up, sexp_up, sif_up, lft_up, up_ok, up_exc, bnd_and, and_ok, and_exc, mtru_tru, tru_bl, tru_tup, mtst_tst, tst_bl, mvar, mcon, mnil, mcons, mop, mandV, mchain, mbi, mcall, morT, mandT, mnotT, mnotV, mif, mtup, snil, mnew, mlist, mneg, bTy, bIsi, bLen, bInt, tyD, seqOf, lstOf, dIs, dIB, dI, dEq_int, ite_and, ite_or, ite_andB, ite_orB, sizeLine_eq, e2]
  show (sseq _ _ [some (.frz (ns.map D.int)), some (.ref k), none, none, none, none] S1).done = _
  rw [sseq_and, sasg_nam, c2, up_ok, sand_nx]
  show (sseq _ _ [some (.frz (ns.map D.int)), some (.ref k), some (encP p), none, none, none] S2).done = _
  have c3 : sif (morT (mtst (mop (dIs true) (mcall 1 s_is_program (mcons (mvar 2) mnil)) (mcon (.bl true)))) (mnotT (mtru (mcall 0 s__law_bounds_hold mnil)))) (sret (mcon (.bl false))) snil [some (.frz (ns.map D.int)), some (.ref k), some (encP p), none, none, none] S2 = .nx [some (.frz (ns.map D.int)), some (.ref k), some (encP p), none, none, none] (S2 ++ g3) := by simp [run_done, done_nx, done_rt, done_exc, sseq_and, sand_nx, sand_rt, sand_bk, sand_ct, sasg_nam, sret_up, sexp_up, sif_up, lft_up, up_ok, up_exc, bnd_and, and_ok, and_exc, mtru_tru, tru_bl, tru_tup, mtst_tst, tst_bl, mvar, mcon, mnil, mcons, mop, mandV, mchain, mbi, mcall, morT, mandT, mnotT, mnotV, mif, mtup, snil, mnew, mlist, mneg, bTy, bIsi, bLen, bInt, tyD, seqOf, lstOf, dIs, dIB, dI, dEq_int, ite_and, ite_or, ite_andB, ite_orB, sizeLine_eq, i1, e3]
  rw [sseq_and, c3, sand_nx, sseq_and, hs, sand_nx]
  simp [run_done, done_nx, done_rt, done_exc, sseq_and, sand_nx, sand_rt, sand_bk, sand_ct, sasg_nam, sret_up, sexp_up, sif_up, lft_up, up_ok, up_exc, bnd_and, and_ok, and_exc, mtru_tru, tru_bl, tru_tup, mtst_tst, tst_bl, mvar, mcon, mnil, mcons, mop, mandV, mchain, mbi, mcall, morT, mandT, mnotT, mnotV, mif, mtup, snil, mnew, mlist, mneg, bTy, bIsi, bLen, bInt, tyD, seqOf, lstOf, dIs, dIB, dI, dEq_int, ite_and, ite_or, ite_andB, ite_orB, sizeLine_eq, e8]
end K12
open PySem PySem.W PyProof.Rows in
set_option maxRecDepth 100000 in
set_option maxHeartbeats 0 in
theorem PySem.Challenge.cw_coheir_k12_programs_and_what_is_none_holds : PySem.Challenge.rw_coheir_k12_programs_and_what_is_none.Holds := by
  w_on; o_law; k_head; (case hw => w_witness2)
  k_fill
  refine Ti.walk_end (l := PySem.Challenge.rw_coheir_k12_programs_and_what_is_none) (n := 63) (k := 10) (x := "script") rfl (by decide) rfl ⟨rfl, by decide, by decide⟩ (fun w h Y => PySem.W.kIn_of Y) ?F
  case F =>
    intro w mg fa h Y KX G hmg TBL
    refine' K12.all_mk K12.pure_ KX G hmg TBL ?z_all ?z_any ?z_int ?z_isinstance ?z_len ?z_list ?z_range ?z_repr ?z_tuple ?z_type ?z_MOST_CORES ?z_MOST_INSTRUCTIONS ?z_MOST_LINE ?z_MOST_VALUE ?z_BadNumber ?z_CoheirError ?z_NotObservation ?z_NotProgram ?z_NotTable ?n_is_within ?l_is_within ?d_is_within ?k_is_within ?n_is_tuple_of ?l_is_tuple_of ?d_is_tuple_of ?k_is_tuple_of ?n_is_line ?l_is_line ?d_is_line ?k_is_line ?n_is_instruction ?l_is_instruction ?d_is_instruction ?k_is_instruction ?n_is_core ?l_is_core ?d_is_core ?k_is_core ?n_is_program ?l_is_program ?d_is_program ?k_is_program ?n_check_program ?l_check_program ?d_check_program ?k_check_program ?n__law_number ?l__law_number ?d__law_number ?k__law_number ?n__law_draws ?l__law_draws ?d__law_draws ?k__law_draws ?n__law_next ?l__law_next ?d__law_next ?k__law_next ?n__law_pick ?l__law_pick ?d__law_pick ?k__law_pick ?n__law_put ?l__law_put ?d__law_put ?k__law_put ?n__law_one ?l__law_one ?d__law_one ?k__law_one ?n__law_program ?l__law_program ?d__law_program ?k__law_program ?n__law_more ?l__law_more ?d__law_more ?k__law_more ?n__law_any_program ?l__law_any_program ?d__law_any_program ?k__law_any_program ?n__law_is_one ?l__law_is_one ?d__law_is_one ?k__law_is_one ?n__law_is_program ?l__law_is_program ?d__law_is_program ?k__law_is_program ?n__law_spoilt ?l__law_spoilt ?d__law_spoilt ?k__law_spoilt ?n__law_asked ?l__law_asked ?d__law_asked ?k__law_asked ?n__law_bounds_hold ?l__law_bounds_hold ?d__law_bounds_hold ?k__law_bounds_hold ?n_law ?l_law ?d_law ?k_law ?x_NotProgram ?k_NotProgram ?s_NotProgram ?t_NotProgram ?m_NotProgram_CoheirError ?hg_NotProgram ?hk_NotProgram ?hs_NotProgram ?hd_NotProgram ?ha_NotProgram ?hm_NotProgram ?hn_NotProgram ?ht_NotProgram ?i_NotProgram_BadNumber ?i_NotProgram_NotObservation ?i_NotProgram_NotProgram ?i_NotProgram_NotTable ?u_is_core ?v_is_core ?r_is_core ?u_is_program ?v_is_program ?r_is_program
    (case z_all => first | k_is | rfl)
    (case z_any => first | k_is | rfl)
    (case z_int => first | k_is | rfl)
    (case z_isinstance => first | k_is | rfl)
    (case z_len => first | k_is | rfl)
    (case z_list => first | k_is | rfl)
    (case z_range => first | k_is | rfl)
    (case z_repr => first | k_is | rfl)
    (case z_tuple => first | k_is | rfl)
    (case z_type => first | k_is | rfl)
    (case z_MOST_CORES => first | k_is | rfl)
    (case z_MOST_INSTRUCTIONS => first | k_is | rfl)
    (case z_MOST_LINE => first | k_is | rfl)
    (case z_MOST_VALUE => first | k_is | rfl)
    (case z_BadNumber => first | k_is | rfl)
    (case z_CoheirError => first | k_is | rfl)
    (case z_NotObservation => first | k_is | rfl)
    (case z_NotProgram => first | k_is | rfl)
    (case z_NotTable => first | k_is | rfl)
    (case n_is_within => first | k_is | rfl)
    (case l_is_within => first | k_is | rfl)
    (case d_is_within => first | k_is | rfl)
    (case k_is_within => first | k_is | rfl)
    (case n_is_tuple_of => first | k_is | rfl)
    (case l_is_tuple_of => first | k_is | rfl)
    (case d_is_tuple_of => first | k_is | rfl)
    (case k_is_tuple_of => first | k_is | rfl)
    (case n_is_line => first | k_is | rfl)
    (case l_is_line => first | k_is | rfl)
    (case d_is_line => first | k_is | rfl)
    (case k_is_line => first | k_is | rfl)
    (case n_is_instruction => first | k_is | rfl)
    (case l_is_instruction => first | k_is | rfl)
    (case d_is_instruction => first | k_is | rfl)
    (case k_is_instruction => first | k_is | rfl)
    (case n_is_core => first | k_is | rfl)
    (case l_is_core => first | k_is | rfl)
    (case d_is_core => first | k_is | rfl)
    (case k_is_core => first | k_is | rfl)
    (case n_is_program => first | k_is | rfl)
    (case l_is_program => first | k_is | rfl)
    (case d_is_program => first | k_is | rfl)
    (case k_is_program => first | k_is | rfl)
    (case n_check_program => first | k_is | rfl)
    (case l_check_program => first | k_is | rfl)
    (case d_check_program => first | k_is | rfl)
    (case k_check_program => first | k_is | rfl)
    (case n__law_number => first | k_is | rfl)
    (case l__law_number => first | k_is | rfl)
    (case d__law_number => first | k_is | rfl)
    (case k__law_number => first | k_is | rfl)
    (case n__law_draws => first | k_is | rfl)
    (case l__law_draws => first | k_is | rfl)
    (case d__law_draws => first | k_is | rfl)
    (case k__law_draws => first | k_is | rfl)
    (case n__law_next => first | k_is | rfl)
    (case l__law_next => first | k_is | rfl)
    (case d__law_next => first | k_is | rfl)
    (case k__law_next => first | k_is | rfl)
    (case n__law_pick => first | k_is | rfl)
    (case l__law_pick => first | k_is | rfl)
    (case d__law_pick => first | k_is | rfl)
    (case k__law_pick => first | k_is | rfl)
    (case n__law_put => first | k_is | rfl)
    (case l__law_put => first | k_is | rfl)
    (case d__law_put => first | k_is | rfl)
    (case k__law_put => first | k_is | rfl)
    (case n__law_one => first | k_is | rfl)
    (case l__law_one => first | k_is | rfl)
    (case d__law_one => first | k_is | rfl)
    (case k__law_one => first | k_is | rfl)
    (case n__law_program => first | k_is | rfl)
    (case l__law_program => first | k_is | rfl)
    (case d__law_program => first | k_is | rfl)
    (case k__law_program => first | k_is | rfl)
    (case n__law_more => first | k_is | rfl)
    (case l__law_more => first | k_is | rfl)
    (case d__law_more => first | k_is | rfl)
    (case k__law_more => first | k_is | rfl)
    (case n__law_any_program => first | k_is | rfl)
    (case l__law_any_program => first | k_is | rfl)
    (case d__law_any_program => first | k_is | rfl)
    (case k__law_any_program => first | k_is | rfl)
    (case n__law_is_one => first | k_is | rfl)
    (case l__law_is_one => first | k_is | rfl)
    (case d__law_is_one => first | k_is | rfl)
    (case k__law_is_one => first | k_is | rfl)
    (case n__law_is_program => first | k_is | rfl)
    (case l__law_is_program => first | k_is | rfl)
    (case d__law_is_program => first | k_is | rfl)
    (case k__law_is_program => first | k_is | rfl)
    (case n__law_spoilt => first | k_is | rfl)
    (case l__law_spoilt => first | k_is | rfl)
    (case d__law_spoilt => first | k_is | rfl)
    (case k__law_spoilt => first | k_is | rfl)
    (case n__law_asked => first | k_is | rfl)
    (case l__law_asked => first | k_is | rfl)
    (case d__law_asked => first | k_is | rfl)
    (case k__law_asked => first | k_is | rfl)
    (case n__law_bounds_hold => first | k_is | rfl)
    (case l__law_bounds_hold => first | k_is | rfl)
    (case d__law_bounds_hold => first | k_is | rfl)
    (case k__law_bounds_hold => first | k_is | rfl)
    (case n_law => first | k_is | rfl)
    (case l_law => first | k_is | rfl)
    (case d_law => first | k_is | rfl)
    (case k_law => first | k_is | rfl)
    (case x_NotProgram => first | k_is | kernel_rfl)
    (case k_NotProgram => first | k_is | rfl)
    (case s_NotProgram => first | k_is | rfl)
    (case t_NotProgram => first | k_is | rfl)
    (case m_NotProgram_CoheirError => first | k_is | rfl)
    (case hg_NotProgram => first | k_is | rfl)
    (case hk_NotProgram => first | k_is | rfl)
    (case hs_NotProgram => first | k_is | rfl)
    (case hd_NotProgram => first | k_is | rfl)
    (case ha_NotProgram => first | k_is | rfl)
    (case hm_NotProgram => first | k_is | rfl)
    (case hn_NotProgram => first | k_is | rfl)
    (case ht_NotProgram => first | k_is | rfl)
    (case i_NotProgram_BadNumber => first | k_is | rfl)
    (case i_NotProgram_NotObservation => first | k_is | rfl)
    (case i_NotProgram_NotProgram => first | k_is | rfl)
    (case i_NotProgram_NotTable => first | k_is | rfl)
    (case u_is_core => first | k_is | rfl)
    (case v_is_core => first | k_is | rfl)
    (case r_is_core => rfl)
    (case u_is_program => first | k_is | rfl)
    (case v_is_program => first | k_is | rfl)
    (case r_is_program => rfl)
