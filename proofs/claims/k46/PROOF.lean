import PyProof.Rows.All
import Wide.All
import OpenK.AllK
import Wide.FinOn
import HandS.ForMost
import HandS.GenList
import HandS.AnyAll
import HandS.Evl
import HandS.Exc
import HandS.ExcOwn
import HandS.CallSlots
import HandS.WordsExc
import HandS.DictTup
import KE.LtSeq
import HandS.RaiseMore
import HandS.TupMul
import HandS.Deep
import HandS.TupAny
import HandS.Wide
import HandS.Flow
import KE.GoesEnum
import HandS.DictComp
import KE.GoesZip
import KE.GoesMore
import HandS.Zip
import HandS.IsInst
import HandS.FStrTup
import HandS.TupLe
import HandS.Codes
import HandS.EndBits
import HandS.EndTab
import HandS.EndOwn
import PySem.Challenge.RW_echohall_k46_what_is_a_great_word
set_option Elab.async false
set_option linter.all false
set_option maxRecDepth 100000
set_option maxHeartbeats 4000000
namespace Gx
open PySem PySem.Spec PyProof.Rows L2 GxR GenW
/-! all(e for x in xs), any(..): e any expression, also one that calls, also one that holds such again -/
/-- the context of a generator expression's own frame -/
abbrev gcx (X : Cx) (A : Around) (s : Shared) (H : Hp) (cenv : Env) (fp : List Addr) (pn : List (Addr × Obj)) : Cx := { X with A := A, s_0 := s, H_0 := H, env := cenv, outer := X.stack, stack := cenv :: X.stack, ex := fp, fn := fun _ => false, pn := pn, xe := fun _ _ => False }
abbrev gEnv (X : Cx) (scope : Scope) (C : Addr) (code : Value) : Env := genEnv scope (cloFrom X.env.cells scope.names []) C code builtinsNs X.env
theorem over_gen {A : Around} {elt target iter : Expr} {ifs : List Expr} {scope : Scope} {pos : Pos} {it acc : Value} {env : Env} : A.over (.compLoop (.GeneratorExp elt [⟨target, iter, ifs, 0⟩] scope pos) 0 it acc env) [] = A.deeper env := by
  first
    | rfl
    | (obtain ⟨hd, d, fr, gs, u⟩ := A; simp [Around.over, Around.deeper, marksOver, frameCount, unitsOf, envsOf, guardsOf, pushEnvs, pushGuards, Code.envs, Code.env?, Code.isFrame, Code.guards, Code.isGuard, Code.weight, Code.frames, Code.isCreation, Code.isCaller, Code.cUnits])
section
variable {X : Cx} {pins : List (Addr × Obj)} {σ : L2.St} {H : Hp} {s : Shared}
theorem gen_start {scope : Scope} {own : List (Str × Nat)} {fp : List Addr} {code : Value} {A : Around} {h5 : Heap} {tk : Nat} {gs : Array GenState} {m : Str → Option Value} {a : Addr} {go : Obj} (I : Inv X pins σ H s) (ok : BlkOk X.N X.env.scope scope own) (hN : X.N.Nodup) (hcell : ∀ y ∈ scope.names, y.2 ≠ .cell)
    (hfp : ∀ b ∈ fp, FpOk X pins H b ∧ b < s.heap.objs.size) (hA : A.handled = none) (hfr : A.frames = some (gEnv X scope s.heap.objs.size code :: X.stack)) (kp : ∀ b o, s.heap.get? b = some o → h5.get? b = some o) (hns : h5.Ns s.heap.objs.size m)
    (hgo : h5.get? a = some go) (ha : s.heap.objs.size < a) (hgd : ∀ v, go.data ≠ .cell v) (hb : AllBare gs) :
    Inv (gcx X A s H (gEnv X scope s.heap.objs.size code) fp [(a, go)]) [] (wipe σ (own.map (·.2))) H { s with heap := h5, gens := gs, toks := tk } := by
  have hfree : ∀ y ∈ scope.names, y.2 = .free → ∃ c, X.env.cells.lookup y.1 = some c := fun y hy e => by
    rcases ok.free y hy e with k | k
    · exact I.ok.has _ (.inl k)
    · exact I.ok.has _ (.inr k)
  generalize hcenv : gEnv X scope s.heap.objs.size code = cenv at hfr
  have hL : cenv.locals = s.heap.objs.size := by rw [← hcenv]; rfl
  have hcl : cenv.cells = cloFrom X.env.cells scope.names [] := by rw [← hcenv]; rfl
  have hsc : cenv.scope = scope := by rw [← hcenv]; rfl
  have hF : cenv.frame = some cenv.locals := by rw [← hcenv]; rfl
  have cm : ∀ {y c}, (y, c) ∈ cloFrom X.env.cells scope.names [] → X.env.cells.lookup y = some c ∧ c < s.heap.objs.size := fun {y c} hm => by
    rcases cloFrom_mem hm with hm | ⟨h1, rfl⟩
    · cases hm
    · obtain ⟨c, hc⟩ := hfree _ h1 rfl
      rw [hc]
      obtain ⟨w, z⟩ := I.cell _ _ hc
      exact ⟨rfl, z.lt⟩
  have mem : ∀ {y c}, cenv.cells.lookup y = some c → X.env.cells.lookup y = some c ∧ c < s.heap.objs.size := fun {y c} e => by
    rw [hcl] at e
    exact cm (PySem.mem_of_lookup e)
  have look : ∀ {y}, scope.names.lookup y = some .free → ∃ c, cenv.cells.lookup y = some c ∧ X.env.cells.lookup y = some c := fun {y} hl => by
    have hy : (y, NameKind.free) ∈ scope.names := PySem.mem_of_lookup hl
    obtain ⟨c', e'⟩ := mem_lookup (cloFrom_has (cells := X.env.cells) (acc := []) hy)
    rw [← hcl] at e'
    exact ⟨c', e', (mem e').1⟩
  have kindf : ∀ {y}, (cenv.kindOf y = some .cell ∨ cenv.kindOf y = some .free) → scope.names.lookup y = some .free := fun {y} hy => by
    unfold Env.kindOf at hy
    rw [hsc] at hy
    rcases hy with hy | hy
    · exact absurd rfl (hcell _ (PySem.mem_of_lookup hy))
    · exact hy
  have okB : (gcx X A s H cenv fp [(a, go)]).Ok := by
    refine ⟨I.ok.mod, by show cenv.scope.kind = _; rw [hsc]; exact ok.kind, by show cenv.globals = _; rw [← hcenv]; exact I.ok.glob, by show cenv.builtins = _; rw [← hcenv]; rfl, by show s.heap.objs.size ≤ cenv.locals; rw [hL]; exact Nat.le_refl _,
      fun y z c e1 e2 => ?_, fun y hy => ?_, fun y c z e => absurd z Bool.false_ne_true, fun _ => hA, hfr, .inr ⟨rfl, hF⟩, fun b hb => ⟨?_, fun y c e z => ?_⟩, I.bs, Nat.le_trans I.ok.bsz I.sz, fun b o e hb => ?_, fun b hb z => ?_, I.stack, I.stkFree⟩
    · exact I.ok.inj y z c (mem (show cenv.cells.lookup y = some c from e1)).1 (mem (show cenv.cells.lookup z = some c from e2)).1
    · obtain ⟨c, h1, _⟩ := look (kindf hy)
      exact ⟨c, h1⟩
    · show b ≠ cenv.locals
      rw [hL]; exact Nat.ne_of_lt (hfp b hb).2
    · exact (hfp b hb).1.2.2.2.2.1 y c (mem (show cenv.cells.lookup y = some c from e)).1 z
    · rcases (hfp b hb).1.2.2.2.1 with z | z
      · exact I.ok.noex b o e z
      · exact absurd (Nat.lt_of_lt_of_le (Heap.lt_size e) (Nat.le_trans I.ok.bsz z)) (Nat.lt_irrefl _)
    · rcases List.mem_cons.mp (I.stkSub b z) with z | z
      · exact (hfp b hb).1.2.1 z
      · exact (hfp b hb).1.2.2.1 z
  refine ⟨okB, rfl, hb, Un.kept kp, ⟨m, ?_, fun i y av e1 e2 e3 => ?_⟩, fun y c e => ?_, ?_, fun y c e => ?_, fun p hp => ?_, I.hok.kept kp, by rw [wipe_length]; exact I.len⟩
  · show Heap.Ns _ cenv.locals _
    rw [hL]
    exact hns
  · obtain ⟨e2, hne⟩ := wipe_some e2
    have hfr : scope.names.lookup y = some .free := by
      have e3 : Vis cenv.scope y := e3
      rw [hsc] at e3
      rcases e3 with e3 | e3 | e3
      · rcases ok.own _ (PySem.mem_of_lookup e3) (.inl rfl) with e' | e'
        · obtain ⟨p, hp, hpy⟩ := List.mem_map.mp e'
          have e4 := ok.ix p hp
          have : p.1 = y := hpy
          rw [this] at e4
          exact absurd (List.mem_map.mpr ⟨p, hp, nodup_ix hN e4 e1⟩) hne
        · exact absurd (List.mem_of_getElem? e1) e'
      · exact absurd rfl (hcell _ (PySem.mem_of_lookup e3))
      · exact e3
    obtain ⟨m', hn, hl⟩ := I.loc
    have hvis : Vis X.env.scope y := (ok.free _ (PySem.mem_of_lookup hfr) rfl).elim (fun k => .inr (.inl k)) (fun k => .inr (.inr k))
    obtain ⟨w, r, q⟩ := hl i y av e1 e2 hvis
    refine ⟨w, r, .inr ⟨.inr (by show cenv.scope.names.lookup y = _; rw [hsc]; exact hfr), ?_⟩⟩
    obtain ⟨c, h1, h2⟩ := look hfr
    rcases q with ⟨k, _⟩ | ⟨_, c', e', z⟩
    · have k : X.env.scope.names.lookup y = some .local := k
      rcases ok.free _ (PySem.mem_of_lookup hfr) rfl with k' | k' <;> rw [show X.env.scope.names.lookup y = _ from k'] at k <;> cases k
    · rw [h2] at e'; cases e'
      exact ⟨c, h1, z.keeps kp⟩
  · obtain ⟨w, z⟩ := I.cell y c (mem (show cenv.cells.lookup y = some c from e)).1
    exact ⟨w, z.keeps kp⟩
  · show H cenv.locals = none
    rw [hL]; exact I.hok.fresh (Nat.le_refl _)
  · exact I.freeC y c (mem (show cenv.cells.lookup y = some c from e)).1
  · have hp' : p = (a, go) := by
      have : p ∈ [(a, go)] ++ [] := hp
      rw [List.append_nil] at this
      exact List.mem_singleton.mp this
    subst hp'
    refine ⟨hgo, I.hok.fresh (Nat.le_of_lt ha), ?_, ?_, hgd⟩
    · show a ≠ cenv.locals
      rw [hL]; exact Nat.ne_of_gt ha
    · show a ∉ frs X.stack
      intro z
      rcases List.mem_cons.mp (I.stkSub a z) with z | z
      · exact absurd (Nat.lt_trans I.lt ha) (by rw [z]; exact Nat.lt_irrefl _)
      · exact I.nofs (Nat.le_of_lt ha) z
end
end Gx
set_option Elab.async false
set_option linter.all false
set_option maxRecDepth 100000
set_option maxHeartbeats 4000000
namespace Gx
open PySem PySem.Spec PyProof.Rows L2 GxR GenW
/-- the state behind s1 for the def around: H' stands there, whatever the consumer does to the generators -/
def Out (X : Cx) (pins : List (Addr × Obj)) (σ : L2.St) (H' : Hp) (s1 : Shared) : Prop := ∀ s' : Shared, s'.os = s1.os → AllBare s'.gens → (∀ b o, s1.heap.get? b = some o → s'.heap.get? b = some o) → Inv X pins σ H' s'
/-- the generator sleeps at a turn -/
def gY (X : Cx) (pins : List (Addr × Obj)) (σ : L2.St) (stop : Bool) (Q : VK) (a : Addr) (g : Nat) : Protocol := fun n s₀ v s1 kap =>
  ∃ b : Bool, v = .bool b ∧ s1.heap.IsGen a g ∧ s1.heap.NoLimit ∧ AllBare s1.gens ∧ (b = stop → ∃ H', Out X pins σ H' s1 ∧ Q (.bl stop) H') ∧ (b ≠ stop → ∀ s' : Shared, s'.heap = s1.heap → s'.os = s1.os → AllBare s'.gens → kap (.send .none) s')
def gF (X : Cx) (pins : List (Addr × Obj)) (σ : L2.St) (stop : Bool) (Q : VK) : Nat → Shared → Shared → Prop := fun _ _ s1 => AllBare s1.gens ∧ ∃ H', Out X pins σ H' s1 ∧ Q (.bl (!stop)) H'
def gR (X : Cx) (pins : List (Addr × Obj)) (σ : L2.St) (stop : Bool) (Q : VK) : GenEnd := fun n s₀ r s₁ => ((r = .ok (.ret .none) ∨ r = .ok .next) ∧ gF X pins σ stop Q n s₀ s₁) ∨ ∃ e, r = .error e ∧ (fun (_ : Value) (_ : Shared) => False) e s₁
section
variable {X : Cx} {pins : List (Addr × Obj)} {σ : L2.St} {H : Hp} {s : Shared}
theorem gen_loop {elt tg iter : Expr} {scope : Scope} {pos : Pos} {it : Addr} {B : Around} {s4 : Shared} {H4 : Hp} {cenv : Env} {fp vs : List Addr} {a : Addr} {g : Nat} {go : Obj} {tn : Nat → Heap → Prop} {J : It} {gt : TG} {te : TE} {stop : Bool} {Q : VK} {W : Nat → Nat → Hp → Prop}
    (hc : X.calm = true) (I4 : Inv X pins σ H4 s4) (f4 : ∀ b ∈ fp, FpOk X pins H4 b ∧ b < s4.heap.objs.size) (T : Turn X.prog X.w X.K tg J fp it tn) (hgen : ∀ h : Heap, h.get? a = some go → h.IsGen a g) (hco : cenv.scope.isCoroutine = false) (hag : s4.heap.objs.size ≤ a)
    (pg : PG (gcx X (B.deeper cenv) s4 H4 cenv fp [(a, go)]) tg gt) (pe : PE (gcx X (B.deeper cenv) s4 H4 cenv fp [(a, go)]) elt te)
    (turn : ∀ i m H, W i m H → (J.stop i H ∧ Q (.bl (!stop)) H) ∨ (J.go i H ∧ ∀ x H', J.yld i H x H' → gt x (wipe σ vs) H' fun σ2 H2 => wipe σ2 vs = wipe σ vs ∧ te σ2 H2 fun y H3 => ∃ b, y = .bl b ∧ if b = stop then Q (.bl stop) H3 else ∃ m', m' < m ∧ W (i + 1) m' H3)) :
    ∀ (n i m : Nat) (s₀ s : Shared) (H' : Hp), m < n → Inv (gcx X (B.deeper cenv) s4 H4 cenv fp [(a, go)]) [] (wipe σ vs) H' s → tn i s.heap → (∀ b ∈ fp, H' b = none) → W i m H' →
      Seg (model X.prog X.w) B (gR X pins σ stop Q) (gY X pins σ stop Q a g) n s₀ (.compLoop (.GeneratorExp elt [⟨tg, iter, [], 0⟩] scope pos) 0 (.ref it) .none cenv)
        ((model X.prog X.w).den (.compLoop (.GeneratorExp elt [⟨tg, iter, [], 0⟩] scope pos) 0 (.ref it) .none cenv)) [] s := by
  have ov : B.over (.compLoop (.GeneratorExp elt [⟨tg, iter, [], 0⟩] scope pos) 0 (.ref it) .none cenv) [] = B.deeper cenv := over_gen
  have out : ∀ {H' : Hp} {σ' : L2.St} {pl : List (Addr × Obj)} {s1 : Shared}, Inv (gcx X (B.deeper cenv) s4 H4 cenv fp [(a, go)]) pl σ' H' s1 → Out X pins σ H' s1 := fun {H' σ' pl s1} J1 s' ho hb hk =>
    I4.call' (ch := fp) (ho.trans J1.os) (J1.base.trans (Un.kept hk)) (J1.hok.kept hk) hb fun b hb => ⟨(f4 b hb).1.2.2.2.1, (f4 b hb).1.2.1, (f4 b hb).1.2.2.2.2.1, (f4 b hb).1.2.2.2.2.2⟩
  have isg : ∀ {H' : Hp} {σ' : L2.St} {pl : List (Addr × Obj)} {s1 : Shared}, Inv (gcx X (B.deeper cenv) s4 H4 cenv fp [(a, go)]) pl σ' H' s1 → s1.heap.IsGen a g := fun {H' σ' pl s1} J1 =>
    hgen _ (J1.pin (a, go) (List.mem_append_left _ (List.mem_singleton.mpr rfl))).1
  have stat : ∀ {σ' : L2.St} {H' : Hp} {s' : Shared}, Inv (gcx X (B.deeper cenv) s4 H4 cenv fp [(a, go)]) [] σ' H' s' → (∀ b ∈ fp, H' b = none) → ∀ b ∈ fp, FpOk (gcx X (B.deeper cenv) s4 H4 cenv fp [(a, go)]) [] H' b := fun {σ' H' s'} I' hn b hb =>
    ⟨hn b hb, (I'.ok.exf b hb).1, I'.ok.exfs b hb, .inl hb, fun x c e => (I'.ok.exf b hb).2 x c e, fun p hp => by
      have hp' : p = (a, go) := by
        have : p ∈ [(a, go)] ++ [] := hp
        rw [List.append_nil] at this
        exact List.mem_singleton.mp this
      rw [hp']
      exact Nat.ne_of_gt (Nat.lt_of_lt_of_le (f4 b hb).2 hag)⟩
  intro n
  induction n with
  | zero => exact fun i m s₀ s H' h => absurd h (Nat.not_lt_zero _)
  | succ n ih =>
    intro i m s₀ s H' hm I st nf w
    show Seg _ B _ _ _ s₀ _ ((compTurn (.GeneratorExp elt [⟨tg, iter, [], 0⟩] scope pos) 0 (.ref it) .none cenv).onRaise (leaving cenv)) [] s
    rw [compTurn_gen, Sem.onRaise_eq_wrap]
    refine seg_bind_wrap (wpAny_standAt ?_)
    rcases turn i m H' w with ⟨stp, qq⟩ | ⟨goes, step⟩
    · have td := T.done (gcx X (B.deeper cenv) s4 H4 cenv fp [(a, go)]) rfl rfl rfl hc i [] s _ H' (fun _ _ => False) I (stat I nf) st stp
      refine seg_bind_wrap ?_
      rw [ov]
      refine thnF td fun r s6 ⟨hr, I6⟩ => ?_
      subst hr
      exact seg_end (.ok .next) (.inl ⟨.inr rfl, I6.bare, H', out I6, qq⟩)
    · have ti := T.item (gcx X (B.deeper cenv) s4 H4 cenv fp [(a, go)]) rfl rfl rfl hc i [] s _ H' (fun _ _ => False) I (stat I nf) st goes
      refine seg_bind_wrap ?_
      rw [ov]
      refine thnF ti fun r s6 ⟨u, hr, h6⟩ => ?_
      subst hr
      refine seg_bind_wrap ?_
      rw [ov]
      refine thnF h6 fun _ s7 ⟨x, H7, I7, r7, y7, st7, n7⟩ => ?_
      have I7' := I7.pinned (stat I7 n7) (T.obj _ _ st7)
      refine seg_bind_wrap ?_
      rw [ov]
      refine thnF (pg.run _ s7 _ H7 x u _ I7' r7 (step x H7 y7)) fun _ s8 ⟨σ8, H8, I8, hw8, q8⟩ => ?_
      refine seg_bind_wrap ?_
      rw [ov]
      refine wpAny_tests_nil ?_
      simp only [if_true]
      have hy : ∀ v, yieldOut cenv v = yieldValue v := fun v => by simp only [yieldOut, hco, Bool.false_eq_true, if_false]
      simp only [hy]
      rw [Sem.bind_eq_wrap', Sem.bind_eq_wrap', Sem.wrap_wrap, Sem.wrap_wrap]
      refine seg_wrap ?_
      rw [ov]
      refine thnF (pe.run _ s8 σ8 H8 _ I8 q8) fun z s10 ⟨yv, H10, I10, r10, b, eb, q10⟩ => ?_
      subst eb
      obtain rfl : z = Value.bool b := r10
      have pin' : ∀ b ∈ fp, ∀ o, s7.heap.get? b = some o → s10.heap.get? b = some o ∧ H10 b = none := fun b hb o e =>
        let z := I10.pin (b, o) (List.mem_append_right _ (List.mem_append_right _ (mem_pinsAt hb e)))
        ⟨z.1, z.2.1⟩
      have hl : (wipe σ vs).length = σ8.length := by rw [← hw8, wipe_length]
      have I11 : Inv (gcx X (B.deeper cenv) s4 H4 cenv fp [(a, go)]) [] (wipe σ vs) H10 s10 := (I10.unpinned (pins := [])).weak hl (fun j v e => by rw [← hw8] at e; exact (wipe_some e).1)
      refine seg_at (seg_yield rfl rfl rfl ⟨b, rfl, isg I11, I11.nolimit, I11.bare, fun hb => ?_, fun hb s' eh eo hbare => ?_⟩)
      · rw [if_pos hb] at q10
        exact ⟨H10, out I11, q10⟩
      · rw [if_neg hb] at q10
        obtain ⟨m', hm', w'⟩ := q10
        have I12 : Inv (gcx X (B.deeper cenv) s4 H4 cenv fp [(a, go)]) [] (wipe σ vs) H10 s' := I11.call' (ch := []) eo (Un.kept fun b o e => by rw [eh]; exact e) (I11.hok.kept fun b o e => by rw [eh]; exact e) hbare (fun b z => absurd z (by simp))
        refine seg_again rfl (ih (i + 1) m' s' s' H10 (by omega) I12 (T.keep _ _ _ st7 fun b hb o e => by rw [eh]; exact (pin' b hb o e).1) (fun b hb => ?_) w')
        obtain ⟨o, e, _⟩ := T.obj _ _ st7 b hb
        exact (pin' b hb o e).2
end
end Gx
set_option Elab.async false
set_option linter.all false
set_option maxRecDepth 100000
set_option maxHeartbeats 4000000
namespace Gx
open PySem PySem.Spec PyProof.Rows L2 GxR GenW
/-- a generator that sleeps, ready for n more turns -/
def GSt (X : Cx) (pins : List (Addr × Obj)) (σ : L2.St) (B : Around) (stop : Bool) (Q : VK) (a : Addr) (g n : Nat) (s : Shared) : Prop :=
  s.heap.IsGen a g ∧ s.heap.NoLimit ∧ AllBare s.gens ∧ ∃ gs, s.gens[g]? = some gs ∧ ∀ s'' : Shared, s''.heap = s.heap → s''.os = s.os → AllBare s''.gens → gs.Goes (model X.prog X.w) B (gR X pins σ stop Q) (gY X pins σ stop Q a g) n (.send .none) s''
section
variable {X : Cx} {pins : List (Addr × Obj)} {σ : L2.St} {A : Around} {R : Result → Shared → Prop} {Q : VK} {a : Addr} {g : Nat}
theorem all_loop (hh : A.handled = none) (hd : A.depth < recursionLimit) (hR : ∀ u s', EP X pins σ Q u s' → R (.ok (.ret u)) s') : ∀ (n : Nat) (s : Shared), GSt X pins σ A.in1.in1 false Q a g n s →
    codeAny (model X.prog X.w) A (.builtin "all.loop" ⟨[.ref a], []⟩) R s := by
  intro n
  induction n with
  | zero =>
    intro s ⟨hg, hl, hba, gs, hgs, hgo⟩
    refine codeAny_builtin F.entry_all_loop ?_
    rw [Around.under_plainId F.plain_all_loop _]
    show wpAny _ A.in1 (pyNext (.ref a) >>= _) _ _ s
    refine wpAny_bind (next_genG (A := A.in1) (F := gF X pins σ false Q) (Er := fun _ _ => False) hh hl hd hg hgs (hgo _ rfl rfl (allBare_setGen hba rfl)) (fun v s₁ gs' hbare hv => ?_) (fun s₁ hp h' hk => ?_) fun e s₁ he => he.elim)
    · obtain ⟨b, rfl, hg1, hl1, hb1, h1, h2⟩ := hv
      cases b with
      | true => exact (h2 (by decide) _ rfl rfl hb1).elim
      | false =>
        obtain ⟨H', o1, q1⟩ := h1 rfl
        refine wpAny_bind (wpAny_holding (wpAny_truthy_bool ?_))
        refine wpAny_bind (wpAny_letGo ?_)
        simp only [Bool.false_eq_true, if_false]
        exact wpAny_bind (wpAny_rule (wpAny_pure (hR _ _ ⟨.bl false, H', o1 _ rfl (allBare_setGen hb1 hbare) fun b o e => e, rfl, q1⟩)))
    · obtain ⟨hb1, H', o1, q1⟩ := hp
      exact wpAny_bind (wpAny_rule (wpAny_pure (hR _ _ ⟨.bl true, H', o1 _ rfl (allBare_setGen hb1 rfl) hk, rfl, q1⟩)))
  | succ n ih =>
    intro s ⟨hg, hl, hba, gs, hgs, hgo⟩
    have hgl : g < s.gens.size := (Array.getElem?_eq_some_iff.mp hgs).1
    refine codeAny_builtin F.entry_all_loop ?_
    rw [Around.under_plainId F.plain_all_loop _]
    show wpAny _ A.in1 (pyNext (.ref a) >>= _) _ _ s
    refine wpAny_bind (wpAny_gsz (n := g + 1) hgl (next_genG (A := A.in1) (F := gF X pins σ false Q) (Er := fun _ _ => False) hh hl hd hg hgs (hgo _ rfl rfl (allBare_setGen hba rfl)) (fun v s₁ gs' hbare hv => ?_) (fun s₁ hp h' hk => ?_) fun e s₁ he => he.elim))
    · intro hsz
      obtain ⟨b, rfl, hg1, hl1, hb1, h1, h2⟩ := hv
      have hsz1 : g < s₁.gens.size := by
        have q : (s₁.setGen g gs').gens.size = s₁.gens.size := setGen_size _ _ _
        have hsz' : g + 1 ≤ (s₁.setGen g gs').gens.size := hsz
        omega
      refine wpAny_bind (wpAny_holding (wpAny_truthy_bool ?_))
      refine wpAny_bind (wpAny_letGo ?_)
      cases b with
      | true =>
        simp only [if_true]
        refine wpAny_pure ⟨plainId_quiet F.plain_all_loop _, ih (s₁.setGen g gs') ⟨hg1, hl1, allBare_setGen hb1 hbare, gs', setGen_at hsz1, fun s'' eh eo hb => ?_⟩⟩
        exact h2 (by decide) s'' eh eo hb
      | false =>
        obtain ⟨H', o1, q1⟩ := h1 rfl
        simp only [Bool.false_eq_true, if_false]
        exact wpAny_bind (wpAny_rule (wpAny_pure (hR _ _ ⟨.bl false, H', o1 _ rfl (allBare_setGen hb1 hbare) fun b o e => e, rfl, q1⟩)))
    · intro hsz
      obtain ⟨hb1, H', o1, q1⟩ := hp
      exact wpAny_bind (wpAny_rule (wpAny_pure (hR _ _ ⟨.bl true, H', o1 _ rfl (allBare_setGen hb1 rfl) hk, rfl, q1⟩)))
theorem any_loop (hh : A.handled = none) (hd : A.depth < recursionLimit) (hR : ∀ u s', EP X pins σ Q u s' → R (.ok (.ret u)) s') : ∀ (n : Nat) (s : Shared), GSt X pins σ A.in1.in1 true Q a g n s →
    codeAny (model X.prog X.w) A (.builtin "any.loop" ⟨[.ref a], []⟩) R s := by
  intro n
  induction n with
  | zero =>
    intro s ⟨hg, hl, hba, gs, hgs, hgo⟩
    refine codeAny_builtin F.entry_any_loop ?_
    rw [Around.under_plainId F.plain_any_loop _]
    show wpAny _ A.in1 (pyNext (.ref a) >>= _) _ _ s
    refine wpAny_bind (next_genG (A := A.in1) (F := gF X pins σ true Q) (Er := fun _ _ => False) hh hl hd hg hgs (hgo _ rfl rfl (allBare_setGen hba rfl)) (fun v s₁ gs' hbare hv => ?_) (fun s₁ hp h' hk => ?_) fun e s₁ he => he.elim)
    · obtain ⟨b, rfl, hg1, hl1, hb1, h1, h2⟩ := hv
      cases b with
      | false => exact (h2 (by decide) _ rfl rfl hb1).elim
      | true =>
        obtain ⟨H', o1, q1⟩ := h1 rfl
        refine wpAny_bind (wpAny_holding (wpAny_truthy_bool ?_))
        refine wpAny_bind (wpAny_letGo ?_)
        simp only [if_true]
        exact wpAny_bind (wpAny_rule (wpAny_pure (hR _ _ ⟨.bl true, H', o1 _ rfl (allBare_setGen hb1 hbare) fun b o e => e, rfl, q1⟩)))
    · obtain ⟨hb1, H', o1, q1⟩ := hp
      exact wpAny_bind (wpAny_rule (wpAny_pure (hR _ _ ⟨.bl false, H', o1 _ rfl (allBare_setGen hb1 rfl) hk, rfl, q1⟩)))
  | succ n ih =>
    intro s ⟨hg, hl, hba, gs, hgs, hgo⟩
    have hgl : g < s.gens.size := (Array.getElem?_eq_some_iff.mp hgs).1
    refine codeAny_builtin F.entry_any_loop ?_
    rw [Around.under_plainId F.plain_any_loop _]
    show wpAny _ A.in1 (pyNext (.ref a) >>= _) _ _ s
    refine wpAny_bind (wpAny_gsz (n := g + 1) hgl (next_genG (A := A.in1) (F := gF X pins σ true Q) (Er := fun _ _ => False) hh hl hd hg hgs (hgo _ rfl rfl (allBare_setGen hba rfl)) (fun v s₁ gs' hbare hv => ?_) (fun s₁ hp h' hk => ?_) fun e s₁ he => he.elim))
    · intro hsz
      obtain ⟨b, rfl, hg1, hl1, hb1, h1, h2⟩ := hv
      have hsz1 : g < s₁.gens.size := by
        have q : (s₁.setGen g gs').gens.size = s₁.gens.size := setGen_size _ _ _
        have hsz' : g + 1 ≤ (s₁.setGen g gs').gens.size := hsz
        omega
      refine wpAny_bind (wpAny_holding (wpAny_truthy_bool ?_))
      refine wpAny_bind (wpAny_letGo ?_)
      cases b with
      | false =>
        simp only [Bool.false_eq_true, if_false]
        refine wpAny_pure ⟨plainId_quiet F.plain_any_loop _, ih (s₁.setGen g gs') ⟨hg1, hl1, allBare_setGen hb1 hbare, gs', setGen_at hsz1, fun s'' eh eo hb => ?_⟩⟩
        exact h2 (by decide) s'' eh eo hb
      | true =>
        obtain ⟨H', o1, q1⟩ := h1 rfl
        simp only [if_true]
        exact wpAny_bind (wpAny_rule (wpAny_pure (hR _ _ ⟨.bl true, H', o1 _ rfl (allBare_setGen hb1 hbare) fun b o e => e, rfl, q1⟩)))
    · intro hsz
      obtain ⟨hb1, H', o1, q1⟩ := hp
      exact wpAny_bind (wpAny_rule (wpAny_pure (hR _ _ ⟨.bl false, H', o1 _ rfl (allBare_setGen hb1 rfl) hk, rfl, q1⟩)))
end
end Gx
set_option Elab.async false
set_option linter.all false
set_option maxRecDepth 100000
set_option maxHeartbeats 4000000
namespace Gx
open PySem PySem.Spec PyProof.Rows L2 GxR GenW
/-- what a generator expression's reading asks, its iterator at hand: P the running def's table -/
def gTurns (stop : Bool) (P : Addr) (gt : TG) (te : TE) (vs : List Nat) (σ : L2.St) (Q : VK) (J : It) (H1 : Hp) : Prop := TabG H1 P ∧ ∀ H2, Tabbed P H1 H2 → ∃ W : Nat → Nat → Hp → Prop, (∃ m, W 0 m H2) ∧
  ∀ i m H, W i m H → (J.stop i H ∧ Q (.bl (!stop)) H) ∨ (J.go i H ∧ ∀ x H', J.yld i H x H' → gt x (wipe σ vs) H' fun σ2 H2 => wipe σ2 vs = wipe σ vs ∧ te σ2 H2 fun y H3 => ∃ b, y = .bl b ∧ if b = stop then Q (.bl stop) H3 else ∃ m', m' < m ∧ W (i + 1) m' H3)
section
variable {X : Cx} {pins : List (Addr × Obj)} {σ : L2.St} {H : Hp} {s : Shared}
theorem gen_make {c P : Addr} {elt tg iter : Expr} {scope : Scope} {own : List (Str × Nat)} {gpos : Pos} {wi : TI} {gt : TG} {te : TE} {stop : Bool} {Q : VK} {Q' : Value → Shared → Prop} {k : Nat}
    (hc : X.calm = true) (hN : X.N.Nodup) (hr : Room (k + 1) X.A) (TB : TabB X.base X.mg c P) (hcode : X.env.code = .ref c) (ok : BlkOk X.N X.env.scope scope own) (hcell : ∀ y ∈ scope.names, y.2 ≠ .cell) (hdot : scope.names.lookup (".0" : Str) = some NameKind.local) (hco : scope.isCoroutine = false)
    (hi : PI X tg iter wi) (hg : ∀ A s H C code fp pn, PG (gcx X A s H (gEnv X scope C code) fp pn) tg gt) (he : ∀ A s H C code fp pn, Room k A → PE (gcx X A s H (gEnv X scope C code) fp pn) elt te)
    (hs : ∀ v, genFold iter X.env v = pure v) (I : Inv X pins σ H s) (h : wi σ H (gTurns stop P gt te (own.map (·.2)) σ Q))
    (hQ : ∀ a g n s5, GSt X pins σ X.A.in1.in1 stop Q a g n s5 → Q' (.ref a) s5) :
    wpAny (model X.prog X.w) X.A (eval (.GeneratorExp elt [⟨tg, iter, [], 0⟩] scope gpos) X.env) Q' X.xe s := by
  have hfree : ∀ y ∈ scope.names, y.2 = .free → ∃ c, X.env.cells.lookup y.1 = some c := fun y hy e => by
    rcases ok.free y hy e with k | k
    · exact I.ok.has _ (.inl k)
    · exact I.ok.has _ (.inr k)
  refine wpAny_GeneratorExp_make hco (closure_ok hfree) hcell hdot ok.kind hr.depth (thn (hi.run pins s σ H _ I h) fun xv s1 hx => thn hx fun itv s2 h2 => ?_) hs
  obtain ⟨it, fp, tn, J, H2, e, I2, T, st2, f2, ⟨ps, hP, htr⟩, q⟩ := h2
  subst e
  have hPs : s2.heap.get? P = some { cls := .none, data := .fields ps } := I2.hok P _ hP
  have hPlt : P < s2.heap.objs.size := Heap.lt_size hPs
  have cd : PySem.W.CodeHd s2.heap c P := TB.code.keeps fun b u e => I2.bk b u e
  have nP : ∀ b ∈ fp, b ≠ P := fun b hb z => by
    have := (f2 b hb).1
    rw [z, hP] at this
    cases this
  have sz : ∀ b ∈ fp, b < s2.heap.objs.size := fun b hb => by
    obtain ⟨o, e, _⟩ := T.obj _ _ st2 b hb
    exact Heap.lt_size e
  have cont : ∀ (code : Value) (h3 : Heap) (tk : Nat) (ps' : Array Value), Heap.ExtBut P s2.heap h3 → s2.heap.objs.size ≤ h3.objs.size → h3.get? P = some { cls := .none, data := .fields ps' } → (∃ more, ps' = ps ++ more) → TriplesOk ps'.toList →
      wpAny (model X.prog X.w) X.A (builtinsFor X.env.globals X.env.builtins) (fun bi s₄ => ∀ h', h'.Ns s₄.heap.objs.size (fun y => if y = ".0" then some (.ref it) else none) → Heap.SameBut s₄.heap.objs.size (s₄.heap.push { cls := .type "frame", data := .dict #[] }) h' →
          Q' (.ref h'.objs.size) { s₄ with
            gens := s₄.gens.push (.fresh (.compStart (.GeneratorExp elt [⟨tg, iter, [], 0⟩] scope gpos) 0 (.ref it) .none (genEnv scope (cloFrom X.env.cells scope.names []) s₄.heap.objs.size code bi X.env))),
            toks := s₄.toks + 1 + 1 + 1,
            heap := h'.push { cls := .type "generator", data := .fields #[.int s₄.gens.size 0, .str "<genexpr>" (s₄.toks + 1), .str (X.env.qual ++ "<genexpr>") (s₄.toks + 1 + 1)] } }) X.xe { s2 with heap := h3, toks := tk } := by
    rintro code h3 tk ps' hx hsz hP3 ⟨more, rfl⟩ ht3
    obtain ⟨bm, ob, e1, e2, e3, e4, e5, e6, e7, e8⟩ := TB.bm
    have keep3 : ∀ b u, b ≠ P → s2.heap.get? b = some u → h3.get? b = some u := fun b u hb e => hx b u hb e
    have J4 : Inv X pins σ (upd H2 P (.tbl (ps ++ more))) { s2 with heap := h3, toks := tk } := inv_tab (g' := s2.gens) (d' := s2.drawn) I2 hP keep3 hP3 I2.bare
    refine wpAny_builtinsFor (m := X.mg) (by rw [I2.ok.glob]; exact (I2.mod.glob.keeps I2.bk).extBut hx TB.gP) e1 e2 (keep3 _ _ e4 (I2.bk _ _ e5)) e6 e7 e8 ?_
    intro h' hn' hs'
    have hsz' : h'.objs.size = h3.objs.size + 1 := by rw [hs'.1, Heap.size_push]
    have keep' : ∀ b o, h3.get? b = some o → h'.get? b = some o := fun b o e => hs'.extBut b o (Nat.ne_of_lt (Heap.lt_size e)) (Heap.get?_push_of_some _ e)
    generalize hgo : ({ cls := .type "generator", data := .fields #[.int s2.gens.size 0, .str "<genexpr>" (tk + 1), .str (X.env.qual ++ "<genexpr>") (tk + 1 + 1)] } : Obj) = go
    have keep5 : ∀ b o, h3.get? b = some o → (h'.push go).get? b = some o := fun b o e => Heap.get?_push_of_some _ (keep' b o e)
    have hat : (h'.push go).get? h'.objs.size = some go := Heap.get?_push_size _ (by rw [← hgo]; rfl)
    have hgen : ∀ hh : Heap, hh.get? h'.objs.size = some go → hh.IsGen h'.objs.size s2.gens.size := fun hh e => ⟨go, _, _, e, by rw [← hgo], by rw [← hgo], by rw [← hgo]⟩
    have hTab : Tabbed P H2 (upd H2 P (.tbl (ps ++ more))) := ⟨⟨ps ++ more, upd_same, ht3⟩, fun b hb => upd_ne hb⟩
    obtain ⟨W, ⟨m0, w0⟩, turn⟩ := q _ hTab
    have f4 : ∀ b ∈ fp, FpOk X pins (upd H2 P (.tbl (ps ++ more))) b ∧ b < h3.objs.size := fun b hb => ⟨⟨by rw [upd_ne (nP b hb)]; exact (f2 b hb).1, (f2 b hb).2⟩, Nat.lt_of_lt_of_le (sz b hb) hsz⟩
    have st5 : tn 0 (h'.push go) := T.keep _ _ _ st2 fun b hb o e => keep5 b o (keep3 b o (nP b hb) e)
    refine hQ h'.objs.size s2.gens.size (m0 + 1) _ ⟨hgen _ hat, J4.nolimit.keeps keep5, I2.bare.push rfl, _, Array.getElem?_push_size .., fun s'' eh eo hb => ⟨rfl, ?_⟩⟩
    have hB : X.A.in1.in1.handled = none := hr.hd
    have J5 := gen_start (code := code) (A := X.A.in1.in1.deeper (gEnv X scope h3.objs.size code)) (h5 := h'.push go) (tk := tk + 1 + 1 + 1) (gs := s2.gens.push (.fresh (.compStart (.GeneratorExp elt [⟨tg, iter, [], 0⟩] scope gpos) 0 (.ref it) .none (gEnv X scope h3.objs.size code)))) (a := h'.objs.size) (go := go) J4 ok hN hcell f4 hB
      (Around.frames_deeper (show X.A.in1.in1.frames = some X.stack from I2.ok.frames)) keep5 (hn'.push _) hat (show h3.objs.size < h'.objs.size by omega) (fun v z => by rw [← hgo] at z; cases z) (I2.bare.push rfl)
    have J6 : Inv _ [] _ _ s'' := J5.call' (ch := []) eo (Un.kept fun b o e => by rw [eh]; exact e) (J5.hok.kept fun b o e => by rw [eh]; exact e) hb (fun b z => absurd z (by simp))
    have hrB : Room k (X.A.in1.in1.deeper (gEnv X scope h3.objs.size code)) := ⟨hr.hd, by have := hr.dp; show X.A.depth + 1 + 3 * k + 5 < _; omega, by have := hr.un; show X.A.units + 1 + 1 + 3 + 16 * k + 200 < _; omega⟩
    have loop := gen_loop (iter := iter) (scope := scope) (pos := gpos) (B := X.A.in1.in1) (stop := stop) (Q := Q) (vs := own.map (·.2)) hc J4 f4 T hgen (show (gEnv X scope h3.objs.size code).scope.isCoroutine = false from hco) (show h3.objs.size ≤ h'.objs.size by omega) (hg _ _ _ _ _ _ _) (he _ _ _ _ _ _ _ hrB) turn (m0 + 1) 0 m0 s'' s'' _ (Nat.lt_succ_self _) J6 (by rw [eh]; exact st5) (fun b hb => (f4 b hb).1.1) w0
    show Seg _ X.A.in1.in1 _ _ _ s'' _ ((compStart (.GeneratorExp elt [⟨tg, iter, [], 0⟩] scope gpos) 0 (.ref it) .none (gEnv X scope h3.objs.size code)).onRaise (leaving (gEnv X scope h3.objs.size code))) [] s''
    unfold compStart
    rw [Sem.onRaise_eq_wrap]
    show Seg _ X.A.in1.in1 _ _ _ s'' _ ((ask >>= _).wrap _ _ _ _) [] s''
    refine seg_bind_wrap (wpAny_askSetting ?_)
    have stS : tn 0 s''.heap := by rw [eh]; exact st5
    split
    · exact seg_again rfl loop
    · first
        | exact seg_bind_wrap (wpAny_rule (seg_bind_wrap (wpAny_standAt (seg_bind_wrap (T.self _ 0 s'' _ _ stS (seg_again rfl loop))))))
        | (refine seg_bind_wrap (wpAny_rule ?_); show Seg _ X.A.in1.in1 _ _ _ s'' _ ((standAt iter.pos >>= _).wrap _ _ _ _) [] s''; exact seg_bind_wrap (wpAny_standAt (seg_bind_wrap (T.self _ 0 s'' _ _ stS (seg_again rfl loop)))))
  refine ⟨I2.nolimit, ?_⟩
  cases hf : codeAmong gpos ps.toList with
  | none =>
    refine wpAny_genexprCodeX hcode (cd.code hPs htr) (cd.tab hPs) hf fun c' h' tk hx hge hlt hco' _ htab' _ => ?_
    obtain ⟨o1, vs, f1, tf, fl, tg, inF, tx, tt, op, _, _, _, _, _, _, _, _, _, htr', _⟩ := hco'
    exact cont _ h' tk _ hx (Nat.le_trans hge (Nat.le_of_lt hlt)) htab'.2 ⟨_, rfl⟩ htr'
  | some cv =>
    refine wpAny_genexprCode_hit hcode (cd.code hPs htr) hf ?_
    exact cont cv s2.heap s2.toks ps (Heap.ExtBut.refl _ _) (Nat.le_refl _) hPs ⟨#[], by simp⟩ htr
end
end Gx
set_option Elab.async false
set_option linter.all false
set_option maxRecDepth 100000
set_option maxHeartbeats 4000000
namespace Gx
open PySem PySem.Spec PyProof.Rows L2 GxR GenW
/-- all(e for x in xs): the reading -/
def tGx (stop : Bool) (P : Addr) (wi : TI) (gt : TG) (te : TE) (vs : List Nat) : TE := fun σ H Q => wi σ H (gTurns stop P gt te vs σ Q)
section
variable {X : Cx}
theorem pe_allG {c P : Addr} {elt tg iter : Expr} {scope : Scope} {own : List (Str × Nat)} {gpos p pos : Pos} {wi : TI} {gt : TG} {te : TE} {k : Nat}
    (hc : X.calm = true) (hN : X.N.Nodup) (hr : Room (k + 1) X.A) (hg0 : Gl X "all") (hm : X.mg "all" = none) (TB : TabB X.base X.mg c P) (hcode : X.env.code = .ref c) (hi : PI X tg iter wi) (ok : BlkOk X.N X.env.scope scope own) (hcell : ∀ y ∈ scope.names, y.2 ≠ .cell)
    (hdot : scope.names.lookup (".0" : Str) = some NameKind.local) (hg : ∀ A s H C code fp pn, PG (gcx X A s H (gEnv X scope C code) fp pn) tg gt) (he : ∀ A s H C code fp pn, Room k A → PE (gcx X A s H (gEnv X scope C code) fp pn) elt te)
    (hs : ∀ v, genFold iter X.env v = pure v := by intro _; rfl) (hco : scope.isCoroutine = false := by rfl)
    (he0 : starEach [.GeneratorExp elt [⟨tg, iter, [], 0⟩] scope gpos] X.env = (false, eval (.GeneratorExp elt [⟨tg, iter, [], 0⟩] scope gpos) X.env) :: starEach [] X.env := by rfl) :
    PE X (.Call (.Name "all" p) [.GeneratorExp elt [⟨tg, iter, [], 0⟩] scope gpos] [] pos) (tGx false P wi gt te (own.map (·.2))) := by
  refine ⟨fun pins s σ H Q I h => ?_⟩
  refine wpAny_Call_Name_kw (ld_blt I hg0 hm (show bootBuiltins "all" = some (.builtin "all") by decide +kernel) ?_)
  refine PyProof.Rows.callWith_builtin1 ?_ he0 (by rfl)
  rw [he0]
  show wpAny _ _ (spliced ((false, eval (.GeneratorExp elt [⟨tg, iter, [], 0⟩] scope gpos) X.env) :: backTo pos (starEach [] X.env))) _ _ s
  refine Calls.spliced_cons (gen_make (stop := false) (Q := Q) hc hN hr TB hcode ok hcell hdot hco hi hg he hs I h fun a g n s5 hG => ?_)
  refine Calls.spliced_nil ?_
  refine call_function_tree F.kind_all F.plain_all F.entry_all (F.args_all1 _) ?_
  unfold Builtin.«all»
  refine wpAny_bind (m := oneArg "all" _) (wpAny_pure ?_)
  obtain ⟨hg1, hl1, hb1, hrest⟩ := hG
  refine wpAny_bind ?_
  refine wpAny_pyIter_gen hg1 ?_
  exact wpAny_pure ⟨plainId_quiet F.plain_all_loop _, all_loop hr.hd hr.depth (fun u s' z => z) n s5 ⟨hg1, hl1, hb1, hrest⟩⟩
theorem pe_anyG {c P : Addr} {elt tg iter : Expr} {scope : Scope} {own : List (Str × Nat)} {gpos p pos : Pos} {wi : TI} {gt : TG} {te : TE} {k : Nat}
    (hc : X.calm = true) (hN : X.N.Nodup) (hr : Room (k + 1) X.A) (hg0 : Gl X "any") (hm : X.mg "any" = none) (TB : TabB X.base X.mg c P) (hcode : X.env.code = .ref c) (hi : PI X tg iter wi) (ok : BlkOk X.N X.env.scope scope own) (hcell : ∀ y ∈ scope.names, y.2 ≠ .cell)
    (hdot : scope.names.lookup (".0" : Str) = some NameKind.local) (hg : ∀ A s H C code fp pn, PG (gcx X A s H (gEnv X scope C code) fp pn) tg gt) (he : ∀ A s H C code fp pn, Room k A → PE (gcx X A s H (gEnv X scope C code) fp pn) elt te)
    (hs : ∀ v, genFold iter X.env v = pure v := by intro _; rfl) (hco : scope.isCoroutine = false := by rfl)
    (he0 : starEach [.GeneratorExp elt [⟨tg, iter, [], 0⟩] scope gpos] X.env = (false, eval (.GeneratorExp elt [⟨tg, iter, [], 0⟩] scope gpos) X.env) :: starEach [] X.env := by rfl) :
    PE X (.Call (.Name "any" p) [.GeneratorExp elt [⟨tg, iter, [], 0⟩] scope gpos] [] pos) (tGx true P wi gt te (own.map (·.2))) := by
  refine ⟨fun pins s σ H Q I h => ?_⟩
  refine wpAny_Call_Name_kw (ld_blt I hg0 hm (show bootBuiltins "any" = some (.builtin "any") by decide +kernel) ?_)
  refine PyProof.Rows.callWith_builtin1 ?_ he0 (by rfl)
  rw [he0]
  show wpAny _ _ (spliced ((false, eval (.GeneratorExp elt [⟨tg, iter, [], 0⟩] scope gpos) X.env) :: backTo pos (starEach [] X.env))) _ _ s
  refine Calls.spliced_cons (gen_make (stop := true) (Q := Q) hc hN hr TB hcode ok hcell hdot hco hi hg he hs I h fun a g n s5 hG => ?_)
  refine Calls.spliced_nil ?_
  refine call_function_tree F.kind_any F.plain_any F.entry_any (F.args_any1 _) ?_
  unfold Builtin.«any»
  refine wpAny_bind (m := oneArg "any" _) (wpAny_pure ?_)
  obtain ⟨hg1, hl1, hb1, hrest⟩ := hG
  refine wpAny_bind ?_
  refine wpAny_pyIter_gen hg1 ?_
  exact wpAny_pure ⟨plainId_quiet F.plain_any_loop _, any_loop hr.hd hr.depth (fun u s' z => z) n s5 ⟨hg1, hl1, hb1, hrest⟩⟩
end
end Gx
set_option Elab.async false
set_option linter.all false
set_option maxRecDepth 100000
set_option maxHeartbeats 4000000
namespace Gx
open PySem PySem.Spec PyProof.Rows L2 GxR Evl
/-! a def whose code object is known -/
structure FunC (K : PySem.W.Frag) (x qual : Str) (st : Stmt) (f : Addr) (fd : FuncData) (c : Addr) : Prop where
  fc : ∃ (oc : Value) (od : Option Addr) (kV doc pm : Value) (an : Option Addr) (ct : Value) (osl : Array (Option Value)), fd = PySem.W.fnOf x qual (defArgs st) (defBody st) (defScope st) .none kV doc pm an (.ref c) ct ∧ K.lookup f = some ⟨oc, od, .func fd, osl⟩ ∧ PySem.W.codeIn K (.ref c) qual = true
  kp : PySem.W.keepIn K (.ref f) = true
section
variable {P : Program} {w : World} {K : PySem.W.Frag} {mg : Str → Option Value} {base : Heap}
theorem FunC.okC {x qual : Str} {st : Stmt} {f c : Addr} {fd : FuncData} {N ps : List Str} {k : Nat} {sp : Sp} (F : FunC K x qual st f fd c) (S : FnScope N ps (defScope st)) (len : ∀ vs H Q E, sp vs H Q E → vs.length = ps.length)
    (body : ∀ (A : Around) (outer : List Env) (s : Shared) (H : Hp) (vs : List V) (Q : VK) (E : XK), Room k (A.deeper (envOfC qual (defScope st) s.heap.objs.size f (.ref c))) → sp vs H Q E →
      ∃ t, PSs (cxOf CX0 P w K mg base N qual (defScope st) f (.ref c) A outer s H E).nox (defBody st) t ∧ t { nx := fun _ H' => Q .non H', rt := Q } (start N vs) H) : FnOk P w K mg base CX0 (k + 1) f fd ps sp := by
  obtain ⟨_, _, _, _, _, _, _, _, rfl, h1, h2⟩ := F.fc
  refine fn_of h1 h2 S len fun A outer s H vs Q E hr h => ?_
  obtain ⟨t, a, b⟩ := body A outer s H vs Q E hr h
  exact ⟨t, a.nox, b⟩
theorem FunC.toFun {x qual : Str} {st : Stmt} {f c : Addr} {fd : FuncData} (F : FunC K x qual st f fd c) : Fun K x qual st f fd := by
  obtain ⟨oc, od, kV, doc, pm, an, ct, osl, e, h1, h2⟩ := F.fc
  exact ⟨⟨oc, od, kV, doc, pm, an, _, ct, osl, e, h1, h2⟩, F.kp⟩
end
/-! heaps in which tables grow -/
/-- all that was tracked is as it was, but tables of code objects may have grown -/
structure ET (H H' : Hp) : Prop where
  obj : ∀ b o, H b = some o → (∃ ps, o = .tbl ps) ∨ H' b = some o
  tab : ∀ P, TabG H P → TabG H' P
theorem ET.refl (H : Hp) : ET H H := ⟨fun _ _ h => .inr h, fun _ h => h⟩
theorem ET.trans {H H1 H2 : Hp} (a : ET H H1) (b : ET H1 H2) : ET H H2 := ⟨fun c o h => (a.obj c o h).elim .inl fun z => b.obj c o z, fun P h => b.tab P (a.tab P h)⟩
theorem ET.of {H H' : Hp} (e : Ex H H') : ET H H' := ⟨fun b o h => .inr (e b o h), fun P ⟨ps, h, t⟩ => ⟨ps, e _ _ h, t⟩⟩
theorem ET.grown {P : Addr} {H H' : Hp} (h : TabG H P) (t : Tabbed P H H') : ET H H' := by
  refine ⟨fun b o e => ?_, fun R hR => ?_⟩
  · by_cases hb : b = P
    · obtain ⟨ps, hp, _⟩ := h
      rw [hb, hp] at e
      exact .inl ⟨ps, (Option.some.inj e).symm⟩
    · exact .inr (by rw [t.2 b hb]; exact e)
  · by_cases hb : R = P
    · rw [hb]
      exact t.1
    · obtain ⟨ps, hp, z⟩ := hR
      exact ⟨ps, by rw [t.2 R hb]; exact hp, z⟩
theorem ET.lst {H H' : Hp} (e : ET H H') {a : Addr} {xs : List V} (h : H a = some (.lst xs)) : H' a = some (.lst xs) := (e.obj _ _ h).elim (fun ⟨_, z⟩ => by cases z) id
theorem ET.tup {H H' : Hp} (e : ET H H') {a : Addr} {xs : List V} (h : H a = some (.tup xs)) : H' a = some (.tup xs) := (e.obj _ _ h).elim (fun ⟨_, z⟩ => by cases z) id
/-! the readings of all(..), any(..) by the walked thing -/
section
variable {K : PySem.W.Frag} {P a : Addr} {gt : TG} {te : TE} {vs : List Nat} {σ : L2.St} {Q : VK} {H1 : Hp} {stop : Bool}
theorem gx_by {J : It} {n : Nat} (hT : TabG H1 P) (Pv : Nat → Hp → Prop) (h0 : ∀ H2, Tabbed P H1 H2 → Pv 0 H2) (hstop : ∀ H, Pv n H → J.stop n H) (hgo : ∀ i H, i < n → Pv i H → J.go i H)
    (hs : ∀ i x H H' (N : Hp → Prop), (∀ H3, Pv (i + 1) H3 → N H3) → i < n → Pv i H → J.yld i H x H' → gt x (wipe σ vs) H' fun σ2 H2 => wipe σ2 vs = wipe σ vs ∧ te σ2 H2 fun y H3 => ∃ b, y = .bl b ∧ if b = stop then Q (.bl stop) H3 else N H3)
    (hd : ∀ H, Pv n H → Q (.bl (!stop)) H) : gTurns stop P gt te vs σ Q J H1 := by
  refine ⟨hT, fun H2 t => ⟨fun i m H => i + m = n ∧ Pv i H, ⟨n, Nat.zero_add _, h0 H2 t⟩, ?_⟩⟩
  rintro i m H ⟨e, p⟩
  cases m with
  | zero =>
    have e' : i = n := by omega
    subst e'
    exact .inl ⟨hstop H p, hd H p⟩
  | succ m => exact .inr ⟨hgo i H (by omega) p, fun x H' y => hs i x H H' _ (fun H3 q => ⟨m, Nat.lt_succ_self _, by omega, q⟩) (by omega) p y⟩
theorem gx_tup {xs : List V} (hT : TabG H1 P) (Pv : Nat → Hp → Prop) (h0 : ∀ H2, Tabbed P H1 H2 → Pv 0 H2) (hl : ∀ i H, Pv i H → SqT K H a xs)
    (hs : ∀ i x H (N : Hp → Prop), (∀ H3, Pv (i + 1) H3 → N H3) → xs[i]? = some x → Pv i H → gt x (wipe σ vs) H fun σ2 H2 => wipe σ2 vs = wipe σ vs ∧ te σ2 H2 fun y H3 => ∃ b, y = .bl b ∧ if b = stop then Q (.bl stop) H3 else N H3)
    (hd : ∀ H, Pv xs.length H → Q (.bl (!stop)) H) : gTurns stop P gt te vs σ Q (Itt K a) H1 :=
  gx_by hT Pv h0 (fun H p => ⟨xs, hl _ H p, Nat.le_refl _⟩) (fun i H hi p => ⟨xs, xs[i], hl _ H p, List.getElem?_eq_getElem hi⟩) (fun i x H H' N hN hi p y => by
    obtain ⟨rfl, f⟩ := y
    exact hs i x _ N hN (f xs (hl _ _ p)) p) hd
theorem gx_list {xs : List V} (hT : TabG H1 P) (Pv : Nat → Hp → Prop) (h0 : ∀ H2, Tabbed P H1 H2 → Pv 0 H2) (hl : ∀ i H, Pv i H → SqL K H a xs)
    (hs : ∀ i x H (N : Hp → Prop), (∀ H3, Pv (i + 1) H3 → N H3) → xs[i]? = some x → Pv i H → gt x (wipe σ vs) H fun σ2 H2 => wipe σ2 vs = wipe σ vs ∧ te σ2 H2 fun y H3 => ∃ b, y = .bl b ∧ if b = stop then Q (.bl stop) H3 else N H3)
    (hd : ∀ H, Pv xs.length H → Q (.bl (!stop)) H) : gTurns stop P gt te vs σ Q (Itl K a) H1 :=
  gx_by hT Pv h0 (fun H p => ⟨xs, hl _ H p, Nat.le_refl _⟩) (fun i H hi p => ⟨xs, xs[i], hl _ H p, List.getElem?_eq_getElem hi⟩) (fun i x H H' N hN hi p y => by
    obtain ⟨rfl, f⟩ := y
    exact hs i x _ N hN (f xs (hl _ _ p)) p) hd
theorem gx_str {z : Str} (hT : TabG H1 P) (Pv : Nat → Hp → Prop) (h0 : ∀ H2, Tabbed P H1 H2 → Pv 0 H2)
    (hs : ∀ i c H (N : Hp → Prop), (∀ H3, Pv (i + 1) H3 → N H3) → z.cps.toList[i]? = some c → Pv i H → gt (.str ⟨#[c]⟩) (wipe σ vs) H fun σ2 H2 => wipe σ2 vs = wipe σ vs ∧ te σ2 H2 fun y H3 => ∃ b, y = .bl b ∧ if b = stop then Q (.bl stop) H3 else N H3)
    (hd : ∀ H, Pv z.cps.size H → Q (.bl (!stop)) H) : gTurns stop P gt te vs σ Q (Its z) H1 :=
  gx_by hT Pv h0 (fun H p => Nat.le_refl _) (fun i H hi p => hi) (fun i x H H' N hN hi p y => by
    obtain ⟨rfl, c, hc, rfl⟩ := y
    exact hs i c _ N hN (by rw [Array.getElem?_toList]; exact hc) p) hd
theorem gx_range {lo : Int} {n : Nat} (hT : TabG H1 P) (Pv : Nat → Hp → Prop) (h0 : ∀ H2, Tabbed P H1 H2 → Pv 0 H2)
    (hs : ∀ i H (N : Hp → Prop), (∀ H3, Pv (i + 1) H3 → N H3) → i < n → Pv i H → gt (.int (lo + (i : Int))) (wipe σ vs) H fun σ2 H2 => wipe σ2 vs = wipe σ vs ∧ te σ2 H2 fun y H3 => ∃ b, y = .bl b ∧ if b = stop then Q (.bl stop) H3 else N H3)
    (hd : ∀ H, Pv n H → Q (.bl (!stop)) H) : gTurns stop P gt te vs σ Q (Itr lo n) H1 :=
  gx_by hT Pv h0 (fun H p => Nat.le_refl _) (fun i H hi p => hi) (fun i x H H' N hN hi p y => by
    obtain ⟨rfl, rfl⟩ := y
    exact hs i _ N hN hi p) hd
end
end Gx
set_option Elab.async false
set_option linter.all false
set_option maxRecDepth 100000
set_option maxHeartbeats 4000000
namespace Dl
open PySem PySem.Spec PyProof.Rows L2 Evl Gx GxR
/-! values as data: what a value stands for, which objects are one's own -/
def kd : Key → PyData
  | .inl i => .int i
  | .inr x => .str x
def isOwn : HO → Bool
  | .lst _ => true
  | .dK _ => true
  | .dT _ => true
  | _ => false
mutual
/-- v stands for data; no list or dict of it is in Y -/
inductive Sh (K : PySem.W.Frag) (Y : Addr → Prop) (H : Hp) : V → PyData → Prop
  | non : Sh K Y H .non .none
  | bl (b : Bool) : Sh K Y H (.bl b) (.bool b)
  | int (i : Int) : Sh K Y H (.int i) (.int i)
  | str (x : Str) : Sh K Y H (.str x) (.str x)
  | lst {a : Addr} {xs : List V} {ds : List PyData} : ¬ Y a → H a = some (.lst xs) → ShA K Y H xs ds → Sh K Y H (.ref a) (.list ds)
  | tup {a : Addr} {xs : List V} {ds : List PyData} : H a = some (.tup xs) → ShA K Y H xs ds → Sh K Y H (.ref a) (.tuple ds)
  | dK {a : Addr} {kvs : List (Key × V)} {es : List (PyData × PyData)} : ¬ Y a → H a = some (.dK kvs) → ShK K Y H kvs es → Sh K Y H (.ref a) (.dict es)
  | dT {a : Addr} {kvs : List (List Key × V)} {es : List (PyData × PyData)} : ¬ Y a → H a = some (.dT kvs) → ShT K Y H kvs es → Sh K Y H (.ref a) (.dict ((.none, .none) :: es))
inductive ShA (K : PySem.W.Frag) (Y : Addr → Prop) (H : Hp) : List V → List PyData → Prop
  | nil : ShA K Y H [] []
  | cons {v : V} {vs : List V} {d : PyData} {ds : List PyData} : Sh K Y H v d → ShA K Y H vs ds → ShA K Y H (v :: vs) (d :: ds)
inductive ShK (K : PySem.W.Frag) (Y : Addr → Prop) (H : Hp) : List (Key × V) → List (PyData × PyData) → Prop
  | nil : ShK K Y H [] []
  | cons {k : Key} {v : V} {r : List (Key × V)} {d : PyData} {es : List (PyData × PyData)} : Sh K Y H v d → ShK K Y H r es → ShK K Y H ((k, v) :: r) ((kd k, d) :: es)
inductive ShT (K : PySem.W.Frag) (Y : Addr → Prop) (H : Hp) : List (List Key × V) → List (PyData × PyData) → Prop
  | nil : ShT K Y H [] []
  | cons {k : List Key} {v : V} {r : List (List Key × V)} {d : PyData} {es : List (PyData × PyData)} : Sh K Y H v d → ShT K Y H r es → ShT K Y H ((k, v) :: r) ((.tuple (k.map kd), d) :: es)
end
/-- the top object at a, its items data -/
inductive Top (K : PySem.W.Frag) (Y : Addr → Prop) (H : Hp) (a : Addr) : PyData → Prop
  | lst {xs : List V} {ds : List PyData} : H a = some (.lst xs) → ShA K Y H xs ds → Top K Y H a (.list ds)
  | dK {kvs : List (Key × V)} {es : List (PyData × PyData)} : H a = some (.dK kvs) → ShK K Y H kvs es → Top K Y H a (.dict es)
  | dT {kvs : List (List Key × V)} {es : List (PyData × PyData)} : H a = some (.dT kvs) → ShT K Y H kvs es → Top K Y H a (.dict ((.none, .none) :: es))
/-- to be read -/
def Bo (K : PySem.W.Frag) (Y : Addr → Prop) (H : Hp) (v : V) (d : PyData) : Prop := Sh K Y H v d ∨ ∃ a, v = .ref a ∧ Top K Y H a d
section
variable {K : PySem.W.Frag} {Y Y' : Addr → Prop} {H H' : Hp}
/-- what a change must keep -/
structure Mv (Y Y' : Addr → Prop) (H H' : Hp) : Prop where
  k : ∀ a o, H a = some o → (Y a ∧ isOwn o = true) ∨ (∃ ps, o = .tbl ps) ∨ H' a = some o
  y : ∀ a, H a ≠ none → Y' a → Y a
theorem Mv.own {a : Addr} {o : HO} (m : Mv Y Y' H H') (n : ¬ Y a) (h : H a = some o) (ho : isOwn o = true) : ¬ Y' a ∧ H' a = some o := by
  refine ⟨fun z => n (m.y a (by rw [h]; simp) z), ?_⟩
  rcases m.k a o h with z | ⟨ps, z⟩ | z
  · exact (n z.1).elim
  · rw [z] at ho; cases ho
  · exact z
theorem Mv.tup {a : Addr} {xs : List V} (m : Mv Y Y' H H') (h : H a = some (.tup xs)) : H' a = some (.tup xs) := by
  rcases m.k a _ h with z | ⟨ps, z⟩ | z
  · cases z.2
  · cases z
  · exact z
mutual
theorem Sh.mv (m : Mv Y Y' H H') : ∀ {v : V} {d : PyData}, Sh K Y H v d → Sh K Y' H' v d
  | _, _, .non => .non
  | _, _, .bl b => .bl b
  | _, _, .int i => .int i
  | _, _, .str x => .str x
  | _, _, .lst n h t => .lst (m.own n h rfl).1 (m.own n h rfl).2 (ShA.mv m t)
  | _, _, .tup h t => .tup (m.tup h) (ShA.mv m t)
  | _, _, .dK n h t => .dK (m.own n h rfl).1 (m.own n h rfl).2 (ShK.mv m t)
  | _, _, .dT n h t => .dT (m.own n h rfl).1 (m.own n h rfl).2 (ShT.mv m t)
theorem ShA.mv (m : Mv Y Y' H H') : ∀ {vs : List V} {ds : List PyData}, ShA K Y H vs ds → ShA K Y' H' vs ds
  | _, _, .nil => .nil
  | _, _, .cons a b => .cons (Sh.mv m a) (ShA.mv m b)
theorem ShK.mv (m : Mv Y Y' H H') : ∀ {vs : List (Key × V)} {ds : List (PyData × PyData)}, ShK K Y H vs ds → ShK K Y' H' vs ds
  | _, _, .nil => .nil
  | _, _, .cons a b => .cons (Sh.mv m a) (ShK.mv m b)
theorem ShT.mv (m : Mv Y Y' H H') : ∀ {vs : List (List Key × V)} {ds : List (PyData × PyData)}, ShT K Y H vs ds → ShT K Y' H' vs ds
  | _, _, .nil => .nil
  | _, _, .cons a b => .cons (Sh.mv m a) (ShT.mv m b)
end
theorem Top.mv {a : Addr} {d : PyData} (m : Mv Y Y' H H') (h : Top K Y H a d) (e : ∀ o, H a = some o → isOwn o = true → H' a = some o) : Top K Y' H' a d := by
  cases h with
  | lst h t => exact .lst (e _ h rfl) (t.mv m)
  | dK h t => exact .dK (e _ h rfl) (t.mv m)
  | dT h t => exact .dT (e _ h rfl) (t.mv m)
theorem Top.some {a : Addr} {d : PyData} (h : Top K Y H a d) : ∃ o, H a = some o ∧ isOwn o = true := by
  cases h with
  | lst h t => exact ⟨_, h, rfl⟩
  | dK h t => exact ⟨_, h, rfl⟩
  | dT h t => exact ⟨_, h, rfl⟩
theorem Top.sh {a : Addr} {d : PyData} (h : Top K Y H a d) (n : ¬ Y a) : Sh K Y H (.ref a) d := by
  cases h with
  | lst h t => exact .lst n h t
  | dK h t => exact .dK n h t
  | dT h t => exact .dT n h t
theorem Top.yless {a : Addr} {d : PyData} (h : Top K Y H a d) (y : ∀ b, H b ≠ none → Y' b → Y b) : Top K Y' H a d := h.mv (H' := H) ⟨fun _ _ h => .inr (.inr h), y⟩ fun _ h _ => h
theorem Sh.yless {v : V} {d : PyData} (h : Sh K Y H v d) (y : ∀ b, H b ≠ none → Y' b → Y b) : Sh K Y' H v d := h.mv (H' := H) ⟨fun _ _ h => .inr (.inr h), y⟩
theorem ShA.len : ∀ {vs : List V} {ds : List PyData}, ShA K Y H vs ds → vs.length = ds.length
  | _, _, .nil => rfl
  | _, _, .cons _ b => congrArg (· + 1) (ShA.len b)
theorem ShA.get : ∀ {vs : List V} {ds : List PyData}, ShA K Y H vs ds → ∀ {i : Nat} {d : PyData}, ds[i]? = some d → ∃ v, vs[i]? = some v ∧ Sh K Y H v d
  | _, _, .cons a b, 0, d, h => by
    cases h
    exact ⟨_, rfl, a⟩
  | _, _, .cons a b, i + 1, d, h => ShA.get b (i := i) h
theorem ShA.get' : ∀ {vs : List V} {ds : List PyData}, ShA K Y H vs ds → ∀ {i : Nat} {v : V}, vs[i]? = some v → ∃ d, ds[i]? = some d ∧ Sh K Y H v d
  | _, _, .cons a b, 0, v, h => by
    cases h
    exact ⟨_, rfl, a⟩
  | _, _, .cons a b, i + 1, v, h => ShA.get' b (i := i) h
theorem ShA.app : ∀ {vs ws : List V} {ds es : List PyData}, ShA K Y H vs ds → ShA K Y H ws es → ShA K Y H (vs ++ ws) (ds ++ es)
  | _, _, _, _, .nil, h => h
  | _, _, _, _, .cons a b, h => .cons a (ShA.app b h)
theorem ShA.snoc {vs : List V} {ds : List PyData} {v : V} {d : PyData} (h : ShA K Y H vs ds) (a : Sh K Y H v d) : ShA K Y H (vs ++ [v]) (ds ++ [d]) := h.app (.cons a .nil)
theorem ShA.take : ∀ {vs : List V} {ds : List PyData} (n : Nat), ShA K Y H vs ds → ShA K Y H (vs.take n) (ds.take n)
  | _, _, 0, _ => .nil
  | _, _, _ + 1, .nil => .nil
  | _, _, n + 1, .cons a b => .cons a (ShA.take n b)
theorem ShA.drop : ∀ {vs : List V} {ds : List PyData} (n : Nat), ShA K Y H vs ds → ShA K Y H (vs.drop n) (ds.drop n)
  | _, _, 0, h => h
  | _, _, _ + 1, .nil => .nil
  | _, _, n + 1, .cons _ b => ShA.drop n b
theorem ShA.set : ∀ {vs : List V} {ds : List PyData} (i : Nat) {v : V} {d : PyData}, ShA K Y H vs ds → Sh K Y H v d → ShA K Y H (vs.set i v) (ds.set i d)
  | _, _, _, _, _, .nil, _ => .nil
  | _, _, 0, _, _, .cons _ b, h => .cons h b
  | _, _, i + 1, _, _, .cons a b, h => .cons a (ShA.set i b h)
theorem ShA.rev : ∀ {vs : List V} {ds : List PyData}, ShA K Y H vs ds → ShA K Y H vs.reverse ds.reverse
  | _, _, .nil => .nil
  | _, _, .cons a b => by
    rw [List.reverse_cons, List.reverse_cons]
    exact (ShA.rev b).snoc a
mutual
theorem Sh.dp : ∀ {v : V} {d : PyData}, Sh K Y H v d → d.canLay0 = true → Dp K H v d
  | _, _, .non, _ => .non
  | _, _, .bl b, _ => .bl b
  | _, _, .int i, _ => .int i
  | _, _, .str x, _ => .str x
  | _, _, .lst _ h t, c => .lst (sq_of h) (ShA.dp t (by simpa [PyData.canLay0] using c))
  | _, _, .tup h t, c => .tup (st_of h) (ShA.dp t (by simpa [PyData.canLay0] using c))
  | _, _, .dK _ _ _, c => by simp [PyData.canLay0] at c
  | _, _, .dT _ _ _, c => by simp [PyData.canLay0] at c
theorem ShA.dp : ∀ {vs : List V} {ds : List PyData}, ShA K Y H vs ds → PyData.canLayAll0 ds = true → DpAll K H vs ds
  | _, _, .nil, _ => .nil
  | _, _, .cons (d := d) (ds := ds) a b, c => by
    have c' : PyData.canLay0 d = true ∧ PyData.canLayAll0 ds = true := by simpa [PyData.canLayAll0] using c
    exact .cons (Sh.dp a c'.1) (ShA.dp b c'.2)
end
theorem Bo.dp {v : V} {d : PyData} (h : Bo K Y H v d) (c : d.canLay0 = true) : Dp K H v d := by
  rcases h with h | ⟨a, rfl, h⟩
  · exact h.dp c
  · cases h with
    | lst h t => exact .lst (sq_of h) (t.dp (by simpa [PyData.canLay0] using c))
    | dK h t => simp [PyData.canLay0] at c
    | dT h t => simp [PyData.canLay0] at c
end
/-! the state -/
inductive Slot where
  | shr (d : PyData)
  | own (d : PyData)
  | bor (k : Nat) (d : PyData)
  | io (k : Nat) (d : PyData)
abbrev DEnv := List (Option Slot)
def Slot.isO : Slot → Bool
  | .own _ => true
  | .io _ _ => true
  | _ => false
def Slot.d : Slot → PyData
  | .shr d => d
  | .own d => d
  | .bor _ d => d
  | .io _ d => d
/-- what stands still: the written part, the entry's arguments, the tables, the errors' classes -/
structure Cs where
  K : PySem.W.Frag
  A0 : List V
  TS : List Addr
  ca : Str → Addr
def SV (c : Cs) (O : List Addr) (Y : Addr → Prop) (H : Hp) (v : V) : Slot → Prop
  | .shr d => Sh c.K Y H v d
  | .own d => ∃ a, v = .ref a ∧ a ∈ O ∧ Top c.K Y H a d
  | .bor k d => ∃ a, v = .ref a ∧ a ∉ O ∧ Y a ∧ Top c.K Y H a d ∧ c.A0[k]? = some v
  | .io k d => ∃ a, v = .ref a ∧ a ∈ O ∧ Top c.K Y H a d ∧ c.A0[k]? = some v
def OwnAt (env : DEnv) (i : Nat) : Prop := ∃ s, env[i]? = some (some s) ∧ s.isO = true
structure SR (c : Cs) (O : List Addr) (Y : Addr → Prop) (σ : L2.St) (env : DEnv) (H : Hp) : Prop where
  sub : ∀ a ∈ O, Y a
  own : ∀ a ∈ O, ∃ o, H a = some o ∧ isOwn o = true
  yd : ∀ a, Y a → H a ≠ none
  len : env.length = σ.length
  sl : ∀ (i : Nat) (s : Slot), env[i]? = some (some s) → ∃ v, σ[i]? = some (some v) ∧ SV c O Y H v s
  ap : ∀ (i j : Nat) (a : Addr), i ≠ j → OwnAt env i → OwnAt env j → σ[i]? = some (some (.ref a)) → σ[j]? ≠ some (some (.ref a))
  tab : ∀ P ∈ c.TS, TabG H P
  a0 : ∀ a, V.ref a ∈ c.A0 → H a ≠ none
structure Step (O : List Addr) (Y : Addr → Prop) (H : Hp) (O' : List Addr) (Y' : Addr → Prop) (H' : Hp) : Prop where
  keep : ∀ a o, H a = some o → (a ∈ O ∧ isOwn o = true) ∨ (∃ ps, o = .tbl ps) ∨ H' a = some o
  dom : ∀ a, H a ≠ none → H' a ≠ none
  nO : ∀ a ∈ O', a ∈ O ∨ H a = none
  nY : ∀ a, H a ≠ none → Y' a → Y a
  kY : ∀ a, Y a → a ∈ O ∨ Y' a
  tab : ∀ P, TabG H P → TabG H' P
section
variable {c : Cs} {O O' O2 : List Addr} {Y Y' Y2 : Addr → Prop} {H H' H2 : Hp} {σ : L2.St} {env : DEnv}
theorem Step.refl : Step O Y H O Y H := ⟨fun _ _ h => .inr (.inr h), fun _ h => h, fun _ h => .inl h, fun _ _ h => h, fun _ h => .inr h, fun _ h => h⟩
theorem Step.trans (yd : ∀ a, Y a → H a ≠ none) (a : Step O Y H O' Y' H') (b : Step O' Y' H' O2 Y2 H2) : Step O Y H O2 Y2 H2 := by
  refine ⟨fun x o h => ?_, fun x h => b.dom x (a.dom x h), fun x h => ?_, fun x h y => a.nY x h (b.nY x (a.dom x h) y), fun x y => ?_, fun P t => b.tab P (a.tab P t)⟩
  · rcases a.keep x o h with z | z | z
    · exact .inl z
    · exact .inr (.inl z)
    · rcases b.keep x o z with w | w | w
      · rcases a.nO x w.1 with q | q
        · exact .inl ⟨q, w.2⟩
        · rw [h] at q; cases q
      · exact .inr (.inl w)
      · exact .inr (.inr w)
  · rcases b.nO x h with z | z
    · exact a.nO x z
    · refine .inr ?_
      cases q : H x with
      | none => rfl
      | some o => exact (a.dom x (by rw [q]; simp) z).elim
  · rcases a.kY x y with z | z
    · exact .inl z
    · rcases b.kY x z with w | w
      · rcases a.nO x w with q | q
        · exact .inl q
        · exact (yd x y q).elim
      · exact .inr w
theorem SR.mv (sr : SR c O Y σ env H) (st : Step O Y H O' Y' H') : Mv Y Y' H H' :=
  ⟨fun a o h => (st.keep a o h).imp_left fun z => ⟨sr.sub a z.1, z.2⟩, st.nY⟩
/-- an extension is a step -/
theorem Step.ofEx (e : Ex H H') : Step O Y H O Y H' := ⟨fun a o h => .inr (.inr (e a o h)), fun a h z => (by
  cases q : H a with
  | none => exact h q
  | some o => exact absurd ((e a o q).symm.trans z) (by simp)), fun _ h => .inl h, fun _ _ h => h, fun _ h => .inr h, fun P ⟨ps, h, t⟩ => ⟨ps, e _ _ h, t⟩⟩
theorem Step.ofTab {P : Addr} (g : TabG H P) (t : Tabbed P H H') : Step O Y H O Y H' := by
  have e := ET.grown g t
  refine ⟨fun a o h => .inr (e.obj a o h), fun a h z => ?_, fun _ h => .inl h, fun _ _ h => h, fun _ h => .inr h, e.tab⟩
  by_cases q : a = P
  · obtain ⟨ps, hp, _⟩ := t.1
    rw [q, hp] at z
    cases z
  · rw [t.2 a q] at z
    exact h z
/-- the state behind a step that changes none of one's own -/
theorem SR.quiet (sr : SR c O Y σ env H) (st : Step O Y H O Y H') (q : ∀ a ∈ O, H' a = H a) : SR c O Y σ env H' := by
  have m := sr.mv st
  have tk : ∀ {a : Addr} {o : HO}, H a = some o → isOwn o = true → H' a = some o := fun {a o} h ho => by
    rcases st.keep a o h with z | ⟨ps, z⟩ | z
    · rw [q a z.1]; exact h
    · rw [z] at ho; cases ho
    · exact z
  refine ⟨sr.sub, fun a ha => ?_, fun a y => st.dom a (sr.yd a y), sr.len, fun i s e => ?_, sr.ap, fun P hP => st.tab P (sr.tab P hP), fun a h => st.dom a (sr.a0 a h)⟩
  · rw [q a ha]
    exact sr.own a ha
  · obtain ⟨v, hv, h⟩ := sr.sl i s e
    refine ⟨v, hv, ?_⟩
    cases s with
    | shr d => exact Sh.mv m h
    | own d =>
      obtain ⟨a, e1, e2, t⟩ := h
      exact ⟨a, e1, e2, t.mv m fun o h ho => tk h ho⟩
    | bor k d =>
      obtain ⟨a, e1, e2, e3, t, e4⟩ := h
      exact ⟨a, e1, e2, e3, t.mv m fun o h ho => tk h ho, e4⟩
    | io k d =>
      obtain ⟨a, e1, e2, t, e4⟩ := h
      exact ⟨a, e1, e2, t.mv m fun o h ho => tk h ho, e4⟩
theorem SR.ex (sr : SR c O Y σ env H) (e : Ex H H') : SR c O Y σ env H' := sr.quiet (.ofEx e) fun a ha => by
  obtain ⟨o, h, _⟩ := sr.own a ha
  rw [h, e a o h]
theorem SR.tabbed {P : Addr} (sr : SR c O Y σ env H) (hP : P ∈ c.TS) (t : Tabbed P H H') : SR c O Y σ env H' := sr.quiet (.ofTab (sr.tab P hP) t) fun a ha => by
  by_cases q : a = P
  · obtain ⟨o, h, ho⟩ := sr.own a ha
    obtain ⟨ps, hp, _⟩ := sr.tab P hP
    rw [q, hp] at h
    cases h
    cases ho
  · exact t.2 a q
/-- fewer slots known -/
theorem SR.less {env' : DEnv} (sr : SR c O Y σ env H) (hl : env'.length = env.length) (h : ∀ (i : Nat) (s : Slot), env'[i]? = some (some s) → env[i]? = some (some s)) : SR c O Y σ env' H :=
  ⟨sr.sub, sr.own, sr.yd, hl.trans sr.len, fun i s e => sr.sl i s (h i s e), fun i j a n h1 h2 => sr.ap i j a n (h1.imp fun s z => ⟨h i s z.1, z.2⟩) (h2.imp fun s z => ⟨h j s z.1, z.2⟩), sr.tab, sr.a0⟩
/-- other slots' values, where they are known -/
theorem SR.vals {σ' : L2.St} (sr : SR c O Y σ env H) (hl : σ'.length = σ.length) (h : ∀ (i : Nat) (s : Slot) (v : V), env[i]? = some (some s) → σ[i]? = some (some v) → σ'[i]? = some (some v)) : SR c O Y σ' env H := by
  refine ⟨sr.sub, sr.own, sr.yd, sr.len.trans hl.symm, fun i s e => ?_, fun i j a n h1 h2 e1 e2 => ?_, sr.tab, sr.a0⟩
  · obtain ⟨v, hv, q⟩ := sr.sl i s e
    exact ⟨v, h i s v e hv, q⟩
  · obtain ⟨s, z1, z2⟩ := h1
    obtain ⟨s', w1, w2⟩ := h2
    obtain ⟨v, hv, _⟩ := sr.sl i s z1
    obtain ⟨v', hv', _⟩ := sr.sl j s' w1
    have p1 := h i s v z1 hv
    have p2 := h j s' v' w1 hv'
    rw [e1] at p1
    rw [e2] at p2
    cases p1
    cases p2
    exact sr.ap i j a n ⟨s, z1, z2⟩ ⟨s', w1, w2⟩ hv hv'
/-- a slot takes a value that is data -/
theorem SR.setS {i : Nat} {v : V} {d : PyData} (sr : SR c O Y σ env H) (h : Sh c.K Y H v d) : SR c O Y (σ.set i (some v)) (env.set i (some (.shr d))) H := by
  refine ⟨sr.sub, sr.own, sr.yd, by simp [sr.len], fun j s e => ?_, fun j k a n h1 h2 e1 e2 => ?_, sr.tab, sr.a0⟩
  · by_cases q : i = j
    · subst q
      have hl : i < env.length := by
        have := (List.getElem?_eq_some_iff.mp e).1
        simpa using this
      rw [List.getElem?_set_self hl] at e
      cases e
      exact ⟨v, List.getElem?_set_self (by rw [← sr.len]; exact hl), h⟩
    · rw [List.getElem?_set_ne q] at e ⊢
      exact sr.sl j s e
  · have ne : ∀ {m : Nat}, OwnAt (env.set i (some (.shr d))) m → i ≠ m ∧ OwnAt env m := fun {m} ⟨s, z, w⟩ => by
      by_cases q : i = m
      · subst q
        have hl : i < env.length := by
          have := (List.getElem?_eq_some_iff.mp z).1
          simpa using this
        rw [List.getElem?_set_self hl] at z
        cases z
        cases w
      · rw [List.getElem?_set_ne q] at z
        exact ⟨q, s, z, w⟩
    obtain ⟨n1, o1⟩ := ne h1
    obtain ⟨n2, o2⟩ := ne h2
    rw [List.getElem?_set_ne n1] at e1
    rw [List.getElem?_set_ne n2] at e2
    exact sr.ap j k a n o1 o2 e1 e2
/-- no slot of one's own holds a -/
def Free (env : DEnv) (σ : L2.St) (a : Addr) : Prop := ∀ i : Nat, OwnAt env i → σ[i]? ≠ some (some (.ref a))
theorem SR.setO {i : Nat} {a : Addr} {d : PyData} (sr : SR c O Y σ env H) (ha : a ∈ O) (hf : Free env σ a) (h : Top c.K Y H a d) : SR c O Y (σ.set i (some (.ref a))) (env.set i (some (.own d))) H := by
  refine ⟨sr.sub, sr.own, sr.yd, by simp [sr.len], fun j s e => ?_, fun j k b n h1 h2 e1 e2 => ?_, sr.tab, sr.a0⟩
  · by_cases q : i = j
    · subst q
      have hl : i < env.length := by
        have := (List.getElem?_eq_some_iff.mp e).1
        simpa using this
      rw [List.getElem?_set_self hl] at e
      cases e
      exact ⟨.ref a, List.getElem?_set_self (by rw [← sr.len]; exact hl), a, rfl, ha, h⟩
    · rw [List.getElem?_set_ne q] at e ⊢
      exact sr.sl j s e
  · have ne : ∀ {m : Nat}, i ≠ m → OwnAt (env.set i (some (.own d))) m → OwnAt env m := fun {m} q ⟨s, z, w⟩ => by
      rw [List.getElem?_set_ne q] at z
      exact ⟨s, z, w⟩
    have at_ : ∀ {m : Nat} {b : Addr}, i = m → (σ.set i (some (.ref a)))[m]? = some (some (.ref b)) → a = b := fun {m b} q z => by
      subst q
      have hl : i < σ.length := by
        have := (List.getElem?_eq_some_iff.mp z).1
        simpa using this
      rw [List.getElem?_set_self hl] at z
      cases z
      rfl
    by_cases q1 : i = j
    · have q2 : i ≠ k := fun z => n (q1.symm.trans z)
      have := at_ q1 e1
      subst this
      rw [List.getElem?_set_ne q2] at e2
      exact hf k (ne q2 h2) e2
    · by_cases q2 : i = k
      · have := at_ q2 e2
        subst this
        rw [List.getElem?_set_ne q1] at e1
        exact hf j (ne q1 h1) e1
      · rw [List.getElem?_set_ne q1] at e1
        rw [List.getElem?_set_ne q2] at e2
        exact sr.ap j k b n (ne q1 h1) (ne q2 h2) e1 e2
end
end Dl
set_option Elab.async false
set_option linter.all false
set_option maxRecDepth 100000
set_option maxHeartbeats 4000000
namespace Dl
open PySem PySem.Spec PyProof.Rows L2 Evl Gx GxR
/-! what a piece of a program does to data -/
structure ExD where
  cls : Str
  val : Option (Str × Int)
inductive R (α : Type) where
  | ok (a : α) (env : DEnv)
  | exc (x : ExD) (env : DEnv)
  | bad
def R.bind {α β : Type} (r : R α) (k : α → DEnv → R β) : R β := match r with
  | .ok a e => k a e
  | .exc x e => .exc x e
  | .bad => .bad
@[simp] theorem R.ok_bind {α β : Type} (a : α) (e : DEnv) (k : α → DEnv → R β) : (R.ok a e).bind k = k a e := rfl
@[simp] theorem R.exc_bind {α β : Type} (x : ExD) (e : DEnv) (k : α → DEnv → R β) : (R.exc x e).bind k = .exc x e := rfl
@[simp] theorem R.bad_bind {α β : Type} (k : α → DEnv → R β) : (R.bad : R α).bind k = .bad := rfl
/-- an option, or stuck -/
def R.of {α : Type} (o : Option α) (e : DEnv) : R α := match o with
  | some a => .ok a e
  | none => .bad
@[simp] theorem R.of_some {α : Type} (a : α) (e : DEnv) : R.of (some a) e = .ok a e := rfl
@[simp] theorem R.of_none {α : Type} (e : DEnv) : R.of (none : Option α) e = .bad := rfl
def ExcAt (c : Cs) (x : ExD) (H : Hp) (cl : Value) (dd : Option Addr) : Prop := cl = .ref (c.ca x.cls) ∧ match x.val with
  | none => dd = none
  | some (f, n) => ∃ a, dd = some a ∧ H a = some (.xd [(f, .int n)])
abbrev RelT (α β : Type) := List Addr → (Addr → Prop) → L2.St → DEnv → Hp → β → α → Prop
def Post {α β : Type} (c : Cs) (Rel : RelT α β) (O : List Addr) (Y : Addr → Prop) (H : Hp) (σ : L2.St) (Q : β → Hp → Prop) (W : WX) : R α → Prop
  | .ok d env' => ∀ (b : β) (H' : Hp) (O' : List Addr) (Y' : Addr → Prop), Step O Y H O' Y' H' → SR c O' Y' σ env' H' → Rel O' Y' σ env' H' b d → Q b H'
  | .exc x env' => ∀ (cl : Value) (dd : Option Addr) (H' : Hp) (O' : List Addr) (Y' : Addr → Prop), Step O Y H O' Y' H' → SR c O' Y' σ env' H' → ExcAt c x H' cl dd → W cl dd σ H'
  | .bad => False
def Sd {α β : Type} (c : Cs) (Rel : RelT α β) (W : WX) (rd : L2.St → Hp → (β → Hp → Prop) → Prop) (F : DEnv → R α) : Prop :=
  ∀ (O : List Addr) (Y : Addr → Prop) (σ : L2.St) (env : DEnv) (H : Hp) (Q : β → Hp → Prop), SR c O Y σ env H → Post c Rel O Y H σ Q W (F env) → rd σ H Q
section
variable {α β γ δ : Type} {c : Cs} {Rel : RelT α β} {Rel' : RelT γ δ} {O O' : List Addr} {Y Y' : Addr → Prop} {H H' : Hp} {σ : L2.St} {env : DEnv} {Q : β → Hp → Prop} {Q' : δ → Hp → Prop} {W : WX}
theorem Post.shift {r : R α} (p : Post c Rel O Y H σ Q W r) (yd : ∀ a, Y a → H a ≠ none) (st : Step O Y H O' Y' H') : Post c Rel O' Y' H' σ Q W r := by
  cases r with
  | ok d e => exact fun b H2 O2 Y2 s2 sr rel => p b H2 O2 Y2 (st.trans yd s2) sr rel
  | exc x e => exact fun cl dd H2 O2 Y2 s2 sr h => p cl dd H2 O2 Y2 (st.trans yd s2) sr h
  | bad => exact p
theorem Sd.next {rd : L2.St → Hp → (β → Hp → Prop) → Prop} {F : DEnv → R α} {k : α → DEnv → R γ} {R' : β → Hp → Prop} (h : Sd c Rel W rd F) (sr : SR c O Y σ env H) (p : Post c Rel' O Y H σ Q' W ((F env).bind k))
    (n : ∀ (d : α) (e : DEnv) (b : β) (H1 : Hp) (O1 : List Addr) (Y1 : Addr → Prop), Step O Y H O1 Y1 H1 → SR c O1 Y1 σ e H1 → Rel O1 Y1 σ e H1 b d → Post c Rel' O1 Y1 H1 σ Q' W (k d e) → R' b H1) : rd σ H R' := by
  refine h O Y σ env H R' sr ?_
  cases hF : F env with
  | ok d e =>
    rw [hF] at p
    exact fun b H1 O1 Y1 st sr1 rel => n d e b H1 O1 Y1 st sr1 rel (Post.shift p sr.yd st)
  | exc x e =>
    rw [hF] at p
    exact p
  | bad =>
    rw [hF] at p
    exact p.elim
end
/-! readings, chosen at the state, for all contexts of a family at once -/
section
variable {ι : Type}
def RD (X : ι → Cx) (e : Expr) : TE := fun σ H Q => ∃ t, (∀ i, PE (X i) e t) ∧ t σ H Q
def RT (X : ι → Cx) (e : Expr) : TT := fun σ H Q => ∃ t, (∀ i, PT (X i) e t) ∧ t σ H Q
def RA (X : ι → Cx) (es : List Expr) : TA := fun σ H Q => ∃ t, (∀ i, PA (X i) es t) ∧ t σ H Q
def RO (X : ι → Cx) (e : Option Expr) : TO := fun σ H Q => ∃ t, (∀ i, PO (X i) e t) ∧ t σ H Q
def RI (X : ι → Cx) (tg e : Expr) : TI := fun σ H Q => ∃ t, (∀ i, PI (X i) tg e t) ∧ t σ H Q
def RG (X : ι → Cx) (tg : Expr) : TG := fun v σ H Q => ∃ t, (∀ i, PG (X i) tg t) ∧ t v σ H Q
def RS (X : ι → Cx) (s : Stmt) : TS := fun D σ H => ∃ t, (∀ i, PS (X i) s t) ∧ t D σ H
def RSs (X : ι → Cx) (s : List Stmt) : TS := fun D σ H => ∃ t, (∀ i, PSs (X i) s t) ∧ t D σ H
variable {X : ι → Cx} {e tg : Expr} {es : List Expr} {s : Stmt} {ss : List Stmt} {oe : Option Expr}
theorem RD.pe (i : ι) : PE (X i) e (RD X e) := ⟨fun pins s σ H Q I ⟨_, h, q⟩ => (h i).run pins s σ H Q I q⟩
theorem RT.pt (i : ι) : PT (X i) e (RT X e) := ⟨fun pins s σ H Q I ⟨_, h, q⟩ => (h i).run pins s σ H Q I q⟩
theorem RA.pa (i : ι) : PA (X i) es (RA X es) := ⟨fun pos pins s σ H Q I ⟨_, h, q⟩ => (h i).run pos pins s σ H Q I q⟩
theorem RO.po (i : ι) : PO (X i) oe (RO X oe) := ⟨fun pins s σ H Q I ⟨_, h, q⟩ => (h i).run pins s σ H Q I q⟩
theorem RI.pi (i : ι) : PI (X i) tg e (RI X tg e) := ⟨fun pins s σ H Q I ⟨_, h, q⟩ => (h i).run pins s σ H Q I q⟩
theorem RG.pg (i : ι) : PG (X i) tg (RG X tg) := ⟨fun pins s σ H v u Q I r ⟨_, h, q⟩ => (h i).run pins s σ H v u Q I r q⟩
theorem RS.ps (i : ι) : PS (X i) s (RS X s) := ⟨fun pins s σ H D I ⟨_, h, q⟩ => (h i).run pins s σ H D I q⟩
theorem RSs.pss (i : ι) : PSs (X i) ss (RSs X ss) := ⟨fun pins s σ H D I ⟨_, h, q⟩ => (h i).run pins s σ H D I q⟩
end
/-! relations of what is told -/
inductive BD where
  | val (d : PyData)
  | var (i : Nat)
def slotAt (env : DEnv) (i : Nat) : Option Slot := match env[i]? with
  | some (some s) => some s
  | _ => none
def BD.get (env : DEnv) : BD → Option PyData
  | .val d => some d
  | .var i => (slotAt env i).map Slot.d
def RSh (c : Cs) : RelT PyData V := fun _ Y _ _ H v d => Sh c.K Y H v d
def RBo (c : Cs) : RelT BD V := fun _ Y σ _ H v b => match b with
  | .val d => Sh c.K Y H v d
  | .var i => σ[i]? = some (some v)
def ROw (c : Cs) : RelT PyData V := fun O Y σ env H v d => ∃ a, v = .ref a ∧ a ∈ O ∧ Free env σ a ∧ Top c.K Y H a d
def RBl : RelT Bool Bool := fun _ _ _ _ _ b d => b = d
abbrev SE {ι : Type} (c : Cs) (W : WX) (X : ι → Cx) (e : Expr) (F : DEnv → R PyData) : Prop := Sd c (RSh c) W (RD X e) F
abbrev SB {ι : Type} (c : Cs) (W : WX) (X : ι → Cx) (e : Expr) (F : DEnv → R BD) : Prop := Sd c (RBo c) W (RD X e) F
abbrev SO {ι : Type} (c : Cs) (W : WX) (X : ι → Cx) (e : Expr) (F : DEnv → R PyData) : Prop := Sd c (ROw c) W (RD X e) F
abbrev ST {ι : Type} (c : Cs) (W : WX) (X : ι → Cx) (e : Expr) (F : DEnv → R Bool) : Prop := Sd c RBl W (RT X e) F
section
variable {c : Cs} {O O' : List Addr} {Y Y' : Addr → Prop} {H H' : Hp} {σ : L2.St} {env env' : DEnv} {W : WX} {ι : Type} {X : ι → Cx}
theorem slotAt_some {i : Nat} {s : Slot} (h : slotAt env i = some s) : env[i]? = some (some s) := by
  unfold slotAt at h
  split at h
  · cases h
    assumption
  · cases h
theorem RBo.mv {v : V} {b : BD} (h : RBo c O Y σ env H v b) (m : Mv Y Y' H H') : RBo c O' Y' σ env' H' v b := by
  cases b with
  | val d => exact Sh.mv m h
  | var i => exact h
theorem SV.bo {v : V} {s : Slot} (h : SV c O Y H v s) : Bo c.K Y H v s.d := by
  cases s with
  | shr d => exact .inl h
  | own d =>
    obtain ⟨a, e, _, t⟩ := h
    exact .inr ⟨a, e, t⟩
  | bor k d =>
    obtain ⟨a, e, _, _, t, _⟩ := h
    exact .inr ⟨a, e, t⟩
  | io k d =>
    obtain ⟨a, e, _, t, _⟩ := h
    exact .inr ⟨a, e, t⟩
theorem RBo.bo {v : V} {b : BD} {d : PyData} (h : RBo c O Y σ env H v b) (sr : SR c O Y σ env H) (g : b.get env = some d) : Bo c.K Y H v d := by
  cases b with
  | val d =>
    cases g
    exact .inl h
  | var i =>
    obtain ⟨s, hs, rfl⟩ := Option.map_eq_some_iff.mp g
    obtain ⟨u, hu, q⟩ := sr.sl i s (slotAt_some hs)
    have h : σ[i]? = some (some v) := h
    rw [h] at hu
    cases hu
    exact q.bo
/-! allocation -/
theorem SR.fresh (sr : SR c O Y σ env H) {p : Addr} (h : H p = none) : ¬ Y p ∧ p ∉ O := ⟨fun z => sr.yd p z h, fun z => sr.yd p (sr.sub p z) h⟩
theorem alloc_sh (sr : SR c O Y σ env H) {p : Addr} (hp : H p = none) (o : HO) : Step O Y H O Y (upd H p o) ∧ SR c O Y σ env (upd H p o) := ⟨.ofEx (Ex.new hp), sr.ex (Ex.new hp)⟩
theorem mv_new {p : Addr} {o : HO} (hp : H p = none) : Mv Y Y H (upd H p o) := ⟨fun a u h => .inr (.inr (Ex.new hp a u h)), fun _ _ h => h⟩
theorem alloc_lst (sr : SR c O Y σ env H) {p : Addr} (hp : H p = none) {xs : List V} {ds : List PyData} (h : ShA c.K Y H xs ds) : Step O Y H O Y (upd H p (.lst xs)) ∧ SR c O Y σ env (upd H p (.lst xs)) ∧ Sh c.K Y (upd H p (.lst xs)) (.ref p) (.list ds) :=
  ⟨.ofEx (Ex.new hp), sr.ex (Ex.new hp), .lst (sr.fresh hp).1 upd_same (h.mv (mv_new hp))⟩
theorem alloc_tup (sr : SR c O Y σ env H) {p : Addr} (hp : H p = none) {xs : List V} {ds : List PyData} (h : ShA c.K Y H xs ds) : Step O Y H O Y (upd H p (.tup xs)) ∧ SR c O Y σ env (upd H p (.tup xs)) ∧ Sh c.K Y (upd H p (.tup xs)) (.ref p) (.tuple ds) :=
  ⟨.ofEx (Ex.new hp), sr.ex (Ex.new hp), .tup upd_same (h.mv (mv_new hp))⟩
/-- a new object becomes one's own -/
theorem own_new (sr : SR c O Y σ env H) {p : Addr} (hp : H p = none) {o : HO} (ho : isOwn o = true) : Step O Y H (p :: O) (fun b => Y b ∨ b = p) (upd H p o) ∧ SR c (p :: O) (fun b => Y b ∨ b = p) σ env (upd H p o) ∧ Free env σ p ∧ Mv Y (fun b => Y b ∨ b = p) H (upd H p o) := by
  have e : Ex H (upd H p o) := Ex.new hp
  have y : ∀ a, H a ≠ none → (Y a ∨ a = p) → Y a := fun a h z => z.elim id fun z => (h (z ▸ hp)).elim
  have m : Mv Y (fun b => Y b ∨ b = p) H (upd H p o) := ⟨fun a u h => .inr (.inr (e a u h)), y⟩
  have np : ∀ {a : Addr} {u : HO}, H a = some u → a ≠ p := fun h z => by
    rw [z, hp] at h
    cases h
  refine ⟨⟨fun a u h => .inr (.inr (e a u h)), fun a h z => ?_, fun a h => (List.mem_cons.mp h).elim (fun z => .inr (z ▸ hp)) .inl, y, fun a z => .inr (.inl z), fun P ⟨ps, h, t⟩ => ⟨ps, e _ _ h, t⟩⟩, ?_, ?_, m⟩
  · by_cases q : a = p
    · rw [q, upd_same] at z
      cases z
    · rw [upd_ne q] at z
      exact h z
  · refine ⟨fun a h => (List.mem_cons.mp h).elim .inr fun z => .inl (sr.sub a z), fun a h => ?_, fun a z => ?_, sr.len, fun i s h => ?_, sr.ap, fun P hP => ?_, fun a h z => ?_⟩
    · rcases List.mem_cons.mp h with z | z
      · exact ⟨o, by rw [z, upd_same], ho⟩
      · obtain ⟨u, h1, h2⟩ := sr.own a z
        exact ⟨u, e _ _ h1, h2⟩
    · rcases z with z | z
      · intro q
        cases h : H a with
        | none => exact sr.yd a z h
        | some u => rw [e a u h] at q; cases q
      · rw [z, upd_same]
        simp
    · obtain ⟨v, hv, q⟩ := sr.sl i s h
      refine ⟨v, hv, ?_⟩
      cases s with
      | shr d => exact Sh.mv m q
      | own d =>
        obtain ⟨a, e1, e2, t⟩ := q
        exact ⟨a, e1, List.mem_cons_of_mem _ e2, t.mv m fun u h _ => e _ _ h⟩
      | bor k d =>
        obtain ⟨a, e1, e2, e3, t, e4⟩ := q
        obtain ⟨u, hu, _⟩ := t.some
        exact ⟨a, e1, fun z => (List.mem_cons.mp z).elim (np hu) e2, .inl e3, t.mv m fun u h _ => e _ _ h, e4⟩
      | io k d =>
        obtain ⟨a, e1, e2, t, e4⟩ := q
        exact ⟨a, e1, List.mem_cons_of_mem _ e2, t.mv m fun u h _ => e _ _ h, e4⟩
    · obtain ⟨ps, h, t⟩ := sr.tab P hP
      exact ⟨ps, e _ _ h, t⟩
    · cases q : H a with
      | none => exact sr.a0 a h q
      | some u => rw [e a u q] at z; cases z
  · rintro i ⟨s, hs, hso⟩ z
    obtain ⟨v, hv, q⟩ := sr.sl i s hs
    rw [hv] at z
    cases z
    cases s with
    | shr d => cases hso
    | bor k d => cases hso
    | own d =>
      obtain ⟨a, e1, _, t⟩ := q
      obtain ⟨u, hu, _⟩ := t.some
      cases e1
      exact np hu rfl
    | io k d =>
      obtain ⟨a, e1, _, t, _⟩ := q
      obtain ⟨u, hu, _⟩ := t.some
      cases e1
      exact np hu rfl
/-- one's own object, held by no slot, is let go -/
theorem freeze (sr : SR c O Y σ env H) {a : Addr} (hf : Free env σ a) (ha : a ∈ O) {d : PyData} (t : Top c.K Y H a d) :
    Step O Y H (O.filter fun b => b ≠ a) (fun b => Y b ∧ b ≠ a) H ∧ SR c (O.filter fun b => b ≠ a) (fun b => Y b ∧ b ≠ a) σ env H ∧ Sh c.K (fun b => Y b ∧ b ≠ a) H (.ref a) d := by
  have m : Mv Y (fun b => Y b ∧ b ≠ a) H H := ⟨fun _ _ h => .inr (.inr h), fun _ _ z => z.1⟩
  have inO : ∀ {b : Addr}, b ∈ O → b ≠ a → b ∈ O.filter fun b => b ≠ a := fun h n => List.mem_filter.mpr ⟨h, by simpa using n⟩
  have ofO : ∀ {b : Addr}, b ∈ (O.filter fun b => b ≠ a) → b ∈ O ∧ b ≠ a := fun h => by simpa using List.mem_filter.mp h
  refine ⟨⟨fun _ _ h => .inr (.inr h), fun _ h => h, fun b h => .inl (ofO h).1, fun _ _ z => z.1, fun b z => ?_, fun _ h => h⟩, ?_, (t.mv m fun _ h _ => h).sh fun z => z.2 rfl⟩
  · by_cases q : b = a
    · exact .inl (q ▸ ha)
    · exact .inr ⟨z, q⟩
  · refine ⟨fun b h => ⟨sr.sub b (ofO h).1, (ofO h).2⟩, fun b h => sr.own b (ofO h).1, fun b z => sr.yd b z.1, sr.len, fun i s h => ?_, sr.ap, sr.tab, sr.a0⟩
    obtain ⟨v, hv, q⟩ := sr.sl i s h
    refine ⟨v, hv, ?_⟩
    cases s with
    | shr d => exact Sh.mv m q
    | own d =>
      obtain ⟨b, e1, e2, t⟩ := q
      refine ⟨b, e1, inO e2 fun z => ?_, t.mv m fun _ h _ => h⟩
      exact hf i ⟨_, h, rfl⟩ (by rw [hv, e1, z])
    | bor k d =>
      obtain ⟨b, e1, e2, e3, t, e4⟩ := q
      exact ⟨b, e1, fun z => e2 (ofO z).1, ⟨e3, fun z => e2 (z ▸ ha)⟩, t.mv m fun _ h _ => h, e4⟩
    | io k d =>
      obtain ⟨b, e1, e2, t, e4⟩ := q
      refine ⟨b, e1, inO e2 fun z => ?_, t.mv m fun _ h _ => h, e4⟩
      exact hf i ⟨_, h, rfl⟩ (by rw [hv, e1, z])
/-! names and constants -/
def fVar (i : Nat) : DEnv → R PyData := fun env => match slotAt env i with
  | some (.shr d) => .ok d env
  | some (.own d) => .ok d (env.set i (some (.shr d)))
  | _ => .bad
def fBor (i : Nat) : DEnv → R BD := fun env => match slotAt env i with
  | some _ => .ok (.var i) env
  | none => .bad
def fC (d : PyData) : DEnv → R PyData := fun env => .ok d env
def fVal (F : DEnv → R PyData) : DEnv → R BD := fun env => (F env).bind fun d e => .ok (.val d) e
theorem sb_var {i : Nat} {x : Str} {pos : Pos} (pv : ∀ k, PE (X k) (.Name x pos) (tVar i)) : SB c W X (.Name x pos) (fBor i) := fun O Y σ env H Q sr p => by
  refine ⟨_, pv, ?_⟩
  unfold fBor at p
  cases h : slotAt env i with
  | none =>
    rw [h] at p
    exact p.elim
  | some s =>
    rw [h] at p
    obtain ⟨v, hv, q⟩ := sr.sl i s (slotAt_some h)
    exact ⟨v, hv, p v H O Y .refl sr hv⟩
theorem se_var {i : Nat} {x : Str} {pos : Pos} (pv : ∀ k, PE (X k) (.Name x pos) (tVar i)) : SE c W X (.Name x pos) (fVar i) := fun O Y σ env H Q sr p => by
  refine ⟨_, pv, ?_⟩
  unfold fVar at p
  cases h : slotAt env i with
  | none =>
    rw [h] at p
    exact p.elim
  | some s =>
    rw [h] at p
    have hs := slotAt_some h
    obtain ⟨v, hv, q⟩ := sr.sl i s hs
    cases s with
    | shr d => exact ⟨v, hv, p v H O Y .refl sr q⟩
    | bor k d => exact p.elim
    | io k d => exact p.elim
    | own d =>
      obtain ⟨a, rfl, ha, t⟩ := q
      have hl := (List.getElem?_eq_some_iff.mp hs).1
      have sr1 : SR c O Y σ (env.set i none) H := sr.less (by simp) fun j s e => by
        by_cases z : i = j
        · subst z
          rw [List.getElem?_set_self hl] at e
          cases e
        · rw [List.getElem?_set_ne z] at e
          exact e
      have fr : Free (env.set i none) σ a := fun j ⟨s', h1, h2⟩ z => by
        by_cases q : i = j
        · subst q
          rw [List.getElem?_set_self hl] at h1
          cases h1
        · rw [List.getElem?_set_ne q] at h1
          exact sr.ap i j a q ⟨_, hs, rfl⟩ ⟨s', h1, h2⟩ hv z
      obtain ⟨st, sr2, sh⟩ := freeze sr1 fr ha t
      have sr3 := sr2.setS (i := i) sh
      rw [List.set_set] at sr3
      have e : σ.set i (some (.ref a)) = σ := by
        apply List.ext_getElem?
        intro j
        by_cases q : i = j
        · subst q
          rw [List.getElem?_set_self (by rw [← sr.len]; exact hl), hv]
        · rw [List.getElem?_set_ne q]
      rw [e] at sr3
      exact ⟨_, hv, p _ H _ _ st sr3 sh⟩
theorem sb_of {e : Expr} {F : DEnv → R PyData} (h : SE c W X e F) : SB c W X e (fVal F) := fun O Y σ env H Q sr p => h.next sr p fun d e v H1 O1 Y1 st sr1 sh p1 => p1 v H1 O1 Y1 .refl sr1 sh
theorem so_se {e : Expr} {F : DEnv → R PyData} (h : SO c W X e F) : SE c W X e F := fun O Y σ env H Q sr p => by
  have p' : Post c (RSh c) O Y H σ Q W ((F env).bind fun d e => .ok d e) := by
    cases hF : F env <;> rw [hF] at p <;> exact p
  refine h.next sr p' fun d e v H1 O1 Y1 st sr1 ow p1 => ?_
  obtain ⟨a, rfl, ha, hf, t⟩ := ow
  obtain ⟨st2, sr2, sh⟩ := freeze sr1 hf ha t
  exact p1 _ H1 _ _ st2 sr2 sh
theorem se_pe {e : Expr} {v : V} {d : PyData} (h : ∀ k, PE (X k) e (tC v)) (s : ∀ Y H, Sh c.K Y H v d) : SE c W X e (fC d) := fun O Y σ env H Q sr p => ⟨_, h, p v H O Y .refl sr (s Y H)⟩
theorem se_int {i : Int} {j pos} : SE c W X (.Constant (.int i) j pos) (fC (.int i)) := se_pe (fun _ => pe_int) fun _ _ => .int i
theorem se_str {x : Str} {j pos} : SE c W X (.Constant (.str x) j pos) (fC (.str x)) := se_pe (fun _ => pe_str) fun _ _ => .str x
theorem se_bl {b : Bool} {j pos} : SE c W X (.Constant (.bool b) j pos) (fC (.bool b)) := se_pe (fun _ => pe_bl) fun _ _ => .bl b
theorem se_non {j pos} : SE c W X (.Constant .none j pos) (fC .none) := se_pe (fun _ => pe_non) fun _ _ => .non
end
end Dl
set_option Elab.async false
set_option linter.all false
set_option maxRecDepth 100000
set_option maxHeartbeats 4000000
namespace Eh
open PySem PySem.Spec PyProof.Rows L2
section
variable {X : Cx}
theorem call_repr_bl : CallR X (.builtin "repr") (fun xs H Q => ∃ b, xs = [.bl b] ∧ Q (.str (if b then "True" else "False")) H) := by
  intro pins s σ H xs us Q I r h
  obtain ⟨b, rfl, q⟩ := h
  cases r with
  | cons r1 rr =>
    cases rr
    cases r1
    exact PySem.P.repr_of_bool ⟨.str _, H, I.tok _, ⟨_, rfl⟩, q⟩
/-- a text so often -/
def repS (x : Str) (n : Nat) : Str := ⟨(List.replicate n x.cps).foldl (· ++ ·) #[]⟩
theorem foldl_app (l : List (Array Nat)) (a : Array Nat) : (l.foldl (· ++ ·) a).toList = a.toList ++ (l.map (·.toList)).flatten := by
  induction l generalizing a with
  | nil => simp
  | cons x r ih =>
    rw [List.foldl_cons, ih]
    simp
theorem repS_cs (x : Str) (n : Nat) : (repS x n).cps.toList = (List.replicate n x.cps.toList).flatten := by
  unfold repS
  rw [foldl_app, List.map_replicate]
  rfl
theorem op_repS : OpR X (binaryOp .Mult) (fun x y H Q => ∃ (z : Str) (n : Nat), x = .str z ∧ y = .int (n : Int) ∧ z.length ≤ 1000 ∧ n ≤ 1000 ∧ Q (.str (repS z n)) H) := by
  intro pins s σ H x y v u Q I rx ry h
  obtain ⟨z, n, rfl, rfl, hz, hn, q⟩ := h
  obtain ⟨t, rfl⟩ := rx
  obtain ⟨t', rfl⟩ := ry
  have e0 : n < 1 → repS z n = Str.empty := fun h => by
    have : n = 0 := by omega
    subst this
    rfl
  have ext : ∀ a b : Str, a.cps.toList = b.cps.toList → a = b := fun a b h => by
    cases a
    cases b
    congr 1
    exact Array.toList_inj.mp h
  have e1 : (n = 1 ∨ z.length = 0) → ¬ n < 1 → repS z n = z := fun h h1 => by
    apply ext
    rw [repS_cs]
    rcases h with h | h
    · subst h
      simp
    · have hz0 : z.cps.toList = [] := by
        have : z.cps.size = 0 := h
        exact List.eq_nil_of_length_eq_zero (by simpa using this)
      rw [hz0]
      simp
  have hm : z.length * n ≤ 1000000 := Nat.le_trans (Nat.mul_le_mul hz hn) (by decide)
  refine PySem.P.mul_str (by rw [decide_eq_false (by omega), decide_eq_false (by omega)]; rfl) (fun h1 _ => ?_) (fun h1 _ => ?_) ?_
  · have h2 : (1 : Int) ≤ n := by omega
    have h3 : (9223372036854775807 : Int) / (n : Int) ≥ 9223372036854775807 / 1000 := by
      refine Int.le_ediv_of_mul_le (by omega) ?_
      omega
    show ¬ ((z.length : Int) > (2 ^ 63 - 1) / (n : Int))
    have e2 : ((2 : Int) ^ 63 - 1) = 9223372036854775807 := by decide
    rw [e2]
    omega
  · rw [Int.toNat_natCast]
    show decide (z.length * n > sizeLine) = false
    rw [sizeLine_eq]
    exact decide_eq_false (by omega)
  · by_cases h1 : (n : Int) < 1
    · rw [if_pos h1]
      refine ⟨by decide, .str (repS z n), H, I.tok _, ⟨s.toks, ?_⟩, q⟩
      rw [e0 (by omega)]
    · rw [if_neg h1]
      by_cases h2 : ((n : Int) == 1 || z.length == 0) = true
      · rw [if_pos h2]
        have h3 : n = 1 ∨ z.length = 0 := by
          simp at h2
          omega
        have h4 := e1 h3 (by omega)
        rw [h4] at q
        exact ⟨.str z, H, I, ⟨_, rfl⟩, q⟩
      · rw [if_neg h2]
        have hl : (repS z n).length ≤ sizeLine := by
          have : (repS z n).length = n * z.length := by
            show (repS z n).cps.size = n * z.cps.size
            rw [← Array.length_toList, repS_cs]
            simp
          rw [this, sizeLine_eq, Nat.mul_comm]
          omega
        exact ⟨hl, .str (repS z n), H, I.tok _, ⟨_, rfl⟩, q⟩
/-- xs < ys, lists of ints -/
theorem firstLt_lex : ∀ (ns ms : List Int) (k : Nat) (e r : Nat → Bool), (∀ j, j < ns.length → j < ms.length → e (k + j) = decide (ns[j]? = ms[j]?)) → (∀ j, j < ns.length → j < ms.length → r (k + j) = decide (ns.getD j 0 < ms.getD j 0)) → SeqAt.firstLt e r (decide (ns.length < ms.length)) ((List.range (min ns.length ms.length)).map (k + ·)) = HT.lexLt ns ms
  | [], [], k, e, r, _, _ => rfl
  | [], y :: ms, k, e, r, _, _ => by simp [SeqAt.firstLt, HT.lexLt]
  | x :: ns, [], k, e, r, _, _ => by simp [SeqAt.firstLt, HT.lexLt]
  | x :: ns, y :: ms, k, e, r, he, hr => by
    rw [HT.lexLt_cons, List.length_cons, List.length_cons, show min (ns.length + 1) (ms.length + 1) = min ns.length ms.length + 1 by omega, List.range_succ_eq_map, List.map_cons, List.map_map]
    have e0 := he 0 (by simp) (by simp)
    have r0 := hr 0 (by simp) (by simp)
    have ih := firstLt_lex ns ms (k + 1) e r (fun j h1 h2 => by
      have := he (j + 1) (by simpa using h1) (by simpa using h2)
      rw [show k + 1 + j = k + (j + 1) by omega, this]
      simp) (fun j h1 h2 => by
      have := hr (j + 1) (by simpa using h1) (by simpa using h2)
      rw [show k + 1 + j = k + (j + 1) by omega, this]
      simp)
    by_cases h : x = y
    · rw [if_pos h, SeqAt.firstLt_yes (by rw [e0]; simp [h])]
      rw [show (decide (ns.length + 1 < ms.length + 1)) = decide (ns.length < ms.length) by simp, show ((fun x => k + x) ∘ Nat.succ) = (fun x => k + 1 + x) by funext z; show k + (z + 1) = k + 1 + z; omega]
      exact ih
    · rw [if_neg h, SeqAt.firstLt_no (by rw [e0]; simp [h]), r0]
      rfl
def rLtL (K : PySem.W.Frag) : R2 := fun x y H Q => ∃ (a b : Addr) (ns ms : List Int), x = .ref a ∧ y = .ref b ∧ SqL K H a (ns.map V.int) ∧ SqL K H b (ms.map V.int) ∧ Q (.bl (HT.lexLt ns ms)) H
theorem op_ltL (hu : X.A.units < cLine) : OpR X (compareOp .Lt) (rLtL X.K) := by
  intro pins s σ H x y v u Q I rx ry h
  obtain ⟨a, b, ns, ms, rfl, rfl, ha, hb, q⟩ := h
  cases rx
  cases ry
  obtain ⟨its, r1, p1, _⟩ := I.list ha
  obtain ⟨its2, r2, p2, _⟩ := I.list hb
  have l1 : its.length = ns.length := by
    have := r1.length
    rw [List.length_map] at this
    exact this.symm
  have l2 : its2.length = ms.length := by
    have := r2.length
    rw [List.length_map] at this
    exact this.symm
  have g1 : ∀ j (h : j < ns.length), ∃ t, its[j]'(by omega) = .int ns[j] t := fun j h => by
    obtain ⟨u, hu, t, ru⟩ := r1.get (i := j) (show (ns.map V.int)[j]? = some (.int ns[j]) by rw [List.getElem?_map, List.getElem?_eq_getElem h]; rfl)
    obtain ⟨_, e⟩ := List.getElem?_eq_some_iff.mp hu
    exact ⟨t, e.trans ru⟩
  have g2 : ∀ j (h : j < ms.length), ∃ t, its2[j]'(by omega) = .int ms[j] t := fun j h => by
    obtain ⟨u, hu, t, ru⟩ := r2.get (i := j) (show (ms.map V.int)[j]? = some (.int ms[j]) by rw [List.getElem?_map, List.getElem?_eq_getElem h]; rfl)
    obtain ⟨_, e⟩ := List.getElem?_eq_some_iff.mp hu
    exact ⟨t, e.trans ru⟩
  have key := SeqAt.RcLt.lists (A := X.A) (s := s) (e := fun j => decide (ns[j]? = ms[j]?)) (r := fun j => decide (ns.getD j 0 < ms.getD j 0)) p1.isList p2.isList hu (fun j h1 h2 => ?_) (fun j h1 h2 hj => ?_)
  · have e : SeqAt.firstLt (fun j => decide (ns[j]? = ms[j]?)) (fun j => decide (ns.getD j 0 < ms.getD j 0)) (decide (its.toArray.size < its2.toArray.size)) (List.range (min its.toArray.size its2.toArray.size)) = HT.lexLt ns ms := by
      have := firstLt_lex ns ms 0 (fun j => decide (ns[j]? = ms[j]?)) (fun j => decide (ns.getD j 0 < ms.getD j 0)) (fun j _ _ => by rw [Nat.zero_add]) (fun j _ _ => by rw [Nat.zero_add])
      rw [← this]
      simp [l1, l2]
    rw [e] at key
    exact key _ _ _ _ ⟨.bl _, H, I, rfl, q⟩
  · have h1' : j < ns.length := by simpa [l1] using h1
    have h2' : j < ms.length := by simpa [l2] using h2
    obtain ⟨t1, e1⟩ := g1 j h1'
    obtain ⟨t2, e2⟩ := g2 j h2'
    have e3 : its.toArray[j] = .int ns[j] t1 := by simpa using e1
    have e4 : its2.toArray[j] = .int ms[j] t2 := by simpa using e2
    rw [e3, e4]
    have := SeqAt.EqAt.int_int (A := X.A.in1) (s := s) ns[j] t1 ms[j] t2
    have e5 : decide (ns[j]? = ms[j]?) = (ns[j] == ms[j]) := by
      rw [List.getElem?_eq_getElem h1', List.getElem?_eq_getElem h2']
      by_cases z : ns[j] = ms[j] <;> simp [z]
    simp only [e5]
    exact this
  · have h1' : j < ns.length := by simpa [l1] using h1
    have h2' : j < ms.length := by simpa [l2] using h2
    obtain ⟨t1, e1⟩ := g1 j h1'
    obtain ⟨t2, e2⟩ := g2 j h2'
    have e3 : its.toArray[j] = .int ns[j] t1 := by simpa using e1
    have e4 : its2.toArray[j] = .int ms[j] t2 := by simpa using e2
    rw [e3, e4]
    have e5 : decide (ns.getD j 0 < ms.getD j 0) = decide (ns[j] < ms[j]) := by
      rw [List.getD_eq_getElem?_getD, List.getD_eq_getElem?_getD, List.getElem?_eq_getElem h1', List.getElem?_eq_getElem h2']
      rfl
    simp only [e5]
    intro prog w E Q hq
    exact HT.rcLt_int _ _ _ _ _ _ prog w E Q hq
end
end Eh
set_option Elab.async false
set_option linter.all false
set_option maxRecDepth 100000
set_option maxHeartbeats 4000000
namespace L2
open PySem PySem.Spec PyProof.Rows
theorem tuple_mul0 (l : Addr) (n : Nat) (dd : Option Addr) (sl : Array (Option Value)) (x : Int) (u : Tok) (c0 : (decide (x < -(2 ^ 63)) || decide (x ≥ 2 ^ 63)) = false) :
    Meets (Builtin.«tuple.__mul__» ⟨[.ref l, .int x u], []⟩) (fun _ R s => s.heap.get? l = some { cls := .type "tuple", dict := dd, data := .seq #[] n, slots := sl } ∧ R (.ok (.ret (Value.ref l))) s) :=
  .of_wp fun prog w A R s h => by
    obtain ⟨hp, g, d, tk, os⟩ := s
    obtain ⟨hl, h⟩ := h
    have f1 := AutoSeq1.idx_int
    wp_walk using wpAny_loadPart' hl
    repeat (first
      | (refine wpAny_ite_false (decide_eq_false (by rw [c0]; exact Bool.false_ne_true)) ?_; wp_walk using wpAny_loadPart' hl)
      | (refine wpAny_ite_true (by rfl) ?_; wp_walk using wpAny_loadPart' hl))
    exact ⟨_, rfl, h⟩
def rRepE (K : PySem.W.Frag) : R2 := fun x y H Q => ∃ l k, x = .ref l ∧ y = .int k ∧ SqT K H l [] ∧ 2 ≤ k ∧ k ≤ 1000 ∧ Q (.ref l) H
theorem op_repE {X : Cx} : OpR X (binaryOp .Mult) (rRepE X.K) := by
  intro pins s σ H x y v u Q I rx ry h
  obtain ⟨l, k, rfl, rfl, hT, h1, h2, q⟩ := h
  cases rx
  obtain ⟨t, rfl⟩ := ry
  obtain ⟨its, r, ⟨⟨cls, dd, data, sl⟩, ho, hc, n, hd⟩, hs⟩ := I.tuple hT
  simp only at hc hd
  subst hc hd
  have hn : its = [] := List.eq_nil_of_length_eq_zero r.length.symm
  subst hn
  have c0 : (decide (k < -(2 ^ 63)) || decide (k ≥ 2 ^ 63)) = false := by
    rw [decide_eq_false (by omega), decide_eq_false (by omega)] <;> rfl
  refine wpAny_binaryOp_repeat_ref (T := "tuple") (U := "int") (by decide) ⟨_, ho, rfl⟩ (fun s' => typeIs_int s' k t) noFill_tuple_mul F.fills_int_mul F.slot_int_rmul repeat_tuple F.slot_int_index.lookup
    (call_meets F.slot_int_rmul (typeIs_int s k t) F.entry_int_rmul (F.args_int_rmul_2 _ _) (int_rmul_tuple k t l _ n dd sl)
      ⟨ho, rfl, ⟨_, ho, rfl⟩, call_meets F.slot_tuple_mul ⟨_, ho, rfl⟩ F.entry_tuple_mul (F.args_tuple_mul_2 _ _) (tuple_mul0 l n dd sl k t c0) ⟨ho, ?_⟩⟩)
  exact ⟨.ref l, H, I, rfl, q⟩
end L2
set_option Elab.async false
set_option linter.all false
set_option maxRecDepth 100000
set_option maxHeartbeats 4000000
namespace Dl
open PySem PySem.Spec PyProof.Rows L2 Evl Gx GxR
/-! operators -/
section
variable {ι : Type}
def ROp (X : ι → Cx) (f : Value → Value → Sem Value) : R2 := fun x y H Q => ∃ r, (∀ i, OpR (X i) f r) ∧ r x y H Q
theorem ROp.op {X : ι → Cx} {f : Value → Value → Sem Value} (i : ι) : OpR (X i) f (ROp X f) := fun pins s σ H x y v u Q I rx ry ⟨r, h, q⟩ => h i pins s σ H x y v u Q I rx ry q
def RUn (X : ι → Cx) (f : Value → Sem Value) : V → Hp → VK → Prop := fun x H Q => ∃ r, (∀ i, UnR (X i) f r) ∧ r x H Q
theorem RUn.un {X : ι → Cx} {f : Value → Sem Value} (i : ι) : UnR (X i) f (RUn X f) := fun pins s σ H x v Q I rx ⟨r, h, q⟩ => h i pins s σ H x v Q I rx q
def RIx (X : ι → Cx) : R2 := fun x y H Q => ∃ r, (∀ i, IxR (X i) r) ∧ r x y H Q
theorem RIx.ix {X : ι → Cx} (i : ι) : IxR (X i) (RIx X) := fun value slice pins s σ H x y v u Q I rx ry ⟨r, h, q⟩ e => h i value slice pins s σ H x y v u Q I rx ry q e
theorem k_op {X : Cx} {f : Value → Value → Sem Value} {K : PySem.W.Frag} {r : PySem.W.Frag → R2} (hK : X.K = K) (h : OpR X f (r X.K)) : OpR X f (r K) := hK ▸ h
theorem k_ix {X : Cx} {K : PySem.W.Frag} {r : PySem.W.Frag → R2} (hK : X.K = K) (h : IxR X (r X.K)) : IxR X (r K) := hK ▸ h
end
/-- what a two-place operation tells of data -/
def Ad2 {ι : Type} (c : Cs) (X : ι → Cx) (f : Value → Value → Sem Value) (op : PyData → PyData → Option PyData) : Prop :=
  ∀ (O : List Addr) (Y : Addr → Prop) (σ : L2.St) (env : DEnv) (H : Hp) (v1 v2 : V) (d1 d2 d : PyData) (Q : VK), SR c O Y σ env H → Bo c.K Y H v1 d1 → Bo c.K Y H v2 d2 → op d1 d2 = some d →
    (∀ v H', Step O Y H O Y H' → SR c O Y σ env H' → Sh c.K Y H' v d → Q v H') → ROp X f v1 v2 H Q
def f2 (op : PyData → PyData → Option PyData) (Fa Fb : DEnv → R BD) : DEnv → R PyData := fun env => (Fa env).bind fun a e1 => (Fb e1).bind fun b e2 => R.of ((a.get e2).bind fun x => (b.get e2).bind fun y => op x y) e2
section
variable {c : Cs} {O O' : List Addr} {Y Y' : Addr → Prop} {H H' : Hp} {σ : L2.St} {env env' : DEnv} {W : WX} {ι : Type} {X : ι → Cx} {a b : Expr} {Fa Fb : DEnv → R BD} {op : PyData → PyData → Option PyData} {pos : Pos}
theorem of_post {α β : Type} {Rel : RelT α β} {Q : β → Hp → Prop} {o : Option α} {e : DEnv} (p : Post c Rel O Y H σ Q W (R.of o e)) : ∃ d, o = some d ∧ Post c Rel O Y H σ Q W (.ok d e) := by
  cases o with
  | none => exact p.elim
  | some d => exact ⟨d, rfl, p⟩
/-- two readings and what is done behind them -/
theorem two {f : R2} {Q : VK} (ha : SB c W X a Fa) (hb : SB c W X b Fb) (sr : SR c O Y σ env H) (p : Post c (RSh c) O Y H σ Q W (f2 op Fa Fb env))
    (n : ∀ (O2 : List Addr) (Y2 : Addr → Prop) (e2 : DEnv) (H2 : Hp) (x y : V) (d1 d2 d : PyData), SR c O2 Y2 σ e2 H2 → Bo c.K Y2 H2 x d1 → Bo c.K Y2 H2 y d2 → op d1 d2 = some d → (∀ v H', Step O2 Y2 H2 O2 Y2 H' → SR c O2 Y2 σ e2 H' → Sh c.K Y2 H' v d → Q v H') → f x y H2 Q) :
    tOp f (RD X a) (RD X b) σ H Q := by
  refine ha.next sr p fun b1 e1 x H1 O1 Y1 st1 sr1 r1 p1 => ?_
  refine hb.next sr1 p1 fun b2 e2 y H2 O2 Y2 st2 sr2 r2 p2 => ?_
  obtain ⟨d, hd, p3⟩ := of_post p2
  obtain ⟨d1, h1, hd⟩ := Option.bind_eq_some_iff.mp hd
  obtain ⟨d2, h2, hd⟩ := Option.bind_eq_some_iff.mp hd
  exact n O2 Y2 e2 H2 x y d1 d2 d sr2 ((RBo.mv (O' := O2) (env' := e2) r1 (sr1.mv st2)).bo sr2 h1) (r2.bo sr2 h2) hd fun v H' st' sr' sh => p3 v H' O2 Y2 st' sr' sh
theorem se_bin {o : Operator} (ad : Ad2 c X (binaryOp o) op) (ha : SB c W X a Fa) (hb : SB c W X b Fb) : SE c W X (.BinOp a o b pos) (f2 op Fa Fb) := fun O Y σ env H Q sr p =>
  ⟨_, fun i => pe_op (ROp.op i) (RD.pe i) (RD.pe i), two ha hb sr p fun O2 Y2 e2 H2 x y d1 d2 d sr2 b1 b2 h q => ad O2 Y2 σ e2 H2 x y d1 d2 d Q sr2 b1 b2 h q⟩
theorem se_cmp {o : CmpOp} (ad : Ad2 c X (compareOp o) op) (ha : SB c W X a Fa) (hb : SB c W X b Fb) (hm : behindInMarks o b = false) : SE c W X (.Compare a [o] [b] pos) (f2 op Fa Fb) := fun O Y σ env H Q sr p =>
  ⟨_, fun i => pe_cmpR (ROp.op i) (RD.pe i) (RD.pe i) hm, two ha hb sr p fun O2 Y2 e2 H2 x y d1 d2 d sr2 b1 b2 h q => ad O2 Y2 σ e2 H2 x y d1 d2 d Q sr2 b1 b2 h q⟩
/-- a truth told as one -/
def fT (F : DEnv → R PyData) : DEnv → R Bool := fun env => (F env).bind fun d e => match d with
  | .bool b => .ok b e
  | _ => .bad
theorem bool_post {Q : Bool → Hp → Prop} {d : PyData} {e : DEnv} (p : Post c RBl O Y H σ Q W (match d with | .bool b => .ok b e | _ => .bad)) : ∃ b, d = .bool b ∧ Post c RBl O Y H σ Q W (.ok b e) := by
  cases d with
  | bool b => exact ⟨b, rfl, p⟩
  | _ => exact p.elim
theorem st_cmp {o : CmpOp} (ad : Ad2 c X (compareOp o) op) (ha : SB c W X a Fa) (hb : SB c W X b Fb) (hm : behindInMarks o b = false) : ST c W X (.Compare a [o] [b] pos) (fT (f2 op Fa Fb)) := fun O Y σ env H Q sr p => by
  refine ⟨_, fun i => pt_cmpR (ROp.op i) (RD.pe i) (RD.pe i) hm, ?_⟩
  refine two (Q := fun x H' => ∃ k, x = .bl k ∧ Q k H') ha hb sr (?_ : Post c (RSh c) O Y H σ _ W (f2 op Fa Fb env)) fun O2 Y2 e2 H2 x y d1 d2 d sr2 b1 b2 h q => ad O2 Y2 σ e2 H2 x y d1 d2 d _ sr2 b1 b2 h q
  unfold fT at p
  cases hF : f2 op Fa Fb env with
  | bad =>
    rw [hF] at p
    exact p.elim
  | exc x e =>
    rw [hF] at p
    exact p
  | ok d e =>
    rw [hF] at p
    obtain ⟨k, rfl, p⟩ := bool_post p
    intro v H' O' Y' st sr' sh
    cases sh
    exact ⟨k, rfl, p k H' O' Y' st sr' rfl⟩
end
/-! the operations on data -/
def dAdd : PyData → PyData → Option PyData
  | .int i, .int j => some (.int (i + j))
  | .str x, .str y => if x.length + y.length ≤ sizeLine then some (.str (x ++ y)) else none
  | .list xs, .list ys => if xs.length + ys.length ≤ sizeLine then some (.list (xs ++ ys)) else none
  | .tuple xs, .tuple ys => if xs.length + ys.length ≤ sizeLine then some (.tuple (xs ++ ys)) else none
  | _, _ => none
def dSub : PyData → PyData → Option PyData
  | .int i, .int j => some (.int (i - j))
  | _, _ => none
def mulOk (i j : Int) : Bool := (decide (-(2 ^ 64) < i) && decide (i < 2 ^ 64)) || (decide (-(2 ^ 64) < j) && decide (j < 2 ^ 64))
def dMul : PyData → PyData → Option PyData
  | .int i, .int j => if mulOk i j = true then some (.int (i * j)) else none
  | .list xs, .int k => if -(2 ^ 63) ≤ k ∧ k < 2 ^ 63 ∧ xs.length * k.toNat ≤ sizeLine then some (.list (List.replicate k.toNat xs).flatten) else none
  | .tuple xs, .int k => if 2 ≤ k ∧ k ≤ 1000 ∧ xs.length ≤ 1000 then some (.tuple (List.replicate k.toNat xs).flatten) else none
  | .str x, .int k => if 0 ≤ k ∧ x.length ≤ 1000 ∧ k ≤ 1000 then some (.str (Eh.repS x k.toNat)) else none
  | _, _ => none
def dMod : PyData → PyData → Option PyData
  | .int i, .int j => if 0 < j then some (.int (i % j)) else none
  | _, _ => none
def dDiv : PyData → PyData → Option PyData
  | .int i, .int j => if 0 < j ∧ j.natAbs.log2 < 9000 then some (.int (i / j)) else none
  | _, _ => none
def dPow : PyData → PyData → Option PyData
  | .int i, .int j => if 0 ≤ j ∧ j ≤ 1000000 ∧ i.natAbs < 2 ^ 64 then some (.int (i ^ j.toNat)) else none
  | _, _ => none
def dOrd (f : Int → Int → Bool) : PyData → PyData → Option PyData
  | .int i, .int j => some (.bool (f i j))
  | _, _ => none
def scalD : PyData → Bool
  | .none => true
  | .bool _ => true
  | .int _ => true
  | .str _ => true
  | _ => false
def dEq (x y : PyData) : Option PyData := if (scalD x && scalD y) || (SeqAt.shaped x && SeqAt.shaped y) then some (.bool (PyData.eqv x y)) else none
def dNe (x y : PyData) : Option PyData := if (scalD x && scalD y) || (SeqAt.shaped x && SeqAt.shaped y) then some (.bool (!PyData.eqv x y)) else none
def isNoneD : PyData → Bool
  | .none => true
  | _ => false
def dIsN (x y : PyData) : Option PyData := match y with
  | .none => some (.bool (isNoneD x))
  | _ => none
def dNotN (x y : PyData) : Option PyData := match y with
  | .none => some (.bool (!isNoneD x))
  | _ => none
section
variable {c : Cs} {O O' : List Addr} {Y Y' : Addr → Prop} {H H' : Hp} {σ : L2.St} {env env' : DEnv} {W : WX} {ι : Type} {X : ι → Cx}
theorem Bo.list {v : V} {ds : List PyData} (h : Bo c.K Y H v (.list ds)) : ∃ a xs, v = .ref a ∧ H a = some (.lst xs) ∧ ShA c.K Y H xs ds := by
  rcases h with h | ⟨a, rfl, h⟩
  · cases h with
    | lst _ h t => exact ⟨_, _, rfl, h, t⟩
  · cases h with
    | lst h t => exact ⟨_, _, rfl, h, t⟩
theorem Bo.tuple {v : V} {ds : List PyData} (h : Bo c.K Y H v (.tuple ds)) : ∃ a xs, v = .ref a ∧ H a = some (.tup xs) ∧ ShA c.K Y H xs ds := by
  rcases h with h | ⟨a, rfl, h⟩
  · cases h with
    | tup h t => exact ⟨_, _, rfl, h, t⟩
  · cases h
theorem Bo.sh {v : V} {d : PyData} (h : Bo c.K Y H v d) (s : scalD d = true) : Sh c.K Y H v d := by
  rcases h with h | ⟨a, rfl, h⟩
  · exact h
  · cases h <;> cases s
theorem Bo.int {v : V} {i : Int} (h : Bo c.K Y H v (.int i)) : v = .int i := by
  cases h.sh rfl
  rfl
theorem Bo.str {v : V} {x : Str} (h : Bo c.K Y H v (.str x)) : v = .str x := by
  cases h.sh rfl
  rfl
theorem Bo.bl {v : V} {b : Bool} (h : Bo c.K Y H v (.bool b)) : v = .bl b := by
  cases h.sh rfl
  rfl
theorem Bo.non {v : V} (h : Bo c.K Y H v .none) : v = .non := by
  cases h.sh rfl
  rfl
theorem ShA.nil_iff {vs : List V} {ds : List PyData} (h : ShA c.K Y H vs ds) : vs = [] ↔ ds = [] := by
  cases h <;> simp
theorem ad_add (hK : ∀ i, (X i).K = c.K) : Ad2 c X (binaryOp .Add) dAdd := by
  intro O Y σ env H v1 v2 d1 d2 d Q sr b1 b2 h q
  unfold dAdd at h
  split at h
  · cases h
    cases b1.int
    cases b2.int
    exact ⟨_, fun _ => op_add, _, _, rfl, rfl, q _ _ .refl sr (.int _)⟩
  · split at h
    · cases h
      cases b1.str
      cases b2.str
      exact ⟨_, fun _ => op_add_str, _, _, rfl, rfl, by assumption, q _ _ .refl sr (.str _)⟩
    · cases h
  · split at h
    · cases h
      obtain ⟨a, xs, rfl, ha, ta⟩ := b1.list
      obtain ⟨b, ys, rfl, hb, tb⟩ := b2.list
      refine ⟨_, fun _ => op_cat, a, b, xs, ys, rfl, rfl, ha, hb, by rw [ta.len, tb.len]; assumption, fun p hp => ?_⟩
      obtain ⟨st, sr', sh⟩ := alloc_lst sr hp (ta.app tb)
      exact q _ _ st sr' sh
    · cases h
  · split at h
    · cases h
      obtain ⟨a, xs, rfl, ha, ta⟩ := b1.tuple
      obtain ⟨b, ys, rfl, hb, tb⟩ := b2.tuple
      refine ⟨_, fun i => k_op (hK i) op_catA, a, b, xs, ys, rfl, rfl, st_of ha, st_of hb, by rw [ta.len, tb.len]; assumption, fun hx => ?_, fun hx hy => ?_, fun hx hy p hp => ?_⟩
      · have e := ta.nil_iff.mp hx
        subst e
        exact q _ _ .refl sr (.tup hb tb)
      · have e := tb.nil_iff.mp hy
        subst e
        rw [List.append_nil] at q
        exact q _ _ .refl sr (.tup ha ta)
      · obtain ⟨st, sr', sh⟩ := alloc_tup sr hp (ta.app tb)
        exact q _ _ st sr' sh
    · cases h
  · cases h
theorem ad_sub : Ad2 c X (binaryOp .Sub) dSub := by
  intro O Y σ env H v1 v2 d1 d2 d Q sr b1 b2 h q
  unfold dSub at h
  split at h
  · cases h
    cases b1.int
    cases b2.int
    exact ⟨_, fun _ => op_sub, _, _, rfl, rfl, q _ _ .refl sr (.int _)⟩
  · cases h
theorem ShA.rep {vs : List V} {ds : List PyData} (h : ShA c.K Y H vs ds) : ∀ n : Nat, ShA c.K Y H (List.replicate n vs).flatten (List.replicate n ds).flatten
  | 0 => .nil
  | n + 1 => by
    rw [List.replicate_succ, List.replicate_succ, List.flatten_cons, List.flatten_cons]
    exact h.app (ShA.rep h n)
theorem ad_mul (hK : ∀ i, (X i).K = c.K) : Ad2 c X (binaryOp .Mult) dMul := by
  intro O Y σ env H v1 v2 d1 d2 d Q sr b1 b2 h q
  unfold dMul at h
  split at h
  · split at h
    · rename_i hm
      cases h
      cases b1.int
      cases b2.int
      unfold mulOk at hm
      rw [Bool.or_eq_true, Bool.and_eq_true, Bool.and_eq_true] at hm
      simp only [decide_eq_true_eq] at hm
      exact ⟨_, fun _ => op_mul, _, _, rfl, rfl, hm, q _ _ .refl sr (.int _)⟩
    · cases h
  · split at h
    · rename_i hm
      cases h
      cases b2.int
      obtain ⟨a, xs, rfl, ha, ta⟩ := b1.list
      refine ⟨_, fun _ => op_rep, a, _, xs, rfl, rfl, ha, hm.1, hm.2.1, by rw [ta.len]; exact hm.2.2, fun p hp => ?_⟩
      obtain ⟨st, sr', sh⟩ := alloc_lst sr hp (ta.rep _)
      exact q _ _ st sr' sh
    · cases h
  · split at h
    · rename_i hm
      cases h
      cases b2.int
      obtain ⟨a, xs, rfl, ha, ta⟩ := b1.tuple
      by_cases hx : xs = []
      · subst hx
        have hy := ta.nil_iff.mp rfl
        subst hy
        refine ⟨_, fun i => k_op (hK i) op_repE, a, _, rfl, rfl, st_of ha, hm.1, hm.2.1, q _ _ .refl sr ?_⟩
        rw [List.flatten_replicate_nil]
        exact .tup ha ta
      · refine ⟨_, fun i => k_op (hK i) op_repT, a, _, xs, rfl, rfl, st_of ha, hx, hm.1, hm.2.1, by rw [ta.len]; exact hm.2.2, fun p hp => ?_⟩
        obtain ⟨st, sr', sh⟩ := alloc_tup sr hp (ta.rep _)
        exact q _ _ st sr' sh
    · cases h
  · split at h
    · rename_i x k hm
      cases h
      cases b1.str
      cases b2.int
      exact ⟨_, fun _ => Eh.op_repS, x, k.toNat, rfl, by rw [Int.toNat_of_nonneg hm.1], hm.2.1, by omega, q _ _ .refl sr (.str _)⟩
    · cases h
  · cases h
theorem ad_mod : Ad2 c X (binaryOp .Mod) dMod := by
  intro O Y σ env H v1 v2 d1 d2 d Q sr b1 b2 h q
  unfold dMod at h
  split at h
  · split at h
    · cases h
      cases b1.int
      cases b2.int
      exact ⟨_, fun _ => op_mod, _, _, rfl, rfl, by assumption, q _ _ .refl sr (.int _)⟩
    · cases h
  · cases h
theorem ad_div : Ad2 c X (binaryOp .FloorDiv) dDiv := by
  intro O Y σ env H v1 v2 d1 d2 d Q sr b1 b2 h q
  unfold dDiv at h
  split at h
  · split at h
    · cases h
      cases b1.int
      cases b2.int
      exact ⟨_, fun _ => op_fdivW, _, _, rfl, rfl, by assumption, q _ _ .refl sr (.int _)⟩
    · cases h
  · cases h
theorem ad_pow : Ad2 c X (binaryOp .Pow) dPow := by
  intro O Y σ env H v1 v2 d1 d2 d Q sr b1 b2 h q
  unfold dPow at h
  split at h
  · split at h
    · cases h
      cases b1.int
      cases b2.int
      exact ⟨_, fun _ => op_pow, _, _, rfl, rfl, by assumption, q _ _ .refl sr (.int _)⟩
    · cases h
  · cases h
theorem ad_ord {o : CmpOp} {f : Int → Int → Bool} (ho : ∀ k, OpR (X k) (compareOp o) (rI0 fun i j => .bl (f i j))) : Ad2 c X (compareOp o) (dOrd f) := by
  intro O Y σ env H v1 v2 d1 d2 d Q sr b1 b2 h q
  unfold dOrd at h
  split at h
  · cases h
    cases b1.int
    cases b2.int
    exact ⟨_, ho, _, _, rfl, rfl, q _ _ .refl sr (.bl _)⟩
  · cases h
theorem ad_lt : Ad2 c X (compareOp .Lt) (dOrd fun i j => decide (i < j)) := ad_ord fun _ => op_lt
theorem ad_le : Ad2 c X (compareOp .LtE) (dOrd fun i j => decide (i ≤ j)) := ad_ord fun _ => op_le
theorem ad_gt : Ad2 c X (compareOp .Gt) (dOrd fun i j => decide (j < i)) := ad_ord fun _ => op_gt
theorem ad_ge : Ad2 c X (compareOp .GtE) (dOrd fun i j => decide (j ≤ i)) := ad_ord fun _ => op_ge
theorem scal_of {v1 v2 : V} {d1 d2 : PyData} (h1 : Sh c.K Y H v1 d1) (h2 : Sh c.K Y H v2 d2) (s1 : scalD d1 = true) (s2 : scalD d2 = true) : (SeqAt.shaped d1 = true ∧ SeqAt.shaped d2 = true) ∨ (scal v1 v2 = true ∧ decide (v1 = v2) = PyData.eqv d1 d2) := by
  have ii : ∀ {i j : Int}, decide (V.int i = V.int j) = PyData.eqv (.int i) (.int j) := by
    intro i j
    simp only [PyData.eqv]
    exact dec_int
  have bb : ∀ {i j : Bool}, decide (V.bl i = V.bl j) = PyData.eqv (.bool i) (.bool j) := by
    intro i j
    simp only [PyData.eqv]
    exact dec_bl
  have ss : ∀ {i j : Str}, decide (V.str i = V.str j) = PyData.eqv (.str i) (.str j) := by
    intro i j
    simp only [PyData.eqv]
    exact dec_str
  have sb : ∀ b : Bool, SeqAt.shaped (.bool b) = true := fun b => by simp [SeqAt.shaped, PyData.canLay0, PyData.depth]
  have si : ∀ b : Int, SeqAt.shaped (.int b) = true := fun b => by simp [SeqAt.shaped, PyData.canLay0, PyData.depth]
  cases h1 <;> cases s1 <;> cases h2 <;> cases s2 <;> first
    | exact .inr ⟨rfl, ii⟩
    | exact .inr ⟨rfl, bb⟩
    | exact .inr ⟨rfl, ss⟩
    | exact .inl ⟨sb _, si _⟩
    | exact .inl ⟨si _, sb _⟩
    | exact .inr ⟨rfl, by simp [PyData.eqv]⟩
theorem shaped_lay {d : PyData} (h : SeqAt.shaped d = true) : d.canLay0 = true := by
  unfold SeqAt.shaped at h
  rw [Bool.and_eq_true] at h
  exact h.1
theorem ad_eq (hK : ∀ i, (X i).K = c.K) (hu : ∀ i, (X i).A.units + 64 < cLine) : Ad2 c X (compareOp .Eq) dEq := by
  intro O Y σ env H v1 v2 d1 d2 d Q sr b1 b2 h q
  unfold dEq at h
  have deep : SeqAt.shaped d1 = true → SeqAt.shaped d2 = true → ROp X (compareOp .Eq) v1 v2 H Q := fun s1 s2 => by
    rw [if_pos (by rw [s1, s2]; simp)] at h
    cases h
    exact ⟨_, fun i => k_op (hK i) (op_eqD (hu i)), d1, d2, b1.dp (shaped_lay s1), b2.dp (shaped_lay s2), s1, s2, q _ _ .refl sr (.bl _)⟩
  split at h
  · rename_i hm
    rw [Bool.or_eq_true, Bool.and_eq_true, Bool.and_eq_true] at hm
    rcases hm with ⟨s1, s2⟩ | ⟨s1, s2⟩
    · rcases scal_of (b1.sh s1) (b2.sh s2) s1 s2 with ⟨s1, s2⟩ | ⟨s, e⟩
      · exact ⟨_, fun i => k_op (hK i) (op_eqD (hu i)), d1, d2, b1.dp (shaped_lay s1), b2.dp (shaped_lay s2), s1, s2, by cases h; exact q _ _ .refl sr (.bl _)⟩
      · cases h
        exact ⟨_, fun _ => op_eq, s, by rw [e]; exact q _ _ .refl sr (.bl _)⟩
    · exact ⟨_, fun i => k_op (hK i) (op_eqD (hu i)), d1, d2, b1.dp (shaped_lay s1), b2.dp (shaped_lay s2), s1, s2, by cases h; exact q _ _ .refl sr (.bl _)⟩
  · cases h
theorem ad_ne (hK : ∀ i, (X i).K = c.K) (hu : ∀ i, (X i).A.units + 64 < cLine) : Ad2 c X (compareOp .NotEq) dNe := by
  intro O Y σ env H v1 v2 d1 d2 d Q sr b1 b2 h q
  unfold dNe at h
  split at h
  · rename_i hm
    rw [Bool.or_eq_true, Bool.and_eq_true, Bool.and_eq_true] at hm
    rcases hm with ⟨s1, s2⟩ | ⟨s1, s2⟩
    · rcases scal_of (b1.sh s1) (b2.sh s2) s1 s2 with ⟨s1, s2⟩ | ⟨s, e⟩
      · exact ⟨_, fun i => k_op (hK i) (op_neD (hu i)), d1, d2, b1.dp (shaped_lay s1), b2.dp (shaped_lay s2), s1, s2, by cases h; exact q _ _ .refl sr (.bl _)⟩
      · cases h
        exact ⟨_, fun _ => op_ne, s, by rw [e]; exact q _ _ .refl sr (.bl _)⟩
    · exact ⟨_, fun i => k_op (hK i) (op_neD (hu i)), d1, d2, b1.dp (shaped_lay s1), b2.dp (shaped_lay s2), s1, s2, by cases h; exact q _ _ .refl sr (.bl _)⟩
  · cases h
theorem Sh.isnon {v : V} {d : PyData} (h : Sh c.K Y H v d) : decide (v = V.non) = isNoneD d := by
  cases h <;> simp [isNoneD]
theorem Bo.isnon {v : V} {d : PyData} (h : Bo c.K Y H v d) : decide (v = V.non) = isNoneD d := by
  rcases h with h | ⟨a, rfl, h⟩
  · exact h.isnon
  · cases h <;> simp [isNoneD]
theorem ad_isN : Ad2 c X (compareOp .Is) dIsN := by
  intro O Y σ env H v1 v2 d1 d2 d Q sr b1 b2 h q
  unfold dIsN at h
  split at h
  · cases h
    have e := b1.isnon
    cases b2.non
    refine ⟨_, fun _ => op_isN, rfl, ?_⟩
    rw [e]
    exact q _ _ .refl sr (.bl _)
  · cases h
theorem ad_notN : Ad2 c X (compareOp .IsNot) dNotN := by
  intro O Y σ env H v1 v2 d1 d2 d Q sr b1 b2 h q
  unfold dNotN at h
  split at h
  · cases h
    have e := b1.isnon
    cases b2.non
    refine ⟨_, fun _ => op_notN, rfl, ?_⟩
    rw [e]
    exact q _ _ .refl sr (.bl _)
  · cases h
end
end Dl
set_option Elab.async false
set_option linter.all false
set_option maxRecDepth 100000
set_option maxHeartbeats 4000000
namespace Dl
open PySem PySem.Spec PyProof.Rows L2 Evl Gx GxR
/-! tests -/
def dTruth : PyData → Option Bool
  | .none => some false
  | .bool b => some b
  | .int i => some (i != 0)
  | .str x => if x.length ≤ sizeLine then some ((x.length : Int) != 0) else none
  | .list xs => some (!xs.isEmpty)
  | .tuple xs => some (!xs.isEmpty)
  | .dict _ => none
def fTr (F : DEnv → R BD) : DEnv → R Bool := fun env => (F env).bind fun b e => R.of ((b.get e).bind dTruth) e
def fNot (F : DEnv → R Bool) : DEnv → R Bool := fun env => (F env).bind fun b e => .ok (!b) e
def fAnd (F G : DEnv → R Bool) : DEnv → R Bool := fun env => (F env).bind fun b e => if b = true then G e else .ok false e
def fOr (F G : DEnv → R Bool) : DEnv → R Bool := fun env => (F env).bind fun b e => if b = true then .ok true e else G e
def fIte {α : Type} (F : DEnv → R Bool) (A B : DEnv → R α) : DEnv → R α := fun env => (F env).bind fun b e => if b = true then A e else B e
def RW {ι : Type} (X : ι → Cx) (e : Expr) : TT := fun σ H Q => ∃ t, (∀ i, PW (X i) e t) ∧ t σ H Q
theorem RW.pw {ι : Type} {X : ι → Cx} {e : Expr} (i : ι) : PW (X i) e (RW X e) := ⟨fun wh pins s σ H Q I ⟨_, h, q⟩ => (h i).run wh pins s σ H Q I q⟩
abbrev SW {ι : Type} (c : Cs) (W : WX) (X : ι → Cx) (e : Expr) (F : DEnv → R Bool) : Prop := Sd c RBl W (RW X e) F
section
variable {c : Cs} {O O' : List Addr} {Y Y' : Addr → Prop} {H H' : Hp} {σ : L2.St} {env env' : DEnv} {W : WX} {ι : Type} {X : ι → Cx} {a b e : Expr} {rest : List Expr} {pos : Pos}
theorem emp_iff {vs : List V} {ds : List PyData} (h : ShA c.K Y H vs ds) : (!vs.isEmpty) = (!ds.isEmpty) := by
  cases h <;> rfl
theorem Bo.tru {v : V} {d : PyData} {k : Bool} (h : Bo c.K Y H v d) (t : dTruth d = some k) : TruV c.K v H k := by
  cases d with
  | none =>
    cases h.non
    cases t
    rfl
  | bool b =>
    cases h.bl
    cases t
    rfl
  | int i =>
    cases h.int
    cases t
    rfl
  | str x =>
    cases h.str
    have t : (if x.length ≤ sizeLine then some ((x.length : Int) != 0) else none) = some k := t
    split at t
    · cases t
      exact ⟨by assumption, rfl⟩
    · cases t
  | list ds =>
    obtain ⟨a, xs, rfl, ha, ta⟩ := h.list
    cases t
    exact .inl ⟨xs, sq_of ha, (emp_iff ta).symm⟩
  | tuple ds =>
    obtain ⟨a, xs, rfl, ha, ta⟩ := h.tuple
    cases t
    exact .inr (.inl ⟨xs, st_of ha, (emp_iff ta).symm⟩)
  | dict es => cases t
theorem st_val {F : DEnv → R BD} (hK : ∀ i, (X i).K = c.K) (h : SB c W X e F) (he : ∀ i whole, isTrue e (X i).env whole = (do let v ← whole; standAt e.pos; holding [v] (truthy v))) : ST c W X e (fTr F) := fun O Y σ env H Q sr p => by
  refine ⟨fun σ H Q => RD X e σ H fun x H' => ∃ k, TruV c.K x H' k ∧ Q k H', fun i => hK i ▸ pt_truth (RD.pe i) (he i), h.next sr p fun d e1 v H1 O1 Y1 st sr1 r p1 => ?_⟩
  obtain ⟨k, hk, p2⟩ := of_post p1
  obtain ⟨x, hx, hk⟩ := Option.bind_eq_some_iff.mp hk
  exact ⟨k, (r.bo sr1 hx).tru hk, p2 k H1 O1 Y1 .refl sr1 rfl⟩
theorem st_not {F : DEnv → R Bool} (h : ST c W X a F) : ST c W X (.UnaryOp .Not a pos) (fNot F) := fun O Y σ env H Q sr p =>
  ⟨_, fun i => pt_not (RT.pt i), h.next sr p fun d e1 b H1 O1 Y1 st sr1 r p1 => by
    cases r
    exact p1 _ H1 O1 Y1 .refl sr1 rfl⟩
theorem sw_and1 {F : DEnv → R Bool} (h : ST c W X a F) : SW c W X (.BoolOp .And [a] pos) F := fun O Y σ env H Q sr p => ⟨_, fun i => pw_and1 (RT.pt i), h O Y σ env H Q sr p⟩
theorem sw_or1 {F : DEnv → R Bool} (h : ST c W X a F) : SW c W X (.BoolOp .Or [a] pos) F := fun O Y σ env H Q sr p => ⟨_, fun i => pw_or1 (RT.pt i), h O Y σ env H Q sr p⟩
theorem sw_and {F G : DEnv → R Bool} (h : ST c W X a F) (g : SW c W X (.BoolOp .And (b :: rest) pos) G) : SW c W X (.BoolOp .And (a :: b :: rest) pos) (fAnd F G) := fun O Y σ env H Q sr p =>
  ⟨_, fun i => pw_and (RT.pt i) (RW.pw i), h.next sr p fun d e1 k H1 O1 Y1 st sr1 r p1 => by
    have r : k = d := r
    subst r
    cases k with
    | true => exact iteT (g O1 Y1 σ e1 H1 Q sr1 p1)
    | false => exact iteF (p1 _ H1 O1 Y1 .refl sr1 rfl)⟩
theorem sw_or {F G : DEnv → R Bool} (h : ST c W X a F) (g : SW c W X (.BoolOp .Or (b :: rest) pos) G) : SW c W X (.BoolOp .Or (a :: b :: rest) pos) (fOr F G) := fun O Y σ env H Q sr p =>
  ⟨_, fun i => pw_or (RT.pt i) (RW.pw i), h.next sr p fun d e1 k H1 O1 Y1 st sr1 r p1 => by
    have r : k = d := r
    subst r
    cases k with
    | true => exact iteT (p1 _ H1 O1 Y1 .refl sr1 rfl)
    | false => exact iteF (g O1 Y1 σ e1 H1 Q sr1 p1)⟩
theorem st_w {F : DEnv → R Bool} (h : SW c W X e F) : ST c W X e F := fun O Y σ env H Q sr p => ⟨_, fun i => (RW.pw i).pt, h O Y σ env H Q sr p⟩
/-! as values -/
def fAndV (F G : DEnv → R PyData) : DEnv → R PyData := fun env => (F env).bind fun d e => match dTruth d with
  | some true => G e
  | some false => .ok d e
  | none => .bad
def fOrV (F G : DEnv → R PyData) : DEnv → R PyData := fun env => (F env).bind fun d e => match dTruth d with
  | some true => .ok d e
  | some false => G e
  | none => .bad
def fNotV (F : DEnv → R BD) : DEnv → R PyData := fun env => (F env).bind fun b e => R.of (((b.get e).bind dTruth).map fun k => .bool (!k)) e
theorem se_one {op : BoolOp} {F : DEnv → R PyData} (h : SE c W X a F) : SE c W X (.BoolOp op [a] pos) F := fun O Y σ env H Q sr p => ⟨_, fun i => pe_one (RD.pe i), h O Y σ env H Q sr p⟩
theorem se_and {F G : DEnv → R PyData} (hK : ∀ i, (X i).K = c.K) (h : SE c W X a F) (g : SE c W X (.BoolOp .And (b :: rest) pos) G) : SE c W X (.BoolOp .And (a :: b :: rest) pos) (fAndV F G) := fun O Y σ env H Q sr p => by
  refine ⟨tAndT c.K (RD X a) (RD X (.BoolOp .And (b :: rest) pos)), fun i => hK i ▸ pe_andT (RD.pe i) (RD.pe i), h.next sr p fun d e1 v H1 O1 Y1 st sr1 r p1 => ?_⟩
  split at p1
  · rename_i ht
    exact ⟨true, Bo.tru (.inl r) ht, iteT (g O1 Y1 σ e1 H1 Q sr1 p1)⟩
  · rename_i ht
    exact ⟨false, Bo.tru (.inl r) ht, iteF (p1 _ H1 O1 Y1 .refl sr1 r)⟩
  · exact p1.elim
theorem se_or {F G : DEnv → R PyData} (hK : ∀ i, (X i).K = c.K) (h : SE c W X a F) (g : SE c W X (.BoolOp .Or (b :: rest) pos) G) : SE c W X (.BoolOp .Or (a :: b :: rest) pos) (fOrV F G) := fun O Y σ env H Q sr p => by
  refine ⟨tOrT c.K (RD X a) (RD X (.BoolOp .Or (b :: rest) pos)), fun i => hK i ▸ pe_orT (RD.pe i) (RD.pe i), h.next sr p fun d e1 v H1 O1 Y1 st sr1 r p1 => ?_⟩
  split at p1
  · rename_i ht
    exact ⟨true, Bo.tru (.inl r) ht, iteT (p1 _ H1 O1 Y1 .refl sr1 r)⟩
  · rename_i ht
    exact ⟨false, Bo.tru (.inl r) ht, iteF (g O1 Y1 σ e1 H1 Q sr1 p1)⟩
  · exact p1.elim
theorem se_not {F : DEnv → R BD} (hK : ∀ i, (X i).K = c.K) (h : SB c W X a F) : SE c W X (.UnaryOp .Not a pos) (fNotV F) := fun O Y σ env H Q sr p => by
  refine ⟨tNotT c.K (RD X a), fun i => hK i ▸ pe_notT (RD.pe i), h.next sr p fun d e1 v H1 O1 Y1 st sr1 r p1 => ?_⟩
  obtain ⟨z, hk, p2⟩ := of_post p1
  obtain ⟨k, hk2, rfl⟩ := Option.map_eq_some_iff.mp hk
  obtain ⟨x, hx, hk3⟩ := Option.bind_eq_some_iff.mp hk2
  exact ⟨k, (r.bo sr1 hx).tru hk3, p2 _ H1 O1 Y1 .refl sr1 (.bl _)⟩
theorem se_ite {t : Expr} {T : DEnv → R Bool} {F G : DEnv → R PyData} (ht : ST c W X t T) (h : SE c W X a F) (g : SE c W X b G) : SE c W X (.IfExp t a b pos) (fIte T F G) := fun O Y σ env H Q sr p =>
  ⟨_, fun i => pe_ifExp (RT.pt i) (RD.pe i) (RD.pe i), ht.next sr p fun d e1 k H1 O1 Y1 st sr1 r p1 => by
    have r : k = d := r
    subst r
    cases k with
    | true => exact iteT (h O1 Y1 σ e1 H1 Q sr1 p1)
    | false => exact iteF (g O1 Y1 σ e1 H1 Q sr1 p1)⟩
/-- a test whose expression is a conditional one -/
def fNeg (F : DEnv → R BD) : DEnv → R PyData := fun env => (F env).bind fun b e => R.of ((b.get e).bind fun d => match d with | .int i => some (.int (-i)) | _ => none) e
theorem se_neg {F : DEnv → R BD} (h : SB c W X a F) : SE c W X (.UnaryOp .USub a pos) (fNeg F) := fun O Y σ env H Q sr p => by
  refine ⟨_, fun i => pe_un (RUn.un i) (RD.pe i), h.next sr p fun d e1 v H1 O1 Y1 st sr1 r p1 => ?_⟩
  obtain ⟨z, hk, p2⟩ := of_post p1
  obtain ⟨x, hx, hk⟩ := Option.bind_eq_some_iff.mp hk
  have bo := r.bo sr1 hx
  split at hk
  · cases hk
    cases bo.int
    exact ⟨_, fun _ => un_neg, _, rfl, p2 _ H1 O1 Y1 .refl sr1 (.int _)⟩
  · cases hk
/-! subscripts -/
def dIxS (x y : PyData) : Option PyData := match x, y with
  | .list xs, .int i => atI xs i
  | .tuple xs, .int i => atI xs i
  | .str z, .int i => if z.length ≤ sizeLine then (atI z.cps.toList i).map fun q => .str ⟨#[q]⟩ else none
  | _, _ => none
theorem ShA.at {vs : List V} {ds : List PyData} {i : Int} {d : PyData} (h : ShA c.K Y H vs ds) (e : atI ds i = some d) : ∃ v, atI vs i = some v ∧ Sh c.K Y H v d := by
  unfold atI at e ⊢
  rw [h.len]
  obtain ⟨j, hj, e⟩ := Option.bind_eq_some_iff.mp e
  obtain ⟨v, hv, s⟩ := h.get e
  exact ⟨v, by rw [hj]; exact hv, s⟩
theorem se_ixS {Fa Fb : DEnv → R BD} (hK : ∀ i, (X i).K = c.K) (ha : SB c W X a Fa) (hb : SB c W X b Fb) (hs : PlainIx b) : SE c W X (.Subscript a b pos) (f2 dIxS Fa Fb) := fun O Y σ env H Q sr p => by
  refine ⟨_, fun i => pe_ix (RIx.ix i) (RD.pe i) (RD.pe i) hs, two ha hb sr p fun O2 Y2 e2 H2 x y d1 d2 d sr2 b1 b2 h q => ?_⟩
  unfold dIxS at h
  split at h
  · cases b2.int
    obtain ⟨l, xs, rfl, hl, tl⟩ := b1.list
    obtain ⟨v, hv, s⟩ := tl.at h
    exact ⟨_, fun i => k_ix (hK i) ix_list, l, xs, _, v, rfl, rfl, sq_of hl, hv, q v H2 .refl sr2 s⟩
  · cases b2.int
    obtain ⟨l, xs, rfl, hl, tl⟩ := b1.tuple
    obtain ⟨v, hv, s⟩ := tl.at h
    exact ⟨_, fun i => k_ix (hK i) ix_tup, l, xs, _, v, rfl, rfl, Evl.st_of hl, hv, q v H2 .refl sr2 s⟩
  · split at h
    · cases b2.int
      cases b1.str
      obtain ⟨k, hk, rfl⟩ := Option.map_eq_some_iff.mp h
      exact ⟨_, fun _ => ix_str, _, _, k, rfl, rfl, by assumption, hk, q _ H2 .refl sr2 (.str _)⟩
    · cases h
  · cases h
/-! slices -/
def RSlc {ι : Type} (X : ι → Cx) : V → Option Int → Option Int → Hp → VK → Prop := fun x lo hi H Q => ∃ r, (∀ i, SlR (X i) r) ∧ r x lo hi H Q
theorem RSlc.sl (i : ι) : SlR (X i) (RSlc X) := fun pins s σ H x v vl vu lo hi sl Q I rx hs pl pu ⟨r, h, q⟩ => h i pins s σ H x v vl vu lo hi sl Q I rx hs pl pu q
theorem k_sl {X : Cx} {K : PySem.W.Frag} {r : PySem.W.Frag → V → Option Int → Option Int → Hp → VK → Prop} (hK : X.K = K) (h : SlR X (r X.K)) : SlR X (r K) := hK ▸ h
def cutD (xs : List PyData) (lo hi : Option Int) : List PyData := (xs.drop (HT.sIx xs.length 0 lo)).take (HT.sIx xs.length xs.length hi - HT.sIx xs.length 0 lo)
def dSl (x : PyData) (lo hi : Option Int) : Option PyData := match x with
  | .list xs => some (.list (cutD xs lo hi))
  | .tuple xs => some (.tuple (cutD xs lo hi))
  | .str z => if z.length ≤ sizeLine then some (.str (cutS z lo hi)) else none
  | _ => none
def RIn : RelT (Option Int) (Option Int) := fun _ _ _ _ _ b d => b = d
abbrev SP' {ι : Type} (c : Cs) (W : WX) (X : ι → Cx) (e : Option Expr) (F : DEnv → R (Option Int)) : Prop := Sd c RIn W (RO X e) F
def fNoP : DEnv → R (Option Int) := fun env => .ok none env
def fPart (F : DEnv → R PyData) : DEnv → R (Option Int) := fun env => (F env).bind fun d e => match d with
  | .int i => .ok (some i) e
  | _ => .bad
theorem sp_none : SP' c W X none fNoP := fun O Y σ env H Q sr p => ⟨_, fun _ => po_none, p none H O Y .refl sr rfl⟩
theorem sp_some {F : DEnv → R PyData} (h : SE c W X e F) : SP' c W X (some e) (fPart F) := fun O Y σ env H Q sr p =>
  ⟨_, fun i => po_some (RD.pe i), h.next sr p fun d e1 v H1 O1 Y1 st sr1 r p1 => by
    cases d with
    | int i =>
      cases r
      exact ⟨i, rfl, p1 _ H1 O1 Y1 .refl sr1 rfl⟩
    | _ => exact p1.elim⟩
def fSl (F : DEnv → R BD) (L U : DEnv → R (Option Int)) : DEnv → R PyData := fun env => (F env).bind fun b e1 => (L e1).bind fun l e2 => (U e2).bind fun u e3 => R.of ((b.get e3).bind fun x => dSl x l u) e3
theorem cut_full {xs : List PyData} {lo hi : Option Int} (h : HT.sIx xs.length 0 lo = 0 ∧ HT.sIx xs.length xs.length hi = xs.length) : cutD xs lo hi = xs := by
  unfold cutD
  rw [h.1, h.2, Nat.sub_zero, List.drop_zero, List.take_length]
theorem ShA.cut {vs : List V} {ds : List PyData} (h : ShA c.K Y H vs ds) (lo hi : Option Int) : ShA c.K Y H (cutV vs lo hi) (cutD ds lo hi) := by
  unfold cutV cutD
  rw [h.len]
  exact (h.drop _).take _
theorem se_sl {lo hi : Option Expr} {p2 : Pos} {F : DEnv → R BD} {L U : DEnv → R (Option Int)} (hK : ∀ i, (X i).K = c.K) (h : SB c W X a F) (hl : SP' c W X lo L) (hu : SP' c W X hi U) : SE c W X (.Subscript a (.Slice lo hi none p2) pos) (fSl F L U) := fun O Y σ env H Q sr p => by
  refine ⟨_, fun i => pe_slice (RSlc.sl i) (RD.pe i) (RO.po i) (RO.po i), h.next sr p fun d e1 v H1 O1 Y1 st1 sr1 r p1 => ?_⟩
  refine hl.next sr1 p1 fun l e2 l' H2 O2 Y2 st2 sr2 el p2 => ?_
  refine hu.next sr2 p2 fun u e3 u' H3 O3 Y3 st3 sr3 eu p3 => ?_
  cases el
  cases eu
  obtain ⟨z, hz, p4⟩ := of_post p3
  obtain ⟨x, hx, hz⟩ := Option.bind_eq_some_iff.mp hz
  have r3 := RBo.mv (O' := O3) (env' := e3) (RBo.mv (O' := O2) (env' := e2) r (sr1.mv st2)) (sr2.mv st3)
  have bo := r3.bo sr3 hx
  unfold dSl at hz
  split at hz
  · cases hz
    obtain ⟨a, xs, rfl, ha, ta⟩ := bo.list
    refine ⟨_, fun i => k_sl (hK i) sl_list, a, xs, rfl, sq_of ha, fun p hp => ?_⟩
    obtain ⟨st, sr', sh⟩ := alloc_lst sr3 hp (ta.cut _ _)
    exact p4 _ _ _ _ st sr' sh
  · cases hz
    obtain ⟨a, xs, rfl, ha, ta⟩ := bo.tuple
    refine ⟨_, fun i => k_sl (hK i) sl_tupA, a, xs, rfl, Evl.st_of ha, fun hw => ?_, fun hw p hp => ?_⟩
    · rw [ta.len] at hw
      refine p4 _ _ _ _ .refl sr3 ?_
      rw [cut_full hw]
      exact .tup ha ta
    · obtain ⟨st, sr', sh⟩ := alloc_tup sr3 hp (ta.cut _ _)
      exact p4 _ _ _ _ st sr' sh
  · split at hz
    · cases hz
      cases bo.str
      exact ⟨_, fun _ => sl_str, _, rfl, by assumption, p4 _ _ _ _ .refl sr3 (.str _)⟩
    · cases hz
  · cases hz
/-! displays, argument lists of data -/
def RShA (c : Cs) : RelT (List PyData) (List V) := fun _ Y _ _ H vs ds => ShA c.K Y H vs ds
abbrev SAs {ι : Type} (c : Cs) (W : WX) (X : ι → Cx) (es : List Expr) (F : DEnv → R (List PyData)) : Prop := Sd c (RShA c) W (RA X es) F
def fNil : DEnv → R (List PyData) := fun env => .ok [] env
def fCons (F : DEnv → R PyData) (G : DEnv → R (List PyData)) : DEnv → R (List PyData) := fun env => (F env).bind fun d e => (G e).bind fun ds e2 => .ok (d :: ds) e2
theorem sas_nil : SAs c W X [] fNil := fun O Y σ env H Q sr p => ⟨_, fun _ => pa_nil, p [] H O Y .refl sr .nil⟩
theorem sas_cons {es : List Expr} {F : DEnv → R PyData} {G : DEnv → R (List PyData)} (h : SE c W X e F) (g : SAs c W X es G) (hs : ∀ i, starEach (e :: es) (X i).env = (false, eval e (X i).env) :: starEach es (X i).env := by intro _; rfl) : SAs c W X (e :: es) (fCons F G) := fun O Y σ env H Q sr p =>
  ⟨_, fun i => pa_cons (RD.pe i) (RA.pa i) (hs i), h.next sr p fun d e1 v H1 O1 Y1 st1 sr1 r1 p1 => g.next sr1 p1 fun ds e2 vs H2 O2 Y2 st2 sr2 r2 p2 => p2 _ H2 O2 Y2 .refl sr2 (.cons (Sh.mv (sr1.mv st2) r1) r2)⟩
def fTup (G : DEnv → R (List PyData)) : DEnv → R PyData := fun env => (G env).bind fun ds e => if ds.length ≤ sizeLine then .ok (.tuple ds) e else .bad
def fLst (G : DEnv → R (List PyData)) : DEnv → R PyData := fun env => (G env).bind fun ds e => if ds.length ≤ sizeLine then .ok (.list ds) e else .bad
theorem se_tup {es : List Expr} {x1 : Nat} {G : DEnv → R (List PyData)} (g : SAs c W X es G) : SE c W X (.Tuple es x1 pos) (fTup G) := fun O Y σ env H Q sr p => by
  refine ⟨_, fun i => pe_tup (RA.pa i), g.next sr p fun ds e1 vs H1 O1 Y1 st1 sr1 r1 p1 => ?_⟩
  split at p1
  · refine ⟨by rw [ShA.len r1]; assumption, fun q hq => ?_⟩
    obtain ⟨st, sr', sh⟩ := alloc_tup sr1 hq r1
    exact p1 _ _ _ _ st sr' sh
  · exact p1.elim
theorem so_lst {es : List Expr} {G : DEnv → R (List PyData)} (g : SAs c W X es G) : SO c W X (.List es pos) (fLst G) := fun O Y σ env H Q sr p => by
  refine ⟨_, fun i => pe_lst (RA.pa i), g.next sr p fun ds e1 vs H1 O1 Y1 st1 sr1 r1 p1 => ?_⟩
  split at p1
  · refine ⟨by rw [ShA.len r1]; assumption, fun q hq => ?_⟩
    obtain ⟨st, sr', fr, m⟩ := own_new (o := .lst vs) sr1 hq rfl
    exact p1 _ _ _ _ st sr' ⟨q, rfl, List.mem_cons_self, fr, .lst upd_same (ShA.mv m r1)⟩
  · exact p1.elim
end
end Dl
set_option Elab.async false
set_option linter.all false
set_option maxRecDepth 100000
set_option maxHeartbeats 4000000
namespace Dl
open PySem PySem.Spec PyProof.Rows L2 Evl Gx GxR
/-! statements -/
inductive Flow where
  | next (env : DEnv)
  | ret (fr : Bool) (d : PyData) (env : DEnv)
  | brk (env : DEnv)
  | cont (env : DEnv)
  | exc (x : ExD) (env : DEnv)
  | bad
def R.toF {α : Type} (r : R α) (k : α → DEnv → Flow) : Flow := match r with
  | .ok a e => k a e
  | .exc x e => .exc x e
  | .bad => .bad
@[simp] theorem R.ok_toF {α : Type} (a : α) (e : DEnv) (k : α → DEnv → Flow) : (R.ok a e).toF k = k a e := rfl
@[simp] theorem R.exc_toF {α : Type} (x : ExD) (e : DEnv) (k : α → DEnv → Flow) : (R.exc x e).toF k = .exc x e := rfl
@[simp] theorem R.bad_toF {α : Type} (k : α → DEnv → Flow) : (R.bad : R α).toF k = .bad := rfl
def Flow.then (f : Flow) (k : DEnv → Flow) : Flow := match f with
  | .next e => k e
  | r => r
@[simp] theorem Flow.next_then (e : DEnv) (k : DEnv → Flow) : (Flow.next e).then k = k e := rfl
def RRet (c : Cs) (fr : Bool) : RelT PyData V := if fr = true then ROw c else RSh c
def FPost (c : Cs) (O : List Addr) (Y : Addr → Prop) (H : Hp) (D : Ends) (W : WX) : Flow → Prop
  | .next e => ∀ (σ : L2.St) (H' : Hp) (O' : List Addr) (Y' : Addr → Prop), Step O Y H O' Y' H' → SR c O' Y' σ e H' → D.nx σ H'
  | .ret fr d e => ∀ (v : V) (σ : L2.St) (H' : Hp) (O' : List Addr) (Y' : Addr → Prop), Step O Y H O' Y' H' → SR c O' Y' σ e H' → RRet c fr O' Y' σ e H' v d → D.rt v H'
  | .brk e => ∀ (σ : L2.St) (H' : Hp) (O' : List Addr) (Y' : Addr → Prop), Step O Y H O' Y' H' → SR c O' Y' σ e H' → D.bk σ H'
  | .cont e => ∀ (σ : L2.St) (H' : Hp) (O' : List Addr) (Y' : Addr → Prop), Step O Y H O' Y' H' → SR c O' Y' σ e H' → D.ct σ H'
  | .exc x e => ∀ (cl : Value) (dd : Option Addr) (σ : L2.St) (H' : Hp) (O' : List Addr) (Y' : Addr → Prop), Step O Y H O' Y' H' → SR c O' Y' σ e H' → ExcAt c x H' cl dd → W cl dd σ H'
  | .bad => False
def SS {ι : Type} (c : Cs) (W : WX) (X : ι → Cx) (s : Stmt) (G : DEnv → Flow) : Prop := ∀ (O : List Addr) (Y : Addr → Prop) (σ : L2.St) (env : DEnv) (H : Hp) (D : Ends), SR c O Y σ env H → FPost c O Y H D W (G env) → RS X s D σ H
def SSs {ι : Type} (c : Cs) (W : WX) (X : ι → Cx) (s : List Stmt) (G : DEnv → Flow) : Prop := ∀ (O : List Addr) (Y : Addr → Prop) (σ : L2.St) (env : DEnv) (H : Hp) (D : Ends), SR c O Y σ env H → FPost c O Y H D W (G env) → RSs X s D σ H
section
variable {α β : Type} {c : Cs} {Rel : RelT α β} {O O' : List Addr} {Y Y' : Addr → Prop} {H H' : Hp} {σ : L2.St} {env : DEnv} {D : Ends} {W : WX} {ι : Type} {X : ι → Cx}
theorem FPost.shift {f : Flow} (p : FPost c O Y H D W f) (yd : ∀ a, Y a → H a ≠ none) (st : Step O Y H O' Y' H') : FPost c O' Y' H' D W f := by
  cases f with
  | next e => exact fun σ H2 O2 Y2 s sr => p σ H2 O2 Y2 (st.trans yd s) sr
  | ret fr d e => exact fun v σ H2 O2 Y2 s sr => p v σ H2 O2 Y2 (st.trans yd s) sr
  | brk e => exact fun σ H2 O2 Y2 s sr => p σ H2 O2 Y2 (st.trans yd s) sr
  | cont e => exact fun σ H2 O2 Y2 s sr => p σ H2 O2 Y2 (st.trans yd s) sr
  | exc x e => exact fun cl dd σ H2 O2 Y2 s sr => p cl dd σ H2 O2 Y2 (st.trans yd s) sr
  | bad => exact p
theorem Sd.nextF {rd : L2.St → Hp → (β → Hp → Prop) → Prop} {F : DEnv → R α} {k : α → DEnv → Flow} {R' : β → Hp → Prop} (h : Sd c Rel W rd F) (sr : SR c O Y σ env H) (p : FPost c O Y H D W ((F env).toF k))
    (n : ∀ (d : α) (e : DEnv) (b : β) (H1 : Hp) (O1 : List Addr) (Y1 : Addr → Prop), Step O Y H O1 Y1 H1 → SR c O1 Y1 σ e H1 → Rel O1 Y1 σ e H1 b d → FPost c O1 Y1 H1 D W (k d e) → R' b H1) : rd σ H R' := by
  refine h O Y σ env H R' sr ?_
  cases hF : F env with
  | ok d e =>
    rw [hF] at p
    exact fun b H1 O1 Y1 st sr1 rel => n d e b H1 O1 Y1 st sr1 rel (FPost.shift p sr.yd st)
  | exc x e =>
    rw [hF] at p
    exact fun cl dd H1 O1 Y1 st sr1 ea => p cl dd σ H1 O1 Y1 st sr1 ea
  | bad =>
    rw [hF] at p
    exact p.elim
end
section
variable {c : Cs} {O O' : List Addr} {Y Y' : Addr → Prop} {H H' : Hp} {σ : L2.St} {env : DEnv} {D : Ends} {W : WX} {ι : Type} {X : ι → Cx} {e : Expr} {s : Stmt} {rest ss : List Stmt} {pos : Pos}
def gNone : DEnv → Flow := fun env => .next env
theorem sss_nil : SSs c W X [] gNone := fun O Y σ env H D sr p => ⟨_, fun _ => pss_nil, p σ H O Y .refl sr⟩
theorem sss_one {G : DEnv → Flow} (h : SS c W X s G) : SSs c W X [s] G := fun O Y σ env H D sr p => ⟨_, fun i => pss_one (RS.ps i), h O Y σ env H D sr p⟩
def gSeq (G K : DEnv → Flow) : DEnv → Flow := fun env => (G env).then K
theorem sss_cons {G K : DEnv → Flow} (h : SS c W X s G) (k : SSs c W X rest K) : SSs c W X (s :: rest) (gSeq G K) := fun O Y σ env H D sr p => by
  refine ⟨_, fun i => pss_cons (RS.ps i) (RSs.pss i), h O Y σ env H _ sr ?_⟩
  unfold gSeq at p
  cases hG : G env with
  | next e1 =>
    rw [hG] at p
    exact fun σ1 H1 O1 Y1 st sr1 => k O1 Y1 σ1 e1 H1 D sr1 (p.shift sr.yd st)
  | ret fr d e1 => rw [hG] at p; exact p
  | brk e1 => rw [hG] at p; exact p
  | cont e1 => rw [hG] at p; exact p
  | exc x e1 => rw [hG] at p; exact p
  | bad => rw [hG] at p; exact p
theorem ss_pass : SS c W X (.Pass pos) gNone := fun O Y σ env H D sr p => ⟨_, fun _ => ps_pass, p σ H O Y .refl sr⟩
def gBrk : DEnv → Flow := fun env => .brk env
def gCont : DEnv → Flow := fun env => .cont env
theorem ss_break : SS c W X (.Break pos) gBrk := fun O Y σ env H D sr p => ⟨_, fun _ => ps_break, p σ H O Y .refl sr⟩
theorem ss_continue : SS c W X (.Continue pos) gCont := fun O Y σ env H D sr p => ⟨_, fun _ => ps_continue, p σ H O Y .refl sr⟩
/-- name = value -/
def gSet (i : Nat) (F : DEnv → R PyData) : DEnv → Flow := fun env => (F env).toF fun d e => .next (e.set i (some (.shr d)))
def gOwn (i : Nat) (F : DEnv → R PyData) : DEnv → Flow := fun env => (F env).toF fun d e => .next (e.set i (some (.own d)))
theorem ss_set {i : Nat} {x : Str} {F : DEnv → R PyData} {pos' : Pos} (hN : ∀ k, (X k).N.Nodup) (hi : ∀ k, (X k).N[i]? = some x) (hx : ∀ k, Loc (X k).env.scope x) (h : SE c W X e F) (hs : ∀ k, swapsWith e (some (.Name x pos')) pos.line (X k).env = pure false := by intro _; rfl) (hf : ∀ k, (X k).fn x = true ∨ (X k).env.scope.names.lookup x = some .local := by first | exact fun _ => .inl rfl | exact fun _ => .inr rfl | assumption) :
    SS c W X (.Assign [.Name x pos'] e pos) (gSet i F) := fun O Y σ env H D sr p =>
  ⟨_, fun k => ps_set (hN k) (hi k) (hx k) (RD.pe k) (hs k) (hf k), h.nextF sr p fun d e1 v H1 O1 Y1 st sr1 r p1 => p1 _ H1 O1 Y1 .refl (sr1.setS r)⟩
theorem ss_own {i : Nat} {x : Str} {F : DEnv → R PyData} {pos' : Pos} (hN : ∀ k, (X k).N.Nodup) (hi : ∀ k, (X k).N[i]? = some x) (hx : ∀ k, Loc (X k).env.scope x) (h : SO c W X e F) (hs : ∀ k, swapsWith e (some (.Name x pos')) pos.line (X k).env = pure false := by intro _; rfl) (hf : ∀ k, (X k).fn x = true ∨ (X k).env.scope.names.lookup x = some .local := by first | exact fun _ => .inl rfl | exact fun _ => .inr rfl | assumption) :
    SS c W X (.Assign [.Name x pos'] e pos) (gOwn i F) := fun O Y σ env H D sr p =>
  ⟨_, fun k => ps_set (hN k) (hi k) (hx k) (RD.pe k) (hs k) (hf k), h.nextF sr p fun d e1 v H1 O1 Y1 st sr1 r p1 => by
    obtain ⟨a, rfl, ha, hf, t⟩ := r
    exact p1 _ H1 O1 Y1 .refl (sr1.setO ha hf t)⟩
def gExpr {α : Type} (F : DEnv → R α) : DEnv → Flow := fun env => (F env).toF fun _ e => .next e
theorem ss_expr {α : Type} {Rel : RelT α V} {F : DEnv → R α} (h : Sd c Rel W (RD X e) F) (hs : ∀ k, swapsWith e none pos.line (X k).env = pure false := by intro _; rfl) : SS c W X (.Expr e pos) (gExpr F) := fun O Y σ env H D sr p =>
  ⟨_, fun i => ps_expr (RD.pe i) (hs i), h.nextF sr p fun d e1 v H1 O1 Y1 st sr1 r p1 => p1 _ H1 O1 Y1 .refl sr1⟩
def gRet (fr : Bool) (F : DEnv → R PyData) : DEnv → Flow := fun env => (F env).toF fun d e => .ret fr d e
theorem ss_ret {F : DEnv → R PyData} (h : SE c W X e F) : SS c W X (.Return (some e) pos) (gRet false F) := fun O Y σ env H D sr p =>
  ⟨_, fun i => ps_ret (RD.pe i), h.nextF sr p fun d e1 v H1 O1 Y1 st sr1 r p1 => p1 v σ H1 O1 Y1 .refl sr1 r⟩
theorem ss_retO {F : DEnv → R PyData} (h : SO c W X e F) : SS c W X (.Return (some e) pos) (gRet true F) := fun O Y σ env H D sr p =>
  ⟨_, fun i => ps_ret (RD.pe i), h.nextF sr p fun d e1 v H1 O1 Y1 st sr1 r p1 => p1 v σ H1 O1 Y1 .refl sr1 r⟩
def gRetN : DEnv → Flow := fun env => .ret false .none env
theorem ss_retN : SS c W X (.Return none pos) gRetN := fun O Y σ env H D sr p => ⟨_, fun _ => ps_retN, p .non σ H O Y .refl sr .non⟩
def gIf (T : DEnv → R Bool) (A B : DEnv → Flow) : DEnv → Flow := fun env => (T env).toF fun b e => if b = true then A e else B e
theorem ss_if {t : Expr} {a b : List Stmt} {T : DEnv → R Bool} {A B : DEnv → Flow} (ht : ST c W X t T) (ha : SSs c W X a A) (hb : SSs c W X b B) : SS c W X (.If t a b pos) (gIf T A B) := fun O Y σ env H D sr p =>
  ⟨_, fun i => ps_if (RT.pt i) (RSs.pss i) (RSs.pss i), ht.nextF sr p fun d e1 k H1 O1 Y1 st sr1 r p1 => by
    have r : k = d := r
    subst r
    cases k with
    | true => exact iteT (ha O1 Y1 σ e1 H1 D sr1 p1)
    | false => exact iteF (hb O1 Y1 σ e1 H1 D sr1 p1)⟩
/-- what one's own name holds is moved out -/
def fMove (i : Nat) : DEnv → R PyData := fun env => match slotAt env i with
  | some (.own d) => .ok d (env.set i none)
  | _ => .bad
theorem so_move {i : Nat} {x : Str} (pv : ∀ k, PE (X k) (.Name x pos) (tVar i)) : SO c W X (.Name x pos) (fMove i) := fun O Y σ env H Q sr p => by
  refine ⟨_, pv, ?_⟩
  unfold fMove at p
  cases h : slotAt env i with
  | none =>
    rw [h] at p
    exact p.elim
  | some s =>
    rw [h] at p
    have hs := slotAt_some h
    obtain ⟨v, hv, q⟩ := sr.sl i s hs
    cases s with
    | shr d => exact p.elim
    | bor k d => exact p.elim
    | io k d => exact p.elim
    | own d =>
      obtain ⟨a, rfl, ha, t⟩ := q
      have hl := (List.getElem?_eq_some_iff.mp hs).1
      have sr1 : SR c O Y σ (env.set i none) H := sr.less (by simp) fun j s e => by
        by_cases z : i = j
        · subst z
          rw [List.getElem?_set_self hl] at e
          cases e
        · rw [List.getElem?_set_ne z] at e
          exact e
      refine ⟨_, hv, p _ H O Y .refl sr1 ⟨a, rfl, ha, fun j ⟨s', h1, h2⟩ z => ?_, t⟩⟩
      by_cases q : i = j
      · subst q
        rw [List.getElem?_set_self hl] at h1
        cases h1
      · rw [List.getElem?_set_ne q] at h1
        exact sr.ap i j a q ⟨_, hs, rfl⟩ ⟨s', h1, h2⟩ hv z
/-! targets -/
theorem wipe_in {i : Nat} {x : Option V} : ∀ {vs : List Nat} {σ : L2.St}, i ∈ vs → wipe (σ.set i x) vs = wipe σ vs
  | [], _, h => by cases h
  | v :: vs, σ, h => by
    unfold wipe
    by_cases q : i ∈ vs
    · rw [wipe_in q]
    · have e : i = v := (List.mem_cons.mp h).resolve_right q
      subst e
      have : ∀ {vs : List Nat}, i ∉ vs → wipe (σ.set i x) vs = (wipe σ vs).set i x := fun {vs} h => by
        induction vs with
        | nil => rfl
        | cons w ws ih =>
          unfold wipe
          rw [ih fun z => h (List.mem_cons_of_mem _ z)]
          exact List.set_comm _ _ fun z => h (z ▸ List.mem_cons_self)
      rw [this q, List.set_set]
abbrev Bd := PyData → DEnv → Option DEnv
def SG {ι : Type} (c : Cs) (X : ι → Cx) (tg : Expr) (B : Bd) (bs : List Nat) : Prop := ∀ (O : List Addr) (Y : Addr → Prop) (σ : L2.St) (env : DEnv) (H : Hp) (v : V) (d : PyData) (e : DEnv) (Q : L2.St → Hp → Prop), SR c O Y σ env H → Sh c.K Y H v d → B d env = some e →
  (∀ σ', SR c O Y σ' e H → (∀ vs, (∀ b ∈ bs, b ∈ vs) → wipe σ' vs = wipe σ vs) → Q σ' H) → RG X tg v σ H Q
def RGs {ι : Type} (X : ι → Cx) (ts : List Expr) : TGs := fun vs σ H Q => ∃ t, (∀ i, PGs (X i) ts t) ∧ t vs σ H Q
theorem RGs.pgs {ι : Type} {X : ι → Cx} {ts : List Expr} (i : ι) : PGs (X i) ts (RGs X ts) := ⟨fun pins s σ H vs us Q I r ⟨_, h, q⟩ => (h i).run pins s σ H vs us Q I r q⟩
def SGs {ι : Type} (c : Cs) (X : ι → Cx) (ts : List Expr) (B : List PyData → DEnv → Option DEnv) (bs : List Nat) : Prop := ∀ (O : List Addr) (Y : Addr → Prop) (σ : L2.St) (env : DEnv) (H : Hp) (vs : List V) (ds : List PyData) (e : DEnv) (Q : L2.St → Hp → Prop), SR c O Y σ env H → ShA c.K Y H vs ds → B ds env = some e →
  (∀ σ', SR c O Y σ' e H → (∀ vs, (∀ b ∈ bs, b ∈ vs) → wipe σ' vs = wipe σ vs) → Q σ' H) → RGs X ts vs σ H Q
def bName (i : Nat) : Bd := fun d env => some (env.set i (some (.shr d)))
def bsNil : List PyData → DEnv → Option DEnv := fun ds env => match ds with
  | [] => some env
  | _ => none
def bsCons (B : Bd) (Bs : List PyData → DEnv → Option DEnv) : List PyData → DEnv → Option DEnv := fun ds env => match ds with
  | d :: r => (B d env).bind (Bs r)
  | [] => none
def bTup (Bs : List PyData → DEnv → Option DEnv) : Bd := fun d env => match d with
  | .tuple ds => Bs ds env
  | _ => none
theorem sg_name {i : Nat} {x : Str} (hN : ∀ k, (X k).N.Nodup) (hi : ∀ k, (X k).N[i]? = some x) (hx : ∀ k, Loc (X k).env.scope x) (hf : ∀ k, (X k).fn x = true ∨ (X k).env.scope.names.lookup x = some .local := by first | exact fun _ => .inl rfl | exact fun _ => .inr rfl | assumption) : SG c X (.Name x pos) (bName i) [i] := fun O Y σ env H v d e Q sr h hb q => by
  cases hb
  exact ⟨_, fun k => pg_name (hN k) (hi k) (hx k) (hf k), q _ (sr.setS h) fun vs hv => wipe_in (hv i List.mem_cons_self)⟩
theorem sgs_nil : SGs c X [] bsNil [] := fun O Y σ env H vs ds e Q sr h hb q => by
  cases h with
  | nil =>
    cases hb
    exact ⟨_, fun _ => pgs_nil, rfl, q σ sr fun _ _ => rfl⟩
  | cons _ _ => cases hb
theorem sgs_cons {ts : List Expr} {B : Bd} {Bs : List PyData → DEnv → Option DEnv} {b1 b2 : List Nat} (h1 : SG c X e B b1) (h2 : SGs c X ts Bs b2) (hs : ∀ k, (assignEach (e :: ts) (X k).env).map (·.2) = assign e (X k).env :: (assignEach ts (X k).env).map (·.2) := by intro _; rfl) : SGs c X (e :: ts) (bsCons B Bs) (b1 ++ b2) := fun O Y σ env H vs ds e' Q sr h hb q => by
  cases h with
  | nil => cases hb
  | cons a r =>
    obtain ⟨e1, hb1, hb2⟩ := Option.bind_eq_some_iff.mp hb
    refine ⟨_, fun k => pgs_cons (RG.pg k) (RGs.pgs k) (hs k), _, _, rfl, h1 O Y σ env H _ _ e1 _ sr a hb1 fun σ1 sr1 w1 => ?_⟩
    exact h2 O Y σ1 e1 H _ _ e' Q sr1 r hb2 fun σ2 sr2 w2 => q σ2 sr2 fun vs hv => (w2 vs fun b z => hv b (List.mem_append_right _ z)).trans (w1 vs fun b z => hv b (List.mem_append_left _ z))
theorem bs_len : ∀ {ts : List Expr} {Bs : List PyData → DEnv → Option DEnv} {bs : List Nat}, True := fun {_ _ _} => trivial
theorem sg_tup {es : List Expr} {k n : Nat} {Bs : List PyData → DEnv → Option DEnv} {bs : List Nat} (hc : ∀ k, (X k).calm = true) (hK : ∀ k, (X k).K = c.K) (h : SGs c X es Bs bs) (hl : ∀ ds env e, Bs ds env = some e → ds.length = n)
    (hn : ∀ k, (assignEach es (X k).env).length = n := by intro _; rfl) (hst : ∀ k, (assignEach es (X k).env).findIdx? (·.1) = none := by intro _; rfl) : SG c X (.Tuple es k pos) (bTup Bs) bs := fun O Y σ env H v d e Q sr hd hb q => by
  cases hd with
  | tup ha t => exact ⟨gTup c.K n (RGs X es), fun k => hK k ▸ pg_tup (hc k) (RGs.pgs k) (hn k) (hst k), _, _, rfl, Evl.st_of ha, t.len.trans (hl _ _ _ hb), h O Y σ env H _ _ e Q sr t hb q⟩
  | _ => cases hb
theorem bl_nil : ∀ ds env e, bsNil ds env = some e → ds.length = 0 := fun ds env e h => by
  cases ds with
  | nil => rfl
  | cons _ _ => cases h
theorem bl_cons {B : Bd} {Bs : List PyData → DEnv → Option DEnv} {n : Nat} (h : ∀ ds env e, Bs ds env = some e → ds.length = n) : ∀ ds env e, bsCons B Bs ds env = some e → ds.length = n + 1 := fun ds env e hb => by
  cases ds with
  | nil => cases hb
  | cons d r =>
    obtain ⟨e1, _, hb2⟩ := Option.bind_eq_some_iff.mp hb
    rw [List.length_cons, h r e1 e hb2]
/-- target = value -/
def gAsg (B : Bd) (F : DEnv → R PyData) : DEnv → Flow := fun env => (F env).toF fun d e => match B d e with
  | some e' => .next e'
  | none => .bad
theorem ss_asg {tg : Expr} {B : Bd} {bs : List Nat} {F : DEnv → R PyData} (hg : SG c X tg B bs) (h : SE c W X e F) (hs : ∀ k, swapsWithSole [tg] e pos.line (X k).env = pure false := by intro _; rfl) (hw : ∀ k, swappedStores [tg] e (X k).env = pure none := by intro _; rfl)
    (h1 : ∀ k, (assignEach [tg] (X k).env).map (·.2) = [assign tg (X k).env] := by intro _; rfl) : SS c W X (.Assign [tg] e pos) (gAsg B F) := fun O Y σ env H D sr p =>
  ⟨_, fun k => ps_asg (RD.pe k) (RG.pg k) (hs k) (hw k) (h1 k), h.nextF sr p fun d e1 v H1 O1 Y1 st sr1 r p1 => by
    cases hb : B d e1 with
    | none =>
      rw [hb] at p1
      exact p1.elim
    | some e2 =>
      rw [hb] at p1
      exact hg O1 Y1 σ e1 H1 v d e2 _ sr1 r hb fun σ' sr' _ => p1 σ' H1 O1 Y1 .refl sr'⟩
/-! loops -/
def RWalk (c : Cs) : RelT (List PyData) It := fun O Y _ _ H J ds => ∀ (O2 : List Addr) (Y2 : Addr → Prop) (H2 : Hp) (σ2 : L2.St) (env2 : DEnv), Step O Y H O2 Y2 H2 → SR c O2 Y2 σ2 env2 H2 →
  J.stop ds.length H2 ∧ ∀ (i : Nat) (d : PyData), ds[i]? = some d → J.go i H2 ∧ ∀ x H3, J.yld i H2 x H3 → Step O2 Y2 H2 O2 Y2 H3 ∧ SR c O2 Y2 σ2 env2 H3 ∧ Sh c.K Y2 H3 x d
abbrev SI {ι : Type} (c : Cs) (W : WX) (X : ι → Cx) (tg it : Expr) (F : DEnv → R (List PyData)) : Prop := Sd c (RWalk c) W (RI X tg it) F
def forF (B : Bd) (G : DEnv → Flow) : List PyData → DEnv → Flow
  | [], env => .next env
  | d :: ds, env => match B d env with
    | none => .bad
    | some e => match G e with
      | .next e' => forF B G ds e'
      | .cont e' => forF B G ds e'
      | .brk e' => .next e'
      | .ret fr d e' => .ret fr d e'
      | .exc x e' => .exc x e'
      | .bad => .bad
def gFor (B : Bd) (F : DEnv → R (List PyData)) (G : DEnv → Flow) : DEnv → Flow := fun env => (F env).toF fun ds e => forF B G ds e
theorem ss_for {tg it : Expr} {body : List Stmt} {B : Bd} {bs : List Nat} {F : DEnv → R (List PyData)} {G : DEnv → Flow} (hp : ∀ k, PassesOwn (model (X k).prog (X k).w) (X k).A (X k).env (X k).xe) (hc : ∀ k, (X k).calm = true) (hi : SI c W X tg it F) (hg : SG c X tg B bs) (hb : SSs c W X body G)
    (hs : ∀ k x, foldedSetIterable it (X k).env x = pure x := by intro _ _; rfl) : SS c W X (.For tg it body [] pos) (gFor B F G) := fun O Y σ env H D sr p => by
  refine ⟨_, fun k => ps_for (hp k) (hc k) (RI.pi k) (RG.pg k) (RSs.pss k) (hs k), hi.nextF sr p fun ds e1 J H1 O1 Y1 st1 sr1 walk p1 => ?_⟩
  refine ⟨fun i m σ2 H2 => m = ds.length - i ∧ i ≤ ds.length ∧ ∃ (O2 : List Addr) (Y2 : Addr → Prop) (env2 : DEnv), Step O1 Y1 H1 O2 Y2 H2 ∧ SR c O2 Y2 σ2 env2 H2 ∧ FPost c O2 Y2 H2 D W (forF B G (ds.drop i) env2), ⟨_, rfl, Nat.zero_le _, O1, Y1, e1, .refl, sr1, p1⟩, ?_⟩
  rintro i m σ2 H2 ⟨rfl, hi, O2, Y2, env2, st2, sr2, p2⟩
  obtain ⟨stop, go⟩ := walk O2 Y2 H2 σ2 env2 st2 sr2
  by_cases hlt : i < ds.length
  · refine .inr ?_
    have hd : ds[i]? = some ds[i] := List.getElem?_eq_getElem hlt
    rw [List.drop_eq_getElem_cons hlt] at p2
    generalize ds[i] = d at hd p2
    obtain ⟨g1, g2⟩ := go i d hd
    refine ⟨g1, fun σ' H' => ∃ (O3 : List Addr) (Y3 : Addr → Prop) (env3 : DEnv), Step O1 Y1 H1 O3 Y3 H' ∧ SR c O3 Y3 σ' env3 H' ∧ FPost c O3 Y3 H' D W (forF B G (ds.drop (i + 1)) env3), fun σ' H' ⟨O3, Y3, env3, s3, r3, f3⟩ => ⟨ds.length - (i + 1), by omega, rfl, hlt, O3, Y3, env3, s3, r3, f3⟩, fun x H3 y => ?_⟩
    obtain ⟨st3, sr3, sh⟩ := g2 x H3 y
    unfold forF at p2
    cases hB : B d env2 with
    | none =>
      rw [hB] at p2
      exact p2.elim
    | some e3 =>
      rw [hB] at p2
      simp only at p2
      refine hg O2 Y2 σ2 env2 H3 x d e3 _ sr3 sh hB fun σ3 sr4 _ => hb O2 Y2 σ3 e3 H3 _ sr4 ?_
      have st13 := st2.trans sr1.yd st3
      have p3 := p2.shift sr2.yd st3
      cases hG : G e3 with
      | next e4 =>
        rw [hG] at p3
        exact fun σ5 H5 O5 Y5 st5 sr5 => ⟨O5, Y5, e4, st13.trans sr1.yd st5, sr5, p3.shift sr4.yd st5⟩
      | cont e4 =>
        rw [hG] at p3
        exact fun σ5 H5 O5 Y5 st5 sr5 => ⟨O5, Y5, e4, st13.trans sr1.yd st5, sr5, p3.shift sr4.yd st5⟩
      | brk e4 =>
        rw [hG] at p3
        exact fun σ5 H5 O5 Y5 st5 sr5 => p3 σ5 H5 O5 Y5 st5 sr5
      | ret fr z e4 =>
        rw [hG] at p3
        exact p3
      | exc x e4 =>
        rw [hG] at p3
        exact p3
      | bad =>
        rw [hG] at p3
        exact p3.elim
  · have ei : i = ds.length := by omega
    subst ei
    refine .inl ⟨stop, ?_⟩
    rw [List.drop_eq_nil_of_le (by omega)] at p2
    exact p2 σ2 H2 O2 Y2 .refl sr2
def whileN (T : DEnv → R Bool) (G : DEnv → Flow) : Nat → DEnv → Flow
  | 0, _ => .bad
  | n + 1, env => (T env).toF fun b e => if b = true then (match G e with
      | .next e' => whileN T G n e'
      | .cont e' => whileN T G n e'
      | .brk e' => .next e'
      | .ret fr d e' => .ret fr d e'
      | .exc x e' => .exc x e'
      | .bad => .bad) else .next e
def Flow.isBad : Flow → Bool
  | .bad => true
  | _ => false
open Classical in
noncomputable def gWhile (T : DEnv → R Bool) (G : DEnv → Flow) : DEnv → Flow := fun env => if h : ∃ n, (whileN T G n env).isBad = false then whileN T G h.choose env else .bad
theorem whileN_up {T : DEnv → R Bool} {G : DEnv → Flow} : ∀ {n : Nat} {env : DEnv}, (whileN T G n env).isBad = false → whileN T G (n + 1) env = whileN T G n env
  | 0, _, h => by cases h
  | n + 1, env, h => by
    rw [whileN, whileN]
    rw [whileN] at h
    cases hT : T env with
    | bad => rfl
    | exc x e => rfl
    | ok b e =>
      rw [hT] at h
      simp only [R.ok_toF] at h ⊢
      cases b with
      | false => rfl
      | true =>
        rw [if_pos rfl] at h
        rw [if_pos rfl, if_pos rfl]
        cases hG : G e with
        | next e' =>
          rw [hG] at h
          exact whileN_up h
        | cont e' =>
          rw [hG] at h
          exact whileN_up h
        | _ => rfl
theorem whileN_le {T : DEnv → R Bool} {G : DEnv → Flow} {n m : Nat} {env : DEnv} (h : (whileN T G n env).isBad = false) (hm : n ≤ m) : whileN T G m env = whileN T G n env := by
  induction hm with
  | refl => rfl
  | step _ ih => rw [whileN_up (by rw [ih]; exact h), ih]
theorem gWhile_eq {T : DEnv → R Bool} {G : DEnv → Flow} {n : Nat} {env : DEnv} (h : (whileN T G n env).isBad = false) : gWhile T G env = whileN T G n env := by
  have ex : ∃ n, (whileN T G n env).isBad = false := ⟨n, h⟩
  unfold gWhile
  rw [dif_pos ex]
  rcases Nat.le_total n ex.choose with z | z
  · exact whileN_le h z
  · exact (whileN_le ex.choose_spec z).symm
theorem FPost.nbad {f : Flow} (p : FPost c O Y H D W f) : f.isBad = false := by
  cases f <;> first | rfl | exact p.elim
theorem ss_while {t : Expr} {body : List Stmt} {T : DEnv → R Bool} {G : DEnv → Flow} (hp : ∀ k, PassesOwn (model (X k).prog (X k).w) (X k).A (X k).env (X k).xe) (ht : ST c W X t T) (hb : SSs c W X body G) : SS c W X (.While t body [] pos) (gWhile T G) := fun O Y σ env H D sr p => by
  have ex : ∃ n, (whileN T G n env).isBad = false := by
    unfold gWhile at p
    split at p
    · assumption
    · exact p.elim
  obtain ⟨n, hn⟩ := ex
  rw [gWhile_eq hn] at p
  refine ⟨_, fun k => ps_while (hp k) (RT.pt k) (RSs.pss k), fun m σ2 H2 => ∃ (O2 : List Addr) (Y2 : Addr → Prop) (env2 : DEnv), SR c O2 Y2 σ2 env2 H2 ∧ FPost c O2 Y2 H2 D W (whileN T G m env2), ⟨n, O, Y, env, sr, p⟩, ?_⟩
  rintro m σ2 H2 ⟨O2, Y2, env2, sr2, p2⟩
  cases m with
  | zero => exact p2.elim
  | succ m =>
    rw [whileN] at p2
    refine ht.nextF sr2 p2 fun b e3 k H3 O3 Y3 st3 sr3 r p3 => ?_
    have r : k = b := r
    subst r
    cases k with
    | false =>
      rw [if_neg Bool.false_ne_true] at p3
      exact iteF (p3 σ2 H3 O3 Y3 .refl sr3)
    | true =>
      rw [if_pos rfl] at p3
      refine iteT ⟨fun σ' H' => ∃ (O4 : List Addr) (Y4 : Addr → Prop) (env4 : DEnv), SR c O4 Y4 σ' env4 H' ∧ FPost c O4 Y4 H' D W (whileN T G m env4), fun σ' H' h => ⟨m, Nat.lt_succ_self m, h⟩, hb O3 Y3 σ2 e3 H3 _ sr3 ?_⟩
      cases hG : G e3 with
      | next e4 =>
        rw [hG] at p3
        exact fun σ5 H5 O5 Y5 st5 sr5 => ⟨O5, Y5, e4, sr5, p3.shift sr3.yd st5⟩
      | cont e4 =>
        rw [hG] at p3
        exact fun σ5 H5 O5 Y5 st5 sr5 => ⟨O5, Y5, e4, sr5, p3.shift sr3.yd st5⟩
      | brk e4 =>
        rw [hG] at p3
        exact fun σ5 H5 O5 Y5 st5 sr5 => p3 σ5 H5 O5 Y5 st5 sr5
      | ret fr z e4 =>
        rw [hG] at p3
        exact p3
      | exc x e4 =>
        rw [hG] at p3
        exact p3
      | bad =>
        rw [hG] at p3
        exact p3.elim
end
end Dl
set_option Elab.async false
set_option linter.all false
set_option maxRecDepth 100000
set_option maxHeartbeats 4000000
namespace Dl
open PySem PySem.Spec PyProof.Rows L2 Evl Gx GxR
/-! calls -/
inductive ArgD where
  | val (d : PyData)
  | var (i : Nat)
  | io (i : Nat)
def ArgR (c : Cs) (Y : Addr → Prop) (σ : L2.St) (H : Hp) (v : V) : ArgD → Prop
  | .val d => Sh c.K Y H v d
  | .var i => σ[i]? = some (some v)
  | .io i => σ[i]? = some (some v)
inductive ArgsR (c : Cs) (Y : Addr → Prop) (σ : L2.St) (H : Hp) : List V → List ArgD → Prop
  | nil : ArgsR c Y σ H [] []
  | cons {v : V} {a : ArgD} {vs : List V} {as : List ArgD} : ArgR c Y σ H v a → ArgsR c Y σ H vs as → ArgsR c Y σ H (v :: vs) (a :: as)
def RArgs (c : Cs) : RelT (List ArgD) (List V) := fun _ Y σ _ H vs as => ArgsR c Y σ H vs as
abbrev SA {ι : Type} (c : Cs) (W : WX) (X : ι → Cx) (es : List Expr) (F : DEnv → R (List ArgD)) : Prop := Sd c (RArgs c) W (RA X es) F
def varS (j : Nat) : Option Slot → Option Slot
  | some (.shr d) => some (.shr d)
  | some s => some (.bor j s.d)
  | none => none
def ioS (j : Nat) : Option Slot → Option Slot
  | some (.own d) => some (.io j d)
  | some (.io _ d) => some (.io j d)
  | _ => none
def slotOf (env : DEnv) (j : Nat) : ArgD → Option Slot
  | .val d => some (.shr d)
  | .var i => varS j (slotAt env i)
  | .io i => ioS j (slotAt env i)
def slotsOf (env : DEnv) : Nat → List ArgD → Option (List Slot)
  | _, [] => some []
  | j, a :: r => (slotOf env j a).bind fun s => (slotsOf env (j + 1) r).map (s :: ·)
inductive FR where
  | ret (fr : Bool) (d : PyData) (outs : List Slot)
  | exc (x : ExD) (outs : List Slot)
  | bad
/-- where the one argument stands that the callee may change, and its name's slot -/
def notIo : ArgD → Bool
  | .io _ => false
  | _ => true
def ioOf : Nat → List ArgD → Option (Option (Nat × Nat))
  | _, [] => some none
  | j, .io i :: r => if r.all notIo = true then some (some (j, i)) else none
  | j, _ :: r => ioOf (j + 1) r
def noVar (i : Nat) (as : List ArgD) : Bool := as.all fun a => match a with
  | .var k => k != i
  | _ => true
def putIo (env : DEnv) (i : Nat) (d : PyData) : Option DEnv := match slotAt env i with
  | some (.own _) => some (env.set i (some (.own d)))
  | some (.io k _) => some (env.set i (some (.io k d)))
  | _ => none
def outD : Option Slot → Option PyData
  | some (.io _ d) => some d
  | _ => none
/-- the slots behind a call -/
def backE (env : DEnv) (as : List ArgD) (outs : List Slot) : Option DEnv := match ioOf 0 as with
  | none => none
  | some none => some env
  | some (some (j, i)) => if noVar i as = true then (outD outs[j]?).bind (putIo env i) else none
def callR (S : List Slot → FR) (env : DEnv) (as : List ArgD) : R (Bool × PyData) := match slotsOf env 0 as with
  | none => .bad
  | some ss => match S ss with
    | .ret fr d outs => match backE env as outs with
      | some e => .ok (fr, d) e
      | none => .bad
    | .exc x outs => match backE env as outs with
      | some e => .exc x e
      | none => .bad
    | .bad => .bad
def FRPost (c : Cs) (vs : List V) (O : List Addr) (Y : Addr → Prop) (H : Hp) (Q : VK) (E : XK) : FR → Prop
  | .ret fr d outs => ∀ (v : V) (H' : Hp) (O' : List Addr) (Y' : Addr → Prop), Step O Y H O' Y' H' → SR c O' Y' (vs.map some) (outs.map some) H' →
      (if fr = true then ∃ a, v = .ref a ∧ a ∈ O' ∧ H a = none ∧ Top c.K Y' H' a d else Sh c.K Y' H' v d) → Q v H'
  | .exc x outs => ∀ (cl : Value) (dd : Option Addr) (H' : Hp) (O' : List Addr) (Y' : Addr → Prop), Step O Y H O' Y' H' → SR c O' Y' (vs.map some) (outs.map some) H' → ExcAt c x H' cl dd → E cl dd H'
  | .bad => False
/-- a def's promise by what it does to data -/
def spD (K : PySem.W.Frag) (TS : List Addr) (ca : Str → Addr) (n : Nat) (S : List Slot → FR) : Sp := fun vs H Q E => vs.length = n ∧ ∃ (O : List Addr) (Y : Addr → Prop) (ss : List Slot),
  SR ⟨K, vs, TS, ca⟩ O Y (vs.map some) (ss.map some) H ∧ (∀ a ∈ O, ∃ (j k : Nat) (d : PyData), ss[j]? = some (.io k d) ∧ vs[j]? = some (.ref a)) ∧ FRPost ⟨K, vs, TS, ca⟩ vs O Y H Q E (S ss)
section
variable {c : Cs} {O O' O1 : List Addr} {Y Y' Y1 : Addr → Prop} {H H' H1 : Hp} {σ : L2.St} {env : DEnv} {W : WX} {ι : Type} {X : ι → Cx} {e : Expr} {es : List Expr} {vs : List V} {as : List ArgD}
theorem ArgR.mv {v : V} {a : ArgD} (m : Mv Y Y' H H') (h : ArgR c Y σ H v a) : ArgR c Y' σ H' v a := by
  cases a with
  | val d => exact Sh.mv m h
  | var i => exact h
  | io i => exact h
theorem ArgsR.mv (m : Mv Y Y' H H') : ∀ {vs : List V} {as : List ArgD}, ArgsR c Y σ H vs as → ArgsR c Y' σ H' vs as
  | _, _, .nil => .nil
  | _, _, .cons a r => .cons (ArgR.mv m a) (ArgsR.mv m r)
theorem ArgsR.len : ∀ {vs : List V} {as : List ArgD}, ArgsR c Y σ H vs as → vs.length = as.length
  | _, _, .nil => rfl
  | _, _, .cons _ r => congrArg (· + 1) (ArgsR.len r)
theorem ArgsR.get : ∀ {vs : List V} {as : List ArgD}, ArgsR c Y σ H vs as → ∀ {j : Nat} {a : ArgD}, as[j]? = some a → ∃ v, vs[j]? = some v ∧ ArgR c Y σ H v a
  | _, _, .cons a r, 0, _, h => by
    cases h
    exact ⟨_, rfl, a⟩
  | _, _, .cons a r, j + 1, _, h => ArgsR.get r (j := j) h
theorem ArgsR.app : ∀ {vs ws : List V} {as bs : List ArgD}, ArgsR c Y σ H vs as → ArgsR c Y σ H ws bs → ArgsR c Y σ H (vs ++ ws) (as ++ bs)
  | _, _, _, _, .nil, h => h
  | _, _, _, _, .cons a r, h => .cons a (ArgsR.app r h)
theorem slotsOf_get {env : DEnv} : ∀ {as : List ArgD} {j : Nat} {ss : List Slot}, slotsOf env j as = some ss → ss.length = as.length ∧ ∀ {i : Nat} {a : ArgD}, as[i]? = some a → ∃ s, ss[i]? = some s ∧ slotOf env (j + i) a = some s
  | [], j, ss, h => by
    cases h
    exact ⟨rfl, fun h => by cases h⟩
  | a :: r, j, ss, h => by
    obtain ⟨s, hs, h⟩ := Option.bind_eq_some_iff.mp h
    obtain ⟨ss', h', rfl⟩ := Option.map_eq_some_iff.mp h
    obtain ⟨hl, hg⟩ := slotsOf_get h'
    refine ⟨by rw [List.length_cons, List.length_cons, hl], fun {i b} hb => ?_⟩
    cases i with
    | zero =>
      cases hb
      exact ⟨s, rfl, hs⟩
    | succ i =>
      obtain ⟨s', h1, h2⟩ := hg (i := i) (a := b) hb
      exact ⟨s', h1, by rw [← h2]; congr 1; omega⟩
theorem slotOf_form {env : DEnv} {j : Nat} {a : ArgD} {s : Slot} (h : slotOf env j a = some s) :
    (∃ d, a = .val d ∧ s = .shr d) ∨ (∃ i d, a = .var i ∧ slotAt env i = some (.shr d) ∧ s = .shr d) ∨ (∃ i t, a = .var i ∧ slotAt env i = some t ∧ (∀ d, t ≠ .shr d) ∧ s = .bor j t.d) ∨ ∃ i t, a = .io i ∧ slotAt env i = some t ∧ t.isO = true ∧ s = .io j t.d := by
  cases a with
  | val d =>
    cases h
    exact .inl ⟨d, rfl, rfl⟩
  | var i =>
    have h : varS j (slotAt env i) = some s := h
    cases hs : slotAt env i with
    | none => rw [hs] at h; cases h
    | some t =>
      rw [hs] at h
      cases t with
      | shr d =>
        cases h
        exact .inr (.inl ⟨i, d, rfl, hs, rfl⟩)
      | own d =>
        cases h
        exact .inr (.inr (.inl ⟨i, _, rfl, hs, (fun _ z => by cases z), rfl⟩))
      | bor k d =>
        cases h
        exact .inr (.inr (.inl ⟨i, _, rfl, hs, (fun _ z => by cases z), rfl⟩))
      | io k d =>
        cases h
        exact .inr (.inr (.inl ⟨i, _, rfl, hs, (fun _ z => by cases z), rfl⟩))
  | io i =>
    have h : ioS j (slotAt env i) = some s := h
    cases hs : slotAt env i with
    | none => rw [hs] at h; cases h
    | some t =>
      rw [hs] at h
      cases t with
      | shr d => cases h
      | bor k d => cases h
      | own d =>
        cases h
        exact .inr (.inr (.inr ⟨i, _, rfl, hs, rfl, rfl⟩))
      | io k d =>
        cases h
        exact .inr (.inr (.inr ⟨i, _, rfl, hs, rfl, rfl⟩))
theorem Sh.known {a : Addr} {d : PyData} (h : Sh c.K Y H (.ref a) d) : H a ≠ none := by
  cases h with
  | lst _ h _ => rw [h]; simp
  | tup h _ => rw [h]; simp
  | dK _ h _ => rw [h]; simp
  | dT _ h _ => rw [h]; simp
theorem SV.known {a : Addr} {s : Slot} (h : SV c O Y H (.ref a) s) : H a ≠ none := by
  rcases h.bo with h | ⟨b, e, t⟩
  · exact h.known
  · cases e
    obtain ⟨o, h, _⟩ := t.some
    rw [h]
    simp
theorem getElem?_map_some {α : Type} {l : List α} {i : Nat} {x : α} : (l.map some)[i]? = some (some x) ↔ l[i]? = some x := by
  rw [List.getElem?_map]
  cases l[i]? <;> simp
/-- the callee's state -/
theorem args_sr {ss : List Slot} (sr : SR c O Y σ env H) (r : ArgsR c Y σ H vs as) (hs : slotsOf env 0 as = some ss) (hO : ∀ a ∈ O', a ∈ O) (hio : ∀ (j i : Nat) (a : Addr), as[j]? = some (.io i) → vs[j]? = some (.ref a) → a ∈ O')
    (hbor : ∀ (j i : Nat) (a : Addr) (t : Slot), as[j]? = some (.var i) → slotAt env i = some t → (∀ d, t ≠ .shr d) → vs[j]? = some (.ref a) → a ∉ O') (hap : ∀ j k i l : Nat, as[j]? = some (.io i) → as[k]? = some (.io l) → j = k) :
    SR ⟨c.K, vs, c.TS, c.ca⟩ O' Y (vs.map some) (ss.map some) H := by
  obtain ⟨hl, hg⟩ := slotsOf_get hs
  have back : ∀ {j : Nat} {s : Slot}, ss[j]? = some s → ∃ a, as[j]? = some a ∧ slotOf env j a = some s := fun {j s} h => by
    have hj : j < as.length := by
      rw [← hl]
      exact (List.getElem?_eq_some_iff.mp h).1
    obtain ⟨s', h1, h2⟩ := hg (i := j) (List.getElem?_eq_getElem hj)
    rw [h] at h1
    cases h1
    exact ⟨_, List.getElem?_eq_getElem hj, by rw [← h2]; congr 1; omega⟩
  refine ⟨fun a h => sr.sub a (hO a h), fun a h => sr.own a (hO a h), sr.yd, by rw [List.length_map, List.length_map, hl, r.len], fun j s e => ?_, fun j k a n h1 h2 e1 e2 => ?_, sr.tab, fun a h => ?_⟩
  · obtain ⟨a, ha, hf⟩ := back (getElem?_map_some.mp e)
    obtain ⟨v, hv, rv⟩ := r.get ha
    refine ⟨v, getElem?_map_some.mpr hv, ?_⟩
    rcases slotOf_form hf with ⟨d, rfl, rfl⟩ | ⟨i, d, rfl, hi, rfl⟩ | ⟨i, t, rfl, hi, ht, rfl⟩ | ⟨i, t, rfl, hi, ht, rfl⟩
    · exact rv
    · obtain ⟨u, hu, q⟩ := sr.sl i _ (slotAt_some hi)
      have rv : σ[i]? = some (some v) := rv
      rw [rv] at hu
      cases hu
      exact q
    · obtain ⟨u, hu, q⟩ := sr.sl i _ (slotAt_some hi)
      have rv : σ[i]? = some (some v) := rv
      rw [rv] at hu
      cases hu
      cases t with
      | shr d => exact (ht d rfl).elim
      | own d =>
        obtain ⟨a, rfl, h1, h2⟩ := q
        exact ⟨a, rfl, hbor j i a _ ha hi ht hv, sr.sub a h1, h2, hv⟩
      | bor k d =>
        obtain ⟨a, rfl, h1, h2, h3, _⟩ := q
        exact ⟨a, rfl, hbor j i a _ ha hi ht hv, h2, h3, hv⟩
      | io k d =>
        obtain ⟨a, rfl, h1, h2, _⟩ := q
        exact ⟨a, rfl, hbor j i a _ ha hi ht hv, sr.sub a h1, h2, hv⟩
    · obtain ⟨u, hu, q⟩ := sr.sl i _ (slotAt_some hi)
      have rv : σ[i]? = some (some v) := rv
      rw [rv] at hu
      cases hu
      cases t with
      | shr d => cases ht
      | bor k d => cases ht
      | own d =>
        obtain ⟨a, rfl, h1, h2⟩ := q
        exact ⟨a, rfl, hio j i a ha hv, h2, hv⟩
      | io k d =>
        obtain ⟨a, rfl, h1, h2, _⟩ := q
        exact ⟨a, rfl, hio j i a ha hv, h2, hv⟩
  · have isio : ∀ {m : Nat}, OwnAt (ss.map some) m → ∃ i, as[m]? = some (.io i) := fun {m} ⟨s, h1, h2⟩ => by
      obtain ⟨a, ha, hf⟩ := back (getElem?_map_some.mp h1)
      rcases slotOf_form hf with ⟨d, rfl, rfl⟩ | ⟨i, d, rfl, hi, rfl⟩ | ⟨i, t, rfl, hi, ht, rfl⟩ | ⟨i, t, rfl, hi, ht, rfl⟩
      · cases h2
      · cases h2
      · cases h2
      · exact ⟨i, ha⟩
    obtain ⟨i, hi⟩ := isio h1
    obtain ⟨l, hl⟩ := isio h2
    exact n (hap j k i l hi hl)
  · obtain ⟨j, hj⟩ := List.mem_iff_getElem?.mp h
    have hj2 : j < as.length := by
      rw [← r.len]
      exact (List.getElem?_eq_some_iff.mp hj).1
    obtain ⟨v, hv, rv⟩ := r.get (List.getElem?_eq_getElem hj2)
    rw [hj] at hv
    cases hv
    obtain ⟨s, _, hf⟩ := hg (i := j) (List.getElem?_eq_getElem hj2)
    generalize as[j] = a' at rv hf
    have look : ∀ {i : Nat} {t : Slot}, slotAt env i = some t → σ[i]? = some (some (V.ref a)) → H a ≠ none := fun {i t} ht rv => by
      obtain ⟨u, hu, q⟩ := sr.sl i _ (slotAt_some ht)
      rw [rv] at hu
      cases hu
      exact q.known
    rcases slotOf_form hf with ⟨d, rfl, rfl⟩ | ⟨i, d, rfl, hi, rfl⟩ | ⟨i, t, rfl, hi, ht, rfl⟩ | ⟨i, t, rfl, hi, ht, rfl⟩
    · exact Sh.known rv
    · exact look hi rv
    · exact look hi rv
    · exact look hi rv
theorem ioOf_none : ∀ {as : List ArgD} {m : Nat}, ioOf m as = some none → ∀ (j i : Nat), as[j]? ≠ some (.io i)
  | [], _, _, j, i => by simp
  | .io k :: r, m, h, j, i => by
    unfold ioOf at h
    split at h <;> cases h
  | .val d :: r, m, h, j, i => by
    cases j with
    | zero => simp
    | succ j => exact ioOf_none (as := r) (m := m + 1) h j i
  | .var d :: r, m, h, j, i => by
    cases j with
    | zero => simp
    | succ j => exact ioOf_none (as := r) (m := m + 1) h j i
theorem ioOf_some : ∀ {as : List ArgD} {m p i : Nat}, ioOf m as = some (some (p, i)) → ∃ q, p = m + q ∧ as[q]? = some (.io i) ∧ ∀ (j k : Nat), as[j]? = some (.io k) → j = q
  | [], _, _, _, h => by cases h
  | .io k :: r, m, p, i, h => by
    unfold ioOf at h
    split at h
    · rename_i ha
      cases h
      refine ⟨0, rfl, rfl, fun j l hj => ?_⟩
      cases j with
      | zero => rfl
      | succ j =>
        have := List.all_eq_true.mp ha _ (List.mem_of_getElem? (i := j) hj)
        cases this
    · cases h
  | .val d :: r, m, p, i, h => by
    obtain ⟨q, h1, h2, h3⟩ := ioOf_some (as := r) (m := m + 1) h
    refine ⟨q + 1, by omega, h2, fun j l hj => ?_⟩
    cases j with
    | zero => cases hj
    | succ j => rw [h3 j l hj]
  | .var d :: r, m, p, i, h => by
    obtain ⟨q, h1, h2, h3⟩ := ioOf_some (as := r) (m := m + 1) h
    refine ⟨q + 1, by omega, h2, fun j l hj => ?_⟩
    cases j with
    | zero => cases hj
    | succ j => rw [h3 j l hj]
/-- behind a call: what the caller knows -/
theorem after {env2 : DEnv} {L : List Addr} (sr : SR c O Y σ env H) (hO : ∀ a ∈ O', a ∈ O) (st : Step O' Y H O1 Y1 H1) (s1 : ∀ a ∈ O1, Y1 a) (t1 : ∀ P ∈ c.TS, TabG H1 P) (hO1 : ∀ a ∈ O', a ∈ O1) (hL : ∀ b ∈ L, H b = none ∧ b ∈ O1 ∧ ∃ o, H1 b = some o ∧ isOwn o = true)
    (hown : ∀ a ∈ O', ∃ o, H1 a = some o ∧ isOwn o = true) (hlen : env2.length = env.length)
    (hs : ∀ (i : Nat) (s : Slot), env2[i]? = some (some s) → (env[i]? = some (some s) ∧ (s.isO = true → ∀ a, σ[i]? = some (some (.ref a)) → a ∉ O')) ∨
      (∃ (a : Addr) (d : PyData), σ[i]? = some (some (.ref a)) ∧ a ∈ O' ∧ Top c.K Y1 H1 a d ∧ ((s = .own d ∧ OwnAt env i) ∨ ∃ k, s = .io k d ∧ c.A0[k]? = some (.ref a) ∧ OwnAt env i))) :
    Step O Y H (L ++ O) (fun b => Y b ∨ b ∈ L) H1 ∧ SR c (L ++ O) (fun b => Y b ∨ b ∈ L) σ env2 H1 ∧ (∀ b, (Y b ∨ b ∈ L) → Y1 b) := by
  have y21 : ∀ b, (Y b ∨ b ∈ L) → Y1 b := fun b z => by
    rcases z with z | z
    · rcases st.kY b z with q | q
      · exact s1 b (hO1 b q)
      · exact q
    · exact s1 b (hL b z).2.1
  have nL : ∀ {a : Addr}, H a ≠ none → a ∉ L := fun h z => h (hL _ z).1
  have kp : ∀ a o, H a = some o → a ∉ O' → isOwn o = true → H1 a = some o := fun a o h n ho => by
    rcases st.keep a o h with z | ⟨ps, z⟩ | z
    · exact (n z.1).elim
    · rw [z] at ho; cases ho
    · exact z
  have m : Mv Y (fun b => Y b ∨ b ∈ L) H H1 := ⟨fun a o h => (st.keep a o h).imp_left fun z => ⟨sr.sub a (hO a z.1), z.2⟩, fun a h z => z.elim id fun z => (nL h z).elim⟩
  have oldOwn : ∀ {i : Nat}, OwnAt env2 i → OwnAt env i := fun {i} ⟨s, h1, h2⟩ => by
    rcases hs i s h1 with ⟨e, _⟩ | ⟨a, d, _, _, _, ⟨_, o⟩ | ⟨k, _, _, o⟩⟩
    · exact ⟨s, e, h2⟩
    · exact o
    · exact o
  refine ⟨⟨fun a o h => (st.keep a o h).imp_left fun z => ⟨hO a z.1, z.2⟩, st.dom, fun a h => ?_, fun a h z => z.elim id fun z => (nL h z).elim, fun a z => .inr (.inl z), st.tab⟩, ?_, y21⟩
  · rcases List.mem_append.mp h with z | z
    · exact .inr (hL a z).1
    · exact .inl z
  · refine ⟨fun a h => ?_, fun a h => ?_, fun a z => ?_, hlen.trans sr.len, fun i s h => ?_, fun i j a n h1 h2 e1 e2 => ?_, t1, fun a h => st.dom a (sr.a0 a h)⟩
    · rcases List.mem_append.mp h with z | z
      · exact .inr z
      · exact .inl (sr.sub a z)
    · rcases List.mem_append.mp h with z | z
      · exact (hL a z).2.2
      · by_cases q : a ∈ O'
        · exact hown a q
        · obtain ⟨o, h1, h2⟩ := sr.own a z
          exact ⟨o, kp a o h1 q h2, h2⟩
    · rcases z with z | z
      · exact st.dom a (sr.yd a z)
      · obtain ⟨o, h, _⟩ := (hL a z).2.2
        rw [h]
        simp
    · rcases hs i s h with ⟨e, no⟩ | ⟨a, d, hv, ha, t, q⟩
      · obtain ⟨v, hv, q⟩ := sr.sl i s e
        refine ⟨v, hv, ?_⟩
        cases s with
        | shr d => exact Sh.mv m q
        | own d =>
          obtain ⟨a, rfl, e2, t⟩ := q
          exact ⟨a, rfl, List.mem_append_right _ e2, t.mv m fun o h ho => kp a o h (no rfl a hv) ho⟩
        | bor k d =>
          obtain ⟨a, rfl, e2, e3, t, e4⟩ := q
          obtain ⟨o, ho, _⟩ := t.some
          refine ⟨a, rfl, fun z => ?_, .inl e3, t.mv m fun o h ho => kp a o h (fun z => e2 (hO a z)) ho, e4⟩
          rcases List.mem_append.mp z with z | z
          · exact nL (by rw [ho]; simp) z
          · exact e2 z
        | io k d =>
          obtain ⟨a, rfl, e2, t, e4⟩ := q
          exact ⟨a, rfl, List.mem_append_right _ e2, t.mv m fun o h ho => kp a o h (no rfl a hv) ho, e4⟩
      · have t2 : Top c.K (fun b => Y b ∨ b ∈ L) H1 a d := t.yless fun b _ z => y21 b z
        refine ⟨.ref a, hv, ?_⟩
        rcases q with ⟨rfl, _⟩ | ⟨k, rfl, hk, _⟩
        · exact ⟨a, rfl, List.mem_append_right _ (hO a ha), t2⟩
        · exact ⟨a, rfl, List.mem_append_right _ (hO a ha), t2, hk⟩
    · exact sr.ap i j a n (oldOwn h1) (oldOwn h2) e1 e2
end
end Dl
set_option Elab.async false
set_option linter.all false
set_option maxRecDepth 100000
set_option maxHeartbeats 4000000
namespace Dl
open PySem PySem.Spec PyProof.Rows L2 Evl Gx GxR
def RCall (c : Cs) : RelT (Bool × PyData) V := fun O Y σ env H v p => RRet c p.1 O Y σ env H v p.2
section
variable {c : Cs} {O O' O1 : List Addr} {Y Y' Y1 : Addr → Prop} {H H' H1 : Hp} {σ : L2.St} {env : DEnv} {W : WX} {ι : Type} {X : ι → Cx} {e : Expr} {es : List Expr} {vs : List V} {as : List ArgD}
theorem Sh.up {v : V} {d : PyData} (h : Sh c.K Y1 H v d) (y : ∀ b, Y' b → Y1 b) : Sh c.K Y' H v d := h.yless fun b _ z => y b z
theorem call_ok {S : List Slot → FR} {Q : VK} (sr : SR c O Y σ env H) (r : ArgsR c Y σ H vs as) (p : Post c (RCall c) O Y H σ Q W (callR S env as)) :
    spD c.K c.TS c.ca vs.length S vs H Q (fun cl dd H' => W cl dd σ H') := by
  refine ⟨rfl, ?_⟩
  unfold callR at p
  cases hss : slotsOf env 0 as with
  | none =>
    rw [hss] at p
    exact p.elim
  | some ss =>
  rw [hss] at p
  simp only at p
  obtain ⟨hl, hg⟩ := slotsOf_get hss
  cases hio : ioOf 0 as with
  | none =>
    have hb : ∀ outs, backE env as outs = none := fun outs => by
      unfold backE
      rw [hio]
    cases hS : S ss with
    | bad => rw [hS] at p; exact p.elim
    | ret fr d outs => rw [hS] at p; simp only [hb] at p; exact p.elim
    | exc x outs => rw [hS] at p; simp only [hb] at p; exact p.elim
  | some io =>
  cases io with
  | none =>
    have hb : ∀ outs, backE env as outs = some env := fun outs => by
      unfold backE
      rw [hio]
    have no := ioOf_none hio
    have sr0 := args_sr (O' := []) sr r hss (fun a h => by cases h) (fun j i a h => (no j i h).elim) (fun _ _ _ _ _ _ _ _ h => by cases h) (fun j k i l h => (no j i h).elim)
    refine ⟨[], Y, ss, sr0, (fun a h => by cases h), ?_⟩
    cases hS : S ss with
    | bad => rw [hS] at p; exact p.elim
    | ret fr d outs =>
      rw [hS] at p
      simp only [hb] at p
      intro v H1 O1 Y1 st sr1 hv
      cases fr with
      | false =>
        obtain ⟨s2, r2, y2⟩ := after (L := []) (env2 := env) sr (fun a h => by cases h) st sr1.sub sr1.tab (fun a h => by cases h) (fun b h => by cases h) (fun a h => by cases h) rfl fun i s h => .inl ⟨h, fun _ _ _ z => by cases z⟩
        exact p v H1 _ _ s2 r2 (Sh.up hv y2)
      | true =>
        obtain ⟨a, rfl, ha, hn, t⟩ := hv
        obtain ⟨s2, r2, y2⟩ := after (L := [a]) (env2 := env) sr (fun a h => by cases h) st sr1.sub sr1.tab (fun a h => by cases h) (fun b h => by
          cases List.mem_singleton.mp h
          exact ⟨hn, ha, sr1.own a ha⟩) (fun a h => by cases h) rfl fun i s h => .inl ⟨h, fun _ _ _ z => by cases z⟩
        refine p _ H1 _ _ s2 r2 ⟨a, rfl, List.mem_cons_self, fun i ⟨s, h1, h2⟩ z => ?_, t.yless fun b _ z => y2 b z⟩
        obtain ⟨v, hv, q⟩ := sr.sl i s h1
        rw [hv] at z
        cases z
        exact q.known hn
    | exc x outs =>
      rw [hS] at p
      simp only [hb] at p
      intro cl dd H1 O1 Y1 st sr1 ea
      obtain ⟨s2, r2, y2⟩ := after (L := []) (env2 := env) sr (fun a h => by cases h) st sr1.sub sr1.tab (fun a h => by cases h) (fun b h => by cases h) (fun a h => by cases h) rfl fun i s h => .inl ⟨h, fun _ _ _ z => by cases z⟩
      exact p cl dd H1 _ _ s2 r2 ea
  | some ji =>
    obtain ⟨j, i⟩ := ji
    obtain ⟨q, hq, hj, hu⟩ := ioOf_some hio
    rw [Nat.zero_add] at hq
    subst hq
    by_cases hnv : noVar i as = true
    · have hb : ∀ outs, backE env as outs = (outD outs[j]?).bind (putIo env i) := fun outs => by
        unfold backE
        rw [hio]
        exact if_pos hnv
      obtain ⟨s, hs, hf⟩ := hg hj
      obtain ⟨u, hu2, rv⟩ := r.get hj
      have rv : σ[i]? = some (some u) := rv
      rcases slotOf_form hf with ⟨d, z, _⟩ | ⟨_, d, z, _⟩ | ⟨_, t, z, _⟩ | ⟨i', t, z, hi, ht, rfl⟩
      · cases z
      · cases z
      · cases z
      cases z
      have hi2 := slotAt_some hi
      have oi : OwnAt env i := ⟨t, hi2, ht⟩
      obtain ⟨a, rfl, ha⟩ : ∃ a, u = .ref a ∧ a ∈ O := by
        obtain ⟨v, hv, q⟩ := sr.sl i t hi2
        rw [rv] at hv
        cases hv
        cases t with
        | shr d => cases ht
        | bor k d => cases ht
        | own d =>
          obtain ⟨a, e, h, _⟩ := q
          exact ⟨a, e, h⟩
        | io k d =>
          obtain ⟨a, e, h, _⟩ := q
          exact ⟨a, e, h⟩
      have one : ∀ {b : Addr}, b ∈ [a] → b = a := fun h => List.mem_singleton.mp h
      have sr0 := args_sr (O' := [a]) sr r hss (fun b h => one h ▸ ha) (fun m l b h1 h2 => by
          have e := hu m l h1
          subst e
          rw [hu2] at h2
          cases h2
          exact List.mem_cons_self) (fun m l b t' h1 h2 h3 h4 z => by
          have ne : l ≠ i := by
            have := List.all_eq_true.mp hnv _ (List.mem_of_getElem? h1)
            simpa using this
          obtain ⟨v, hv, rv2⟩ := r.get h1
          rw [h4] at hv
          cases hv
          have rv2 : σ[l]? = some (some (.ref b)) := rv2
          rw [one z] at rv2
          obtain ⟨v, hv, q⟩ := sr.sl l t' (slotAt_some h2)
          rw [rv2] at hv
          cases hv
          cases t' with
          | shr d => exact h3 d rfl
          | own d => exact sr.ap l i a ne ⟨_, slotAt_some h2, rfl⟩ oi rv2 rv
          | bor k d =>
            obtain ⟨a', e, n, _⟩ := q
            cases e
            exact n ha
          | io k d => exact sr.ap l i a ne ⟨_, slotAt_some h2, rfl⟩ oi rv2 rv) (fun m k l l' h1 h2 => (hu m l h1).trans (hu k l' h2).symm)
      refine ⟨[a], Y, ss, sr0, fun b h => ⟨j, j, t.d, hs.trans (by rw [Nat.zero_add]), by rw [one h]; exact hu2⟩, ?_⟩
      -- behind it
      have back : ∀ {outs : List Slot} {env2 : DEnv} {H1 : Hp} {O1 : List Addr} {Y1 : Addr → Prop}, backE env as outs = some env2 → SR ⟨c.K, vs, c.TS, c.ca⟩ O1 Y1 (vs.map some) (outs.map some) H1 → a ∈ O1 ∧ env2.length = env.length ∧ ∀ (l : Nat) (s : Slot), env2[l]? = some (some s) → (env[l]? = some (some s) ∧ (s.isO = true → ∀ b, σ[l]? = some (some (.ref b)) → b ∉ [a])) ∨
          (∃ (b : Addr) (d : PyData), σ[l]? = some (some (.ref b)) ∧ b ∈ [a] ∧ Top c.K Y1 H1 b d ∧ ((s = .own d ∧ OwnAt env l) ∨ ∃ k, s = .io k d ∧ c.A0[k]? = some (.ref b) ∧ OwnAt env l)) := fun {outs env2 H1 O1 Y1} h sr1 => by
        rw [hb] at h
        obtain ⟨d', hd, hp⟩ := Option.bind_eq_some_iff.mp h
        have ho : ∃ k, outs[j]? = some (.io k d') := by
          unfold outD at hd
          split at hd
          · cases hd
            exact ⟨_, by assumption⟩
          · cases hd
        obtain ⟨k0, ho⟩ := ho
        obtain ⟨v, hv, b, e1, e2, t1, _⟩ := sr1.sl j _ (getElem?_map_some.mpr ho)
        rw [getElem?_map_some.mp hv] at hu2
        cases hu2
        cases e1
        have hl2 := (List.getElem?_eq_some_iff.mp hi2).1
        unfold putIo at hp
        rw [hi] at hp
        have gen : ∀ {s0 : Slot}, env2 = env.set i (some s0) → ((s0 = .own d' ∧ OwnAt env i) ∨ ∃ k, s0 = .io k d' ∧ c.A0[k]? = some (.ref a) ∧ OwnAt env i) → a ∈ O1 ∧ env2.length = env.length ∧ ∀ (l : Nat) (s : Slot), env2[l]? = some (some s) → (env[l]? = some (some s) ∧ (s.isO = true → ∀ b, σ[l]? = some (some (.ref b)) → b ∉ [a])) ∨
          (∃ (b : Addr) (d : PyData), σ[l]? = some (some (.ref b)) ∧ b ∈ [a] ∧ Top c.K Y1 H1 b d ∧ ((s = .own d ∧ OwnAt env l) ∨ ∃ k, s = .io k d ∧ c.A0[k]? = some (.ref b) ∧ OwnAt env l)) := fun {s0} e0 q0 => by
          subst e0
          refine ⟨e2, by simp, fun l s hs => ?_⟩
          by_cases e : i = l
          · subst e
            rw [List.getElem?_set_self hl2] at hs
            cases hs
            exact .inr ⟨a, d', rv, List.mem_cons_self, t1, q0⟩
          · rw [List.getElem?_set_ne e] at hs
            refine .inl ⟨hs, fun so b hb z => ?_⟩
            rw [one z] at hb
            exact sr.ap l i a (fun z => e z.symm) ⟨s, hs, so⟩ oi hb rv
        cases t with
        | shr d => cases ht
        | bor k d => cases ht
        | own d =>
          cases hp
          exact gen rfl (.inl ⟨rfl, oi⟩)
        | io k d =>
          cases hp
          obtain ⟨v, hv, b, e1, e2, _, e4⟩ := sr.sl i _ hi2
          rw [rv] at hv
          cases hv
          exact gen rfl (.inr ⟨k, rfl, e4, oi⟩)
      cases hS : S ss with
      | bad => rw [hS] at p; exact p.elim
      | ret fr d outs =>
        rw [hS] at p
        intro v H1 O1 Y1 st sr1 hv
        cases hbk : backE env as outs with
        | none => simp only [hbk] at p; exact p.elim
        | some env2 =>
          simp only [hbk] at p
          obtain ⟨b1, b2, b3⟩ := back hbk sr1
          cases fr with
          | false =>
            obtain ⟨s2, r2, y2⟩ := after (L := []) (env2 := env2) sr (fun b h => one h ▸ ha) st sr1.sub sr1.tab (fun b h => one h ▸ b1) (fun b h => by cases h) (fun b h => one h ▸ sr1.own a b1) b2 b3
            exact p v H1 _ _ s2 r2 (Sh.up hv y2)
          | true =>
            obtain ⟨f, rfl, hf, hn, t1⟩ := hv
            obtain ⟨s2, r2, y2⟩ := after (L := [f]) (env2 := env2) sr (fun b h => one h ▸ ha) st sr1.sub sr1.tab (fun b h => one h ▸ b1) (fun b h => by
              cases List.mem_singleton.mp h
              exact ⟨hn, hf, sr1.own f hf⟩) (fun b h => one h ▸ sr1.own a b1) b2 b3
            refine p _ H1 _ _ s2 r2 ⟨f, rfl, List.mem_cons_self, fun l ⟨s, h1, h2⟩ z => ?_, t1.yless fun b _ z => y2 b z⟩
            rcases b3 l s h1 with ⟨e, _⟩ | ⟨b, d', hb', hb2, _, _⟩
            · obtain ⟨v, hv, q⟩ := sr.sl l s e
              rw [hv] at z
              cases z
              exact q.known hn
            · rw [hb'] at z
              cases z
              rw [one hb2] at hn
              obtain ⟨o, h, _⟩ := sr.own a ha
              rw [hn] at h
              cases h
      | exc x outs =>
        rw [hS] at p
        intro cl dd H1 O1 Y1 st sr1 ea
        cases hbk : backE env as outs with
        | none => simp only [hbk] at p; exact p.elim
        | some env2 =>
          simp only [hbk] at p
          obtain ⟨b1, b2, b3⟩ := back hbk sr1
          obtain ⟨s2, r2, y2⟩ := after (L := []) (env2 := env2) sr (fun b h => one h ▸ ha) st sr1.sub sr1.tab (fun b h => one h ▸ b1) (fun b h => by cases h) (fun b h => one h ▸ sr1.own a b1) b2 b3
          exact p cl dd H1 _ _ s2 r2 ea
    · have hb : ∀ outs, backE env as outs = none := fun outs => by
        unfold backE
        rw [hio]
        exact if_neg hnv
      cases hS : S ss with
      | bad => rw [hS] at p; exact p.elim
      | ret fr d outs => rw [hS] at p; simp only [hb] at p; exact p.elim
      | exc x outs => rw [hS] at p; simp only [hb] at p; exact p.elim
/-! argument lists -/
def aNil : DEnv → R (List ArgD) := fun env => .ok [] env
def aVal (F : DEnv → R PyData) (G : DEnv → R (List ArgD)) : DEnv → R (List ArgD) := fun env => (F env).bind fun d e => (G e).bind fun as e2 => .ok (.val d :: as) e2
def aVar (i : Nat) (G : DEnv → R (List ArgD)) : DEnv → R (List ArgD) := fun env => match slotAt env i with
  | some _ => (G env).bind fun as e2 => .ok (.var i :: as) e2
  | none => .bad
def aIo (i : Nat) (G : DEnv → R (List ArgD)) : DEnv → R (List ArgD) := fun env => match slotAt env i with
  | some _ => (G env).bind fun as e2 => .ok (.io i :: as) e2
  | none => .bad
def AL (A : DEnv → R (List ArgD)) (m : Nat) : Prop := ∀ env as e, A env = .ok as e → as.length = m
theorem R.bind_ok {α β : Type} {r : R α} {k : α → DEnv → R β} {b : β} {e : DEnv} (h : r.bind k = .ok b e) : ∃ a e1, r = .ok a e1 ∧ k a e1 = .ok b e := by
  cases r with
  | ok a e1 => exact ⟨a, e1, rfl, h⟩
  | exc x e1 => cases h
  | bad => cases h
theorem al_nil : AL aNil 0 := fun env as e h => by
  cases h
  rfl
theorem al_val {F : DEnv → R PyData} {G : DEnv → R (List ArgD)} {m : Nat} (g : AL G m) : AL (aVal F G) (m + 1) := fun env as e h => by
  obtain ⟨d, e1, _, h⟩ := R.bind_ok h
  obtain ⟨as', e2, h1, h⟩ := R.bind_ok h
  cases h
  rw [List.length_cons, g _ _ _ h1]
theorem al_var {i : Nat} {G : DEnv → R (List ArgD)} {m : Nat} (g : AL G m) : AL (aVar i G) (m + 1) := fun env as e h => by
  unfold aVar at h
  split at h
  · obtain ⟨as', e2, h1, h⟩ := R.bind_ok h
    cases h
    rw [List.length_cons, g _ _ _ h1]
  · cases h
theorem al_io {i : Nat} {G : DEnv → R (List ArgD)} {m : Nat} (g : AL G m) : AL (aIo i G) (m + 1) := fun env as e h => by
  unfold aIo at h
  split at h
  · obtain ⟨as', e2, h1, h⟩ := R.bind_ok h
    cases h
    rw [List.length_cons, g _ _ _ h1]
  · cases h
theorem sa_nil : SA c W X [] aNil := fun O Y σ env H Q sr p => ⟨_, fun _ => pa_nil, p [] H O Y .refl sr .nil⟩
theorem sa_val {F : DEnv → R PyData} {G : DEnv → R (List ArgD)} (h : SE c W X e F) (g : SA c W X es G) (hs : ∀ k, starEach (e :: es) (X k).env = (false, eval e (X k).env) :: starEach es (X k).env := by intro _; rfl) : SA c W X (e :: es) (aVal F G) := fun O Y σ env H Q sr p =>
  ⟨_, fun k => pa_cons (RD.pe k) (RA.pa k) (hs k), h.next sr p fun d e1 v H1 O1 Y1 st1 sr1 r1 p1 => g.next sr1 p1 fun ds e2 vs H2 O2 Y2 st2 sr2 r2 p2 => p2 _ H2 O2 Y2 .refl sr2 (.cons (Sh.mv (sr1.mv st2) r1) r2)⟩
theorem sa_var {i : Nat} {x : Str} {pos : Pos} {G : DEnv → R (List ArgD)} (pv : ∀ k, PE (X k) (.Name x pos) (tVar i)) (g : SA c W X es G) (hs : ∀ k, starEach (.Name x pos :: es) (X k).env = (false, eval (.Name x pos) (X k).env) :: starEach es (X k).env := by intro _; rfl) : SA c W X (.Name x pos :: es) (aVar i G) := fun O Y σ env H Q sr p => by
  unfold aVar at p
  cases h : slotAt env i with
  | none =>
    rw [h] at p
    exact p.elim
  | some s =>
    rw [h] at p
    obtain ⟨v, hv, _⟩ := sr.sl i s (slotAt_some h)
    exact ⟨_, fun k => pa_cons (pv k) (RA.pa k) (hs k), v, hv, g.next sr p fun ds e2 vs H2 O2 Y2 st2 sr2 r2 p2 => p2 _ H2 O2 Y2 .refl sr2 (.cons hv r2)⟩
theorem sa_io {i : Nat} {x : Str} {pos : Pos} {G : DEnv → R (List ArgD)} (pv : ∀ k, PE (X k) (.Name x pos) (tVar i)) (g : SA c W X es G) (hs : ∀ k, starEach (.Name x pos :: es) (X k).env = (false, eval (.Name x pos) (X k).env) :: starEach es (X k).env := by intro _; rfl) : SA c W X (.Name x pos :: es) (aIo i G) := fun O Y σ env H Q sr p => by
  unfold aIo at p
  cases h : slotAt env i with
  | none =>
    rw [h] at p
    exact p.elim
  | some s =>
    rw [h] at p
    obtain ⟨v, hv, _⟩ := sr.sl i s (slotAt_some h)
    exact ⟨_, fun k => pa_cons (pv k) (RA.pa k) (hs k), v, hv, g.next sr p fun ds e2 vs H2 O2 Y2 st2 sr2 r2 p2 => p2 _ H2 O2 Y2 .refl sr2 (.cons hv r2)⟩
/-- f(e, ..) -/
def fCall (S : List Slot → FR) (dfl : List PyData) (A : DEnv → R (List ArgD)) : DEnv → R PyData := fun env => (A env).bind fun as e => (callR S e (as ++ dfl.map ArgD.val)).bind fun p e2 => .ok p.2 e2
def fCallO (S : List Slot → FR) (dfl : List PyData) (A : DEnv → R (List ArgD)) : DEnv → R PyData := fun env => (A env).bind fun as e => (callR S e (as ++ dfl.map ArgD.val)).bind fun p e2 => if p.1 = true then .ok p.2 e2 else .bad
theorem ArgsR.vals {dvs : List V} {dfl : List PyData} : ShA c.K Y H dvs dfl → ArgsR c Y σ H dvs (dfl.map ArgD.val)
  | .nil => .nil
  | .cons a b => .cons a (ArgsR.vals b)
section
variable {k n : Nat} {f : Addr} {fd : FuncData} {ps : List Str} {S : List Slot → FR} {dvs : List V} {ds : List Value} {dfl : List PyData} {x : Str} {p pos : Pos} {A : DEnv → R (List ArgD)}
theorem sc_core {γ : Type} {Q : VK} {R' : RelT γ V} {kk : Bool × PyData → DEnv → R γ} (G : ∀ j, FnOk (X j).prog (X j).w (X j).K (X j).mg (X j).base (L2.CX (X j).prog (X j).w) k f fd ps (spD c.K c.TS c.ca n S)) (hr : ∀ j, Room k (X j).A) (hg : ∀ j, Gl (X j) x) (hm : ∀ j, (X j).mg x = some (.ref f)) (hk : ∀ j, PySem.W.keepIn (X j).K (.ref f) = true) (hb : ∀ j, Binds (X j).K fd ps ds) (hd : Vals dvs ds)
    (hdv : ∀ Y H, ShA c.K Y H dvs dfl) (tk : ∀ j, Takes (X j) W) (ha : SA c W X (e :: es) A) (hdb : (x == ("__debug__" : Str)) = false) (he : ∀ j, starEach (e :: es) (X j).env = (false, eval e (X j).env) :: starEach es (X j).env) (hpl : ∀ j, (backTo pos (starEach es (X j).env)).any (·.1) = false)
    (sr : SR c O Y σ env H) (pp : Post c R' O Y H σ Q W ((A env).bind fun as e => (callR S e (as ++ dfl.map ArgD.val)).bind kk))
    (fin : ∀ (O2 : List Addr) (Y2 : Addr → Prop) (e2 : DEnv) (H2 : Hp) (v : V) (q : Bool × PyData), SR c O2 Y2 σ e2 H2 → RCall c O2 Y2 σ e2 H2 v q → Post c R' O2 Y2 H2 σ Q W (kk q e2) → Q v H2)
    {m : Nat} (hlen : AL A m) (hmn : m + dfl.length = n) :
    RD X (.Call (.Name x p) (e :: es) [] pos) σ H Q := by
  refine ⟨_, fun j => pe_callSD (E := WE W) (G j) (hr j) (hg j) (hm j) (hk j) (hb j) hd (fun σ => passAt (tk j) σ) (RA.pa j) hdb (he j) (hpl j), ?_⟩
  cases hA : A env with
  | bad => rw [hA] at pp; exact pp.elim
  | exc x e1 =>
    rw [hA] at pp
    refine ha O Y σ env H _ sr ?_
    rw [hA]
    exact pp
  | ok as e1 =>
    have hl : (as ++ dfl.map ArgD.val).length = n := by
      rw [List.length_append, List.length_map, hlen env as e1 hA]
      exact hmn
    rw [hA] at pp
    refine ha O Y σ env H _ sr ?_
    rw [hA]
    intro vs H1 O1 Y1 st1 sr1 r1
    have p1 := Post.shift pp sr.yd st1
    have r2 : ArgsR c Y1 σ H1 (vs ++ dvs) (as ++ dfl.map ArgD.val) := ArgsR.app r1 (ArgsR.vals (hdv Y1 H1))
    have e3 : (vs ++ dvs).length = n := r2.len.trans hl
    have := call_ok (S := S) (Q := Q) (W := W) sr1 r2 ?_
    · rw [e3] at this
      exact this
    · have p1 : Post c R' O1 Y1 H1 σ Q W ((callR S e1 (as ++ dfl.map ArgD.val)).bind kk) := p1
      cases hC : callR S e1 (as ++ dfl.map ArgD.val) with
      | bad => rw [hC] at p1; exact p1.elim
      | exc x e4 => rw [hC] at p1; exact p1
      | ok q e4 =>
        rw [hC] at p1
        exact fun v H2 O2 Y2 st2 sr2 rel => fin O2 Y2 e4 H2 v q sr2 rel (Post.shift p1 sr1.yd st2)
theorem se_call (G : ∀ j, FnOk (X j).prog (X j).w (X j).K (X j).mg (X j).base (L2.CX (X j).prog (X j).w) k f fd ps (spD c.K c.TS c.ca n S)) (hr : ∀ j, Room k (X j).A) (hg : ∀ j, Gl (X j) x) (hm : ∀ j, (X j).mg x = some (.ref f)) (hk : ∀ j, PySem.W.keepIn (X j).K (.ref f) = true) (hb : ∀ j, Binds (X j).K fd ps ds) (hd : Vals dvs ds)
    (hdv : ∀ Y H, ShA c.K Y H dvs dfl) (tk : ∀ j, Takes (X j) W) (ha : SA c W X (e :: es) A) {m : Nat} (hlen : AL A m) (hmn : m + dfl.length = n := by rfl)
    (hdb : (x == ("__debug__" : Str)) = false := by decide) (he : ∀ j, starEach (e :: es) (X j).env = (false, eval e (X j).env) :: starEach es (X j).env := by intro _; rfl) (hpl : ∀ j, (backTo pos (starEach es (X j).env)).any (·.1) = false := by intro _; rfl) :
    SE c W X (.Call (.Name x p) (e :: es) [] pos) (fCall S dfl A) := fun O Y σ env H Q sr pp =>
  sc_core G hr hg hm hk hb hd hdv tk ha hdb he hpl sr pp (fun O2 Y2 e2 H2 v q sr2 rel p2 => by
    obtain ⟨fr, d⟩ := q
    cases fr with
    | false => exact p2 v H2 O2 Y2 .refl sr2 rel
    | true =>
      obtain ⟨a, rfl, ha, hf, t⟩ := rel
      obtain ⟨st2, sr3, sh⟩ := freeze sr2 hf ha t
      exact p2 _ H2 _ _ st2 sr3 sh) hlen hmn
theorem so_call (G : ∀ j, FnOk (X j).prog (X j).w (X j).K (X j).mg (X j).base (L2.CX (X j).prog (X j).w) k f fd ps (spD c.K c.TS c.ca n S)) (hr : ∀ j, Room k (X j).A) (hg : ∀ j, Gl (X j) x) (hm : ∀ j, (X j).mg x = some (.ref f)) (hk : ∀ j, PySem.W.keepIn (X j).K (.ref f) = true) (hb : ∀ j, Binds (X j).K fd ps ds) (hd : Vals dvs ds)
    (hdv : ∀ Y H, ShA c.K Y H dvs dfl) (tk : ∀ j, Takes (X j) W) (ha : SA c W X (e :: es) A) {m : Nat} (hlen : AL A m) (hmn : m + dfl.length = n := by rfl)
    (hdb : (x == ("__debug__" : Str)) = false := by decide) (he : ∀ j, starEach (e :: es) (X j).env = (false, eval e (X j).env) :: starEach es (X j).env := by intro _; rfl) (hpl : ∀ j, (backTo pos (starEach es (X j).env)).any (·.1) = false := by intro _; rfl) :
    SO c W X (.Call (.Name x p) (e :: es) [] pos) (fCallO S dfl A) := fun O Y σ env H Q sr pp =>
  sc_core G hr hg hm hk hb hd hdv tk ha hdb he hpl sr pp (fun O2 Y2 e2 H2 v q sr2 rel p2 => by
    obtain ⟨fr, d⟩ := q
    cases fr with
    | false => exact p2.elim
    | true => exact p2 v H2 O2 Y2 .refl sr2 rel) hlen hmn
end
end
end Dl
set_option Elab.async false
set_option linter.all false
set_option maxRecDepth 100000
set_option maxHeartbeats 4000000
namespace Dl
open PySem PySem.Spec PyProof.Rows L2 Evl Gx GxR
/-! a def -/
def padE (N : Nat) (ss : List Slot) : DEnv := ss.map some ++ List.replicate (N - ss.length) none
def outS (e : DEnv) : Nat → List Slot → Option (List Slot)
  | _, [] => some []
  | j, .io k _ :: r => match slotAt e j with
    | some (.io k' d) => if k' = k then (outS e (j + 1) r).map (.io k d :: ·) else none
    | _ => none
  | _, .own _ :: _ => none
  | j, .shr d :: r => (outS e (j + 1) r).map (.shr d :: ·)
  | j, .bor k d :: r => (outS e (j + 1) r).map (.bor k d :: ·)
def toFR (ss : List Slot) : Flow → FR
  | .next e => match outS e 0 ss with
    | some o => .ret false .none o
    | none => .bad
  | .ret fr d e => match outS e 0 ss with
    | some o => .ret fr d o
    | none => .bad
  | .exc x e => match outS e 0 ss with
    | some o => .exc x o
    | none => .bad
  | _ => .bad
def runD (N : Nat) (G : DEnv → Flow) (ss : List Slot) : FR := toFR ss (G (padE N ss))
section
variable {c : Cs} {O O' O1 : List Addr} {Y Y' Y1 : Addr → Prop} {H H' H1 : Hp} {σ : L2.St} {env e : DEnv} {W : WX} {vs : List V}
theorem outS_get : ∀ {ss o : List Slot} {m : Nat}, outS e m ss = some o → o.length = ss.length ∧ ∀ {j : Nat} {s : Slot}, ss[j]? = some s →
    (s.isO = false ∧ o[j]? = some s) ∨ ∃ k d d', s = .io k d ∧ o[j]? = some (.io k d') ∧ slotAt e (m + j) = some (.io k d')
  | [], o, m, h => by
    cases h
    exact ⟨rfl, fun h => by cases h⟩
  | .own _ :: _, _, _, h => by cases h
  | .shr d :: r, o, m, h => by
    obtain ⟨o', h', rfl⟩ := Option.map_eq_some_iff.mp h
    obtain ⟨hl, hg⟩ := outS_get h'
    refine ⟨by rw [List.length_cons, List.length_cons, hl], fun {j s} hs => ?_⟩
    cases j with
    | zero =>
      cases hs
      exact .inl ⟨rfl, rfl⟩
    | succ j =>
      rcases hg (j := j) hs with h | ⟨k, d, d', h1, h2, h3⟩
      · exact .inl h
      · exact .inr ⟨k, d, d', h1, h2, by rw [← h3]; congr 1; omega⟩
  | .bor k d :: r, o, m, h => by
    obtain ⟨o', h', rfl⟩ := Option.map_eq_some_iff.mp h
    obtain ⟨hl, hg⟩ := outS_get h'
    refine ⟨by rw [List.length_cons, List.length_cons, hl], fun {j s} hs => ?_⟩
    cases j with
    | zero =>
      cases hs
      exact .inl ⟨rfl, rfl⟩
    | succ j =>
      rcases hg (j := j) hs with h | ⟨k, d, d', h1, h2, h3⟩
      · exact .inl h
      · exact .inr ⟨k, d, d', h1, h2, by rw [← h3]; congr 1; omega⟩
  | .io k d :: r, o, m, h => by
    unfold outS at h
    split at h
    · rename_i k' d' hs0
      split at h
      · rename_i hk
        obtain ⟨o', h', rfl⟩ := Option.map_eq_some_iff.mp h
        obtain ⟨hl, hg⟩ := outS_get h'
        refine ⟨by rw [List.length_cons, List.length_cons, hl], fun {j s} hs => ?_⟩
        cases j with
        | zero =>
          cases hs
          exact .inr ⟨k, d, d', rfl, rfl, by rw [← hk]; exact hs0⟩
        | succ j =>
          rcases hg (j := j) hs with h | ⟨k, d, d', h1, h2, h3⟩
          · exact .inl h
          · exact .inr ⟨k, d, d', h1, h2, by rw [← h3]; congr 1; omega⟩
      · cases h
    · cases h
theorem exit_sr {ss o : List Slot} (hA : c.A0 = vs) (sr : SR c O Y (vs.map some) (ss.map some) H) (st : Step O Y H O' Y' H') (sr' : SR c O' Y' σ e H') (h : outS e 0 ss = some o) : SR c O' Y' (vs.map some) (o.map some) H' := by
  obtain ⟨hl, hg⟩ := outS_get h
  have back : ∀ {j : Nat} {t : Slot}, o[j]? = some t → ∃ s, ss[j]? = some s ∧ ((s.isO = false ∧ t = s) ∨ ∃ k d d', s = .io k d ∧ t = .io k d' ∧ slotAt e j = some (.io k d')) := fun {j t} ht => by
    have hj : j < ss.length := by
      rw [← hl]
      exact (List.getElem?_eq_some_iff.mp ht).1
    refine ⟨_, List.getElem?_eq_getElem hj, ?_⟩
    rcases hg (List.getElem?_eq_getElem hj) with ⟨h1, h2⟩ | ⟨k, d, d', h1, h2, h3⟩
    · rw [ht] at h2
      exact .inl ⟨h1, Option.some.inj h2⟩
    · rw [ht] at h2
      exact .inr ⟨k, d, d', h1, Option.some.inj h2, by rw [← h3, Nat.zero_add]⟩
  have m := sr.mv st
  have sl := sr.len
  rw [List.length_map, List.length_map] at sl
  have iov : ∀ {j k : Nat} {d d' : PyData}, ss[j]? = some (.io k d) → slotAt e j = some (.io k d') → ∃ a, vs[j]? = some (.ref a) ∧ σ[j]? = some (some (.ref a)) ∧ a ∈ O' ∧ Top c.K Y' H' a d' ∧ c.A0[k]? = some (.ref a) := fun {j k d d'} h1 h2 => by
    obtain ⟨v, hv, a, rfl, _, _, e1⟩ := sr.sl j _ (getElem?_map_some.mpr h1)
    obtain ⟨v', hv', b, rfl, e2, e3, e4⟩ := sr'.sl j _ (slotAt_some h2)
    rw [e1] at e4
    cases e4
    exact ⟨a, getElem?_map_some.mp hv, hv', e2, e3, e1⟩
  refine ⟨sr'.sub, sr'.own, sr'.yd, by rw [List.length_map, List.length_map, hl, sl], fun j t ht => ?_, fun i j a n h1 h2 e1 e2 => ?_, sr'.tab, sr'.a0⟩
  · obtain ⟨s, hs, ⟨so, rfl⟩ | ⟨k, d, d', rfl, rfl, he⟩⟩ := back (getElem?_map_some.mp ht)
    · obtain ⟨v, hv, q⟩ := sr.sl j t (getElem?_map_some.mpr hs)
      refine ⟨v, hv, ?_⟩
      cases t with
      | shr d => exact Sh.mv m q
      | own d => cases so
      | io k d => cases so
      | bor k d =>
        obtain ⟨a, rfl, e2, e3, tp, e4⟩ := q
        obtain ⟨u, hu, huo⟩ := tp.some
        refine ⟨a, rfl, fun z => ?_, (st.kY a e3).resolve_left e2, tp.mv m fun o h ho => ?_, e4⟩
        · rcases st.nO a z with z | z
          · exact e2 z
          · rw [hu] at z
            cases z
        · rcases st.keep a o h with z | ⟨ps, z⟩ | z
          · exact (e2 z.1).elim
          · rw [z] at ho; cases ho
          · exact z
    · obtain ⟨a, h1, h2, h3, h4, h5⟩ := iov hs he
      exact ⟨.ref a, getElem?_map_some.mpr h1, a, rfl, h3, h4, h5⟩
  · have ow : ∀ {j : Nat} {b : Addr}, OwnAt (o.map some) j → (vs.map some)[j]? = some (some (.ref b)) → OwnAt e j ∧ σ[j]? = some (some (.ref b)) := fun {j b} ⟨t, h1, h2⟩ hb => by
      obtain ⟨s, hs, ⟨so, rfl⟩ | ⟨k, d, d', rfl, rfl, he⟩⟩ := back (getElem?_map_some.mp h1)
      · rw [so] at h2
        cases h2
      · obtain ⟨a, h1, h2, _⟩ := iov hs he
        rw [getElem?_map_some.mp hb] at h1
        cases h1
        exact ⟨⟨_, slotAt_some he, rfl⟩, h2⟩
    obtain ⟨p1, p2⟩ := ow h1 e1
    obtain ⟨q1, q2⟩ := ow h2 e2
    exact sr'.ap i j a n p1 q1 p2 q2
theorem SR.pad {N : Nat} {ss : List Slot} (sr : SR c O Y (vs.map some) (ss.map some) H) (hN : vs.length ≤ N) : SR c O Y (vs.map some ++ List.replicate (N - vs.length) none) (padE N ss) H := by
  have sl := sr.len
  rw [List.length_map, List.length_map] at sl
  have inn : ∀ {i : Nat} {s : Slot}, (padE N ss)[i]? = some (some s) → (ss.map some)[i]? = some (some s) := fun {i s} h => by
    unfold padE at h
    by_cases hi : i < ss.length
    · rw [List.getElem?_append_left (by simpa using hi)] at h
      exact h
    · rw [List.getElem?_append_right (by simpa using hi), List.getElem?_replicate] at h
      split at h <;> cases h
  have out : ∀ {i : Nat} {v : V}, i < vs.length → (vs.map some ++ List.replicate (N - vs.length) (none : Option V))[i]? = (vs.map some)[i]? := fun {i v} hi => List.getElem?_append_left (by simpa using hi)
  have lt : ∀ {i : Nat} {s : Slot}, (ss.map some)[i]? = some (some s) → i < vs.length := fun {i s} h => by
    have := (List.getElem?_eq_some_iff.mp h).1
    rw [List.length_map] at this
    omega
  refine ⟨sr.sub, sr.own, sr.yd, by unfold padE; simp; omega, fun i s h => ?_, fun i j a n h1 h2 e1 e2 => ?_, sr.tab, sr.a0⟩
  · obtain ⟨v, hv, q⟩ := sr.sl i s (inn h)
    exact ⟨v, by rw [out (v := v) (lt (inn h))]; exact hv, q⟩
  · obtain ⟨s, z1, z2⟩ := h1
    obtain ⟨s', w1, w2⟩ := h2
    rw [out (v := .ref a) (lt (inn z1))] at e1
    rw [out (v := .ref a) (lt (inn w1))] at e2
    exact sr.ap i j a n ⟨s, inn z1, z2⟩ ⟨s', inn w1, w2⟩ e1 e2
theorem body_post {G : DEnv → Flow} {N : Nat} {ss : List Slot} {Q : VK} {E : XK} (hA : c.A0 = vs) (sr : SR c O Y (vs.map some) (ss.map some) H) (ho : ∀ a ∈ O, ∃ (j k : Nat) (d : PyData), ss[j]? = some (.io k d) ∧ vs[j]? = some (.ref a)) (p : FRPost c vs O Y H Q E (runD N G ss)) :
    FPost c O Y H { nx := fun _ H' => Q .non H', rt := Q } (fun cls d _ H' => E cls d H') (G (padE N ss)) := by
  unfold runD at p
  cases hG : G (padE N ss) with
  | next e =>
    rw [hG] at p
    intro σ H' O' Y' st sr'
    unfold toFR at p
    cases h : outS e 0 ss with
    | none =>
      simp only [h] at p
      exact p.elim
    | some o =>
      simp only [h] at p
      exact p .non H' O' Y' st (exit_sr hA sr st sr' h) .non
  | ret fr d e =>
    rw [hG] at p
    intro v σ H' O' Y' st sr' r
    unfold toFR at p
    cases h : outS e 0 ss with
    | none =>
      simp only [h] at p
      exact p.elim
    | some o =>
      simp only [h] at p
      refine p v H' O' Y' st (exit_sr hA sr st sr' h) ?_
      cases fr with
      | false => exact r
      | true =>
        obtain ⟨a, rfl, ha, hf, t⟩ := r
        refine ⟨a, rfl, ha, ?_, t⟩
        rcases st.nO a ha with z | z
        · obtain ⟨j, k, d', h1, h2⟩ := ho a z
          rcases (outS_get h).2 h1 with ⟨q, _⟩ | ⟨k', d1, d2, q1, q2, q3⟩
          · cases q
          · cases q1
            rw [Nat.zero_add] at q3
            obtain ⟨v1, hv1, b, rfl, _, _, e1⟩ := sr.sl j _ (getElem?_map_some.mpr h1)
            obtain ⟨v2, hv2, b2, rfl, _, _, e2⟩ := sr'.sl j _ (slotAt_some q3)
            rw [e1] at e2
            cases e2
            rw [getElem?_map_some.mp hv1] at h2
            cases h2
            exact (hf j ⟨_, slotAt_some q3, rfl⟩ hv2).elim
        · exact z
  | exc x e =>
    rw [hG] at p
    intro cl dd σ H' O' Y' st sr' ea
    unfold toFR at p
    cases h : outS e 0 ss with
    | none =>
      simp only [h] at p
      exact p.elim
    | some o =>
      simp only [h] at p
      exact p cl dd H' O' Y' st (exit_sr hA sr st sr' h) ea
  | brk e => rw [hG] at p; exact p.elim
  | cont e => rw [hG] at p; exact p.elim
  | bad => rw [hG] at p; exact p.elim
end
section
variable {P : Program} {w : World} {K : PySem.W.Frag} {mg : Str → Option Value} {base : Heap}
theorem fn_D {x qual : Str} {st : Stmt} {f : Addr} {fd : FuncData} {N ps : List Str} {k : Nat} {G : DEnv → Flow} (TS : List Addr) (ca : Str → Addr) (F : Fun K x qual st f fd) (Sc : FnScope N ps (defScope st))
    (body : ∀ (cdv : Value) (A : Around) (outer : List Env) (s : Shared) (H : Hp) (vs : List V) (E : XK), Room k (A.deeper (envOfC qual (defScope st) s.heap.objs.size f cdv)) →
      SSs ⟨K, vs, TS, ca⟩ (fun cls d _ H' => E cls d H') (fun _ : Unit => cxOf (L2.CX P w) P w K mg base N qual (defScope st) f cdv A outer s H E) (defBody st) G) :
    FnOk P w K mg base (L2.CX P w) (k + 1) f fd ps (spD K TS ca ps.length (runD N.length G)) := by
  refine F.okX Sc (fun vs H Q E h => h.1) fun cdv A outer s H vs Q E hr h => ?_
  obtain ⟨hn, O, Y, ss, sr, ho, p⟩ := h
  have hle : vs.length ≤ N.length := by
    have := congrArg List.length Sc.pre
    rw [List.length_take] at this
    omega
  obtain ⟨t, h, q⟩ := body cdv A outer s H vs E hr O Y (start N vs) (padE N.length ss) H _ (sr.pad hle) (body_post rfl sr ho p)
  exact ⟨t, h (), q⟩
/-- .. whose code object is known -/
theorem fn_DC {x qual : Str} {st : Stmt} {f cA : Addr} {fd : FuncData} {N ps : List Str} {k : Nat} {G : DEnv → Flow} (TS : List Addr) (ca : Str → Addr) (F : FunC K x qual st f fd cA) (Sc : FnScope N ps (defScope st))
    (body : ∀ (A : Around) (outer : List Env) (s : Shared) (H : Hp) (vs : List V) (E : XK), Room k (A.deeper (envOfC qual (defScope st) s.heap.objs.size f (.ref cA))) →
      SSs ⟨K, vs, TS, ca⟩ (fun cls d _ H' => E cls d H') (fun _ : Unit => cxOf (L2.CX P w) P w K mg base N qual (defScope st) f (.ref cA) A outer s H E) (defBody st) G) :
    FnOk P w K mg base (L2.CX P w) (k + 1) f fd ps (spD K TS ca ps.length (runD N.length G)) := by
  obtain ⟨_, _, _, _, _, _, _, _, rfl, h1, h2⟩ := F.fc
  refine fn_of h1 h2 Sc (fun vs H Q E h => h.1) fun A outer s H vs Q E hr h => ?_
  obtain ⟨hn, O, Y, ss, sr, ho, p⟩ := h
  have hle : vs.length ≤ N.length := by
    have := congrArg List.length Sc.pre
    rw [List.length_take] at this
    omega
  obtain ⟨t, h, q⟩ := body A outer s H vs E hr O Y (start N vs) (padE N.length ss) H _ (sr.pad hle) (body_post rfl sr ho p)
  exact ⟨t, h (), q⟩
/-- a def whose promise tells of data another way -/
theorem fn_imp {f : Addr} {fd : FuncData} {ps : List Str} {k n : Nat} {S S' : List Slot → FR} {TS : List Addr} {ca : Str → Addr} (G : FnOk P w K mg base (L2.CX P w) k f fd ps (spD K TS ca n S)) (h : ∀ ss, S' ss = S ss ∨ S' ss = .bad) :
    FnOk P w K mg base (L2.CX P w) k f fd ps (spD K TS ca n S') := G.imp fun vs H Q E ⟨hn, O, Y, ss, sr, ho, p⟩ => by
  refine ⟨hn, O, Y, ss, sr, ho, ?_⟩
  rcases h ss with e | e
  · rw [e] at p
    exact p
  · rw [e] at p
    exact p.elim
/-- a def that lets nothing out -/
theorem fn_of0 {f : Addr} {fd : FuncData} {ps : List Str} {k : Nat} {sp : Sp} (G : FnOk P w K mg base CX0 k f fd ps sp) : FnOk P w K mg base (L2.CX P w) k f fd ps sp :=
  ⟨G.len, fun A outer s H args us vs Q E hr e0 hb r hs => codeAny_mono (G.run A outer s H args us vs Q E hr e0 hb r hs) fun r s' q => by
    cases r with
    | ok fl => cases fl <;> exact q
    | error e => exact q.elim⟩
end
end Dl
set_option Elab.async false
set_option linter.all false
set_option maxRecDepth 100000
set_option maxHeartbeats 4000000
namespace Eh
open PySem PySem.Spec PyProof.Rows L2 Evl
open Sem (wp)
open AutoSeq1 (wpAny_loadPart')
/-! enumerate of a tuple -/
theorem enumT_meets {v : Value} {ob : Obj} {G : Heap → Prop} (B : Begins v ob G) : Meets (Builtin.«enumerate.__new__» ⟨[.type "enumerate", v], []⟩) (fun _ R s1 => G s1.heap ∧ R (.ok (.ret (.ref (s1.heap.push ob).objs.size))) { s1 with heap := (s1.heap.push ob).push { cls := .type "enumerate", data := .fields #[.none, .bool false, .ref s1.heap.objs.size, rawInt 0, .none, .none] } }) :=
  .of_wp fun pr wo ar R s1 hyp => by
    obtain ⟨hp, gg, dd, tt, oo⟩ := s1; obtain ⟨hg, hyp⟩ := hyp
    have hsb := sub_enumerate
    have hit : ∀ {A' : Around} {E : Value → Shared → Prop} {Q : Value → Shared → Prop}, Q (.ref hp.objs.size) ⟨hp.push ob, gg, dd, tt, oo⟩ → wpAny (model pr wo) A' (pyIter v) Q E ⟨hp, gg, dd, tt, oo⟩ := fun q => B.iter pr wo _ _ ⟨hp, gg, dd, tt, oo⟩ _ hg q
    wp_walk using hit
    refine wpAny_stack_any fun stk => wpAny_pure ?_
    split
    · rename_i cl _ _ _ _ _; cases (cl == Value.type "enumerate") <;> (wp_walk using hit; exact ⟨_, rfl, hyp⟩)
    · wp_walk using hit; exact ⟨_, rfl, hyp⟩
theorem enumT_call {prog : Program} {w : World} {A : Around} {E : Value → Shared → Prop} {s : Shared} {v : Value} {ob : Obj} {G : Heap → Prop} {Q : Value → Shared → Prop} (B : Begins v ob G) (hg : G s.heap)
    (hyp : ∀ h', IsEnum h' (s.heap.objs.size + 1) s.heap.objs.size 0 .none → h'.get? s.heap.objs.size = some ob → h'.objs.size = s.heap.objs.size + 2 → (∀ b o, s.heap.get? b = some o → h'.get? b = some o) → Q (.ref (s.heap.objs.size + 1)) { s with heap := h' }) : wpAny (model prog w) A (call (.type "enumerate") [v]) Q E s := by
  refine callType_new F.called_enumerate (by decide) (F.typeCall_enumerate_1 _) (F.newCall_enumerate_1 _) (fun x => F.args_object_init_2 x _) F.entry_enumerate_new (enumT_meets B) ⟨hg, ?_⟩
  have sz : (s.heap.push ob).objs.size = s.heap.objs.size + 1 := Heap.size_push ..
  show _ ∧ _
  rw [sz]
  have en : IsEnum ((s.heap.push ob).push { cls := .type "enumerate", data := .fields #[.none, .bool false, .ref s.heap.objs.size, rawInt 0, .none, .none] }) (s.heap.objs.size + 1) s.heap.objs.size 0 .none := by
    have z := Heap.get?_push_size (s.heap.push ob) (o := { cls := .type "enumerate", data := .fields #[.none, .bool false, .ref s.heap.objs.size, rawInt 0, .none, .none] }) rfl
    rw [sz] at z; exact z
  exact ⟨⟨_, en, rfl⟩, hyp _ en (Heap.get?_push_of_some _ (Heap.get?_push_size _ B.free)) (by rw [Heap.size_push, sz]) fun b o x => Heap.get?_push_of_some _ (Heap.get?_push_of_some _ x)⟩
def IteT (K : PySem.W.Frag) (a : Addr) : It :=
  ⟨fun i H => ∃ (xs : List V) (x : V), SqT K H a xs ∧ xs[i]? = some x, fun i H v H' => ∃ T x, v = .ref T ∧ H T = none ∧ H' = upd H T (.tup [.int (i : Nat), x]) ∧ ∀ xs, SqT K H a xs → xs[i]? = some x, fun i H => ∃ xs : List V, SqT K H a xs ∧ xs.length = i⟩
theorem apart_cls {h : Heap} {a b : Addr} {o1 o2 : Obj} {x y : String} (h1 : h.get? a = some o1) (c1 : o1.cls = .type x) (h2 : h.get? b = some o2) (c2 : o2.cls = .type y) (n : x ≠ y) : a ≠ b := fun z => by
  subst z
  rw [h1] at h2
  have e : o1 = o2 := Option.some.inj h2
  rw [e, c2] at c1
  injection c1 with c1
  exact n c1.symm
theorem turn_enumT {P : Program} {w : World} {K : PySem.W.Frag} {elts : List Expr} {kk : Nat} {tpos : Pos} (a e it : Addr) :
    Turn P w K (.Tuple elts kk tpos) (IteT K a) [e, it] e (fun i h => (∃ old, IsEnum h e it ((i : Nat) : Int) old) ∧ h.IsTupleIter it a i ∧ e ≠ it) where
  mem := by simp
  obj := fun i h tn b hb => by
    obtain ⟨⟨old, en⟩, ⟨ob, h1, h2, h3⟩, _⟩ := tn
    rcases (show b = e ∨ b = it by simpa using hb) with z | z
    · subst z; exact ⟨_, en, fun v q => nomatch q⟩
    · subst z; exact ⟨ob, h1, fun v q => by rw [h3] at q; cases q⟩
  keep := fun i h h' tn kk => let ⟨⟨old, en⟩, ti, ne⟩ := tn; ⟨⟨old, kk e (by simp) _ en⟩, ti.at fun o q => kk it (by simp) o q, ne⟩
  item := by
    intro X eP ew eK hc i pins s σ H E I fpo tn go
    subst eP ew eK
    obtain ⟨⟨old, en⟩, ti, ne⟩ := tn
    obtain ⟨xs, x, sq, hx⟩ := go
    obtain ⟨its, rv, pt, _⟩ := I.tuple sq
    obtain ⟨u, hu, ru⟩ := rv.get hx
    have le : e < s.heap.objs.size := Heap.lt_size en
    have li : it < s.heap.objs.size := by obtain ⟨_, q, _⟩ := ti; exact Heap.lt_size q
    have nai : a ≠ it := by
      obtain ⟨o1, g1, c1, _⟩ := id ti
      obtain ⟨o2, g2, c2, _⟩ := id pt
      exact apart_cls g2 c2 g1 c1 (by decide)
    have nea : e ≠ a := by
      obtain ⟨o2, g2, c2, _⟩ := id pt
      exact apart_cls en rfl g2 c2 (by decide)
    have DD := Draws.tuple (prog := X.prog) (w := X.w) (A := X.A.in1) (I.ok.hd hc) it a nai its.toArray
    refine wpAny_pyNext_enum_itemC DD en ⟨ti, pt⟩ (by have h1 := (List.getElem?_eq_some_iff.mp hu).1; rw [List.size_toArray]; exact h1) ne (by simp [ne, nea]) fun y h' tk hy out st' hT hsz kp => ?_
    have ey : y = u := by
      have hy' : its.toArray[i]? = some y := hy
      rw [List.getElem?_toArray, hu] at hy'
      exact (Option.some.inj hy').symm
    subst ey
    refine ⟨_, rfl, wpAny_letOwnedTupleGo_enum (s := { s with heap := h', toks := tk + 1 }) out fun h'' en' sb => ?_⟩
    have hT' : h''.get? s.heap.objs.size = some { cls := .type "tuple", data := .seq #[.int i tk, y] } := (sb.2 _ (Nat.ne_of_gt le)).trans hT
    have nw : ObjOk X.prog X.w (upd H s.heap.objs.size (.tup [.int (i : Nat), x])) h'' s.heap.objs.size (.tup [.int (i : Nat), x]) := ⟨by show 2 ≤ sizeLine; decide, [.int i tk, y], .cons ⟨_, rfl⟩ (.cons ru .nil), ⟨_, hT', rfl, _, rfl⟩⟩
    have J1 : Inv X pins σ (upd H s.heap.objs.size (.tup [.int (i : Nat), x])) { s with heap := h'', toks := tk + 1 } := I.turnedNew (ch := [e, it]) (fun b o hb q => (sb.2 b (fun z => hb (by simp [z]))).trans (kp b o (fun z => hb (by simp [z])) (fun z => hb (by simp [z])) q)) fpo (Nat.le_refl _) nw
    refine ⟨.ref s.heap.objs.size, _, J1, rfl, ⟨_, x, rfl, I.hok.fresh (Nat.le_refl _), rfl, fun ys hs => by rw [I.tuple_inj hs sq]; exact hx⟩, ⟨⟨y, ?_⟩, st'.1.at fun o q => (sb.2 it (Ne.symm ne)).trans q, ne⟩, fun b hb => ?_⟩
    · rw [show ((i + 1 : Nat) : Int) = (i : Int) + 1 by omega]
      exact en'
    · have lb : b < s.heap.objs.size := by
        rcases (show b = e ∨ b = it by simpa using hb) with z | z
        · subst z; exact le
        · subst z; exact li
      rw [upd_ne (Nat.ne_of_lt lb)]
      exact (fpo b hb).1
  done := by
    intro X eP ew eK hc i pins s σ H E I fpo tn stp
    subst eP ew eK
    obtain ⟨⟨old, en⟩, ti, ne⟩ := tn
    obtain ⟨xs, sq, hx⟩ := stp
    obtain ⟨its, rv, pt, _⟩ := I.tuple sq
    obtain ⟨f0, f1, _, f3, f4, f5⟩ := fpo it (by simp)
    have nai : a ≠ it := by
      obtain ⟨o1, g1, c1, _⟩ := id ti
      obtain ⟨o2, g2, c2, _⟩ := id pt
      exact apart_cls g2 c2 g1 c1 (by decide)
    have DD := Draws.tuple (prog := X.prog) (w := X.w) (A := X.A.in1) (I.ok.hd hc) it a nai its.toArray
    have en' : its.toArray.size = i := by rw [List.size_toArray, ← rv.length, hx]
    exact wpAny_pyNext_enum_endD DD en (by rw [en']; exact ⟨ti, pt⟩) fun h' eb => ⟨rfl, I.turned (t' := s.toks) (fun b o hb q => eb b o hb q) f0 f1 f3 f4 f5⟩
  self := fun A i s Q E tn hq => let ⟨⟨_, en⟩, _⟩ := tn; wpAny_pyIter_enum en hq
def iEnumT (K : PySem.W.Frag) (ta : TA) : TI := fun σ H R => ta σ H fun vs H1 => ∃ a xs, vs = [.ref a] ∧ SqT K H1 a xs ∧ R (IteT K a) H1
theorem pi_enumT {X : Cx} {e : Expr} {ta : TA} {p pos tpos : Pos} {elts : List Expr} {kk : Nat} (hg : Gl X "enumerate") (hm : X.mg "enumerate" = none) (ha : PA X [e] ta) (hs : starEach [e] X.env = [(false, eval e X.env)] := by rfl) : PI X (.Tuple elts kk tpos) (.Call (.Name "enumerate" p) [e] [] pos) (iEnumT X.K ta) := by
  refine ⟨fun pins s σ H R I hyp => Call_ (ld_blt I hg hm boot_enumerate (PyProof.Rows.callWith_type1 (thn (ha.run pos pins s σ H _ I hyp) fun us s1 ⟨vs, H1, I1, r1, q1⟩ => ?_) hs rfl))⟩
  obtain ⟨a, xs, ev, sq, q⟩ := q1
  subst ev
  obtain ⟨u, rfl, ru⟩ := vals1 r1
  cases ru
  obtain ⟨its, rv, pt, _⟩ := I1.tuple sq
  refine enumT_call (begins_tuple a its.toArray) pt fun h' en hit hsz kp => wpAny_pyIter_enum en ?_
  have I2 : Inv X pins σ H1 { s1 with heap := h' } := I1.kept (t' := s1.toks) kp
  refine ⟨s1.heap.objs.size + 1, [s1.heap.objs.size + 1, s1.heap.objs.size], _, _, H1, rfl, I2, turn_enumT a (s1.heap.objs.size + 1) s1.heap.objs.size, ⟨⟨.none, en⟩, ⟨_, hit, rfl, rfl⟩, Nat.succ_ne_self _⟩, fun b hb => ?_, q⟩
  have lb : s1.heap.objs.size ≤ b := by
    rcases (show b = s1.heap.objs.size + 1 ∨ b = s1.heap.objs.size by simpa using hb) with z | z
    · rw [z]; exact Nat.le_add_right ..
    · rw [z]; exact Nat.le_refl ..
  exact I1.fpOk lb (I1.hok.fresh lb)
end Eh
set_option Elab.async false
set_option linter.all false
set_option maxRecDepth 100000
set_option maxHeartbeats 4000000
namespace Eh
open PySem PySem.Spec PyProof.Rows L2 Evl
/-! zip(tuple, list), both of one length -/
def ItzM (K : PySem.W.Frag) (a b : Addr) : It :=
  ⟨fun i H => ∃ (xs ys : List V) (x y : V), SqT K H a xs ∧ SqL K H b ys ∧ xs[i]? = some x ∧ ys[i]? = some y ∧ xs.length = ys.length,
   fun i H v H' => ∃ T x y, v = .ref T ∧ H T = none ∧ H' = upd H T (.tup [x, y]) ∧ (∀ xs, SqT K H a xs → xs[i]? = some x) ∧ ∀ ys, SqL K H b ys → ys[i]? = some y,
   fun i H => ∃ xs ys : List V, SqT K H a xs ∧ SqL K H b ys ∧ xs.length = i ∧ ys.length = i⟩
/-- where the five cells of it lie -/
structure ZmSep (a b z TI TO i1 i2 : Addr) : Prop where
  s : ZipSep2 z TI TO i1 i2 [i1, a] [i2, b]
  ai : a ≠ i1
  bi : b ≠ i2
abbrev zmAt (a b z TI TO i1 i2 : Addr) (i : Nat) (h : Heap) : Prop := IsZip h z TI TO .none ∧ IsTupOf2 h TI (.ref i1) (.ref i2) ∧ (∃ x y, IsTupOf2 h TO x y) ∧ h.IsTupleIter i1 a i ∧ h.IsListIter i2 b i
theorem five {c z TI TO i1 i2 : Addr} (h : c ∈ [z, TI, TO, i1, i2]) : c = z ∨ c = TI ∨ c = TO ∨ c = i1 ∨ c = i2 := by simpa using h
theorem turn_zipM {P : Program} {w : World} {K : PySem.W.Frag} {elts : List Expr} {kk : Nat} {tpos : Pos} {a b z TI TO i1 i2 : Addr} (S : ZmSep a b z TI TO i1 i2) : Turn P w K (.Tuple elts kk tpos) (ItzM K a b) [z, TI, TO, i1, i2] z (zmAt a b z TI TO i1 i2) where
  mem := by simp
  obj := fun i h tn c hc => by
    obtain ⟨q1, q2, ⟨x, y, q3⟩, ⟨u1, v1, _, w1⟩, ⟨u2, v2, _, w2⟩⟩ := tn
    rcases five hc with rfl | rfl | rfl | rfl | rfl
    · exact ⟨_, q1, fun _ e => nomatch e⟩
    · exact ⟨_, q2, fun _ e => nomatch e⟩
    · exact ⟨_, q3, fun _ e => nomatch e⟩
    · exact ⟨u1, v1, fun _ e => by rw [w1] at e; cases e⟩
    · exact ⟨u2, v2, fun _ e => by rw [w2] at e; cases e⟩
  keep := fun i h h' tn kp => by
    obtain ⟨q1, q2, ⟨x, y, q3⟩, q4, q5⟩ := tn
    exact ⟨kp z (by simp) _ q1, kp TI (by simp) _ q2, ⟨x, y, kp TO (by simp) _ q3⟩, q4.at fun o e => kp i1 (by simp) o e, q5.at fun o e => kp i2 (by simp) o e⟩
  item := by
    intro X eP ew eK hc i pins s σ H E I fpo tn go
    subst eP ew eK
    obtain ⟨q1, q2, ⟨x0, y0, q3⟩, q4, q5⟩ := tn
    obtain ⟨xs, ys, x, y, sx, sy, hx, hy, _⟩ := go
    obtain ⟨us, ru, pt, _⟩ := I.tuple sx
    obtain ⟨ws, rw', pl, _⟩ := I.list sy
    obtain ⟨u, hu, r1⟩ := ru.get hx
    obtain ⟨v, hv, r2⟩ := rw'.get hy
    have lz : z < s.heap.objs.size := Heap.lt_size q1
    have D1 := Draws.tuple (prog := X.prog) (w := X.w) (A := X.A.in1) (I.ok.hd hc) i1 a S.ai us.toArray
    have D2 := Draws.list (prog := X.prog) (w := X.w) (A := X.A.in1) (I.ok.hd hc) i2 b S.bi ws.toArray
    refine wpAny_pyNext_zipD2_item S.s D1 D2 q1 q2 q3 ⟨q4, pt⟩ ⟨q5, pl.isList⟩ (by rw [List.size_toArray]; exact (List.getElem?_eq_some_iff.mp hu).1) (by rw [List.size_toArray]; exact (List.getElem?_eq_some_iff.mp hv).1) fun x1 x2 h' tk y1 y2 b1 b2 d1 d2 b5 b6 b7 => ?_
    have e1 : x1 = u := by
      have y1' : us.toArray[i]? = some x1 := y1
      rw [List.getElem?_toArray, hu] at y1'
      exact (Option.some.inj y1').symm
    have e2 : x2 = v := by
      have y2' : ws.toArray[i]? = some x2 := y2
      rw [List.getElem?_toArray, hv] at y2'
      exact (Option.some.inj y2').symm
    subst e1 e2
    refine ⟨_, rfl, wpAny_letOwnedTupleGo_zip (s := { s with heap := h', toks := tk }) b1 fun h2 z2 sb => ?_⟩
    have nT : h2.get? s.heap.objs.size = some { cls := .type "tuple", data := .seq #[x1, x2] } := (sb.2 _ (Nat.ne_of_gt lz)).trans b5
    have ok2 : ObjOk X.prog X.w (upd H s.heap.objs.size (.tup [x, y])) h2 s.heap.objs.size (.tup [x, y]) := ⟨by show 2 ≤ sizeLine; decide, [x1, x2], .cons r1 (.cons r2 .nil), ⟨_, nT, rfl, _, rfl⟩⟩
    have J : Inv X pins σ (upd H s.heap.objs.size (.tup [x, y])) { s with heap := h2, toks := tk } := I.turnedNew (ch := [z, TI, TO, i1, i2]) (fun c o nc e => (sb.2 c (fun q => nc (by simp [q]))).trans (b7 c o (fun q => nc (by simp [q])) (fun q => nc (by simp [q])) (fun q => nc (by simp [q])) (fun q => nc (by simp [q])) e)) fpo (Nat.le_refl _) ok2
    refine ⟨.ref s.heap.objs.size, _, J, rfl, ⟨_, x, y, rfl, I.hok.fresh (Nat.le_refl _), rfl, fun l hl => by rw [I.tuple_inj hl sx]; exact hx, fun l hl => by rw [I.list_inj hl sy]; exact hy⟩, ⟨z2, ?_, ⟨x1, x2, (sb.2 _ S.s.TOz).trans b2⟩, d1.1.at fun o e => (sb.2 _ S.s.zi1.symm).trans e, d2.1.at fun o e => (sb.2 _ S.s.zi2.symm).trans e⟩, fun c hcm => ?_⟩
    · exact (sb.2 _ S.s.TIz).trans (b7 _ _ S.s.TIz S.s.TITO S.s.TIi1 S.s.TIi2 q2)
    · have lc : c < s.heap.objs.size := by
        rcases five hcm with rfl | rfl | rfl | rfl | rfl
        · exact lz
        · exact Heap.lt_size q2
        · exact Heap.lt_size q3
        · exact (let ⟨_, e, _⟩ := q4; Heap.lt_size e)
        · exact (let ⟨_, e, _⟩ := q5; Heap.lt_size e)
      rw [upd_ne (Nat.ne_of_lt lc)]
      exact (fpo c hcm).1
  done := by
    intro X eP ew eK hc i pins s σ H E I fpo tn stp
    subst eP ew eK
    obtain ⟨q1, q2, ⟨x0, y0, q3⟩, q4, q5⟩ := tn
    obtain ⟨xs, ys, sx, sy, hx, hy⟩ := stp
    obtain ⟨us, ru, pt, _⟩ := I.tuple sx
    obtain ⟨ws, rw', pl, _⟩ := I.list sy
    have n1 : us.toArray.size = i := by rw [List.size_toArray, ← ru.length, hx]
    have n2 : ws.toArray.size = i := by rw [List.size_toArray, ← rw'.length, hy]
    have D1 := Draws.tuple (prog := X.prog) (w := X.w) (A := X.A.in1) (I.ok.hd hc) i1 a S.ai us.toArray
    have D2 := Draws.list (prog := X.prog) (w := X.w) (A := X.A.in1) (I.ok.hd hc) i2 b S.bi ws.toArray
    exact wpAny_pyNext_zipD2_end S.s D1 D2 q1 q2 q3 ⟨q4, pt⟩ ⟨q5, pl.isList⟩ (Nat.le_of_eq n1.symm) (Nat.le_of_eq n2.symm) (.inl n1.symm) fun h' tk kp => ⟨rfl, I.turnedL (ch := [z, TI, TO, i1, i2]) (fun c o nc e => kp c o (fun q => nc (by simp [q])) (fun q => nc (by simp [q])) (fun q => nc (by simp [q])) (fun q => nc (by simp [q])) e) fpo⟩
  self := fun A i s Q E tn hq => wpAny_pyIter_zip tn.1 hq
def iZipM (K : PySem.W.Frag) (ta : TA) : TI := fun σ H R => ta σ H fun vs H1 => ∃ a b xs ys, vs = [.ref a, .ref b] ∧ SqT K H1 a xs ∧ SqL K H1 b ys ∧ R (ItzM K a b) H1
theorem pi_zipM {X : Cx} {e e2 : Expr} {ta : TA} {p pos tpos : Pos} {elts : List Expr} {kk : Nat} (hg : Gl X "zip") (hm : X.mg "zip" = none) (ha : PA X [e, e2] ta) (hs : starEach [e, e2] X.env = (false, eval e X.env) :: starEach [e2] X.env := by rfl) (hpl : (backTo pos (starEach [e2] X.env)).any (·.1) = false := by rfl) : PI X (.Tuple elts kk tpos) (.Call (.Name "zip" p) [e, e2] [] pos) (iZipM X.K ta) := by
  refine ⟨fun pins s σ H R I h => Call_ (ld_blt I hg hm PyProof.Rows.boot_zip (PyProof.Rows.callWith_type1 (thn (ha.run pos pins s σ H _ I h) fun us s1 ⟨vs, H1, J, r1, q1⟩ => ?_) hs hpl))⟩
  obtain ⟨a, b, xs, ys, rfl, sx, sy, q⟩ := q1
  obtain ⟨u, v, rfl, ru, rv⟩ : ∃ u v, us = [u, v] ∧ RelV (.ref a) u ∧ RelV (.ref b) v := by
    cases r1 with
    | cons x1 x2 =>
      cases x2 with
      | cons y1 y2 =>
        cases y2
        exact ⟨_, _, rfl, x1, y1⟩
  cases ru
  cases rv
  obtain ⟨us, ru, pt, _⟩ := J.tuple sx
  obtain ⟨ws, rw', pl, _⟩ := J.list sy
  obtain ⟨o1, g1, _⟩ := id pt
  have la := Heap.lt_size g1
  have lb := pl.lt
  refine zip_begins2 (begins_tuple a us.toArray) (begins_list b ws.toArray) pt pl.isList fun h' w1 w2 w3 w4 w5 w6 kp => wpAny_pyIter_zip w1 ?_
  have J2 : Inv X pins σ H1 { s1 with heap := h' } := J.kept (t' := s1.toks) kp
  refine ⟨s1.heap.objs.size + 4, [s1.heap.objs.size + 4, s1.heap.objs.size + 2, s1.heap.objs.size + 3, s1.heap.objs.size, s1.heap.objs.size + 1], _, _, H1, rfl, J2, turn_zipM ⟨zip_sep2 (fun c hc => by rw [List.mem_singleton.mp hc]; exact la) (fun c hc => by rw [List.mem_singleton.mp hc]; exact lb), Nat.ne_of_lt la, Nat.ne_of_lt (Nat.lt_succ_of_lt lb)⟩, ⟨w1, w2, ⟨_, _, w3⟩, ⟨_, w4, rfl, rfl⟩, ⟨_, w5, rfl, rfl⟩⟩, fun c hc => ?_, q⟩
  have lc : s1.heap.objs.size ≤ c := by
    rcases five hc with e | e | e | e | e <;> rw [e]
    · exact Nat.le_add_right _ _
    · exact Nat.le_add_right _ _
    · exact Nat.le_add_right _ _
    · exact Nat.le_refl _
    · exact Nat.le_add_right _ _
  exact J.fpOk lc (J.hok.fresh lc)
/-- a comprehension over it -/
theorem lc_zipM {K : PySem.W.Frag} {a b : Addr} {xs ys : List V} {tt : TT} {te : TE} {σ : L2.St} {H1 : Hp} {Dd : Addr} {Qd : Hp → Prop} {i1 i2 : Nat} {vs : List Nat} (hl : xs.length = ys.length) (Pv : Nat → Hp → Prop) (h0 : Pv 0 (upd H1 Dd (.lst []))) (hq : ∀ i H, i ≤ xs.length → Pv i H → SqT K H a xs ∧ SqL K H b ys)
    (hs : ∀ i x y H T, xs[i]? = some x → ys[i]? = some y → Pv i H → H T = none → wipe (((wipe σ vs).set i1 (some x)).set i2 (some y)) vs = wipe σ vs ∧ tt (((wipe σ vs).set i1 (some x)).set i2 (some y)) (upd H T (.tup [x, y])) fun b H3 => if b = true then te (((wipe σ vs).set i1 (some x)).set i2 (some y)) H3 fun z H4 => ∃ acc, H4 Dd = some (.lst acc) ∧ acc.length < sizeLine ∧ Pv (i + 1) (upd H4 Dd (.lst (acc ++ [z]))) else Pv (i + 1) H3)
    (hd : ∀ H, Pv xs.length H → Qd H) :
    ∃ W : Nat → Nat → Hp → Prop, (∃ m, W 0 m (upd H1 Dd (.lst []))) ∧ ∀ i m H, W i m H → ((ItzM K a b).stop i H ∧ Qd H) ∨ ((ItzM K a b).go i H ∧ ∃ Nx : Hp → Prop, (∀ H', Nx H' → ∃ m', m' < m ∧ W (i + 1) m' H') ∧ ∀ x H', (ItzM K a b).yld i H x H' → gTup K 2 (gCons (gName i1) (gCons (gName i2) gNil)) x (wipe σ vs) H' fun σ2 H2 => wipe σ2 vs = wipe σ vs ∧ tt σ2 H2 fun b H3 => if b = true then te σ2 H3 fun z H4 => ∃ acc, H4 Dd = some (.lst acc) ∧ acc.length < sizeLine ∧ Nx (upd H4 Dd (.lst (acc ++ [z]))) else Nx H3) := by
  refine ⟨fun i m H => m = xs.length - i ∧ i ≤ xs.length ∧ Pv i H, ⟨xs.length, by omega, Nat.zero_le _, h0⟩, ?_⟩
  rintro i m H ⟨rfl, hi, pp⟩
  obtain ⟨q1, q2⟩ := hq i H hi pp
  by_cases hlt : i < xs.length
  · have g1 : xs[i]? = some xs[i] := List.getElem?_eq_getElem hlt
    have g2 : ys[i]? = some ys[i] := List.getElem?_eq_getElem (by omega)
    refine .inr ⟨⟨xs, ys, _, _, q1, q2, g1, g2, hl⟩, Pv (i + 1), fun H' p' => ⟨xs.length - (i + 1), by omega, rfl, hlt, p'⟩, fun v H' y => ?_⟩
    obtain ⟨T, x, y, rfl, nT, rfl, f1, f2⟩ := y
    exact ⟨T, [x, y], rfl, st_of upd_same, rfl, _, _, rfl, _, _, rfl, rfl, hs i x y H T (f1 xs q1) (f2 ys q2) pp nT⟩
  · have e : i = xs.length := by omega
    subst e
    exact .inl ⟨⟨xs, ys, q1, q2, rfl, hl.symm⟩, hd H pp⟩
end Eh
set_option Elab.async false
set_option linter.all false
set_option maxRecDepth 100000
set_option maxHeartbeats 4000000
namespace Dl
open PySem PySem.Spec PyProof.Rows L2 Evl Gx GxR RZ
/-! what is walked -/
def strItems (z : Str) : List PyData := z.cps.toList.map fun q => .str ⟨#[q]⟩
def itemsOf : PyData → Option (List PyData)
  | .list ds => some ds
  | .tuple ds => some ds
  | .str z => some (strItems z)
  | _ => none
def fItems (F : DEnv → R PyData) : DEnv → R (List PyData) := fun env => (F env).bind fun d e => R.of (itemsOf d) e
section
variable {c : Cs} {O O' O1 : List Addr} {Y Y' Y1 : Addr → Prop} {H H' H1 : Hp} {σ : L2.St} {env : DEnv} {W : WX} {ι : Type} {X : ι → Cx} {e it tg : Expr} {es : List Expr} {p pos : Pos}
theorem Step.mv (st : Step O Y H O' Y' H') (sub : ∀ a ∈ O, Y a) : Mv Y Y' H H' := ⟨fun a o h => (st.keep a o h).imp_left fun z => ⟨sub a z.1, z.2⟩, st.nY⟩
theorem walk_lst {a : Addr} {xs : List V} {ds : List PyData} (sr : SR c O Y σ env H) (n : ¬ Y a) (h : H a = some (.lst xs)) (t : ShA c.K Y H xs ds) : RWalk c O Y σ env H (Itl c.K a) ds := fun O2 Y2 H2 σ2 env2 st sr2 => by
  have m := st.mv sr.sub
  have h2 := (m.own n h rfl).2
  have t2 := t.mv m
  refine ⟨⟨xs, sq_of h2, Nat.le_of_eq t2.len⟩, fun i d hd => ?_⟩
  obtain ⟨x, hx, sx⟩ := t2.get hd
  refine ⟨⟨xs, x, sq_of h2, hx⟩, fun y H3 yl => ?_⟩
  obtain ⟨rfl, f⟩ := yl
  have := f xs (sq_of h2)
  rw [hx] at this
  cases this
  exact ⟨.refl, sr2, sx⟩
theorem walk_tup {a : Addr} {xs : List V} {ds : List PyData} (sr : SR c O Y σ env H) (h : H a = some (.tup xs)) (t : ShA c.K Y H xs ds) : RWalk c O Y σ env H (Itt c.K a) ds := fun O2 Y2 H2 σ2 env2 st sr2 => by
  have m := st.mv sr.sub
  have h2 := m.tup h
  have t2 := t.mv m
  refine ⟨⟨xs, Evl.st_of h2, Nat.le_of_eq t2.len⟩, fun i d hd => ?_⟩
  obtain ⟨x, hx, sx⟩ := t2.get hd
  refine ⟨⟨xs, x, Evl.st_of h2, hx⟩, fun y H3 yl => ?_⟩
  obtain ⟨rfl, f⟩ := yl
  have := f xs (Evl.st_of h2)
  rw [hx] at this
  cases this
  exact ⟨.refl, sr2, sx⟩
theorem walk_str {z : Str} : RWalk c O Y σ env H (Its z) (strItems z) := fun O2 Y2 H2 σ2 env2 st sr2 => by
  have el : (strItems z).length = z.cps.size := by simp [strItems]
  refine ⟨by show z.cps.size ≤ _; omega, fun i d hd => ?_⟩
  have hi := (List.getElem?_eq_some_iff.mp hd).1
  refine ⟨by show i < z.cps.size; omega, fun y H3 yl => ?_⟩
  obtain ⟨rfl, q, hq, rfl⟩ := yl
  refine ⟨.refl, sr2, ?_⟩
  have : (strItems z)[i]? = some (.str ⟨#[q]⟩) := by
    unfold strItems
    rw [List.getElem?_map, Array.getElem?_toList, hq]
    rfl
  rw [hd] at this
  cases this
  exact .str _
def rngItems (lo : Int) (n : Nat) : List PyData := (List.range n).map fun k => .int (lo + (k : Nat))
theorem walk_rng {lo : Int} {n : Nat} : RWalk c O Y σ env H (Itr lo n) (rngItems lo n) := fun O2 Y2 H2 σ2 env2 st sr2 => by
  have el : (rngItems lo n).length = n := by simp [rngItems]
  refine ⟨by show n ≤ _; omega, fun i d hd => ?_⟩
  have hi := (List.getElem?_eq_some_iff.mp hd).1
  refine ⟨by show i < n; omega, fun y H3 yl => ?_⟩
  obtain ⟨rfl, rfl⟩ := yl
  refine ⟨.refl, sr2, ?_⟩
  have : (rngItems lo n)[i]? = some (.int (lo + (i : Nat))) := by
    unfold rngItems
    rw [List.getElem?_map, List.getElem?_range (by omega)]
    rfl
  rw [hd] at this
  cases this
  exact .int _
theorem k_pi {X : Cx} {tg it : Expr} {K : PySem.W.Frag} {wi : PySem.W.Frag → TI} (hK : X.K = K) (h : PI X tg it (wi X.K)) : PI X tg it (wi K) := hK ▸ h
theorem si_val {F : DEnv → R PyData} (hK : ∀ k, (X k).K = c.K) (h : SE c W X it F) : SI c W X tg it (fItems F) := fun O Y σ env H Q sr pp => by
  unfold fItems at pp
  cases hF : F env with
  | bad => rw [hF] at pp; exact pp.elim
  | exc x e1 =>
    rw [hF] at pp
    refine ⟨_, fun k => k_pi (wi := fun K => iList K (RD X it)) (hK k) (pi_list (RD.pe k)), h O Y σ env H _ sr ?_⟩
    rw [hF]
    exact pp
  | ok d e1 =>
    rw [hF] at pp
    have pp : Post c (RWalk c) O Y H σ Q W (R.of (itemsOf d) e1) := pp
    obtain ⟨ds, hd, pp⟩ := of_post pp
    have p' : ∀ {R' : V → Hp → Prop}, (∀ v H' O' Y', Step O Y H O' Y' H' → SR c O' Y' σ e1 H' → Sh c.K Y' H' v d → R' v H') → RD X it σ H R' := fun {R'} q => by
      refine h O Y σ env H R' sr ?_
      rw [hF]
      exact q
    cases d with
    | list xs =>
      cases hd
      refine ⟨_, fun k => k_pi (wi := fun K => iList K (RD X it)) (hK k) (pi_list (RD.pe k)), p' fun v H1 O1 Y1 st sr1 sh => ?_⟩
      cases sh with
      | lst n h t => exact ⟨_, rfl, ⟨_, sq_of h⟩, pp _ H1 O1 Y1 st sr1 (walk_lst sr1 n h t)⟩
    | tuple xs =>
      cases hd
      refine ⟨_, fun k => k_pi (wi := fun K => iTup K (RD X it)) (hK k) (pi_tup (RD.pe k)), p' fun v H1 O1 Y1 st sr1 sh => ?_⟩
      cases sh with
      | tup h t => exact ⟨_, rfl, ⟨_, Evl.st_of h⟩, pp _ H1 O1 Y1 st sr1 (walk_tup sr1 h t)⟩
    | str z =>
      cases hd
      refine ⟨_, fun k => pi_str (RD.pe k), p' fun v H1 O1 Y1 st sr1 sh => ?_⟩
      cases sh
      exact ⟨_, rfl, pp _ H1 O1 Y1 st sr1 walk_str⟩
    | none => cases hd
    | bool _ => cases hd
    | int _ => cases hd
    | dict _ => cases hd
def rng1 : List PyData → Option (List PyData)
  | [.int j] => if -(2 ^ 62) ≤ j ∧ j < 2 ^ 62 then some (rngItems 0 j.toNat) else none
  | _ => none
def rng2 : List PyData → Option (List PyData)
  | [.int i, .int j] => if -(2 ^ 62) ≤ i ∧ i < 2 ^ 62 ∧ -(2 ^ 62) ≤ j ∧ j < 2 ^ 62 then some (rngItems i (j - i).toNat) else none
  | _ => none
def fSrc (k : List PyData → Option (List PyData)) (G : DEnv → R (List PyData)) : DEnv → R (List PyData) := fun env => (G env).bind fun ds e => R.of (k ds) e
theorem si_range1 {a : Expr} {G : DEnv → R (List PyData)} (hg : ∀ k, Gl (X k) "range") (hm : ∀ k, (X k).mg "range" = none) (g : SAs c W X [a] G) (hs : ∀ k, starEach [a] (X k).env = [(false, eval a (X k).env)] := by intro _; rfl) : SI c W X tg (.Call (.Name "range" p) [a] [] pos) (fSrc rng1 G) := fun O Y σ env H Q sr pp =>
  ⟨_, fun k => pi_range1 (hg k) (hm k) (RA.pa k) (hs k), g.next sr pp fun ds e1 vs H1 O1 Y1 st sr1 r p1 => by
    obtain ⟨rs, hr, p2⟩ := of_post p1
    unfold rng1 at hr
    split at hr
    · rename_i j
      split at hr
      · rename_i hj
        cases hr
        cases r with
        | cons s t =>
          cases s
          cases t
          exact ⟨j, rfl, hj.1, hj.2, p2 _ H1 O1 Y1 .refl sr1 walk_rng⟩
      · cases hr
    · cases hr⟩
theorem si_range2 {a b : Expr} {G : DEnv → R (List PyData)} (hg : ∀ k, Gl (X k) "range") (hm : ∀ k, (X k).mg "range" = none) (g : SAs c W X [a, b] G) (hs : ∀ k, starEach [a, b] (X k).env = [(false, eval a (X k).env), (false, eval b (X k).env)] := by intro _; rfl) (hs2 : ∀ k, starEach [b] (X k).env = [(false, eval b (X k).env)] := by intro _; rfl) : SI c W X tg (.Call (.Name "range" p) [a, b] [] pos) (fSrc rng2 G) := fun O Y σ env H Q sr pp =>
  ⟨_, fun k => pi_range2 (hg k) (hm k) (RA.pa k) (hs k) (hs2 k), g.next sr pp fun ds e1 vs H1 O1 Y1 st sr1 r p1 => by
    obtain ⟨rs, hr, p2⟩ := of_post p1
    unfold rng2 at hr
    split at hr
    · rename_i i j
      split at hr
      · rename_i hj
        cases hr
        cases r with
        | cons s t =>
          cases s
          cases t with
          | cons s t =>
            cases s
            cases t
            exact ⟨i, j, rfl, hj, p2 _ H1 O1 Y1 .refl sr1 walk_rng⟩
      · cases hr
    · cases hr⟩
/-- enumerate -/
def enumItems (ds : List PyData) : List PyData := ds.zipIdx.map fun q => .tuple [.int (q.2 : Nat), q.1]
def enumOf : List PyData → Option (List PyData)
  | [.list ds] => some (enumItems ds)
  | [.tuple ds] => some (enumItems ds)
  | _ => none
theorem enum_get {ds : List PyData} {i : Nat} {d : PyData} (h : (enumItems ds)[i]? = some d) : ∃ x, ds[i]? = some x ∧ d = .tuple [.int (i : Nat), x] := by
  unfold enumItems at h
  rw [List.getElem?_map, List.getElem?_zipIdx] at h
  cases hx : ds[i]? with
  | none => rw [hx] at h; cases h
  | some x =>
    rw [hx] at h
    cases h
    exact ⟨x, rfl, by simp⟩
theorem pair_new {x y : V} {d1 d2 : PyData} {T : Addr} (sr : SR c O Y σ env H) (hT : H T = none) (h1 : Sh c.K Y H x d1) (h2 : Sh c.K Y H y d2) : Step O Y H O Y (upd H T (.tup [x, y])) ∧ SR c O Y σ env (upd H T (.tup [x, y])) ∧ Sh c.K Y (upd H T (.tup [x, y])) (.ref T) (.tuple [d1, d2]) :=
  alloc_tup sr hT (.cons h1 (.cons h2 .nil))
theorem walk_enumL {a : Addr} {xs : List V} {ds : List PyData} (sr : SR c O Y σ env H) (n : ¬ Y a) (h : H a = some (.lst xs)) (t : ShA c.K Y H xs ds) : RWalk c O Y σ env H (Ite c.K a) (enumItems ds) := fun O2 Y2 H2 σ2 env2 st sr2 => by
  have m := st.mv sr.sub
  have h2 := (m.own n h rfl).2
  have t2 := t.mv m
  have el : (enumItems ds).length = ds.length := by simp [enumItems]
  refine ⟨⟨xs, sq_of h2, by rw [el]; exact Nat.le_of_eq t2.len⟩, fun i d hd => ?_⟩
  obtain ⟨d0, hd0, rfl⟩ := enum_get hd
  obtain ⟨x, hx, sx⟩ := t2.get hd0
  refine ⟨⟨xs, x, sq_of h2, hx⟩, fun y H3 yl => ?_⟩
  obtain ⟨T, x', rfl, hT, rfl, f⟩ := yl
  have := f xs (sq_of h2)
  rw [hx] at this
  cases this
  exact pair_new sr2 hT (.int _) sx
theorem walk_enumT {a : Addr} {xs : List V} {ds : List PyData} (sr : SR c O Y σ env H) (h : H a = some (.tup xs)) (t : ShA c.K Y H xs ds) : RWalk c O Y σ env H (Eh.IteT c.K a) (enumItems ds) := fun O2 Y2 H2 σ2 env2 st sr2 => by
  have m := st.mv sr.sub
  have h2 := m.tup h
  have t2 := t.mv m
  have el : (enumItems ds).length = ds.length := by simp [enumItems]
  refine ⟨⟨xs, Evl.st_of h2, by rw [el]; exact t2.len⟩, fun i d hd => ?_⟩
  obtain ⟨d0, hd0, rfl⟩ := enum_get hd
  obtain ⟨x, hx, sx⟩ := t2.get hd0
  refine ⟨⟨xs, x, Evl.st_of h2, hx⟩, fun y H3 yl => ?_⟩
  obtain ⟨T, x', rfl, hT, rfl, f⟩ := yl
  have := f xs (Evl.st_of h2)
  rw [hx] at this
  cases this
  exact pair_new sr2 hT (.int _) sx
theorem si_enum {a : Expr} {elts : List Expr} {kk : Nat} {tpos : Pos} {G : DEnv → R (List PyData)} (hK : ∀ k, (X k).K = c.K) (hg : ∀ k, Gl (X k) "enumerate") (hm : ∀ k, (X k).mg "enumerate" = none) (g : SAs c W X [a] G) (hs : ∀ k, starEach [a] (X k).env = [(false, eval a (X k).env)] := by intro _; rfl) :
    SI c W X (.Tuple elts kk tpos) (.Call (.Name "enumerate" p) [a] [] pos) (fSrc enumOf G) := fun O Y σ env H Q sr pp => by
  unfold fSrc at pp
  cases hG : G env with
  | bad => rw [hG] at pp; exact pp.elim
  | exc x e1 =>
    rw [hG] at pp
    refine ⟨_, fun k => k_pi (wi := fun K => iEnum K (RA X [a])) (hK k) (pi_enum (hg k) (hm k) (RA.pa k) (hs k)), g O Y σ env H _ sr ?_⟩
    rw [hG]
    exact pp
  | ok ds e1 =>
    rw [hG] at pp
    obtain ⟨rs, hr, p2⟩ := of_post pp
    have p' : ∀ {R' : List V → Hp → Prop}, (∀ vs H' O' Y', Step O Y H O' Y' H' → SR c O' Y' σ e1 H' → ShA c.K Y' H' vs ds → R' vs H') → RA X [a] σ H R' := fun {R'} q => by
      refine g O Y σ env H R' sr ?_
      rw [hG]
      exact q
    unfold enumOf at hr
    split at hr
    · cases hr
      refine ⟨_, fun k => k_pi (wi := fun K => iEnum K (RA X [a])) (hK k) (pi_enum (hg k) (hm k) (RA.pa k) (hs k)), p' fun vs H1 O1 Y1 st sr1 r => ?_⟩
      cases r with
      | cons s t =>
        cases t
        cases s with
        | lst n h t => exact ⟨_, _, rfl, sq_of h, p2 _ H1 O1 Y1 st sr1 (walk_enumL sr1 n h t)⟩
    · cases hr
      refine ⟨_, fun k => k_pi (wi := fun K => Eh.iEnumT K (RA X [a])) (hK k) (Eh.pi_enumT (hg k) (hm k) (RA.pa k) (hs k)), p' fun vs H1 O1 Y1 st sr1 r => ?_⟩
      cases r with
      | cons s t =>
        cases t
        cases s with
        | tup h t => exact ⟨_, _, rfl, Evl.st_of h, p2 _ H1 O1 Y1 st sr1 (walk_enumT sr1 h t)⟩
    · cases hr
/-- zip -/
def zipItems (xs ys : List PyData) : List PyData := (xs.zip ys).map fun q => .tuple [q.1, q.2]
def zipOf : List PyData → Option (List PyData)
  | [.list xs, .list ys] => some (zipItems xs ys)
  | [.tuple xs, .tuple ys] => some (zipItems xs ys)
  | [.tuple xs, .list ys] => if xs.length = ys.length then some (zipItems xs ys) else none
  | _ => none
theorem zip_get {xs ys : List PyData} {i : Nat} {d : PyData} (h : (zipItems xs ys)[i]? = some d) : ∃ x y, xs[i]? = some x ∧ ys[i]? = some y ∧ d = .tuple [x, y] := by
  unfold zipItems at h
  rw [List.getElem?_map] at h
  obtain ⟨q, hq, rfl⟩ := Option.map_eq_some_iff.mp h
  have := List.getElem?_zip_eq_some.mp hq
  exact ⟨q.1, q.2, this.1, this.2, rfl⟩
theorem zip_len (xs ys : List PyData) : (zipItems xs ys).length = min xs.length ys.length := by simp [zipItems]
theorem walk_zipL {a b : Addr} {xs ys : List V} {ds es : List PyData} (sr : SR c O Y σ env H) (n1 : ¬ Y a) (h1 : H a = some (.lst xs)) (t1 : ShA c.K Y H xs ds) (n2 : ¬ Y b) (h2 : H b = some (.lst ys)) (t2 : ShA c.K Y H ys es) : RWalk c O Y σ env H (Itz c.K a b) (zipItems ds es) := fun O2 Y2 H2 σ2 env2 st sr2 => by
  have m := st.mv sr.sub
  have g1 := (m.own n1 h1 rfl).2
  have g2 := (m.own n2 h2 rfl).2
  have u1 := t1.mv m
  have u2 := t2.mv m
  have l1 := u1.len
  have l2 := u2.len
  refine ⟨⟨xs, ys, sq_of g1, sq_of g2, by rw [zip_len]; omega⟩, fun i d hd => ?_⟩
  obtain ⟨d1, d2, e1, e2, rfl⟩ := zip_get hd
  obtain ⟨x, hx, sx⟩ := u1.get e1
  obtain ⟨y, hy, sy⟩ := u2.get e2
  refine ⟨⟨xs, ys, x, y, sq_of g1, sq_of g2, hx, hy⟩, fun z H3 yl => ?_⟩
  obtain ⟨T, x', y', rfl, hT, rfl, f1, f2⟩ := yl
  have q1 := f1 xs (sq_of g1)
  have q2 := f2 ys (sq_of g2)
  rw [hx] at q1
  rw [hy] at q2
  cases q1
  cases q2
  exact pair_new sr2 hT sx sy
theorem walk_zipT {a b : Addr} {xs ys : List V} {ds es : List PyData} (sr : SR c O Y σ env H) (h1 : H a = some (.tup xs)) (t1 : ShA c.K Y H xs ds) (h2 : H b = some (.tup ys)) (t2 : ShA c.K Y H ys es) : RWalk c O Y σ env H (ItzT c.K a b) (zipItems ds es) := fun O2 Y2 H2 σ2 env2 st sr2 => by
  have m := st.mv sr.sub
  have g1 := m.tup h1
  have g2 := m.tup h2
  have u1 := t1.mv m
  have u2 := t2.mv m
  have l1 := u1.len
  have l2 := u2.len
  refine ⟨⟨xs, ys, Evl.st_of g1, Evl.st_of g2, by rw [zip_len]; omega⟩, fun i d hd => ?_⟩
  obtain ⟨d1, d2, e1, e2, rfl⟩ := zip_get hd
  obtain ⟨x, hx, sx⟩ := u1.get e1
  obtain ⟨y, hy, sy⟩ := u2.get e2
  refine ⟨⟨xs, ys, x, y, Evl.st_of g1, Evl.st_of g2, hx, hy⟩, fun z H3 yl => ?_⟩
  obtain ⟨T, x', y', rfl, hT, rfl, f1, f2⟩ := yl
  have q1 := f1 xs (Evl.st_of g1)
  have q2 := f2 ys (Evl.st_of g2)
  rw [hx] at q1
  rw [hy] at q2
  cases q1
  cases q2
  exact pair_new sr2 hT sx sy
theorem walk_zipM {a b : Addr} {xs ys : List V} {ds es : List PyData} (sr : SR c O Y σ env H) (h1 : H a = some (.tup xs)) (t1 : ShA c.K Y H xs ds) (n2 : ¬ Y b) (h2 : H b = some (.lst ys)) (t2 : ShA c.K Y H ys es) (el : ds.length = es.length) : RWalk c O Y σ env H (Eh.ItzM c.K a b) (zipItems ds es) := fun O2 Y2 H2 σ2 env2 st sr2 => by
  have m := st.mv sr.sub
  have g1 := m.tup h1
  have g2 := (m.own n2 h2 rfl).2
  have u1 := t1.mv m
  have u2 := t2.mv m
  have l1 := u1.len
  have l2 := u2.len
  refine ⟨⟨xs, ys, Evl.st_of g1, sq_of g2, by rw [zip_len]; omega, by rw [zip_len]; omega⟩, fun i d hd => ?_⟩
  obtain ⟨d1, d2, e1, e2, rfl⟩ := zip_get hd
  obtain ⟨x, hx, sx⟩ := u1.get e1
  obtain ⟨y, hy, sy⟩ := u2.get e2
  refine ⟨⟨xs, ys, x, y, Evl.st_of g1, sq_of g2, hx, hy, by omega⟩, fun z H3 yl => ?_⟩
  obtain ⟨T, x', y', rfl, hT, rfl, f1, f2⟩ := yl
  have q1 := f1 xs (Evl.st_of g1)
  have q2 := f2 ys (sq_of g2)
  rw [hx] at q1
  rw [hy] at q2
  cases q1
  cases q2
  exact pair_new sr2 hT sx sy
theorem si_zip {a b : Expr} {elts : List Expr} {kk : Nat} {tpos : Pos} {G : DEnv → R (List PyData)} (hK : ∀ k, (X k).K = c.K) (hg : ∀ k, Gl (X k) "zip") (hm : ∀ k, (X k).mg "zip" = none) (g : SAs c W X [a, b] G) (hs : ∀ k, starEach [a, b] (X k).env = (false, eval a (X k).env) :: starEach [b] (X k).env := by intro _; rfl) (hpl : ∀ k, (backTo pos (starEach [b] (X k).env)).any (·.1) = false := by intro _; rfl) :
    SI c W X (.Tuple elts kk tpos) (.Call (.Name "zip" p) [a, b] [] pos) (fSrc zipOf G) := fun O Y σ env H Q sr pp => by
  unfold fSrc at pp
  cases hG : G env with
  | bad => rw [hG] at pp; exact pp.elim
  | exc x e1 =>
    rw [hG] at pp
    refine ⟨_, fun k => k_pi (wi := fun K => iZipA K (RA X [a, b])) (hK k) (pi_zipA (hg k) (hm k) (RA.pa k) (hs k) (hpl k)), g O Y σ env H _ sr ?_⟩
    rw [hG]
    exact pp
  | ok ds e1 =>
    rw [hG] at pp
    obtain ⟨rs, hr, p2⟩ := of_post pp
    have p' : ∀ {R' : List V → Hp → Prop}, (∀ vs H' O' Y', Step O Y H O' Y' H' → SR c O' Y' σ e1 H' → ShA c.K Y' H' vs ds → R' vs H') → RA X [a, b] σ H R' := fun {R'} q => by
      refine g O Y σ env H R' sr ?_
      rw [hG]
      exact q
    unfold zipOf at hr
    split at hr
    · cases hr
      refine ⟨_, fun k => k_pi (wi := fun K => iZipA K (RA X [a, b])) (hK k) (pi_zipA (hg k) (hm k) (RA.pa k) (hs k) (hpl k)), p' fun vs H1 O1 Y1 st sr1 r => ?_⟩
      cases r with
      | cons s t =>
        cases t with
        | cons s2 t =>
          cases t
          cases s with
          | lst n h t =>
            cases s2 with
            | lst n2 h2 t2 => exact ⟨_, _, _, _, rfl, .inl ⟨sq_of h, sq_of h2, p2 _ H1 O1 Y1 st sr1 (walk_zipL sr1 n h t n2 h2 t2)⟩⟩
    · cases hr
      refine ⟨_, fun k => k_pi (wi := fun K => iZipA K (RA X [a, b])) (hK k) (pi_zipA (hg k) (hm k) (RA.pa k) (hs k) (hpl k)), p' fun vs H1 O1 Y1 st sr1 r => ?_⟩
      cases r with
      | cons s t =>
        cases t with
        | cons s2 t =>
          cases t
          cases s with
          | tup h t =>
            cases s2 with
            | tup h2 t2 => exact ⟨_, _, _, _, rfl, .inr ⟨Evl.st_of h, Evl.st_of h2, p2 _ H1 O1 Y1 st sr1 (walk_zipT sr1 h t h2 t2)⟩⟩
    · split at hr
      · rename_i el
        cases hr
        refine ⟨_, fun k => k_pi (wi := fun K => Eh.iZipM K (RA X [a, b])) (hK k) (Eh.pi_zipM (hg k) (hm k) (RA.pa k) (hs k) (hpl k)), p' fun vs H1 O1 Y1 st sr1 r => ?_⟩
        cases r with
        | cons s t =>
          cases t with
          | cons s2 t =>
            cases t
            cases s with
            | tup h t =>
              cases s2 with
              | lst n2 h2 t2 => exact ⟨_, _, _, _, rfl, Evl.st_of h, sq_of h2, p2 _ H1 O1 Y1 st sr1 (walk_zipM sr1 h t n2 h2 t2 el)⟩
      · cases hr
    · cases hr
/-! comprehensions -/
def wipeE (env : DEnv) : List Nat → DEnv
  | [] => env
  | v :: vs => (wipeE env vs).set v none
def R.noX {α : Type} : R α → R α
  | .exc _ _ => .bad
  | r => r
def never : WX := fun _ _ _ _ => False
def lcF (vs : List Nat) (B : Bd) (T : DEnv → R Bool) (E : DEnv → R PyData) : List PyData → List PyData → DEnv → R (List PyData)
  | [], acc, env => .ok acc env
  | d :: ds, acc, env => match B d env with
    | none => .bad
    | some e1 => match T e1 with
      | .ok true e2 => match E e2 with
        | .ok r e3 => if acc.length < sizeLine then lcF vs B T E ds (acc ++ [r]) (wipeE e3 vs) else .bad
        | _ => .bad
      | .ok false e2 => lcF vs B T E ds acc (wipeE e2 vs)
      | _ => .bad
theorem lcF_cons {vs : List Nat} {B : Bd} {T : DEnv → R Bool} {E : DEnv → R PyData} {d : PyData} {ds acc : List PyData} {env : DEnv} : lcF vs B T E (d :: ds) acc env = match B d env with
    | none => .bad
    | some e1 => match T e1 with
      | .ok true e2 => match E e2 with
        | .ok r e3 => if acc.length < sizeLine then lcF vs B T E ds (acc ++ [r]) (wipeE e3 vs) else .bad
        | _ => .bad
      | .ok false e2 => lcF vs B T E ds acc (wipeE e2 vs)
      | _ => .bad := rfl
def fLc (F : DEnv → R (List PyData)) (vs : List Nat) (B : Bd) (T : DEnv → R Bool) (E : DEnv → R PyData) : DEnv → R PyData := fun env => (F env).bind fun ds e => (lcF vs B T E ds [] (wipeE e vs)).bind fun rs e2 => .ok (.list rs) e2
def RTs {ι : Type} (X : ι → Cx) (ifs : List Expr) : TT := fun σ H Q => ∃ t, (∀ i, PTs (X i) ifs t) ∧ t σ H Q
theorem RTs.pts {ifs : List Expr} (i : ι) : PTs (X i) ifs (RTs X ifs) := ⟨fun pins s σ H Q I ⟨_, h, q⟩ => (h i).run pins s σ H Q I q⟩
abbrev SF {ι : Type} (c : Cs) (W : WX) (X : ι → Cx) (ifs : List Expr) (F : DEnv → R Bool) : Prop := Sd c RBl W (RTs X ifs) F
def fYes : DEnv → R Bool := fun env => .ok true env
theorem sf_nil : SF c W X [] fYes := fun O Y σ env H Q sr p => ⟨_, fun _ => pts_nil, p true H O Y .refl sr rfl⟩
theorem sf_one {t : Expr} {F : DEnv → R Bool} (h : ST c W X t F) : SF c W X [t] F := fun O Y σ env H Q sr p => ⟨_, fun i => pts_one (RT.pt i), h O Y σ env H Q sr p⟩
theorem wipeE_len (env : DEnv) : ∀ vs : List Nat, (wipeE env vs).length = env.length
  | [] => rfl
  | v :: vs => by
    unfold wipeE
    rw [List.length_set, wipeE_len env vs]
theorem wipeE_some {env : DEnv} {i : Nat} {s : Slot} : ∀ {vs : List Nat}, (wipeE env vs)[i]? = some (some s) → env[i]? = some (some s) ∧ i ∉ vs
  | [], h => ⟨h, by simp⟩
  | v :: vs, h => by
    unfold wipeE at h
    by_cases e : v = i
    · subst e
      have hl := (List.getElem?_eq_some_iff.mp h).1
      rw [List.length_set] at hl
      rw [List.getElem?_set_self hl] at h
      cases h
    · rw [List.getElem?_set_ne e] at h
      obtain ⟨h1, h2⟩ := wipeE_some h
      exact ⟨h1, fun z => (List.mem_cons.mp z).elim (fun q => e q.symm) h2⟩
/-- the state with the block's names wiped -/
theorem wipe_wipe {σ : L2.St} : ∀ {vs : List Nat}, wipe (wipe σ vs) vs = wipe σ vs := fun {vs} => by
  apply List.ext_getElem?
  intro i
  by_cases h : i ∈ vs
  · have z : ∀ (σ : L2.St), (wipe σ vs)[i]? = (σ[i]?).map fun _ => none := fun σ => by
      have := wipe_in (x := none) (σ := σ) h
      have e : (wipe σ vs)[i]? = ((wipe σ vs).set i none)[i]? := by
        have c : ∀ {ws : List Nat}, i ∈ ws → (wipe σ ws).set i none = wipe σ ws := fun {ws} hw => by
          induction ws with
          | nil => cases hw
          | cons w r ih =>
            unfold wipe
            by_cases q : i ∈ r
            · by_cases q2 : w = i
              · rw [q2, List.set_set]
              · rw [List.set_comm _ _ (fun z => q2 z), ih q]
            · have e := (List.mem_cons.mp hw).resolve_right q
              rw [e, List.set_set]
        rw [c h]
      rw [e]
      by_cases hl : i < σ.length
      · rw [List.getElem?_set_self (by rw [wipe_length]; exact hl), List.getElem?_eq_getElem hl]
        rfl
      · rw [List.getElem?_eq_none (by rw [List.length_set, wipe_length]; omega), List.getElem?_eq_none (by omega)]
        rfl
    rw [z, z]
    cases σ[i]? <;> rfl
  · rw [wipe_out h]
theorem SR.wiped {σ' : L2.St} {vs : List Nat} (sr : SR c O Y σ env H) (hl : σ'.length = σ.length) (h : ∀ i, i ∉ vs → σ'[i]? = σ[i]?) : SR c O Y σ' (wipeE env vs) H := by
  have sr1 : SR c O Y σ (wipeE env vs) H := sr.less (wipeE_len env vs) fun i s e => (wipeE_some e).1
  exact sr1.vals hl fun i s v e hv => by
    rw [h i (wipeE_some e).2]
    exact hv
/-- the object at D, that no state leans on, changes -/
theorem upd_at {D : Addr} {o o' : HO} (sr : SR c O Y σ env H) (hY : Y D) (hO : D ∉ O) (hA : V.ref D ∉ c.A0) (h : H D = some o) (ho : isOwn o = true) : Mv Y Y H (upd H D o') ∧ SR c O Y σ env (upd H D o') := by
  have kp : ∀ {a : Addr} {u : HO}, H a = some u → a ≠ D → upd H D o' a = some u := fun h n => by
    rw [upd_ne n]
    exact h
  have m : Mv Y Y H (upd H D o') := ⟨fun a u hu => by
    by_cases q : a = D
    · subst q
      rw [h] at hu
      cases hu
      exact .inl ⟨hY, ho⟩
    · exact .inr (.inr (kp hu q)), fun _ _ z => z⟩
  have there : ∀ {a : Addr}, H a ≠ none → upd H D o' a ≠ none := fun {a} hn z => by
    by_cases q : a = D
    · subst q
      rw [upd_same] at z
      cases z
    · rw [upd_ne q] at z
      exact hn z
  have oD : ∀ {a : Addr}, a ∈ O → a ≠ D := fun h z => hO (z ▸ h)
  refine ⟨m, sr.sub, fun a ha => ?_, fun a z => there (sr.yd a z), sr.len, fun i s e => ?_, sr.ap, fun P hP => ?_, fun a z => there (sr.a0 a z)⟩
  · obtain ⟨u, h1, h2⟩ := sr.own a ha
    exact ⟨u, kp h1 (oD ha), h2⟩
  · obtain ⟨v, hv, q⟩ := sr.sl i s e
    refine ⟨v, hv, ?_⟩
    cases s with
    | shr d => exact Sh.mv m q
    | own d =>
      obtain ⟨a, rfl, e2, t⟩ := q
      exact ⟨a, rfl, e2, t.mv m fun u hu _ => kp hu (oD e2)⟩
    | bor k d =>
      obtain ⟨a, rfl, e2, e3, t, e4⟩ := q
      refine ⟨a, rfl, e2, e3, t.mv m fun u hu _ => kp hu fun z => ?_, e4⟩
      subst z
      exact hA (List.mem_of_getElem? e4)
    | io k d =>
      obtain ⟨a, rfl, e2, t, e4⟩ := q
      exact ⟨a, rfl, e2, t.mv m fun u hu _ => kp hu (oD e2), e4⟩
  · obtain ⟨ps, hp, t⟩ := sr.tab P hP
    refine ⟨ps, kp hp fun z => ?_, t⟩
    rw [z, h] at hp
    cases hp
    cases ho
abbrev BI := Shared × Hp × Addr × List (Str × Addr) × List Addr
abbrev blkF (X : ι → Cx) (scope : Scope) : ι × BI → Cx := fun j => (X j.1).blk j.2.1 j.2.2.1 scope (compEnvC scope j.2.2.2.2.1 j.2.2.2.1 (X j.1).env) j.2.2.2.2.2
theorem lc_read {elt tg it : Expr} {ifs : List Expr} {scope : Scope} {vs : List Nat} {F : DEnv → R (List PyData)} {B : Bd} {bs : List Nat} {T : DEnv → R Bool} {E : DEnv → R PyData} {Q : VK} (hi : SI c W X tg it F) (hg : SG c (blkF X scope) tg B bs) (ht : SF c never (blkF X scope) ifs T) (he : SE c never (blkF X scope) elt E)
    (hbs : ∀ b ∈ bs, b ∈ vs) (sr : SR c O Y σ env H) (p : Post c (ROw c) O Y H σ Q W (fLc F vs B T E env)) : tLc (RI X tg it) (RG (blkF X scope) tg) (RTs (blkF X scope) ifs) (RD (blkF X scope) elt) vs σ H Q := by
  refine hi.next sr p fun ds e0 J H1 O1 Y1 st1 sr1 walk p1 D nD => ?_
  obtain ⟨st2, sr2, _, m2⟩ := own_new (o := .lst []) sr1 nD rfl
  have lk : ∀ i, i ∉ vs → (wipe σ vs)[i]? = σ[i]? := fun i h => wipe_out h
  have nA : V.ref D ∉ c.A0 := fun h => sr1.a0 D h nD
  -- the state with D read only
  have sr3 : SR c O1 (fun b => Y1 b ∨ b = D) (wipe σ vs) (wipeE e0 vs) (upd H1 D (.lst [])) := by
    have e : Ex H1 (upd H1 D (.lst [])) := Ex.new nD
    have q := (sr1.ex e).wiped (vs := vs) (wipe_length σ vs) lk
    have y : ∀ a, (upd H1 D (.lst [])) a ≠ none → (Y1 a ∨ a = D) → (Y1 a ∨ a = D) := fun _ _ h => h
    refine ⟨fun a h => .inl (q.sub a h), q.own, fun a z => ?_, q.len, fun i s h => ?_, q.ap, q.tab, q.a0⟩
    · rcases z with z | z
      · exact q.yd a z
      · rw [z, upd_same]
        simp
    · obtain ⟨h1, h2⟩ := wipeE_some h
      obtain ⟨v, hv, z⟩ := sr1.sl i s h1
      refine ⟨v, by rw [lk i h2]; exact hv, ?_⟩
      cases s with
      | shr d => exact Sh.mv m2 z
      | own d =>
        obtain ⟨a, rfl, e2, t⟩ := z
        exact ⟨a, rfl, e2, t.mv m2 fun u hu _ => e _ _ hu⟩
      | bor k d =>
        obtain ⟨a, rfl, e2, e3, t, e4⟩ := z
        exact ⟨a, rfl, e2, .inl e3, t.mv m2 fun u hu _ => e _ _ hu, e4⟩
      | io k d =>
        obtain ⟨a, rfl, e2, t, e4⟩ := z
        exact ⟨a, rfl, e2, t.mv m2 fun u hu _ => e _ _ hu, e4⟩
  have st3 : Step O1 Y1 H1 O1 (fun b => Y1 b ∨ b = D) (upd H1 D (.lst [])) := by
    have e : Ex H1 (upd H1 D (.lst [])) := Ex.new nD
    exact ⟨st2.keep, st2.dom, fun a h => .inl h, st2.nY, st2.kY, st2.tab⟩
  refine ⟨fun i m H' => m = ds.length - i ∧ i ≤ ds.length ∧ ∃ (O2 : List Addr) (Y2 : Addr → Prop) (env2 : DEnv) (acc : List V) (dacc : List PyData), Step O1 Y1 H1 O2 Y2 H' ∧ SR c O2 Y2 (wipe σ vs) (wipeE env2 vs) H' ∧ Y2 D ∧ D ∉ O2 ∧ H' D = some (.lst acc) ∧ ShA c.K Y2 H' acc dacc ∧
      lcF vs B T E ds [] (wipeE e0 vs) = lcF vs B T E (ds.drop i) dacc (wipeE env2 vs), ⟨_, rfl, Nat.zero_le _, O1, _, e0, [], [], st3, sr3, .inr rfl, fun z => sr1.yd D (sr1.sub D z) nD, upd_same, .nil, rfl⟩, ?_⟩
  rintro i m H2 ⟨rfl, hi, O2, Y2, env2, acc, dacc, st4, sr4, yD, oD, hD, ta, heq⟩
  obtain ⟨stop, go⟩ := walk O2 Y2 H2 (wipe σ vs) (wipeE env2 vs) st4 sr4
  by_cases hlt : i < ds.length
  · refine .inr ?_
    have hd : ds[i]? = some ds[i] := List.getElem?_eq_getElem hlt
    rw [List.drop_eq_getElem_cons hlt] at heq
    generalize ds[i] = d at hd heq
    obtain ⟨g1, g2⟩ := go i d hd
    refine ⟨g1, fun H' => ∃ (O2 : List Addr) (Y2 : Addr → Prop) (env2 : DEnv) (acc : List V) (dacc : List PyData), Step O1 Y1 H1 O2 Y2 H' ∧ SR c O2 Y2 (wipe σ vs) (wipeE env2 vs) H' ∧ Y2 D ∧ D ∉ O2 ∧ H' D = some (.lst acc) ∧ ShA c.K Y2 H' acc dacc ∧
      lcF vs B T E ds [] (wipeE e0 vs) = lcF vs B T E (ds.drop (i + 1)) dacc (wipeE env2 vs), fun H' h => ⟨ds.length - (i + 1), by omega, rfl, hlt, h⟩, fun x H3 y => ?_⟩
    obtain ⟨st5, sr5, sh⟩ := g2 x H3 y
    have m5 := st5.mv sr4.sub
    have st15 := st4.trans sr1.yd st5
    have hD3 : H3 D = some (.lst acc) := by
      rcases st5.keep D _ hD with z | ⟨ps, z⟩ | z
      · exact (oD z.1).elim
      · cases z
      · exact z
    have ta3 := ta.mv m5
    rw [lcF_cons] at heq
    cases hB : B d (wipeE env2 vs) with
    | none =>
      rw [hB] at heq
      simp only at heq
      rw [heq] at p1
      exact p1.elim
    | some e1 =>
      rw [hB] at heq
      simp only at heq
      refine hg O2 Y2 (wipe σ vs) (wipeE env2 vs) H3 x d e1 _ sr5 sh hB fun σ6 sr6 hw => ?_
      have w6 : wipe σ6 vs = wipe σ vs := by
        rw [hw vs hbs]
        exact wipe_wipe
      have l6 : (wipe σ vs).length = σ6.length := by
        rw [← w6]
        exact wipe_length _ _
      have k6 : ∀ i, i ∉ vs → (wipe σ vs)[i]? = σ6[i]? := fun i h => by
        rw [← w6]
        exact wipe_out h
      refine ⟨w6, ?_⟩
      cases hT : T e1 with
      | bad =>
        rw [hT] at heq
        simp only at heq
        rw [heq] at p1
        exact p1.elim
      | exc x e2 =>
        rw [hT] at heq
        simp only at heq
        rw [heq] at p1
        exact p1.elim
      | ok b e2 =>
        rw [hT] at heq
        refine ht O2 Y2 σ6 e1 H3 _ sr6 ?_
        rw [hT]
        intro b' H7 O7 Y7 st7 sr7 eb
        have eb : b' = b := eb
        subst eb
        have st17 := st15.trans sr1.yd st7
        have m7 := st7.mv sr6.sub
        have oD7 : D ∉ O7 := fun z => (st7.nO D z).elim oD fun q => by
          rw [hD3] at q
          cases q
        have yD7 : Y7 D := (st7.kY D yD).resolve_left oD
        have hD7 : H7 D = some (.lst acc) := by
          rcases st7.keep D _ hD3 with z | ⟨ps, z⟩ | z
          · exact (oD z.1).elim
          · cases z
          · exact z
        have ta7 := ta3.mv m7
        cases b' with
        | false =>
          simp only at heq
          exact iteF ⟨O7, Y7, e2, acc, dacc, st17, sr7.wiped l6 k6, yD7, oD7, hD7, ta7, heq⟩
        | true =>
          simp only at heq
          refine iteT ?_
          cases hE : E e2 with
          | bad =>
            rw [hE] at heq
            simp only at heq
            rw [heq] at p1
            exact p1.elim
          | exc x e3 =>
            rw [hE] at heq
            simp only at heq
            rw [heq] at p1
            exact p1.elim
          | ok r e3 =>
            rw [hE] at heq
            simp only at heq
            refine he O7 Y7 σ6 e2 H7 _ sr7 ?_
            rw [hE]
            intro v H8 O8 Y8 st8 sr8 sv
            have st18 := st17.trans sr1.yd st8
            have m8 := st8.mv sr7.sub
            have oD8 : D ∉ O8 := fun z => (st8.nO D z).elim oD7 fun q => by
              rw [hD7] at q
              cases q
            have yD8 : Y8 D := (st8.kY D yD7).resolve_left oD7
            have hD8 : H8 D = some (.lst acc) := by
              rcases st8.keep D _ hD7 with z | ⟨ps, z⟩ | z
              · exact (oD7 z.1).elim
              · cases z
              · exact z
            have ta8 := ta7.mv m8
            by_cases hz : dacc.length < sizeLine
            · rw [if_pos hz] at heq
              obtain ⟨m9, sr9⟩ := upd_at (o' := .lst (acc ++ [v])) (sr8.wiped l6 k6) yD8 oD8 nA hD8 rfl
              refine ⟨acc, hD8, by rw [ta8.len]; exact hz, O8, Y8, e3, acc ++ [v], dacc ++ [r], ?_, sr9, yD8, oD8, upd_same, (ta8.mv m9).snoc (Sh.mv m9 sv), heq⟩
              refine ⟨fun a o h => ?_, fun a h z => ?_, st18.nO, st18.nY, st18.kY, fun P hP => ?_⟩
              · rcases st18.keep a o h with z | z | z
                · exact .inl z
                · exact .inr (.inl z)
                · refine .inr (.inr ?_)
                  rw [upd_ne fun q => by rw [q, nD] at h; cases h]
                  exact z
              · by_cases q : a = D
                · rw [q, upd_same] at z
                  cases z
                · rw [upd_ne q] at z
                  exact st18.dom a h z
              · obtain ⟨ps, hp, t⟩ := st18.tab P hP
                refine ⟨ps, ?_, t⟩
                rw [upd_ne fun q => by rw [q, hD8] at hp; cases hp]
                exact hp
            · rw [if_neg hz] at heq
              rw [heq] at p1
              exact p1.elim
  · have ei : i = ds.length := by omega
    subst ei
    refine .inl ⟨stop, ?_⟩
    rw [List.drop_eq_nil_of_le (by omega)] at heq
    rw [heq] at p1
    have back : ∀ j, j ∉ vs → σ[j]? = (wipe σ vs)[j]? := fun j h => (wipe_out h).symm
    have sr5 : SR c O2 Y2 σ (wipeE env2 vs) H2 := sr4.vals (wipe_length σ vs).symm fun j s v e hv => by
      rw [back j (wipeE_some e).2]
      exact hv
    -- D becomes one's own
    refine p1 (.ref D) H2 (D :: O2) Y2 ⟨st4.keep, st4.dom, fun a h => (List.mem_cons.mp h).elim (fun z => .inr (z ▸ nD)) (st4.nO a), st4.nY, st4.kY, st4.tab⟩ ?_ ⟨D, rfl, List.mem_cons_self, ?_, .lst hD ta⟩
    · refine ⟨fun a h => (List.mem_cons.mp h).elim (fun z => z ▸ yD) (sr5.sub a), fun a h => ?_, sr5.yd, sr5.len, fun j s e => ?_, sr5.ap, sr5.tab, sr5.a0⟩
      · rcases List.mem_cons.mp h with z | z
        · exact ⟨_, z ▸ hD, rfl⟩
        · exact sr5.own a z
      · obtain ⟨v, hv, q⟩ := sr5.sl j s e
        refine ⟨v, hv, ?_⟩
        cases s with
        | shr d => exact q
        | own d =>
          obtain ⟨a, rfl, e2, t⟩ := q
          exact ⟨a, rfl, List.mem_cons_of_mem _ e2, t⟩
        | bor k d =>
          obtain ⟨a, rfl, e2, e3, t, e4⟩ := q
          refine ⟨a, rfl, fun z => ?_, e3, t, e4⟩
          rcases List.mem_cons.mp z with z | z
          · subst z
            exact nA (List.mem_of_getElem? e4)
          · exact e2 z
        | io k d =>
          obtain ⟨a, rfl, e2, t, e4⟩ := q
          exact ⟨a, rfl, List.mem_cons_of_mem _ e2, t, e4⟩
    · rintro j ⟨s, h1, h2⟩ z
      obtain ⟨v, hv, q⟩ := sr5.sl j s h1
      rw [hv] at z
      cases z
      cases s with
      | shr d => cases h2
      | bor k d => cases h2
      | own d =>
        obtain ⟨a, e1, e2, _⟩ := q
        cases e1
        exact oD e2
      | io k d =>
        obtain ⟨a, e1, e2, _⟩ := q
        cases e1
        exact oD e2
theorem so_lc {elt : Expr} {ifs : List Expr} {scope : Scope} {own : List (Str × Nat)} {F : DEnv → R (List PyData)} {B : Bd} {bs : List Nat} {T : DEnv → R Bool} {E : DEnv → R PyData} (hc : ∀ k, (X k).calm = true) (hN : ∀ k, (X k).N.Nodup) (hi : SI c W X tg it F) (ok : ∀ k, BlkOk (X k).N (X k).env.scope scope own)
    (hg : SG c (blkF X scope) tg B bs) (ht : SF c never (blkF X scope) ifs T) (he : SE c never (blkF X scope) elt E) (hbs : ∀ b ∈ bs, b ∈ own.map (·.2)) (hs : ∀ k x, foldedSetIterable it (X k).env x = pure x := by intro _ _; rfl) :
    SO c W X (.ListComp elt [⟨tg, it, ifs, 0⟩] scope pos) (fLc F (own.map (·.2)) B T E) := fun O Y σ env H Q sr p =>
  ⟨_, fun k => pe_lc (hc k) (hN k) (RI.pi k) (ok k) (fun s H C cl fp => RG.pg (X := blkF X scope) (k, s, H, C, cl, fp)) (fun s H C cl fp => RTs.pts (X := blkF X scope) (k, s, H, C, cl, fp)) (fun s H C cl fp => RD.pe (X := blkF X scope) (k, s, H, C, cl, fp)) (hs k), lc_read hi hg ht he hbs sr p⟩
/-- y = [..] -/
theorem ss_ownLc {i : Nat} {y : Str} {py spos : Pos} {elt : Expr} {ifs : List Expr} {scope : Scope} {own : List (Str × Nat)} {F : DEnv → R (List PyData)} {B : Bd} {bs : List Nat} {T : DEnv → R Bool} {E : DEnv → R PyData} (hc : ∀ k, (X k).calm = true) (hN : ∀ k, (X k).N.Nodup) (hy : ∀ k, (X k).N[i]? = some y) (hyl : ∀ k, (X k).env.scope.names.lookup y = some .local)
    (hsw : ∀ k, swapsWith (.ListComp elt [⟨tg, it, ifs, 0⟩] scope pos) (some (.Name y py)) spos.line (X k).env = pure true) (hi : SI c W X tg it F) (ok : ∀ k, BlkOk (X k).N (X k).env.scope scope own)
    (hg : SG c (blkF X scope) tg B bs) (ht : SF c never (blkF X scope) ifs T) (he : SE c never (blkF X scope) elt E) (hbs : ∀ b ∈ bs, b ∈ own.map (·.2)) (hs : ∀ k x, foldedSetIterable it (X k).env x = pure x := by intro _ _; rfl) :
    SS c W X (.Assign [.Name y py] (.ListComp elt [⟨tg, it, ifs, 0⟩] scope pos) spos) (gOwn i (fLc F (own.map (·.2)) B T E)) := fun O Y σ env H D sr p => by
  refine ⟨_, fun k => ps_setLc (hc k) (hN k) (hy k) (hyl k) (hsw k) (RI.pi k) (ok k) (fun s H C cl fp => RG.pg (X := blkF X scope) (k, s, H, C, cl, fp)) (fun s H C cl fp => RTs.pts (X := blkF X scope) (k, s, H, C, cl, fp)) (fun s H C cl fp => RD.pe (X := blkF X scope) (k, s, H, C, cl, fp)) (hs k), ?_⟩
  refine lc_read (W := W) hi hg ht he hbs sr ?_
  unfold gOwn at p
  cases hF : fLc F (own.map (·.2)) B T E env with
  | bad => rw [hF] at p; exact p.elim
  | exc x e1 =>
    rw [hF] at p
    exact fun cl dd H1 O1 Y1 st sr1 ea => p cl dd σ H1 O1 Y1 st sr1 ea
  | ok d e1 =>
    rw [hF] at p
    intro v H1 O1 Y1 st sr1 r
    obtain ⟨a, rfl, ha, hf, t⟩ := r
    exact p _ H1 O1 Y1 st (sr1.setO ha hf t)
theorem ss_setLc {i : Nat} {y : Str} {py spos : Pos} {elt : Expr} {ifs : List Expr} {scope : Scope} {own : List (Str × Nat)} {F : DEnv → R (List PyData)} {B : Bd} {bs : List Nat} {T : DEnv → R Bool} {E : DEnv → R PyData} (hc : ∀ k, (X k).calm = true) (hN : ∀ k, (X k).N.Nodup) (hy : ∀ k, (X k).N[i]? = some y) (hyl : ∀ k, (X k).env.scope.names.lookup y = some .local)
    (hsw : ∀ k, swapsWith (.ListComp elt [⟨tg, it, ifs, 0⟩] scope pos) (some (.Name y py)) spos.line (X k).env = pure true) (hi : SI c W X tg it F) (ok : ∀ k, BlkOk (X k).N (X k).env.scope scope own)
    (hg : SG c (blkF X scope) tg B bs) (ht : SF c never (blkF X scope) ifs T) (he : SE c never (blkF X scope) elt E) (hbs : ∀ b ∈ bs, b ∈ own.map (·.2)) (hs : ∀ k x, foldedSetIterable it (X k).env x = pure x := by intro _ _; rfl) :
    SS c W X (.Assign [.Name y py] (.ListComp elt [⟨tg, it, ifs, 0⟩] scope pos) spos) (gSet i (fLc F (own.map (·.2)) B T E)) := fun O Y σ env H D sr p => by
  refine ⟨_, fun k => ps_setLc (hc k) (hN k) (hy k) (hyl k) (hsw k) (RI.pi k) (ok k) (fun s H C cl fp => RG.pg (X := blkF X scope) (k, s, H, C, cl, fp)) (fun s H C cl fp => RTs.pts (X := blkF X scope) (k, s, H, C, cl, fp)) (fun s H C cl fp => RD.pe (X := blkF X scope) (k, s, H, C, cl, fp)) (hs k), ?_⟩
  refine lc_read (W := W) hi hg ht he hbs sr ?_
  unfold gSet at p
  cases hF : fLc F (own.map (·.2)) B T E env with
  | bad => rw [hF] at p; exact p.elim
  | exc x e1 =>
    rw [hF] at p
    exact fun cl dd H1 O1 Y1 st sr1 ea => p cl dd σ H1 O1 Y1 st sr1 ea
  | ok d e1 =>
    rw [hF] at p
    intro v H1 O1 Y1 st sr1 r
    obtain ⟨a, rfl, ha, hf, t⟩ := r
    obtain ⟨st2, sr2, sh⟩ := freeze sr1 hf ha t
    exact p _ H1 _ _ (st.trans sr.yd st2) (sr2.setS sh)
end
end Dl
set_option Elab.async false
set_option linter.all false
set_option maxRecDepth 100000
set_option maxHeartbeats 4000000
namespace Dl
open PySem PySem.Spec PyProof.Rows L2 Evl Gx GxR RZ
/-! all(..), any(..) -/
abbrev GI := Around × Shared × Hp × Addr × Value × List Addr × List (Addr × Obj)
abbrev genF {ι : Type} (X : ι → Cx) (scope : Scope) : ι × GI → Cx := fun j => gcx (X j.1) j.2.1 j.2.2.1 j.2.2.2.1 (gEnv (X j.1) scope j.2.2.2.2.1 j.2.2.2.2.2.1) j.2.2.2.2.2.2.1 j.2.2.2.2.2.2.2
abbrev genR {ι : Type} (X : ι → Cx) (scope : Scope) (k : Nat) : ι × {A : Around // Room k A} × Shared × Hp × Addr × Value × List Addr × List (Addr × Obj) → Cx := fun j => gcx (X j.1) j.2.1.1 j.2.2.1 j.2.2.2.1 (gEnv (X j.1) scope j.2.2.2.2.1 j.2.2.2.2.2.1) j.2.2.2.2.2.2.1 j.2.2.2.2.2.2.2
def anyF (stop : Bool) (vs : List Nat) (B : Bd) (E : DEnv → R PyData) : List PyData → DEnv → R Bool
  | [], env => .ok (!stop) env
  | d :: ds, env => match B d env with
    | none => .bad
    | some e1 => match E e1 with
      | .ok (.bool b) e2 => if b = stop then .ok stop (wipeE e2 vs) else anyF stop vs B E ds (wipeE e2 vs)
      | _ => .bad
theorem anyF_cons {stop : Bool} {vs : List Nat} {B : Bd} {E : DEnv → R PyData} {d : PyData} {ds : List PyData} {env : DEnv} : anyF stop vs B E (d :: ds) env = match B d env with
    | none => .bad
    | some e1 => match E e1 with
      | .ok (.bool b) e2 => if b = stop then .ok stop (wipeE e2 vs) else anyF stop vs B E ds (wipeE e2 vs)
      | _ => .bad := rfl
def fAny (stop : Bool) (F : DEnv → R (List PyData)) (vs : List Nat) (B : Bd) (E : DEnv → R PyData) : DEnv → R PyData := fun env => (F env).bind fun ds e => (anyF stop vs B E ds (wipeE e vs)).bind fun b e2 => .ok (.bool b) e2
section
variable {c : Cs} {O O' O1 : List Addr} {Y Y' Y1 : Addr → Prop} {H H' H1 : Hp} {σ : L2.St} {env : DEnv} {W : WX} {ι : Type} {X : ι → Cx} {e it tg elt : Expr} {es : List Expr} {p pos gpos : Pos}
theorem any_read {stop : Bool} {P : Addr} {k : Nat} {scope : Scope} {vs : List Nat} {F : DEnv → R (List PyData)} {B : Bd} {bs : List Nat} {E : DEnv → R PyData} {Q : VK} (hP : P ∈ c.TS) (hi : SI c W X tg it F) (hg : SG c (genF X scope) tg B bs) (he : SE c never (genR X scope k) elt E)
    (hbs : ∀ b ∈ bs, b ∈ vs) (sr : SR c O Y σ env H) (p : Post c (RSh c) O Y H σ Q W (fAny stop F vs B E env)) : tGx stop P (RI X tg it) (RG (genF X scope) tg) (RD (genR X scope k) elt) vs σ H Q := by
  refine hi.next sr p fun ds e0 J H1 O1 Y1 st1 sr1 walk p1 => ⟨sr1.tab P hP, fun H2 t2 => ?_⟩
  have st2 : Step O1 Y1 H1 O1 Y1 H2 := .ofTab (sr1.tab P hP) t2
  have sr2 := sr1.tabbed hP t2
  have lk : ∀ i, i ∉ vs → (wipe σ vs)[i]? = σ[i]? := fun i h => wipe_out h
  have fin : ∀ {O3 : List Addr} {Y3 : Addr → Prop} {env3 : DEnv} {H3 : Hp}, SR c O3 Y3 (wipe σ vs) (wipeE env3 vs) H3 → SR c O3 Y3 σ (wipeE env3 vs) H3 := fun {O3 Y3 env3 H3} s => s.vals (wipe_length σ vs).symm fun j s v e hv => by
    rw [← lk j (wipeE_some e).2]
    exact hv
  refine ⟨fun i m H' => m = ds.length - i ∧ i ≤ ds.length ∧ ∃ (O3 : List Addr) (Y3 : Addr → Prop) (env3 : DEnv), Step O1 Y1 H1 O3 Y3 H' ∧ SR c O3 Y3 (wipe σ vs) (wipeE env3 vs) H' ∧ anyF stop vs B E ds (wipeE e0 vs) = anyF stop vs B E (ds.drop i) (wipeE env3 vs),
    ⟨_, rfl, Nat.zero_le _, O1, Y1, e0, st2, sr2.wiped (wipe_length σ vs) lk, rfl⟩, ?_⟩
  rintro i m H3 ⟨rfl, hi, O3, Y3, env3, st3, sr3, heq⟩
  obtain ⟨stop', go⟩ := walk O3 Y3 H3 (wipe σ vs) (wipeE env3 vs) st3 sr3
  by_cases hlt : i < ds.length
  · refine .inr ?_
    have hd : ds[i]? = some ds[i] := List.getElem?_eq_getElem hlt
    rw [List.drop_eq_getElem_cons hlt] at heq
    generalize ds[i] = d at hd heq
    obtain ⟨g1, g2⟩ := go i d hd
    refine ⟨g1, fun x H4 y => ?_⟩
    obtain ⟨st4, sr4, sh⟩ := g2 x H4 y
    have st14 := st3.trans sr1.yd st4
    rw [anyF_cons] at heq
    cases hB : B d (wipeE env3 vs) with
    | none =>
      rw [hB] at heq
      simp only at heq
      rw [heq] at p1
      exact p1.elim
    | some e1 =>
      rw [hB] at heq
      simp only at heq
      refine hg O3 Y3 (wipe σ vs) (wipeE env3 vs) H4 x d e1 _ sr4 sh hB fun σ6 sr6 hw => ?_
      have w6 : wipe σ6 vs = wipe σ vs := by
        rw [hw vs hbs]
        exact wipe_wipe
      have l6 : (wipe σ vs).length = σ6.length := by
        rw [← w6]
        exact wipe_length _ _
      have k6 : ∀ i, i ∉ vs → (wipe σ vs)[i]? = σ6[i]? := fun i h => by
        rw [← w6]
        exact wipe_out h
      refine ⟨w6, ?_⟩
      cases hE : E e1 with
      | bad =>
        rw [hE] at heq
        simp only at heq
        rw [heq] at p1
        exact p1.elim
      | exc x e3 =>
        rw [hE] at heq
        simp only at heq
        rw [heq] at p1
        exact p1.elim
      | ok r e3 =>
        rw [hE] at heq
        refine he O3 Y3 σ6 e1 H4 _ sr6 ?_
        rw [hE]
        intro v H7 O7 Y7 st7 sr7 sv
        have st17 := st14.trans sr1.yd st7
        cases r with
        | bool b =>
          simp only at heq
          cases sv
          refine ⟨b, rfl, ?_⟩
          by_cases hb : b = stop
          · rw [if_pos hb] at heq ⊢
            rw [heq] at p1
            exact p1 _ H7 O7 Y7 st17 (fin (sr7.wiped l6 k6)) (.bl _)
          · rw [if_neg hb] at heq ⊢
            exact ⟨ds.length - (i + 1), by omega, rfl, hlt, O7, Y7, e3, st17, sr7.wiped l6 k6, heq⟩
        | _ =>
          simp only at heq
          rw [heq] at p1
          exact p1.elim
  · have ei : i = ds.length := by omega
    subst ei
    rw [List.drop_eq_nil_of_le (by omega)] at heq
    rw [heq] at p1
    exact .inl ⟨stop', p1 _ H3 O3 Y3 st3 (fin sr3) (.bl _)⟩
theorem se_all {cA P : Addr} {scope : Scope} {own : List (Str × Nat)} {k : Nat} {F : DEnv → R (List PyData)} {B : Bd} {bs : List Nat} {E : DEnv → R PyData} (hc : ∀ k, (X k).calm = true) (hN : ∀ k, (X k).N.Nodup) (hr : ∀ j, Room (k + 1) (X j).A) (hg0 : ∀ j, Gl (X j) "all") (hm : ∀ j, (X j).mg "all" = none) (TB : ∀ j, TabB (X j).base (X j).mg cA P) (hP : P ∈ c.TS) (hcode : ∀ j, (X j).env.code = .ref cA)
    (hi : SI c W X tg it F) (ok : ∀ k, BlkOk (X k).N (X k).env.scope scope own) (hcell : ∀ y ∈ scope.names, y.2 ≠ .cell) (hdot : scope.names.lookup (".0" : Str) = some NameKind.local) (hg : SG c (genF X scope) tg B bs) (he : SE c never (genR X scope k) elt E) (hbs : ∀ b ∈ bs, b ∈ own.map (·.2))
    (hs : ∀ j v, genFold it (X j).env v = pure v := by intro _ _; rfl) (hco : scope.isCoroutine = false := by rfl) (he0 : ∀ j, starEach [.GeneratorExp elt [⟨tg, it, [], 0⟩] scope gpos] (X j).env = (false, eval (.GeneratorExp elt [⟨tg, it, [], 0⟩] scope gpos) (X j).env) :: starEach [] (X j).env := by intro _; rfl) :
    SE c W X (.Call (.Name "all" p) [.GeneratorExp elt [⟨tg, it, [], 0⟩] scope gpos] [] pos) (fAny false F (own.map (·.2)) B E) := fun O Y σ env H Q sr pp =>
  ⟨_, fun j => pe_allG (hc j) (hN j) (hr j) (hg0 j) (hm j) (TB j) (hcode j) (RI.pi j) (ok j) hcell hdot (fun A s H C code fp pn => RG.pg (X := genF X scope) (j, A, s, H, C, code, fp, pn)) (fun A s H C code fp pn hA => RD.pe (X := genR X scope k) (j, ⟨A, hA⟩, s, H, C, code, fp, pn)) (hs j) hco (he0 j), any_read hP hi hg he hbs sr pp⟩
theorem se_any {cA P : Addr} {scope : Scope} {own : List (Str × Nat)} {k : Nat} {F : DEnv → R (List PyData)} {B : Bd} {bs : List Nat} {E : DEnv → R PyData} (hc : ∀ k, (X k).calm = true) (hN : ∀ k, (X k).N.Nodup) (hr : ∀ j, Room (k + 1) (X j).A) (hg0 : ∀ j, Gl (X j) "any") (hm : ∀ j, (X j).mg "any" = none) (TB : ∀ j, TabB (X j).base (X j).mg cA P) (hP : P ∈ c.TS) (hcode : ∀ j, (X j).env.code = .ref cA)
    (hi : SI c W X tg it F) (ok : ∀ k, BlkOk (X k).N (X k).env.scope scope own) (hcell : ∀ y ∈ scope.names, y.2 ≠ .cell) (hdot : scope.names.lookup (".0" : Str) = some NameKind.local) (hg : SG c (genF X scope) tg B bs) (he : SE c never (genR X scope k) elt E) (hbs : ∀ b ∈ bs, b ∈ own.map (·.2))
    (hs : ∀ j v, genFold it (X j).env v = pure v := by intro _ _; rfl) (hco : scope.isCoroutine = false := by rfl) (he0 : ∀ j, starEach [.GeneratorExp elt [⟨tg, it, [], 0⟩] scope gpos] (X j).env = (false, eval (.GeneratorExp elt [⟨tg, it, [], 0⟩] scope gpos) (X j).env) :: starEach [] (X j).env := by intro _; rfl) :
    SE c W X (.Call (.Name "any" p) [.GeneratorExp elt [⟨tg, it, [], 0⟩] scope gpos] [] pos) (fAny true F (own.map (·.2)) B E) := fun O Y σ env H Q sr pp =>
  ⟨_, fun j => pe_anyG (hc j) (hN j) (hr j) (hg0 j) (hm j) (TB j) (hcode j) (RI.pi j) (ok j) hcell hdot (fun A s H C code fp pn => RG.pg (X := genF X scope) (j, A, s, H, C, code, fp, pn)) (fun A s H C code fp pn hA => RD.pe (X := genR X scope k) (j, ⟨A, hA⟩, s, H, C, code, fp, pn)) (hs j) hco (he0 j), any_read hP hi hg he hbs sr pp⟩
/-! built-in functions -/
def RCl (X : ι → Cx) (f : Value) : List V → Hp → VK → Prop := fun xs H Q => ∃ r, (∀ i, CallR (X i) f r) ∧ r xs H Q
theorem RCl.cr {f : Value} (i : ι) : CallR (X i) f (RCl X f) := fun pins s σ H xs us Q I rx ⟨r, h, q⟩ => h i pins s σ H xs us Q I rx q
theorem k_cr {X : Cx} {f : Value} {K : PySem.W.Frag} {r : PySem.W.Frag → List V → Hp → VK → Prop} (hK : X.K = K) (h : CallR X f (r X.K)) : CallR X f (r K) := hK ▸ h
inductive BoA (c : Cs) (Y : Addr → Prop) (H : Hp) : List V → List PyData → Prop
  | nil : BoA c Y H [] []
  | cons {v : V} {d : PyData} {vs : List V} {ds : List PyData} : Bo c.K Y H v d → BoA c Y H vs ds → BoA c Y H (v :: vs) (d :: ds)
inductive RBoL (c : Cs) (Y : Addr → Prop) (σ : L2.St) (H : Hp) : List V → List BD → Prop
  | nil : RBoL c Y σ H [] []
  | cons {v : V} {b : BD} {vs : List V} {bs : List BD} : (∀ O env, RBo c O Y σ env H v b) → RBoL c Y σ H vs bs → RBoL c Y σ H (v :: vs) (b :: bs)
def RBs (c : Cs) : RelT (List BD) (List V) := fun _ Y σ _ H vs bs => RBoL c Y σ H vs bs
abbrev SBs (c : Cs) (W : WX) (X : ι → Cx) (es : List Expr) (F : DEnv → R (List BD)) : Prop := Sd c (RBs c) W (RA X es) F
def getAll (env : DEnv) : List BD → Option (List PyData)
  | [] => some []
  | b :: r => (b.get env).bind fun d => (getAll env r).map (d :: ·)
theorem RBoL.mv (m : Mv Y Y' H H') : ∀ {vs : List V} {bs : List BD}, RBoL c Y σ H vs bs → RBoL c Y' σ H' vs bs
  | _, _, .nil => .nil
  | _, _, .cons a r => .cons (fun O env => RBo.mv (O := O) (env := env) (a O env) m) (RBoL.mv m r)
theorem RBoL.bo : ∀ {vs : List V} {bs : List BD} {ds : List PyData}, RBoL c Y σ H vs bs → SR c O Y σ env H → getAll env bs = some ds → BoA c Y H vs ds
  | _, _, _, .nil, _, h => by
    cases h
    exact .nil
  | _, _, _, .cons a r, sr, h => by
    obtain ⟨d, hd, h⟩ := Option.bind_eq_some_iff.mp h
    obtain ⟨ds, h, rfl⟩ := Option.map_eq_some_iff.mp h
    exact .cons ((a O env).bo sr hd) (RBoL.bo r sr ‹_›)
theorem RBo.all {v : V} {b : BD} (h : RBo c O Y σ env H v b) : ∀ O env, RBo c O Y σ env H v b := fun _ _ => by
  cases b <;> exact h
def fBNil : DEnv → R (List BD) := fun env => .ok [] env
def fBCons (F : DEnv → R BD) (G : DEnv → R (List BD)) : DEnv → R (List BD) := fun env => (F env).bind fun d e => (G e).bind fun ds e2 => .ok (d :: ds) e2
theorem sbs_nil : SBs c W X [] fBNil := fun O Y σ env H Q sr p => ⟨_, fun _ => pa_nil, p [] H O Y .refl sr .nil⟩
theorem sbs_cons {F : DEnv → R BD} {G : DEnv → R (List BD)} (h : SB c W X e F) (g : SBs c W X es G) (hs : ∀ i, starEach (e :: es) (X i).env = (false, eval e (X i).env) :: starEach es (X i).env := by intro _; rfl) : SBs c W X (e :: es) (fBCons F G) := fun O Y σ env H Q sr p =>
  ⟨_, fun i => pa_cons (RD.pe i) (RA.pa i) (hs i), h.next sr p fun d e1 v H1 O1 Y1 st1 sr1 r1 p1 => g.next sr1 p1 fun ds e2 vs H2 O2 Y2 st2 sr2 r2 p2 => p2 _ H2 O2 Y2 .refl sr2 (.cons (RBo.mv (O' := O2) (env' := e2) r1 (sr1.mv st2)).all r2)⟩
/-- what a built-in tells of data -/
def AdC (c : Cs) (X : ι → Cx) (Rel : RelT PyData V) (f : Value) (k : List PyData → Option PyData) : Prop :=
  ∀ (O : List Addr) (Y : Addr → Prop) (σ : L2.St) (env : DEnv) (H : Hp) (vs : List V) (ds : List PyData) (d : PyData) (Q : VK), SR c O Y σ env H → BoA c Y H vs ds → k ds = some d →
    (∀ v H' O' Y', Step O Y H O' Y' H' → SR c O' Y' σ env H' → Rel O' Y' σ env H' v d → Q v H') → RCl X f vs H Q
def fBlt (k : List PyData → Option PyData) (G : DEnv → R (List BD)) : DEnv → R PyData := fun env => (G env).bind fun bs e => R.of ((getAll e bs).bind k) e
theorem blt_core {Rel : RelT PyData V} {f : Value} {k : List PyData → Option PyData} {G : DEnv → R (List BD)} {Q : VK} (ad : AdC c X Rel f k) (g : SBs c W X es G) (sr : SR c O Y σ env H) (p : Post c Rel O Y H σ Q W (fBlt k G env)) : tCB (RCl X f) (RA X es) σ H Q :=
  g.next sr p fun bs e1 vs H1 O1 Y1 st1 sr1 r p1 => by
    obtain ⟨d, hd, p2⟩ := of_post p1
    obtain ⟨ds, h1, h2⟩ := Option.bind_eq_some_iff.mp hd
    exact ad O1 Y1 σ e1 H1 vs ds d Q sr1 (RBoL.bo r sr1 h1) h2 fun v H' O' Y' st sr' rel => p2 v H' O' Y' st sr' rel
theorem sd_callB {Rel : RelT PyData V} {id : String} {x : Str} {k : List PyData → Option PyData} {G : DEnv → R (List BD)} (ad : AdC c X Rel (.builtin id) k) (hg : ∀ j, Gl (X j) x) (hm : ∀ j, (X j).mg x = none) (hv : bootBuiltins x = some (.builtin id)) (g : SBs c W X (e :: es) G) (hn : x ≠ "__name__" := by decide) (hdb : (x == ("__debug__" : Str)) = false := by decide)
    (he : ∀ j, starEach (e :: es) (X j).env = (false, eval e (X j).env) :: starEach es (X j).env := by intro _; rfl) (hpl : ∀ j, (backTo pos (starEach es (X j).env)).any (·.1) = false := by intro _; rfl) : Sd c Rel W (RD X (.Call (.Name x p) (e :: es) [] pos)) (fBlt k G) := fun O Y σ env H Q sr pp =>
  ⟨_, fun j => pe_callB (RCl.cr j) (hg j) (hm j) hv (RA.pa j) hn hdb (he j) (hpl j), blt_core ad g sr pp⟩
theorem sd_callTy {Rel : RelT PyData V} {T : String} {x : Str} {k : List PyData → Option PyData} {G : DEnv → R (List BD)} (ad : AdC c X Rel (.type T) k) (hg : ∀ j, Gl (X j) x) (hm : ∀ j, (X j).mg x = none) (hv : bootBuiltins x = some (.type T)) (g : SBs c W X (e :: es) G) (hn : x ≠ "__name__" := by decide) (hdb : (x == ("__debug__" : Str)) = false := by decide)
    (he : ∀ j, starEach (e :: es) (X j).env = (false, eval e (X j).env) :: starEach es (X j).env := by intro _; rfl) (hpl : ∀ j, (backTo pos (starEach es (X j).env)).any (·.1) = false := by intro _; rfl) : Sd c Rel W (RD X (.Call (.Name x p) (e :: es) [] pos)) (fBlt k G) := fun O Y σ env H Q sr pp =>
  ⟨_, fun j => pe_callTy (RCl.cr j) (hg j) (hm j) hv (RA.pa j) hn hdb (he j) (hpl j), blt_core ad g sr pp⟩
theorem BoA.one {vs : List V} {d : PyData} (h : BoA c Y H vs [d]) : ∃ v, vs = [v] ∧ Bo c.K Y H v d := by
  cases h with
  | cons a r =>
    cases r
    exact ⟨_, rfl, a⟩
theorem BoA.two {vs : List V} {d1 d2 : PyData} (h : BoA c Y H vs [d1, d2]) : ∃ v w, vs = [v, w] ∧ Bo c.K Y H v d1 ∧ Bo c.K Y H w d2 := by
  cases h with
  | cons a r =>
    cases r with
    | cons b r =>
      cases r
      exact ⟨_, _, rfl, a, b⟩
/-- len -/
def kLen : List PyData → Option PyData
  | [.list xs] => some (.int (xs.length : Nat))
  | [.tuple xs] => some (.int (xs.length : Nat))
  | [.str z] => if z.length ≤ sizeLine then some (.int (z.length : Nat)) else none
  | _ => none
theorem ad_len (hK : ∀ i, (X i).K = c.K) : AdC c X (RSh c) (.builtin "len") kLen := by
  intro O Y σ env H vs ds d Q sr b h q
  unfold kLen at h
  split at h
  · cases h
    obtain ⟨v, rfl, b0⟩ := b.one
    obtain ⟨a, xs, rfl, ha, ta⟩ := b0.list
    refine ⟨fun xs H Q => ∃ p ys, xs = [.ref p] ∧ (SqL c.K H p ys ∨ SqT c.K H p ys) ∧ Q (.int ys.length) H, fun i => hK i ▸ call_len_seq, a, xs, rfl, .inl (sq_of ha), ?_⟩
    rw [ta.len]
    exact q _ _ _ _ .refl sr (.int _)
  · cases h
    obtain ⟨v, rfl, b0⟩ := b.one
    obtain ⟨a, xs, rfl, ha, ta⟩ := b0.tuple
    refine ⟨fun xs H Q => ∃ p ys, xs = [.ref p] ∧ (SqL c.K H p ys ∨ SqT c.K H p ys) ∧ Q (.int ys.length) H, fun i => hK i ▸ call_len_seq, a, xs, rfl, .inr (Evl.st_of ha), ?_⟩
    rw [ta.len]
    exact q _ _ _ _ .refl sr (.int _)
  · split at h
    · cases h
      obtain ⟨v, rfl, b0⟩ := b.one
      cases b0.str
      exact ⟨_, fun _ => call_len_str, _, rfl, by assumption, q _ _ _ _ .refl sr (.int _)⟩
    · cases h
  · cases h
/-- list(..), tuple(..) -/
def kList : List PyData → Option PyData
  | [.list xs] => some (.list xs)
  | [.tuple xs] => some (.list xs)
  | _ => none
theorem new_lst (sr : SR c O Y σ env H) {q : Addr} (hq : H q = none) {vs : List V} {ds : List PyData} (r : ShA c.K Y H vs ds) : Step O Y H (q :: O) (fun b => Y b ∨ b = q) (upd H q (.lst vs)) ∧ SR c (q :: O) (fun b => Y b ∨ b = q) σ env (upd H q (.lst vs)) ∧ ROw c (q :: O) (fun b => Y b ∨ b = q) σ env (upd H q (.lst vs)) (.ref q) (.list ds) := by
  obtain ⟨st, sr', fr, m⟩ := own_new (o := .lst vs) sr hq rfl
  exact ⟨st, sr', q, rfl, List.mem_cons_self, fr, .lst upd_same (ShA.mv m r)⟩
theorem ad_list (hK : ∀ i, (X i).K = c.K) : AdC c X (ROw c) (.type "list") kList := by
  intro O Y σ env H vs ds d Q sr b h q
  unfold kList at h
  split at h
  · cases h
    obtain ⟨v, rfl, b0⟩ := b.one
    obtain ⟨a, xs, rfl, ha, ta⟩ := b0.list
    refine ⟨fun xs H Q => ∃ p ys, xs = [.ref p] ∧ (SqL c.K H p ys ∨ SqT c.K H p ys) ∧ ∀ l, H l = none → Q (.ref l) (upd H l (.lst ys)), fun i => hK i ▸ call_list_of, a, xs, rfl, .inl (sq_of ha), fun l hl => ?_⟩
    obtain ⟨st, sr', ow⟩ := new_lst sr hl ta
    exact q _ _ _ _ st sr' ow
  · cases h
    obtain ⟨v, rfl, b0⟩ := b.one
    obtain ⟨a, xs, rfl, ha, ta⟩ := b0.tuple
    refine ⟨fun xs H Q => ∃ p ys, xs = [.ref p] ∧ (SqL c.K H p ys ∨ SqT c.K H p ys) ∧ ∀ l, H l = none → Q (.ref l) (upd H l (.lst ys)), fun i => hK i ▸ call_list_of, a, xs, rfl, .inr (Evl.st_of ha), fun l hl => ?_⟩
    obtain ⟨st, sr', ow⟩ := new_lst sr hl ta
    exact q _ _ _ _ st sr' ow
  · cases h
def kTuple : List PyData → Option PyData
  | [.list xs] => some (.tuple xs)
  | [.tuple xs] => some (.tuple xs)
  | _ => none
theorem ad_tuple (hK : ∀ i, (X i).K = c.K) : AdC c X (RSh c) (.type "tuple") kTuple := by
  intro O Y σ env H vs ds d Q sr b h q
  have cr : ∀ i, CallR (X i) (.type "tuple") (fun xs H Q => ∃ p ys, xs = [.ref p] ∧ ((SqL c.K H p ys ∧ ∀ l, H l = none → Q (.ref l) (upd H l (.tup ys))) ∨ (SqT c.K H p ys ∧ Q (.ref p) H))) := fun i => hK i ▸ call_tuple_of
  unfold kTuple at h
  split at h
  · cases h
    obtain ⟨v, rfl, b0⟩ := b.one
    obtain ⟨a, xs, rfl, ha, ta⟩ := b0.list
    refine ⟨_, cr, a, xs, rfl, .inl ⟨sq_of ha, fun l hl => ?_⟩⟩
    obtain ⟨st, sr', sh⟩ := alloc_tup sr hl ta
    exact q _ _ _ _ st sr' sh
  · cases h
    obtain ⟨v, rfl, b0⟩ := b.one
    obtain ⟨a, xs, rfl, ha, ta⟩ := b0.tuple
    exact ⟨_, cr, a, xs, rfl, .inr ⟨Evl.st_of ha, q _ _ _ _ .refl sr (.tup ha ta)⟩⟩
  · cases h
/-- int(..) -/
def kInt : List PyData → Option PyData
  | [.int i] => some (.int i)
  | [.bool b] => some (.int (if b then 1 else 0))
  | _ => none
theorem ad_int : AdC c X (RSh c) (.type "int") kInt := by
  intro O Y σ env H vs ds d Q sr b h q
  unfold kInt at h
  split at h
  · cases h
    obtain ⟨v, rfl, b0⟩ := b.one
    cases b0.int
    exact ⟨_, fun _ => call_int1, .inl ⟨_, rfl, q _ _ _ _ .refl sr (.int _)⟩⟩
  · cases h
    obtain ⟨v, rfl, b0⟩ := b.one
    cases b0.bl
    exact ⟨_, fun _ => call_int1, .inr ⟨_, rfl, q _ _ _ _ .refl sr (.int _)⟩⟩
  · cases h
/-- min, max of two numbers -/
def kMin : List PyData → Option PyData
  | [.int i, .int j] => some (.int (if j < i then j else i))
  | _ => none
def kMax : List PyData → Option PyData
  | [.int i, .int j] => some (.int (if j > i then j else i))
  | _ => none
theorem ad_min (hc : ∀ i, (X i).calm = true) : AdC c X (RSh c) (.builtin "min") kMin := by
  intro O Y σ env H vs ds d Q sr b h q
  unfold kMin at h
  split at h
  · cases h
    obtain ⟨v, w, rfl, b1, b2⟩ := b.two
    cases b1.int
    cases b2.int
    exact ⟨_, fun i => call_min2 (hc i), _, _, rfl, q _ _ _ _ .refl sr (.int _)⟩
  · cases h
theorem ad_max (hc : ∀ i, (X i).calm = true) : AdC c X (RSh c) (.builtin "max") kMax := by
  intro O Y σ env H vs ds d Q sr b h q
  unfold kMax at h
  split at h
  · cases h
    obtain ⟨v, w, rfl, b1, b2⟩ := b.two
    cases b1.int
    cases b2.int
    exact ⟨_, fun i => call_max2 (hc i), _, _, rfl, q _ _ _ _ .refl sr (.int _)⟩
  · cases h
end
end Dl
set_option Elab.async false
set_option linter.all false
set_option maxRecDepth 100000
set_option maxHeartbeats 4000000
namespace Dl
open PySem PySem.Spec PyProof.Rows L2 Evl Gx GxR RZ
/-! in, not in -/
def rInT (K : PySem.W.Frag) : R2 := fun x y H Q => ∃ d ds, Dp K H x d ∧ Dp K H y (.tuple ds) ∧ SeqAt.shaped d = true ∧ SeqAt.shaped (.tuple ds) = true ∧ Q (.bl (ds.any fun z => PyData.eqv z d)) H
theorem op_inT {X : Cx} (hu : X.A.units + 65 < cLine) : OpR X (compareOp .In) (rInT X.K) := by
  intro pins s σ H x y v u Q I rx ry h
  obtain ⟨d, ds, hd, he, sd, se, q⟩ := h
  obtain ⟨as, r1⟩ := Dp.reads I d x v hd rx
  obtain ⟨bs, r2⟩ := Dp.reads I (.tuple ds) y u he ry
  exact SeqAt.in_tuple_reads r2 r1 (SeqAt.canLay_of_shaped se) (SeqAt.canLay_of_shaped sd) (room_in_shaped sd hu) ⟨.bl _, H, I, rfl, q⟩
def rNotInT (K : PySem.W.Frag) : R2 := fun x y H Q => ∃ d ds, Dp K H x d ∧ Dp K H y (.tuple ds) ∧ SeqAt.shaped d = true ∧ SeqAt.shaped (.tuple ds) = true ∧ Q (.bl (!ds.any fun z => PyData.eqv z d)) H
theorem op_notInT {X : Cx} (hu : X.A.units + 65 < cLine) : OpR X (compareOp .NotIn) (rNotInT X.K) := by
  intro pins s σ H x y v u Q I rx ry h
  obtain ⟨d, ds, hd, he, sd, se, q⟩ := h
  obtain ⟨as, r1⟩ := Dp.reads I d x v hd rx
  obtain ⟨bs, r2⟩ := Dp.reads I (.tuple ds) y u he ry
  exact SeqAt.notIn_tuple_reads r2 r1 (SeqAt.canLay_of_shaped se) (SeqAt.canLay_of_shaped sd) (room_in_shaped sd hu) ⟨.bl _, H, I, rfl, q⟩
def inStr (s z : Str) : Bool := match s.cps.toList with
  | [q] => decide (q ∈ z.cps.toList)
  | _ => !(Builtin.Str.occurrences z s 0 z.length 1).isEmpty
def inB (x y : PyData) : Option Bool := match y with
  | .list ds => if (scalD x && ds.all scalD) || (SeqAt.shaped x && SeqAt.shaped (.list ds)) then some (ds.any fun z => PyData.eqv z x) else none
  | .tuple ds => if (scalD x && ds.all scalD) || (SeqAt.shaped x && SeqAt.shaped (.tuple ds)) then some (ds.any fun z => PyData.eqv z x) else none
  | .str z => match x with
    | .str s => some (inStr s z)
    | _ => none
  | _ => none
def dIn (x y : PyData) : Option PyData := (inB x y).map .bool
def dNotIn (x y : PyData) : Option PyData := (inB x y).map fun b => .bool (!b)
section
variable {c : Cs} {O O' O1 : List Addr} {Y Y' Y1 : Addr → Prop} {H H' H1 : Hp} {σ : L2.St} {env : DEnv} {W : WX} {ι : Type} {X : ι → Cx} {e : Expr} {es : List Expr} {p pos : Pos}
theorem Sh.flat {v : V} {d : PyData} (h : Sh c.K Y H v d) (s : scalD d = true) : flatV v = true := by
  cases h <;> cases s <;> rfl
theorem Sh.eqV {v w : V} {d e : PyData} (h : Sh c.K Y H v d) (g : Sh c.K Y H w e) (s : scalD d = true) (t : scalD e = true) : eqV v w = PyData.eqv d e := by
  cases h <;> cases s <;> cases g <;> cases t <;> (simp only [L2.eqV, PyData.eqv])
theorem ShA.flat : ∀ {vs : List V} {ds : List PyData}, ShA c.K Y H vs ds → ds.all scalD = true → vs.all flatV = true
  | _, _, .nil, _ => rfl
  | _, _, .cons a b, h => by
    rw [List.all_cons, Bool.and_eq_true] at h
    rw [List.all_cons, Bool.and_eq_true]
    exact ⟨a.flat h.1, ShA.flat b h.2⟩
theorem ShA.inV {v : V} {d : PyData} (g : Sh c.K Y H v d) (t : scalD d = true) : ∀ {vs : List V} {ds : List PyData}, ShA c.K Y H vs ds → ds.all scalD = true → inV v vs = ds.any fun z => PyData.eqv z d
  | _, _, .nil, _ => rfl
  | _, _, .cons a b, h => by
    rw [List.all_cons, Bool.and_eq_true] at h
    have := ShA.inV g t b h.2
    unfold L2.inV at this ⊢
    rw [List.any_cons, List.any_cons, this, a.eqV g h.1 t]
theorem op_in_tail (hK : ∀ i, (X i).K = c.K) (hu : ∀ i, (X i).A.units + 65 < cLine) {v1 v2 : V} {d1 d2 : PyData} {b : Bool} {Q : VK} (b1 : Bo c.K Y H v1 d1) (b2 : Bo c.K Y H v2 d2) (h : inB d1 d2 = some b) (q : Q (.bl b) H) : ROp X (compareOp .In) v1 v2 H Q := by
  unfold inB at h
  split at h
  · split at h
    · rename_i ds hm
      cases h
      obtain ⟨a, xs, rfl, ha, ta⟩ := b2.list
      rw [Bool.or_eq_true, Bool.and_eq_true, Bool.and_eq_true] at hm
      rcases hm with ⟨s1, s2⟩ | ⟨s1, s2⟩
      · have g := b1.sh s1
        refine ⟨_, fun i => k_op (r := fun K => rIn K false) (hK i) op_in_seq, a, xs, rfl, .inl (sq_of ha), g.flat s1, ta.flat s2, ?_⟩
        show Q (.bl (if false = true then _ else _)) H
        rw [if_neg Bool.false_ne_true, ta.inV g s1 s2]
        exact q
      · exact ⟨_, fun i => k_op (hK i) (op_inD (hu i)), _, _, b1.dp (shaped_lay s1), b2.dp (shaped_lay s2), s1, s2, q⟩
    · cases h
  · split at h
    · rename_i ds hm
      cases h
      obtain ⟨a, xs, rfl, ha, ta⟩ := b2.tuple
      rw [Bool.or_eq_true, Bool.and_eq_true, Bool.and_eq_true] at hm
      rcases hm with ⟨s1, s2⟩ | ⟨s1, s2⟩
      · have g := b1.sh s1
        refine ⟨_, fun i => k_op (r := fun K => rIn K false) (hK i) op_in_seq, a, xs, rfl, .inr (Evl.st_of ha), g.flat s1, ta.flat s2, ?_⟩
        show Q (.bl (if false = true then _ else _)) H
        rw [if_neg Bool.false_ne_true, ta.inV g s1 s2]
        exact q
      · exact ⟨_, fun i => k_op (hK i) (op_inT (hu i)), _, _, b1.dp (shaped_lay s1), b2.dp (shaped_lay s2), s1, s2, q⟩
    · cases h
  · split at h
    · rename_i s
      cases h
      cases b1.str
      cases b2.str
      unfold inStr at q
      split at q
      · rename_i w hw
        have : s = ⟨#[w]⟩ := by
          cases s
          congr
          exact Array.toList_inj.mp hw
        subst this
        exact ⟨_, fun _ => op_in_sign, w, _, rfl, rfl, q⟩
      · exact ⟨_, fun _ => op_in_str, _, _, rfl, rfl, q⟩
    · cases h
  · cases h
theorem op_nin_tail (hK : ∀ i, (X i).K = c.K) (hu : ∀ i, (X i).A.units + 65 < cLine) {v1 v2 : V} {d1 d2 : PyData} {b : Bool} {Q : VK} (b1 : Bo c.K Y H v1 d1) (b2 : Bo c.K Y H v2 d2) (h : inB d1 d2 = some b) (q : Q (.bl (!b)) H) : ROp X (compareOp .NotIn) v1 v2 H Q := by
  unfold inB at h
  split at h
  · split at h
    · rename_i ds hm
      cases h
      obtain ⟨a, xs, rfl, ha, ta⟩ := b2.list
      rw [Bool.or_eq_true, Bool.and_eq_true, Bool.and_eq_true] at hm
      rcases hm with ⟨s1, s2⟩ | ⟨s1, s2⟩
      · have g := b1.sh s1
        refine ⟨_, fun i => k_op (r := fun K => rIn K true) (hK i) op_notIn_seq, a, xs, rfl, .inl (sq_of ha), g.flat s1, ta.flat s2, ?_⟩
        show Q (.bl (if true = true then _ else _)) H
        rw [if_pos rfl, ta.inV g s1 s2]
        exact q
      · exact ⟨_, fun i => k_op (hK i) (op_notInD (hu i)), _, _, b1.dp (shaped_lay s1), b2.dp (shaped_lay s2), s1, s2, q⟩
    · cases h
  · split at h
    · rename_i ds hm
      cases h
      obtain ⟨a, xs, rfl, ha, ta⟩ := b2.tuple
      rw [Bool.or_eq_true, Bool.and_eq_true, Bool.and_eq_true] at hm
      rcases hm with ⟨s1, s2⟩ | ⟨s1, s2⟩
      · have g := b1.sh s1
        refine ⟨_, fun i => k_op (r := fun K => rIn K true) (hK i) op_notIn_seq, a, xs, rfl, .inr (Evl.st_of ha), g.flat s1, ta.flat s2, ?_⟩
        show Q (.bl (if true = true then _ else _)) H
        rw [if_pos rfl, ta.inV g s1 s2]
        exact q
      · exact ⟨_, fun i => k_op (hK i) (op_notInT (hu i)), _, _, b1.dp (shaped_lay s1), b2.dp (shaped_lay s2), s1, s2, q⟩
    · cases h
  · split at h
    · rename_i s
      cases h
      cases b1.str
      cases b2.str
      unfold inStr at q
      split at q
      · rename_i w hw
        have : s = ⟨#[w]⟩ := by
          cases s
          congr
          exact Array.toList_inj.mp hw
        subst this
        exact ⟨_, fun _ => op_notIn_sign, w, _, rfl, rfl, q⟩
      · exact ⟨_, fun _ => op_notin_str, _, _, rfl, rfl, q⟩
    · cases h
  · cases h
theorem ad_in (hK : ∀ i, (X i).K = c.K) (hu : ∀ i, (X i).A.units + 65 < cLine) : Ad2 c X (compareOp .In) dIn := by
  intro O Y σ env H v1 v2 d1 d2 d Q sr b1 b2 h q
  obtain ⟨b, hb, rfl⟩ := Option.map_eq_some_iff.mp h
  exact op_in_tail hK hu b1 b2 hb (q _ _ .refl sr (.bl _))
theorem ad_notIn (hK : ∀ i, (X i).K = c.K) (hu : ∀ i, (X i).A.units + 65 < cLine) : Ad2 c X (compareOp .NotIn) dNotIn := by
  intro O Y σ env H v1 v2 d1 d2 d Q sr b1 b2 h q
  obtain ⟨b, hb, rfl⟩ := Option.map_eq_some_iff.mp h
  exact op_nin_tail hK hu b1 b2 hb (q _ _ .refl sr (.bl _))
/-! a < b < c -/
def fChain (o1 o2 : PyData → PyData → Option PyData) (Fa Fb Fc : DEnv → R BD) : DEnv → R PyData := fun env => (Fa env).bind fun a e1 => (Fb e1).bind fun b e2 => match (a.get e2).bind fun x => (b.get e2).bind fun y => o1 x y with
  | some (.bool true) => (Fc e2).bind fun w e3 => R.of ((b.get e3).bind fun y => (w.get e3).bind fun z => o2 y z) e3
  | some (.bool false) => .ok (.bool false) e2
  | _ => .bad
theorem chain_core {a b w : Expr} {o o' : CmpOp} {o1 o2 : PyData → PyData → Option PyData} {Fa Fb Fc : DEnv → R BD} {Q : VK} (ad1 : Ad2 c X (compareOp o) o1) (ad2 : Ad2 c X (compareOp o') o2) (ha : SB c W X a Fa) (hb : SB c W X b Fb) (hc : SB c W X w Fc)
    (sr : SR c O Y σ env H) (pp : Post c (RSh c) O Y H σ Q W (fChain o1 o2 Fa Fb Fc env)) : tChain (ROp X (compareOp o)) (ROp X (compareOp o')) (RD X a) (RD X b) (RD X w) σ H Q := by
  refine ha.next sr pp fun b1 e1 x H1 O1 Y1 st1 sr1 r1 p1 => ?_
  refine hb.next sr1 p1 fun b2 e2 y H2 O2 Y2 st2 sr2 r2 p2 => ?_
  have r1' := RBo.mv (O' := O2) (env' := e2) r1 (sr1.mv st2)
  cases h : (b1.get e2).bind fun x => (b2.get e2).bind fun y => o1 x y with
  | none =>
    rw [h] at p2
    exact p2.elim
  | some d =>
    rw [h] at p2
    obtain ⟨d1, h1, h'⟩ := Option.bind_eq_some_iff.mp h
    obtain ⟨d2, h2, h3⟩ := Option.bind_eq_some_iff.mp h'
    refine ad1 O2 Y2 σ e2 H2 x y d1 d2 d _ sr2 (r1'.bo sr2 h1) (r2.bo sr2 h2) h3 fun v H3 st3 sr3 sh => ?_
    have p3 := Post.shift p2 sr2.yd st3
    cases d with
    | bool k =>
      cases sh
      cases k with
      | false => exact ⟨false, rfl, by rw [if_neg Bool.false_ne_true]; exact p3 _ H3 O2 Y2 .refl sr3 (.bl _)⟩
      | true =>
        refine ⟨true, rfl, ?_⟩
        rw [if_pos rfl]
        refine hc.next sr3 p3 fun b3 e4 z H4 O4 Y4 st4 sr4 r4 p4 => ?_
        obtain ⟨d5, h5, p5⟩ := of_post p4
        obtain ⟨y1, g1, h5⟩ := Option.bind_eq_some_iff.mp h5
        obtain ⟨z1, g2, h5⟩ := Option.bind_eq_some_iff.mp h5
        have r2' := RBo.mv (O' := O4) (env' := e4) (RBo.mv (O' := O2) (env' := e2) r2 (sr2.mv st3)) (sr3.mv st4)
        exact ad2 O4 Y4 σ e4 H4 y z y1 z1 d5 Q sr4 (r2'.bo sr4 g1) (r4.bo sr4 g2) h5 fun v H5 st5 sr5 sh => p5 v H5 O4 Y4 st5 sr5 sh
    | _ => exact p3.elim
theorem se_chain {a b w : Expr} {o o' : CmpOp} {o1 o2 : PyData → PyData → Option PyData} {Fa Fb Fc : DEnv → R BD} (ad1 : Ad2 c X (compareOp o) o1) (ad2 : Ad2 c X (compareOp o') o2) (ha : SB c W X a Fa) (hb : SB c W X b Fb) (hc : SB c W X w Fc)
    (hm : lastMarks [o, o'] [b, w] = false := by with_unfolding_all rfl) : SE c W X (.Compare a [o, o'] [b, w] pos) (fChain o1 o2 Fa Fb Fc) := fun O Y σ env H Q sr pp =>
  ⟨_, fun i => pe_chain (ROp.op i) (ROp.op i) (RD.pe i) (RD.pe i) (RD.pe i) hm, chain_core ad1 ad2 ha hb hc sr pp⟩
theorem st_chain {a b w : Expr} {o o' : CmpOp} {o1 o2 : PyData → PyData → Option PyData} {Fa Fb Fc : DEnv → R BD} (ad1 : Ad2 c X (compareOp o) o1) (ad2 : Ad2 c X (compareOp o') o2) (ha : SB c W X a Fa) (hb : SB c W X b Fb) (hc : SB c W X w Fc)
    (hm : lastMarks [o, o'] [b, w] = false := by with_unfolding_all rfl) : ST c W X (.Compare a [o, o'] [b, w] pos) (fT (fChain o1 o2 Fa Fb Fc)) := fun O Y σ env H Q sr pp => by
  refine ⟨_, fun i => pt_chain (ROp.op i) (ROp.op i) (RD.pe i) (RD.pe i) (RD.pe i) hm, ?_⟩
  refine chain_core (Q := fun x H' => ∃ k, x = .bl k ∧ Q k H') ad1 ad2 ha hb hc sr ?_
  unfold fT at pp
  cases hF : fChain o1 o2 Fa Fb Fc env with
  | bad => rw [hF] at pp; exact pp.elim
  | exc x e => rw [hF] at pp; exact pp
  | ok d e =>
    rw [hF] at pp
    obtain ⟨k, rfl, pp⟩ := bool_post pp
    intro v H' O' Y' st sr' sh
    cases sh
    exact ⟨k, rfl, pp k H' O' Y' st sr' rfl⟩
/-! isinstance(x, T) -/
def dTy : PyData → String
  | .none => "NoneType"
  | .bool _ => "bool"
  | .int _ => "int"
  | .str _ => "str"
  | .list _ => "list"
  | .tuple _ => "tuple"
  | .dict _ => "dict"
def isiB (T : String) (d : PyData) : Option PyData := (kitB (dTy d) T).map .bool
def fIsi (T : String) (F : DEnv → R BD) : DEnv → R PyData := fun env => (F env).bind fun b e => R.of ((b.get e).bind (isiB T)) e
theorem Bo.ty {v : V} {d : PyData} (h : Bo c.K Y H v d) : TyX c.K H v (.type (dTy d)) := by
  rcases h with h | ⟨a, rfl, h⟩
  · cases h with
    | non => exact .base .non
    | bl b => exact .base (.bl b)
    | int i => exact .base (.int i)
    | str x => exact .base (.str x)
    | lst _ h _ => exact .base (.lst h)
    | tup h _ => exact .base (.tup h)
    | dK _ h _ => exact .base (.dK h)
    | dT _ h _ => exact .base (.dT h)
  · cases h with
    | lst h _ => exact .base (.lst h)
    | dK h _ => exact .base (.dK h)
    | dT h _ => exact .base (.dT h)
theorem se_isi {T : String} {x e2 : Expr} {F : DEnv → R BD} (hK : ∀ i, (X i).K = c.K) (hg : ∀ j, Gl (X j) "isinstance") (hm : ∀ j, (X j).mg "isinstance" = none) (h : SB c W X x F) (hT : ∀ j, PE (X j) e2 (tC (.ty T)))
    (he : ∀ j, starEach [x, e2] (X j).env = (false, eval x (X j).env) :: starEach [e2] (X j).env := by intro _; rfl) (hs2 : ∀ j, starEach [e2] (X j).env = (false, eval e2 (X j).env) :: starEach [] (X j).env := by intro _; rfl) (hpl : ∀ j, (backTo pos (starEach [e2] (X j).env)).any (·.1) = false := by intro _; rfl) :
    SE c W X (.Call (.Name "isinstance" p) [x, e2] [] pos) (fIsi T F) := fun O Y σ env H Q sr pp =>
  ⟨_, fun j => pe_callB (k_cr (r := rIsi) (hK j) call_isi) (hg j) (hm j) (show bootBuiltins "isinstance" = some (.builtin "isinstance") by decide +kernel) (pa_cons (RD.pe j) (pa_cons (hT j) pa_nil (hs2 j)) (he j)) (by decide) (by decide) (he j) (hpl j), h.next sr pp fun b e1 v H1 O1 Y1 st sr1 r p1 => by
    obtain ⟨d, hd, p2⟩ := of_post p1
    obtain ⟨z, hz, hd⟩ := Option.bind_eq_some_iff.mp hd
    obtain ⟨k, hk, rfl⟩ := Option.map_eq_some_iff.mp hd
    exact ⟨v, .ty T, _, .type T, k, rfl, .ty T, (r.bo sr1 hz).ty, kit_ty hk, p2 _ H1 O1 Y1 .refl sr1 (.bl _)⟩⟩
/-! what changes one's own -/
theorem mut_at {i : Nat} {s : Slot} {a : Addr} {o' : HO} {d' : PyData} (sr : SR c O Y σ env H) (hs : slotAt env i = some s) (so : s.isO = true) (hv : σ[i]? = some (some (.ref a))) (ho : isOwn o' = true) (t : Top c.K Y (upd H a o') a d') :
    ∃ env', putIo env i d' = some env' ∧ Step O Y H O Y (upd H a o') ∧ SR c O Y σ env' (upd H a o') := by
  have hs' := slotAt_some hs
  have oi : OwnAt env i := ⟨s, hs', so⟩
  obtain ⟨v, hv2, q⟩ := sr.sl i s hs'
  rw [hv] at hv2
  cases hv2
  have aO : a ∈ O := by
    cases s with
    | shr d => cases so
    | bor k d => cases so
    | own d =>
      obtain ⟨b, e, h, _⟩ := q
      cases e
      exact h
    | io k d =>
      obtain ⟨b, e, h, _⟩ := q
      cases e
      exact h
  have m : Mv Y Y H (upd H a o') := ⟨fun b u hu => by
    by_cases z : b = a
    · subst z
      obtain ⟨w, hw, hwo⟩ := sr.own b aO
      rw [hu] at hw
      cases hw
      exact .inl ⟨sr.sub b aO, hwo⟩
    · exact .inr (.inr (by rw [upd_ne z]; exact hu)), fun _ _ z => z⟩
  have st : Step O Y H O Y (upd H a o') := ⟨fun b u hu => by
    by_cases z : b = a
    · subst z
      obtain ⟨w, hw, hwo⟩ := sr.own b aO
      rw [hu] at hw
      cases hw
      exact .inl ⟨aO, hwo⟩
    · exact .inr (.inr (by rw [upd_ne z]; exact hu)), fun b hb z => by
      by_cases q : b = a
      · rw [q, upd_same] at z
        cases z
      · rw [upd_ne q] at z
        exact hb z, fun _ h => .inl h, fun _ _ h => h, fun _ h => .inr h, fun P ⟨ps, hp, tp⟩ => ⟨ps, by
      rw [upd_ne fun z => by
        subst z
        obtain ⟨w, hw, hwo⟩ := sr.own P aO
        rw [hp] at hw
        cases hw
        cases hwo]
      exact hp, tp⟩⟩
  have hl := (List.getElem?_eq_some_iff.mp hs').1
  have gen : ∀ s0 : Slot, s0.isO = true → SV c O Y (upd H a o') (.ref a) s0 → SR c O Y σ (env.set i (some s0)) (upd H a o') := fun s0 z0 sv => by
    have ow : ∀ {j : Nat}, OwnAt (env.set i (some s0)) j → OwnAt env j := fun {j} ⟨u, h1, h2⟩ => by
      by_cases e : i = j
      · subst e
        exact oi
      · rw [List.getElem?_set_ne e] at h1
        exact ⟨u, h1, h2⟩
    refine ⟨sr.sub, fun b hb => ?_, fun b z => st.dom b (sr.yd b z), by rw [List.length_set]; exact sr.len, fun j u h => ?_, fun j k b n h1 h2 e1 e2 => sr.ap j k b n (ow h1) (ow h2) e1 e2, fun P hP => st.tab P (sr.tab P hP), fun b z => st.dom b (sr.a0 b z)⟩
    · by_cases z : b = a
      · rw [z, upd_same]
        exact ⟨o', rfl, ho⟩
      · rw [upd_ne z]
        exact sr.own b hb
    · by_cases e : i = j
      · subst e
        rw [List.getElem?_set_self hl] at h
        cases h
        exact ⟨.ref a, hv, sv⟩
      · rw [List.getElem?_set_ne e] at h
        obtain ⟨v, hv2, q2⟩ := sr.sl j u h
        refine ⟨v, hv2, ?_⟩
        have na : ∀ {b : Addr}, u.isO = true → v = .ref b → b ≠ a := fun {b} hu hb z => by
          subst hb
          subst z
          exact sr.ap i j b e oi ⟨u, h, hu⟩ hv hv2
        cases u with
        | shr d => exact Sh.mv m q2
        | own d =>
          obtain ⟨b, e1, e2, t2⟩ := q2
          exact ⟨b, e1, e2, t2.mv m fun w hw _ => by rw [upd_ne (na rfl e1)]; exact hw⟩
        | bor k d =>
          obtain ⟨b, e1, e2, e3, t2, e4⟩ := q2
          exact ⟨b, e1, e2, e3, t2.mv m fun w hw _ => by rw [upd_ne fun z => e2 (by rw [z]; exact aO)]; exact hw, e4⟩
        | io k d =>
          obtain ⟨b, e1, e2, t2, e4⟩ := q2
          exact ⟨b, e1, e2, t2.mv m fun w hw _ => by rw [upd_ne (na rfl e1)]; exact hw, e4⟩
  unfold putIo
  rw [hs]
  cases s with
  | shr d => cases so
  | bor k d => cases so
  | own d => exact ⟨_, rfl, st, gen _ rfl ⟨a, rfl, aO, t⟩⟩
  | io k d =>
    obtain ⟨b, e1, _, _, e4⟩ := q
    cases e1
    exact ⟨_, rfl, st, gen _ rfl ⟨a, rfl, aO, t, e4⟩⟩
/-- one's own thing at a slot -/
def ownD (env : DEnv) (i : Nat) : Option PyData := match slotAt env i with
  | some (.own d) => some d
  | some (.io _ d) => some d
  | _ => none
theorem own_at {i : Nat} {d : PyData} (sr : SR c O Y σ env H) (h : ownD env i = some d) : ∃ s a, slotAt env i = some s ∧ s.isO = true ∧ σ[i]? = some (some (.ref a)) ∧ Top c.K Y H a d := by
  unfold ownD at h
  cases hs : slotAt env i with
  | none => rw [hs] at h; cases h
  | some s =>
    rw [hs] at h
    obtain ⟨v, hv, q⟩ := sr.sl i s (slotAt_some hs)
    cases s with
    | shr d => cases h
    | bor k d => cases h
    | own d =>
      cases h
      obtain ⟨a, rfl, _, t⟩ := q
      exact ⟨_, a, rfl, rfl, hv, t⟩
    | io k d =>
      cases h
      obtain ⟨a, rfl, _, t, _⟩ := q
      exact ⟨_, a, rfl, rfl, hv, t⟩
def RMt (X : ι → Cx) (id : String) : V → List V → Hp → VK → Prop := fun x xs H Q => ∃ r, (∀ i, MtR (X i) id r) ∧ r x xs H Q
theorem RMt.mt {id : String} (i : ι) : MtR (X i) id (RMt X id) := fun pins s σ H x xs v us Q I rx rxs ⟨r, h, q⟩ => h i pins s σ H x xs v us Q I rx rxs q
/-- what a method of one's own thing does: the thing, the arguments; what is told, the thing behind it -/
def AdM (c : Cs) (X : ι → Cx) (id : String) (k : PyData → List PyData → Option (PyData × PyData)) : Prop :=
  ∀ (Y : Addr → Prop) (H : Hp) (a : Addr) (vs : List V) (ds : List PyData) (d r d' : PyData) (Q : VK), Top c.K Y H a d → ShA c.K Y H vs ds → (∀ v ∈ vs, v ≠ .ref a) → Y a → k d ds = some (r, d') →
    (∀ v o', isOwn o' = true → (Mv Y Y H (upd H a o')) → Top c.K Y (upd H a o') a d' → Sh c.K Y (upd H a o') v r → Q v (upd H a o')) → RMt X id (.ref a) vs H Q
def fMut (T : String) (i : Nat) (k : PyData → List PyData → Option (PyData × PyData)) (G : DEnv → R (List PyData)) : DEnv → R PyData := fun env => match ownD env i with
  | none => .bad
  | some d0 => if dTy d0 = T then (G env).bind fun ds e => match ownD e i with
    | none => .bad
    | some d => match k d ds with
      | none => .bad
      | some (r, d') => match putIo e i d' with
        | none => .bad
        | some e2 => .ok r e2
    else .bad
theorem ShA.boA : ∀ {vs : List V} {ds : List PyData}, ShA c.K Y H vs ds → BoA c Y H vs ds
  | _, _, .nil => .nil
  | _, _, .cons a b => .cons (.inl a) (ShA.boA b)
theorem ShA.apart {a : Addr} {o : HO} (hY : Y a) (ha : H a = some o) (ho : isOwn o = true) : ∀ {vs : List V} {ds : List PyData}, ShA c.K Y H vs ds → ∀ v ∈ vs, v ≠ .ref a
  | _, _, .nil => fun v h => by cases h
  | _, _, .cons x r => fun v h => by
    rcases List.mem_cons.mp h with z | z
    · subst z
      intro e
      subst e
      cases x with
      | lst n _ _ => exact n hY
      | tup h _ => rw [ha] at h; cases h; cases ho
      | dK n _ _ => exact n hY
      | dT n _ _ => exact n hY
    · exact ShA.apart hY ha ho r v z
theorem mut_core {i : Nat} {id : String} {k : PyData → List PyData → Option (PyData × PyData)} {ds : List PyData} {vs : List V} {d r d' : PyData} {e2 : DEnv} {a : Addr} {Q : VK} {Y1 : Addr → Prop} (ad : AdM c X id k) (sr : SR c O Y σ env H) (hd : ownD env i = some d) (hv : σ[i]? = some (some (.ref a))) (rv : ShA c.K Y H vs ds) (hk : k d ds = some (r, d')) (he : putIo env i d' = some e2)
    (q : ∀ v H', Step O Y H O Y H' → SR c O Y σ e2 H' → Sh c.K Y H' v r → Q v H') : RMt X id (.ref a) vs H Q := by
  obtain ⟨s, b, hs, so, hb, t⟩ := own_at sr hd
  rw [hv] at hb
  cases hb
  obtain ⟨o, ho, hoo⟩ := t.some
  have yA : Y a := by
    obtain ⟨v, hv2, z⟩ := sr.sl i s (slotAt_some hs)
    rw [hv] at hv2
    cases hv2
    cases s with
    | shr d => cases so
    | bor k d => cases so
    | own d =>
      obtain ⟨b, e, h, _⟩ := z
      cases e
      exact sr.sub _ h
    | io k d =>
      obtain ⟨b, e, h, _⟩ := z
      cases e
      exact sr.sub _ h
  refine ad Y H a vs ds d r d' Q t rv (rv.apart yA ho hoo) yA hk fun v o' ho' m t' sh => ?_
  obtain ⟨env', h1, h2, h3⟩ := mut_at sr hs so hv ho' t'
  rw [he] at h1
  cases h1
  exact q v _ h2 h3 sh
theorem tyV_own {T : String} {a : Addr} {d : PyData} (hT : T = "list" ∨ T = "dict") (t : Top c.K Y H a d) (e : dTy d = T) : tyV c.K T (.ref a) H := by
  cases t with
  | lst h _ => exact .inl ⟨e.symm, _, sq_of h⟩
  | dK h _ => exact .inr (.inr (.inl ⟨e.symm, .inl ⟨_, h⟩⟩))
  | dT h _ => exact .inr (.inr (.inl ⟨e.symm, .inr ⟨_, h⟩⟩))
theorem se_mut {T id : String} {name x : Str} {i : Nat} {npos apos cpos : Pos} {k : PyData → List PyData → Option (PyData × PyData)} {G : DEnv → R (List PyData)} (hT : T = "list" ∨ T = "dict") (hK : ∀ j, (X j).K = c.K) (pa : PlainAttrs T) (slot : PySem.Slot T name id) (hty : typeOf (.builtin id) = pure (.type "method_descriptor")) (ad : AdM c X id k) (pv : ∀ j, PE (X j) (.Name x npos) (tVar i)) (g : SAs c W X (e :: es) G)
    (hbase : ∀ j, attributeBase (.Name x npos) name (X j).env (eval (.Name x npos) (X j).env) = eval (.Name x npos) (X j).env := by intro _; rfl)
    (hfew : ∀ j, ((backTo cpos (starEach (e :: es) (X j).env)).all (fun x => !x.1) && (backToKw cpos (keywordEach [] (X j).env)).all (fun x => x.1.isSome)
      && decide ((e :: es).length + ([] : List Keyword).length + (if ([] : List Keyword).isEmpty then 0 else 1) < 30)) = true := by intro _; rfl)
    (hline : (apos.endLine == cpos.line) = true := by rfl) (hs : ∀ j, starEach (e :: es) (X j).env = (false, eval e (X j).env) :: starEach es (X j).env := by intro _; rfl) (hplain : ∀ j, (backTo cpos (starEach es (X j).env)).any (·.1) = false := by intro _; rfl) :
    SE c W X (.Call (.Attribute (.Name x npos) name apos) (e :: es) [] cpos) (fMut T i k G) := fun O Y σ env H Q sr pp => by
  refine ⟨tBM c.K T (RMt X id) (tVar i) (RA X (e :: es)), fun j => hK j ▸ pe_bm pa slot hty (RMt.mt j) (pv j) (RA.pa j) (hbase j) (hfew j) hline (hs j) (hplain j), ?_⟩
  unfold fMut at pp
  cases h0 : ownD env i with
  | none => rw [h0] at pp; exact pp.elim
  | some d0 =>
    rw [h0] at pp
    simp only at pp
    split at pp
    · rename_i hty0
      obtain ⟨s, a, hs0, so, hv, t⟩ := own_at sr h0
      refine ⟨_, hv, tyV_own hT t hty0, g.next sr pp fun ds e1 vs H1 O1 Y1 st1 sr1 r1 p1 => ?_⟩
      split at p1
      · exact p1.elim
      · rename_i d hd
        split at p1
        · exact p1.elim
        · rename_i r d' hk
          split at p1
          · exact p1.elim
          · rename_i e2 he
            exact mut_core (Y1 := Y1) ad sr1 hd hv r1 hk he fun v H' st sr' sh => p1 v H' O1 Y1 st sr' sh
    · exact pp.elim
def fMut0 (T : String) (i : Nat) (k : PyData → List PyData → Option (PyData × PyData)) : DEnv → R PyData := fun env => match ownD env i with
  | none => .bad
  | some d => if dTy d = T then (match k d [] with
      | none => .bad
      | some (r, d') => match putIo env i d' with
        | none => .bad
        | some e2 => .ok r e2) else .bad
theorem se_mut0 {T id : String} {name x : Str} {i : Nat} {npos apos cpos : Pos} {k : PyData → List PyData → Option (PyData × PyData)} (hT : T = "list" ∨ T = "dict") (hK : ∀ j, (X j).K = c.K) (pa : PlainAttrs T) (slot : PySem.Slot T name id) (hty : typeOf (.builtin id) = pure (.type "method_descriptor")) (ad : AdM c X id k) (pv : ∀ j, PE (X j) (.Name x npos) (tVar i))
    (hbase : ∀ j, attributeBase (.Name x npos) name (X j).env (eval (.Name x npos) (X j).env) = eval (.Name x npos) (X j).env := by intro _; rfl) (hline : (apos.endLine == cpos.line) = true := by rfl) :
    SE c W X (.Call (.Attribute (.Name x npos) name apos) [] [] cpos) (fMut0 T i k) := fun O Y σ env H Q sr pp => by
  refine ⟨tBM0 c.K T (RMt X id) (tVar i), fun j => hK j ▸ pe_bm0 pa slot hty (RMt.mt j) (pv j) (hbase j) hline, ?_⟩
  unfold fMut0 at pp
  cases h0 : ownD env i with
  | none => rw [h0] at pp; exact pp.elim
  | some d0 =>
    rw [h0] at pp
    simp only at pp
    split at pp
    · rename_i hty0
      obtain ⟨s, a, hs0, so, hv, t⟩ := own_at sr h0
      refine ⟨_, hv, tyV_own hT t hty0, ?_⟩
      split at pp
      · exact pp.elim
      · rename_i r d' hk
        split at pp
        · exact pp.elim
        · rename_i e2 he
          exact mut_core (Y1 := Y) ad sr h0 hv .nil hk he fun v H' st sr' sh => pp v H' O Y st sr' sh
    · exact pp.elim
/-! lists: append, extend, pop, clear, reverse -/
def kAppend : PyData → List PyData → Option (PyData × PyData)
  | .list ds, [x] => if ds.length < sizeLine then some (.none, .list (ds ++ [x])) else none
  | _, _ => none
theorem mv_upd {a : Addr} {o o' : HO} (hY : Y a) (h : H a = some o) (ho : isOwn o = true) : Mv Y Y H (upd H a o') := ⟨fun b u hu => by
  by_cases z : b = a
  · subst z
    rw [h] at hu
    cases hu
    exact .inl ⟨hY, ho⟩
  · exact .inr (.inr (by rw [upd_ne z]; exact hu)), fun _ _ z => z⟩
theorem am_append : AdM c X "list.append" kAppend := by
  intro Y H a vs ds d r d' Q t rv n hY hk q
  unfold kAppend at hk
  split at hk
  · split at hk
    · cases hk
      cases t with
      | lst h t =>
        cases rv with
        | cons x rv =>
          cases rv
          have m : ∀ o', Mv Y Y H (upd H a o') := fun o' => mv_upd hY h rfl
          exact ⟨_, fun _ => mt_append, a, _, _, rfl, rfl, h, by rw [t.len]; assumption, q _ _ rfl (m _) (.lst upd_same ((t.mv (m _)).snoc (Sh.mv (m _) x))) .non⟩
    · cases hk
  · cases hk
def kExtend : PyData → List PyData → Option (PyData × PyData)
  | .list ds, [.list es] => if ds.length + es.length ≤ sizeLine then some (.none, .list (ds ++ es)) else none
  | _, _ => none
theorem am_extend : AdM c X "list.extend" kExtend := by
  intro Y H a vs ds d r d' Q t rv n hY hk q
  unfold kExtend at hk
  split at hk
  · split at hk
    · cases hk
      cases t with
      | lst h t =>
        cases rv with
        | cons x rv =>
          cases rv
          cases x with
          | lst n2 h2 t2 =>
            have m : ∀ o', Mv Y Y H (upd H a o') := fun o' => mv_upd hY h rfl
            exact ⟨_, fun _ => mt_extend, a, _, _, _, rfl, rfl, h, h2, by rw [t.len, t2.len]; assumption, q _ _ rfl (m _) (.lst upd_same ((t.mv (m _)).app (t2.mv (m _)))) .non⟩
    · cases hk
  · cases hk
def kPop : PyData → List PyData → Option (PyData × PyData)
  | .list ds, [] => (ds[ds.length - 1]?).map fun x => (x, .list ds.dropLast)
  | _, _ => none
theorem ShA.dropLast {vs : List V} {ds : List PyData} (h : ShA c.K Y H vs ds) : ShA c.K Y H vs.dropLast ds.dropLast := by
  rw [List.dropLast_eq_take, List.dropLast_eq_take, h.len]
  exact h.take _
theorem am_pop : AdM c X "list.pop" kPop := by
  intro Y H a vs ds d r d' Q t rv n hY hk q
  unfold kPop at hk
  split at hk
  · obtain ⟨x, hx, e⟩ := Option.map_eq_some_iff.mp hk
    cases e
    cases t with
    | lst h t =>
      cases rv
      obtain ⟨v, hv, sv⟩ := t.get hx
      have m : ∀ o', Mv Y Y H (upd H a o') := fun o' => mv_upd hY h rfl
      exact ⟨_, fun _ => mt_pop, a, _, v, rfl, rfl, h, by rw [t.len]; exact hv, q v _ rfl (m _) (.lst upd_same (t.mv (m _)).dropLast) (Sh.mv (m _) sv)⟩
  · cases hk
def kClear : PyData → List PyData → Option (PyData × PyData)
  | .list _, [] => some (.none, .list [])
  | _, _ => none
theorem am_clear : AdM c X "list.clear" kClear := by
  intro Y H a vs ds d r d' Q t rv n hY hk q
  unfold kClear at hk
  split at hk
  · cases hk
    cases t with
    | lst h t =>
      cases rv
      have m : ∀ o', Mv Y Y H (upd H a o') := fun o' => mv_upd hY h rfl
      exact ⟨_, fun _ => mt_clear, a, _, rfl, rfl, h, q _ _ rfl (m _) (.lst upd_same .nil) .non⟩
  · cases hk
/-! xs[i] = e -/
def gStore (i : Nat) (I : DEnv → R BD) (F : DEnv → R PyData) : DEnv → Flow := fun env => (F env).toF fun d e1 => match ownD e1 i with
  | none => .bad
  | some _ => (I e1).toF fun b e2 => match b.get e2, ownD e2 i with
    | some (.int k), some (.list ds) => match ixN ds.length k with
      | some j => match putIo e2 i (.list (ds.set j d)) with
        | some e3 => .next e3
        | none => .bad
      | none => .bad
    | _, _ => .bad
theorem ss_store {i : Nat} {x : Str} {ie : Expr} {npos spos : Pos} {I : DEnv → R BD} {F : DEnv → R PyData} (pv : ∀ j, PE (X j) (.Name x npos) (tVar i)) (hi : SB c W X ie I) (h : SE c W X e F)
    (hs : ∀ k, swapsWithSole [.Subscript (.Name x npos) ie spos] e pos.line (X k).env = pure false := by intro _; rfl) (hw : ∀ k, swappedStores [.Subscript (.Name x npos) ie spos] e (X k).env = pure none := by intro _; rfl)
    (h1 : ∀ k, (assignEach [.Subscript (.Name x npos) ie spos] (X k).env).map (·.2) = [assign (.Subscript (.Name x npos) ie spos) (X k).env] := by intro _; rfl)
    (ha : ∀ k v, assign (.Subscript (.Name x npos) ie spos) (X k).env v = (do
      let ov ← holding [v] (eval (.Name x npos) (X k).env)
      let iv ← holding [v, ov] (eval ie (X k).env)
      standAt spos
      holding [v, ov, iv] (setItem ov iv v)
      release [v, ov, iv] []) := by intro _ _; rfl) : SS c W X (.Assign [.Subscript (.Name x npos) ie spos] e pos) (gStore i I F) := fun O Y σ env H D sr p => by
  refine ⟨_, fun k => ps_asg (RD.pe k) (pg_sub (pv k) (RD.pe k) set_list (ha k)) (hs k) (hw k) (h1 k), h.nextF sr p fun d e1 v H1 O1 Y1 st1 sr1 r1 p1 => ?_⟩
  cases h0 : ownD e1 i with
  | none => rw [h0] at p1; exact p1.elim
  | some d0 =>
    rw [h0] at p1
    obtain ⟨s, a, hs0, so, hv, t0⟩ := own_at sr1 h0
    refine ⟨_, hv, hi.nextF sr1 p1 fun b e2 y H2 O2 Y2 st2 sr2 r2 p2 => ?_⟩
    split at p2
    · rename_i k ds hb hd
      split at p2
      · rename_i j hj
        split at p2
        · rename_i e3 he
          have bo := r2.bo sr2 hb
          cases bo.int
          obtain ⟨s2, a2, hs2, so2, hv2, t2⟩ := own_at sr2 hd
          rw [hv] at hv2
          cases hv2
          have yA : Y2 a := by
            obtain ⟨v', hv', z⟩ := sr2.sl i s2 (slotAt_some hs2)
            rw [hv] at hv'
            cases hv'
            cases s2 with
            | shr d => cases so2
            | bor k d => cases so2
            | own d =>
              obtain ⟨b, e, h, _⟩ := z
              cases e
              exact sr2.sub _ h
            | io k d =>
              obtain ⟨b, e, h, _⟩ := z
              cases e
              exact sr2.sub _ h
          have r1' := Sh.mv (sr1.mv st2) r1
          cases t2 with
          | lst h2 t2 =>
            rename_i xs
            have m := mv_upd (o' := .lst (xs.set j v)) yA h2 rfl
            obtain ⟨env', g1, g2, g3⟩ := mut_at (o' := .lst (xs.set j v)) (d' := .list (ds.set j d)) sr2 hs2 so2 hv rfl (.lst upd_same ((t2.mv m).set j (Sh.mv m r1')))
            rw [he] at g1
            cases g1
            exact ⟨a, xs, k, j, rfl, rfl, h2, by rw [t2.len]; exact hj, p2 _ _ _ _ g2 g3⟩
        · exact p2.elim
      · exact p2.elim
    · exact p2.elim
/-! x += e -/
def gAug (i : Nat) (k : PyData → PyData → Option PyData) (F : DEnv → R PyData) : DEnv → Flow := fun env => match slotAt env i with
  | some (.shr d) => (F env).toF fun y e => match k d y with
    | some z => .next (e.set i (some (.shr z)))
    | none => .bad
  | _ => .bad
def RIp (X : ι → Cx) (o : Operator) : TIp := fun x y H Q => ∃ r, (∀ i, PIp (X i) o r) ∧ r x y H Q
theorem RIp.ip {o : Operator} (i : ι) : PIp (X i) o (RIp X o) := fun pins s σ H x y v u Q I r1 r2 ⟨r, h, q⟩ => h i pins s σ H x y v u Q I r1 r2 q
theorem ss_aug {i : Nat} {x : Str} {o : Operator} {pos' : Pos} {k : PyData → PyData → Option PyData} {F : DEnv → R PyData} (hN : ∀ k, (X k).N.Nodup) (hi : ∀ k, (X k).N[i]? = some x) (hx : ∀ k, Loc (X k).env.scope x) (h : SE c W X e F)
    (ad : ∀ (O : List Addr) (Y : Addr → Prop) (σ : L2.St) (env : DEnv) (H : Hp) (v w : V) (d y z : PyData) (Q : VK), SR c O Y σ env H → Sh c.K Y H v d → Sh c.K Y H w y → k d y = some z → (∀ u H', Step O Y H O Y H' → SR c O Y σ env H' → Sh c.K Y H' u z → Q u H') → RIp X o v w H Q)
    (hf : ∀ k, (X k).fn x = true ∨ (X k).env.scope.names.lookup x = some .local := by first | exact fun _ => .inl rfl | exact fun _ => .inr rfl | assumption) : SS c W X (.AugAssign (.Name x pos') o e pos) (gAug i k F) := fun O Y σ env H D sr p => by
  refine ⟨_, fun j => ps_aug (hN j) (hi j) (hx j) (RD.pe j) (RIp.ip j) (hf j), ?_⟩
  unfold gAug at p
  cases hs : slotAt env i with
  | none => rw [hs] at p; exact p.elim
  | some s =>
    rw [hs] at p
    cases s with
    | own d => exact p.elim
    | bor k d => exact p.elim
    | io k d => exact p.elim
    | shr d =>
      obtain ⟨v, hv, q⟩ := sr.sl i _ (slotAt_some hs)
      refine ⟨v, hv, h.nextF sr p fun y e1 w H1 O1 Y1 st1 sr1 r1 p1 => ?_⟩
      split at p1
      · rename_i z hz
        exact ad O1 Y1 σ e1 H1 v w d y z _ sr1 (Sh.mv (sr.mv st1) q) r1 hz fun u H' st' sr' sh => p1 _ H' O1 Y1 st' (sr'.setS sh)
      · exact p1.elim
def kPlus : PyData → PyData → Option PyData
  | .int i, .int j => some (.int (i + j))
  | _, _ => none
def kMinus : PyData → PyData → Option PyData
  | .int i, .int j => some (.int (i - j))
  | _, _ => none
theorem aug_add (O : List Addr) (Y : Addr → Prop) (σ : L2.St) (env : DEnv) (H : Hp) (v w : V) (d y z : PyData) (Q : VK) (sr : SR c O Y σ env H) (h1 : Sh c.K Y H v d) (h2 : Sh c.K Y H w y) (hk : kPlus d y = some z) (q : ∀ u H', Step O Y H O Y H' → SR c O Y σ env H' → Sh c.K Y H' u z → Q u H') : RIp X .Add v w H Q := by
  unfold kPlus at hk
  split at hk
  · cases hk
    cases h1
    cases h2
    exact ⟨_, fun _ => ip_add, _, _, rfl, rfl, q _ _ .refl sr (.int _)⟩
  · cases hk
theorem aug_sub (O : List Addr) (Y : Addr → Prop) (σ : L2.St) (env : DEnv) (H : Hp) (v w : V) (d y z : PyData) (Q : VK) (sr : SR c O Y σ env H) (h1 : Sh c.K Y H v d) (h2 : Sh c.K Y H w y) (hk : kMinus d y = some z) (q : ∀ u H', Step O Y H O Y H' → SR c O Y σ env H' → Sh c.K Y H' u z → Q u H') : RIp X .Sub v w H Q := by
  unfold kMinus at hk
  split at hk
  · cases hk
    cases h1
    cases h2
    exact ⟨_, fun _ => ip_sub, _, _, rfl, rfl, q _ _ .refl sr (.int _)⟩
  · cases hk
end
end Dl
set_option Elab.async false
set_option linter.all false
set_option maxRecDepth 100000
set_option maxHeartbeats 4000000
namespace Eh
open PySem PySem.Spec PyProof.Rows L2
/-! repr of anything -/
def rRepr (K : PySem.W.Frag) : List V → Hp → VK → Prop := fun xs H Q => ∃ v d, xs = [v] ∧ Dp K H v d ∧ d.showable = true ∧ d.hasDict = false ∧ d.depth ≤ 40 ∧ d.shown.length ≤ sizeLine ∧ Q (.str d.shown) H
theorem call_repr {X : Cx} {k : Nat} (hr : Room k X.A) (hg : X.A.guards = some []) : CallR X (.builtin "repr") (rRepr X.K) := by
  intro pins s σ H xs us Q I r h
  obtain ⟨v, d, rfl, hd, sh, nd, dp, sz, q⟩ := h
  cases r with
  | cons r1 r2 =>
    rename_i u us'
    cases r2
    obtain ⟨as, rd⟩ := Dp.reads I d v u hd r1
    have un := hr.un
    have big : ∀ a, u = .ref a → wpAny (model X.prog X.w) X.A (call (.builtin "repr") [u]) (EP X pins σ Q) X.xe s := fun a e => by
      subst e
      exact repr_of_reads' rd sh (PyData.noDict_hsm nd) hg (by omega) (fun _ _ z => z) (fun h' u tk kp => ⟨.str d.shown, H, I.kept kp, ⟨_, rfl⟩, q⟩) sz
    cases hd with
    | non =>
      cases r1
      exact PySem.P.repr_of_none ⟨.str _, H, I.tok _, ⟨_, rfl⟩, q⟩
    | bl b =>
      cases r1
      exact PySem.P.repr_of_bool ⟨.str _, H, I.tok _, ⟨_, rfl⟩, q⟩
    | int i =>
      obtain ⟨t, rfl⟩ := r1
      exact PySem.P.repr_of_int (of_decide_eq_true sh) ⟨.str _, H, I.tok _, ⟨_, rfl⟩, q⟩
    | str x =>
      obtain ⟨t, rfl⟩ := r1
      exact PySem.P.repr_of_str ⟨.str _, H, I.tok _, ⟨_, rfl⟩, q⟩ sz
    | lst => exact big _ r1
    | tup => exact big _ r1
end Eh
set_option Elab.async false
set_option linter.all false
set_option maxRecDepth 100000
set_option maxHeartbeats 4000000
namespace Dl
open PySem PySem.Spec PyProof.Rows L2 Evl Gx GxR RZ
/-! what is told, one's own or not -/
abbrev SX {ι : Type} (c : Cs) (W : WX) (X : ι → Cx) (e : Expr) (F : DEnv → R (Bool × PyData)) : Prop := Sd c (RCall c) W (RD X e) F
def fSh (F : DEnv → R PyData) : DEnv → R (Bool × PyData) := fun env => (F env).bind fun d e => .ok (false, d) e
def fOw (F : DEnv → R PyData) : DEnv → R (Bool × PyData) := fun env => (F env).bind fun d e => .ok (true, d) e
def fMoveX (i : Nat) : DEnv → R (Bool × PyData) := fun env => match slotAt env i with
  | some (.own d) => .ok (true, d) (env.set i none)
  | some (.shr d) => .ok (false, d) env
  | _ => .bad
def fCallX (S : List Slot → FR) (dfl : List PyData) (A : DEnv → R (List ArgD)) : DEnv → R (Bool × PyData) := fun env => (A env).bind fun as e => callR S e (as ++ dfl.map ArgD.val)
def fIteX (T : DEnv → R Bool) (F G : DEnv → R (Bool × PyData)) : DEnv → R (Bool × PyData) := fun env => (T env).bind fun b e => if b = true then F e else G e
def slotX (p : Bool × PyData) : Slot := if p.1 = true then .own p.2 else .shr p.2
def gSetX (i : Nat) (F : DEnv → R (Bool × PyData)) : DEnv → Flow := fun env => (F env).toF fun p e => .next (e.set i (some (slotX p)))
def gRetX (F : DEnv → R (Bool × PyData)) : DEnv → Flow := fun env => (F env).toF fun p e => .ret p.1 p.2 e
def gBad : DEnv → Flow := fun _ => .bad
def fBad {α : Type} : DEnv → R α := fun _ => .bad
section
variable {c : Cs} {O O' O1 : List Addr} {Y Y' Y1 : Addr → Prop} {H H' H1 : Hp} {σ : L2.St} {env : DEnv} {W : WX} {ι : Type} {X : ι → Cx} {e it tg a b : Expr} {es : List Expr} {s : Stmt} {p pos : Pos}
theorem ss_bad : SS c W X s gBad := fun O Y σ env H D sr p => p.elim
theorem sd_bad {α β : Type} {Rel : RelT α β} {rd : L2.St → Hp → (β → Hp → Prop) → Prop} : Sd c Rel W rd fBad := fun O Y σ env H Q sr p => p.elim
theorem sx_se {F : DEnv → R PyData} (h : SE c W X e F) : SX c W X e (fSh F) := fun O Y σ env H Q sr p => h.next sr p fun d e v H1 O1 Y1 st sr1 sh p1 => p1 v H1 O1 Y1 .refl sr1 sh
theorem sx_so {F : DEnv → R PyData} (h : SO c W X e F) : SX c W X e (fOw F) := fun O Y σ env H Q sr p => h.next sr p fun d e v H1 O1 Y1 st sr1 sh p1 => p1 v H1 O1 Y1 .refl sr1 sh
theorem sx_move {i : Nat} {x : Str} (pv : ∀ k, PE (X k) (.Name x pos) (tVar i)) : SX c W X (.Name x pos) (fMoveX i) := fun O Y σ env H Q sr p => by
  unfold fMoveX at p
  cases h : slotAt env i with
  | none =>
    rw [h] at p
    exact p.elim
  | some s =>
    rw [h] at p
    cases s with
    | bor k d => exact p.elim
    | io k d => exact p.elim
    | own d =>
      refine so_move (W := W) pv O Y σ env H Q sr ?_
      unfold fMove
      rw [h]
      exact p
    | shr d =>
      refine se_var (W := W) pv O Y σ env H Q sr ?_
      unfold fVar
      rw [h]
      exact p
theorem sx_call {k n : Nat} {f : Addr} {fd : FuncData} {ps : List Str} {S : List Slot → FR} {dvs : List V} {ds : List Value} {dfl : List PyData} {x : Str} {A : DEnv → R (List ArgD)} (G : ∀ j, FnOk (X j).prog (X j).w (X j).K (X j).mg (X j).base (L2.CX (X j).prog (X j).w) k f fd ps (spD c.K c.TS c.ca n S)) (hr : ∀ j, Room k (X j).A) (hg : ∀ j, Gl (X j) x) (hm : ∀ j, (X j).mg x = some (.ref f)) (hk : ∀ j, PySem.W.keepIn (X j).K (.ref f) = true) (hb : ∀ j, Binds (X j).K fd ps ds) (hd : Vals dvs ds)
    (hdv : ∀ Y H, ShA c.K Y H dvs dfl) (tk : ∀ j, Takes (X j) W) (ha : SA c W X (e :: es) A) {m : Nat} (hlen : AL A m) (hmn : m + dfl.length = n := by rfl)
    (hdb : (x == ("__debug__" : Str)) = false := by decide) (he : ∀ j, starEach (e :: es) (X j).env = (false, eval e (X j).env) :: starEach es (X j).env := by intro _; rfl) (hpl : ∀ j, (backTo pos (starEach es (X j).env)).any (·.1) = false := by intro _; rfl) :
    SX c W X (.Call (.Name x p) (e :: es) [] pos) (fCallX S dfl A) := fun O Y σ env H Q sr pp => by
  refine sc_core (R' := RCall c) (kk := fun q e => .ok q e) G hr hg hm hk hb hd hdv tk ha hdb he hpl sr ?_ (fun O2 Y2 e2 H2 v q sr2 rel p2 => p2 v H2 O2 Y2 .refl sr2 rel) hlen hmn
  have : ((A env).bind fun as e => (callR S e (as ++ dfl.map ArgD.val)).bind fun q e => .ok q e) = fCallX S dfl A env := by
    unfold fCallX
    congr 1
    funext as e
    cases callR S e (as ++ dfl.map ArgD.val) <;> rfl
  rw [this]
  exact pp
theorem sx_ite {t : Expr} {T : DEnv → R Bool} {F G : DEnv → R (Bool × PyData)} (ht : ST c W X t T) (h : SX c W X a F) (g : SX c W X b G) : SX c W X (.IfExp t a b pos) (fIteX T F G) := fun O Y σ env H Q sr p =>
  ⟨_, fun i => pe_ifExp (RT.pt i) (RD.pe i) (RD.pe i), ht.next sr p fun d e1 k H1 O1 Y1 st sr1 r p1 => by
    have r : k = d := r
    subst r
    cases k with
    | true => exact iteT (h O1 Y1 σ e1 H1 Q sr1 p1)
    | false => exact iteF (g O1 Y1 σ e1 H1 Q sr1 p1)⟩
theorem ss_setX {i : Nat} {x : Str} {F : DEnv → R (Bool × PyData)} {pos' : Pos} (hN : ∀ k, (X k).N.Nodup) (hi : ∀ k, (X k).N[i]? = some x) (hx : ∀ k, Loc (X k).env.scope x) (h : SX c W X e F) (hs : ∀ k, swapsWith e (some (.Name x pos')) pos.line (X k).env = pure false := by intro _; rfl) (hf : ∀ k, (X k).fn x = true ∨ (X k).env.scope.names.lookup x = some .local := by first | exact fun _ => .inl rfl | exact fun _ => .inr rfl | assumption) :
    SS c W X (.Assign [.Name x pos'] e pos) (gSetX i F) := fun O Y σ env H D sr p =>
  ⟨_, fun k => ps_set (hN k) (hi k) (hx k) (RD.pe k) (hs k) (hf k), h.nextF sr p fun d e1 v H1 O1 Y1 st sr1 r p1 => by
    obtain ⟨fr, d⟩ := d
    cases fr with
    | false => exact p1 _ H1 O1 Y1 .refl (sr1.setS r)
    | true =>
      obtain ⟨a, rfl, ha, hf, t⟩ := r
      exact p1 _ H1 O1 Y1 .refl (sr1.setO ha hf t)⟩
theorem ss_retX {F : DEnv → R (Bool × PyData)} (h : SX c W X e F) : SS c W X (.Return (some e) pos) (gRetX F) := fun O Y σ env H D sr p =>
  ⟨_, fun i => ps_ret (RD.pe i), h.nextF sr p fun d e1 v H1 O1 Y1 st sr1 r p1 => p1 v σ H1 O1 Y1 .refl sr1 r⟩
/-! new lists by + and * -/
def dAddL : PyData → PyData → Option PyData
  | .list xs, .list ys => if xs.length + ys.length ≤ sizeLine then some (.list (xs ++ ys)) else none
  | _, _ => none
def dMulL : PyData → PyData → Option PyData
  | .list xs, .int k => if -(2 ^ 63) ≤ k ∧ k < 2 ^ 63 ∧ xs.length * k.toNat ≤ sizeLine then some (.list (List.replicate k.toNat xs).flatten) else none
  | _, _ => none
/-- two readings and what is done behind them, by another relation -/
theorem twoO {op : PyData → PyData → Option PyData} {Fa Fb : DEnv → R BD} {f : R2} {Q : VK} (ha : SB c W X a Fa) (hb : SB c W X b Fb) (sr : SR c O Y σ env H) (p : Post c (ROw c) O Y H σ Q W (f2 op Fa Fb env))
    (n : ∀ (O2 : List Addr) (Y2 : Addr → Prop) (e2 : DEnv) (H2 : Hp) (x y : V) (d1 d2 d : PyData), SR c O2 Y2 σ e2 H2 → Bo c.K Y2 H2 x d1 → Bo c.K Y2 H2 y d2 → op d1 d2 = some d → (∀ v H' O' Y', Step O2 Y2 H2 O' Y' H' → SR c O' Y' σ e2 H' → ROw c O' Y' σ e2 H' v d → Q v H') → f x y H2 Q) :
    tOp f (RD X a) (RD X b) σ H Q := by
  refine ha.next sr p fun b1 e1 x H1 O1 Y1 st1 sr1 r1 p1 => ?_
  refine hb.next sr1 p1 fun b2 e2 y H2 O2 Y2 st2 sr2 r2 p2 => ?_
  obtain ⟨d, hd, p3⟩ := of_post p2
  obtain ⟨d1, h1, hd⟩ := Option.bind_eq_some_iff.mp hd
  obtain ⟨d2, h2, hd⟩ := Option.bind_eq_some_iff.mp hd
  exact n O2 Y2 e2 H2 x y d1 d2 d sr2 ((RBo.mv (O' := O2) (env' := e2) r1 (sr1.mv st2)).bo sr2 h1) (r2.bo sr2 h2) hd fun v H' O' Y' st' sr' sh => p3 v H' O' Y' st' sr' sh
theorem so_add {Fa Fb : DEnv → R BD} (ha : SB c W X a Fa) (hb : SB c W X b Fb) : SO c W X (.BinOp a .Add b pos) (f2 dAddL Fa Fb) := fun O Y σ env H Q sr p =>
  ⟨_, fun i => pe_op op_cat (RD.pe i) (RD.pe i), twoO ha hb sr p fun O2 Y2 e2 H2 x y d1 d2 d sr2 b1 b2 h q => by
    unfold dAddL at h
    split at h
    · split at h
      · cases h
        obtain ⟨a, xs, rfl, ha, ta⟩ := b1.list
        obtain ⟨b, ys, rfl, hb, tb⟩ := b2.list
        refine ⟨a, b, xs, ys, rfl, rfl, ha, hb, by rw [ta.len, tb.len]; assumption, fun p hp => ?_⟩
        obtain ⟨st, sr', ow⟩ := new_lst sr2 hp (ta.app tb)
        exact q _ _ _ _ st sr' ow
      · cases h
    · cases h⟩
theorem so_mul {Fa Fb : DEnv → R BD} (ha : SB c W X a Fa) (hb : SB c W X b Fb) : SO c W X (.BinOp a .Mult b pos) (f2 dMulL Fa Fb) := fun O Y σ env H Q sr p =>
  ⟨_, fun i => pe_op op_rep (RD.pe i) (RD.pe i), twoO ha hb sr p fun O2 Y2 e2 H2 x y d1 d2 d sr2 b1 b2 h q => by
    unfold dMulL at h
    split at h
    · split at h
      · rename_i hm
        cases h
        cases b2.int
        obtain ⟨a, xs, rfl, ha, ta⟩ := b1.list
        refine ⟨a, _, xs, rfl, rfl, ha, hm.1, hm.2.1, by rw [ta.len]; exact hm.2.2, fun p hp => ?_⟩
        obtain ⟨st, sr', ow⟩ := new_lst sr2 hp (ta.rep _)
        exact q _ _ _ _ st sr' ow
      · cases h
    · cases h⟩
/-! what is walked, also where it is only lent -/
def BD.walk (env : DEnv) : BD → Option PyData
  | .val d => some d
  | .var i => match slotAt env i with
    | some (.shr d) => some d
    | some (.bor _ d) => some d
    | _ => none
def WB (c : Cs) (O : List Addr) (Y : Addr → Prop) (H : Hp) (v : V) (d : PyData) : Prop := Sh c.K Y H v d ∨ ∃ a, v = .ref a ∧ a ∉ O ∧ Top c.K Y H a d
theorem RBo.wb {v : V} {b : BD} {d : PyData} (h : RBo c O Y σ env H v b) (sr : SR c O Y σ env H) (g : b.walk env = some d) : WB c O Y H v d := by
  cases b with
  | val d =>
    cases g
    exact .inl h
  | var i =>
    have g : (match slotAt env i with | some (.shr d) => some d | some (.bor _ d) => some d | _ => none) = some d := g
    have h : σ[i]? = some (some v) := h
    split at g
    · cases g
      rename_i hs
      obtain ⟨u, hu, q⟩ := sr.sl i _ (slotAt_some hs)
      rw [h] at hu
      cases hu
      exact .inl q
    · cases g
      rename_i hs
      obtain ⟨u, hu, a, e, n, _, t, _⟩ := sr.sl i _ (slotAt_some hs)
      rw [h] at hu
      cases hu
      exact .inr ⟨a, e, n, t⟩
    · cases g
/-- a list that no step changes -/
def KpL (O : List Addr) (Y : Addr → Prop) (H : Hp) (a : Addr) (xs : List V) : Prop := ∀ (O2 : List Addr) (Y2 : Addr → Prop) (H2 : Hp), Step O Y H O2 Y2 H2 → H2 a = some (.lst xs)
theorem WB.list {v : V} {ds : List PyData} (h : WB c O Y H v (.list ds)) (sr : SR c O Y σ env H) : ∃ a xs, v = .ref a ∧ H a = some (.lst xs) ∧ KpL O Y H a xs ∧ ShA c.K Y H xs ds := by
  rcases h with h | ⟨a, rfl, n, h⟩
  · cases h with
    | lst n h t => exact ⟨_, _, rfl, h, fun O2 Y2 H2 st => ((st.mv sr.sub).own n h rfl).2, t⟩
  · cases h with
    | lst h t => exact ⟨_, _, rfl, h, fun O2 Y2 H2 st => (by
        rcases st.keep a _ h with z | ⟨ps, z⟩ | z
        · exact (n z.1).elim
        · cases z
        · exact z), t⟩
theorem WB.tuple {v : V} {ds : List PyData} (h : WB c O Y H v (.tuple ds)) : ∃ a xs, v = .ref a ∧ H a = some (.tup xs) ∧ ShA c.K Y H xs ds := by
  rcases h with h | ⟨a, rfl, n, h⟩
  · cases h with
    | tup h t => exact ⟨_, _, rfl, h, t⟩
  · cases h
theorem WB.str {v : V} {x : Str} (h : WB c O Y H v (.str x)) : v = .str x := by
  rcases h with h | ⟨a, rfl, n, h⟩
  · cases h
    rfl
  · cases h
theorem walk_lstK {a : Addr} {xs : List V} {ds : List PyData} (sr : SR c O Y σ env H) (k : KpL O Y H a xs) (t : ShA c.K Y H xs ds) : RWalk c O Y σ env H (Itl c.K a) ds := fun O2 Y2 H2 σ2 env2 st sr2 => by
  have h2 := k O2 Y2 H2 st
  have t2 := t.mv (st.mv sr.sub)
  refine ⟨⟨xs, sq_of h2, Nat.le_of_eq t2.len⟩, fun i d hd => ?_⟩
  obtain ⟨x, hx, sx⟩ := t2.get hd
  refine ⟨⟨xs, x, sq_of h2, hx⟩, fun y H3 yl => ?_⟩
  obtain ⟨rfl, f⟩ := yl
  have := f xs (sq_of h2)
  rw [hx] at this
  cases this
  exact ⟨.refl, sr2, sx⟩
theorem walk_enumK {a : Addr} {xs : List V} {ds : List PyData} (sr : SR c O Y σ env H) (k : KpL O Y H a xs) (t : ShA c.K Y H xs ds) : RWalk c O Y σ env H (Ite c.K a) (enumItems ds) := fun O2 Y2 H2 σ2 env2 st sr2 => by
  have h2 := k O2 Y2 H2 st
  have t2 := t.mv (st.mv sr.sub)
  have el : (enumItems ds).length = ds.length := by simp [enumItems]
  refine ⟨⟨xs, sq_of h2, by rw [el]; exact Nat.le_of_eq t2.len⟩, fun i d hd => ?_⟩
  obtain ⟨d0, hd0, rfl⟩ := enum_get hd
  obtain ⟨x, hx, sx⟩ := t2.get hd0
  refine ⟨⟨xs, x, sq_of h2, hx⟩, fun y H3 yl => ?_⟩
  obtain ⟨T, x', rfl, hT, rfl, f⟩ := yl
  have := f xs (sq_of h2)
  rw [hx] at this
  cases this
  exact pair_new sr2 hT (.int _) sx
theorem walk_zipLK {a b : Addr} {xs ys : List V} {ds es : List PyData} (sr : SR c O Y σ env H) (k1 : KpL O Y H a xs) (t1 : ShA c.K Y H xs ds) (k2 : KpL O Y H b ys) (t2 : ShA c.K Y H ys es) : RWalk c O Y σ env H (Itz c.K a b) (zipItems ds es) := fun O2 Y2 H2 σ2 env2 st sr2 => by
  have m := st.mv sr.sub
  have g1 := k1 O2 Y2 H2 st
  have g2 := k2 O2 Y2 H2 st
  have u1 := t1.mv m
  have u2 := t2.mv m
  have l1 := u1.len
  have l2 := u2.len
  refine ⟨⟨xs, ys, sq_of g1, sq_of g2, by rw [zip_len]; omega⟩, fun i d hd => ?_⟩
  obtain ⟨d1, d2, e1, e2, rfl⟩ := zip_get hd
  obtain ⟨x, hx, sx⟩ := u1.get e1
  obtain ⟨y, hy, sy⟩ := u2.get e2
  refine ⟨⟨xs, ys, x, y, sq_of g1, sq_of g2, hx, hy⟩, fun z H3 yl => ?_⟩
  obtain ⟨T, x', y', rfl, hT, rfl, f1, f2⟩ := yl
  have q1 := f1 xs (sq_of g1)
  have q2 := f2 ys (sq_of g2)
  rw [hx] at q1
  rw [hy] at q2
  cases q1
  cases q2
  exact pair_new sr2 hT sx sy
theorem walk_zipMK {a b : Addr} {xs ys : List V} {ds es : List PyData} (sr : SR c O Y σ env H) (h1 : H a = some (.tup xs)) (t1 : ShA c.K Y H xs ds) (k2 : KpL O Y H b ys) (t2 : ShA c.K Y H ys es) (el : ds.length = es.length) : RWalk c O Y σ env H (Eh.ItzM c.K a b) (zipItems ds es) := fun O2 Y2 H2 σ2 env2 st sr2 => by
  have m := st.mv sr.sub
  have g1 := m.tup h1
  have g2 := k2 O2 Y2 H2 st
  have u1 := t1.mv m
  have u2 := t2.mv m
  have l1 := u1.len
  have l2 := u2.len
  refine ⟨⟨xs, ys, Evl.st_of g1, sq_of g2, by rw [zip_len]; omega, by rw [zip_len]; omega⟩, fun i d hd => ?_⟩
  obtain ⟨d1, d2, e1, e2, rfl⟩ := zip_get hd
  obtain ⟨x, hx, sx⟩ := u1.get e1
  obtain ⟨y, hy, sy⟩ := u2.get e2
  refine ⟨⟨xs, ys, x, y, Evl.st_of g1, sq_of g2, hx, hy, by omega⟩, fun z H3 yl => ?_⟩
  obtain ⟨T, x', y', rfl, hT, rfl, f1, f2⟩ := yl
  have q1 := f1 xs (Evl.st_of g1)
  have q2 := f2 ys (sq_of g2)
  rw [hx] at q1
  rw [hy] at q2
  cases q1
  cases q2
  exact pair_new sr2 hT sx sy
def fWalk (F : DEnv → R BD) : DEnv → R (List PyData) := fun env => (F env).bind fun b e => R.of ((b.walk e).bind itemsOf) e
theorem si_b {F : DEnv → R BD} (hK : ∀ k, (X k).K = c.K) (h : SB c W X it F) : SI c W X tg it (fWalk F) := fun O Y σ env H Q sr pp => by
  unfold fWalk at pp
  cases hF : F env with
  | bad => rw [hF] at pp; exact pp.elim
  | exc x e1 =>
    rw [hF] at pp
    refine ⟨_, fun k => k_pi (wi := fun K => iList K (RD X it)) (hK k) (pi_list (RD.pe k)), h O Y σ env H _ sr ?_⟩
    rw [hF]
    exact pp
  | ok b e1 =>
    rw [hF] at pp
    have pp : Post c (RWalk c) O Y H σ Q W (R.of ((b.walk e1).bind itemsOf) e1) := pp
    obtain ⟨ds, hd, pp⟩ := of_post pp
    obtain ⟨d, hd0, hd⟩ := Option.bind_eq_some_iff.mp hd
    have p' : ∀ {R' : V → Hp → Prop}, (∀ v H' O' Y', Step O Y H O' Y' H' → SR c O' Y' σ e1 H' → WB c O' Y' H' v d → R' v H') → RD X it σ H R' := fun {R'} q => by
      refine h O Y σ env H R' sr ?_
      rw [hF]
      exact fun v H' O' Y' st sr' r => q v H' O' Y' st sr' (r.wb sr' hd0)
    cases d with
    | list xs =>
      cases hd
      refine ⟨_, fun k => k_pi (wi := fun K => iList K (RD X it)) (hK k) (pi_list (RD.pe k)), p' fun v H1 O1 Y1 st sr1 sh => ?_⟩
      obtain ⟨a, ys, rfl, h0, k, t⟩ := sh.list sr1
      exact ⟨_, rfl, ⟨_, sq_of h0⟩, pp _ H1 O1 Y1 st sr1 (walk_lstK sr1 k t)⟩
    | tuple xs =>
      cases hd
      refine ⟨_, fun k => k_pi (wi := fun K => iTup K (RD X it)) (hK k) (pi_tup (RD.pe k)), p' fun v H1 O1 Y1 st sr1 sh => ?_⟩
      obtain ⟨a, ys, rfl, h0, t⟩ := sh.tuple
      exact ⟨_, rfl, ⟨_, Evl.st_of h0⟩, pp _ H1 O1 Y1 st sr1 (walk_tup sr1 h0 t)⟩
    | str z =>
      cases hd
      refine ⟨_, fun k => pi_str (RD.pe k), p' fun v H1 O1 Y1 st sr1 sh => ?_⟩
      cases sh.str
      exact ⟨_, rfl, pp _ H1 O1 Y1 st sr1 walk_str⟩
    | none => cases hd
    | bool _ => cases hd
    | int _ => cases hd
    | dict _ => cases hd
inductive WBs (c : Cs) (O : List Addr) (Y : Addr → Prop) (H : Hp) : List V → List PyData → Prop
  | nil : WBs c O Y H [] []
  | cons {v : V} {d : PyData} {vs : List V} {ds : List PyData} : WB c O Y H v d → WBs c O Y H vs ds → WBs c O Y H (v :: vs) (d :: ds)
def walkAll (env : DEnv) : List BD → Option (List PyData)
  | [] => some []
  | b :: r => (b.walk env).bind fun d => (walkAll env r).map (d :: ·)
theorem RBoL.wb : ∀ {vs : List V} {bs : List BD} {ds : List PyData}, RBoL c Y σ H vs bs → SR c O Y σ env H → walkAll env bs = some ds → WBs c O Y H vs ds
  | _, _, _, .nil, _, h => by
    cases h
    exact .nil
  | _, _, _, .cons a r, sr, h => by
    obtain ⟨d, hd, h⟩ := Option.bind_eq_some_iff.mp h
    obtain ⟨ds, h, rfl⟩ := Option.map_eq_some_iff.mp h
    exact .cons ((a O env).wb sr hd) (RBoL.wb r sr ‹_›)
def fSrcB (k : List PyData → Option (List PyData)) (G : DEnv → R (List BD)) : DEnv → R (List PyData) := fun env => (G env).bind fun bs e => R.of ((walkAll e bs).bind k) e
theorem src_core {k : List PyData → Option (List PyData)} {G : DEnv → R (List BD)} {Q : It → Hp → Prop} {e1 : DEnv} {bs : List BD} (g : SBs c W X es G) (hG : G env = .ok bs e1) (sr : SR c O Y σ env H) (pp : Post c (RWalk c) O Y H σ Q W (R.of ((walkAll e1 bs).bind k) e1)) :
    ∃ ds rs, k ds = some rs ∧ Post c (RWalk c) O Y H σ Q W (.ok rs e1) ∧ ∀ {R' : List V → Hp → Prop}, (∀ vs H' O' Y', Step O Y H O' Y' H' → SR c O' Y' σ e1 H' → WBs c O' Y' H' vs ds → R' vs H') → RA X es σ H R' := by
  obtain ⟨rs, hr, p2⟩ := of_post pp
  obtain ⟨ds, h1, h2⟩ := Option.bind_eq_some_iff.mp hr
  refine ⟨ds, rs, h2, p2, fun {R'} q => g O Y σ env H R' sr ?_⟩
  rw [hG]
  exact fun vs H' O' Y' st sr' r => q vs H' O' Y' st sr' (RBoL.wb r sr' h1)
theorem WBs.one {vs : List V} {d : PyData} (h : WBs c O Y H vs [d]) : ∃ v, vs = [v] ∧ WB c O Y H v d := by
  cases h with
  | cons a r =>
    cases r
    exact ⟨_, rfl, a⟩
theorem WBs.two {vs : List V} {d1 d2 : PyData} (h : WBs c O Y H vs [d1, d2]) : ∃ v w, vs = [v, w] ∧ WB c O Y H v d1 ∧ WB c O Y H w d2 := by
  cases h with
  | cons a r =>
    cases r with
    | cons b r =>
      cases r
      exact ⟨_, _, rfl, a, b⟩
theorem si_enumB {a : Expr} {elts : List Expr} {kk : Nat} {tpos : Pos} {G : DEnv → R (List BD)} (hK : ∀ k, (X k).K = c.K) (hg : ∀ k, Gl (X k) "enumerate") (hm : ∀ k, (X k).mg "enumerate" = none) (g : SBs c W X [a] G) (hs : ∀ k, starEach [a] (X k).env = [(false, eval a (X k).env)] := by intro _; rfl) :
    SI c W X (.Tuple elts kk tpos) (.Call (.Name "enumerate" p) [a] [] pos) (fSrcB enumOf G) := fun O Y σ env H Q sr pp => by
  unfold fSrcB at pp
  cases hG : G env with
  | bad => rw [hG] at pp; exact pp.elim
  | exc x e1 =>
    rw [hG] at pp
    refine ⟨_, fun k => k_pi (wi := fun K => iEnum K (RA X [a])) (hK k) (pi_enum (hg k) (hm k) (RA.pa k) (hs k)), g O Y σ env H _ sr ?_⟩
    rw [hG]
    exact pp
  | ok bs e1 =>
    rw [hG] at pp
    obtain ⟨ds, rs, hr, p2, p'⟩ := src_core g hG sr pp
    unfold enumOf at hr
    split at hr
    · cases hr
      refine ⟨_, fun k => k_pi (wi := fun K => iEnum K (RA X [a])) (hK k) (pi_enum (hg k) (hm k) (RA.pa k) (hs k)), p' fun vs H1 O1 Y1 st sr1 r => ?_⟩
      obtain ⟨v, rfl, w⟩ := r.one
      obtain ⟨b, ys, rfl, h0, k, t⟩ := w.list sr1
      exact ⟨_, _, rfl, sq_of h0, p2 _ H1 O1 Y1 st sr1 (walk_enumK sr1 k t)⟩
    · cases hr
      refine ⟨_, fun k => k_pi (wi := fun K => Eh.iEnumT K (RA X [a])) (hK k) (Eh.pi_enumT (hg k) (hm k) (RA.pa k) (hs k)), p' fun vs H1 O1 Y1 st sr1 r => ?_⟩
      obtain ⟨v, rfl, w⟩ := r.one
      obtain ⟨b, ys, rfl, h0, t⟩ := w.tuple
      exact ⟨_, _, rfl, Evl.st_of h0, p2 _ H1 O1 Y1 st sr1 (walk_enumT sr1 h0 t)⟩
    · cases hr
theorem si_zipB {a b : Expr} {elts : List Expr} {kk : Nat} {tpos : Pos} {G : DEnv → R (List BD)} (hK : ∀ k, (X k).K = c.K) (hg : ∀ k, Gl (X k) "zip") (hm : ∀ k, (X k).mg "zip" = none) (g : SBs c W X [a, b] G) (hs : ∀ k, starEach [a, b] (X k).env = (false, eval a (X k).env) :: starEach [b] (X k).env := by intro _; rfl) (hpl : ∀ k, (backTo pos (starEach [b] (X k).env)).any (·.1) = false := by intro _; rfl) :
    SI c W X (.Tuple elts kk tpos) (.Call (.Name "zip" p) [a, b] [] pos) (fSrcB zipOf G) := fun O Y σ env H Q sr pp => by
  unfold fSrcB at pp
  cases hG : G env with
  | bad => rw [hG] at pp; exact pp.elim
  | exc x e1 =>
    rw [hG] at pp
    refine ⟨_, fun k => k_pi (wi := fun K => iZipA K (RA X [a, b])) (hK k) (pi_zipA (hg k) (hm k) (RA.pa k) (hs k) (hpl k)), g O Y σ env H _ sr ?_⟩
    rw [hG]
    exact pp
  | ok bs e1 =>
    rw [hG] at pp
    obtain ⟨ds, rs, hr, p2, p'⟩ := src_core g hG sr pp
    unfold zipOf at hr
    split at hr
    · cases hr
      refine ⟨_, fun k => k_pi (wi := fun K => iZipA K (RA X [a, b])) (hK k) (pi_zipA (hg k) (hm k) (RA.pa k) (hs k) (hpl k)), p' fun vs H1 O1 Y1 st sr1 r => ?_⟩
      obtain ⟨v, w, rfl, w1, w2⟩ := r.two
      obtain ⟨_, _, rfl, h1, k1, t1⟩ := w1.list sr1
      obtain ⟨_, _, rfl, h2, k2, t2⟩ := w2.list sr1
      exact ⟨_, _, _, _, rfl, .inl ⟨sq_of h1, sq_of h2, p2 _ H1 O1 Y1 st sr1 (walk_zipLK sr1 k1 t1 k2 t2)⟩⟩
    · cases hr
      refine ⟨_, fun k => k_pi (wi := fun K => iZipA K (RA X [a, b])) (hK k) (pi_zipA (hg k) (hm k) (RA.pa k) (hs k) (hpl k)), p' fun vs H1 O1 Y1 st sr1 r => ?_⟩
      obtain ⟨v, w, rfl, w1, w2⟩ := r.two
      obtain ⟨_, _, rfl, h1, t1⟩ := w1.tuple
      obtain ⟨_, _, rfl, h2, t2⟩ := w2.tuple
      exact ⟨_, _, _, _, rfl, .inr ⟨Evl.st_of h1, Evl.st_of h2, p2 _ H1 O1 Y1 st sr1 (walk_zipT sr1 h1 t1 h2 t2)⟩⟩
    · split at hr
      · rename_i el
        cases hr
        refine ⟨_, fun k => k_pi (wi := fun K => Eh.iZipM K (RA X [a, b])) (hK k) (Eh.pi_zipM (hg k) (hm k) (RA.pa k) (hs k) (hpl k)), p' fun vs H1 O1 Y1 st sr1 r => ?_⟩
        obtain ⟨v, w, rfl, w1, w2⟩ := r.two
        obtain ⟨_, _, rfl, h1, t1⟩ := w1.tuple
        obtain ⟨_, _, rfl, h2, k2, t2⟩ := w2.list sr1
        exact ⟨_, _, _, _, rfl, Evl.st_of h1, sq_of h2, p2 _ H1 O1 Y1 st sr1 (walk_zipMK sr1 h1 t1 k2 t2 el)⟩
      · cases hr
    · cases hr
/-! sep.join(..) -/
def strsOf : List PyData → Option (List Str)
  | [] => some []
  | .str x :: r => (strsOf r).map (x :: ·)
  | _ => none
theorem strsOf_map (ys : List Str) : strsOf (ys.map .str) = some ys := by
  induction ys with
  | nil => rfl
  | cons y r ih => simp [strsOf, ih]
theorem ShA.ofStrs : ∀ {vs : List V} {ds : List PyData} {ys : List Str}, ShA c.K Y H vs ds → strsOf ds = some ys → vs = ys.map V.str
  | _, _, _, .nil, h => by
    cases h
    rfl
  | _, _, _, .cons (d := d) a r, h => by
    cases d with
    | str x =>
      obtain ⟨ys, h1, rfl⟩ := Option.map_eq_some_iff.mp h
      cases a
      rw [ShA.ofStrs r h1]
      rfl
    | _ => cases h
def dJoin (x y : PyData) : Option PyData := match x, y with
  | .str a, .list ds => (strsOf ds).bind fun ys => if (ys.map (·.length)).sum + ys.length * a.length ≤ 16777216 then some (.str (Txt.join a ys)) else none
  | .str a, .tuple ds => (strsOf ds).bind fun ys => if (ys.map (·.length)).sum + ys.length * a.length ≤ 16777216 then some (.str (Txt.join a ys)) else none
  | _, _ => none
theorem k_pe {X : Cx} {e : Expr} {K : PySem.W.Frag} {t : PySem.W.Frag → TE} (hK : X.K = K) (h : PE X e (t X.K)) : PE X e (t K) := hK ▸ h
theorem se_join {apos : Pos} {Fa Fb : DEnv → R BD} (hK : ∀ k, (X k).K = c.K) (ha : SB c W X a Fa) (hb : SB c W X b Fb) (hstr : ∀ env d e, Fa env = .ok d e → ∀ e', ∃ z, d.get e' = some (.str z)) (hs : ∀ k, starEach [b] (X k).env = [(false, eval b (X k).env)] := by intro _; rfl) (hbase : ∀ k, attributeBase a "join" (X k).env (eval a (X k).env) = eval a (X k).env := by intro _; rfl) (hline : (apos.endLine == pos.line) = true := by rfl) :
    SE c W X (.Call (.Attribute a "join" apos) [b] [] pos) (f2 dJoin Fa Fb) := fun O Y σ env H Q sr p => by
  refine ⟨tM1 (fun x xs H Q => ∃ a p, ∃ ys : List Str, x = .str a ∧ xs = [.ref p] ∧ (SqL c.K H p (ys.map V.str) ∨ SqT c.K H p (ys.map V.str)) ∧ (ys.map (·.length)).sum + ys.length * a.length ≤ 16777216 ∧ Q (.str (Txt.join a ys)) H) (RD X a) (RD X b), fun k => hK k ▸ pe_join (RD.pe k) (RD.pe k) (hs k) (hbase k) hline, ?_⟩
  have p0 : Post c (RSh c) O Y H σ Q W (f2 dJoin Fa Fb env) := p
  unfold f2 at p0
  cases hFa : Fa env with
  | bad => rw [hFa] at p0; exact p0.elim
  | exc x e1 =>
    rw [hFa] at p0
    refine ha O Y σ env H _ sr ?_
    rw [hFa]
    exact p0
  | ok b1 e1 =>
    rw [hFa] at p0
    refine ha O Y σ env H _ sr ?_
    rw [hFa]
    intro x H1 O1 Y1 st1 sr1 r1
    obtain ⟨z, hz⟩ := hstr _ _ _ hFa e1
    have bo := r1.bo sr1 hz
    cases bo.str
    refine ⟨⟨z, rfl⟩, ?_⟩
    have p1 := Post.shift p0 sr.yd st1
    refine hb.next sr1 p1 fun b2 e2 y H2 O2 Y2 st2 sr2 r2 p2 => ?_
    obtain ⟨d, hd, p3⟩ := of_post p2
    obtain ⟨d1, h1, hd⟩ := Option.bind_eq_some_iff.mp hd
    obtain ⟨d2, h2, hd⟩ := Option.bind_eq_some_iff.mp hd
    obtain ⟨z2, hz2⟩ := hstr _ _ _ hFa e2
    rw [h1] at hz2
    cases hz2
    have bz := (RBo.mv (O' := O2) (env' := e2) r1 (sr1.mv st2)).bo sr2 h1
    cases bz.str
    have by2 := r2.bo sr2 h2
    cases d2 with
    | list ds =>
      obtain ⟨ys, hys, hd⟩ := Option.bind_eq_some_iff.mp hd
      split at hd
      · cases hd
        obtain ⟨q, xs, rfl, hq, tq⟩ := by2.list
        have := tq.ofStrs hys
        subst this
        exact ⟨_, q, ys, rfl, rfl, .inl (sq_of hq), by assumption, p3 _ H2 O2 Y2 .refl sr2 (.str _)⟩
      · cases hd
    | tuple ds =>
      obtain ⟨ys, hys, hd⟩ := Option.bind_eq_some_iff.mp hd
      split at hd
      · cases hd
        obtain ⟨q, xs, rfl, hq, tq⟩ := by2.tuple
        have := tq.ofStrs hys
        subst this
        exact ⟨_, q, ys, rfl, rfl, .inr (Evl.st_of hq), by assumption, p3 _ H2 O2 Y2 .refl sr2 (.str _)⟩
      · cases hd
    | _ => cases hd
theorem join_str {x : Str} : ∀ env d e, fVal (fC (.str x)) env = .ok d e → ∀ e', ∃ z, d.get e' = some (.str z) := fun env d e h e' => by
  cases h
  exact ⟨x, rfl⟩
/-! is True, is not True -/
def dIsB : PyData → PyData → Option PyData
  | .bool a, .bool b => some (.bool (a == b))
  | _, _ => none
def dIsntB : PyData → PyData → Option PyData
  | .bool a, .bool b => some (.bool (!(a == b)))
  | _, _ => none
/-! all, any, sum of a list -/
def boolsOf : List PyData → Option (List Bool)
  | [] => some []
  | .bool x :: r => (boolsOf r).map (x :: ·)
  | _ => none
theorem ShA.ofBools : ∀ {vs : List V} {ds : List PyData} {ys : List Bool}, ShA c.K Y H vs ds → boolsOf ds = some ys → vs = ys.map V.bl
  | _, _, _, .nil, h => by
    cases h
    rfl
  | _, _, _, .cons (d := d) a r, h => by
    cases d with
    | bool x =>
      obtain ⟨ys, h1, rfl⟩ := Option.map_eq_some_iff.mp h
      cases a
      rw [ShA.ofBools r h1]
      rfl
    | _ => cases h
def intsOf : List PyData → Option (List Int)
  | [] => some []
  | .int x :: r => (intsOf r).map (x :: ·)
  | _ => none
theorem ShA.ofInts : ∀ {vs : List V} {ds : List PyData} {ys : List Int}, ShA c.K Y H vs ds → intsOf ds = some ys → vs = ys.map V.int
  | _, _, _, .nil, h => by
    cases h
    rfl
  | _, _, _, .cons (d := d) a r, h => by
    cases d with
    | int x =>
      obtain ⟨ys, h1, rfl⟩ := Option.map_eq_some_iff.mp h
      cases a
      rw [ShA.ofInts r h1]
      rfl
    | _ => cases h
def kAll : List PyData → Option PyData
  | [.list ds] => (boolsOf ds).map fun bs => .bool (bs.all id)
  | _ => none
def kAny : List PyData → Option PyData
  | [.list ds] => (boolsOf ds).map fun bs => .bool (bs.any id)
  | _ => none
def kSum : List PyData → Option PyData
  | [.list ds] => (intsOf ds).map fun bs => .int bs.sum
  | _ => none
theorem ad_allL (hc : ∀ i, (X i).calm = true) (hK : ∀ i, (X i).K = c.K) : AdC c X (RSh c) (.builtin "all") kAll := by
  intro O Y σ env H vs ds d Q sr b h q
  unfold kAll at h
  split at h
  · obtain ⟨ys, hys, rfl⟩ := Option.map_eq_some_iff.mp h
    obtain ⟨v, rfl, b0⟩ := b.one
    obtain ⟨a, xs, rfl, ha, ta⟩ := b0.list
    have := ta.ofBools hys
    subst this
    exact ⟨rAll c.K, fun i => k_cr (hK i) (cr_all (hc i)), a, ys, rfl, sq_of ha, q _ _ _ _ .refl sr (.bl _)⟩
  · cases h
theorem ad_anyL (hc : ∀ i, (X i).calm = true) (hK : ∀ i, (X i).K = c.K) : AdC c X (RSh c) (.builtin "any") kAny := by
  intro O Y σ env H vs ds d Q sr b h q
  unfold kAny at h
  split at h
  · obtain ⟨ys, hys, rfl⟩ := Option.map_eq_some_iff.mp h
    obtain ⟨v, rfl, b0⟩ := b.one
    obtain ⟨a, xs, rfl, ha, ta⟩ := b0.list
    have := ta.ofBools hys
    subst this
    exact ⟨rAny c.K, fun i => k_cr (hK i) (cr_any (hc i)), a, ys, rfl, sq_of ha, q _ _ _ _ .refl sr (.bl _)⟩
  · cases h
theorem ad_sumL (hc : ∀ i, (X i).calm = true) (hK : ∀ i, (X i).K = c.K) : AdC c X (RSh c) (.builtin "sum") kSum := by
  intro O Y σ env H vs ds d Q sr b h q
  unfold kSum at h
  split at h
  · obtain ⟨ys, hys, rfl⟩ := Option.map_eq_some_iff.mp h
    obtain ⟨v, rfl, b0⟩ := b.one
    obtain ⟨a, xs, rfl, ha, ta⟩ := b0.list
    have := ta.ofInts hys
    subst this
    exact ⟨rSum c.K, fun i => k_cr (hK i) (cr_sum (hc i)), a, ys, rfl, sq_of ha, q _ _ _ _ .refl sr (.int _)⟩
  · cases h
/-! repr(..), where the guards are known -/
def kRepr : List PyData → Option PyData
  | [d] => if d.canLay0 = true ∧ d.showable = true ∧ d.hasDict = false ∧ d.depth ≤ 40 ∧ d.shown.length ≤ sizeLine then some (.str d.shown) else none
  | _ => none
theorem ad_repr {k : Nat} (hK : ∀ i, (X i).K = c.K) (hr : ∀ i, Room k (X i).A) (hg : ∀ i, (X i).A.guards = some []) : AdC c X (RSh c) (.builtin "repr") kRepr := by
  intro O Y σ env H vs ds d Q sr b h q
  unfold kRepr at h
  split at h
  · rename_i d0
    split at h
    · rename_i g
      cases h
      obtain ⟨v, rfl, b0⟩ := b.one
      exact ⟨Eh.rRepr c.K, fun i => k_cr (hK i) (Eh.call_repr (hr i) (hg i)), v, d0, rfl, b0.dp g.1, g.2.1, g.2.2.1, g.2.2.2.1, g.2.2.2.2, q _ _ _ _ .refl sr (.str _)⟩
    · cases h
  · cases h
/-- a module's constant -/
theorem se_glob {x : Str} {v : V} {u : Value} {d : PyData} (hg : ∀ j, Gl (X j) x) (hm : ∀ j, (X j).mg x = some u) (r : RelV v u) (s : ∀ Y H, Sh c.K Y H v d) (hd : (x == ("__debug__" : Str)) = false := by decide) : SE c W X (.Name x pos) (fC d) := se_pe (fun j => pe_glob (hg j) (hm j) r hd) s
theorem ad_isB : Ad2 c X (compareOp .Is) dIsB := by
  intro O Y σ env H v1 v2 d1 d2 d Q sr b1 b2 h q
  unfold dIsB at h
  split at h
  · rename_i x y
    cases h
    cases b1.bl
    cases b2.bl
    refine ⟨_, fun _ => op_is_bl, _, _, rfl, rfl, ?_⟩
    have e : decide (x = y) = (x == y) := by cases x <;> cases y <;> rfl
    rw [e]
    exact q _ _ .refl sr (.bl _)
  · cases h
theorem ad_isntB : Ad2 c X (compareOp .IsNot) dIsntB := by
  intro O Y σ env H v1 v2 d1 d2 d Q sr b1 b2 h q
  unfold dIsntB at h
  split at h
  · rename_i x y
    cases h
    cases b1.bl
    cases b2.bl
    refine ⟨_, fun _ => op_isnot_bl, _, _, rfl, rfl, ?_⟩
    have e : (!decide (x = y)) = (!(x == y)) := by cases x <;> cases y <;> rfl
    rw [e]
    exact q _ _ .refl sr (.bl _)
  · cases h
end
end Dl
set_option Elab.async false
set_option linter.all false
set_option maxRecDepth 100000
set_option maxHeartbeats 4000000
namespace Dl
open PySem PySem.Spec PyProof.Rows L2 Evl Gx GxR RZ
/-! dicts: of ints and texts; of tuples of these (their data begin with a mark) -/
def keyK : PyData → Option Key
  | .int i => some (.inl i)
  | .str x => some (.inr x)
  | _ => none
theorem keyK_kd (k : Key) : keyK (kd k) = some k := by cases k <;> rfl
theorem keyK_eq {d : PyData} {k : Key} (h : keyK d = some k) : d = kd k := by
  cases d <;> cases h <;> rfl
def keysOf : List PyData → Option (List Key)
  | [] => some []
  | d :: r => (keyK d).bind fun k => (keysOf r).map (k :: ·)
def keyT : PyData → Option (List Key)
  | .tuple ds => keysOf ds
  | _ => none
theorem keysOf_map : ∀ ks : List Key, keysOf (ks.map kd) = some ks
  | [] => rfl
  | k :: r => by
    rw [List.map_cons]
    unfold keysOf
    rw [keyK_kd, keysOf_map r]
    rfl
theorem keysOf_eq : ∀ {ds : List PyData} {ks : List Key}, keysOf ds = some ks → ds = ks.map kd
  | [], ks, h => by
    cases h
    rfl
  | d :: r, ks, h => by
    obtain ⟨k, hk, h⟩ := Option.bind_eq_some_iff.mp h
    obtain ⟨r', hr, rfl⟩ := Option.map_eq_some_iff.mp h
    rw [keyK_eq hk, keysOf_eq hr]
    rfl
def lookK (es : List (PyData × PyData)) (k : Key) : Option PyData := (es.find? fun e => decide (keyK e.1 = some k)).map (·.2)
def lookT (es : List (PyData × PyData)) (k : List Key) : Option PyData := (es.find? fun e => decide (keyT e.1 = some k)).map (·.2)
def dGetD (es : List (PyData × PyData)) (y : PyData) : Option (Option PyData) := match es with
  | (.none, _) :: r => (keyT y).map (lookT r)
  | _ => (keyK y).map (lookK es)
def putDK (es : List (PyData × PyData)) (k : Key) (d : PyData) : List (PyData × PyData) :=
  if (es.any fun e => decide (keyK e.1 = some k)) = true then es.map (fun e => if keyK e.1 = some k then (e.1, d) else e) else es ++ [(kd k, d)]
def putDT (es : List (PyData × PyData)) (k : List Key) (d : PyData) : List (PyData × PyData) :=
  if (es.any fun e => decide (keyT e.1 = some k)) = true then es.map (fun e => if keyT e.1 = some k then (e.1, d) else e) else es ++ [(.tuple (k.map kd), d)]
section
variable {K : PySem.W.Frag} {Y : Addr → Prop} {H : Hp}
theorem ShK.look : ∀ {kvs : List (Key × V)} {es : List (PyData × PyData)}, ShK K Y H kvs es → ∀ k, (lookK es k = none ∧ valV kvs k = none) ∨ ∃ v d, lookK es k = some d ∧ valV kvs k = some v ∧ Sh K Y H v d
  | _, _, .nil, k => .inl ⟨rfl, rfl⟩
  | _, _, .cons (k := k0) (v := v) (r := r) (d := d) (es := es) a b, k => by
    by_cases h : k0 = k
    · subst h
      refine .inr ⟨v, d, ?_, valV_pos rfl, a⟩
      simp [lookK, keyK_kd]
    · have e1 : lookK ((kd k0, d) :: es) k = lookK es k := by simp [lookK, keyK_kd, h]
      rw [e1, valV_neg (p := (k0, v)) h]
      exact ShK.look b k
theorem ShT.look : ∀ {kvs : List (List Key × V)} {es : List (PyData × PyData)}, ShT K Y H kvs es → ∀ k, (lookT es k = none ∧ valV kvs k = none) ∨ ∃ v d, lookT es k = some d ∧ valV kvs k = some v ∧ Sh K Y H v d
  | _, _, .nil, k => .inl ⟨rfl, rfl⟩
  | _, _, .cons (k := k0) (v := v) (r := r) (d := d) (es := es) a b, k => by
    by_cases h : k0 = k
    · subst h
      refine .inr ⟨v, d, ?_, valV_pos rfl, a⟩
      simp [lookT, keyT, keysOf_map]
    · have e1 : lookT ((.tuple (k0.map kd), d) :: es) k = lookT es k := by simp [lookT, keyT, keysOf_map, h]
      rw [e1, valV_neg (p := (k0, v)) h]
      exact ShT.look b k
theorem ShK.any : ∀ {kvs : List (Key × V)} {es : List (PyData × PyData)}, ShK K Y H kvs es → ∀ k, (kvs.any fun kv => decide (kv.1 = k)) = es.any fun e => decide (keyK e.1 = some k)
  | _, _, .nil, k => rfl
  | _, _, .cons (k := k0) a b, k => by
    rw [List.any_cons, List.any_cons, ShK.any b k]
    simp [keyK_kd]
theorem ShT.any : ∀ {kvs : List (List Key × V)} {es : List (PyData × PyData)}, ShT K Y H kvs es → ∀ k, (kvs.any fun kv => decide (kv.1 = k)) = es.any fun e => decide (keyT e.1 = some k)
  | _, _, .nil, k => rfl
  | _, _, .cons (k := k0) a b, k => by
    rw [List.any_cons, List.any_cons, ShT.any b k]
    simp [keyT, keysOf_map]
theorem ShK.rep {k : Key} {v : V} {d : PyData} (h : Sh K Y H v d) : ∀ {kvs : List (Key × V)} {es : List (PyData × PyData)}, ShK K Y H kvs es → ShK K Y H (kvs.map fun kv => if kv.1 = k then (kv.1, v) else kv) (es.map fun e => if keyK e.1 = some k then (e.1, d) else e)
  | _, _, .nil => .nil
  | _, _, .cons (k := k0) a b => by
    rw [List.map_cons, List.map_cons]
    by_cases e : k0 = k
    · simp only [e, keyK_kd, if_true]
      exact .cons h (ShK.rep h b)
    · have : ¬ keyK (kd k0) = some k := by
        rw [keyK_kd]
        exact fun z => e (Option.some.inj z)
      simp only [e, this, if_false]
      exact .cons a (ShK.rep h b)
theorem ShT.rep {k : List Key} {v : V} {d : PyData} (h : Sh K Y H v d) : ∀ {kvs : List (List Key × V)} {es : List (PyData × PyData)}, ShT K Y H kvs es → ShT K Y H (kvs.map fun kv => if kv.1 = k then (kv.1, v) else kv) (es.map fun e => if keyT e.1 = some k then (e.1, d) else e)
  | _, _, .nil => .nil
  | _, _, .cons (k := k0) a b => by
    rw [List.map_cons, List.map_cons]
    by_cases e : k0 = k
    · simp only [e, keyT, keysOf_map, if_true]
      exact .cons h (ShT.rep h b)
    · have : ¬ keyT (.tuple (k0.map kd)) = some k := by
        show ¬ keysOf (k0.map kd) = some k
        rw [keysOf_map]
        exact fun z => e (Option.some.inj z)
      simp only [e, this, if_false]
      exact .cons a (ShT.rep h b)
theorem ShK.snoc {k : Key} {v : V} {d : PyData} (h : Sh K Y H v d) : ∀ {kvs : List (Key × V)} {es : List (PyData × PyData)}, ShK K Y H kvs es → ShK K Y H (kvs ++ [(k, v)]) (es ++ [(kd k, d)])
  | _, _, .nil => .cons h .nil
  | _, _, .cons a b => .cons a (ShK.snoc h b)
theorem ShT.snoc {k : List Key} {v : V} {d : PyData} (h : Sh K Y H v d) : ∀ {kvs : List (List Key × V)} {es : List (PyData × PyData)}, ShT K Y H kvs es → ShT K Y H (kvs ++ [(k, v)]) (es ++ [(.tuple (k.map kd), d)])
  | _, _, .nil => .cons h .nil
  | _, _, .cons a b => .cons a (ShT.snoc h b)
theorem ShK.put {kvs : List (Key × V)} {es : List (PyData × PyData)} {k : Key} {v : V} {d : PyData} (t : ShK K Y H kvs es) (h : Sh K Y H v d) : ShK K Y H (putK kvs k v) (putDK es k d) := by
  unfold putK putDK
  rw [t.any k]
  split
  · exact t.rep h
  · exact t.snoc h
theorem ShT.put {kvs : List (List Key × V)} {es : List (PyData × PyData)} {k : List Key} {v : V} {d : PyData} (t : ShT K Y H kvs es) (h : Sh K Y H v d) : ShT K Y H (putK kvs k v) (putDT es k d) := by
  unfold putK putDT
  rw [t.any k]
  split
  · exact t.rep h
  · exact t.snoc h
theorem ShK.len : ∀ {kvs : List (Key × V)} {es : List (PyData × PyData)}, ShK K Y H kvs es → kvs.length = es.length
  | _, _, .nil => rfl
  | _, _, .cons _ b => congrArg (· + 1) (ShK.len b)
theorem ShT.len : ∀ {kvs : List (List Key × V)} {es : List (PyData × PyData)}, ShT K Y H kvs es → kvs.length = es.length
  | _, _, .nil => rfl
  | _, _, .cons _ b => congrArg (· + 1) (ShT.len b)
theorem ShK.noMark {kvs : List (Key × V)} {x : PyData} {r : List (PyData × PyData)} (t : ShK K Y H kvs ((.none, x) :: r)) : False := by
  generalize e : ((PyData.none, x) :: r) = es at t
  cases t with
  | nil => cases e
  | @cons k _ _ _ _ _ _ =>
    cases k <;> cases e
theorem ShA.ofKeys : ∀ {vs : List V} {ds : List PyData} {ks : List Key}, ShA K Y H vs ds → keysOf ds = some ks → vs = ks.map kV
  | _, _, _, .nil, h => by
    cases h
    rfl
  | _, _, _, .cons (d := d) a r, h => by
    obtain ⟨k, hk, h⟩ := Option.bind_eq_some_iff.mp h
    obtain ⟨ks, h1, rfl⟩ := Option.map_eq_some_iff.mp h
    rw [ShA.ofKeys r h1]
    cases d <;> cases hk <;> cases a <;> rfl
end
section
variable {c : Cs} {O O' O1 : List Addr} {Y Y' Y1 : Addr → Prop} {H H' H1 : Hp} {σ : L2.St} {env : DEnv} {W : WX} {ι : Type} {X : ι → Cx} {e it tg a b : Expr} {es : List Expr} {s : Stmt} {p pos : Pos}
theorem Bo.dict {v : V} {es : List (PyData × PyData)} (h : Bo c.K Y H v (.dict es)) : ∃ a, v = .ref a ∧ ((∃ kvs, H a = some (.dK kvs) ∧ ShK c.K Y H kvs es) ∨ ∃ kvs r, es = (.none, .none) :: r ∧ H a = some (.dT kvs) ∧ ShT c.K Y H kvs r) := by
  rcases h with h | ⟨a, rfl, h⟩
  · cases h with
    | dK _ h t => exact ⟨_, rfl, .inl ⟨_, h, t⟩⟩
    | dT _ h t => exact ⟨_, rfl, .inr ⟨_, _, rfl, h, t⟩⟩
  · cases h with
    | dK h t => exact ⟨_, rfl, .inl ⟨_, h, t⟩⟩
    | dT h t => exact ⟨_, rfl, .inr ⟨_, _, rfl, h, t⟩⟩
theorem Bo.keyK {v : V} {d : PyData} {k : Key} (h : Bo c.K Y H v d) (e : keyK d = some k) : v = kV k := by
  cases d with
  | int i =>
    cases e
    cases h.int
    rfl
  | str x =>
    cases e
    cases h.str
    rfl
  | _ => cases e
theorem Bo.keyT {v : V} {d : PyData} {k : List Key} (h : Bo c.K Y H v d) (e : keyT d = some k) : ∃ b, v = .ref b ∧ H b = some (.tup (k.map kV)) := by
  cases d with
  | tuple ds =>
    obtain ⟨b, xs, rfl, hb, t⟩ := h.tuple
    exact ⟨b, rfl, by rw [← t.ofKeys e]; exact hb⟩
  | _ => cases e
def OSh (c : Cs) (Y : Addr → Prop) (H : Hp) : Option V → Option PyData → Prop
  | none, none => True
  | some v, some d => Sh c.K Y H v d
  | _, _ => False
theorem OSh.of {ov : Option V} {o : Option PyData} (h : (o = none ∧ ov = none) ∨ ∃ v d, o = some d ∧ ov = some v ∧ Sh c.K Y H v d) : OSh c Y H ov o := by
  rcases h with ⟨rfl, rfl⟩ | ⟨v, d, rfl, rfl, h⟩
  · trivial
  · exact h
theorem OSh.isSome {ov : Option V} {o : Option PyData} (h : OSh c Y H ov o) : ov.isSome = o.isSome := by
  cases ov <;> cases o <;> first | rfl | exact h.elim
theorem get_at {v y : V} {es : List (PyData × PyData)} {dy : PyData} {o : Option PyData} (h : Bo c.K Y H v (.dict es)) (hy : Bo c.K Y H y dy) (g : dGetD es dy = some o) : ∃ a ov, v = .ref a ∧ DGet H a y ov ∧ OSh c Y H ov o := by
  obtain ⟨a, rfl, ⟨kvs, ha, t⟩ | ⟨kvs, r, rfl, ha, t⟩⟩ := h.dict
  · have g' : (keyK dy).map (lookK es) = some o := by
      unfold dGetD at g
      split at g
      · exact t.noMark.elim
      · exact g
    obtain ⟨k, hk, e⟩ := Option.map_eq_some_iff.mp g'
    cases hy.keyK hk
    exact ⟨a, _, rfl, DGet.k (k := k) ha, e ▸ .of (t.look k)⟩
  · obtain ⟨k, hk, e⟩ := Option.map_eq_some_iff.mp (show (keyT dy).map (lookT r) = some o from g)
    obtain ⟨b, rfl, hb⟩ := hy.keyT hk
    exact ⟨a, _, rfl, DGet.t ha hb, e ▸ .of (t.look k)⟩
/-! in, not in, [..] where the one may be a dict -/
def dInA (x y : PyData) : Option PyData := match y with
  | .dict es => (dGetD es x).map fun o => .bool o.isSome
  | _ => dIn x y
def dNotInA (x y : PyData) : Option PyData := match y with
  | .dict es => (dGetD es x).map fun o => .bool (!o.isSome)
  | _ => dNotIn x y
def dIx (x y : PyData) : Option PyData := match x with
  | .dict es => (dGetD es y).bind id
  | _ => dIxS x y
def isDict : PyData → Bool
  | .dict _ => true
  | _ => false
theorem f2_congr {op op' : PyData → PyData → Option PyData} {Fa Fb : DEnv → R BD} (h : ∀ a e1 b e2 x y, Fa env = .ok a e1 → Fb e1 = .ok b e2 → a.get e2 = some x → b.get e2 = some y → op x y = op' x y) : f2 op Fa Fb env = f2 op' Fa Fb env := by
  unfold f2
  cases hA : Fa env with
  | bad => rfl
  | exc x e => rfl
  | ok a e1 =>
    show (Fb e1).bind _ = (Fb e1).bind _
    cases hB : Fb e1 with
    | bad => rfl
    | exc x e => rfl
    | ok b e2 =>
      show R.of _ _ = R.of _ _
      congr 1
      cases h1 : a.get e2 with
      | none => rfl
      | some x =>
        cases h2 : b.get e2 with
        | none => rfl
        | some y => exact h a e1 b e2 x y hA hB h1 h2
/-- is the left, the right one a dict? -/
def lDict (Fa Fb : DEnv → R BD) (env : DEnv) : Prop := ∃ a e1 b e2 es, Fa env = .ok a e1 ∧ Fb e1 = .ok b e2 ∧ a.get e2 = some (.dict es)
def rDict (Fa Fb : DEnv → R BD) (env : DEnv) : Prop := ∃ a e1 b e2 es, Fa env = .ok a e1 ∧ Fb e1 = .ok b e2 ∧ b.get e2 = some (.dict es)
def dIxD (x y : PyData) : Option PyData := match x with
  | .dict es => (dGetD es y).bind id
  | _ => none
def dInD (x y : PyData) : Option PyData := match y with
  | .dict es => (dGetD es x).map fun o => .bool o.isSome
  | _ => none
def dNotInD (x y : PyData) : Option PyData := match y with
  | .dict es => (dGetD es x).map fun o => .bool (!o.isSome)
  | _ => none
theorem l_is {op : PyData → PyData → Option PyData} {op' : PyData → PyData → Option PyData} {Fa Fb : DEnv → R BD} (dd : lDict Fa Fb env) (h : ∀ es y, op (.dict es) y = op' (.dict es) y) : f2 op Fa Fb env = f2 op' Fa Fb env := by
  obtain ⟨ba, e1, bb, e2, des, hA, hB, hg⟩ := dd
  refine f2_congr fun a e1' b e2' x y hA' hB' h1 h2 => ?_
  rw [hA] at hA'
  cases hA'
  rw [hB] at hB'
  cases hB'
  rw [hg] at h1
  cases h1
  exact h des y
theorem l_not {op : PyData → PyData → Option PyData} {op' : PyData → PyData → Option PyData} {Fa Fb : DEnv → R BD} (dd : ¬ lDict Fa Fb env) (h : ∀ x y, (∀ es, x ≠ .dict es) → op x y = op' x y) : f2 op Fa Fb env = f2 op' Fa Fb env :=
  f2_congr fun a e1 b e2 x y hA hB h1 h2 => h x y fun es e => dd ⟨a, e1, b, e2, es, hA, hB, e ▸ h1⟩
theorem r_is {op : PyData → PyData → Option PyData} {op' : PyData → PyData → Option PyData} {Fa Fb : DEnv → R BD} (dd : rDict Fa Fb env) (h : ∀ x es, op x (.dict es) = op' x (.dict es)) : f2 op Fa Fb env = f2 op' Fa Fb env := by
  obtain ⟨ba, e1, bb, e2, des, hA, hB, hg⟩ := dd
  refine f2_congr fun a e1' b e2' x y hA' hB' h1 h2 => ?_
  rw [hA] at hA'
  cases hA'
  rw [hB] at hB'
  cases hB'
  rw [hg] at h2
  cases h2
  exact h x des
theorem r_not {op : PyData → PyData → Option PyData} {op' : PyData → PyData → Option PyData} {Fa Fb : DEnv → R BD} (dd : ¬ rDict Fa Fb env) (h : ∀ x y, (∀ es, y ≠ .dict es) → op x y = op' x y) : f2 op Fa Fb env = f2 op' Fa Fb env :=
  f2_congr fun a e1 b e2 x y hA hB h1 h2 => h x y fun es e => dd ⟨a, e1, b, e2, es, hA, hB, e ▸ h2⟩
open Classical in
theorem se_ix {Fa Fb : DEnv → R BD} (hK : ∀ i, (X i).K = c.K) (hu : ∀ i, (X i).A.units + 65 < cLine) (ha : SB c W X a Fa) (hb : SB c W X b Fb) (hs : PlainIx b) (hs2 : NoSl b) : SE c W X (.Subscript a b pos) (f2 dIx Fa Fb) := fun O Y σ env H Q sr pp => by
  by_cases dd : lDict Fa Fb env
  · rw [l_is (op := dIx) (op' := dIxD) dd fun _ _ => rfl] at pp
    refine ⟨tDGet (RD X a) (RD X b), fun i => pe_dget (by have := hu i; omega) (RD.pe i) (RD.pe i) hs2, ?_⟩
    refine two (f := fun x y H2 Q => ∃ a v, x = .ref a ∧ DGet H2 a y (some v) ∧ Q v H2) ha hb sr pp fun O2 Y2 e2' H2 x y d1 d2 d sr2 b1 b2 h q => ?_
    cases d1 with
    | dict es =>
      obtain ⟨o, ho, h⟩ := Option.bind_eq_some_iff.mp (show (dGetD es d2).bind id = some d from h)
      cases h
      obtain ⟨a, ov, rfl, g, sh⟩ := get_at b1 b2 ho
      cases ov with
      | none => exact sh.elim
      | some w => exact ⟨a, w, rfl, g, q _ _ .refl sr2 sh⟩
    | _ => cases h
  · rw [l_not (op := dIx) (op' := dIxS) dd fun x y n => by
      cases x with
      | dict es => exact (n es rfl).elim
      | _ => rfl] at pp
    exact se_ixS hK ha hb hs O Y σ env H Q sr pp
theorem in_core {Fa Fb : DEnv → R BD} {Q : VK} (ha : SB c W X a Fa) (hb : SB c W X b Fb) (sr : SR c O Y σ env H) (pp : Post c (RSh c) O Y H σ Q W (f2 dInD Fa Fb env)) : tDIn (RD X a) (RD X b) σ H Q := by
  refine two (f := fun y x H2 Q => ∃ a o, x = .ref a ∧ DGet H2 a y o ∧ Q (.bl o.isSome) H2) ha hb sr pp fun O2 Y2 e2' H2 x y d1 d2 d sr2 b1 b2 h q => ?_
  cases d2 with
  | dict es =>
    obtain ⟨o, ho, rfl⟩ := Option.map_eq_some_iff.mp (show (dGetD es d1).map (fun o => .bool o.isSome) = some d from h)
    obtain ⟨a, ov, rfl, g, sh⟩ := get_at b2 b1 ho
    exact ⟨a, ov, rfl, g, q _ _ .refl sr2 (sh.isSome ▸ .bl _)⟩
  | _ => cases h
theorem nin_core {Fa Fb : DEnv → R BD} {Q : VK} (ha : SB c W X a Fa) (hb : SB c W X b Fb) (sr : SR c O Y σ env H) (pp : Post c (RSh c) O Y H σ Q W (f2 dNotInD Fa Fb env)) : tDNotIn (RD X a) (RD X b) σ H Q := by
  refine two (f := fun y x H2 Q => ∃ a o, x = .ref a ∧ DGet H2 a y o ∧ Q (.bl (!o.isSome)) H2) ha hb sr pp fun O2 Y2 e2' H2 x y d1 d2 d sr2 b1 b2 h q => ?_
  cases d2 with
  | dict es =>
    obtain ⟨o, ho, rfl⟩ := Option.map_eq_some_iff.mp (show (dGetD es d1).map (fun o => .bool (!o.isSome)) = some d from h)
    obtain ⟨a, ov, rfl, g, sh⟩ := get_at b2 b1 ho
    exact ⟨a, ov, rfl, g, q _ _ .refl sr2 (sh.isSome ▸ .bl _)⟩
  | _ => cases h
open Classical in
theorem se_in {Fa Fb : DEnv → R BD} (hK : ∀ i, (X i).K = c.K) (hu : ∀ i, (X i).A.units + 65 < cLine) (ha : SB c W X a Fa) (hb : SB c W X b Fb) (hm : behindInMarks .In b = false) : SE c W X (.Compare a [.In] [b] pos) (f2 dInA Fa Fb) := fun O Y σ env H Q sr pp => by
  by_cases dd : rDict Fa Fb env
  · rw [r_is (op := dInA) (op' := dInD) dd fun _ _ => rfl] at pp
    exact ⟨_, fun i => pe_cmp (pc_din (by have := hu i; omega) (RD.pe i) (RD.pe i)) hm, in_core ha hb sr pp⟩
  · rw [r_not (op := dInA) (op' := dIn) dd fun x y n => by
      cases y with
      | dict es => exact (n es rfl).elim
      | _ => rfl] at pp
    exact se_cmp (ad_in hK hu) ha hb hm O Y σ env H Q sr pp
open Classical in
theorem se_notIn {Fa Fb : DEnv → R BD} (hK : ∀ i, (X i).K = c.K) (hu : ∀ i, (X i).A.units + 65 < cLine) (ha : SB c W X a Fa) (hb : SB c W X b Fb) (hm : behindInMarks .NotIn b = false) : SE c W X (.Compare a [.NotIn] [b] pos) (f2 dNotInA Fa Fb) := fun O Y σ env H Q sr pp => by
  by_cases dd : rDict Fa Fb env
  · rw [r_is (op := dNotInA) (op' := dNotInD) dd fun _ _ => rfl] at pp
    exact ⟨_, fun i => pe_cmp (pc_dnotin (by have := hu i; omega) (RD.pe i) (RD.pe i)) hm, nin_core ha hb sr pp⟩
  · rw [r_not (op := dNotInA) (op' := dNotIn) dd fun x y n => by
      cases y with
      | dict es => exact (n es rfl).elim
      | _ => rfl] at pp
    exact se_cmp (ad_notIn hK hu) ha hb hm O Y σ env H Q sr pp
theorem fT_b {F : DEnv → R PyData} {Q : Bool → Hp → Prop} (p : Post c RBl O Y H σ Q W (fT F env)) : Post c (RSh c) O Y H σ (fun x H' => ∃ k, x = .bl k ∧ Q k H') W (F env) := by
  unfold fT at p
  cases hF : F env with
  | bad =>
    rw [hF] at p
    exact p.elim
  | exc x e =>
    rw [hF] at p
    exact p
  | ok d e =>
    rw [hF] at p
    obtain ⟨k, rfl, p⟩ := bool_post p
    intro v H' O' Y' st sr' sh
    cases sh
    exact ⟨k, rfl, p k H' O' Y' st sr' rfl⟩
open Classical in
theorem st_in {Fa Fb : DEnv → R BD} (hK : ∀ i, (X i).K = c.K) (hu : ∀ i, (X i).A.units + 65 < cLine) (ha : SB c W X a Fa) (hb : SB c W X b Fb) (hm : behindInMarks .In b = false) : ST c W X (.Compare a [.In] [b] pos) (fT (f2 dInA Fa Fb)) := fun O Y σ env H Q sr pp => by
  by_cases dd : rDict Fa Fb env
  · have p2 := fT_b pp
    rw [r_is (op := dInA) (op' := dInD) dd fun _ _ => rfl] at p2
    exact ⟨tB (tDIn (RD X a) (RD X b)), fun i => pt_cmp (pc_din (by have := hu i; omega) (RD.pe i) (RD.pe i)) hm, in_core ha hb sr p2⟩
  · have e : fT (f2 dInA Fa Fb) env = fT (f2 dIn Fa Fb) env := by
      unfold fT
      rw [r_not (op := dInA) (op' := dIn) dd fun x y n => by
        cases y with
        | dict es => exact (n es rfl).elim
        | _ => rfl]
    rw [e] at pp
    exact st_cmp (ad_in hK hu) ha hb hm O Y σ env H Q sr pp
open Classical in
theorem st_notIn {Fa Fb : DEnv → R BD} (hK : ∀ i, (X i).K = c.K) (hu : ∀ i, (X i).A.units + 65 < cLine) (ha : SB c W X a Fa) (hb : SB c W X b Fb) (hm : behindInMarks .NotIn b = false) : ST c W X (.Compare a [.NotIn] [b] pos) (fT (f2 dNotInA Fa Fb)) := fun O Y σ env H Q sr pp => by
  by_cases dd : rDict Fa Fb env
  · have p2 := fT_b pp
    rw [r_is (op := dNotInA) (op' := dNotInD) dd fun _ _ => rfl] at p2
    exact ⟨tB (tDNotIn (RD X a) (RD X b)), fun i => pt_cmp (pc_dnotin (by have := hu i; omega) (RD.pe i) (RD.pe i)) hm, nin_core ha hb sr p2⟩
  · have e : fT (f2 dNotInA Fa Fb) env = fT (f2 dNotIn Fa Fb) env := by
      unfold fT
      rw [r_not (op := dNotInA) (op' := dNotIn) dd fun x y n => by
        cases y with
        | dict es => exact (n es rfl).elim
        | _ => rfl]
    rw [e] at pp
    exact st_cmp (ad_notIn hK hu) ha hb hm O Y σ env H Q sr pp
theorem _root_.L2.Room.u65 {k : Nat} {A : Around} (r : Room k A) : A.units + 65 < cLine := by have := r.un; omega
theorem sss_bad {ss : List Stmt} : SSs c W X ss gBad := fun O Y σ env H D sr p => p.elim
end
end Dl
set_option Elab.async false
set_option linter.all false
set_option maxRecDepth 100000
set_option maxHeartbeats 4000000
/-! {k: v for .. in ..}, the keys tuples of whole numbers and texts -/
namespace Dct
open PySem PySem.Spec PyProof.Rows L2
/-- a new pair under a tuple's key -/
theorem put_t {Y : Cx} {pins : List (Addr × Obj)} {σ : L2.St} {H : Hp} {s : Shared} {E : Value → Shared → Prop} {N b : Addr} {kvs : List (List Key × V)} {k : List Key} {v : V} {r : Value} {Q : Unit → Shared → Prop}
    (hu : Y.A.units + 1 < cLine) (I : Inv Y pins σ H s) (hN : H N = some (.dT kvs)) (hb : H b = some (.tup (k.map kV))) (room : kvs.length < sizeLine) (rv : RelV v r)
    (go : ∀ s', Inv Y pins σ (upd H N (.dT (putK kvs k v))) s' → Q () s') : wpAny (model Y.prog Y.w) Y.A (dictSet N (.ref b) r) Q E s := by
  obtain ⟨len, low, xs, kt, dict⟩ := dt_of I.hok hN
  have fits : xs.length ≤ sizeLine := (Paired.length kt) ▸ len
  have more := length_putK kvs k v
  refine wpAny_dictSet_heap (hsz := fits) (show Y.A.units < cLine by omega) (key_of I.hok hb) dict fun heap dict' rest => go _ ?_
  obtain ⟨ob, ents, ep, at_, ex, dat, els, _, uniq⟩ := dict'
  refine d_write I (by rw [hN]; trivial) rest ⟨ob, at_⟩ ⟨by omega, low, _, (kt.put k hb rv).keeps fun c ys hc => ?_, ob, ents, ep, at_, ex, dat, els, uniq⟩
  exact (upd_ne (ne_of hc hN fun z => nomatch z)).trans hc
/-- what such a comprehension asks: N the new dict -/
def tDcT (wi : TI) (g : TG) (tt : TT) (tk tv : TE) (vs : List Nat) : TE := fun σ H Q => wi σ H fun J H1 => ∀ N, H1 N = none → ∃ T : Nat → Nat → Hp → Prop, (∃ m, T 0 m (upd H1 N (.dT []))) ∧
  ∀ i m H, T i m H → (J.stop i H ∧ Q (.ref N) H) ∨ (J.go i H ∧ ∃ On : Hp → Prop, (∀ H', On H' → ∃ m', m' < m ∧ T (i + 1) m' H') ∧
    ∀ x H', J.yld i H x H' → g x (wipe σ vs) H' fun σ2 H2 => wipe σ2 vs = wipe σ vs ∧ tt σ2 H2 fun b H3 =>
      if b = true then tk σ2 H3 fun y H4 => tv σ2 H4 fun z H5 => ∃ kvs k a, y = .ref a ∧ H5 a = some (.tup (k.map kV)) ∧ H5 N = some (.dT kvs) ∧ kvs.length < sizeLine ∧ On (upd H5 N (.dT (putK kvs k z))) else On H3)
abbrev inBlk (X : Cx) (scope : Scope) (J : Cx → Prop) : Prop := ∀ (s : Shared) (H : Hp) (C : Addr) (cl : List (Str × Addr)) (fp : List Addr), J (X.blk s H scope (compEnvC scope cl C X.env) fp)
abbrev emptyD : Obj := { cls := .type "dict", data := .dict #[] }
section
variable {X : Cx}
theorem pe_dcT {kx vx tg iter : Expr} {ifs : List Expr} {scope : Scope} {own : List (Str × Nat)} {pos : Pos} {wi : TI} {g : TG} {tt : TT} {tk tv : TE} (cm : X.calm = true) (un : X.A.units + 1 < cLine) (uq : X.N.Nodup) (pi : PI X tg iter wi) (bo : BlkOk X.N X.env.scope scope own)
    (gg : inBlk X scope fun Y => PG Y tg g) (gt : inBlk X scope fun Y => PTs Y ifs tt) (gk : inBlk X scope fun Y => PE Y kx tk) (gv : inBlk X scope fun Y => PE Y vx tv) (nofold : ∀ x, foldedSetIterable iter X.env x = pure x := by intro _; rfl) :
    PE X (.DictComp kx vx [⟨tg, iter, ifs, 0⟩] scope pos) (tDcT wi g tt tk tv (own.map (·.2))) := by
  refine ⟨fun pins s0 σ H0 Q I0 asks => ?_⟩
  rw [arm_eval_DictComp]
  have caps : ∀ y ∈ scope.names, y.2 = .free → ∃ c, X.env.cells.lookup y.1 = some c := fun y hy e => (bo.free y hy e).elim (fun k => I0.ok.has _ (.inl k)) fun k => I0.ok.has _ (.inr k)
  refine wpAny_comprehension_free (use := none) rfl nofold (closure_ok caps) bo.kind (fun y hy e => (bo.uniq y hy).trans (congrArg some e)) ?_
  refine thn (pi.run pins s0 σ H0 _ I0 asks) fun xv s1 walked => thn walked fun itv s2 made => ?_
  obtain ⟨it, fp, tn, J, H2, rfl, I2, W, at0, frame, rest⟩ := made
  refine wpAny_newObj_type (newEnv_comp ?_)
  obtain ⟨N, hN⟩ : ∃ N, N = s2.heap.objs.size := ⟨_, rfl⟩
  rw [← hN]
  have freshN : H2 N = none := I2.hok.fresh (Nat.le_of_eq hN.symm)
  obtain ⟨T, ⟨m0, first⟩, turns⟩ := rest N freshN
  obtain ⟨s3, hs3⟩ : ∃ s3 : Shared, s3 = { s2 with heap := s2.heap.push emptyD } := ⟨_, rfl⟩
  have heap3 : s3.heap = s2.heap.push emptyD := by rw [hs3]
  have I3 : Inv X pins σ (upd H2 N (.dT [])) s3 := by
    subst hs3 hN
    exact I2.laid (t' := s2.toks) (fun b o e => Heap.get?_push_of_some _ e) (Nat.le_refl _) (dt_empty s2.heap I2.big)
  have old : ∀ b ∈ fp, b < s2.heap.objs.size := fun b hb => (W.obj _ _ at0 b hb).elim fun o e => Heap.lt_size e.1
  have frame3 : ∀ b ∈ fp, FpOk X pins (upd H2 N (.dT [])) b ∧ b < s3.heap.objs.size := fun b hb =>
    ⟨⟨(upd_ne (Nat.ne_of_lt (hN ▸ old b hb))).trans (frame b hb).1, (frame b hb).2⟩, by rw [heap3, Heap.size_push]; exact Nat.lt_succ_of_lt (old b hb)⟩
  have at3 : tn 0 s3.heap := W.keep _ _ _ at0 fun b _ o e => heap3 ▸ Heap.get?_push_of_some _ e
  have I4 := block_start I3 bo uq frame3
  have qg := gg s3 (upd H2 N (.dT [])) s3.heap.objs.size (cellsFrom (s3.heap.objs.size + 1) scope.names (cloFrom X.env.cells scope.names [])) fp
  have qt := gt s3 (upd H2 N (.dT [])) s3.heap.objs.size (cellsFrom (s3.heap.objs.size + 1) scope.names (cloFrom X.env.cells scope.names [])) fp
  have qk := gk s3 (upd H2 N (.dT [])) s3.heap.objs.size (cellsFrom (s3.heap.objs.size + 1) scope.names (cloFrom X.env.cells scope.names [])) fp
  have qv := gv s3 (upd H2 N (.dT [])) s3.heap.objs.size (cellsFrom (s3.heap.objs.size + 1) scope.names (cloFrom X.env.cells scope.names [])) fp
  rw [← hs3]
  show codeAny _ _ (.compStart (.DictComp kx vx [⟨tg, iter, ifs, 0⟩] scope pos) 0 (.ref it) (.ref N) (compEnvC scope (cellsFrom (s3.heap.objs.size + 1) scope.names (cloFrom X.env.cells scope.names [])) s3.heap.objs.size X.env)) (compPost (model X.prog X.w) X.A X.xe none (EP X pins σ Q) (.ref N) s3.heap.objs.size) { s3 with heap := pushCells (s3.heap.push emptyD) scope.names }
  have free3 : ∀ b ∈ fp, (upd H2 N (.dT [])) b = none := fun b hb => (frame3 b hb).1.1
  generalize env : compEnvC scope (cellsFrom (s3.heap.objs.size + 1) scope.names (cloFrom X.env.cells scope.names [])) s3.heap.objs.size X.env = ce at I4 qg qt qk qv ⊢
  have locs : ce.locals = s3.heap.objs.size := by rw [← env]; rfl
  generalize hH3 : upd H2 N (.dT []) = H3 at I3 I4 qg qt qk qv first free3 frame3
  generalize hs4 : ({ s3 with heap := pushCells (s3.heap.push emptyD) scope.names } : Shared) = s4 at I4 ⊢
  have at4 : tn 0 s4.heap := W.keep _ _ _ at3 fun b _ o e => hs4 ▸ pushCells_keeps _ _ _ _ (Heap.get?_push_of_some _ e)
  let Y := X.blk s3 H3 scope ce fp
  have held : ∀ {σ' : L2.St} {H' : Hp} {s' : Shared}, Inv Y [] σ' H' s' → (∀ b ∈ fp, H' b = none) → ∀ b ∈ fp, FpOk Y [] H' b := fun {σ' H' s'} I' no b hb => by
    refine ⟨no b hb, (I'.ok.exf b hb).1, I'.ok.exfs b hb, .inl hb, (I'.ok.exf b hb).2, fun p hp => ?_⟩
    exact (List.not_mem_nil (show p ∈ ([] : List (Addr × Obj)) from hp)).elim
  have loop : codeAny (model X.prog X.w) X.A (.compLoop (.DictComp kx vx [⟨tg, iter, ifs, 0⟩] scope pos) 0 (.ref it) (.ref N) ce) (compPost (model X.prog X.w) X.A X.xe none (EP X pins σ Q) (.ref N) s3.heap.objs.size) s4 := by
    refine compLoop_anyD (fun m s' => ∃ i H', Inv Y [] (wipe σ (own.map (·.2))) H' s' ∧ tn i s'.heap ∧ (∀ b ∈ fp, H' b = none) ∧ T i m H') ?_ m0 ⟨0, H3, I4, at4, free3, first⟩
    rintro m s5 ⟨i, H5, I5, at5, free5, t5⟩
    rcases turns i m H5 t5 with ⟨stop, wish⟩ | ⟨go, On, onward, turn⟩
    · refine thnF (W.done Y rfl rfl rfl cm i [] s5 _ H5 (fun _ _ => False) I5 (held I5 free5) at5 stop) fun none6 s6 ⟨is6, I6⟩ => ?_
      subst is6
      have back : Inv X pins σ H5 s6 := I3.call' (ch := fp) I6.os I6.base I6.hok I6.bare fun b hb => by
        obtain ⟨_, p1, p2, p3, p4, p5⟩ := (frame3 b hb).1
        exact ⟨p3, p1, p4, p5⟩
      have noC : H5 s3.heap.objs.size = none := locs ▸ (show H5 ce.locals = none from I6.free)
      obtain ⟨ns, names, _⟩ := I6.loc
      have names' : s6.heap.Ns s3.heap.objs.size ns := locs ▸ (show s6.heap.Ns ce.locals ns from names)
      obtain ⟨c0, c1, c2, c3, c4, c5⟩ := I3.fpOk (Nat.le_refl _) noC
      exact ⟨ns, names', fun h'' same => ⟨.ref N, H5, back.turned (t' := s6.toks) (fun b o hb e => (same.2 b hb).trans e) c0 c1 c3 c4 c5, rfl, wish⟩⟩
    · refine thnF (W.item Y rfl rfl rfl cm i [] s5 _ H5 (fun _ _ => False) I5 (held I5 free5) at5 go) fun some6 s6 ⟨u, is6, next6⟩ => ?_
      subst is6
      refine thnF next6 fun _ s7 ⟨x, H7, I7, rx, yields, at7, free7⟩ => ?_
      refine thnF (qg.run _ s7 _ H7 x u _ (I7.pinned (held I7 free7) (W.obj _ _ at7)) rx (turn x H7 yields)) fun _ s8 ⟨σ8, H8, I8, same8, tests⟩ => ?_
      refine thnF (qt.run _ s8 σ8 H8 _ I8 tests) fun keepIt s9 ⟨H9, I9, then9⟩ => ?_
      have close : ∀ {s' : Shared} {H' : Hp}, Inv Y ([] ++ pinsAt fp s7.heap) σ8 H' s' → On H' → ∃ m', m' < m ∧ ∃ i H', Inv Y [] (wipe σ (own.map (·.2))) H' s' ∧ tn i s'.heap ∧ (∀ b ∈ fp, H' b = none) ∧ T i m' H' := fun {s' H'} I' on => by
        obtain ⟨m', less, t'⟩ := onward H' on
        have pinned : ∀ b ∈ fp, ∀ o, s7.heap.get? b = some o → s'.heap.get? b = some o ∧ H' b = none := fun b hb o e => by
          have z := I'.pin (b, o) (List.mem_append_right _ (List.mem_append_right _ (mem_pinsAt hb e)))
          exact ⟨z.1, z.2.1⟩
        refine ⟨m', less, i + 1, H', (I'.unpinned (pins := [])).weak (by rw [← same8, wipe_length]) (fun j v e => ?_), W.keep _ _ _ at7 fun b hb o e => (pinned b hb o e).1, fun b hb => ?_, t'⟩
        · exact (wipe_some (same8 ▸ e)).1
        · exact (W.obj _ _ at7 b hb).elim fun o e => (pinned b hb o e.1).2
      cases keepIt with
      | false => exact close I9 then9
      | true =>
        refine thnF (qk.run _ s9 σ8 H9 _ I9 then9) fun kv s10 ⟨yk, H10, I10, rk, then10⟩ => ?_
        refine thnF (qv.run _ s10 σ8 H10 _ I10 then10) fun vv s11 ⟨yv, H11, I11, rv, kvs, k, a, ek, ha, hN11, room, on⟩ => ?_
        subst ek
        cases (show kv = Value.ref a from rk)
        exact put_t (Y := Y) un I11 hN11 ha room rv fun s12 I12 => close I12 on
  exact codeAny_compStart_dict loop (W.self X.A 0 _ _ _ at4 loop)
/-- over a tuple that stays, the target a name, no test -/
theorem dcT_tup {K : PySem.W.Frag} {a : Addr} {xs : List V} {tk tv : TE} {vs : List Nat} {j : Nat} {σ : L2.St} {H1 : Hp} {N : Addr} {Qd : Hp → Prop} (Pv : Nat → Hp → Prop) (h0 : Pv 0 (upd H1 N (.dT []))) (hl : ∀ i H, i ≤ xs.length → Pv i H → SqT K H a xs)
    (hw : ∀ x, wipe ((wipe σ vs).set j (some x)) vs = wipe σ vs)
    (hs : ∀ i x H, xs[i]? = some x → Pv i H → tk ((wipe σ vs).set j (some x)) H fun y H4 => tv ((wipe σ vs).set j (some x)) H4 fun z H5 => ∃ kvs k b, y = .ref b ∧ H5 b = some (.tup (k.map kV)) ∧ H5 N = some (.dT kvs) ∧ kvs.length < sizeLine ∧ Pv (i + 1) (upd H5 N (.dT (putK kvs k z))))
    (hd : ∀ H, Pv xs.length H → Qd H) :
    ∃ T : Nat → Nat → Hp → Prop, (∃ m, T 0 m (upd H1 N (.dT []))) ∧ ∀ i m H, T i m H → ((Itt K a).stop i H ∧ Qd H) ∨ ((Itt K a).go i H ∧ ∃ On : Hp → Prop, (∀ H', On H' → ∃ m', m' < m ∧ T (i + 1) m' H') ∧
      ∀ x H', (Itt K a).yld i H x H' → gName j x (wipe σ vs) H' fun σ2 H2 => wipe σ2 vs = wipe σ vs ∧ tYes σ2 H2 fun b H3 =>
        if b = true then tk σ2 H3 fun y H4 => tv σ2 H4 fun z H5 => ∃ kvs k b, y = .ref b ∧ H5 b = some (.tup (k.map kV)) ∧ H5 N = some (.dT kvs) ∧ kvs.length < sizeLine ∧ On (upd H5 N (.dT (putK kvs k z))) else On H3) := by
  refine ⟨fun i m H => m = xs.length - i ∧ i ≤ xs.length ∧ Pv i H, ⟨xs.length, by omega, Nat.zero_le _, h0⟩, ?_⟩
  rintro i m H ⟨rfl, hi, pp⟩
  have st := hl i H hi pp
  by_cases lt : i < xs.length
  · refine .inr ⟨⟨xs, _, st, List.getElem?_eq_getElem lt⟩, Pv (i + 1), fun H' p' => ⟨xs.length - (i + 1), by omega, rfl, lt, p'⟩, fun x H' y => ?_⟩
    obtain ⟨rfl, f⟩ := y
    exact ⟨hw x, hs i x _ (f xs st) pp⟩
  · obtain rfl : i = xs.length := by omega
    exact .inl ⟨⟨xs, st, Nat.le_refl _⟩, hd H pp⟩
end
end Dct
set_option Elab.async false
set_option linter.all false
set_option maxRecDepth 100000
set_option maxHeartbeats 4000000
namespace Dl
open PySem PySem.Spec PyProof.Rows L2 Evl Gx GxR RZ
/-! dict comprehensions -/
def dcFK (vs : List Nat) (B : Bd) (T : DEnv → R Bool) (Ek Ev : DEnv → R PyData) : List PyData → List (PyData × PyData) → DEnv → R (List (PyData × PyData))
  | [], acc, env => .ok acc env
  | d :: ds, acc, env => match B d env with
    | none => .bad
    | some e1 => match T e1 with
      | .ok true e2 => match Ek e2 with
        | .ok y e3 => match Ev e3 with
          | .ok r e4 => match keyK y with
            | some k => if acc.length < sizeLine then dcFK vs B T Ek Ev ds (putDK acc k r) (wipeE e4 vs) else .bad
            | none => .bad
          | _ => .bad
        | _ => .bad
      | .ok false e2 => dcFK vs B T Ek Ev ds acc (wipeE e2 vs)
      | _ => .bad
theorem dcFK_cons {vs : List Nat} {B : Bd} {T : DEnv → R Bool} {Ek Ev : DEnv → R PyData} {d : PyData} {ds : List PyData} {acc : List (PyData × PyData)} {env : DEnv} : dcFK vs B T Ek Ev (d :: ds) acc env = match B d env with
    | none => .bad
    | some e1 => match T e1 with
      | .ok true e2 => match Ek e2 with
        | .ok y e3 => match Ev e3 with
          | .ok r e4 => match keyK y with
            | some k => if acc.length < sizeLine then dcFK vs B T Ek Ev ds (putDK acc k r) (wipeE e4 vs) else .bad
            | none => .bad
          | _ => .bad
        | _ => .bad
      | .ok false e2 => dcFK vs B T Ek Ev ds acc (wipeE e2 vs)
      | _ => .bad := rfl
def fDcK (F : DEnv → R (List PyData)) (vs : List Nat) (B : Bd) (T : DEnv → R Bool) (Ek Ev : DEnv → R PyData) : DEnv → R PyData := fun env => (F env).bind fun ds e => (dcFK vs B T Ek Ev ds [] (wipeE e vs)).bind fun rs e2 => .ok (.dict rs) e2
def dcFT (vs : List Nat) (B : Bd) (T : DEnv → R Bool) (Ek Ev : DEnv → R PyData) : List PyData → List (PyData × PyData) → DEnv → R (List (PyData × PyData))
  | [], acc, env => .ok acc env
  | d :: ds, acc, env => match B d env with
    | none => .bad
    | some e1 => match T e1 with
      | .ok true e2 => match Ek e2 with
        | .ok y e3 => match Ev e3 with
          | .ok r e4 => match keyT y with
            | some k => if acc.length < sizeLine then dcFT vs B T Ek Ev ds (putDT acc k r) (wipeE e4 vs) else .bad
            | none => .bad
          | _ => .bad
        | _ => .bad
      | .ok false e2 => dcFT vs B T Ek Ev ds acc (wipeE e2 vs)
      | _ => .bad
theorem dcFT_cons {vs : List Nat} {B : Bd} {T : DEnv → R Bool} {Ek Ev : DEnv → R PyData} {d : PyData} {ds : List PyData} {acc : List (PyData × PyData)} {env : DEnv} : dcFT vs B T Ek Ev (d :: ds) acc env = match B d env with
    | none => .bad
    | some e1 => match T e1 with
      | .ok true e2 => match Ek e2 with
        | .ok y e3 => match Ev e3 with
          | .ok r e4 => match keyT y with
            | some k => if acc.length < sizeLine then dcFT vs B T Ek Ev ds (putDT acc k r) (wipeE e4 vs) else .bad
            | none => .bad
          | _ => .bad
        | _ => .bad
      | .ok false e2 => dcFT vs B T Ek Ev ds acc (wipeE e2 vs)
      | _ => .bad := rfl
def fDcT (F : DEnv → R (List PyData)) (vs : List Nat) (B : Bd) (T : DEnv → R Bool) (Ek Ev : DEnv → R PyData) : DEnv → R PyData := fun env => (F env).bind fun ds e => (dcFT vs B T Ek Ev ds [] (wipeE e vs)).bind fun rs e2 => .ok (.dict ((.none, .none) :: rs)) e2
section
variable {c : Cs} {O O' O1 : List Addr} {Y Y' Y1 : Addr → Prop} {H H' H1 : Hp} {σ : L2.St} {env : DEnv} {W : WX} {ι : Type} {X : ι → Cx} {e it tg : Expr} {es : List Expr} {p pos : Pos}
theorem dc_readK {kx vx tg it : Expr} {ifs : List Expr} {scope : Scope} {vs : List Nat} {F : DEnv → R (List PyData)} {B : Bd} {bs : List Nat} {T : DEnv → R Bool} {Ek Ev : DEnv → R PyData} {Q : VK} (hi : SI c W X tg it F) (hg : SG c (blkF X scope) tg B bs) (ht : SF c never (blkF X scope) ifs T) (hk : SE c never (blkF X scope) kx Ek) (he : SE c never (blkF X scope) vx Ev)
    (hbs : ∀ b ∈ bs, b ∈ vs) (sr : SR c O Y σ env H) (p : Post c (ROw c) O Y H σ Q W (fDcK F vs B T Ek Ev env)) : tDc (RI X tg it) (RG (blkF X scope) tg) (RTs (blkF X scope) ifs) (RD (blkF X scope) kx) (RD (blkF X scope) vx) vs σ H Q := by
  refine hi.next sr p fun ds e0 J H1 O1 Y1 st1 sr1 walk p1 D nD => ?_
  obtain ⟨st2, sr2, _, m2⟩ := own_new (o := .dK []) sr1 nD rfl
  have lk : ∀ i, i ∉ vs → (wipe σ vs)[i]? = σ[i]? := fun i h => wipe_out h
  have nA : V.ref D ∉ c.A0 := fun h => sr1.a0 D h nD
  -- the state with D read only
  have sr3 : SR c O1 (fun b => Y1 b ∨ b = D) (wipe σ vs) (wipeE e0 vs) (upd H1 D (.dK [])) := by
    have e : Ex H1 (upd H1 D (.dK [])) := Ex.new nD
    have q := (sr1.ex e).wiped (vs := vs) (wipe_length σ vs) lk
    have y : ∀ a, (upd H1 D (.dK [])) a ≠ none → (Y1 a ∨ a = D) → (Y1 a ∨ a = D) := fun _ _ h => h
    refine ⟨fun a h => .inl (q.sub a h), q.own, fun a z => ?_, q.len, fun i s h => ?_, q.ap, q.tab, q.a0⟩
    · rcases z with z | z
      · exact q.yd a z
      · rw [z, upd_same]
        simp
    · obtain ⟨h1, h2⟩ := wipeE_some h
      obtain ⟨v, hv, z⟩ := sr1.sl i s h1
      refine ⟨v, by rw [lk i h2]; exact hv, ?_⟩
      cases s with
      | shr d => exact Sh.mv m2 z
      | own d =>
        obtain ⟨a, rfl, e2, t⟩ := z
        exact ⟨a, rfl, e2, t.mv m2 fun u hu _ => e _ _ hu⟩
      | bor k d =>
        obtain ⟨a, rfl, e2, e3, t, e4⟩ := z
        exact ⟨a, rfl, e2, .inl e3, t.mv m2 fun u hu _ => e _ _ hu, e4⟩
      | io k d =>
        obtain ⟨a, rfl, e2, t, e4⟩ := z
        exact ⟨a, rfl, e2, t.mv m2 fun u hu _ => e _ _ hu, e4⟩
  have st3 : Step O1 Y1 H1 O1 (fun b => Y1 b ∨ b = D) (upd H1 D (.dK [])) := by
    have e : Ex H1 (upd H1 D (.dK [])) := Ex.new nD
    exact ⟨st2.keep, st2.dom, fun a h => .inl h, st2.nY, st2.kY, st2.tab⟩
  refine ⟨fun i m H' => m = ds.length - i ∧ i ≤ ds.length ∧ ∃ (O2 : List Addr) (Y2 : Addr → Prop) (env2 : DEnv) (acc : List (Key × V)) (dacc : List (PyData × PyData)), Step O1 Y1 H1 O2 Y2 H' ∧ SR c O2 Y2 (wipe σ vs) (wipeE env2 vs) H' ∧ Y2 D ∧ D ∉ O2 ∧ H' D = some (.dK acc) ∧ ShK c.K Y2 H' acc dacc ∧
      dcFK vs B T Ek Ev ds [] (wipeE e0 vs) = dcFK vs B T Ek Ev (ds.drop i) dacc (wipeE env2 vs), ⟨_, rfl, Nat.zero_le _, O1, _, e0, [], [], st3, sr3, .inr rfl, fun z => sr1.yd D (sr1.sub D z) nD, upd_same, .nil, rfl⟩, ?_⟩
  rintro i m H2 ⟨rfl, hi, O2, Y2, env2, acc, dacc, st4, sr4, yD, oD, hD, ta, heq⟩
  obtain ⟨stop, go⟩ := walk O2 Y2 H2 (wipe σ vs) (wipeE env2 vs) st4 sr4
  by_cases hlt : i < ds.length
  · refine .inr ?_
    have hd : ds[i]? = some ds[i] := List.getElem?_eq_getElem hlt
    rw [List.drop_eq_getElem_cons hlt] at heq
    generalize ds[i] = d at hd heq
    obtain ⟨g1, g2⟩ := go i d hd
    refine ⟨g1, fun H' => ∃ (O2 : List Addr) (Y2 : Addr → Prop) (env2 : DEnv) (acc : List (Key × V)) (dacc : List (PyData × PyData)), Step O1 Y1 H1 O2 Y2 H' ∧ SR c O2 Y2 (wipe σ vs) (wipeE env2 vs) H' ∧ Y2 D ∧ D ∉ O2 ∧ H' D = some (.dK acc) ∧ ShK c.K Y2 H' acc dacc ∧
      dcFK vs B T Ek Ev ds [] (wipeE e0 vs) = dcFK vs B T Ek Ev (ds.drop (i + 1)) dacc (wipeE env2 vs), fun H' h => ⟨ds.length - (i + 1), by omega, rfl, hlt, h⟩, fun x H3 y => ?_⟩
    obtain ⟨st5, sr5, sh⟩ := g2 x H3 y
    have m5 := st5.mv sr4.sub
    have st15 := st4.trans sr1.yd st5
    have hD3 : H3 D = some (.dK acc) := by
      rcases st5.keep D _ hD with z | ⟨ps, z⟩ | z
      · exact (oD z.1).elim
      · cases z
      · exact z
    have ta3 := ta.mv m5
    rw [dcFK_cons] at heq
    cases hB : B d (wipeE env2 vs) with
    | none =>
      rw [hB] at heq
      simp only at heq
      rw [heq] at p1
      exact p1.elim
    | some e1 =>
      rw [hB] at heq
      simp only at heq
      refine hg O2 Y2 (wipe σ vs) (wipeE env2 vs) H3 x d e1 _ sr5 sh hB fun σ6 sr6 hw => ?_
      have w6 : wipe σ6 vs = wipe σ vs := by
        rw [hw vs hbs]
        exact wipe_wipe
      have l6 : (wipe σ vs).length = σ6.length := by
        rw [← w6]
        exact wipe_length _ _
      have k6 : ∀ i, i ∉ vs → (wipe σ vs)[i]? = σ6[i]? := fun i h => by
        rw [← w6]
        exact wipe_out h
      refine ⟨w6, ?_⟩
      cases hT : T e1 with
      | bad =>
        rw [hT] at heq
        simp only at heq
        rw [heq] at p1
        exact p1.elim
      | exc x e2 =>
        rw [hT] at heq
        simp only at heq
        rw [heq] at p1
        exact p1.elim
      | ok b e2 =>
        rw [hT] at heq
        refine ht O2 Y2 σ6 e1 H3 _ sr6 ?_
        rw [hT]
        intro b' H7 O7 Y7 st7 sr7 eb
        have eb : b' = b := eb
        subst eb
        have st17 := st15.trans sr1.yd st7
        have m7 := st7.mv sr6.sub
        have oD7 : D ∉ O7 := fun z => (st7.nO D z).elim oD fun q => by
          rw [hD3] at q
          cases q
        have yD7 : Y7 D := (st7.kY D yD).resolve_left oD
        have hD7 : H7 D = some (.dK acc) := by
          rcases st7.keep D _ hD3 with z | ⟨ps, z⟩ | z
          · exact (oD z.1).elim
          · cases z
          · exact z
        have ta7 := ta3.mv m7
        cases b' with
        | false =>
          simp only at heq
          exact iteF ⟨O7, Y7, e2, acc, dacc, st17, sr7.wiped l6 k6, yD7, oD7, hD7, ta7, heq⟩
        | true =>
          simp only at heq
          refine iteT ?_
          cases hE : Ek e2 with
          | bad =>
            rw [hE] at heq
            simp only at heq
            rw [heq] at p1
            exact p1.elim
          | exc x e3 =>
            rw [hE] at heq
            simp only at heq
            rw [heq] at p1
            exact p1.elim
          | ok y e3 =>
            rw [hE] at heq
            simp only at heq
            refine hk O7 Y7 σ6 e2 H7 _ sr7 ?_
            rw [hE]
            intro u H8 O8 Y8 st8 sr8 su
            have st18 := st17.trans sr1.yd st8
            have m8 := st8.mv sr7.sub
            have oD8 : D ∉ O8 := fun z => (st8.nO D z).elim oD7 fun q => by
              rw [hD7] at q
              cases q
            have yD8 : Y8 D := (st8.kY D yD7).resolve_left oD7
            have hD8 : H8 D = some (.dK acc) := by
              rcases st8.keep D _ hD7 with z | ⟨ps, z⟩ | z
              · exact (oD7 z.1).elim
              · cases z
              · exact z
            have ta8 := ta7.mv m8
            cases hV : Ev e3 with
            | bad =>
              rw [hV] at heq
              simp only at heq
              rw [heq] at p1
              exact p1.elim
            | exc x e4 =>
              rw [hV] at heq
              simp only at heq
              rw [heq] at p1
              exact p1.elim
            | ok r e4 =>
              rw [hV] at heq
              simp only at heq
              refine he O8 Y8 σ6 e3 H8 _ sr8 ?_
              rw [hV]
              intro v H9 O9 Y9 st9 sr9 sv
              have st19 := st18.trans sr1.yd st9
              have m9 := st9.mv sr8.sub
              have oD9 : D ∉ O9 := fun z => (st9.nO D z).elim oD8 fun q => by
                rw [hD8] at q
                cases q
              have yD9 : Y9 D := (st9.kY D yD8).resolve_left oD8
              have hD9 : H9 D = some (.dK acc) := by
                rcases st9.keep D _ hD8 with z | ⟨ps, z⟩ | z
                · exact (oD8 z.1).elim
                · cases z
                · exact z
              have ta9 := ta8.mv m9
              have su9 := Sh.mv m9 su
              cases hy : keyK y with
              | none =>
                rw [hy] at heq
                simp only at heq
                rw [heq] at p1
                exact p1.elim
              | some kk =>
                rw [hy] at heq
                simp only at heq
                by_cases hz : dacc.length < sizeLine
                · rw [if_pos hz] at heq
                  obtain ⟨m10, sr10⟩ := upd_at (o' := .dK (putK acc kk v)) (sr9.wiped l6 k6) yD9 oD9 nA hD9 rfl
                  have eu := Bo.keyK (.inl su9) hy
                  refine ⟨acc, kk, eu, hD9, by rw [ta9.len]; exact hz, O9, Y9, e4, putK acc kk v, putDK dacc kk r, ?_, sr10, yD9, oD9, upd_same, (ta9.mv m10).put (Sh.mv m10 sv), heq⟩
                  refine ⟨fun a o h => ?_, fun a h z => ?_, st19.nO, st19.nY, st19.kY, fun P hP => ?_⟩
                  · rcases st19.keep a o h with z | z | z
                    · exact .inl z
                    · exact .inr (.inl z)
                    · refine .inr (.inr ?_)
                      rw [upd_ne fun q => by rw [q, nD] at h; cases h]
                      exact z
                  · by_cases q : a = D
                    · rw [q, upd_same] at z
                      cases z
                    · rw [upd_ne q] at z
                      exact st19.dom a h z
                  · obtain ⟨ps, hp, t⟩ := st19.tab P hP
                    refine ⟨ps, ?_, t⟩
                    rw [upd_ne fun q => by rw [q, hD9] at hp; cases hp]
                    exact hp
                · rw [if_neg hz] at heq
                  rw [heq] at p1
                  exact p1.elim
  · have ei : i = ds.length := by omega
    subst ei
    refine .inl ⟨stop, ?_⟩
    rw [List.drop_eq_nil_of_le (by omega)] at heq
    rw [heq] at p1
    have back : ∀ j, j ∉ vs → σ[j]? = (wipe σ vs)[j]? := fun j h => (wipe_out h).symm
    have sr5 : SR c O2 Y2 σ (wipeE env2 vs) H2 := sr4.vals (wipe_length σ vs).symm fun j s v e hv => by
      rw [back j (wipeE_some e).2]
      exact hv
    -- D becomes one's own
    refine p1 (.ref D) H2 (D :: O2) Y2 ⟨st4.keep, st4.dom, fun a h => (List.mem_cons.mp h).elim (fun z => .inr (z ▸ nD)) (st4.nO a), st4.nY, st4.kY, st4.tab⟩ ?_ ⟨D, rfl, List.mem_cons_self, ?_, .dK hD ta⟩
    · refine ⟨fun a h => (List.mem_cons.mp h).elim (fun z => z ▸ yD) (sr5.sub a), fun a h => ?_, sr5.yd, sr5.len, fun j s e => ?_, sr5.ap, sr5.tab, sr5.a0⟩
      · rcases List.mem_cons.mp h with z | z
        · exact ⟨_, z ▸ hD, rfl⟩
        · exact sr5.own a z
      · obtain ⟨v, hv, q⟩ := sr5.sl j s e
        refine ⟨v, hv, ?_⟩
        cases s with
        | shr d => exact q
        | own d =>
          obtain ⟨a, rfl, e2, t⟩ := q
          exact ⟨a, rfl, List.mem_cons_of_mem _ e2, t⟩
        | bor k d =>
          obtain ⟨a, rfl, e2, e3, t, e4⟩ := q
          refine ⟨a, rfl, fun z => ?_, e3, t, e4⟩
          rcases List.mem_cons.mp z with z | z
          · subst z
            exact nA (List.mem_of_getElem? e4)
          · exact e2 z
        | io k d =>
          obtain ⟨a, rfl, e2, t, e4⟩ := q
          exact ⟨a, rfl, List.mem_cons_of_mem _ e2, t, e4⟩
    · rintro j ⟨s, h1, h2⟩ z
      obtain ⟨v, hv, q⟩ := sr5.sl j s h1
      rw [hv] at z
      cases z
      cases s with
      | shr d => cases h2
      | bor k d => cases h2
      | own d =>
        obtain ⟨a, e1, e2, _⟩ := q
        cases e1
        exact oD e2
      | io k d =>
        obtain ⟨a, e1, e2, _⟩ := q
        cases e1
        exact oD e2
theorem so_dcK {kx vx : Expr} {ifs : List Expr} {scope : Scope} {own : List (Str × Nat)} {F : DEnv → R (List PyData)} {B : Bd} {bs : List Nat} {T : DEnv → R Bool} {Ek Ev : DEnv → R PyData} (hc : ∀ k, (X k).calm = true) (hN : ∀ k, (X k).N.Nodup) (hi : SI c W X tg it F) (ok : ∀ k, BlkOk (X k).N (X k).env.scope scope own)
    (hg : SG c (blkF X scope) tg B bs) (ht : SF c never (blkF X scope) ifs T) (hk : SE c never (blkF X scope) kx Ek) (he : SE c never (blkF X scope) vx Ev) (hbs : ∀ b ∈ bs, b ∈ own.map (·.2)) (hs : ∀ k x, foldedSetIterable it (X k).env x = pure x := by intro _ _; rfl) :
    SO c W X (.DictComp kx vx [⟨tg, it, ifs, 0⟩] scope pos) (fDcK F (own.map (·.2)) B T Ek Ev) := fun O Y σ env H Q sr p =>
  ⟨_, fun k => pe_dc (hc k) (hN k) (RI.pi k) (ok k) (fun s H C cl fp => RG.pg (X := blkF X scope) (k, s, H, C, cl, fp)) (fun s H C cl fp => RTs.pts (X := blkF X scope) (k, s, H, C, cl, fp)) (fun s H C cl fp => RD.pe (X := blkF X scope) (k, s, H, C, cl, fp)) (fun s H C cl fp => RD.pe (X := blkF X scope) (k, s, H, C, cl, fp)) (hs k), dc_readK hi hg ht hk he hbs sr p⟩
theorem dc_readT {kx vx tg it : Expr} {ifs : List Expr} {scope : Scope} {vs : List Nat} {F : DEnv → R (List PyData)} {B : Bd} {bs : List Nat} {T : DEnv → R Bool} {Ek Ev : DEnv → R PyData} {Q : VK} (hi : SI c W X tg it F) (hg : SG c (blkF X scope) tg B bs) (ht : SF c never (blkF X scope) ifs T) (hk : SE c never (blkF X scope) kx Ek) (he : SE c never (blkF X scope) vx Ev)
    (hbs : ∀ b ∈ bs, b ∈ vs) (sr : SR c O Y σ env H) (p : Post c (ROw c) O Y H σ Q W (fDcT F vs B T Ek Ev env)) : Dct.tDcT (RI X tg it) (RG (blkF X scope) tg) (RTs (blkF X scope) ifs) (RD (blkF X scope) kx) (RD (blkF X scope) vx) vs σ H Q := by
  refine hi.next sr p fun ds e0 J H1 O1 Y1 st1 sr1 walk p1 D nD => ?_
  obtain ⟨st2, sr2, _, m2⟩ := own_new (o := .dT []) sr1 nD rfl
  have lk : ∀ i, i ∉ vs → (wipe σ vs)[i]? = σ[i]? := fun i h => wipe_out h
  have nA : V.ref D ∉ c.A0 := fun h => sr1.a0 D h nD
  -- the state with D read only
  have sr3 : SR c O1 (fun b => Y1 b ∨ b = D) (wipe σ vs) (wipeE e0 vs) (upd H1 D (.dT [])) := by
    have e : Ex H1 (upd H1 D (.dT [])) := Ex.new nD
    have q := (sr1.ex e).wiped (vs := vs) (wipe_length σ vs) lk
    have y : ∀ a, (upd H1 D (.dT [])) a ≠ none → (Y1 a ∨ a = D) → (Y1 a ∨ a = D) := fun _ _ h => h
    refine ⟨fun a h => .inl (q.sub a h), q.own, fun a z => ?_, q.len, fun i s h => ?_, q.ap, q.tab, q.a0⟩
    · rcases z with z | z
      · exact q.yd a z
      · rw [z, upd_same]
        simp
    · obtain ⟨h1, h2⟩ := wipeE_some h
      obtain ⟨v, hv, z⟩ := sr1.sl i s h1
      refine ⟨v, by rw [lk i h2]; exact hv, ?_⟩
      cases s with
      | shr d => exact Sh.mv m2 z
      | own d =>
        obtain ⟨a, rfl, e2, t⟩ := z
        exact ⟨a, rfl, e2, t.mv m2 fun u hu _ => e _ _ hu⟩
      | bor k d =>
        obtain ⟨a, rfl, e2, e3, t, e4⟩ := z
        exact ⟨a, rfl, e2, .inl e3, t.mv m2 fun u hu _ => e _ _ hu, e4⟩
      | io k d =>
        obtain ⟨a, rfl, e2, t, e4⟩ := z
        exact ⟨a, rfl, e2, t.mv m2 fun u hu _ => e _ _ hu, e4⟩
  have st3 : Step O1 Y1 H1 O1 (fun b => Y1 b ∨ b = D) (upd H1 D (.dT [])) := by
    have e : Ex H1 (upd H1 D (.dT [])) := Ex.new nD
    exact ⟨st2.keep, st2.dom, fun a h => .inl h, st2.nY, st2.kY, st2.tab⟩
  refine ⟨fun i m H' => m = ds.length - i ∧ i ≤ ds.length ∧ ∃ (O2 : List Addr) (Y2 : Addr → Prop) (env2 : DEnv) (acc : List (List Key × V)) (dacc : List (PyData × PyData)), Step O1 Y1 H1 O2 Y2 H' ∧ SR c O2 Y2 (wipe σ vs) (wipeE env2 vs) H' ∧ Y2 D ∧ D ∉ O2 ∧ H' D = some (.dT acc) ∧ ShT c.K Y2 H' acc dacc ∧
      dcFT vs B T Ek Ev ds [] (wipeE e0 vs) = dcFT vs B T Ek Ev (ds.drop i) dacc (wipeE env2 vs), ⟨_, rfl, Nat.zero_le _, O1, _, e0, [], [], st3, sr3, .inr rfl, fun z => sr1.yd D (sr1.sub D z) nD, upd_same, .nil, rfl⟩, ?_⟩
  rintro i m H2 ⟨rfl, hi, O2, Y2, env2, acc, dacc, st4, sr4, yD, oD, hD, ta, heq⟩
  obtain ⟨stop, go⟩ := walk O2 Y2 H2 (wipe σ vs) (wipeE env2 vs) st4 sr4
  by_cases hlt : i < ds.length
  · refine .inr ?_
    have hd : ds[i]? = some ds[i] := List.getElem?_eq_getElem hlt
    rw [List.drop_eq_getElem_cons hlt] at heq
    generalize ds[i] = d at hd heq
    obtain ⟨g1, g2⟩ := go i d hd
    refine ⟨g1, fun H' => ∃ (O2 : List Addr) (Y2 : Addr → Prop) (env2 : DEnv) (acc : List (List Key × V)) (dacc : List (PyData × PyData)), Step O1 Y1 H1 O2 Y2 H' ∧ SR c O2 Y2 (wipe σ vs) (wipeE env2 vs) H' ∧ Y2 D ∧ D ∉ O2 ∧ H' D = some (.dT acc) ∧ ShT c.K Y2 H' acc dacc ∧
      dcFT vs B T Ek Ev ds [] (wipeE e0 vs) = dcFT vs B T Ek Ev (ds.drop (i + 1)) dacc (wipeE env2 vs), fun H' h => ⟨ds.length - (i + 1), by omega, rfl, hlt, h⟩, fun x H3 y => ?_⟩
    obtain ⟨st5, sr5, sh⟩ := g2 x H3 y
    have m5 := st5.mv sr4.sub
    have st15 := st4.trans sr1.yd st5
    have hD3 : H3 D = some (.dT acc) := by
      rcases st5.keep D _ hD with z | ⟨ps, z⟩ | z
      · exact (oD z.1).elim
      · cases z
      · exact z
    have ta3 := ta.mv m5
    rw [dcFT_cons] at heq
    cases hB : B d (wipeE env2 vs) with
    | none =>
      rw [hB] at heq
      simp only at heq
      rw [heq] at p1
      exact p1.elim
    | some e1 =>
      rw [hB] at heq
      simp only at heq
      refine hg O2 Y2 (wipe σ vs) (wipeE env2 vs) H3 x d e1 _ sr5 sh hB fun σ6 sr6 hw => ?_
      have w6 : wipe σ6 vs = wipe σ vs := by
        rw [hw vs hbs]
        exact wipe_wipe
      have l6 : (wipe σ vs).length = σ6.length := by
        rw [← w6]
        exact wipe_length _ _
      have k6 : ∀ i, i ∉ vs → (wipe σ vs)[i]? = σ6[i]? := fun i h => by
        rw [← w6]
        exact wipe_out h
      refine ⟨w6, ?_⟩
      cases hT : T e1 with
      | bad =>
        rw [hT] at heq
        simp only at heq
        rw [heq] at p1
        exact p1.elim
      | exc x e2 =>
        rw [hT] at heq
        simp only at heq
        rw [heq] at p1
        exact p1.elim
      | ok b e2 =>
        rw [hT] at heq
        refine ht O2 Y2 σ6 e1 H3 _ sr6 ?_
        rw [hT]
        intro b' H7 O7 Y7 st7 sr7 eb
        have eb : b' = b := eb
        subst eb
        have st17 := st15.trans sr1.yd st7
        have m7 := st7.mv sr6.sub
        have oD7 : D ∉ O7 := fun z => (st7.nO D z).elim oD fun q => by
          rw [hD3] at q
          cases q
        have yD7 : Y7 D := (st7.kY D yD).resolve_left oD
        have hD7 : H7 D = some (.dT acc) := by
          rcases st7.keep D _ hD3 with z | ⟨ps, z⟩ | z
          · exact (oD z.1).elim
          · cases z
          · exact z
        have ta7 := ta3.mv m7
        cases b' with
        | false =>
          simp only at heq
          exact iteF ⟨O7, Y7, e2, acc, dacc, st17, sr7.wiped l6 k6, yD7, oD7, hD7, ta7, heq⟩
        | true =>
          simp only at heq
          refine iteT ?_
          cases hE : Ek e2 with
          | bad =>
            rw [hE] at heq
            simp only at heq
            rw [heq] at p1
            exact p1.elim
          | exc x e3 =>
            rw [hE] at heq
            simp only at heq
            rw [heq] at p1
            exact p1.elim
          | ok y e3 =>
            rw [hE] at heq
            simp only at heq
            refine hk O7 Y7 σ6 e2 H7 _ sr7 ?_
            rw [hE]
            intro u H8 O8 Y8 st8 sr8 su
            have st18 := st17.trans sr1.yd st8
            have m8 := st8.mv sr7.sub
            have oD8 : D ∉ O8 := fun z => (st8.nO D z).elim oD7 fun q => by
              rw [hD7] at q
              cases q
            have yD8 : Y8 D := (st8.kY D yD7).resolve_left oD7
            have hD8 : H8 D = some (.dT acc) := by
              rcases st8.keep D _ hD7 with z | ⟨ps, z⟩ | z
              · exact (oD7 z.1).elim
              · cases z
              · exact z
            have ta8 := ta7.mv m8
            cases hV : Ev e3 with
            | bad =>
              rw [hV] at heq
              simp only at heq
              rw [heq] at p1
              exact p1.elim
            | exc x e4 =>
              rw [hV] at heq
              simp only at heq
              rw [heq] at p1
              exact p1.elim
            | ok r e4 =>
              rw [hV] at heq
              simp only at heq
              refine he O8 Y8 σ6 e3 H8 _ sr8 ?_
              rw [hV]
              intro v H9 O9 Y9 st9 sr9 sv
              have st19 := st18.trans sr1.yd st9
              have m9 := st9.mv sr8.sub
              have oD9 : D ∉ O9 := fun z => (st9.nO D z).elim oD8 fun q => by
                rw [hD8] at q
                cases q
              have yD9 : Y9 D := (st9.kY D yD8).resolve_left oD8
              have hD9 : H9 D = some (.dT acc) := by
                rcases st9.keep D _ hD8 with z | ⟨ps, z⟩ | z
                · exact (oD8 z.1).elim
                · cases z
                · exact z
              have ta9 := ta8.mv m9
              have su9 := Sh.mv m9 su
              cases hy : keyT y with
              | none =>
                rw [hy] at heq
                simp only at heq
                rw [heq] at p1
                exact p1.elim
              | some kk =>
                rw [hy] at heq
                simp only at heq
                by_cases hz : dacc.length < sizeLine
                · rw [if_pos hz] at heq
                  obtain ⟨m10, sr10⟩ := upd_at (o' := .dT (putK acc kk v)) (sr9.wiped l6 k6) yD9 oD9 nA hD9 rfl
                  obtain ⟨bb, eu, hbb⟩ := Bo.keyT (.inl su9) hy
                  refine ⟨acc, kk, bb, eu, hbb, hD9, by rw [ta9.len]; exact hz, O9, Y9, e4, putK acc kk v, putDT dacc kk r, ?_, sr10, yD9, oD9, upd_same, (ta9.mv m10).put (Sh.mv m10 sv), heq⟩
                  refine ⟨fun a o h => ?_, fun a h z => ?_, st19.nO, st19.nY, st19.kY, fun P hP => ?_⟩
                  · rcases st19.keep a o h with z | z | z
                    · exact .inl z
                    · exact .inr (.inl z)
                    · refine .inr (.inr ?_)
                      rw [upd_ne fun q => by rw [q, nD] at h; cases h]
                      exact z
                  · by_cases q : a = D
                    · rw [q, upd_same] at z
                      cases z
                    · rw [upd_ne q] at z
                      exact st19.dom a h z
                  · obtain ⟨ps, hp, t⟩ := st19.tab P hP
                    refine ⟨ps, ?_, t⟩
                    rw [upd_ne fun q => by rw [q, hD9] at hp; cases hp]
                    exact hp
                · rw [if_neg hz] at heq
                  rw [heq] at p1
                  exact p1.elim
  · have ei : i = ds.length := by omega
    subst ei
    refine .inl ⟨stop, ?_⟩
    rw [List.drop_eq_nil_of_le (by omega)] at heq
    rw [heq] at p1
    have back : ∀ j, j ∉ vs → σ[j]? = (wipe σ vs)[j]? := fun j h => (wipe_out h).symm
    have sr5 : SR c O2 Y2 σ (wipeE env2 vs) H2 := sr4.vals (wipe_length σ vs).symm fun j s v e hv => by
      rw [back j (wipeE_some e).2]
      exact hv
    -- D becomes one's own
    refine p1 (.ref D) H2 (D :: O2) Y2 ⟨st4.keep, st4.dom, fun a h => (List.mem_cons.mp h).elim (fun z => .inr (z ▸ nD)) (st4.nO a), st4.nY, st4.kY, st4.tab⟩ ?_ ⟨D, rfl, List.mem_cons_self, ?_, .dT hD ta⟩
    · refine ⟨fun a h => (List.mem_cons.mp h).elim (fun z => z ▸ yD) (sr5.sub a), fun a h => ?_, sr5.yd, sr5.len, fun j s e => ?_, sr5.ap, sr5.tab, sr5.a0⟩
      · rcases List.mem_cons.mp h with z | z
        · exact ⟨_, z ▸ hD, rfl⟩
        · exact sr5.own a z
      · obtain ⟨v, hv, q⟩ := sr5.sl j s e
        refine ⟨v, hv, ?_⟩
        cases s with
        | shr d => exact q
        | own d =>
          obtain ⟨a, rfl, e2, t⟩ := q
          exact ⟨a, rfl, List.mem_cons_of_mem _ e2, t⟩
        | bor k d =>
          obtain ⟨a, rfl, e2, e3, t, e4⟩ := q
          refine ⟨a, rfl, fun z => ?_, e3, t, e4⟩
          rcases List.mem_cons.mp z with z | z
          · subst z
            exact nA (List.mem_of_getElem? e4)
          · exact e2 z
        | io k d =>
          obtain ⟨a, rfl, e2, t, e4⟩ := q
          exact ⟨a, rfl, List.mem_cons_of_mem _ e2, t, e4⟩
    · rintro j ⟨s, h1, h2⟩ z
      obtain ⟨v, hv, q⟩ := sr5.sl j s h1
      rw [hv] at z
      cases z
      cases s with
      | shr d => cases h2
      | bor k d => cases h2
      | own d =>
        obtain ⟨a, e1, e2, _⟩ := q
        cases e1
        exact oD e2
      | io k d =>
        obtain ⟨a, e1, e2, _⟩ := q
        cases e1
        exact oD e2
theorem so_dcT {kx vx : Expr} {ifs : List Expr} {scope : Scope} {own : List (Str × Nat)} {F : DEnv → R (List PyData)} {B : Bd} {bs : List Nat} {T : DEnv → R Bool} {Ek Ev : DEnv → R PyData} (hc : ∀ k, (X k).calm = true) (hu : ∀ k, (X k).A.units + 65 < cLine) (hN : ∀ k, (X k).N.Nodup) (hi : SI c W X tg it F) (ok : ∀ k, BlkOk (X k).N (X k).env.scope scope own)
    (hg : SG c (blkF X scope) tg B bs) (ht : SF c never (blkF X scope) ifs T) (hk : SE c never (blkF X scope) kx Ek) (he : SE c never (blkF X scope) vx Ev) (hbs : ∀ b ∈ bs, b ∈ own.map (·.2)) (hs : ∀ k x, foldedSetIterable it (X k).env x = pure x := by intro _ _; rfl) :
    SO c W X (.DictComp kx vx [⟨tg, it, ifs, 0⟩] scope pos) (fDcT F (own.map (·.2)) B T Ek Ev) := fun O Y σ env H Q sr p =>
  ⟨_, fun k => Dct.pe_dcT (hc k) (by have := hu k; omega) (hN k) (RI.pi k) (ok k) (fun s H C cl fp => RG.pg (X := blkF X scope) (k, s, H, C, cl, fp)) (fun s H C cl fp => RTs.pts (X := blkF X scope) (k, s, H, C, cl, fp)) (fun s H C cl fp => RD.pe (X := blkF X scope) (k, s, H, C, cl, fp)) (fun s H C cl fp => RD.pe (X := blkF X scope) (k, s, H, C, cl, fp)) (hs k), dc_readT hi hg ht hk he hbs sr p⟩
end
end Dl
set_option Elab.async false
set_option linter.all false
set_option maxRecDepth 100000
set_option maxHeartbeats 4000000
namespace Dl
open PySem PySem.Spec PyProof.Rows L2 Evl Gx GxR RZ
/-! what a piece of a program does to data, told by what holds behind it -/
structure Ez where
  rt : Bool → PyData → DEnv → Prop := fun _ _ _ => False
  bk : DEnv → Prop := fun _ => False
  ct : DEnv → Prop := fun _ => False
  ex : ExD → DEnv → Prop := fun _ _ => False
def OT0 {α : Type} (o : Option α) (P : α → Prop) : Prop := match o with
  | some a => P a
  | none => False
def Cnd0 (b : Bool) (A B : Prop) : Prop := match b with
  | true => A
  | false => B
def BT0 (d : PyData) (P : Bool → Prop) : Prop := match d with
  | .bool b => P b
  | _ => False
def IT0 (d : PyData) (P : Int → Prop) : Prop := match d with
  | .int b => P b
  | _ => False
def SV0 (s : Option Slot) (P O : PyData → Prop) : Prop := match s with
  | some (.shr d) => P d
  | some (.own d) => O d
  | _ => False
def R.to0 {α : Type} (r : R α) (P : α → DEnv → Prop) (E : ExD → DEnv → Prop) : Prop := match r with
  | .ok a e => P a e
  | .exc x e => E x e
  | .bad => False
def Flow.fo0 (f : Flow) (N : DEnv → Prop) (Z : Ez) : Prop := match f with
  | .next e => N e
  | .ret fr d e => Z.rt fr d e
  | .brk e => Z.bk e
  | .cont e => Z.ct e
  | .exc x e => Z.ex x e
  | .bad => False
def FR.to0 (r : FR) (P : Bool → PyData → List Slot → Prop) (E : ExD → List Slot → Prop) : Prop := match r with
  | .ret fr d o => P fr d o
  | .exc x o => E x o
  | .bad => False
/-- no exception -/
abbrev noE {α : Type} : ExD → α → Prop := fun _ _ => False
section
variable {α β : Type} {P : α → DEnv → Prop} {E : ExD → DEnv → Prop} {env : DEnv} {N : DEnv → Prop} {Z : Ez}
@[simp] theorem OT_some_u {a : α} {P : α → Prop} : OT0 (some a) P = P a := rfl
@[simp] theorem OT_none_u {P : α → Prop} : OT0 none P = False := rfl
@[simp] theorem OT_bind_u {o : Option β} {k : β → Option α} {P : α → Prop} : OT0 (o.bind k) P = OT0 o fun b => OT0 (k b) P := by cases o <;> rfl
@[simp] theorem OT_map_u {o : Option β} {k : β → α} {P : α → Prop} : OT0 (o.map k) P = OT0 o fun b => P (k b) := by cases o <;> rfl
@[simp] theorem OT_ite_u {c : Prop} [Decidable c] {o o' : Option α} {P : α → Prop} : OT0 (if c then o else o') P = Cnd0 (decide c) (OT0 o P) (OT0 o' P) := by
  by_cases h : c
  · rw [if_pos h, decide_eq_true h]
    rfl
  · rw [if_neg h, decide_eq_false h]
    rfl
@[simp] theorem Cnd_true_u {A B : Prop} : Cnd0 true A B = A := rfl
@[simp] theorem Cnd_false_u {A B : Prop} : Cnd0 false A B = B := rfl
theorem Cnd_iff_u {b : Bool} {A B : Prop} : Cnd0 b A B ↔ (b = true → A) ∧ (b = false → B) := by
  cases b
  · exact ⟨fun h => ⟨fun z => (by cases z), fun _ => h⟩, fun h => h.2 rfl⟩
  · exact ⟨fun h => ⟨fun _ => h, fun z => (by cases z)⟩, fun h => h.1 rfl⟩
theorem Cnd_of_u {b : Bool} {A B : Prop} (h1 : b = true → A) (h2 : b = false → B) : Cnd0 b A B := Cnd_iff_u.mpr ⟨h1, h2⟩
@[simp] theorem BT_bool_u {b : Bool} {P : Bool → Prop} : BT0 (.bool b) P = P b := rfl
@[simp] theorem IT_int_u {b : Int} {P : Int → Prop} : IT0 (.int b) P = P b := rfl
@[simp] theorem SV1_shr_u {d : PyData} {P O : PyData → Prop} : SV0 (some (.shr d)) P O = P d := rfl
@[simp] theorem SV1_own_u {d : PyData} {P O : PyData → Prop} : SV0 (some (.own d)) P O = O d := rfl
@[simp] theorem to_ok_u {a : α} {e : DEnv} : (R.ok a e).to0 P E = P a e := rfl
@[simp] theorem to_exc_u {x : ExD} {e : DEnv} : (R.exc x e : R α).to0 P E = E x e := rfl
@[simp] theorem to_bad_u : (R.bad : R α).to0 P E = False := rfl
@[simp] theorem to_bind_u {r : R β} {k : β → DEnv → R α} : (r.bind k).to0 P E = r.to0 (fun b e => (k b e).to0 P E) E := by cases r <;> rfl
@[simp] theorem to_of_u {o : Option α} {e : DEnv} : (R.of o e).to0 P E = OT0 o fun a => P a e := by cases o <;> rfl
@[simp] theorem to_ite_u {b : Bool} {r r' : R α} : (if b = true then r else r').to0 P E = Cnd0 b (r.to0 P E) (r'.to0 P E) := by cases b <;> rfl
theorem to_mono_u {r : R α} {P' : α → DEnv → Prop} {E' : ExD → DEnv → Prop} (h : r.to0 P E) (hP : ∀ a e, P a e → P' a e) (hE : ∀ x e, E x e → E' x e) : r.to0 P' E' := by
  cases r with
  | ok a e => exact hP a e h
  | exc x e => exact hE x e h
  | bad => exact h
theorem frto_mono_u {r : FR} {P P' : Bool → PyData → List Slot → Prop} {E E' : ExD → List Slot → Prop} (h : r.to0 P E) (hP : ∀ f d o, P f d o → P' f d o) (hE : ∀ x o, E x o → E' x o := by intro _ _ z; exact z.elim) : r.to0 P' E' := by
  cases r with
  | ret f d o => exact hP f d o h
  | exc x o => exact hE x o h
  | bad => exact h
@[simp] theorem frto_ret_u {f : Bool} {d : PyData} {o : List Slot} {P : Bool → PyData → List Slot → Prop} {E : ExD → List Slot → Prop} : (FR.ret f d o).to0 P E = P f d o := rfl
@[simp] theorem frto_exc_u {x : ExD} {o : List Slot} {P : Bool → PyData → List Slot → Prop} {E : ExD → List Slot → Prop} : (FR.exc x o).to0 P E = E x o := rfl
@[simp] theorem frto_bad_u {P : Bool → PyData → List Slot → Prop} {E : ExD → List Slot → Prop} : FR.bad.to0 P E = False := rfl
theorem frto_eq_u {r : FR} {f : Bool} {d : PyData} {o : List Slot} (h : r.to0 (fun f' d' o' => f' = f ∧ d' = d ∧ o' = o) noE) : r = .ret f d o := by
  cases r with
  | ret f' d' o' =>
    obtain ⟨rfl, rfl, rfl⟩ := h
    rfl
  | exc x o => exact h.elim
  | bad => exact h.elim
@[simp] theorem ok_next_u {e : DEnv} : (Flow.next e).fo0 N Z = N e := rfl
@[simp] theorem ok_ret_u {f : Bool} {d : PyData} {e : DEnv} : (Flow.ret f d e).fo0 N Z = Z.rt f d e := rfl
@[simp] theorem ok_brk_u {e : DEnv} : (Flow.brk e).fo0 N Z = Z.bk e := rfl
@[simp] theorem ok_cont_u {e : DEnv} : (Flow.cont e).fo0 N Z = Z.ct e := rfl
@[simp] theorem ok_exc_u {x : ExD} {e : DEnv} : (Flow.exc x e).fo0 N Z = Z.ex x e := rfl
@[simp] theorem ok_bad_u : Flow.bad.fo0 N Z = False := rfl
@[simp] theorem ok_toF_u {r : R α} {k : α → DEnv → Flow} : (r.toF k).fo0 N Z = r.to0 (fun a e => (k a e).fo0 N Z) Z.ex := by cases r <;> rfl
@[simp] theorem ok_ite_u {b : Bool} {f g : Flow} : (if b = true then f else g).fo0 N Z = Cnd0 b (f.fo0 N Z) (g.fo0 N Z) := by cases b <;> rfl
theorem ok_mono_u {f : Flow} {N' : DEnv → Prop} {Z' : Ez} (h : f.fo0 N Z) (h1 : ∀ e, N e → N' e) (h2 : ∀ a d e, Z.rt a d e → Z'.rt a d e) (h3 : ∀ e, Z.bk e → Z'.bk e) (h4 : ∀ e, Z.ct e → Z'.ct e) (h5 : ∀ x e, Z.ex x e → Z'.ex x e) : f.fo0 N' Z' := by
  cases f with
  | next e => exact h1 e h
  | ret a d e => exact h2 a d e h
  | brk e => exact h3 e h
  | cont e => exact h4 e h
  | exc x e => exact h5 x e h
  | bad => exact h
end
/-! the environment -/
@[simp] theorem slotAt_0_u {s : Option Slot} {r : DEnv} : slotAt (s :: r) 0 = s := by cases s <;> rfl
@[simp] theorem slotAt_s_u {s : Option Slot} {r : DEnv} {i : Nat} : slotAt (s :: r) (i + 1) = slotAt r i := rfl
@[simp] theorem slotAt_nil_u {i : Nat} : slotAt [] i = none := rfl
@[simp] theorem slot_d_shr_u {d : PyData} : (Slot.shr d).d = d := rfl
@[simp] theorem slot_d_own_u {d : PyData} : (Slot.own d).d = d := rfl
@[simp] theorem slot_d_bor_u {k : Nat} {d : PyData} : (Slot.bor k d).d = d := rfl
@[simp] theorem slot_d_io_u {k : Nat} {d : PyData} : (Slot.io k d).d = d := rfl
@[simp] theorem get_val_u {d : PyData} {e : DEnv} : BD.get e (.val d) = some d := rfl
@[simp] theorem get_var_u {i : Nat} {e : DEnv} : BD.get e (.var i) = (slotAt e i).map Slot.d := rfl
def walkS (s : Option Slot) : Option PyData := match s with
  | some (.shr d) => some d
  | some (.bor _ d) => some d
  | _ => none
@[simp] theorem walkS_shr_u {d : PyData} : walkS (some (.shr d)) = some d := rfl
@[simp] theorem walkS_bor_u {k : Nat} {d : PyData} : walkS (some (.bor k d)) = some d := rfl
@[simp] theorem walk_val_u {d : PyData} {e : DEnv} : BD.walk e (.val d) = some d := rfl
@[simp] theorem walk_var_u {i : Nat} {e : DEnv} : BD.walk e (.var i) = walkS (slotAt e i) := rfl
def ownS (s : Option Slot) : Option PyData := match s with
  | some (.own d) => some d
  | some (.io _ d) => some d
  | _ => none
@[simp] theorem ownS_own_u {d : PyData} : ownS (some (.own d)) = some d := rfl
@[simp] theorem ownS_io_u {k : Nat} {d : PyData} : ownS (some (.io k d)) = some d := rfl
@[simp] theorem ownD_S_u {e : DEnv} {i : Nat} : ownD e i = ownS (slotAt e i) := by
  unfold ownD ownS
  cases slotAt e i with
  | none => rfl
  | some s => cases s <;> rfl
def putS (s : Option Slot) (d : PyData) : Option Slot := match s with
  | some (.own _) => some (.own d)
  | some (.io k _) => some (.io k d)
  | _ => none
@[simp] theorem putS_own_u {d d' : PyData} : putS (some (.own d)) d' = some (.own d') := rfl
@[simp] theorem putS_io_u {k : Nat} {d d' : PyData} : putS (some (.io k d)) d' = some (.io k d') := rfl
@[simp] theorem putIo_S_u {e : DEnv} {i : Nat} {d : PyData} : putIo e i d = (putS (slotAt e i) d).map fun s => e.set i (some s) := by
  unfold putIo putS
  cases slotAt e i with
  | none => rfl
  | some s => cases s <;> rfl
/-! expressions -/
section
variable {α β : Type} {P : PyData → DEnv → Prop} {E : ExD → DEnv → Prop} {env : DEnv} {N : DEnv → Prop} {Z : Ez} {F G : DEnv → R PyData} {Fa Fb Fc : DEnv → R BD}
@[simp] theorem e_C_u {d : PyData} : (fC d env).to0 P E = P d env := rfl
@[simp] theorem e_Var_u {i : Nat} : (fVar i env).to0 P E = SV0 (slotAt env i) (fun d => P d env) (fun d => P d (env.set i (some (.shr d)))) := by
  unfold fVar SV0
  cases slotAt env i with
  | none => rfl
  | some s => cases s <;> rfl
@[simp] theorem e_Bor_u {P : BD → DEnv → Prop} {i : Nat} : (fBor i env).to0 P E = OT0 (slotAt env i) fun _ => P (.var i) env := by
  unfold fBor
  cases slotAt env i <;> rfl
@[simp] theorem e_Val_u {P : BD → DEnv → Prop} : (fVal F env).to0 P E = (F env).to0 (fun d e => P (.val d) e) E := by
  unfold fVal
  rw [to_bind_u]
  rfl
@[simp] theorem e_2_u {op : PyData → PyData → Option PyData} : (f2 op Fa Fb env).to0 P E = (Fa env).to0 (fun a e1 => (Fb e1).to0 (fun b e2 => OT0 (a.get e2) fun x => OT0 (b.get e2) fun y => OT0 (op x y) fun d => P d e2) E) E := by
  unfold f2
  simp only [to_bind_u, to_of_u, OT_bind_u]
@[simp] theorem e_NotV_u : (fNotV Fa env).to0 P E = (Fa env).to0 (fun b e => OT0 (b.get e) fun x => OT0 (dTruth x) fun k => P (.bool (!k)) e) E := by
  unfold fNotV
  simp only [to_bind_u, to_of_u, OT_map_u, OT_bind_u]
@[simp] theorem e_Neg_u : (fNeg Fa env).to0 P E = (Fa env).to0 (fun b e => OT0 (b.get e) fun x => IT0 x fun i => P (.int (-i)) e) E := by
  unfold fNeg
  simp only [to_bind_u, to_of_u, OT_bind_u]
  congr 1
  funext b e
  congr 1
  funext x
  cases x <;> rfl
@[simp] theorem e_AndV_u : (fAndV F G env).to0 P E = (F env).to0 (fun d e => OT0 (dTruth d) fun k => Cnd0 k ((G e).to0 P E) (P d e)) E := by
  unfold fAndV
  rw [to_bind_u]
  congr 1
  funext d e
  cases dTruth d with
  | none => rfl
  | some k => cases k <;> rfl
@[simp] theorem e_OrV_u : (fOrV F G env).to0 P E = (F env).to0 (fun d e => OT0 (dTruth d) fun k => Cnd0 k (P d e) ((G e).to0 P E)) E := by
  unfold fOrV
  rw [to_bind_u]
  congr 1
  funext d e
  cases dTruth d with
  | none => rfl
  | some k => cases k <;> rfl
@[simp] theorem e_Ite_u {P : α → DEnv → Prop} {T : DEnv → R Bool} {A B : DEnv → R α} : (fIte T A B env).to0 P E = (T env).to0 (fun b e => Cnd0 b ((A e).to0 P E) ((B e).to0 P E)) E := by
  unfold fIte
  simp only [to_bind_u, to_ite_u]
@[simp] theorem e_IteX_u {P : Bool × PyData → DEnv → Prop} {T : DEnv → R Bool} {A B : DEnv → R (Bool × PyData)} : (fIteX T A B env).to0 P E = (T env).to0 (fun b e => Cnd0 b ((A e).to0 P E) ((B e).to0 P E)) E := by
  unfold fIteX
  simp only [to_bind_u, to_ite_u]
@[simp] theorem e_Nil_u {P : List PyData → DEnv → Prop} : (fNil env).to0 P E = P [] env := rfl
@[simp] theorem e_Cons_u {P : List PyData → DEnv → Prop} {G : DEnv → R (List PyData)} : (fCons F G env).to0 P E = (F env).to0 (fun d e => (G e).to0 (fun ds e2 => P (d :: ds) e2) E) E := by
  unfold fCons
  simp only [to_bind_u, to_ok_u]
def fits (n : Nat) : Bool := decide (n ≤ sizeLine)
@[simp] theorem e_Tup_u {G : DEnv → R (List PyData)} : (fTup G env).to0 P E = (G env).to0 (fun ds e => Cnd0 (fits ds.length) (P (.tuple ds) e) False) E := by
  unfold fTup
  rw [to_bind_u]
  congr 1
  funext ds e
  unfold fits
  by_cases h : ds.length ≤ sizeLine
  · rw [if_pos h, decide_eq_true h]
    rfl
  · rw [if_neg h, decide_eq_false h]
    rfl
@[simp] theorem e_Lst_u {G : DEnv → R (List PyData)} : (fLst G env).to0 P E = (G env).to0 (fun ds e => Cnd0 (fits ds.length) (P (.list ds) e) False) E := by
  unfold fLst
  rw [to_bind_u]
  congr 1
  funext ds e
  unfold fits
  by_cases h : ds.length ≤ sizeLine
  · rw [if_pos h, decide_eq_true h]
    rfl
  · rw [if_neg h, decide_eq_false h]
    rfl
@[simp] theorem e_NoP_u {P : Option Int → DEnv → Prop} : (fNoP env).to0 P E = P none env := rfl
@[simp] theorem e_Part_u {P : Option Int → DEnv → Prop} : (fPart F env).to0 P E = (F env).to0 (fun d e => IT0 d fun i => P (some i) e) E := by
  unfold fPart
  rw [to_bind_u]
  congr 1
  funext d e
  cases d <;> rfl
@[simp] theorem e_Sl_u {L U : DEnv → R (Option Int)} : (fSl Fa L U env).to0 P E = (Fa env).to0 (fun b e1 => (L e1).to0 (fun l e2 => (U e2).to0 (fun u e3 => OT0 (b.get e3) fun x => OT0 (dSl x l u) fun d => P d e3) E) E) E := by
  unfold fSl
  simp only [to_bind_u, to_of_u, OT_bind_u]
@[simp] theorem e_Chain_u {o1 o2 : PyData → PyData → Option PyData} : (fChain o1 o2 Fa Fb Fc env).to0 P E = (Fa env).to0 (fun a e1 => (Fb e1).to0 (fun b e2 => OT0 (a.get e2) fun x => OT0 (b.get e2) fun y => OT0 (o1 x y) fun d => BT0 d fun k => Cnd0 k ((Fc e2).to0 (fun w e3 => OT0 (b.get e3) fun y => OT0 (w.get e3) fun z => OT0 (o2 y z) fun d => P d e3) E) (P (.bool false) e2)) E) E := by
  unfold fChain
  simp only [to_bind_u]
  congr 1
  funext a e1
  congr 1
  funext b e2
  cases a.get e2 with
  | none => rfl
  | some x =>
    cases b.get e2 with
    | none => rfl
    | some y =>
      simp only [Option.bind_some, OT_some_u]
      cases o1 x y with
      | none => rfl
      | some d =>
        cases d with
        | bool k =>
          cases k
          · rfl
          · simp only [OT_some_u, BT_bool_u, Cnd_true_u, to_bind_u, to_of_u, OT_bind_u]
        | _ => rfl
@[simp] theorem e_T_u {P : Bool → DEnv → Prop} : (fT F env).to0 P E = (F env).to0 (fun d e => BT0 d fun b => P b e) E := by
  unfold fT
  rw [to_bind_u]
  congr 1
  funext d e
  cases d <;> rfl
@[simp] theorem e_Tr_u {P : Bool → DEnv → Prop} : (fTr Fa env).to0 P E = (Fa env).to0 (fun b e => OT0 (b.get e) fun x => OT0 (dTruth x) fun k => P k e) E := by
  unfold fTr
  simp only [to_bind_u, to_of_u, OT_bind_u]
@[simp] theorem e_Not_u {P : Bool → DEnv → Prop} {T : DEnv → R Bool} : (fNot T env).to0 P E = (T env).to0 (fun b e => P (!b) e) E := by
  unfold fNot
  simp only [to_bind_u, to_ok_u]
@[simp] theorem e_And_u {P : Bool → DEnv → Prop} {T U : DEnv → R Bool} : (fAnd T U env).to0 P E = (T env).to0 (fun b e => Cnd0 b ((U e).to0 P E) (P false e)) E := by
  unfold fAnd
  simp only [to_bind_u, to_ite_u, to_ok_u]
@[simp] theorem e_Or_u {P : Bool → DEnv → Prop} {T U : DEnv → R Bool} : (fOr T U env).to0 P E = (T env).to0 (fun b e => Cnd0 b (P true e) ((U e).to0 P E)) E := by
  unfold fOr
  simp only [to_bind_u, to_ite_u, to_ok_u]
@[simp] theorem e_Isi_u {T : String} : (fIsi T Fa env).to0 P E = (Fa env).to0 (fun b e => OT0 (b.get e) fun x => OT0 (isiB T x) fun d => P d e) E := by
  unfold fIsi
  simp only [to_bind_u, to_of_u, OT_bind_u]
@[simp] theorem e_BNil_u {P : List BD → DEnv → Prop} : (fBNil env).to0 P E = P [] env := rfl
@[simp] theorem e_BCons_u {P : List BD → DEnv → Prop} {G : DEnv → R (List BD)} : (fBCons Fa G env).to0 P E = (Fa env).to0 (fun d e => (G e).to0 (fun ds e2 => P (d :: ds) e2) E) E := by
  unfold fBCons
  simp only [to_bind_u, to_ok_u]
@[simp] theorem getAll_nil_u : getAll env [] = some [] := rfl
@[simp] theorem getAll_cons_u {b : BD} {r : List BD} : getAll env (b :: r) = (b.get env).bind fun d => (getAll env r).map (d :: ·) := rfl
@[simp] theorem walkAll_nil_u : walkAll env [] = some [] := rfl
@[simp] theorem walkAll_cons_u {b : BD} {r : List BD} : walkAll env (b :: r) = (b.walk env).bind fun d => (walkAll env r).map (d :: ·) := rfl
@[simp] theorem e_Blt_u {k : List PyData → Option PyData} {G : DEnv → R (List BD)} : (fBlt k G env).to0 P E = (G env).to0 (fun bs e => OT0 (getAll e bs) fun ds => OT0 (k ds) fun d => P d e) E := by
  unfold fBlt
  simp only [to_bind_u, to_of_u, OT_bind_u]
@[simp] theorem e_Walk_u {P : List PyData → DEnv → Prop} : (fWalk Fa env).to0 P E = (Fa env).to0 (fun b e => OT0 (b.walk e) fun x => OT0 (itemsOf x) fun ds => P ds e) E := by
  unfold fWalk
  simp only [to_bind_u, to_of_u, OT_bind_u]
@[simp] theorem e_Items_u {P : List PyData → DEnv → Prop} : (fItems F env).to0 P E = (F env).to0 (fun x e => OT0 (itemsOf x) fun ds => P ds e) E := by
  unfold fItems
  simp only [to_bind_u, to_of_u]
@[simp] theorem e_Src_u {P : List PyData → DEnv → Prop} {k : List PyData → Option (List PyData)} {G : DEnv → R (List PyData)} : (fSrc k G env).to0 P E = (G env).to0 (fun ds e => OT0 (k ds) fun rs => P rs e) E := by
  unfold fSrc
  simp only [to_bind_u, to_of_u]
@[simp] theorem e_SrcB_u {P : List PyData → DEnv → Prop} {k : List PyData → Option (List PyData)} {G : DEnv → R (List BD)} : (fSrcB k G env).to0 P E = (G env).to0 (fun bs e => OT0 (walkAll e bs) fun ds => OT0 (k ds) fun rs => P rs e) E := by
  unfold fSrcB
  simp only [to_bind_u, to_of_u, OT_bind_u]
@[simp] theorem e_Sh_u {P : Bool × PyData → DEnv → Prop} : (fSh F env).to0 P E = (F env).to0 (fun d e => P (false, d) e) E := by
  unfold fSh
  simp only [to_bind_u, to_ok_u]
@[simp] theorem e_Ow_u {P : Bool × PyData → DEnv → Prop} : (fOw F env).to0 P E = (F env).to0 (fun d e => P (true, d) e) E := by
  unfold fOw
  simp only [to_bind_u, to_ok_u]
@[simp] theorem e_MoveX_u {P : Bool × PyData → DEnv → Prop} {i : Nat} : (fMoveX i env).to0 P E = SV0 (slotAt env i) (fun d => P (false, d) env) (fun d => P (true, d) (env.set i none)) := by
  unfold fMoveX SV0
  cases slotAt env i with
  | none => rfl
  | some s => cases s <;> rfl
/-! calls -/
@[simp] theorem e_aNil_u {P : List ArgD → DEnv → Prop} : (aNil env).to0 P E = P [] env := rfl
@[simp] theorem e_aVal_u {P : List ArgD → DEnv → Prop} {A : DEnv → R (List ArgD)} : (aVal F A env).to0 P E = (F env).to0 (fun d e => (A e).to0 (fun as e2 => P (.val d :: as) e2) E) E := by
  unfold aVal
  simp only [to_bind_u, to_ok_u]
@[simp] theorem e_aVar_u {P : List ArgD → DEnv → Prop} {A : DEnv → R (List ArgD)} {i : Nat} : (aVar i A env).to0 P E = OT0 (slotAt env i) fun _ => (A env).to0 (fun as e2 => P (.var i :: as) e2) E := by
  unfold aVar
  cases slotAt env i with
  | none => rfl
  | some s => simp only [to_bind_u, to_ok_u, OT_some_u]
@[simp] theorem e_aIo_u {P : List ArgD → DEnv → Prop} {A : DEnv → R (List ArgD)} {i : Nat} : (aIo i A env).to0 P E = OT0 (slotAt env i) fun _ => (A env).to0 (fun as e2 => P (.io i :: as) e2) E := by
  unfold aIo
  cases slotAt env i with
  | none => rfl
  | some s => simp only [to_bind_u, to_ok_u, OT_some_u]
theorem e_callR_u {P : Bool × PyData → DEnv → Prop} {S : List Slot → FR} {as : List ArgD} : (callR S env as).to0 P E = OT0 (slotsOf env 0 as) fun ss => (S ss).to0 (fun fr d outs => OT0 (backE env as outs) fun e => P (fr, d) e) (fun x outs => OT0 (backE env as outs) fun e => E x e) := by
  unfold callR
  cases slotsOf env 0 as with
  | none => rfl
  | some ss =>
    simp only [OT_some_u]
    cases S ss with
    | bad => rfl
    | ret fr d outs => simp only [frto_ret_u]; cases backE env as outs <;> rfl
    | exc x outs => simp only [frto_exc_u]; cases backE env as outs <;> rfl
@[simp] theorem e_Call_u {S : List Slot → FR} {dfl : List PyData} {A : DEnv → R (List ArgD)} : (fCall S dfl A env).to0 P E = (A env).to0 (fun as e => OT0 (slotsOf e 0 (as ++ dfl.map ArgD.val)) fun ss => (S ss).to0 (fun fr d outs => OT0 (backE e (as ++ dfl.map ArgD.val) outs) fun e2 => P d e2) (fun x outs => OT0 (backE e (as ++ dfl.map ArgD.val) outs) fun e2 => E x e2)) E := by
  unfold fCall
  simp only [to_bind_u, to_ok_u, e_callR_u]
@[simp] theorem e_CallX_u {P : Bool × PyData → DEnv → Prop} {S : List Slot → FR} {dfl : List PyData} {A : DEnv → R (List ArgD)} : (fCallX S dfl A env).to0 P E = (A env).to0 (fun as e => OT0 (slotsOf e 0 (as ++ dfl.map ArgD.val)) fun ss => (S ss).to0 (fun fr d outs => OT0 (backE e (as ++ dfl.map ArgD.val) outs) fun e2 => P (fr, d) e2) (fun x outs => OT0 (backE e (as ++ dfl.map ArgD.val) outs) fun e2 => E x e2)) E := by
  unfold fCallX
  simp only [to_bind_u, e_callR_u]
@[simp] theorem slotsOf_nil_u {j : Nat} : slotsOf env j [] = some [] := rfl
@[simp] theorem slotsOf_cons_u {j : Nat} {a : ArgD} {r : List ArgD} : slotsOf env j (a :: r) = (slotOf env j a).bind fun s => (slotsOf env (j + 1) r).map (s :: ·) := rfl
@[simp] theorem slotOf_val_u {j : Nat} {d : PyData} : slotOf env j (.val d) = some (.shr d) := rfl
@[simp] theorem slotOf_var_u {j i : Nat} : slotOf env j (.var i) = varS j (slotAt env i) := rfl
@[simp] theorem slotOf_io_u {j i : Nat} : slotOf env j (.io i) = ioS j (slotAt env i) := rfl
@[simp] theorem varS_shr_u {j : Nat} {d : PyData} : varS j (some (.shr d)) = some (.shr d) := rfl
@[simp] theorem varS_own_u {j : Nat} {d : PyData} : varS j (some (.own d)) = some (.bor j d) := rfl
@[simp] theorem varS_bor_u {j k : Nat} {d : PyData} : varS j (some (.bor k d)) = some (.bor j d) := rfl
@[simp] theorem varS_io_u {j k : Nat} {d : PyData} : varS j (some (.io k d)) = some (.bor j d) := rfl
@[simp] theorem ioS_own_u {j : Nat} {d : PyData} : ioS j (some (.own d)) = some (.io j d) := rfl
@[simp] theorem ioS_io_u {j k : Nat} {d : PyData} : ioS j (some (.io k d)) = some (.io j d) := rfl
def outO (s : Option Slot) : Option PyData := outD s
@[simp] theorem outD_io_u {k : Nat} {d : PyData} : outD (some (.io k d)) = some d := rfl
@[simp] theorem backE_eq_u {as : List ArgD} {outs : List Slot} : backE env as outs = match ioOf 0 as with
    | none => none
    | some none => some env
    | some (some (j, i)) => if noVar i as = true then (outD outs[j]?).bind (putIo env i) else none := rfl
@[simp] theorem ioOf_nil_u {j : Nat} : ioOf j [] = some none := rfl
@[simp] theorem ioOf_io_u {j i : Nat} {r : List ArgD} : ioOf j (.io i :: r) = if r.all notIo = true then some (some (j, i)) else none := rfl
@[simp] theorem ioOf_val_u {j : Nat} {d : PyData} {r : List ArgD} : ioOf j (.val d :: r) = ioOf (j + 1) r := rfl
@[simp] theorem ioOf_var_u {j i : Nat} {r : List ArgD} : ioOf j (.var i :: r) = ioOf (j + 1) r := rfl
@[simp] theorem notIo_val_u {d : PyData} : notIo (.val d) = true := rfl
@[simp] theorem notIo_var_u {i : Nat} : notIo (.var i) = true := rfl
@[simp] theorem noVar_nil_u {i : Nat} : noVar i [] = true := rfl
@[simp] theorem noVar_val_u {i : Nat} {d : PyData} {r : List ArgD} : noVar i (.val d :: r) = noVar i r := by simp [noVar]
@[simp] theorem noVar_io_u {i k : Nat} {r : List ArgD} : noVar i (.io k :: r) = noVar i r := by simp [noVar]
@[simp] theorem noVar_var_u {i k : Nat} {r : List ArgD} : noVar i (.var k :: r) = ((k != i) && noVar i r) := by simp [noVar]
/-! what changes one's own -/
@[simp] theorem e_Mut_u {T : String} {i : Nat} {k : PyData → List PyData → Option (PyData × PyData)} {G : DEnv → R (List PyData)} : (fMut T i k G env).to0 P E = OT0 (ownS (slotAt env i)) fun d0 => Cnd0 (decide (dTy d0 = T)) ((G env).to0 (fun ds e1 => OT0 (ownS (slotAt e1 i)) fun d => OT0 (k d ds) fun r => OT0 (putS (slotAt e1 i) r.2) fun s => P r.1 (e1.set i (some s))) E) False := by
  unfold fMut
  rw [ownD_S_u]
  cases ownS (slotAt env i) with
  | none => rfl
  | some d0 =>
    simp only [OT_some_u]
    by_cases h : dTy d0 = T
    · rw [if_pos h, decide_eq_true h, Cnd_true_u, to_bind_u]
      congr 1
      funext ds e1
      simp only [ownD_S_u]
      cases ownS (slotAt e1 i) with
      | none => rfl
      | some d =>
        simp only [OT_some_u]
        cases k d ds with
        | none => rfl
        | some r =>
          simp only [putIo_S_u, OT_some_u]
          cases putS (slotAt e1 i) r.2 <;> simp
    · rw [if_neg h, decide_eq_false h]
      rfl
@[simp] theorem e_Mut0_u {T : String} {i : Nat} {k : PyData → List PyData → Option (PyData × PyData)} : (fMut0 T i k env).to0 P E = OT0 (ownS (slotAt env i)) fun d => Cnd0 (decide (dTy d = T)) (OT0 (k d []) fun r => OT0 (putS (slotAt env i) r.2) fun s => P r.1 (env.set i (some s))) False := by
  unfold fMut0
  rw [ownD_S_u]
  cases ownS (slotAt env i) with
  | none => rfl
  | some d =>
    simp only [OT_some_u]
    by_cases h : dTy d = T
    · rw [if_pos h, decide_eq_true h, Cnd_true_u]
      cases k d [] with
      | none => rfl
      | some r =>
        simp only [putIo_S_u, OT_some_u]
        cases putS (slotAt env i) r.2 <;> simp
    · rw [if_neg h, decide_eq_false h]
      rfl
/-! statements -/
@[simp] theorem s_Seq_u {G K : DEnv → Flow} : (gSeq G K env).fo0 N Z = (G env).fo0 (fun e => (K e).fo0 N Z) Z := by
  unfold gSeq
  cases G env <;> rfl
@[simp] theorem s_None_u : (gNone env).fo0 N Z = N env := rfl
@[simp] theorem s_Brk_u : (gBrk env).fo0 N Z = Z.bk env := rfl
@[simp] theorem s_Cont_u : (gCont env).fo0 N Z = Z.ct env := rfl
@[simp] theorem s_Bad_u : (gBad env).fo0 N Z = False := rfl
@[simp] theorem s_RetN_u : (gRetN env).fo0 N Z = Z.rt false .none env := rfl
@[simp] theorem s_Set_u {i : Nat} : (gSet i F env).fo0 N Z = (F env).to0 (fun d e => N (e.set i (some (.shr d)))) Z.ex := by
  unfold gSet
  rw [ok_toF_u]
  rfl
@[simp] theorem s_Own_u {i : Nat} : (gOwn i F env).fo0 N Z = (F env).to0 (fun d e => N (e.set i (some (.own d)))) Z.ex := by
  unfold gOwn
  rw [ok_toF_u]
  rfl
@[simp] theorem s_SetX_u {i : Nat} {F : DEnv → R (Bool × PyData)} : (gSetX i F env).fo0 N Z = (F env).to0 (fun p e => N (e.set i (some (slotX p)))) Z.ex := by
  unfold gSetX
  rw [ok_toF_u]
  rfl
@[simp] theorem slotX_t_u {d : PyData} : slotX (true, d) = .own d := rfl
@[simp] theorem slotX_f_u {d : PyData} : slotX (false, d) = .shr d := rfl
@[simp] theorem s_Expr_u {F : DEnv → R PyData} : (gExpr F env).fo0 N Z = (F env).to0 (fun _ e => N e) Z.ex := by
  unfold gExpr
  rw [ok_toF_u]
  rfl
@[simp] theorem s_Ret_u {fr : Bool} : (gRet fr F env).fo0 N Z = (F env).to0 (fun d e => Z.rt fr d e) Z.ex := by
  unfold gRet
  rw [ok_toF_u]
  rfl
@[simp] theorem s_RetX_u {F : DEnv → R (Bool × PyData)} : (gRetX F env).fo0 N Z = (F env).to0 (fun p e => Z.rt p.1 p.2 e) Z.ex := by
  unfold gRetX
  rw [ok_toF_u]
  rfl
@[simp] theorem s_If_u {T : DEnv → R Bool} {A B : DEnv → Flow} : (gIf T A B env).fo0 N Z = (T env).to0 (fun b e => Cnd0 b ((A e).fo0 N Z) ((B e).fo0 N Z)) Z.ex := by
  unfold gIf
  simp only [ok_toF_u, ok_ite_u]
@[simp] theorem s_Asg_u {B : Bd} : (gAsg B F env).fo0 N Z = (F env).to0 (fun d e => OT0 (B d e) fun e2 => N e2) Z.ex := by
  unfold gAsg
  rw [ok_toF_u]
  congr 1
  funext d e
  cases B d e <;> rfl
@[simp] theorem b_Name_u {i : Nat} {d : PyData} : bName i d env = some (env.set i (some (.shr d))) := rfl
@[simp] theorem b_sNil_u : bsNil [] env = some env := rfl
@[simp] theorem b_sCons_u {B : Bd} {Bs : List PyData → DEnv → Option DEnv} {d : PyData} {r : List PyData} : bsCons B Bs (d :: r) env = (B d env).bind (Bs r) := rfl
@[simp] theorem b_Tup_u {Bs : List PyData → DEnv → Option DEnv} {ds : List PyData} : bTup Bs (.tuple ds) env = Bs ds env := rfl
@[simp] theorem s_Store_u {i : Nat} {I : DEnv → R BD} : (gStore i I F env).fo0 N Z = (F env).to0 (fun d e1 => OT0 (ownS (slotAt e1 i)) fun _ => (I e1).to0 (fun b e2 => OT0 (b.get e2) fun k => IT0 k fun k => OT0 (ownS (slotAt e2 i)) fun l => OT0 (match l with | .list ds => some ds | _ => none) fun ds => OT0 (ixN ds.length k) fun j => OT0 (putS (slotAt e2 i) (.list (ds.set j d))) fun s => N (e2.set i (some s))) Z.ex) Z.ex := by
  unfold gStore
  rw [ok_toF_u]
  congr 1
  funext d e1
  rw [ownD_S_u]
  cases ownS (slotAt e1 i) with
  | none => rfl
  | some d0 =>
    simp only [OT_some_u, ok_toF_u]
    congr 1
    funext b e2
    simp only [ownD_S_u]
    cases b.get e2 with
    | none => rfl
    | some k =>
      cases k with
      | int k =>
        cases ownS (slotAt e2 i) with
        | none => rfl
        | some l =>
          cases l with
          | list ds =>
            simp only [OT_some_u, IT_int_u]
            cases ixN ds.length k with
            | none => rfl
            | some j =>
              simp only [OT_some_u, putIo_S_u]
              cases putS (slotAt e2 i) (.list (ds.set j d)) <;> rfl
          | _ => rfl
      | _ => cases ownS (slotAt e2 i) <;> rfl
@[simp] theorem s_Aug_u {i : Nat} {k : PyData → PyData → Option PyData} : (gAug i k F env).fo0 N Z = SV0 (slotAt env i) (fun d => (F env).to0 (fun y e => OT0 (k d y) fun z => N (e.set i (some (.shr z)))) Z.ex) (fun _ => False) := by
  unfold gAug SV0
  cases slotAt env i with
  | none => rfl
  | some s =>
    cases s with
    | shr d =>
      simp only [ok_toF_u]
      congr 1
      funext y e
      cases k d y <;> rfl
    | _ => rfl
@[simp] theorem s_For_u {B : Bd} {F : DEnv → R (List PyData)} {G : DEnv → Flow} : (gFor B F G env).fo0 N Z = (F env).to0 (fun ds e => (forF B G ds e).fo0 N Z) Z.ex := by
  unfold gFor
  rw [ok_toF_u]
/-! a def -/
theorem runD_to_u {N : Nat} {G : DEnv → Flow} {ss : List Slot} {P : Bool → PyData → List Slot → Prop} {E : ExD → List Slot → Prop} : (runD N G ss).to0 P E = (G (padE N ss)).fo0 (fun e => OT0 (outS e 0 ss) fun o => P false .none o) { rt := fun fr d e => OT0 (outS e 0 ss) fun o => P fr d o, ex := fun x e => OT0 (outS e 0 ss) fun o => E x o } := by
  unfold runD toFR
  cases G (padE N ss) with
  | next e => simp only [ok_next_u]; cases outS e 0 ss <;> rfl
  | ret fr d e => simp only [ok_ret_u]; cases outS e 0 ss <;> rfl
  | exc x e => simp only [ok_exc_u]; cases outS e 0 ss <;> rfl
  | _ => rfl
@[simp] theorem outS_nil_u {j : Nat} : outS env j [] = some [] := rfl
@[simp] theorem outS_shr_u {j : Nat} {d : PyData} {r : List Slot} : outS env j (.shr d :: r) = (outS env (j + 1) r).map (.shr d :: ·) := rfl
@[simp] theorem outS_bor_u {j k : Nat} {d : PyData} {r : List Slot} : outS env j (.bor k d :: r) = (outS env (j + 1) r).map (.bor k d :: ·) := rfl
def ioAt (s : Option Slot) (k : Nat) : Option PyData := match s with
  | some (.io k' d) => if k' = k then some d else none
  | _ => none
@[simp] theorem ioAt_io_u {k : Nat} {d : PyData} : ioAt (some (.io k d)) k = some d := by simp [ioAt]
@[simp] theorem outS_io_u {j k : Nat} {d : PyData} {r : List Slot} : outS env j (.io k d :: r) = (ioAt (slotAt env j) k).bind fun d' => (outS env (j + 1) r).map (Slot.io k d' :: ·) := by
  show (match slotAt env j with | some (.io k' d) => if k' = k then (outS env (j + 1) r).map (Slot.io k d :: ·) else none | _ => none) = _
  cases slotAt env j with
  | none => rfl
  | some s =>
    cases s with
    | io k' d' =>
      by_cases h : k' = k
      · simp [ioAt, h]
      · simp [ioAt, h]
    | _ => rfl
end
/-! loops -/
section
variable {P : PyData → DEnv → Prop} {E : ExD → DEnv → Prop} {env : DEnv} {N : DEnv → Prop} {Z : Ez}
theorem for_ok_u {B : Bd} {G : DEnv → Flow} (I : Nat → DEnv → Prop) : ∀ (ds : List PyData) (k : Nat) {env : DEnv}, I k env → (∀ i d e, ds[i]? = some d → I (k + i) e → OT0 (B d e) fun e1 => (G e1).fo0 (I (k + i + 1)) { rt := Z.rt, bk := N, ct := I (k + i + 1), ex := Z.ex }) → (∀ e, I (k + ds.length) e → N e) → (forF B G ds env).fo0 N Z
  | [], k, env, h0, hs, hend => hend env h0
  | d :: ds, k, env, h0, hs, hend => by
    have h1 := hs 0 d env rfl h0
    have ih : ∀ e, I (k + 1) e → (forF B G ds e).fo0 N Z := fun e he => for_ok_u I ds (k + 1) he (fun i d' e' hd hi => by
      have := hs (i + 1) d' e' hd (by rw [show k + (i + 1) = k + 1 + i from by omega]; exact hi)
      rw [show k + (i + 1) = k + 1 + i from by omega] at this
      exact this) (fun e' hi => hend e' (by rw [List.length_cons, show k + (ds.length + 1) = k + 1 + ds.length from by omega]; exact hi))
    unfold forF
    cases hB : B d env with
    | none =>
      rw [hB] at h1
      exact h1.elim
    | some e1 =>
      rw [hB] at h1
      have h1 : (G e1).fo0 (I (k + 1)) { rt := Z.rt, bk := N, ct := I (k + 1), ex := Z.ex } := h1
      simp only
      cases hG : G e1 with
      | next e => rw [hG] at h1; exact ih e h1
      | cont e => rw [hG] at h1; exact ih e h1
      | brk e => rw [hG] at h1; exact h1
      | ret fr d e => rw [hG] at h1; exact h1
      | exc x e => rw [hG] at h1; exact h1
      | bad => rw [hG] at h1; exact h1
/-- for, from its first turn on -/
theorem for_ok0_u {B : Bd} {G : DEnv → Flow} (I : Nat → DEnv → Prop) {ds : List PyData} {env : DEnv} (h0 : I 0 env) (hs : ∀ i d e, ds[i]? = some d → I i e → OT0 (B d e) fun e1 => (G e1).fo0 (I (i + 1)) { rt := Z.rt, bk := N, ct := I (i + 1), ex := Z.ex }) (hend : ∀ e, I ds.length e → N e) : (forF B G ds env).fo0 N Z :=
  for_ok_u I ds 0 h0 (fun i d e hd hi => by
    rw [Nat.zero_add] at hi ⊢
    exact hs i d e hd hi) (fun e hi => hend e (by rw [Nat.zero_add] at hi; exact hi))
theorem while_ok_u {T : DEnv → R Bool} {G : DEnv → Flow} (I : Nat → DEnv → Prop) (hs : ∀ m e, I m e → (T e).to0 (fun b e1 => Cnd0 b ((G e1).fo0 (fun e2 => ∃ m', m' < m ∧ I m' e2) { rt := Z.rt, bk := N, ct := fun e2 => ∃ m', m' < m ∧ I m' e2, ex := Z.ex }) (N e1)) Z.ex) :
    ∀ (m : Nat) {env : DEnv}, I m env → (gWhile T G env).fo0 N Z := by
  have key : ∀ (m : Nat) (env : DEnv), I m env → ∃ n, (whileN T G n env).isBad = false ∧ (whileN T G n env).fo0 N Z := by
    intro m
    induction m using Nat.strongRecOn with
    | ind m ih =>
      intro env h
      have h1 := hs m env h
      cases hT : T env with
      | bad => rw [hT] at h1; exact h1.elim
      | exc x e =>
        rw [hT] at h1
        refine ⟨1, ?_⟩
        unfold whileN
        rw [hT]
        exact ⟨rfl, h1⟩
      | ok b e1 =>
        rw [hT] at h1
        cases b with
        | false =>
          refine ⟨1, ?_⟩
          unfold whileN
          rw [hT]
          exact ⟨rfl, h1⟩
        | true =>
          have h1 : (G e1).fo0 (fun e2 => ∃ m', m' < m ∧ I m' e2) { rt := Z.rt, bk := N, ct := fun e2 => ∃ m', m' < m ∧ I m' e2, ex := Z.ex } := h1
          cases hG : G e1 with
          | next e2 =>
            rw [hG] at h1
            obtain ⟨m', hm, hi⟩ := h1
            obtain ⟨n, hn⟩ := ih m' hm e2 hi
            refine ⟨n + 1, ?_⟩
            unfold whileN
            rw [hT]
            simp only [R.ok_toF, if_true, hG]
            exact hn
          | cont e2 =>
            rw [hG] at h1
            obtain ⟨m', hm, hi⟩ := h1
            obtain ⟨n, hn⟩ := ih m' hm e2 hi
            refine ⟨n + 1, ?_⟩
            unfold whileN
            rw [hT]
            simp only [R.ok_toF, if_true, hG]
            exact hn
          | brk e2 =>
            rw [hG] at h1
            refine ⟨1, ?_⟩
            unfold whileN
            rw [hT]
            simp only [R.ok_toF, if_true, hG]
            exact ⟨rfl, h1⟩
          | ret fr d e2 =>
            rw [hG] at h1
            refine ⟨1, ?_⟩
            unfold whileN
            rw [hT]
            simp only [R.ok_toF, if_true, hG]
            exact ⟨rfl, h1⟩
          | exc x e2 =>
            rw [hG] at h1
            refine ⟨1, ?_⟩
            unfold whileN
            rw [hT]
            simp only [R.ok_toF, if_true, hG]
            exact ⟨rfl, h1⟩
          | bad => rw [hG] at h1; exact h1.elim
  intro m env h
  obtain ⟨n, h1, h2⟩ := key m env h
  rw [gWhile_eq h1]
  exact h2
/-! comprehensions -/
theorem lc_ok_u {vs : List Nat} {B : Bd} {T : DEnv → R Bool} {F : DEnv → R PyData} {Q : List PyData → DEnv → Prop} (I : Nat → List PyData → DEnv → Prop) : ∀ (ds : List PyData) (k : Nat) {acc : List PyData} {env : DEnv}, acc.length ≤ k → k + ds.length ≤ sizeLine → I k acc env →
    (∀ i d acc e, ds[i]? = some d → acc.length ≤ k + i → I (k + i) acc e → OT0 (B d e) fun e1 => (T e1).to0 (fun b e2 => Cnd0 b ((F e2).to0 (fun r e3 => I (k + i + 1) (acc ++ [r]) (wipeE e3 vs)) noE) (I (k + i + 1) acc (wipeE e2 vs))) noE) →
    (∀ acc e, acc.length ≤ k + ds.length → I (k + ds.length) acc e → Q acc e) → (lcF vs B T F ds acc env).to0 Q noE
  | [], k, acc, env, ha, hl, h0, hs, hend => hend acc env ha h0
  | d :: ds, k, acc, env, ha, hl, h0, hs, hend => by
    have h1 := hs 0 d acc env rfl ha h0
    rw [List.length_cons] at hl
    have ih : ∀ acc e, acc.length ≤ k + 1 → I (k + 1) acc e → (lcF vs B T F ds acc e).to0 Q noE := fun acc e ha he => lc_ok_u I ds (k + 1) ha (by omega) he (fun i d' acc' e' hd hi he' => by
      have := hs (i + 1) d' acc' e' hd (by omega) (by rw [show k + (i + 1) = k + 1 + i from by omega]; exact he')
      rw [show k + (i + 1) = k + 1 + i from by omega] at this
      exact this) (fun acc' e' hi he' => hend acc' e' (by rw [List.length_cons]; omega) (by rw [List.length_cons, show k + (ds.length + 1) = k + 1 + ds.length from by omega]; exact he'))
    rw [lcF_cons]
    cases hB : B d env with
    | none =>
      rw [hB] at h1
      exact h1.elim
    | some e1 =>
      rw [hB] at h1
      have h1 : (T e1).to0 (fun b e2 => Cnd0 b ((F e2).to0 (fun r e3 => I (k + 1) (acc ++ [r]) (wipeE e3 vs)) noE) (I (k + 1) acc (wipeE e2 vs))) noE := h1
      simp only
      cases hT : T e1 with
      | bad => rw [hT] at h1; exact h1.elim
      | exc x e => rw [hT] at h1; exact h1.elim
      | ok b e2 =>
        rw [hT] at h1
        cases b with
        | false => exact ih acc _ (by omega) h1
        | true =>
          have h1 : (F e2).to0 (fun r e3 => I (k + 1) (acc ++ [r]) (wipeE e3 vs)) noE := h1
          simp only
          cases hF : F e2 with
          | bad => rw [hF] at h1; exact h1.elim
          | exc x e => rw [hF] at h1; exact h1.elim
          | ok r e3 =>
            rw [hF] at h1
            simp only
            rw [if_pos (by omega)]
            exact ih _ _ (by rw [List.length_append]; show acc.length + 1 ≤ _; omega) h1
@[simp] theorem e_Lc_u {F : DEnv → R (List PyData)} {vs : List Nat} {B : Bd} {T : DEnv → R Bool} {G : DEnv → R PyData} : (fLc F vs B T G env).to0 P E = (F env).to0 (fun ds e => (lcF vs B T G ds [] (wipeE e vs)).to0 (fun rs e2 => P (.list rs) e2) E) E := by
  unfold fLc
  simp only [to_bind_u, to_ok_u]
@[simp] theorem e_Yes_u {P : Bool → DEnv → Prop} : (fYes env).to0 P E = P true env := rfl
@[simp] theorem wipeE_nil_u : wipeE env [] = env := rfl
@[simp] theorem wipeE_cons_u {v : Nat} {vs : List Nat} : wipeE env (v :: vs) = (wipeE env vs).set v none := rfl
/-- a comprehension, its state told -/
theorem lc_to_u {vs : List Nat} {B : Bd} {T : DEnv → R Bool} {F : DEnv → R PyData} {ds : List PyData} {Q : List PyData → DEnv → Prop} (I : Nat → List PyData → DEnv → Prop) (hl : ds.length ≤ sizeLine) (h0 : I 0 [] env)
    (hs : ∀ i d acc e, ds[i]? = some d → I i acc e → OT0 (B d e) fun e1 => (T e1).to0 (fun b e2 => Cnd0 b ((F e2).to0 (fun r e3 => I (i + 1) (acc ++ [r]) (wipeE e3 vs)) noE) (I (i + 1) acc (wipeE e2 vs))) noE)
    (hend : ∀ acc e, I ds.length acc e → Q acc e) : (lcF vs B T F ds [] env).to0 Q noE :=
  lc_ok_u I ds 0 (Nat.le_refl _) (by omega) h0 (fun i d acc e hd _ hi => by
    rw [Nat.zero_add] at hi ⊢
    exact hs i d acc e hd hi) (fun acc e _ hi => hend acc e (by rw [Nat.zero_add] at hi; exact hi))
/-- a comprehension that changes nothing -/
theorem lc_fm_u {vs : List Nat} {B : Bd} {T : DEnv → R Bool} {F : DEnv → R PyData} (p : PyData → Bool) (f : PyData → PyData) : ∀ {ds acc : List PyData}, acc.length + ds.length ≤ sizeLine → (∀ d ∈ ds, OT0 (B d env) fun e1 => (T e1).to0 (fun b e2 => b = p d ∧ Cnd0 b ((F e2).to0 (fun r e3 => r = f d ∧ wipeE e3 vs = env) noE) (wipeE e2 vs = env)) noE) →
    lcF vs B T F ds acc env = .ok (acc ++ (ds.filter p).map f) env
  | [], acc, _, _ => by simp [lcF]
  | d :: ds, acc, hl, h => by
    have h1 := h d List.mem_cons_self
    rw [List.length_cons] at hl
    rw [lcF_cons]
    cases hB : B d env with
    | none => rw [hB] at h1; exact h1.elim
    | some e1 =>
      rw [hB] at h1
      have h1 : (T e1).to0 (fun b e2 => b = p d ∧ Cnd0 b ((F e2).to0 (fun r e3 => r = f d ∧ wipeE e3 vs = env) noE) (wipeE e2 vs = env)) noE := h1
      simp only
      cases hT : T e1 with
      | bad => rw [hT] at h1; exact h1.elim
      | exc x e => rw [hT] at h1; exact h1.elim
      | ok b e2 =>
        rw [hT] at h1
        obtain ⟨rfl, h1⟩ : b = p d ∧ Cnd0 b ((F e2).to0 (fun r e3 => r = f d ∧ wipeE e3 vs = env) noE) (wipeE e2 vs = env) := h1
        cases hp : p d with
        | false =>
          rw [hp] at h1
          have h1 : wipeE e2 vs = env := h1
          simp only [h1]
          rw [lc_fm_u p f (by omega) fun x hx => h x (List.mem_cons_of_mem _ hx), List.filter_cons, hp]
          rfl
        | true =>
          rw [hp] at h1
          have h1 : (F e2).to0 (fun r e3 => r = f d ∧ wipeE e3 vs = env) noE := h1
          simp only
          cases hF : F e2 with
          | bad => rw [hF] at h1; exact h1.elim
          | exc x e => rw [hF] at h1; exact h1.elim
          | ok r e3 =>
            rw [hF] at h1
            obtain ⟨rfl, h1⟩ : r = f d ∧ wipeE e3 vs = env := h1
            simp only [h1]
            rw [if_pos (by omega), lc_fm_u p f (by rw [List.length_append]; show acc.length + 1 + _ ≤ _; omega) fun x hx => h x (List.mem_cons_of_mem _ hx), List.filter_cons, hp]
            simp
/-- all(..), any(..) that change nothing -/
theorem any_fm_u {stop : Bool} {vs : List Nat} {B : Bd} {F : DEnv → R PyData} (p : PyData → Bool) : ∀ {ds : List PyData}, (∀ d ∈ ds, OT0 (B d env) fun e1 => (F e1).to0 (fun r e2 => r = .bool (p d) ∧ wipeE e2 vs = env) noE) →
    anyF stop vs B F ds env = .ok (if stop = true then ds.any p else ds.all p) env
  | [], _ => by cases stop <;> rfl
  | d :: ds, h => by
    have h1 := h d List.mem_cons_self
    rw [anyF_cons]
    cases hB : B d env with
    | none => rw [hB] at h1; exact h1.elim
    | some e1 =>
      rw [hB] at h1
      have h1 : (F e1).to0 (fun r e2 => r = .bool (p d) ∧ wipeE e2 vs = env) noE := h1
      simp only
      cases hF : F e1 with
      | bad => rw [hF] at h1; exact h1.elim
      | exc x e => rw [hF] at h1; exact h1.elim
      | ok r e2 =>
        rw [hF] at h1
        obtain ⟨rfl, h1⟩ : r = .bool (p d) ∧ wipeE e2 vs = env := h1
        simp only [h1]
        have ih := any_fm_u (stop := stop) (B := B) (F := F) (vs := vs) p fun x hx => h x (List.mem_cons_of_mem _ hx)
        cases stop <;> cases hp : p d <;> simp [hp, ih]
@[simp] theorem e_Any_u {stop : Bool} {F : DEnv → R (List PyData)} {vs : List Nat} {B : Bd} {G : DEnv → R PyData} : (fAny stop F vs B G env).to0 P E = (F env).to0 (fun ds e => (anyF stop vs B G ds (wipeE e vs)).to0 (fun b e2 => P (.bool b) e2) E) E := by
  unfold fAny
  simp only [to_bind_u, to_ok_u]
@[simp] theorem e_DcK_u {F : DEnv → R (List PyData)} {vs : List Nat} {B : Bd} {T : DEnv → R Bool} {Gk Gv : DEnv → R PyData} : (fDcK F vs B T Gk Gv env).to0 P E = (F env).to0 (fun ds e => (dcFK vs B T Gk Gv ds [] (wipeE e vs)).to0 (fun rs e2 => P (.dict rs) e2) E) E := by
  unfold fDcK
  simp only [to_bind_u, to_ok_u]
@[simp] theorem e_DcT_u {F : DEnv → R (List PyData)} {vs : List Nat} {B : Bd} {T : DEnv → R Bool} {Gk Gv : DEnv → R PyData} : (fDcT F vs B T Gk Gv env).to0 P E = (F env).to0 (fun ds e => (dcFT vs B T Gk Gv ds [] (wipeE e vs)).to0 (fun rs e2 => P (.dict ((.none, .none) :: rs)) e2) E) E := by
  unfold fDcT
  simp only [to_bind_u, to_ok_u]
end
end Dl
set_option Elab.async false
set_option linter.all false
set_option maxRecDepth 100000
set_option maxHeartbeats 4000000
namespace Dl
open PySem PySem.Spec PyProof.Rows L2 Evl Gx GxR RZ
/-! what is done behind is not looked into -/
class Kp (α : Type) where
  p : α → Prop
class Kc where
  a : Prop
  b : Prop
class Ks where
  p : PyData → Prop
  o : PyData → Prop
class Kd (α : Type) where
  p : α → DEnv → Prop
  e : ExD → DEnv → Prop
class Ke where
  n : DEnv → Prop
  z : Ez
class Kf where
  p : Bool → PyData → List Slot → Prop
  e : ExD → List Slot → Prop
def OT {α : Type} (o : Option α) [k : Kp α] : Prop := OT0 o k.p
def BT (d : PyData) [k : Kp Bool] : Prop := BT0 d k.p
def IT (d : PyData) [k : Kp Int] : Prop := IT0 d k.p
def Cnd (b : Bool) [k : Kc] : Prop := Cnd0 b k.a k.b
def SV1 (s : Option Slot) [k : Ks] : Prop := SV0 s k.p k.o
def R.to {α : Type} (r : R α) [k : Kd α] : Prop := r.to0 k.p k.e
def Flow.fo (f : Flow) [k : Ke] : Prop := f.fo0 k.n k.z
def FR.to (r : FR) [k : Kf] : Prop := r.to0 k.p k.e
section
variable {α β : Type} {P : α → DEnv → Prop} {E : ExD → DEnv → Prop} {env : DEnv} {N : DEnv → Prop} {Z : Ez}
@[simp] theorem OT_some {a : α} {P : α → Prop} : OT (some a) (k := ⟨P⟩) = P a := rfl
@[simp] theorem OT_none {P : α → Prop} : OT none (k := ⟨P⟩) = False := rfl
@[simp] theorem OT_bind {o : Option β} {k : β → Option α} {P : α → Prop} : OT (o.bind k) (k := ⟨P⟩) = OT o (k := ⟨fun b => OT (k b) (k := ⟨P⟩)⟩) := OT_bind_u 
@[simp] theorem OT_map {o : Option β} {k : β → α} {P : α → Prop} : OT (o.map k) (k := ⟨P⟩) = OT o (k := ⟨fun b => P (k b)⟩) := OT_map_u 
@[simp] theorem OT_ite {c : Prop} [Decidable c] {o o' : Option α} {P : α → Prop} : OT (if c then o else o') (k := ⟨P⟩) = Cnd (decide c) (k := ⟨(OT o (k := ⟨P⟩)), (OT o' (k := ⟨P⟩))⟩) := OT_ite_u 
@[simp] theorem Cnd_true {A B : Prop} : Cnd true (k := ⟨A, B⟩) = A := rfl
@[simp] theorem Cnd_false {A B : Prop} : Cnd false (k := ⟨A, B⟩) = B := rfl
theorem Cnd_iff {b : Bool} {A B : Prop} : Cnd b (k := ⟨A, B⟩) ↔ (b = true → A) ∧ (b = false → B) := Cnd_iff_u 
theorem Cnd_of {b : Bool} {A B : Prop} (h1 : b = true → A) (h2 : b = false → B) : Cnd b (k := ⟨A, B⟩) := Cnd_of_u h1 h2
@[simp] theorem BT_bool {b : Bool} {P : Bool → Prop} : BT (.bool b) (k := ⟨P⟩) = P b := rfl
@[simp] theorem IT_int {b : Int} {P : Int → Prop} : IT (.int b) (k := ⟨P⟩) = P b := rfl
@[simp] theorem SV1_shr {d : PyData} {P O : PyData → Prop} : SV1 (some (.shr d)) (k := ⟨P, O⟩) = P d := rfl
@[simp] theorem SV1_own {d : PyData} {P O : PyData → Prop} : SV1 (some (.own d)) (k := ⟨P, O⟩) = O d := rfl
@[simp] theorem to_ok {a : α} {e : DEnv} : (R.ok a e).to (k := ⟨P, E⟩) = P a e := rfl
@[simp] theorem to_exc {x : ExD} {e : DEnv} : (R.exc x e : R α).to (k := ⟨P, E⟩) = E x e := rfl
@[simp] theorem to_bad : (R.bad : R α).to (k := ⟨P, E⟩) = False := rfl
@[simp] theorem to_bind {r : R β} {k : β → DEnv → R α} : (r.bind k).to (k := ⟨P, E⟩) = r.to (k := ⟨(fun b e => (k b e).to (k := ⟨P, E⟩)), E⟩) := to_bind_u 
@[simp] theorem to_of {o : Option α} {e : DEnv} : (R.of o e).to (k := ⟨P, E⟩) = OT o (k := ⟨fun a => P a e⟩) := to_of_u 
@[simp] theorem to_ite {b : Bool} {r r' : R α} : (if b = true then r else r').to (k := ⟨P, E⟩) = Cnd b (k := ⟨(r.to (k := ⟨P, E⟩)), (r'.to (k := ⟨P, E⟩))⟩) := to_ite_u 
theorem to_mono {r : R α} {P' : α → DEnv → Prop} {E' : ExD → DEnv → Prop} (h : r.to (k := ⟨P, E⟩)) (hP : ∀ a e, P a e → P' a e) (hE : ∀ x e, E x e → E' x e) : r.to (k := ⟨P', E'⟩) := to_mono_u h hP hE
theorem frto_mono {r : FR} {P P' : Bool → PyData → List Slot → Prop} {E E' : ExD → List Slot → Prop} (h : r.to (k := ⟨P, E⟩)) (hP : ∀ f d o, P f d o → P' f d o) (hE : ∀ x o, E x o → E' x o) : r.to (k := ⟨P', E'⟩) := frto_mono_u h hP hE
@[simp] theorem frto_ret {f : Bool} {d : PyData} {o : List Slot} {P : Bool → PyData → List Slot → Prop} {E : ExD → List Slot → Prop} : (FR.ret f d o).to (k := ⟨P, E⟩) = P f d o := rfl
@[simp] theorem frto_exc {x : ExD} {o : List Slot} {P : Bool → PyData → List Slot → Prop} {E : ExD → List Slot → Prop} : (FR.exc x o).to (k := ⟨P, E⟩) = E x o := rfl
@[simp] theorem frto_bad {P : Bool → PyData → List Slot → Prop} {E : ExD → List Slot → Prop} : FR.bad.to (k := ⟨P, E⟩) = False := rfl
theorem frto_eq {r : FR} {f : Bool} {d : PyData} {o : List Slot} (h : r.to (k := ⟨(fun f' d' o' => f' = f ∧ d' = d ∧ o' = o), noE⟩)) : r = .ret f d o := frto_eq_u h
@[simp] theorem ok_next {e : DEnv} : (Flow.next e).fo (k := ⟨N, Z⟩) = N e := rfl
@[simp] theorem ok_ret {f : Bool} {d : PyData} {e : DEnv} : (Flow.ret f d e).fo (k := ⟨N, Z⟩) = Z.rt f d e := rfl
@[simp] theorem ok_brk {e : DEnv} : (Flow.brk e).fo (k := ⟨N, Z⟩) = Z.bk e := rfl
@[simp] theorem ok_cont {e : DEnv} : (Flow.cont e).fo (k := ⟨N, Z⟩) = Z.ct e := rfl
@[simp] theorem ok_exc {x : ExD} {e : DEnv} : (Flow.exc x e).fo (k := ⟨N, Z⟩) = Z.ex x e := rfl
@[simp] theorem ok_bad : Flow.bad.fo (k := ⟨N, Z⟩) = False := rfl
@[simp] theorem ok_toF {r : R α} {k : α → DEnv → Flow} : (r.toF k).fo (k := ⟨N, Z⟩) = r.to (k := ⟨(fun a e => (k a e).fo (k := ⟨N, Z⟩)), Z.ex⟩) := ok_toF_u 
@[simp] theorem ok_ite {b : Bool} {f g : Flow} : (if b = true then f else g).fo (k := ⟨N, Z⟩) = Cnd b (k := ⟨(f.fo (k := ⟨N, Z⟩)), (g.fo (k := ⟨N, Z⟩))⟩) := ok_ite_u 
theorem ok_mono {f : Flow} {N' : DEnv → Prop} {Z' : Ez} (h : f.fo (k := ⟨N, Z⟩)) (h1 : ∀ e, N e → N' e) (h2 : ∀ a d e, Z.rt a d e → Z'.rt a d e) (h3 : ∀ e, Z.bk e → Z'.bk e) (h4 : ∀ e, Z.ct e → Z'.ct e) (h5 : ∀ x e, Z.ex x e → Z'.ex x e) : f.fo (k := ⟨N', Z'⟩) := ok_mono_u h h1 h2 h3 h4 h5
end
/-! the environment -/
/-! expressions -/
section
variable {α β : Type} {P : PyData → DEnv → Prop} {E : ExD → DEnv → Prop} {env : DEnv} {N : DEnv → Prop} {Z : Ez} {F G : DEnv → R PyData} {Fa Fb Fc : DEnv → R BD}
@[simp] theorem e_C {d : PyData} : (fC d env).to (k := ⟨P, E⟩) = P d env := rfl
@[simp] theorem e_Var {i : Nat} : (fVar i env).to (k := ⟨P, E⟩) = SV1 (slotAt env i) (k := ⟨(fun d => P d env), (fun d => P d (env.set i (some (.shr d))))⟩) := e_Var_u 
@[simp] theorem e_Bor {P : BD → DEnv → Prop} {i : Nat} : (fBor i env).to (k := ⟨P, E⟩) = OT (slotAt env i) (k := ⟨fun _ => P (.var i) env⟩) := e_Bor_u 
@[simp] theorem e_Val {P : BD → DEnv → Prop} : (fVal F env).to (k := ⟨P, E⟩) = (F env).to (k := ⟨(fun d e => P (.val d) e), E⟩) := e_Val_u 
@[simp] theorem e_2 {op : PyData → PyData → Option PyData} : (f2 op Fa Fb env).to (k := ⟨P, E⟩) = (Fa env).to (k := ⟨(fun a e1 => (Fb e1).to (k := ⟨(fun b e2 => OT (a.get e2) (k := ⟨fun x => OT (b.get e2) (k := ⟨fun y => OT (op x y) (k := ⟨fun d => P d e2⟩)⟩)⟩)), E⟩)), E⟩) := e_2_u 
@[simp] theorem e_NotV : (fNotV Fa env).to (k := ⟨P, E⟩) = (Fa env).to (k := ⟨(fun b e => OT (b.get e) (k := ⟨fun x => OT (dTruth x) (k := ⟨fun k => P (.bool (!k)) e⟩)⟩)), E⟩) := e_NotV_u 
@[simp] theorem e_Neg : (fNeg Fa env).to (k := ⟨P, E⟩) = (Fa env).to (k := ⟨(fun b e => OT (b.get e) (k := ⟨fun x => IT x (k := ⟨fun i => P (.int (-i)) e⟩)⟩)), E⟩) := e_Neg_u 
@[simp] theorem e_AndV : (fAndV F G env).to (k := ⟨P, E⟩) = (F env).to (k := ⟨(fun d e => OT (dTruth d) (k := ⟨fun k => Cnd k (k := ⟨((G e).to (k := ⟨P, E⟩)), (P d e)⟩)⟩)), E⟩) := e_AndV_u 
@[simp] theorem e_OrV : (fOrV F G env).to (k := ⟨P, E⟩) = (F env).to (k := ⟨(fun d e => OT (dTruth d) (k := ⟨fun k => Cnd k (k := ⟨(P d e), ((G e).to (k := ⟨P, E⟩))⟩)⟩)), E⟩) := e_OrV_u 
@[simp] theorem e_Ite {P : α → DEnv → Prop} {T : DEnv → R Bool} {A B : DEnv → R α} : (fIte T A B env).to (k := ⟨P, E⟩) = (T env).to (k := ⟨(fun b e => Cnd b (k := ⟨((A e).to (k := ⟨P, E⟩)), ((B e).to (k := ⟨P, E⟩))⟩)), E⟩) := e_Ite_u 
@[simp] theorem e_IteX {P : Bool × PyData → DEnv → Prop} {T : DEnv → R Bool} {A B : DEnv → R (Bool × PyData)} : (fIteX T A B env).to (k := ⟨P, E⟩) = (T env).to (k := ⟨(fun b e => Cnd b (k := ⟨((A e).to (k := ⟨P, E⟩)), ((B e).to (k := ⟨P, E⟩))⟩)), E⟩) := e_IteX_u 
@[simp] theorem e_Nil {P : List PyData → DEnv → Prop} : (fNil env).to (k := ⟨P, E⟩) = P [] env := rfl
@[simp] theorem e_Cons {P : List PyData → DEnv → Prop} {G : DEnv → R (List PyData)} : (fCons F G env).to (k := ⟨P, E⟩) = (F env).to (k := ⟨(fun d e => (G e).to (k := ⟨(fun ds e2 => P (d :: ds) e2), E⟩)), E⟩) := e_Cons_u 
@[simp] theorem e_Tup {G : DEnv → R (List PyData)} : (fTup G env).to (k := ⟨P, E⟩) = (G env).to (k := ⟨(fun ds e => Cnd (fits ds.length) (k := ⟨(P (.tuple ds) e), False⟩)), E⟩) := e_Tup_u 
@[simp] theorem e_Lst {G : DEnv → R (List PyData)} : (fLst G env).to (k := ⟨P, E⟩) = (G env).to (k := ⟨(fun ds e => Cnd (fits ds.length) (k := ⟨(P (.list ds) e), False⟩)), E⟩) := e_Lst_u 
@[simp] theorem e_NoP {P : Option Int → DEnv → Prop} : (fNoP env).to (k := ⟨P, E⟩) = P none env := rfl
@[simp] theorem e_Part {P : Option Int → DEnv → Prop} : (fPart F env).to (k := ⟨P, E⟩) = (F env).to (k := ⟨(fun d e => IT d (k := ⟨fun i => P (some i) e⟩)), E⟩) := e_Part_u 
@[simp] theorem e_Sl {L U : DEnv → R (Option Int)} : (fSl Fa L U env).to (k := ⟨P, E⟩) = (Fa env).to (k := ⟨(fun b e1 => (L e1).to (k := ⟨(fun l e2 => (U e2).to (k := ⟨(fun u e3 => OT (b.get e3) (k := ⟨fun x => OT (dSl x l u) (k := ⟨fun d => P d e3⟩)⟩)), E⟩)), E⟩)), E⟩) := e_Sl_u 
@[simp] theorem e_Chain {o1 o2 : PyData → PyData → Option PyData} : (fChain o1 o2 Fa Fb Fc env).to (k := ⟨P, E⟩) = (Fa env).to (k := ⟨(fun a e1 => (Fb e1).to (k := ⟨(fun b e2 => OT (a.get e2) (k := ⟨fun x => OT (b.get e2) (k := ⟨fun y => OT (o1 x y) (k := ⟨fun d => BT d (k := ⟨fun k => Cnd k (k := ⟨((Fc e2).to (k := ⟨(fun w e3 => OT (b.get e3) (k := ⟨fun y => OT (w.get e3) (k := ⟨fun z => OT (o2 y z) (k := ⟨fun d => P d e3⟩)⟩)⟩)), E⟩)), (P (.bool false) e2)⟩)⟩)⟩)⟩)⟩)), E⟩)), E⟩) := e_Chain_u 
@[simp] theorem e_T {P : Bool → DEnv → Prop} : (fT F env).to (k := ⟨P, E⟩) = (F env).to (k := ⟨(fun d e => BT d (k := ⟨fun b => P b e⟩)), E⟩) := e_T_u 
@[simp] theorem e_Tr {P : Bool → DEnv → Prop} : (fTr Fa env).to (k := ⟨P, E⟩) = (Fa env).to (k := ⟨(fun b e => OT (b.get e) (k := ⟨fun x => OT (dTruth x) (k := ⟨fun k => P k e⟩)⟩)), E⟩) := e_Tr_u 
@[simp] theorem e_Not {P : Bool → DEnv → Prop} {T : DEnv → R Bool} : (fNot T env).to (k := ⟨P, E⟩) = (T env).to (k := ⟨(fun b e => P (!b) e), E⟩) := e_Not_u 
@[simp] theorem e_And {P : Bool → DEnv → Prop} {T U : DEnv → R Bool} : (fAnd T U env).to (k := ⟨P, E⟩) = (T env).to (k := ⟨(fun b e => Cnd b (k := ⟨((U e).to (k := ⟨P, E⟩)), (P false e)⟩)), E⟩) := e_And_u 
@[simp] theorem e_Or {P : Bool → DEnv → Prop} {T U : DEnv → R Bool} : (fOr T U env).to (k := ⟨P, E⟩) = (T env).to (k := ⟨(fun b e => Cnd b (k := ⟨(P true e), ((U e).to (k := ⟨P, E⟩))⟩)), E⟩) := e_Or_u 
@[simp] theorem e_Isi {T : String} : (fIsi T Fa env).to (k := ⟨P, E⟩) = (Fa env).to (k := ⟨(fun b e => OT (b.get e) (k := ⟨fun x => OT (isiB T x) (k := ⟨fun d => P d e⟩)⟩)), E⟩) := e_Isi_u 
@[simp] theorem e_BNil {P : List BD → DEnv → Prop} : (fBNil env).to (k := ⟨P, E⟩) = P [] env := rfl
@[simp] theorem e_BCons {P : List BD → DEnv → Prop} {G : DEnv → R (List BD)} : (fBCons Fa G env).to (k := ⟨P, E⟩) = (Fa env).to (k := ⟨(fun d e => (G e).to (k := ⟨(fun ds e2 => P (d :: ds) e2), E⟩)), E⟩) := e_BCons_u 
@[simp] theorem e_Blt {k : List PyData → Option PyData} {G : DEnv → R (List BD)} : (fBlt k G env).to (k := ⟨P, E⟩) = (G env).to (k := ⟨(fun bs e => OT (getAll e bs) (k := ⟨fun ds => OT (k ds) (k := ⟨fun d => P d e⟩)⟩)), E⟩) := e_Blt_u 
@[simp] theorem e_Walk {P : List PyData → DEnv → Prop} : (fWalk Fa env).to (k := ⟨P, E⟩) = (Fa env).to (k := ⟨(fun b e => OT (b.walk e) (k := ⟨fun x => OT (itemsOf x) (k := ⟨fun ds => P ds e⟩)⟩)), E⟩) := e_Walk_u 
@[simp] theorem e_Items {P : List PyData → DEnv → Prop} : (fItems F env).to (k := ⟨P, E⟩) = (F env).to (k := ⟨(fun x e => OT (itemsOf x) (k := ⟨fun ds => P ds e⟩)), E⟩) := e_Items_u 
@[simp] theorem e_Src {P : List PyData → DEnv → Prop} {k : List PyData → Option (List PyData)} {G : DEnv → R (List PyData)} : (fSrc k G env).to (k := ⟨P, E⟩) = (G env).to (k := ⟨(fun ds e => OT (k ds) (k := ⟨fun rs => P rs e⟩)), E⟩) := e_Src_u 
@[simp] theorem e_SrcB {P : List PyData → DEnv → Prop} {k : List PyData → Option (List PyData)} {G : DEnv → R (List BD)} : (fSrcB k G env).to (k := ⟨P, E⟩) = (G env).to (k := ⟨(fun bs e => OT (walkAll e bs) (k := ⟨fun ds => OT (k ds) (k := ⟨fun rs => P rs e⟩)⟩)), E⟩) := e_SrcB_u 
@[simp] theorem e_Sh {P : Bool × PyData → DEnv → Prop} : (fSh F env).to (k := ⟨P, E⟩) = (F env).to (k := ⟨(fun d e => P (false, d) e), E⟩) := e_Sh_u 
@[simp] theorem e_Ow {P : Bool × PyData → DEnv → Prop} : (fOw F env).to (k := ⟨P, E⟩) = (F env).to (k := ⟨(fun d e => P (true, d) e), E⟩) := e_Ow_u 
@[simp] theorem e_MoveX {P : Bool × PyData → DEnv → Prop} {i : Nat} : (fMoveX i env).to (k := ⟨P, E⟩) = SV1 (slotAt env i) (k := ⟨(fun d => P (false, d) env), (fun d => P (true, d) (env.set i none))⟩) := e_MoveX_u 
/-! calls -/
@[simp] theorem e_aNil {P : List ArgD → DEnv → Prop} : (aNil env).to (k := ⟨P, E⟩) = P [] env := rfl
@[simp] theorem e_aVal {P : List ArgD → DEnv → Prop} {A : DEnv → R (List ArgD)} : (aVal F A env).to (k := ⟨P, E⟩) = (F env).to (k := ⟨(fun d e => (A e).to (k := ⟨(fun as e2 => P (.val d :: as) e2), E⟩)), E⟩) := e_aVal_u 
@[simp] theorem e_aVar {P : List ArgD → DEnv → Prop} {A : DEnv → R (List ArgD)} {i : Nat} : (aVar i A env).to (k := ⟨P, E⟩) = OT (slotAt env i) (k := ⟨fun _ => (A env).to (k := ⟨(fun as e2 => P (.var i :: as) e2), E⟩)⟩) := e_aVar_u 
@[simp] theorem e_aIo {P : List ArgD → DEnv → Prop} {A : DEnv → R (List ArgD)} {i : Nat} : (aIo i A env).to (k := ⟨P, E⟩) = OT (slotAt env i) (k := ⟨fun _ => (A env).to (k := ⟨(fun as e2 => P (.io i :: as) e2), E⟩)⟩) := e_aIo_u 
theorem e_callR {P : Bool × PyData → DEnv → Prop} {S : List Slot → FR} {as : List ArgD} : (callR S env as).to (k := ⟨P, E⟩) = OT (slotsOf env 0 as) (k := ⟨fun ss => (S ss).to (k := ⟨(fun fr d outs => OT (backE env as outs) (k := ⟨fun e => P (fr, d) e⟩)), (fun x outs => OT (backE env as outs) (k := ⟨fun e => E x e⟩))⟩)⟩) := e_callR_u 
@[simp] theorem e_Call {S : List Slot → FR} {dfl : List PyData} {A : DEnv → R (List ArgD)} : (fCall S dfl A env).to (k := ⟨P, E⟩) = (A env).to (k := ⟨(fun as e => OT (slotsOf e 0 (as ++ dfl.map ArgD.val)) (k := ⟨fun ss => (S ss).to (k := ⟨(fun fr d outs => OT (backE e (as ++ dfl.map ArgD.val) outs) (k := ⟨fun e2 => P d e2⟩)), (fun x outs => OT (backE e (as ++ dfl.map ArgD.val) outs) (k := ⟨fun e2 => E x e2⟩))⟩)⟩)), E⟩) := e_Call_u 
@[simp] theorem e_CallX {P : Bool × PyData → DEnv → Prop} {S : List Slot → FR} {dfl : List PyData} {A : DEnv → R (List ArgD)} : (fCallX S dfl A env).to (k := ⟨P, E⟩) = (A env).to (k := ⟨(fun as e => OT (slotsOf e 0 (as ++ dfl.map ArgD.val)) (k := ⟨fun ss => (S ss).to (k := ⟨(fun fr d outs => OT (backE e (as ++ dfl.map ArgD.val) outs) (k := ⟨fun e2 => P (fr, d) e2⟩)), (fun x outs => OT (backE e (as ++ dfl.map ArgD.val) outs) (k := ⟨fun e2 => E x e2⟩))⟩)⟩)), E⟩) := e_CallX_u 
/-! what changes one's own -/
@[simp] theorem e_Mut {T : String} {i : Nat} {k : PyData → List PyData → Option (PyData × PyData)} {G : DEnv → R (List PyData)} : (fMut T i k G env).to (k := ⟨P, E⟩) = OT (ownS (slotAt env i)) (k := ⟨fun d0 => Cnd (decide (dTy d0 = T)) (k := ⟨((G env).to (k := ⟨(fun ds e1 => OT (ownS (slotAt e1 i)) (k := ⟨fun d => OT (k d ds) (k := ⟨fun r => OT (putS (slotAt e1 i) r.2) (k := ⟨fun s => P r.1 (e1.set i (some s))⟩)⟩)⟩)), E⟩)), False⟩)⟩) := e_Mut_u 
@[simp] theorem e_Mut0 {T : String} {i : Nat} {k : PyData → List PyData → Option (PyData × PyData)} : (fMut0 T i k env).to (k := ⟨P, E⟩) = OT (ownS (slotAt env i)) (k := ⟨fun d => Cnd (decide (dTy d = T)) (k := ⟨(OT (k d []) (k := ⟨fun r => OT (putS (slotAt env i) r.2) (k := ⟨fun s => P r.1 (env.set i (some s))⟩)⟩)), False⟩)⟩) := e_Mut0_u 
/-! statements -/
@[simp] theorem s_Seq {G K : DEnv → Flow} : (gSeq G K env).fo (k := ⟨N, Z⟩) = (G env).fo (k := ⟨(fun e => (K e).fo (k := ⟨N, Z⟩)), Z⟩) := s_Seq_u 
@[simp] theorem s_None : (gNone env).fo (k := ⟨N, Z⟩) = N env := rfl
@[simp] theorem s_Brk : (gBrk env).fo (k := ⟨N, Z⟩) = Z.bk env := rfl
@[simp] theorem s_Cont : (gCont env).fo (k := ⟨N, Z⟩) = Z.ct env := rfl
@[simp] theorem s_Bad : (gBad env).fo (k := ⟨N, Z⟩) = False := rfl
@[simp] theorem s_RetN : (gRetN env).fo (k := ⟨N, Z⟩) = Z.rt false .none env := rfl
@[simp] theorem s_Set {i : Nat} : (gSet i F env).fo (k := ⟨N, Z⟩) = (F env).to (k := ⟨(fun d e => N (e.set i (some (.shr d)))), Z.ex⟩) := s_Set_u 
@[simp] theorem s_Own {i : Nat} : (gOwn i F env).fo (k := ⟨N, Z⟩) = (F env).to (k := ⟨(fun d e => N (e.set i (some (.own d)))), Z.ex⟩) := s_Own_u 
@[simp] theorem s_SetX {i : Nat} {F : DEnv → R (Bool × PyData)} : (gSetX i F env).fo (k := ⟨N, Z⟩) = (F env).to (k := ⟨(fun p e => N (e.set i (some (slotX p)))), Z.ex⟩) := s_SetX_u 
@[simp] theorem s_Expr {F : DEnv → R PyData} : (gExpr F env).fo (k := ⟨N, Z⟩) = (F env).to (k := ⟨(fun _ e => N e), Z.ex⟩) := s_Expr_u 
@[simp] theorem s_Ret {fr : Bool} : (gRet fr F env).fo (k := ⟨N, Z⟩) = (F env).to (k := ⟨(fun d e => Z.rt fr d e), Z.ex⟩) := s_Ret_u 
@[simp] theorem s_RetX {F : DEnv → R (Bool × PyData)} : (gRetX F env).fo (k := ⟨N, Z⟩) = (F env).to (k := ⟨(fun p e => Z.rt p.1 p.2 e), Z.ex⟩) := s_RetX_u 
@[simp] theorem s_If {T : DEnv → R Bool} {A B : DEnv → Flow} : (gIf T A B env).fo (k := ⟨N, Z⟩) = (T env).to (k := ⟨(fun b e => Cnd b (k := ⟨((A e).fo (k := ⟨N, Z⟩)), ((B e).fo (k := ⟨N, Z⟩))⟩)), Z.ex⟩) := s_If_u 
@[simp] theorem s_Asg {B : Bd} : (gAsg B F env).fo (k := ⟨N, Z⟩) = (F env).to (k := ⟨(fun d e => OT (B d e) (k := ⟨fun e2 => N e2⟩)), Z.ex⟩) := s_Asg_u 
@[simp] theorem s_Store {i : Nat} {I : DEnv → R BD} : (gStore i I F env).fo (k := ⟨N, Z⟩) = (F env).to (k := ⟨(fun d e1 => OT (ownS (slotAt e1 i)) (k := ⟨fun _ => (I e1).to (k := ⟨(fun b e2 => OT (b.get e2) (k := ⟨fun k => IT k (k := ⟨fun k => OT (ownS (slotAt e2 i)) (k := ⟨fun l => OT (match l with | .list ds => some ds | _ => none) (k := ⟨fun ds => OT (ixN ds.length k) (k := ⟨fun j => OT (putS (slotAt e2 i) (.list (ds.set j d))) (k := ⟨fun s => N (e2.set i (some s))⟩)⟩)⟩)⟩)⟩)⟩)), Z.ex⟩)⟩)), Z.ex⟩) := s_Store_u 
@[simp] theorem s_Aug {i : Nat} {k : PyData → PyData → Option PyData} : (gAug i k F env).fo (k := ⟨N, Z⟩) = SV1 (slotAt env i) (k := ⟨(fun d => (F env).to (k := ⟨(fun y e => OT (k d y) (k := ⟨fun z => N (e.set i (some (.shr z)))⟩)), Z.ex⟩)), (fun _ => False)⟩) := s_Aug_u 
@[simp] theorem s_For {B : Bd} {F : DEnv → R (List PyData)} {G : DEnv → Flow} : (gFor B F G env).fo (k := ⟨N, Z⟩) = (F env).to (k := ⟨(fun ds e => (forF B G ds e).fo (k := ⟨N, Z⟩)), Z.ex⟩) := s_For_u 
/-! a def -/
theorem runD_to {N : Nat} {G : DEnv → Flow} {ss : List Slot} {P : Bool → PyData → List Slot → Prop} {E : ExD → List Slot → Prop} : (runD N G ss).to (k := ⟨P, E⟩) = (G (padE N ss)).fo (k := ⟨(fun e => OT (outS e 0 ss) (k := ⟨fun o => P false .none o⟩)), { rt := fun fr d e => OT (outS e 0 ss) (k := ⟨fun o => P fr d o⟩), ex := fun x e => OT (outS e 0 ss) (k := ⟨fun o => E x o ⟩)}⟩) := runD_to_u 
end
/-! loops -/
section
variable {P : PyData → DEnv → Prop} {E : ExD → DEnv → Prop} {env : DEnv} {N : DEnv → Prop} {Z : Ez}
theorem for_ok {B : Bd} {G : DEnv → Flow} (I : Nat → DEnv → Prop) : ∀ (ds : List PyData) (k : Nat) {env : DEnv}, I k env → (∀ i d e, ds[i]? = some d → I (k + i) e → OT (B d e) (k := ⟨fun e1 => (G e1).fo (k := ⟨(I (k + i + 1)), { rt := Z.rt, bk := N, ct := I (k + i + 1), ex := Z.ex }⟩)⟩)) → (∀ e, I (k + ds.length) e → N e) → (forF B G ds env).fo (k := ⟨N, Z⟩) := for_ok_u I
/-- for, from its first turn on -/
theorem for_ok0 {B : Bd} {G : DEnv → Flow} (I : Nat → DEnv → Prop) {ds : List PyData} {env : DEnv} (h0 : I 0 env) (hs : ∀ i d e, ds[i]? = some d → I i e → OT (B d e) (k := ⟨fun e1 => (G e1).fo (k := ⟨(I (i + 1)), { rt := Z.rt, bk := N, ct := I (i + 1), ex := Z.ex }⟩)⟩)) (hend : ∀ e, I ds.length e → N e) : (forF B G ds env).fo (k := ⟨N, Z⟩) := for_ok0_u I h0 hs hend
theorem while_ok {T : DEnv → R Bool} {G : DEnv → Flow} (I : Nat → DEnv → Prop) (hs : ∀ m e, I m e → (T e).to (k := ⟨(fun b e1 => Cnd b (k := ⟨((G e1).fo (k := ⟨(fun e2 => ∃ m', m' < m ∧ I m' e2), { rt := Z.rt, bk := N, ct := fun e2 => ∃ m', m' < m ∧ I m' e2, ex := Z.ex }⟩)), (N e1)⟩)), Z.ex⟩)) :
    ∀ (m : Nat) {env : DEnv}, I m env → (gWhile T G env).fo (k := ⟨N, Z⟩) := while_ok_u I hs
/-! comprehensions -/
theorem lc_ok {vs : List Nat} {B : Bd} {T : DEnv → R Bool} {F : DEnv → R PyData} {Q : List PyData → DEnv → Prop} (I : Nat → List PyData → DEnv → Prop) : ∀ (ds : List PyData) (k : Nat) {acc : List PyData} {env : DEnv}, acc.length ≤ k → k + ds.length ≤ sizeLine → I k acc env →
    (∀ i d acc e, ds[i]? = some d → acc.length ≤ k + i → I (k + i) acc e → OT (B d e) (k := ⟨fun e1 => (T e1).to (k := ⟨(fun b e2 => Cnd b (k := ⟨((F e2).to (k := ⟨(fun r e3 => I (k + i + 1) (acc ++ [r]) (wipeE e3 vs)), noE⟩)), (I (k + i + 1) acc (wipeE e2 vs))⟩)), noE⟩)⟩)) →
    (∀ acc e, acc.length ≤ k + ds.length → I (k + ds.length) acc e → Q acc e) → (lcF vs B T F ds acc env).to (k := ⟨Q, noE⟩) := lc_ok_u I
@[simp] theorem e_Lc {F : DEnv → R (List PyData)} {vs : List Nat} {B : Bd} {T : DEnv → R Bool} {G : DEnv → R PyData} : (fLc F vs B T G env).to (k := ⟨P, E⟩) = (F env).to (k := ⟨(fun ds e => (lcF vs B T G ds [] (wipeE e vs)).to (k := ⟨(fun rs e2 => P (.list rs) e2), E⟩)), E⟩) := e_Lc_u 
@[simp] theorem e_Yes {P : Bool → DEnv → Prop} : (fYes env).to (k := ⟨P, E⟩) = P true env := rfl
/-- a comprehension, its state told -/
theorem lc_to {vs : List Nat} {B : Bd} {T : DEnv → R Bool} {F : DEnv → R PyData} {ds : List PyData} {Q : List PyData → DEnv → Prop} (I : Nat → List PyData → DEnv → Prop) (hl : ds.length ≤ sizeLine) (h0 : I 0 [] env)
    (hs : ∀ i d acc e, ds[i]? = some d → I i acc e → OT (B d e) (k := ⟨fun e1 => (T e1).to (k := ⟨(fun b e2 => Cnd b (k := ⟨((F e2).to (k := ⟨(fun r e3 => I (i + 1) (acc ++ [r]) (wipeE e3 vs)), noE⟩)), (I (i + 1) acc (wipeE e2 vs))⟩)), noE⟩)⟩))
    (hend : ∀ acc e, I ds.length acc e → Q acc e) : (lcF vs B T F ds [] env).to (k := ⟨Q, noE⟩) := lc_to_u I hl h0 hs hend
/-- a comprehension that changes nothing -/
theorem lc_fm {vs : List Nat} {B : Bd} {T : DEnv → R Bool} {F : DEnv → R PyData} (p : PyData → Bool) (f : PyData → PyData) : ∀ {ds acc : List PyData}, acc.length + ds.length ≤ sizeLine → (∀ d ∈ ds, OT (B d env) (k := ⟨fun e1 => (T e1).to (k := ⟨(fun b e2 => b = p d ∧ Cnd b (k := ⟨((F e2).to (k := ⟨(fun r e3 => r = f d ∧ wipeE e3 vs = env), noE⟩)), (wipeE e2 vs = env)⟩)), noE⟩)⟩)) →
    lcF vs B T F ds acc env = .ok (acc ++ (ds.filter p).map f) env := lc_fm_u p f
/-- all(..), any(..) that change nothing -/
theorem any_fm {stop : Bool} {vs : List Nat} {B : Bd} {F : DEnv → R PyData} (p : PyData → Bool) : ∀ {ds : List PyData}, (∀ d ∈ ds, OT (B d env) (k := ⟨fun e1 => (F e1).to (k := ⟨(fun r e2 => r = .bool (p d) ∧ wipeE e2 vs = env), noE⟩)⟩)) →
    anyF stop vs B F ds env = .ok (if stop = true then ds.any p else ds.all p) env := any_fm_u p
@[simp] theorem e_Any {stop : Bool} {F : DEnv → R (List PyData)} {vs : List Nat} {B : Bd} {G : DEnv → R PyData} : (fAny stop F vs B G env).to (k := ⟨P, E⟩) = (F env).to (k := ⟨(fun ds e => (anyF stop vs B G ds (wipeE e vs)).to (k := ⟨(fun b e2 => P (.bool b) e2), E⟩)), E⟩) := e_Any_u 
@[simp] theorem e_DcK {F : DEnv → R (List PyData)} {vs : List Nat} {B : Bd} {T : DEnv → R Bool} {Gk Gv : DEnv → R PyData} : (fDcK F vs B T Gk Gv env).to (k := ⟨P, E⟩) = (F env).to (k := ⟨(fun ds e => (dcFK vs B T Gk Gv ds [] (wipeE e vs)).to (k := ⟨(fun rs e2 => P (.dict rs) e2), E⟩)), E⟩) := e_DcK_u 
@[simp] theorem e_DcT {F : DEnv → R (List PyData)} {vs : List Nat} {B : Bd} {T : DEnv → R Bool} {Gk Gv : DEnv → R PyData} : (fDcT F vs B T Gk Gv env).to (k := ⟨P, E⟩) = (F env).to (k := ⟨(fun ds e => (dcFT vs B T Gk Gv ds [] (wipeE e vs)).to (k := ⟨(fun rs e2 => P (.dict ((.none, .none) :: rs)) e2), E⟩)), E⟩) := e_DcT_u 
end
end Dl
set_option Elab.async false
set_option linter.all false
set_option maxRecDepth 100000
set_option maxHeartbeats 4000000
namespace Dl
open PySem PySem.Spec PyProof.Rows L2 Evl Gx GxR RZ
theorem seq_mid {G K : DEnv → Flow} {env : DEnv} {N : DEnv → Prop} {Z : Ez} (M : DEnv → Prop) (h1 : (G env).fo (k := ⟨M, Z⟩)) (h2 : ∀ e, M e → (K e).fo (k := ⟨N, Z⟩)) : (gSeq G K env).fo (k := ⟨N, Z⟩) := by
  rw [s_Seq]
  exact ok_mono h1 h2 (fun _ _ _ h => h) (fun _ h => h) (fun _ h => h) (fun _ _ h => h)
theorem Cnd_mid {b : Bool} {f g : Flow} {N : DEnv → Prop} {Z : Ez} (M : DEnv → Prop) (h1 : b = true → f.fo (k := ⟨M, Z⟩)) (h2 : b = false → g.fo (k := ⟨M, Z⟩)) (h3 : ∀ e, M e → N e) : Cnd b (k := ⟨f.fo (k := ⟨N, Z⟩), g.fo (k := ⟨N, Z⟩)⟩) :=
  Cnd_of (fun h => ok_mono (h1 h) h3 (fun _ _ _ h => h) (fun _ h => h) (fun _ h => h) (fun _ _ h => h)) fun h => ok_mono (h2 h) h3 (fun _ _ _ h => h) (fun _ h => h) (fun _ h => h) (fun _ _ h => h)
/-- a def's promise, applied -/
theorem call_to {r : FR} {P P' : Bool → PyData → List Slot → Prop} {E' : ExD → List Slot → Prop} (h : r.to (k := ⟨P, noE⟩)) (hP : ∀ f d o, P f d o → P' f d o) : r.to (k := ⟨P', E'⟩) := frto_mono h hP fun _ _ z => z.elim
/-! operations on data whose kind is known -/
section
variable {i j : Int} {x y : Str} {xs ys ds : List PyData} {d e : PyData}
@[simp] theorem fits_1 : fits 1 = true := by decide
@[simp] theorem fits_0 : fits 0 = true := by decide
@[simp] theorem fits_2 : fits 2 = true := by decide
@[simp] theorem fits_3 : fits 3 = true := by decide
@[simp] theorem fits_4 : fits 4 = true := by decide
@[simp] theorem fits_5 : fits 5 = true := by decide
@[simp] theorem fits_6 : fits 6 = true := by decide
@[simp] theorem fits_7 : fits 7 = true := by decide
@[simp] theorem fits_8 : fits 8 = true := by decide
@[simp] theorem fits_9 : fits 9 = true := by decide
theorem fits_of {n : Nat} (h : n ≤ 1000000) : fits n = true := by
  unfold fits
  rw [decide_eq_true_eq, sizeLine_eq]
  omega
theorem sl_of {n : Nat} (h : n ≤ 1000000) : n ≤ sizeLine := by
  rw [sizeLine_eq]
  omega
@[simp] theorem add_int : dAdd (.int i) (.int j) = some (.int (i + j)) := rfl
@[simp] theorem sub_int : dSub (.int i) (.int j) = some (.int (i - j)) := rfl
theorem add_str (h : x.length + y.length ≤ 1000000) : dAdd (.str x) (.str y) = some (.str (x ++ y)) := if_pos (sl_of h)
theorem add_list (h : xs.length + ys.length ≤ 1000000) : dAdd (.list xs) (.list ys) = some (.list (xs ++ ys)) := if_pos (sl_of h)
theorem add_tup (h : xs.length + ys.length ≤ 1000000) : dAdd (.tuple xs) (.tuple ys) = some (.tuple (xs ++ ys)) := if_pos (sl_of h)
theorem addL_list (h : xs.length + ys.length ≤ 1000000) : dAddL (.list xs) (.list ys) = some (.list (xs ++ ys)) := if_pos (sl_of h)
@[simp] theorem mul_r (h1 : -(2 ^ 64) < j) (h2 : j < 2 ^ 64) : dMul (.int i) (.int j) = some (.int (i * j)) := by
  unfold dMul
  have : mulOk i j = true := by
    unfold mulOk
    rw [decide_eq_true h1, decide_eq_true h2, Bool.and_self, Bool.or_true]
  simp [this]
@[simp] theorem mul_l (h1 : -(2 ^ 64) < i) (h2 : i < 2 ^ 64) : dMul (.int i) (.int j) = some (.int (i * j)) := by
  unfold dMul
  have : mulOk i j = true := by
    unfold mulOk
    rw [decide_eq_true h1, decide_eq_true h2, Bool.and_self, Bool.true_or]
  simp [this]
theorem mod_lo {a m : Int} (h : 0 < m) : -18446744073709551616 < a % m := by
  have := Int.emod_nonneg a (show m ≠ 0 by omega)
  omega
theorem mod_hi {a m : Int} (h : 0 < m) (h2 : m ≤ 18446744073709551616) : a % m < 18446744073709551616 := by
  have := Int.emod_lt_of_pos a h
  omega
@[simp] theorem mod_int (h : 0 < j) : dMod (.int i) (.int j) = some (.int (i % j)) := if_pos h
@[simp] theorem div_int (h : 0 < j) (h2 : j.natAbs.log2 < 9000) : dDiv (.int i) (.int j) = some (.int (i / j)) := if_pos ⟨h, h2⟩
@[simp] theorem pow_int (h1 : 0 ≤ j) (h2 : j ≤ 1000000) (h3 : i.natAbs < 2 ^ 64) : dPow (.int i) (.int j) = some (.int (i ^ j.toNat)) := if_pos ⟨h1, h2, h3⟩
theorem mulL_list {k : Int} (h0 : 0 ≤ k) (h : xs.length * k.toNat ≤ 1000000) (h1 : k < 2 ^ 62) : dMulL (.list xs) (.int k) = some (.list (List.replicate k.toNat xs).flatten) := if_pos ⟨by omega, by omega, sl_of h⟩
theorem mul_list {k : Int} (h0 : 0 ≤ k) (h : xs.length * k.toNat ≤ 1000000) (h1 : k < 2 ^ 62) : dMul (.list xs) (.int k) = some (.list (List.replicate k.toNat xs).flatten) := if_pos ⟨by omega, by omega, sl_of h⟩
@[simp] theorem ord_int {f : Int → Int → Bool} : dOrd f (.int i) (.int j) = some (.bool (f i j)) := rfl
/-! equal or not -/
@[simp] theorem eq_int : dEq (.int i) (.int j) = some (.bool (decide (i = j))) := by
  unfold dEq
  simp [scalD, PyData.eqv]
  rfl
@[simp] theorem ne_int : dNe (.int i) (.int j) = some (.bool (!decide (i = j))) := by
  unfold dNe
  simp [scalD, PyData.eqv]
  rfl
@[simp] theorem eq_str : dEq (.str x) (.str y) = some (.bool (x == y)) := by
  unfold dEq
  simp [scalD, PyData.eqv]
@[simp] theorem ne_str : dNe (.str x) (.str y) = some (.bool (!(x == y))) := by
  unfold dNe
  simp [scalD, PyData.eqv]
@[simp] theorem eq_bool {a b : Bool} : dEq (.bool a) (.bool b) = some (.bool (a == b)) := by
  unfold dEq
  simp [scalD, PyData.eqv]
@[simp] theorem ne_bool {a b : Bool} : dNe (.bool a) (.bool b) = some (.bool (!(a == b))) := by
  unfold dNe
  simp [scalD, PyData.eqv]
theorem eq_sh (h1 : SeqAt.shaped d = true) (h2 : SeqAt.shaped e = true) : dEq d e = some (.bool (PyData.eqv d e)) := by
  unfold dEq
  rw [h1, h2, Bool.and_self, Bool.or_true]
  rfl
theorem ne_sh (h1 : SeqAt.shaped d = true) (h2 : SeqAt.shaped e = true) : dNe d e = some (.bool (!PyData.eqv d e)) := by
  unfold dNe
  rw [h1, h2, Bool.and_self, Bool.or_true]
  rfl
@[simp] theorem sh_none : SeqAt.shaped .none = true := by decide
@[simp] theorem sh_bool {b : Bool} : SeqAt.shaped (.bool b) = true := by cases b <;> decide
@[simp] theorem sh_int : SeqAt.shaped (.int i) = true := rfl
@[simp] theorem sh_nilL : SeqAt.shaped (.list []) = true := by decide
@[simp] theorem sh_nilT : SeqAt.shaped (.tuple []) = true := by decide
theorem sh_str (h : PyData.strOk x = true) : SeqAt.shaped (.str x) = true := by
  unfold SeqAt.shaped PyData.canLay0
  rw [h]
  rfl
theorem canAll {ds : List PyData} : PyData.canLayAll0 ds = true ↔ ∀ d ∈ ds, d.canLay0 = true := by
  induction ds with
  | nil => simp [PyData.canLayAll0]
  | cons d r ih => simp [PyData.canLayAll0, ih]
theorem depAll {ds : List PyData} {k : Nat} : PyData.depthAll ds ≤ k ↔ ∀ d ∈ ds, d.depth ≤ k := by
  induction ds with
  | nil => simp [PyData.depthAll]
  | cons d r ih => simp [PyData.depthAll, ih, Nat.max_le]
/-- may be laid, no deeper than k -/
def Fi (k : Nat) (d : PyData) : Prop := d.canLay0 = true ∧ d.depth ≤ k
theorem Fi.sh {k : Nat} (h : Fi k d) (hk : k ≤ 64) : SeqAt.shaped d = true := by
  unfold SeqAt.shaped
  rw [h.1, decide_eq_true (Nat.le_trans h.2 hk)]
  rfl
theorem fi_none {k : Nat} : Fi k .none := ⟨rfl, Nat.zero_le _⟩
theorem fi_bool {k : Nat} {b : Bool} : Fi k (.bool b) := ⟨rfl, Nat.zero_le _⟩
theorem fi_int {k : Nat} : Fi k (.int i) := ⟨rfl, Nat.zero_le _⟩
theorem fi_str {k : Nat} (h : PyData.strOk x = true) : Fi k (.str x) := ⟨h, Nat.zero_le _⟩
theorem fi_list {k : Nat} : Fi (k + 1) (.list ds) ↔ ∀ d ∈ ds, Fi k d := by
  show (PyData.canLayAll0 ds = true ∧ PyData.depthAll ds + 1 ≤ k + 1) ↔ ∀ d ∈ ds, (d.canLay0 = true ∧ d.depth ≤ k)
  rw [canAll, Nat.add_le_add_iff_right, depAll]
  exact ⟨fun h d hd => ⟨h.1 d hd, h.2 d hd⟩, fun h => ⟨fun d hd => (h d hd).1, fun d hd => (h d hd).2⟩⟩
theorem fi_tup {k : Nat} : Fi (k + 1) (.tuple ds) ↔ ∀ d ∈ ds, Fi k d := by
  show (PyData.canLayAll0 ds = true ∧ PyData.depthAll ds + 1 ≤ k + 1) ↔ ∀ d ∈ ds, (d.canLay0 = true ∧ d.depth ≤ k)
  rw [canAll, Nat.add_le_add_iff_right, depAll]
  exact ⟨fun h d hd => ⟨h.1 d hd, h.2 d hd⟩, fun h => ⟨fun d hd => (h d hd).1, fun d hd => (h d hd).2⟩⟩
theorem Fi.up {k m : Nat} (h : Fi k d) (hm : k ≤ m) : Fi m d := ⟨h.1, Nat.le_trans h.2 hm⟩
theorem sh_items {d : PyData} (h : SeqAt.shaped (.tuple ds) = true) (hd : d ∈ ds) : SeqAt.shaped d = true := by
  unfold SeqAt.shaped at h ⊢
  rw [Bool.and_eq_true, decide_eq_true_eq] at h ⊢
  unfold PyData.canLay0 PyData.depth at h
  have h1 := canAll.mp h.1 d hd
  have h2 := depAll.mp (Nat.le_of_succ_le_succ (show _ + 1 ≤ 63 + 1 from h.2)) d hd
  exact ⟨h1, by omega⟩
theorem sh_itemsL {d : PyData} (h : SeqAt.shaped (.list ds) = true) (hd : d ∈ ds) : SeqAt.shaped d = true := by
  unfold SeqAt.shaped at h ⊢
  rw [Bool.and_eq_true, decide_eq_true_eq] at h ⊢
  unfold PyData.canLay0 PyData.depth at h
  have h1 := canAll.mp h.1 d hd
  have h2 := depAll.mp (Nat.le_of_succ_le_succ (show _ + 1 ≤ 63 + 1 from h.2)) d hd
  exact ⟨h1, by omega⟩
@[simp] theorem eqvA_nn : PyData.eqvAll [] [] = true := by simp [PyData.eqvAll]
@[simp] theorem eqvA_cn : PyData.eqvAll (d :: ds) [] = false := by simp [PyData.eqvAll]
@[simp] theorem eqvA_nc : PyData.eqvAll [] (d :: ds) = false := by simp [PyData.eqvAll]
@[simp] theorem eqvA_cc : PyData.eqvAll (d :: ds) (e :: xs) = (PyData.eqv d e && PyData.eqvAll ds xs) := by simp [PyData.eqvAll]
@[simp] theorem eqv_ll : PyData.eqv (.list xs) (.list ys) = PyData.eqvAll xs ys := by simp [PyData.eqv]
@[simp] theorem eqv_tt : PyData.eqv (.tuple xs) (.tuple ys) = PyData.eqvAll xs ys := by simp [PyData.eqv]
@[simp] theorem eqv_ii : PyData.eqv (.int i) (.int j) = (i == j) := by simp [PyData.eqv]
@[simp] theorem eqv_ss : PyData.eqv (.str x) (.str y) = (x == y) := by simp [PyData.eqv]
/-! None, True -/
@[simp] theorem isN_eq : dIsN d .none = some (.bool (isNoneD d)) := rfl
@[simp] theorem notN_eq : dNotN d .none = some (.bool (!isNoneD d)) := rfl
@[simp] theorem isNone_none : isNoneD .none = true := rfl
@[simp] theorem isNone_int : isNoneD (.int i) = false := rfl
@[simp] theorem isNone_str : isNoneD (.str x) = false := rfl
@[simp] theorem isNone_bool {b : Bool} : isNoneD (.bool b) = false := rfl
@[simp] theorem isNone_list : isNoneD (.list ds) = false := rfl
@[simp] theorem isNone_tup : isNoneD (.tuple ds) = false := rfl
@[simp] theorem isB_eq {a b : Bool} : dIsB (.bool a) (.bool b) = some (.bool (a == b)) := rfl
@[simp] theorem isntB_eq {a b : Bool} : dIsntB (.bool a) (.bool b) = some (.bool (!(a == b))) := rfl
/-! truth -/
@[simp] theorem tr_none : dTruth .none = some false := rfl
@[simp] theorem tr_bool {b : Bool} : dTruth (.bool b) = some b := rfl
@[simp] theorem tr_int : dTruth (.int i) = some (i != 0) := rfl
@[simp] theorem tr_list : dTruth (.list ds) = some (!ds.isEmpty) := rfl
@[simp] theorem tr_tup : dTruth (.tuple ds) = some (!ds.isEmpty) := rfl
/-! subscripts -/
@[simp] theorem ix_l : dIx (.list ds) (.int i) = atI ds i := rfl
@[simp] theorem ix_t : dIx (.tuple ds) (.int i) = atI ds i := rfl
theorem ix_s (h : x.length ≤ 1000000) : dIx (.str x) (.int i) = (atI x.cps.toList i).map fun q => .str ⟨#[q]⟩ := if_pos (sl_of h)
@[simp] theorem at_0 : atI (d :: ds) 0 = some d := by
  unfold atI ixN
  simp
@[simp] theorem at_m1 : atI (ds ++ [d]) (-1) = some d := by
  unfold atI ixN
  rw [if_neg (by decide), if_pos (by rw [List.length_append]; show -((ds.length + 1 : Nat) : Int) ≤ -1; omega)]
  simp
  have : (-1 + ((ds.length : Int) + 1)).toNat = ds.length := by omega
  rw [this]
  simp
theorem at_nat {α : Type} {l : List α} {n : Nat} (h : n < l.length) : atI l (n : Int) = some l[n] := by
  unfold atI ixN
  rw [if_pos (by omega), if_pos (by omega)]
  simp [h]
theorem at_int {α : Type} {l : List α} {i : Int} (h0 : 0 ≤ i) (h : i < l.length) : ∃ a, atI l i = some a ∧ a ∈ l ∧ l[i.toNat]? = some a := by
  have hn : i.toNat < l.length := by omega
  refine ⟨l[i.toNat], ?_, List.getElem_mem hn, List.getElem?_eq_getElem hn⟩
  have := at_nat (l := l) (n := i.toNat) hn
  rw [show ((i.toNat : Nat) : Int) = i from by omega] at this
  exact this
theorem ixN_nat {n k : Nat} (h : k < n) : ixN n (k : Int) = some k := by
  unfold ixN
  rw [if_pos (by omega), if_pos (by omega)]
  simp
theorem ixN_int {n : Nat} {i : Int} (h0 : 0 ≤ i) (h : i < n) : ixN n i = some i.toNat := by
  unfold ixN
  rw [if_pos h0, if_pos h]
@[simp] theorem ix2_0 {n : Nat} : ixN (n + 1) 0 = some 0 := by
  unfold ixN
  simp
/-! slices -/
@[simp] theorem sl_l {lo hi : Option Int} : dSl (.list ds) lo hi = some (.list (cutD ds lo hi)) := rfl
@[simp] theorem sl_t {lo hi : Option Int} : dSl (.tuple ds) lo hi = some (.tuple (cutD ds lo hi)) := rfl
theorem sl_s {lo hi : Option Int} (h : x.length ≤ 1000000) : dSl (.str x) lo hi = some (.str (cutS x lo hi)) := if_pos (sl_of h)
theorem cut_nn {a b : Nat} : cutD ds (some (a : Int)) (some (b : Int)) = (ds.drop (min a ds.length)).take (min b ds.length - min a ds.length) := by
  unfold cutD HT.sIx
  simp only [Int.not_lt.mpr (Int.natCast_nonneg a), Int.not_lt.mpr (Int.natCast_nonneg b), if_false, Int.toNat_natCast]
theorem cut_to {b : Nat} : cutD ds none (some (b : Int)) = ds.take b := by
  unfold cutD HT.sIx
  simp only [Int.not_lt.mpr (Int.natCast_nonneg b), if_false, Int.toNat_natCast, List.drop_zero, Nat.sub_zero]
  by_cases h : b ≤ ds.length
  · rw [Nat.min_eq_left h]
  · rw [Nat.min_eq_right (by omega), List.take_of_length_le (Nat.le_refl _), List.take_of_length_le (by omega)]
theorem cut_from {a : Nat} : cutD ds (some (a : Int)) none = ds.drop a := by
  unfold cutD HT.sIx
  simp [Int.not_lt.mpr (Int.natCast_nonneg a)]
  rw [List.take_of_length_le (by simp)]
  by_cases h : a ≤ ds.length
  · rw [Nat.min_eq_left h]
  · rw [Nat.min_eq_right (by omega), List.drop_of_length_le (by omega), List.drop_of_length_le (by omega)]
theorem cut_mem {lo hi : Option Int} (h : d ∈ cutD ds lo hi) : d ∈ ds := List.mem_of_mem_drop (List.mem_of_mem_take h)
theorem cut_len {lo hi : Option Int} : (cutD ds lo hi).length ≤ ds.length := by
  unfold cutD
  rw [List.length_take, List.length_drop]
  omega
/-! built-ins -/
@[simp] theorem len_l : kLen [.list ds] = some (.int (ds.length : Nat)) := rfl
@[simp] theorem len_t : kLen [.tuple ds] = some (.int (ds.length : Nat)) := rfl
theorem len_s (h : x.length ≤ 1000000) : kLen [.str x] = some (.int (x.length : Nat)) := if_pos (sl_of h)
@[simp] theorem list_l : kList [.list ds] = some (.list ds) := rfl
@[simp] theorem list_t : kList [.tuple ds] = some (.list ds) := rfl
@[simp] theorem tuple_l : kTuple [.list ds] = some (.tuple ds) := rfl
@[simp] theorem tuple_t : kTuple [.tuple ds] = some (.tuple ds) := rfl
@[simp] theorem int_i : kInt [.int i] = some (.int i) := rfl
@[simp] theorem int_b {b : Bool} : kInt [.bool b] = some (.int (if b then 1 else 0)) := rfl
@[simp] theorem min_i : kMin [.int i, .int j] = some (.int (if j < i then j else i)) := rfl
@[simp] theorem max_i : kMax [.int i, .int j] = some (.int (if j > i then j else i)) := rfl
@[simp] theorem items_l : itemsOf (.list ds) = some ds := rfl
@[simp] theorem items_t : itemsOf (.tuple ds) = some ds := rfl
@[simp] theorem items_s : itemsOf (.str x) = some (strItems x) := rfl
@[simp] theorem enum_l : enumOf [.list ds] = some (enumItems ds) := rfl
@[simp] theorem enum_t : enumOf [.tuple ds] = some (enumItems ds) := rfl
@[simp] theorem zip_l : zipOf [.list xs, .list ys] = some (zipItems xs ys) := rfl
@[simp] theorem zip_t : zipOf [.tuple xs, .tuple ys] = some (zipItems xs ys) := rfl
theorem zip_tl (h : xs.length = ys.length) : zipOf [.tuple xs, .list ys] = some (zipItems xs ys) := if_pos h
theorem rng_1 (h0 : -(2 ^ 62) ≤ j) (h : j < 2 ^ 62) : rng1 [.int j] = some (rngItems 0 j.toNat) := if_pos ⟨h0, h⟩
theorem rng_2 (h0 : -(2 ^ 62) ≤ i) (h : i < 2 ^ 62) (h2 : -(2 ^ 62) ≤ j) (h3 : j < 2 ^ 62) : rng2 [.int i, .int j] = some (rngItems i (j - i).toNat) := if_pos ⟨h0, h, h2, h3⟩
@[simp] theorem rng_len {lo : Int} {n : Nat} : (rngItems lo n).length = n := by simp [rngItems]
theorem rng_get {lo : Int} {n k : Nat} {d : PyData} (h : (rngItems lo n)[k]? = some d) : d = .int (lo + (k : Nat)) ∧ k < n := by
  unfold rngItems at h
  rw [List.getElem?_map] at h
  obtain ⟨m, hm, rfl⟩ := Option.map_eq_some_iff.mp h
  obtain ⟨h1, h2⟩ := List.getElem?_eq_some_iff.mp hm
  rw [List.getElem_range] at h2
  rw [List.length_range] at h1
  exact ⟨by rw [h2], h1⟩
theorem rng_mem {lo : Int} {n : Nat} {d : PyData} (h : d ∈ rngItems lo n) : ∃ k : Nat, k < n ∧ d = .int (lo + (k : Nat)) := by
  obtain ⟨k, hk⟩ := List.mem_iff_getElem?.mp h
  have := rng_get hk
  exact ⟨k, this.2, this.1⟩
/-! lists that change -/
theorem append_l (h : ds.length < 1000000) : kAppend (.list ds) [d] = some (.none, .list (ds ++ [d])) := if_pos (by rw [sizeLine_eq]; omega)
theorem extend_l (h : ds.length + xs.length ≤ 1000000) : kExtend (.list ds) [.list xs] = some (.none, .list (ds ++ xs)) := if_pos (sl_of h)
@[simp] theorem pop_l : kPop (.list (ds ++ [d])) [] = some (d, .list ds) := by
  unfold kPop
  simp
@[simp] theorem pop_1 : kPop (.list [d]) [] = some (d, .list []) := rfl
@[simp] theorem clear_l : kClear (.list ds) [] = some (.none, .list []) := rfl
@[simp] theorem ty_l : dTy (.list ds) = "list" := rfl
@[simp] theorem ty_d {es : List (PyData × PyData)} : dTy (.dict es) = "dict" := rfl
@[simp] theorem plus_i : kPlus (.int i) (.int j) = some (.int (i + j)) := rfl
@[simp] theorem minus_i : kMinus (.int i) (.int j) = some (.int (i - j)) := rfl
end
@[simp] theorem rep_s {n : Nat} {a : Option Slot} : List.replicate (n + 1) a = a :: List.replicate n a := rfl
@[simp] theorem pad_eq {N : Nat} {ss : List Slot} : padE N ss = ss.map some ++ List.replicate (N - ss.length) none := rfl
/-! isinstance -/
theorem k_ii : kitB "int" "int" = some true := by decide +kernel
@[simp] theorem isi_int_NoneType : isiB "int" .none = some (.bool false) := by
  show (kitB "NoneType" "int").map PyData.bool = _
  rw [show kitB "NoneType" "int" = some false by decide +kernel]
  rfl
@[simp] theorem isi_int_bool {b : Bool} : isiB "int" (.bool b) = some (.bool true) := by
  show (kitB "bool" "int").map PyData.bool = _
  rw [show kitB "bool" "int" = some true by decide +kernel]
  rfl
@[simp] theorem isi_int_int {i : Int} : isiB "int" (.int i) = some (.bool true) := by
  show (kitB "int" "int").map PyData.bool = _
  rw [show kitB "int" "int" = some true by decide +kernel]
  rfl
@[simp] theorem isi_int_str {x : Str} : isiB "int" (.str x) = some (.bool false) := by
  show (kitB "str" "int").map PyData.bool = _
  rw [show kitB "str" "int" = some false by decide +kernel]
  rfl
@[simp] theorem isi_int_list {ds : List PyData} : isiB "int" (.list ds) = some (.bool false) := by
  show (kitB "list" "int").map PyData.bool = _
  rw [show kitB "list" "int" = some false by decide +kernel]
  rfl
@[simp] theorem isi_int_tuple {ds : List PyData} : isiB "int" (.tuple ds) = some (.bool false) := by
  show (kitB "tuple" "int").map PyData.bool = _
  rw [show kitB "tuple" "int" = some false by decide +kernel]
  rfl
@[simp] theorem isi_int_dict {es : List (PyData × PyData)} : isiB "int" (.dict es) = some (.bool false) := by
  show (kitB "dict" "int").map PyData.bool = _
  rw [show kitB "dict" "int" = some false by decide +kernel]
  rfl
@[simp] theorem isi_bool_NoneType : isiB "bool" .none = some (.bool false) := by
  show (kitB "NoneType" "bool").map PyData.bool = _
  rw [show kitB "NoneType" "bool" = some false by decide +kernel]
  rfl
@[simp] theorem isi_bool_bool {b : Bool} : isiB "bool" (.bool b) = some (.bool true) := by
  show (kitB "bool" "bool").map PyData.bool = _
  rw [show kitB "bool" "bool" = some true by decide +kernel]
  rfl
@[simp] theorem isi_bool_int {i : Int} : isiB "bool" (.int i) = some (.bool false) := by
  show (kitB "int" "bool").map PyData.bool = _
  rw [show kitB "int" "bool" = some false by decide +kernel]
  rfl
@[simp] theorem isi_bool_str {x : Str} : isiB "bool" (.str x) = some (.bool false) := by
  show (kitB "str" "bool").map PyData.bool = _
  rw [show kitB "str" "bool" = some false by decide +kernel]
  rfl
@[simp] theorem isi_bool_list {ds : List PyData} : isiB "bool" (.list ds) = some (.bool false) := by
  show (kitB "list" "bool").map PyData.bool = _
  rw [show kitB "list" "bool" = some false by decide +kernel]
  rfl
@[simp] theorem isi_bool_tuple {ds : List PyData} : isiB "bool" (.tuple ds) = some (.bool false) := by
  show (kitB "tuple" "bool").map PyData.bool = _
  rw [show kitB "tuple" "bool" = some false by decide +kernel]
  rfl
@[simp] theorem isi_bool_dict {es : List (PyData × PyData)} : isiB "bool" (.dict es) = some (.bool false) := by
  show (kitB "dict" "bool").map PyData.bool = _
  rw [show kitB "dict" "bool" = some false by decide +kernel]
  rfl
@[simp] theorem isi_str_NoneType : isiB "str" .none = some (.bool false) := by
  show (kitB "NoneType" "str").map PyData.bool = _
  rw [show kitB "NoneType" "str" = some false by decide +kernel]
  rfl
@[simp] theorem isi_str_bool {b : Bool} : isiB "str" (.bool b) = some (.bool false) := by
  show (kitB "bool" "str").map PyData.bool = _
  rw [show kitB "bool" "str" = some false by decide +kernel]
  rfl
@[simp] theorem isi_str_int {i : Int} : isiB "str" (.int i) = some (.bool false) := by
  show (kitB "int" "str").map PyData.bool = _
  rw [show kitB "int" "str" = some false by decide +kernel]
  rfl
@[simp] theorem isi_str_str {x : Str} : isiB "str" (.str x) = some (.bool true) := by
  show (kitB "str" "str").map PyData.bool = _
  rw [show kitB "str" "str" = some true by decide +kernel]
  rfl
@[simp] theorem isi_str_list {ds : List PyData} : isiB "str" (.list ds) = some (.bool false) := by
  show (kitB "list" "str").map PyData.bool = _
  rw [show kitB "list" "str" = some false by decide +kernel]
  rfl
@[simp] theorem isi_str_tuple {ds : List PyData} : isiB "str" (.tuple ds) = some (.bool false) := by
  show (kitB "tuple" "str").map PyData.bool = _
  rw [show kitB "tuple" "str" = some false by decide +kernel]
  rfl
@[simp] theorem isi_str_dict {es : List (PyData × PyData)} : isiB "str" (.dict es) = some (.bool false) := by
  show (kitB "dict" "str").map PyData.bool = _
  rw [show kitB "dict" "str" = some false by decide +kernel]
  rfl
@[simp] theorem isi_list_NoneType : isiB "list" .none = some (.bool false) := by
  show (kitB "NoneType" "list").map PyData.bool = _
  rw [show kitB "NoneType" "list" = some false by decide +kernel]
  rfl
@[simp] theorem isi_list_bool {b : Bool} : isiB "list" (.bool b) = some (.bool false) := by
  show (kitB "bool" "list").map PyData.bool = _
  rw [show kitB "bool" "list" = some false by decide +kernel]
  rfl
@[simp] theorem isi_list_int {i : Int} : isiB "list" (.int i) = some (.bool false) := by
  show (kitB "int" "list").map PyData.bool = _
  rw [show kitB "int" "list" = some false by decide +kernel]
  rfl
@[simp] theorem isi_list_str {x : Str} : isiB "list" (.str x) = some (.bool false) := by
  show (kitB "str" "list").map PyData.bool = _
  rw [show kitB "str" "list" = some false by decide +kernel]
  rfl
@[simp] theorem isi_list_list {ds : List PyData} : isiB "list" (.list ds) = some (.bool true) := by
  show (kitB "list" "list").map PyData.bool = _
  rw [show kitB "list" "list" = some true by decide +kernel]
  rfl
@[simp] theorem isi_list_tuple {ds : List PyData} : isiB "list" (.tuple ds) = some (.bool false) := by
  show (kitB "tuple" "list").map PyData.bool = _
  rw [show kitB "tuple" "list" = some false by decide +kernel]
  rfl
@[simp] theorem isi_list_dict {es : List (PyData × PyData)} : isiB "list" (.dict es) = some (.bool false) := by
  show (kitB "dict" "list").map PyData.bool = _
  rw [show kitB "dict" "list" = some false by decide +kernel]
  rfl
@[simp] theorem isi_tuple_NoneType : isiB "tuple" .none = some (.bool false) := by
  show (kitB "NoneType" "tuple").map PyData.bool = _
  rw [show kitB "NoneType" "tuple" = some false by decide +kernel]
  rfl
@[simp] theorem isi_tuple_bool {b : Bool} : isiB "tuple" (.bool b) = some (.bool false) := by
  show (kitB "bool" "tuple").map PyData.bool = _
  rw [show kitB "bool" "tuple" = some false by decide +kernel]
  rfl
@[simp] theorem isi_tuple_int {i : Int} : isiB "tuple" (.int i) = some (.bool false) := by
  show (kitB "int" "tuple").map PyData.bool = _
  rw [show kitB "int" "tuple" = some false by decide +kernel]
  rfl
@[simp] theorem isi_tuple_str {x : Str} : isiB "tuple" (.str x) = some (.bool false) := by
  show (kitB "str" "tuple").map PyData.bool = _
  rw [show kitB "str" "tuple" = some false by decide +kernel]
  rfl
@[simp] theorem isi_tuple_list {ds : List PyData} : isiB "tuple" (.list ds) = some (.bool false) := by
  show (kitB "list" "tuple").map PyData.bool = _
  rw [show kitB "list" "tuple" = some false by decide +kernel]
  rfl
@[simp] theorem isi_tuple_tuple {ds : List PyData} : isiB "tuple" (.tuple ds) = some (.bool true) := by
  show (kitB "tuple" "tuple").map PyData.bool = _
  rw [show kitB "tuple" "tuple" = some true by decide +kernel]
  rfl
@[simp] theorem isi_tuple_dict {es : List (PyData × PyData)} : isiB "tuple" (.dict es) = some (.bool false) := by
  show (kitB "dict" "tuple").map PyData.bool = _
  rw [show kitB "dict" "tuple" = some false by decide +kernel]
  rfl
end Dl
set_option Elab.async false
set_option linter.all false
set_option maxRecDepth 100000
set_option maxHeartbeats 4000000
namespace Eh
open PySem PySem.Spec PyProof.Rows L2 Evl TL
/-! texts as lists of codes -/
abbrev cs (w : Str) : List Nat := w.cps.toList
theorem cs_ext {x y : Str} (h : cs x = cs y) : x = y := by
  cases x with | mk a => cases y with | mk b =>
  have : a = b := by
    apply Array.ext'
    exact h
  rw [this]
def az (c : Nat) : Prop := 97 ≤ c ∧ c < 123
/-- what is drawn as a letter -/
def Ltr (w : Str) : Prop := (∀ c ∈ cs w, az c) ∧ 1 ≤ (cs w).length ∧ (cs w).length ≤ 8
def spotAt (spot n : Nat) : Nat := if spot = 0 then 0 else if spot = 1 then n else n / 2
def mkL (rest : List Nat) (spot turn size k : Nat) : List Nat :=
  (rest.take ((size + k * (spot % 2)) % 8)).take (spotAt spot (rest.take ((size + k * (spot % 2)) % 8)).length) ++ ([97 + (turn + 5 * k) % 26] ++ (rest.take ((size + k * (spot % 2)) % 8)).drop (spotAt spot (rest.take ((size + k * (spot % 2)) % 8)).length))
theorem mkL_inj {rest : List Nat} {spot turn size k1 k2 : Nat} (hs : spot < 3) (h1 : k1 < 26) (h2 : k2 < 26) (h : mkL rest spot turn size k1 = mkL rest spot turn size k2) : k1 = k2 := by
  have key : 97 + (turn + 5 * k1) % 26 = 97 + (turn + 5 * k2) % 26 → k1 = k2 := fun e => by omega
  apply key
  unfold mkL at h
  have cases3 : spot = 0 ∨ spot = 1 ∨ spot = 2 := by omega
  rcases cases3 with rfl | rfl | rfl
  · simp only [spotAt, if_true, List.take_zero, List.nil_append, List.cons_append] at h
    exact (List.cons.inj h).1
  · have n1 : ∀ l : List Nat, spotAt 1 l.length = l.length := fun l => rfl
    rw [n1, n1, List.take_length, List.take_length, List.drop_length, List.drop_length, List.append_nil, List.append_nil] at h
    exact (List.cons.inj (List.append_inj' h rfl).2).1
  · rw [show k1 * (2 % 2) = 0 from Nat.mul_zero _, show k2 * (2 % 2) = 0 from Nat.mul_zero _] at h
    have := List.append_cancel_left h
    exact (List.cons.inj this).1
theorem mkL_len {rest : List Nat} {spot turn size k : Nat} : (mkL rest spot turn size k).length = (rest.take ((size + k * (spot % 2)) % 8)).length + 1 := by
  unfold mkL
  generalize rest.take ((size + k * (spot % 2)) % 8) = l
  rw [List.length_append, List.length_append, List.length_take, List.length_drop, List.length_singleton]
  omega
theorem mkL_az {rest : List Nat} {spot turn size k : Nat} (h : ∀ c ∈ rest, az c) : ∀ c ∈ mkL rest spot turn size k, az c := by
  intro c hc
  unfold mkL at hc
  rcases List.mem_append.mp hc with q | q
  · exact h c (List.mem_of_mem_take (List.mem_of_mem_take q))
  · rcases List.mem_append.mp q with q | q
    · rw [List.mem_singleton.mp q]
      unfold az
      omega
    · exact h c (List.mem_of_mem_take (List.mem_of_mem_drop q))
def mkS (rest : List Nat) (spot turn size k : Nat) : Str := ⟨(mkL rest spot turn size k).toArray⟩
theorem cs_mkS {rest : List Nat} {spot turn size k : Nat} : cs (mkS rest spot turn size k) = mkL rest spot turn size k := rfl
def mkAll (rest : List Nat) (spot turn size n : Nat) : List Str := (List.range n).map (mkS rest spot turn size)
theorem mkAll_nodup {rest : List Nat} {spot turn size n : Nat} (hs : spot < 3) (hn : n ≤ 26) : (mkAll rest spot turn size n).Nodup := by
  unfold mkAll
  rw [List.Nodup, List.pairwise_map]
  refine List.Pairwise.imp_of_mem (fun {a b} ha hb hab e => hab ?_) (List.nodup_range (n := n))
  have ha' := List.mem_range.mp ha
  have hb' := List.mem_range.mp hb
  exact mkL_inj hs (by omega) (by omega) (by
    have := congrArg cs e
    exact this)
theorem mkAll_ltr {rest : List Nat} {spot turn size n : Nat} (h : ∀ c ∈ rest, az c) : ∀ w ∈ mkAll rest spot turn size n, Ltr w := by
  intro w hw
  obtain ⟨k, _, rfl⟩ := List.mem_map.mp hw
  refine ⟨fun c hc => mkL_az h c hc, ?_, ?_⟩
  · rw [cs_mkS, mkL_len]
    omega
  · rw [cs_mkS, mkL_len, List.length_take]
    omega
theorem joinL_nil : ∀ ls : List (List Nat), joinL [] ls = ls.flatten
  | [] => rfl
  | [p] => by simp [joinL]
  | p :: q :: r => by
    show p ++ ([] ++ joinL [] (q :: r)) = (p :: q :: r).flatten
    rw [joinL_nil (q :: r), List.nil_append]
    rfl
theorem flat_one : ∀ ds : List Nat, (ds.map fun c => [c]).flatten = ds
  | [] => rfl
  | d :: r => by
    show [d] ++ (r.map fun c => [c]).flatten = d :: r
    rw [flat_one r]
    rfl
theorem cs_join (ds : List Nat) : cs (Txt.join (Str.ofString "") (ds.map fun c => (⟨#[c]⟩ : Str))) = ds := by
  have h := tl_join (Str.ofString "") (ds.map fun c => (⟨#[c]⟩ : Str))
  rw [← join_eq, show tl (Str.ofString "") = [] from rfl, joinL_nil, List.map_map] at h
  exact h.trans (flat_one ds)
abbrev alpha : Str := Str.ofString "abcdefghijklmnopqrstuvwxyz"
theorem cs_alpha : cs alpha = (List.range 26).map (97 + ·) := by decide +kernel
theorem alpha_at {v : Nat} (h : v < 26) : atI (cs alpha) (v : Int) = some (97 + v) := by
  refine atI_nat ?_
  rw [cs_alpha, List.getElem?_map, List.getElem?_range h]
  rfl
theorem cs_app (x y : Str) : cs (x ++ y) = cs x ++ cs y := tl_append x y
theorem len_cs (x : Str) : x.length = (cs x).length := by simp [Str.length]
theorem cs_cut0 (x : Str) (n : Nat) : cs (cutS x none (some (n : Int))) = (cs x).take n := by
  unfold cutS
  rw [HT.sIx_none, HT.sIx_nat]
  show ((cs x).drop 0).take _ = _
  rw [List.drop_zero, Nat.sub_zero, List.take_eq_take_iff, len_cs]
  omega
theorem cs_cutF (x : Str) (n : Nat) : cs (cutS x (some (n : Int)) none) = (cs x).drop n := by
  unfold cutS
  rw [HT.sIx_none, HT.sIx_nat, len_cs]
  show ((cs x).drop _).take _ = _
  by_cases h : n ≤ (cs x).length
  · rw [Nat.min_eq_left h]
    exact List.take_of_length_le (by rw [List.length_drop]; exact Nat.le_refl _)
  · rw [Nat.min_eq_right (show (cs x).length ≤ n by omega), List.drop_of_length_le (Nat.le_refl _), List.drop_of_length_le (show (cs x).length ≤ n by omega), List.take_nil]
/-- a sheet: its opens, plains, closes -/
structure Sht (os ps qs : List Str) : Prop where
  nd : (os ++ ps ++ qs).Nodup
  lt : ∀ x ∈ os ++ ps ++ qs, Ltr x
  o1 : 1 ≤ os.length
  o4 : os.length ≤ 4
  p4 : ps.length ≤ 4
  c1 : 1 ≤ qs.length
  c4 : qs.length ≤ 4
theorem rot_nodup {L : List Str} (t : Nat) (h : L.Nodup) : (L.drop t ++ L.take t).Nodup := by
  refine (List.perm_append_comm.nodup_iff).mp ?_
  rw [List.take_append_drop]
  exact h
theorem rot_mem {L : List Str} {t : Nat} {x : Str} (h : x ∈ L.drop t ++ L.take t) : x ∈ L := by
  rcases List.mem_append.mp h with q | q
  · exact List.mem_of_mem_drop q
  · exact List.mem_of_mem_take q
theorem sub12 {L : List Str} {a b d : Nat} (ha : a ≤ 4) (hb : b ≤ 4) : ((L.take a) ++ (L.take (4 + b)).drop 4 ++ (L.take (8 + d)).drop 8).Sublist L := by
  have e : L = L.take 4 ++ (L.take 8).drop 4 ++ L.drop 8 := by
    have e1 : L.take 4 ++ (L.take 8).drop 4 = L.take 8 := by
      have := List.take_append_drop 4 (L.take 8)
      rw [List.take_take] at this
      exact this
    rw [e1, List.take_append_drop]
  have s1 : (L.take a).Sublist (L.take 4) := by
    have : L.take a = (L.take 4).take a := by rw [List.take_take, Nat.min_eq_left ha]
    rw [this]
    exact List.take_sublist _ _
  have s2 : ((L.take (4 + b)).drop 4).Sublist ((L.take 8).drop 4) := by
    refine List.Sublist.drop ?_ 4
    have : L.take (4 + b) = (L.take 8).take (4 + b) := by rw [List.take_take, Nat.min_eq_left (by omega)]
    rw [this]
    exact List.take_sublist _ _
  have s3 : ((L.take (8 + d)).drop 8).Sublist (L.drop 8) := List.Sublist.drop (List.take_sublist _ _) 8
  have := (s1.append s2).append s3
  rw [← e] at this
  exact this
theorem sht_of {L : List Str} (hn : L.Nodup) (hl : ∀ x ∈ L, Ltr x) (h12 : L.length = 12) {a b d : Nat} (a1 : 1 ≤ a) (a4 : a ≤ 4) (b4 : b ≤ 4) (d1 : 1 ≤ d) (d4 : d ≤ 4) : Sht (L.take a) ((L.take (4 + b)).drop 4) ((L.take (8 + d)).drop 8) := by
  refine ⟨(sub12 a4 b4).nodup hn, fun x hx => hl x ((sub12 a4 b4).subset hx), ?_, ?_, ?_, ?_, ?_⟩ <;> simp only [List.length_take, List.length_drop, h12] <;> omega
end Eh
set_option Elab.async false
set_option linter.all false
set_option maxRecDepth 100000
set_option maxHeartbeats 4000000
namespace Dl
open PySem PySem.Spec PyProof.Rows L2 Evl Gx GxR RZ
noncomputable def gIsWhole : DEnv → Flow :=
  gRet false (fAndV (fIsi "int" (fBor 0)) (fNotV (fVal (fIsi "bool" (fBor 0)))))
noncomputable def dIsWhole : List Slot → FR := runD 1 (gIsWhole)
noncomputable def gOrderOf : DEnv → Flow :=
  gSeq (gAsg (bTup (bsCons (bName 1) (bsCons (bName 2) (bsCons (bName 3) (bsNil))))) (fVar 0))
    (gRetX (fOw (fDcK (fSrcB enumOf (fBCons (fVal (f2 dAdd (fVal (f2 dAdd (fBor 1) (fBor 2))) (fBor 3))) (fBNil))) [4, 5] (bTup (bsCons (bName 4) (bsCons (bName 5) (bsNil)))) (fYes) (fVar 5) (fVar 4))))
noncomputable def dOrderOf : List Slot → FR := runD 6 (gOrderOf)
noncomputable def gNeedWord : DEnv → Flow :=
  gSeq (gSet 2 (fCall dOrderOf [] (aVar 0 (aNil))))
    (gFor (bTup (bsCons (bName 3) (bsCons (bName 4) (bsNil)))) (fSrcB enumOf (fBCons (fBor 1) (fBNil))) (gIf (fT (f2 dNotInA (fBor 4) (fBor 2))) (gBad) (gNone)))
noncomputable def dNeedWord : List Slot → FR := runD 5 (gNeedWord)
noncomputable def gAnswers : DEnv → Flow :=
  gSeq (gExpr (fCall dNeedWord [] (aVar 0 (aVar 1 (aNil)))))
    (gSeq (gSetX 2 (fOw (f2 dMulL (fVal (fLst (fCons (fC .none) (fNil)))) (fVal (fBlt kLen (fBCons (fBor 1) (fBNil)))))))
    (gSeq (gSetX 3 (fOw (fLst (fNil))))
    (gSeq (gFor (bTup (bsCons (bName 4) (bsCons (bName 5) (bsNil)))) (fSrcB enumOf (fBCons (fBor 1) (fBNil))) (gIf (fT (f2 dInA (fBor 5) (fVal (f2 dIx (fBor 0) (fVal (fC (.int 0))))))) (gExpr (fMut "list" 3 kAppend (fCons (fVar 4) (fNil)))) (gIf (fAnd (fT (f2 dInA (fBor 5) (fVal (f2 dIx (fBor 0) (fVal (fC (.int 2))))))) (fTr (fBor 3))) (gSeq (gSet 6 (fMut0 "list" 3 kPop))
    (gSeq (gStore 2 (fBor 6) (fVar 4))
    (gStore 2 (fBor 4) (fVar 6)))) (gNone))))
    (gRetX (fMoveX 2)))))
noncomputable def dAnswers : List Slot → FR := runD 7 (gAnswers)
noncomputable def gAlone : DEnv → Flow :=
  gSeq (gSet 3 (fLc (fSrc rng1 (fCons (fBlt kLen (fBCons (fBor 1) (fBNil))) (fNil))) [5] (bName 5) (fT (f2 dIsN (fVal (f2 dIx (fBor 2) (fBor 5))) (fVal (fC .none)))) (fVar 5)))
    (gSeq (gSet 4 (fLc (fWalk (fBor 3)) [5] (bName 5) (fT (f2 dInA (fVal (f2 dIx (fBor 1) (fBor 5))) (fVal (f2 dIx (fBor 0) (fVal (fC (.int 2))))))) (fVar 5)))
    (gRetX (fOw (f2 dAddL (fBor 4) (fVal (fLc (fWalk (fBor 3)) [5] (bName 5) (fT (f2 dInA (fVal (f2 dIx (fBor 1) (fBor 5))) (fVal (f2 dIx (fBor 0) (fVal (fC (.int 0))))))) (fVar 5)))))))
noncomputable def dAlone : List Slot → FR := runD 6 (gAlone)
noncomputable def gIsShut : DEnv → Flow :=
  gRet false (fNotV (fVal (fCall dAlone [] (aVar 0 (aVar 1 (aVal (fCall dAnswers [] (aVar 0 (aVar 1 (aNil)))) (aNil)))))))
noncomputable def dIsShut : List Slot → FR := runD 2 (gIsShut)
noncomputable def gIsTimes : DEnv → Flow :=
  gRet false (fAndV (fCall dIsWhole [] (aVar 0 (aNil))) (fChain (dOrd fun i j => decide (i ≤ j)) (dOrd fun i j => decide (i ≤ j)) (fVal (fC (.int 0))) (fBor 0) (fVal (fC (.int 1000000000000000000000000000000000000000000000000000000000000)))))
noncomputable def dIsTimes : List Slot → FR := runD 1 (gIsTimes)
noncomputable def gIsShortShut : DEnv → Flow :=
  gSeq (gIf (fOr (fNot (fTr (fVal (fIsi "tuple" (fBor 1))))) (fT (f2 (dOrd fun i j => decide (j < i)) (fVal (fBlt kLen (fBCons (fBor 1) (fBNil)))) (fVal (fC (.int 60)))))) (gRet false (fC (.bool false))) (gNone))
    (gSeq (gSet 2 (f2 dAdd (fVal (f2 dAdd (fVal (f2 dIx (fBor 0) (fVal (fC (.int 0))))) (fVal (f2 dIx (fBor 0) (fVal (fC (.int 1))))))) (fVal (f2 dIx (fBor 0) (fVal (fC (.int 2)))))))
    (gRet false (fAndV (fAny false (fWalk (fBor 1)) [3] (bName 3) (f2 dInA (fBor 3) (fBor 2))) (fCall dIsShut [] (aVar 0 (aVal (fBlt kList (fBCons (fBor 1) (fBNil))) (aNil)))))))
noncomputable def dIsShortShut : List Slot → FR := runD 4 (gIsShortShut)
noncomputable def gIsForm : DEnv → Flow :=
  gSeq (gIf (fOr (fNot (fTr (fVal (fIsi "tuple" (fBor 1))))) (fNot (fT (fChain (dOrd fun i j => decide (i ≤ j)) (dOrd fun i j => decide (i ≤ j)) (fVal (fC (.int 2))) (fVal (fBlt kLen (fBCons (fBor 1) (fBNil)))) (fVal (fC (.int 5))))))) (gRet false (fC (.bool false))) (gNone))
    (gSeq (gIf (fT (f2 dEq (fVal (f2 dIx (fBor 1) (fVal (fC (.int 0))))) (fVal (fC (.str "word"))))) (gRet false (fAndV (f2 dEq (fVal (fBlt kLen (fBCons (fBor 1) (fBNil)))) (fVal (fC (.int 2)))) (fCall dIsShortShut [] (aVar 0 (aVal (f2 dIx (fBor 1) (fVal (fC (.int 1)))) (aNil)))))) (gNone))
    (gSeq (gIf (fT (f2 dEq (fVal (f2 dIx (fBor 1) (fVal (fC (.int 0))))) (fVal (fC (.str "row"))))) (gRet false (fAndV (f2 dEq (fVal (fBlt kLen (fBCons (fBor 1) (fBNil)))) (fVal (fC (.int 2)))) (fAndV (fIsi "tuple" (fVal (f2 dIx (fBor 1) (fVal (fC (.int 1)))))) (f2 (dOrd fun i j => decide (i ≤ j)) (fVal (fBlt kLen (fBCons (fVal (f2 dIx (fBor 1) (fVal (fC (.int 1))))) (fBNil)))) (fVal (fC (.int 8))))))) (gNone))
    (gSeq (gIf (fT (f2 dEq (fVal (f2 dIx (fBor 1) (fVal (fC (.int 0))))) (fVal (fC (.str "again"))))) (gRet false (fAndV (f2 dEq (fVal (fBlt kLen (fBCons (fBor 1) (fBNil)))) (fVal (fC (.int 3)))) (fCall dIsTimes [] (aVal (f2 dIx (fBor 1) (fVal (fC (.int 1)))) (aNil))))) (gNone))
    (gSeq (gIf (fOr (fT (f2 dNe (fVal (f2 dIx (fBor 1) (fVal (fC (.int 0))))) (fVal (fC (.str "wrap"))))) (fOr (fT (f2 dNe (fVal (fBlt kLen (fBCons (fBor 1) (fBNil)))) (fVal (fC (.int 5))))) (fNot (fTr (fVal (fCall dIsTimes [] (aVal (f2 dIx (fBor 1) (fVal (fC (.int 1)))) (aNil)))))))) (gRet false (fC (.bool false))) (gNone))
    (gRet false (fAndV (f2 dInA (fVal (f2 dIx (fBor 1) (fVal (fC (.int 2))))) (fVal (f2 dIx (fBor 0) (fVal (fC (.int 0)))))) (f2 dInA (fVal (f2 dIx (fBor 1) (fVal (fC (.int 4))))) (fVal (f2 dIx (fBor 0) (fVal (fC (.int 2))))))))))))
noncomputable def dIsForm : List Slot → FR := runD 2 (gIsForm)
noncomputable def gPartsIn : DEnv → Flow :=
  gSeq (gIf (fT (f2 dEq (fVal (f2 dIx (fBor 0) (fVal (fC (.int 0))))) (fVal (fC (.str "word"))))) (gRetX (fOw (fLst (fNil)))) (gNone))
    (gSeq (gIf (fT (f2 dEq (fVal (f2 dIx (fBor 0) (fVal (fC (.int 0))))) (fVal (fC (.str "row"))))) (gRetX (fOw (fBlt kList (fBCons (fVal (f2 dIx (fBor 0) (fVal (fC (.int 1))))) (fBNil))))) (gNone))
    (gRetX (fIteX (fT (f2 dEq (fVal (f2 dIx (fBor 0) (fVal (fC (.int 0))))) (fVal (fC (.str "again"))))) (fOw (fLst (fCons (f2 dIx (fBor 0) (fVal (fC (.int 2)))) (fNil)))) (fOw (fLst (fCons (f2 dIx (fBor 0) (fVal (fC (.int 3)))) (fNil)))))))
noncomputable def dPartsIn : List Slot → FR := runD 1 (gPartsIn)
noncomputable def gIsGreat : DEnv → Flow :=
  gSeq (gSet 2 (fC (.int 0)))
    (gSeq (gSetX 3 (fOw (fLst (fCons (fTup (fCons (fVar 1) (fCons (fC (.int 1)) (fNil)))) (fNil)))))
    (gSeq (gWhile (fTr (fBor 3)) (gSeq (gAsg (bTup (bsCons (bName 4) (bsCons (bName 5) (bsNil)))) (fMut0 "list" 3 kPop))
    (gSeq (gAug 2 kPlus (fC (.int 1)))
    (gSeq (gIf (fOr (fT (f2 (dOrd fun i j => decide (j < i)) (fBor 2) (fVal (fC (.int 40))))) (fOr (fT (f2 (dOrd fun i j => decide (j < i)) (fBor 5) (fVal (fC (.int 10))))) (fNot (fTr (fVal (fCall dIsForm [] (aVar 0 (aVar 4 (aNil))))))))) (gRet false (fC (.bool false))) (gNone))
    (gExpr (fMut "list" 3 kExtend (fCons (fLc (fWalk (fVal (fCall dPartsIn [] (aVar 4 (aNil))))) [6] (bName 6) (fYes) (fTup (fCons (fVar 6) (fCons (f2 dAdd (fBor 5) (fVal (fC (.int 1)))) (fNil))))) (fNil))))))))
    (gRet false (fC (.bool true)))))
noncomputable def dIsGreat : List Slot → FR := runD 7 (gIsGreat)
noncomputable def gLBlend : DEnv → Flow :=
  gSeq (gIf (fT (f2 (dOrd fun i j => decide (j ≤ i)) (fBor 0) (fVal (f2 dPow (fVal (fC (.int 10))) (fVal (fC (.int 18))))))) (gRet false (fVar 0)) (gNone))
    (gSeq (gSet 2 (f2 dMod (fVal (f2 dAdd (fVal (f2 dAdd (fVal (f2 dMul (fVal (f2 dMod (fBor 0) (fVal (fC (.int 998244353))))) (fVal (fC (.int 40692))))) (fVal (f2 dMul (fBor 1) (fVal (fC (.int 69621))))))) (fVal (fC (.int 1009))))) (fVal (fC (.int 2147483399)))))
    (gSeq (gSet 3 (f2 dMod (fVal (f2 dAdd (fVal (f2 dAdd (fVal (f2 dMul (fBor 2) (fBor 2))) (fVal (f2 dMul (fBor 1) (fVal (fC (.int 48271))))))) (fVal (f2 dMod (fBor 0) (fVal (fC (.int 131071))))))) (fVal (fC (.int 2147483647)))))
    (gSeq (gSet 4 (f2 dMod (fVal (f2 dAdd (fVal (f2 dAdd (fVal (f2 dMul (fBor 3) (fBor 3))) (fVal (f2 dMul (fBor 2) (fVal (fC (.int 17))))))) (fVal (fC (.int 3))))) (fVal (fC (.int 2147483629)))))
    (gRet false (f2 dAdd (fVal (f2 dMul (fVal (f2 dAdd (fVal (f2 dMul (fBor 2) (fVal (fC (.int 2147483647))))) (fBor 3))) (fVal (fC (.int 2147483629))))) (fBor 4))))))
noncomputable def dLBlend : List Slot → FR := runD 5 (gLBlend)
noncomputable def gLPick : DEnv → Flow :=
  gSeq (gIf (fT (f2 (dOrd fun i j => decide (i < j)) (fVal (f2 dIx (fBor 0) (fVal (fC (.int 2))))) (fBor 1))) (gSeq (gSet 2 (f2 dIx (fBor 0) (fVal (fC (.int 1)))))
    (gSeq (gSet 3 (f2 dMul (fVal (fC (.int 11))) (fBor 2)))
    (gSeq (gIf (fT (f2 (dOrd fun i j => decide (i < j)) (fBor 2) (fVal (fBlt kLen (fBCons (fVal (f2 dIx (fBor 0) (fVal (fC (.int 0))))) (fBNil)))))) (gSet 3 (f2 dIx (fVal (f2 dIx (fBor 0) (fVal (fC (.int 0))))) (fBor 2))) (gIf (fT (f2 dNe (fVal (f2 dIx (fBor 0) (fVal (fC (.int 0))))) (fVal (fLst (fNil))))) (gSet 3 (f2 dMod (fVal (f2 dIx (fVal (f2 dIx (fBor 0) (fVal (fC (.int 0))))) (fVal (f2 dMod (fVal (f2 dAdd (fVal (f2 dMul (fBor 2) (fVal (fC (.int 7))))) (fVal (fC (.int 1))))) (fVal (fBlt kLen (fBCons (fVal (f2 dIx (fBor 0) (fVal (fC (.int 0))))) (fBNil)))))))) (fVal (f2 dAdd (fVal (f2 dPow (fVal (fC (.int 10))) (fVal (fC (.int 17))))) (fVal (f2 dMul (fVal (fC (.int 3))) (fBor 2))))))) (gNone)))
    (gSeq (gStore 0 (fVal (fC (.int 1))) (f2 dAdd (fBor 2) (fVal (fC (.int 1)))))
    (gStore 0 (fVal (fC (.int 2))) (fCall dLBlend [] (aVar 3 (aVar 2 (aNil))))))))) (gNone))
    (gSeq (gSet 4 (f2 dMod (fVal (f2 dIx (fBor 0) (fVal (fC (.int 2))))) (fBor 1)))
    (gSeq (gStore 0 (fVal (fC (.int 2))) (f2 dDiv (fVal (f2 dIx (fBor 0) (fVal (fC (.int 2))))) (fBor 1)))
    (gRet false (fVar 4))))
noncomputable def dLPick : List Slot → FR := runD 5 (gLPick)
noncomputable def gLLetters : DEnv → Flow :=
  gSeq (gSet 2 (fC (.str "abcdefghijklmnopqrstuvwxyz")))
    (gSeq (gSet 4 (f2 dJoin (fVal (fC (.str ""))) (fVal (fLc (fSrc rng1 (fCons (fC (.int 7)) (fNil))) [3] (bName 3) (fYes) (f2 dIx (fBor 2) (fVal (fCall dLPick [] (aIo 0 (aVal (fC (.int 26)) (aNil))))))))))
    (gSeq (gSet 5 (fCall dLPick [] (aIo 0 (aVal (fC (.int 3)) (aNil)))))
    (gSeq (gSet 6 (fCall dLPick [] (aIo 0 (aVal (fC (.int 26)) (aNil)))))
    (gSeq (gSet 7 (fCall dLPick [] (aIo 0 (aVal (fC (.int 8)) (aNil)))))
    (gSeq (gSetX 8 (fOw (fLst (fNil))))
    (gSeq (gFor (bName 3) (fSrc rng1 (fCons (fVar 1) (fNil))) (gSeq (gSet 9 (fSl (fBor 4) (fNoP) (fPart (f2 dMod (fVal (f2 dAdd (fBor 7) (fVal (f2 dMul (fBor 3) (fVal (f2 dMod (fBor 5) (fVal (fC (.int 2))))))))) (fVal (fC (.int 8)))))))
    (gSeq (gSet 10 (f2 dIx (fVal (fLst (fCons (fC (.int 0)) (fCons (fBlt kLen (fBCons (fBor 9) (fBNil))) (fCons (f2 dDiv (fVal (fBlt kLen (fBCons (fBor 9) (fBNil)))) (fVal (fC (.int 2)))) (fNil)))))) (fBor 5)))
    (gExpr (fMut "list" 8 kAppend (fCons (f2 dAdd (fVal (f2 dAdd (fVal (fSl (fBor 9) (fNoP) (fPart (fVar 10)))) (fVal (f2 dIx (fBor 2) (fVal (f2 dMod (fVal (f2 dAdd (fBor 6) (fVal (f2 dMul (fVal (fC (.int 5))) (fBor 3))))) (fVal (fC (.int 26))))))))) (fVal (fSl (fBor 9) (fPart (fVar 10)) (fNoP)))) (fNil)))))))
    (gRetX (fMoveX 8))))))))
noncomputable def dLLetters : List Slot → FR := runD 11 (gLLetters)
noncomputable def gLSheet : DEnv → Flow :=
  gSeq (gSet 2 (fCall dLLetters [] (aIo 0 (aVal (fC (.int 12)) (aNil)))))
    (gSeq (gSet 3 (fCall dLPick [] (aIo 0 (aVal (fC (.int 12)) (aNil)))))
    (gSeq (gSet 2 (f2 dAdd (fVal (fSl (fBor 2) (fPart (fVar 3)) (fNoP))) (fVal (fSl (fBor 2) (fNoP) (fPart (fVar 3))))))
    (gSeq (gSet 4 (fSl (fBor 2) (fNoP) (fPart (fBlt kMin (fBCons (fBor 1) (fBCons (fVal (f2 dIx (fVal (fLst (fCons (fC (.int 1)) (fCons (fC (.int 1)) (fCons (fC (.int 2)) (fCons (fC (.int 2)) (fCons (fC (.int 4)) (fNil)))))))) (fVal (fCall dLPick [] (aIo 0 (aVal (fC (.int 5)) (aNil))))))) (fBNil)))))))
    (gSeq (gSet 5 (fSl (fBor 2) (fPart (fC (.int 4))) (fPart (f2 dAdd (fVal (fC (.int 4))) (fVal (fBlt kMin (fBCons (fBor 1) (fBCons (fVal (f2 dIx (fVal (fLst (fCons (fC (.int 0)) (fCons (fC (.int 1)) (fCons (fC (.int 1)) (fCons (fC (.int 2)) (fCons (fC (.int 4)) (fNil)))))))) (fVal (fCall dLPick [] (aIo 0 (aVal (fC (.int 5)) (aNil))))))) (fBNil)))))))))
    (gSeq (gSet 6 (fSl (fBor 2) (fPart (fC (.int 8))) (fPart (f2 dAdd (fVal (fC (.int 8))) (fVal (fBlt kMin (fBCons (fBor 1) (fBCons (fVal (f2 dIx (fVal (fLst (fCons (fC (.int 1)) (fCons (fC (.int 1)) (fCons (fC (.int 2)) (fCons (fC (.int 2)) (fCons (fC (.int 4)) (fNil)))))))) (fVal (fCall dLPick [] (aIo 0 (aVal (fC (.int 5)) (aNil))))))) (fBNil)))))))))
    (gRet false (fTup (fCons (fBlt kTuple (fBCons (fBor 4) (fBNil))) (fCons (fBlt kTuple (fBCons (fBor 5) (fBNil))) (fCons (fBlt kTuple (fBCons (fBor 6) (fBNil))) (fNil)))))))))))
noncomputable def dLSheet : List Slot → FR := runD 7 (gLSheet)
noncomputable def gLOrder : DEnv → Flow :=
  gRetX (fOw (f2 dAddL (fVal (f2 dAdd (fVal (fBlt kList (fBCons (fVal (f2 dIx (fBor 0) (fVal (fC (.int 0))))) (fBNil)))) (fVal (fBlt kList (fBCons (fVal (f2 dIx (fBor 0) (fVal (fC (.int 1))))) (fBNil)))))) (fVal (fBlt kList (fBCons (fVal (f2 dIx (fBor 0) (fVal (fC (.int 2))))) (fBNil))))))
noncomputable def dLOrder : List Slot → FR := runD 1 (gLOrder)
noncomputable def gLShut : DEnv → Flow :=
  gSeq (gSetX 3 (fOw (fLst (fNil))))
    (gSeq (gSet 4 (fC (.int 0)))
    (gSeq (gFor (bName 5) (fSrc rng1 (fCons (fCall dLPick [] (aIo 0 (aVal (f2 dAdd (fBor 2) (fVal (fC (.int 1)))) (aNil)))) (fNil))) (gSeq (gSet 6 (fCall dLPick [] (aIo 0 (aVal (fC (.int 5)) (aNil)))))
    (gIf (fOr (fT (f2 (dOrd fun i j => decide (i < j)) (fBor 6) (fVal (fC (.int 2))))) (fAnd (fT (f2 dEq (fVal (f2 dIx (fBor 1) (fVal (fC (.int 1))))) (fVal (fTup (fNil))))) (fT (f2 dEq (fBor 4) (fVal (fC (.int 0))))))) (gSeq (gExpr (fMut "list" 3 kAppend (fCons (f2 dIx (fVal (f2 dIx (fBor 1) (fVal (fC (.int 0))))) (fVal (fCall dLPick [] (aIo 0 (aVal (fBlt kLen (fBCons (fVal (f2 dIx (fBor 1) (fVal (fC (.int 0))))) (fBNil))) (aNil)))))) (fNil))))
    (gSet 4 (f2 dAdd (fBor 4) (fVal (fC (.int 1)))))) (gIf (fOr (fAnd (fT (f2 dEq (fBor 6) (fVal (fC (.int 2))))) (fT (f2 dNe (fVal (f2 dIx (fBor 1) (fVal (fC (.int 1))))) (fVal (fTup (fNil)))))) (fT (f2 dEq (fBor 4) (fVal (fC (.int 0)))))) (gExpr (fMut "list" 3 kAppend (fCons (f2 dIx (fVal (f2 dIx (fBor 1) (fVal (fC (.int 1))))) (fVal (fCall dLPick [] (aIo 0 (aVal (fBlt kLen (fBCons (fVal (f2 dIx (fBor 1) (fVal (fC (.int 1))))) (fBNil))) (aNil)))))) (fNil)))) (gSeq (gExpr (fMut "list" 3 kAppend (fCons (f2 dIx (fVal (f2 dIx (fBor 1) (fVal (fC (.int 2))))) (fVal (fCall dLPick [] (aIo 0 (aVal (fBlt kLen (fBCons (fVal (f2 dIx (fBor 1) (fVal (fC (.int 2))))) (fBNil))) (aNil)))))) (fNil))))
    (gSet 4 (f2 dSub (fBor 4) (fVal (fC (.int 1))))))))))
    (gRetX (fOw (f2 dAddL (fBor 3) (fVal (fLc (fSrc rng1 (fCons (fVar 4) (fNil))) [5] (bName 5) (fYes) (f2 dIx (fVal (f2 dIx (fBor 1) (fVal (fC (.int 2))))) (fVal (fCall dLPick [] (aIo 0 (aVal (fBlt kLen (fBCons (fVal (f2 dIx (fBor 1) (fVal (fC (.int 2))))) (fBNil))) (aNil)))))))))))))
noncomputable def dLShut : List Slot → FR := runD 7 (gLShut)
noncomputable def gLAnswers : DEnv → Flow :=
  gSeq (gOwn 2 (fLc (fWalk (fBor 1)) [5] (bName 5) (fYes) (fC .none)))
    (gSeq (gFor (bName 3) (fSrc rng1 (fCons (fBlt kLen (fBCons (fBor 1) (fBNil))) (fNil))) (gIf (fT (f2 dInA (fVal (f2 dIx (fBor 1) (fBor 3))) (fVal (f2 dIx (fBor 0) (fVal (fC (.int 2))))))) (gSeq (gSet 4 (f2 dSub (fBor 3) (fVal (fC (.int 1)))))
    (gWhile (fAnd (fT (f2 (dOrd fun i j => decide (j ≤ i)) (fBor 4) (fVal (fC (.int 0))))) (fT (f2 dIsN (fVal (f2 dIx (fBor 2) (fBor 3))) (fVal (fC .none))))) (gSeq (gIf (fAnd (fT (f2 dInA (fVal (f2 dIx (fBor 1) (fBor 4))) (fVal (f2 dIx (fBor 0) (fVal (fC (.int 2))))))) (fT (f2 dNotN (fVal (f2 dIx (fBor 2) (fBor 4))) (fVal (fC .none))))) (gSet 4 (f2 dIx (fBor 2) (fBor 4))) (gIf (fAnd (fT (f2 dInA (fVal (f2 dIx (fBor 1) (fBor 4))) (fVal (f2 dIx (fBor 0) (fVal (fC (.int 0))))))) (fT (f2 dIsN (fVal (f2 dIx (fBor 2) (fBor 4))) (fVal (fC .none))))) (gSeq (gStore 2 (fBor 4) (fVar 3))
    (gStore 2 (fBor 3) (fVar 4))) (gNone)))
    (gSet 4 (f2 dSub (fBor 4) (fVal (fC (.int 1)))))))) (gNone)))
    (gRetX (fMoveX 2)))
noncomputable def dLAnswers : List Slot → FR := runD 6 (gLAnswers)
noncomputable def gLSame (R : List Slot → FR) : DEnv → Flow :=
  gSeq (gIf (fOr (fT (f2 dIsN (fBor 1) (fVal (fC .none)))) (fTr (fVal (fIsi "bool" (fBor 1))))) (gRet false (fAndV (f2 dEq (fVal (fIsi "bool" (fBor 0))) (fVal (fIsi "bool" (fBor 1)))) (f2 dEq (fBor 0) (fBor 1)))) (gNone))
    (gSeq (gIf (fTr (fVal (fIsi "str" (fBor 1)))) (gRet false (fAndV (fIsi "str" (fBor 0)) (f2 dEq (fBor 0) (fBor 1)))) (gNone))
    (gSeq (gIf (fTr (fVal (fIsi "int" (fBor 1)))) (gRet false (fAndV (fIsi "int" (fBor 0)) (fAndV (fNotV (fVal (fIsi "bool" (fBor 0)))) (f2 dEq (fBor 0) (fBor 1))))) (gNone))
    (gSeq (gIf (fOr (fT (f2 dNe (fVal (fIsi "tuple" (fBor 1))) (fVal (fIsi "tuple" (fBor 0))))) (fT (f2 dNe (fVal (fIsi "list" (fBor 1))) (fVal (fIsi "list" (fBor 0)))))) (gRet false (fC (.bool false))) (gNone))
    (gRet false (fAndV (f2 dEq (fVal (fBlt kLen (fBCons (fBor 0) (fBNil)))) (fVal (fBlt kLen (fBCons (fBor 1) (fBNil))))) (fBlt kAll (fBCons (fVal (fLc (fSrcB zipOf (fBCons (fBor 0) (fBCons (fBor 1) (fBNil)))) [2, 3] (bTup (bsCons (bName 2) (bsCons (bName 3) (bsNil)))) (fYes) (fCall R [] (aVar 2 (aVar 3 (aNil)))))) (fBNil))))))))
noncomputable def dLSame : Nat → List Slot → FR
  | 0 => runD 4 gBad
  | n + 1 => runD 4 (gLSame (dLSame n))
noncomputable def gLWhole : DEnv → Flow :=
  gRet false (fAndV (fIsi "int" (fBor 0)) (fAndV (fNotV (fVal (fIsi "bool" (fBor 0)))) (fChain (dOrd fun i j => decide (i ≤ j)) (dOrd fun i j => decide (i < j)) (fVal (fC (.int 0))) (fBor 0) (fBor 1))))
noncomputable def dLWhole : List Slot → FR := runD 2 (gLWhole)
noncomputable def gLCount : DEnv → Flow :=
  gSeq (gSet 2 (fLst (fCons (fC (.int 0)) (fCons (fC (.int 1)) (fCons (fC (.int 2)) (fCons (fCall dLPick [] (aIo 0 (aVal (fC (.int 4)) (aNil)))) (fNil)))))))
    (gSeq (gIf (fTr (fBor 1)) (gSet 2 (f2 dAdd (fBor 2) (fVal (fLst (fCons (fCall dLPick [] (aIo 0 (aVal (fC (.int 1000)) (aNil)))) (fCons (fCall dLPick [] (aIo 0 (aVal (f2 dPow (fVal (fC (.int 10))) (fVal (fC (.int 30)))) (aNil)))) (fCons (f2 dSub (fVal (f2 dPow (fVal (fC (.int 10))) (fVal (fC (.int 60))))) (fVal (fCall dLPick [] (aIo 0 (aVal (fC (.int 3)) (aNil)))))) (fNil)))))))) (gNone))
    (gRet false (f2 dIx (fBor 2) (fVal (fCall dLPick [] (aIo 0 (aVal (fBlt kLen (fBCons (fBor 2) (fBNil))) (aNil))))))))
noncomputable def dLCount : List Slot → FR := runD 3 (gLCount)
noncomputable def gLGreat (R : List Slot → FR) : DEnv → Flow :=
  gSeq (gSet 4 (f2 dMul (fVal (fCall dLPick [] (aIo 0 (aVal (fC (.int 4)) (aNil))))) (fVal (fBlt kInt (fBCons (fVal (f2 (dOrd fun i j => decide (j < i)) (fBor 2) (fVal (fC (.int 0))))) (fBNil))))))
    (gSeq (gIf (fT (f2 dEq (fBor 4) (fVal (fC (.int 0))))) (gRet false (fTup (fCons (fC (.str "word")) (fCons (fBlt kTuple (fBCons (fVal (fCall dLShut [] (aIo 0 (aVar 1 (aVal (fC (.int 3)) (aNil)))))) (fBNil))) (fNil))))) (gNone))
    (gSeq (gIf (fT (f2 dEq (fBor 4) (fVal (fC (.int 1))))) (gRet false (fTup (fCons (fC (.str "row")) (fCons (fBlt kTuple (fBCons (fVal (fLc (fSrc rng1 (fCons (fCall dLPick [] (aIo 0 (aVal (fC (.int 4)) (aNil)))) (fNil))) [8] (bName 8) (fYes) (fCall R [] (aIo 0 (aVar 1 (aVal (f2 dSub (fBor 2) (fVal (fC (.int 1)))) (aVar 3 (aNil)))))))) (fBNil))) (fNil))))) (gNone))
    (gSeq (gSet 5 (fCall dLCount [] (aIo 0 (aVar 3 (aNil)))))
    (gSeq (gSet 6 (fCall R [] (aIo 0 (aVar 1 (aVal (f2 dSub (fBor 2) (fVal (fC (.int 1)))) (aVar 3 (aNil)))))))
    (gSeq (gIf (fT (f2 dEq (fBor 4) (fVal (fC (.int 2))))) (gRet false (fTup (fCons (fC (.str "again")) (fCons (fVar 5) (fCons (fVar 6) (fNil)))))) (gNone))
    (gSeq (gSet 7 (f2 dIx (fVal (f2 dIx (fBor 1) (fVal (fC (.int 0))))) (fVal (fCall dLPick [] (aIo 0 (aVal (fBlt kLen (fBCons (fVal (f2 dIx (fBor 1) (fVal (fC (.int 0))))) (fBNil))) (aNil)))))))
    (gRet false (fTup (fCons (fC (.str "wrap")) (fCons (fVar 5) (fCons (fVar 7) (fCons (fVar 6) (fCons (f2 dIx (fVal (f2 dIx (fBor 1) (fVal (fC (.int 2))))) (fVal (fCall dLPick [] (aIo 0 (aVal (fBlt kLen (fBCons (fVal (f2 dIx (fBor 1) (fVal (fC (.int 2))))) (fBNil))) (aNil)))))) (fNil))))))))))))))
noncomputable def dLGreat : Nat → List Slot → FR
  | 0 => runD 9 gBad
  | n + 1 => runD 9 (gLGreat (dLGreat n))
noncomputable def gLParts : DEnv → Flow :=
  gSeq (gIf (fT (f2 dEq (fVal (f2 dIx (fBor 0) (fVal (fC (.int 0))))) (fVal (fC (.str "row"))))) (gRetX (fOw (fBlt kList (fBCons (fVal (f2 dIx (fBor 0) (fVal (fC (.int 1))))) (fBNil))))) (gNone))
    (gRetX (fIteX (fT (f2 dEq (fVal (f2 dIx (fBor 0) (fVal (fC (.int 0))))) (fVal (fC (.str "again"))))) (fOw (fLst (fCons (f2 dIx (fBor 0) (fVal (fC (.int 2)))) (fNil)))) (fIteX (fT (f2 dEq (fVal (f2 dIx (fBor 0) (fVal (fC (.int 0))))) (fVal (fC (.str "wrap"))))) (fOw (fLst (fCons (f2 dIx (fBor 0) (fVal (fC (.int 3)))) (fNil)))) (fOw (fLst (fNil))))))
noncomputable def dLParts : List Slot → FR := runD 1 (gLParts)
noncomputable def gLIsWord : DEnv → Flow :=
  gSeq (gIf (fOr (fNot (fTr (fVal (fIsi "tuple" (fBor 1))))) (fT (f2 (dOrd fun i j => decide (j < i)) (fVal (fBlt kLen (fBCons (fBor 1) (fBNil)))) (fVal (fC (.int 60)))))) (gRet false (fC (.bool false))) (gNone))
    (gSeq (gIf (fT (f2 dNe (fVal (fLc (fWalk (fBor 1)) [3] (bName 3) (fOr (fNot (fTr (fVal (fIsi "str" (fBor 3))))) (fT (f2 dNotInA (fBor 3) (fVal (fCall dLOrder [] (aVar 0 (aNil))))))) (fVar 3))) (fVal (fLst (fNil))))) (gRet false (fC (.bool false))) (gNone))
    (gSeq (gSet 2 (fCall dLAnswers [] (aVar 0 (aVal (fBlt kList (fBCons (fBor 1) (fBNil))) (aNil)))))
    (gRet false (f2 dEq (fVal (fLc (fSrcB zipOf (fBCons (fBor 1) (fBCons (fBor 2) (fBNil)))) [3, 4] (bTup (bsCons (bName 3) (bsCons (bName 4) (bsNil)))) (fAnd (fT (f2 dNotInA (fBor 3) (fVal (f2 dIx (fBor 0) (fVal (fC (.int 1))))))) (fT (f2 dIsN (fBor 4) (fVal (fC .none))))) (fVar 3))) (fVal (fLst (fNil)))))))
noncomputable def dLIsWord : List Slot → FR := runD 5 (gLIsWord)
noncomputable def gLIsIt : DEnv → Flow :=
  gSeq (gIf (fOr (fNot (fTr (fVal (fIsi "tuple" (fBor 1))))) (fOr (fT (f2 (dOrd fun i j => decide (i < j)) (fVal (fBlt kLen (fBCons (fBor 1) (fBNil)))) (fVal (fC (.int 2))))) (fNot (fTr (fVal (fIsi "str" (fVal (f2 dIx (fBor 1) (fVal (fC (.int 0))))))))))) (gRet false (fC (.bool false))) (gNone))
    (gSeq (gIf (fT (f2 dEq (fVal (f2 dIx (fBor 1) (fVal (fC (.int 0))))) (fVal (fC (.str "word"))))) (gRet false (fAndV (f2 dEq (fVal (fBlt kLen (fBCons (fBor 1) (fBNil)))) (fVal (fC (.int 2)))) (fCall dLIsWord [] (aVar 0 (aVal (f2 dIx (fBor 1) (fVal (fC (.int 1)))) (aNil)))))) (gNone))
    (gSeq (gIf (fT (f2 dEq (fVal (f2 dIx (fBor 1) (fVal (fC (.int 0))))) (fVal (fC (.str "row"))))) (gRet false (fAndV (f2 dEq (fVal (fBlt kLen (fBCons (fBor 1) (fBNil)))) (fVal (fC (.int 2)))) (fAndV (fIsi "tuple" (fVal (f2 dIx (fBor 1) (fVal (fC (.int 1)))))) (f2 (dOrd fun i j => decide (i < j)) (fVal (fBlt kLen (fBCons (fVal (f2 dIx (fBor 1) (fVal (fC (.int 1))))) (fBNil)))) (fVal (fC (.int 9))))))) (gNone))
    (gSeq (gIf (fT (f2 dEq (fVal (f2 dIx (fBor 1) (fVal (fC (.int 0))))) (fVal (fC (.str "again"))))) (gRet false (fAndV (f2 dEq (fVal (fBlt kLen (fBCons (fBor 1) (fBNil)))) (fVal (fC (.int 3)))) (fCall dLWhole [] (aVal (f2 dIx (fBor 1) (fVal (fC (.int 1)))) (aVal (f2 dAdd (fVal (f2 dPow (fVal (fC (.int 10))) (fVal (fC (.int 60))))) (fVal (fC (.int 1)))) (aNil)))))) (gNone))
    (gSeq (gIf (fOr (fT (f2 dNe (fVal (f2 dIx (fBor 1) (fVal (fC (.int 0))))) (fVal (fC (.str "wrap"))))) (fOr (fT (f2 dNe (fVal (fBlt kLen (fBCons (fBor 1) (fBNil)))) (fVal (fC (.int 5))))) (fNot (fTr (fVal (fCall dLWhole [] (aVal (f2 dIx (fBor 1) (fVal (fC (.int 1)))) (aVal (f2 dAdd (fVal (f2 dPow (fVal (fC (.int 10))) (fVal (fC (.int 60))))) (fVal (fC (.int 1)))) (aNil))))))))) (gRet false (fC (.bool false))) (gNone))
    (gSeq (gIf (fOr (fNot (fTr (fVal (fIsi "str" (fVal (f2 dIx (fBor 1) (fVal (fC (.int 2))))))))) (fNot (fTr (fVal (fIsi "str" (fVal (f2 dIx (fBor 1) (fVal (fC (.int 4)))))))))) (gRet false (fC (.bool false))) (gNone))
    (gRet false (fAndV (f2 dInA (fVal (f2 dIx (fBor 1) (fVal (fC (.int 2))))) (fVal (f2 dIx (fBor 0) (fVal (fC (.int 0)))))) (f2 dInA (fVal (f2 dIx (fBor 1) (fVal (fC (.int 4))))) (fVal (f2 dIx (fBor 0) (fVal (fC (.int 2)))))))))))))
noncomputable def dLIsIt : List Slot → FR := runD 2 (gLIsIt)
noncomputable def gLDue : DEnv → Flow :=
  gSeq (gSet 2 (fLst (fCons (fVar 1) (fNil))))
    (gSeq (gSet 3 (fC (.int 0)))
    (gSeq (gFor (bName 4) (fSrc rng1 (fCons (fC (.int 10)) (fNil))) (gSeq (gIf (fNot (fTr (fVal (fBlt kAll (fBCons (fVal (fLc (fWalk (fBor 2)) [5] (bName 5) (fYes) (fCall dLIsIt [] (aVar 0 (aVar 5 (aNil)))))) (fBNil)))))) (gRet false (fC (.bool false))) (gNone))
    (gSeq (gSet 3 (f2 dAdd (fBor 3) (fVal (fBlt kLen (fBCons (fBor 2) (fBNil))))))
    (gSeq (gSetX 6 (fOw (fLst (fNil))))
    (gSeq (gFor (bName 5) (fWalk (fBor 2)) (gExpr (fMut "list" 6 kExtend (fCons (fCall dLParts [] (aVar 5 (aNil))) (fNil)))))
    (gSet 2 (fVar 6)))))))
    (gRet false (fAndV (f2 dEq (fBor 2) (fVal (fLst (fNil)))) (f2 (dOrd fun i j => decide (i < j)) (fBor 3) (fVal (fC (.int 41))))))))
noncomputable def dLDue : List Slot → FR := runD 7 (gLDue)
noncomputable def gLOddWords : DEnv → Flow :=
  gSeq (gSet 2 (f2 dIx (fVal (f2 dIx (fBor 1) (fVal (fC (.int 0))))) (fVal (fCall dLPick [] (aIo 0 (aVal (fBlt kLen (fBCons (fVal (f2 dIx (fBor 1) (fVal (fC (.int 0))))) (fBNil))) (aNil)))))))
    (gSeq (gSet 3 (f2 dIx (fVal (f2 dIx (fBor 1) (fVal (fC (.int 2))))) (fVal (fCall dLPick [] (aIo 0 (aVal (fBlt kLen (fBCons (fVal (f2 dIx (fBor 1) (fVal (fC (.int 2))))) (fBNil))) (aNil)))))))
    (gSeq (gSet 4 (fLst (fCons (fTup (fCons (fVar 2) (fNil))) (fCons (fTup (fCons (fVar 3) (fCons (fVar 2) (fNil)))) (fCons (fTup (fCons (fVar 2) (fCons (fVar 3) (fCons (fVar 3) (fNil))))) (fCons (fTup (fCons (fC (.str "Z")) (fNil))) (fCons (fTup (fCons (fVar 2) (fCons (fC (.str "")) (fCons (fVar 3) (fNil))))) (fCons (f2 dMul (fVal (fTup (fCons (fVar 2) (fCons (fVar 3) (fNil))))) (fVal (fC (.int 30)))) (fCons (f2 dMul (fVal (fTup (fCons (fVar 2) (fCons (fVar 3) (fNil))))) (fVal (fC (.int 31)))) (fCons (fLst (fCons (fVar 2) (fCons (fVar 3) (fNil)))) (fCons (fC (.str "")) (fCons (fC .none) (fCons (fTup (fCons (fVar 2) (fCons (fC (.int 1)) (fCons (fVar 3) (fNil))))) (fNil))))))))))))))
    (gSeq (gSet 4 (f2 dAdd (fBor 4) (fVal (fLst (fCons (fTup (fCons (fVar 2) (fCons (fVar 2) (fCons (fVar 3) (fCons (fVar 3) (fNil)))))) (fCons (f2 dAdd (fVal (f2 dMul (fVal (fTup (fCons (fVar 2) (fNil)))) (fVal (fC (.int 30))))) (fVal (f2 dMul (fVal (fTup (fCons (fVar 3) (fNil)))) (fVal (fC (.int 30)))))) (fCons (fTup (fCons (fC (.int 1)) (fNil))) (fCons (fTup (fCons (fTup (fCons (fVar 2) (fCons (fVar 3) (fNil)))) (fNil))) (fCons (fVar 2) (fCons (fTup (fCons (fLst (fNil)) (fNil))) (fCons (fTup (fCons (fLst (fCons (fVar 2) (fNil))) (fCons (fVar 3) (fNil)))) (fCons (fLst (fNil)) (fCons (fTup (fCons (fC .none) (fCons (fVar 3) (fNil)))) (fNil))))))))))))))
    (gSeq (gSet 4 (f2 dAdd (fBor 4) (fVal (fLst (fCons (f2 dAdd (fVal (f2 dMul (fVal (fTup (fCons (fVar 2) (fCons (fVar 3) (fNil))))) (fVal (fC (.int 30))))) (fVal (fSl (fVal (f2 dIx (fBor 1) (fVal (fC (.int 1))))) (fNoP) (fPart (fC (.int 1)))))) (fCons (f2 dAdd (fVal (f2 dMul (fVal (fTup (fCons (fVar 2) (fCons (fVar 3) (fNil))))) (fVal (fC (.int 29))))) (fVal (f2 dMul (fVal (fSl (fVal (f2 dIx (fBor 1) (fVal (fC (.int 1))))) (fNoP) (fPart (fC (.int 1))))) (fVal (fC (.int 2)))))) (fCons (f2 dAdd (fVal (f2 dMul (fVal (fTup (fCons (fVar 2) (fCons (fVar 3) (fNil))))) (fVal (fC (.int 29))))) (fVal (fSl (fVal (f2 dIx (fBor 1) (fVal (fC (.int 1))))) (fNoP) (fPart (fC (.int 1)))))) (fNil))))))))
    (gRet false (fTup (fCons (fC (.str "word")) (fCons (f2 dIx (fBor 4) (fVal (fCall dLPick [] (aIo 0 (aVal (fBlt kLen (fBCons (fBor 4) (fBNil))) (aNil)))))) (fNil)))))))))
noncomputable def dLOddWords : List Slot → FR := runD 5 (gLOddWords)
noncomputable def gLBent (R : List Slot → FR) : DEnv → Flow :=
  gSeq (gSet 3 (f2 dIx (fBor 2) (fVal (fC (.int 0)))))
    (gSeq (gIf (fAnd (fT (f2 dEq (fBor 3) (fVal (fC (.str "row"))))) (fAnd (fT (f2 dNe (fVal (f2 dIx (fBor 2) (fVal (fC (.int 1))))) (fVal (fTup (fNil))))) (fT (f2 (dOrd fun i j => decide (j < i)) (fVal (fCall dLPick [] (aIo 0 (aVal (fC (.int 3)) (aNil))))) (fVal (fC (.int 0))))))) (gSeq (gSet 4 (fCall dLPick [] (aIo 0 (aVal (fBlt kLen (fBCons (fVal (f2 dIx (fBor 2) (fVal (fC (.int 1))))) (fBNil))) (aNil)))))
    (gRet false (fTup (fCons (fC (.str "row")) (fCons (f2 dAdd (fVal (f2 dAdd (fVal (fSl (fVal (f2 dIx (fBor 2) (fVal (fC (.int 1))))) (fNoP) (fPart (fVar 4)))) (fVal (fTup (fCons (fCall R [] (aIo 0 (aVar 1 (aVal (f2 dIx (fVal (f2 dIx (fBor 2) (fVal (fC (.int 1))))) (fBor 4)) (aNil))))) (fNil)))))) (fVal (fSl (fVal (f2 dIx (fBor 2) (fVal (fC (.int 1))))) (fPart (f2 dAdd (fBor 4) (fVal (fC (.int 1))))) (fNoP)))) (fNil)))))) (gNone))
    (gSeq (gIf (fAnd (fT (f2 dEq (fBor 3) (fVal (fC (.str "again"))))) (fT (f2 dEq (fVal (fCall dLPick [] (aIo 0 (aVal (fC (.int 2)) (aNil))))) (fVal (fC (.int 0)))))) (gRet false (f2 dAdd (fVal (fSl (fBor 2) (fNoP) (fPart (fC (.int 2))))) (fVal (fTup (fCons (fCall R [] (aIo 0 (aVar 1 (aVal (f2 dIx (fBor 2) (fVal (fC (.int 2)))) (aNil))))) (fNil)))))) (gNone))
    (gSeq (gIf (fAnd (fT (f2 dEq (fBor 3) (fVal (fC (.str "wrap"))))) (fT (f2 dEq (fVal (fCall dLPick [] (aIo 0 (aVal (fC (.int 2)) (aNil))))) (fVal (fC (.int 0)))))) (gRet false (f2 dAdd (fVal (fSl (fBor 2) (fNoP) (fPart (fC (.int 3))))) (fVal (fTup (fCons (fCall R [] (aIo 0 (aVar 1 (aVal (f2 dIx (fBor 2) (fVal (fC (.int 3)))) (aNil))))) (fCons (f2 dIx (fBor 2) (fVal (fC (.int 4)))) (fNil))))))) (gNone))
    (gSeq (gSet 5 (fCall dLPick [] (aIo 0 (aVal (fC (.int 7)) (aNil)))))
    (gSeq (gIf (fT (f2 dEq (fBor 5) (fVal (fC (.int 0))))) (gRetX (fCallX dLOddWords [] (aIo 0 (aVar 1 (aNil))))) (gNone))
    (gSeq (gIf (fT (f2 dEq (fBor 5) (fVal (fC (.int 1))))) (gRet false (f2 dAdd (fVal (fTup (fCons (f2 dIx (fVal (fLst (fCons (fC (.str "word")) (fCons (fC (.str "row")) (fCons (fC (.str "again")) (fCons (fC (.str "wrap")) (fCons (fC (.str "wraps")) (fCons (fC (.int 0)) (fCons (fC .none) (fCons (fLst (fNil)) (fCons (fLst (fCons (fC (.str "row")) (fNil))) (fNil)))))))))))) (fVal (fCall dLPick [] (aIo 0 (aVal (fC (.int 9)) (aNil)))))) (fNil)))) (fVal (fSl (fBor 2) (fPart (fC (.int 1))) (fNoP))))) (gNone))
    (gSeq (gIf (fT (f2 dEq (fBor 5) (fVal (fC (.int 2))))) (gRet false (f2 dAdd (fBor 2) (fVal (fTup (fCons (f2 dIx (fBor 2) (fVal (fNeg (fVal (fC (.int 1)))))) (fNil)))))) (gNone))
    (gSeq (gIf (fT (f2 dEq (fBor 5) (fVal (fC (.int 3))))) (gRet false (fSl (fBor 2) (fNoP) (fPart (fNeg (fVal (fC (.int 1))))))) (gNone))
    (gSeq (gIf (fT (f2 dEq (fBor 5) (fVal (fC (.int 4))))) (gRetX (fOw (fBlt kList (fBCons (fBor 2) (fBNil))))) (gNone))
    (gSeq (gSet 4 (f2 dAdd (fVal (fC (.int 1))) (fVal (fCall dLPick [] (aIo 0 (aVal (f2 dSub (fVal (fBlt kLen (fBCons (fBor 2) (fBNil)))) (fVal (fC (.int 1)))) (aNil)))))))
    (gSeq (gSet 6 (fLst (fCons (f2 dPow (fVal (fC (.int 10))) (fVal (fC (.int 60)))) (fCons (f2 dAdd (fVal (f2 dPow (fVal (fC (.int 10))) (fVal (fC (.int 60))))) (fVal (fC (.int 1)))) (fCons (fNeg (fVal (fC (.int 1)))) (fCons (fC (.bool true)) (fCons (fC (.str "2")) (fCons (fC .none) (fCons (fTup (fNil)) (fCons (fLst (fNil)) (fCons (f2 dIx (fVal (f2 dIx (fBor 1) (fVal (fC (.int 0))))) (fVal (fNeg (fVal (fC (.int 1)))))) (fCons (f2 dIx (fVal (f2 dIx (fBor 1) (fVal (fC (.int 2))))) (fVal (fC (.int 0)))) (fCons (fC (.str "Z")) (fCons (fVar 2) (fCons (fTup (fCons (fC (.str "row")) (fCons (fTup (fNil)) (fNil)))) (fNil))))))))))))))))
    (gSeq (gSet 6 (f2 dAdd (fBor 6) (fVal (fLst (fCons (f2 dMul (fVal (fTup (fCons (fTup (fCons (fC (.str "word")) (fCons (fTup (fNil)) (fNil)))) (fNil)))) (fVal (fC (.int 8)))) (fCons (f2 dMul (fVal (fTup (fCons (fTup (fCons (fC (.str "word")) (fCons (fTup (fNil)) (fNil)))) (fNil)))) (fVal (fC (.int 9)))) (fCons (fLst (fCons (fTup (fCons (fC (.str "word")) (fCons (fTup (fNil)) (fNil)))) (fNil))) (fCons (fLst (fCons (f2 dIx (fVal (f2 dIx (fBor 1) (fVal (fC (.int 0))))) (fVal (fC (.int 0)))) (fNil))) (fNil)))))))))
    (gSeq (gSet 6 (f2 dAdd (fBor 6) (fVal (fBlt kList (fBCons (fVal (fSl (fVal (f2 dIx (fBor 1) (fVal (fC (.int 1))))) (fNoP) (fPart (fC (.int 1))))) (fBNil))))))
    (gRet false (f2 dAdd (fVal (f2 dAdd (fVal (fSl (fBor 2) (fNoP) (fPart (fVar 4)))) (fVal (fTup (fCons (f2 dIx (fBor 6) (fVal (fCall dLPick [] (aIo 0 (aVal (fBlt kLen (fBCons (fBor 6) (fBNil))) (aNil)))))) (fNil)))))) (fVal (fSl (fBor 2) (fPart (f2 dAdd (fBor 4) (fVal (fC (.int 1))))) (fNoP))))))))))))))))))
noncomputable def dLBent : Nat → List Slot → FR
  | 0 => runD 7 gBad
  | n + 1 => runD 7 (gLBent (dLBent n))
noncomputable def gLAtBounds : DEnv → Flow :=
  gSeq (gSet 2 (fTup (fCons (fC (.str "word")) (fCons (fTup (fCons (f2 dIx (fVal (f2 dIx (fBor 1) (fVal (fC (.int 0))))) (fVal (fC (.int 0)))) (fCons (f2 dIx (fVal (f2 dIx (fBor 1) (fVal (fC (.int 2))))) (fVal (fC (.int 0)))) (fNil)))) (fNil)))))
    (gSeq (gSetX 3 (fOw (fLst (fNil))))
    (gSeq (gFor (bName 4) (fWalk (fVal (fLst (fCons (fC (.int 9)) (fCons (fC (.int 10)) (fNil)))))) (gSeq (gSet 5 (fVar 2))
    (gSeq (gFor (bName 6) (fSrc rng1 (fCons (fVar 4) (fNil))) (gSeq (gSet 7 (fLst (fCons (fTup (fCons (fC (.str "row")) (fCons (fTup (fCons (fVar 5) (fNil))) (fNil)))) (fCons (fTup (fCons (fC (.str "again")) (fCons (fVar 6) (fCons (fVar 5) (fNil))))) (fCons (fTup (fCons (fC (.str "wrap")) (fCons (f2 dSub (fVal (f2 dPow (fVal (fC (.int 10))) (fVal (fC (.int 60))))) (fBor 6)) (fCons (f2 dIx (fVal (f2 dIx (fBor 1) (fVal (fC (.int 0))))) (fVal (fNeg (fVal (fC (.int 1)))))) (fCons (fVar 5) (fCons (f2 dIx (fVal (f2 dIx (fBor 1) (fVal (fC (.int 2))))) (fVal (fNeg (fVal (fC (.int 1)))))) (fNil))))))) (fNil))))))
    (gSet 5 (f2 dIx (fBor 7) (fVal (fCall dLPick [] (aIo 0 (aVal (fC (.int 3)) (aNil)))))))))
    (gExpr (fMut "list" 3 kAppend (fCons (fVar 5) (fNil)))))))
    (gSeq (gSet 8 (fTup (fCons (fC (.str "row")) (fCons (f2 dMul (fVal (fTup (fCons (fVar 2) (fNil)))) (fVal (fC (.int 4)))) (fNil)))))
    (gSeq (gExpr (fMut "list" 3 kAppend (fCons (fTup (fCons (fC (.str "row")) (fCons (f2 dAdd (fVal (f2 dMul (fVal (fTup (fCons (fVar 8) (fNil)))) (fVal (fC (.int 7))))) (fVal (fTup (fCons (fTup (fCons (fC (.str "row")) (fCons (f2 dMul (fVal (fTup (fCons (fVar 2) (fNil)))) (fVal (fC (.int 3)))) (fNil)))) (fNil))))) (fNil)))) (fNil))))
    (gSeq (gExpr (fMut "list" 3 kAppend (fCons (fTup (fCons (fC (.str "row")) (fCons (f2 dMul (fVal (fTup (fCons (fVar 8) (fNil)))) (fVal (fC (.int 8)))) (fNil)))) (fNil))))
    (gRetX (fMoveX 3)))))))
noncomputable def dLAtBounds : List Slot → FR := runD 9 (gLAtBounds)
end Dl
set_option Elab.async false
set_option linter.all false
set_option maxRecDepth 100000
set_option maxHeartbeats 4000000
namespace Dl
open PySem PySem.Spec PyProof.Rows L2 Evl Gx GxR RZ Eh
theorem blend_to (c a : Int) (ha : 0 ≤ a) : (dLBlend [.shr (.int c), .shr (.int a)]).to (k := ⟨fun fr d o => fr = false ∧ o = [.shr (.int c), .shr (.int a)] ∧ ∃ v : Int, d = .int v ∧ 0 ≤ v, noE⟩) := by
  unfold dLBlend gLBlend
  rw [runD_to]
  simp -dsimp -implicitDefEqProofs
  refine Cnd_of (fun h => ?_) (fun h => ?_)
  · simp -dsimp -implicitDefEqProofs
    rw [decide_eq_true_eq] at h
    omega
  · simp -dsimp -implicitDefEqProofs [mod_lo, mod_hi]
    have h1 := Int.emod_nonneg ((c % 998244353 * 40692 + a * 69621 + 1009)) (show (2147483399 : Int) ≠ 0 by decide)
    generalize (c % 998244353 * 40692 + a * 69621 + 1009) % 2147483399 = one at h1 ⊢
    have h2 := Int.emod_nonneg (one * one + a * 48271 + c % 131071) (show (2147483647 : Int) ≠ 0 by decide)
    generalize (one * one + a * 48271 + c % 131071) % 2147483647 = two at h2 ⊢
    have h3 := Int.emod_nonneg (two * two + one * 17 + 3) (show (2147483629 : Int) ≠ 0 by decide)
    generalize (two * two + one * 17 + 3) % 2147483629 = three at h3 ⊢
    omega
def PotOk (p : PyData) : Prop := ∃ (ns : List Int) (a r : Int), p = .list [.list (ns.map .int), .int a, .int r] ∧ 0 ≤ a ∧ 0 ≤ r ∧ ns.length ≤ 12
theorem pick_to {p : PyData} {m : Int} (hp : PotOk p) (hm : 0 < m) (hb : m.natAbs.log2 < 9000) : (dLPick [.io 0 p, .shr (.int m)]).to (k := ⟨fun fr d o => fr = false ∧ ∃ v p', d = .int v ∧ 0 ≤ v ∧ v < m ∧ PotOk p' ∧ o = [.io 0 p', .shr (.int m)], noE⟩) := by
  obtain ⟨ns, a, r, rfl, ha, hr, hl⟩ := hp
  unfold dLPick gLPick
  rw [runD_to]
  simp -dsimp -implicitDefEqProofs [atI, ixN]
  refine Cnd_mid (fun e => ∃ (a' r' : Int) (x2 x3 : Option Slot), e = [some (.io 0 (.list [.list (ns.map .int), .int a', .int r'])), some (.shr (.int m)), x2, x3, none] ∧ 0 ≤ a' ∧ 0 ≤ r') (fun h => ?_) (fun h => ?_) ?_
  · simp -dsimp -implicitDefEqProofs [atI, ixN]
    refine Cnd_mid (fun e => ∃ y : Int, e = [some (.io 0 (.list [.list (ns.map .int), .int a, .int r])), some (.shr (.int m)), some (.shr (.int a)), some (.shr (.int y)), none]) (fun h => ?_) (fun h => ?_) ?_
    · rw [decide_eq_true_eq] at h
      obtain ⟨d, h1, h2, h3⟩ := at_int (l := ns.map PyData.int) ha (by simpa using h)
      obtain ⟨v, hv, rfl⟩ := List.mem_map.mp h2
      simp -dsimp -implicitDefEqProofs [h1]
    · have hs : SeqAt.shaped (.list (ns.map .int)) = true := by
        refine Fi.sh (k := 1) (fi_list.mpr fun d hd => ?_) (by decide)
        obtain ⟨v, hv, rfl⟩ := List.mem_map.mp hd
        exact fi_int
      simp -dsimp -implicitDefEqProofs [ne_sh hs sh_nilL]
      cases ns with
      | nil => simp -dsimp -implicitDefEqProofs
      | cons n r =>
        have hl : (0 : Int) < (r.length : Int) + 1 := by omega
        obtain ⟨d, h1, h2, h3⟩ := at_int (l := PyData.int n :: List.map PyData.int r) (Int.emod_nonneg (a * 7 + 1) (show (r.length : Int) + 1 ≠ 0 by omega)) (by
          have := Int.emod_lt_of_pos (a * 7 + 1) hl
          simpa using this)
        obtain ⟨v, rfl⟩ : ∃ v, d = .int v := by
          rcases List.mem_cons.mp h2 with z | z
          · exact ⟨n, z⟩
          · obtain ⟨v, _, rfl⟩ := List.mem_map.mp z
            exact ⟨v, rfl⟩
        have hq : (0 : Int) < 100000000000000000 + 3 * a := by omega
        simp -dsimp -implicitDefEqProofs [hl, h1, hq]
    · rintro e ⟨y, rfl⟩
      simp -dsimp -implicitDefEqProofs [ixN]
      refine call_to (blend_to y a ha) fun fr d o hh => ?_
      obtain ⟨rfl, rfl, v, rfl, hv⟩ := hh
      simp -dsimp -implicitDefEqProofs [ixN]
      exact ⟨a + 1, v, ⟨rfl, rfl⟩, by omega, hv⟩
  · simp -dsimp -implicitDefEqProofs
    exact ⟨a, r, ⟨rfl, rfl⟩, ha, hr⟩
  · rintro e ⟨a', r', x2, x3, rfl, ha', hr'⟩
    simp -dsimp -implicitDefEqProofs [atI, ixN, hm, hb]
    refine ⟨Int.emod_nonneg _ (by omega), Int.emod_lt_of_pos _ hm, ns, a', r' / m, rfl, ha', Int.ediv_nonneg hr' (by omega), hl⟩
theorem pick_c {p : PyData} {m : Int} {P : Bool → PyData → List Slot → Prop} {E : ExD → List Slot → Prop} (hp : PotOk p) (hm : 0 < m) (hb : m.natAbs.log2 < 9000) (k : ∀ (v : Nat) p', (v : Int) < m → PotOk p' → P false (.int (v : Int)) [.io 0 p', .shr (.int m)]) : (dLPick [.io 0 p, .shr (.int m)]).to (k := ⟨P, E⟩) := by
  refine call_to (pick_to hp hm hb) fun fr d o hh => ?_
  obtain ⟨rfl, v, p', rfl, h0, h1, hp', rfl⟩ := hh
  obtain ⟨n, rfl⟩ := Int.eq_ofNat_of_zero_le h0
  exact k n p' h1 hp'
theorem rng_ok {n : Nat} (h : n ≤ 1000000) : rng1 [.int (n : Int)] = some (rngItems 0 n) := by
  rw [rng_1 (by omega) (by omega), Int.toNat_natCast]
theorem rng_ok' {j : Int} {n : Nat} (e : j = (n : Int)) (h : n ≤ 1000000) : rng1 [.int j] = some (rngItems 0 n) := by
  rw [e]
  exact rng_ok h
theorem strs1 (ds : List Nat) : strsOf (ds.map fun d => PyData.str ⟨#[d]⟩) = some (ds.map fun d => (⟨#[d]⟩ : Str)) := by
  have := strsOf_map (ds.map fun d => (⟨#[d]⟩ : Str))
  rw [List.map_map] at this
  exact this
theorem lc_go {vs : List Nat} {B : Bd} {T : DEnv → R Bool} {F : DEnv → R PyData} {ds : List PyData} {env : DEnv} {Q : List PyData → DEnv → Prop} {E : ExD → DEnv → Prop} (I : Nat → List PyData → DEnv → Prop) (hl : ds.length ≤ 1000000) (h0 : I 0 [] env)
    (hs : ∀ i d acc e, ds[i]? = some d → I i acc e → OT (B d e) (k := ⟨fun e1 => (T e1).to (k := ⟨(fun b e2 => Cnd b (k := ⟨((F e2).to (k := ⟨(fun r e3 => I (i + 1) (acc ++ [r]) (wipeE e3 vs)), noE⟩)), (I (i + 1) acc (wipeE e2 vs))⟩)), noE⟩)⟩))
    (hend : ∀ acc e, I ds.length acc e → Q acc e) : (lcF vs B T F ds [] env).to (k := ⟨Q, E⟩) := to_mono (lc_to I (sl_of hl) h0 hs hend) (fun _ _ h => h) (fun _ _ z => z.elim)
@[simp] theorem div_2 {i : Int} : dDiv (.int i) (.int 2) = some (.int (i / 2)) := div_int (by decide) (by decide)
theorem alpha_ix {v : Nat} (h : v < 26) : dIx (.str (Str.ofString "abcdefghijklmnopqrstuvwxyz")) (.int (v : Int)) = some (.str ⟨#[97 + v]⟩) := by
  rw [ix_s (by decide), alpha_at h]
  rfl
theorem join1 {ds : List Nat} (h : ds.length ≤ 1000) : dJoin (.str (Str.ofString "")) (.list (ds.map fun d => PyData.str ⟨#[d]⟩)) = some (.str (Txt.join (Str.ofString "") (ds.map fun d => (⟨#[d]⟩ : Str)))) := by
  show (strsOf _).bind _ = _
  rw [strs1]
  refine if_pos ?_
  rw [List.length_map, List.map_map]
  have e : ∀ l : List Nat, (l.map (((fun x : Str => x.length)) ∘ fun d => (⟨#[d]⟩ : Str))).sum = l.length := fun l => by
    induction l with
    | nil => rfl
    | cons x r ih =>
      rw [List.map_cons, List.sum_cons, ih, List.length_cons]
      show 1 + _ = _
      omega
  rw [e]
  show ds.length + ds.length * 0 ≤ _
  omega
theorem letters_c {p : PyData} {n : Nat} {P : Bool → PyData → List Slot → Prop} {E : ExD → List Slot → Prop} (hp : PotOk p) (hn : n ≤ 26) (k : ∀ (ws : List Str) p', ws.length = n → ws.Nodup → (∀ x ∈ ws, Ltr x) → PotOk p' → P true (.list (ws.map .str)) [.io 0 p', .shr (.int (n : Int))]) : (dLLetters [.io 0 p, .shr (.int (n : Int))]).to (k := ⟨P, E⟩) := by
  unfold dLLetters gLLetters
  rw [runD_to]
  simp -dsimp -implicitDefEqProofs
  rw [show rng1 [.int 7] = some (rngItems 0 7) from rng_ok (n := 7) (by decide)]
  simp -dsimp -implicitDefEqProofs
  refine lc_go (fun i acc e => ∃ (ds : List Nat) (p' : PyData), acc = ds.map (fun d => PyData.str ⟨#[d]⟩) ∧ ds.length = i ∧ (∀ d ∈ ds, az d) ∧ PotOk p' ∧ e = [some (Slot.io 0 p'), some (Slot.shr (PyData.int ↑n)), some (Slot.shr (PyData.str (Str.ofString "abcdefghijklmnopqrstuvwxyz"))), none, none, none, none, none, none, none, none]) (by decide) ⟨[], p, rfl, rfl, fun d h => (List.not_mem_nil h).elim, hp, rfl⟩ ?_ ?_
  · rintro i d acc e hd ⟨ds, p', rfl, hl, haz, hp', rfl⟩
    simp -dsimp -implicitDefEqProofs
    refine pick_c hp' (by decide) (by decide) fun v p2 hv hp2 => ?_
    simp -dsimp -implicitDefEqProofs [alpha_ix (show v < 26 by omega)]
    refine ⟨ds ++ [97 + v], ?_, ?_, ?_, hp2⟩
    · rw [List.map_append]
      rfl
    · rw [List.length_append, hl]
      rfl
    · intro d hd
      rcases List.mem_append.mp hd with z | z
      · exact haz d z
      · rw [List.mem_singleton.mp z]
        unfold az
        omega
  · rintro acc e ⟨ds, p', rfl, hl, haz, hp', rfl⟩
    simp -dsimp -implicitDefEqProofs [join1 (show ds.length ≤ 1000 by rw [hl]; decide)]
    generalize hr : Txt.join (Str.ofString "") (ds.map fun d => (⟨#[d]⟩ : Str)) = rest
    have cR : cs rest = ds := by rw [← hr]; exact cs_join ds
    refine pick_c hp' (by decide) (by decide) fun spot p2 hspot hp2 => ?_
    simp -dsimp -implicitDefEqProofs
    refine pick_c hp2 (by decide) (by decide) fun turn p3 hturn hp3 => ?_
    simp -dsimp -implicitDefEqProofs
    refine pick_c hp3 (by decide) (by decide) fun size p4 hsize hp4 => ?_
    simp -dsimp -implicitDefEqProofs [rng_ok (show n ≤ 1000000 by omega)]
    refine for_ok0 (fun i e => ∃ (x3 x9 x10 : Option Slot), e = [some (Slot.io 0 p4), some (Slot.shr (PyData.int ↑n)), some (Slot.shr (PyData.str (Str.ofString "abcdefghijklmnopqrstuvwxyz"))), x3, some (Slot.shr (PyData.str rest)), some (Slot.shr (PyData.int ↑spot)), some (Slot.shr (PyData.int ↑turn)), some (Slot.shr (PyData.int ↑size)), some (Slot.own (PyData.list ((mkAll (cs rest) spot turn size i).map .str))), x9, x10]) ⟨_, _, _, rfl⟩ ?_ ?_
    · rintro i d e hd ⟨x3, x9, x10, rfl⟩
      obtain ⟨rfl, hi⟩ := rng_get hd
      have lr : rest.length = 7 := by rw [len_cs, cR, hl]; rfl
      have e1 : ((size : Int) + (i : Int) * ((spot : Int) % 2)) % 8 = (((size + i * (spot % 2)) % 8 : Nat) : Int) := by norm_cast
      have e2 : ((turn : Int) + 5 * (i : Int)) % 26 = (((turn + 5 * i) % 26 : Nat) : Int) := by norm_cast
      simp -dsimp -implicitDefEqProofs [mod_lo, mod_hi, sl_s, lr]
      rw [e1]
      have cP := cs_cut0 rest ((size + i * (spot % 2)) % 8)
      generalize hpart : cutS rest none (some (((size + i * (spot % 2)) % 8 : Nat) : Int)) = part at cP ⊢
      have lP : part.length ≤ 1000 := by
        rw [len_cs, cP, List.length_take, ← len_cs, lr]
        omega
      have lP2 : part.length ≤ 1000000 := by omega
      have e3 : (part.length : Int) / 2 = ((part.length / 2 : Nat) : Int) := by norm_cast
      have sp : atI [PyData.int 0, .int (part.length : Int), .int ((part.length : Int) / 2)] (spot : Int) = some (.int (spotAt spot part.length : Nat)) := by
        rw [e3]
        rcases (show spot = 0 ∨ spot = 1 ∨ spot = 2 by omega) with rfl | rfl | rfl <;> rfl
      have al := alpha_ix (v := (turn + 5 * i) % 26) (Nat.mod_lt _ (by decide))
      rw [← e2] at al
      have c1 := cs_cut0 part (spotAt spot part.length)
      have c2 := cs_cutF part (spotAt spot part.length)
      have l1 : (cutS part none (some ((spotAt spot part.length : Nat) : Int))).length ≤ 1000 := by
        rw [len_cs, c1, List.length_take, ← len_cs]
        omega
      have l2 : (cutS part (some ((spotAt spot part.length : Nat) : Int)) none).length ≤ 1000 := by
        rw [len_cs, c2, List.length_drop, ← len_cs]
        omega
      have lw : ((mkAll (cs rest) spot turn size i).map PyData.str).length < 1000000 := by
        unfold mkAll
        rw [List.length_map, List.length_map, List.length_range]
        omega
      have lq : ((⟨#[97 + (turn + 5 * i) % 26]⟩ : Str)).length = 1 := rfl
      have s1 : (cutS part none (some ((spotAt spot part.length : Nat) : Int))).length + ((⟨#[97 + (turn + 5 * i) % 26]⟩ : Str)).length ≤ 1000000 := by rw [lq]; omega
      have s2 : (cutS part none (some ((spotAt spot part.length : Nat) : Int)) ++ (⟨#[97 + (turn + 5 * i) % 26]⟩ : Str)).length + (cutS part (some ((spotAt spot part.length : Nat) : Int)) none).length ≤ 1000000 := by
        rw [strLen_append, lq]
        omega
      simp -dsimp -implicitDefEqProofs [len_s lP2, sp, sl_s, lP2, al, add_str s1, add_str s2, append_l lw]
      have e4 : cutS part none (some ((spotAt spot part.length : Nat) : Int)) ++ (⟨#[97 + (turn + 5 * i) % 26]⟩ : Str) ++ cutS part (some ((spotAt spot part.length : Nat) : Int)) none = mkS (cs rest) spot turn size i := by
        apply cs_ext
        rw [cs_app, cs_app, c1, c2, cs_mkS, len_cs, cP, List.append_assoc]
        rfl
      rw [e4]
      unfold mkAll
      rw [List.range_succ, List.map_append, List.map_append]
      rfl
    · rintro e ⟨x3, x9, x10, rfl⟩
      simp -dsimp -implicitDefEqProofs
      exact k _ _ (by unfold mkAll; rw [List.length_map, List.length_range]) (mkAll_nodup (by omega) hn) (mkAll_ltr (by rw [cR]; exact haz)) hp4
/-- a sheet as data -/
def shD (os ps qs : List Str) : PyData := .tuple [.tuple (os.map .str), .tuple (ps.map .str), .tuple (qs.map .str)]
theorem cutM_to (L : List Str) (n : Nat) : cutD (L.map PyData.str) none (some (n : Int)) = (L.take n).map .str := by rw [cut_to, List.map_take]
theorem cutM_from (L : List Str) (n : Nat) : cutD (L.map PyData.str) (some (n : Int)) none = (L.drop n).map .str := by rw [cut_from, List.map_drop]
theorem cutM_nn (L : List Str) (n m : Nat) (h : n ≤ m) : cutD (L.map PyData.str) (some (n : Int)) (some (m : Int)) = ((L.take m).drop n).map .str := by
  rw [cut_nn, List.length_map]
  by_cases hn : n ≤ L.length
  · rw [Nat.min_eq_left hn, List.map_drop, List.map_take, List.drop_take]
    by_cases hm : m ≤ L.length
    · rw [Nat.min_eq_left hm]
    · rw [Nat.min_eq_right (by omega), List.take_of_length_le (by rw [List.length_drop, List.length_map]; omega), List.take_of_length_le (by rw [List.length_drop, List.length_map]; omega)]
  · rw [Nat.min_eq_right (by omega), List.drop_of_length_le (by rw [List.length_map]; omega), List.drop_of_length_le (by rw [List.length_take]; omega)]
    exact List.take_nil
theorem menu1 {v : Nat} (h : v < 5) : ∃ x : Nat, atI [PyData.int 1, .int 1, .int 2, .int 2, .int 4] (v : Int) = some (.int (x : Int)) ∧ 1 ≤ x ∧ x ≤ 4 := by
  rcases (show v = 0 ∨ v = 1 ∨ v = 2 ∨ v = 3 ∨ v = 4 by omega) with rfl | rfl | rfl | rfl | rfl
  · exact ⟨1, rfl, by omega⟩
  · exact ⟨1, rfl, by omega⟩
  · exact ⟨2, rfl, by omega⟩
  · exact ⟨2, rfl, by omega⟩
  · exact ⟨4, rfl, by omega⟩
theorem menu0 {v : Nat} (h : v < 5) : ∃ x : Nat, atI [PyData.int 0, .int 1, .int 1, .int 2, .int 4] (v : Int) = some (.int (x : Int)) ∧ x ≤ 4 := by
  rcases (show v = 0 ∨ v = 1 ∨ v = 2 ∨ v = 3 ∨ v = 4 by omega) with rfl | rfl | rfl | rfl | rfl
  · exact ⟨0, rfl, by omega⟩
  · exact ⟨1, rfl, by omega⟩
  · exact ⟨1, rfl, by omega⟩
  · exact ⟨2, rfl, by omega⟩
  · exact ⟨4, rfl, by omega⟩
theorem minI (m x : Nat) : (if (x : Int) < (m : Int) then (x : Int) else (m : Int)) = ((min m x : Nat) : Int) := by
  split <;> omega
theorem sheet_c {p : PyData} {m : Nat} {P : Bool → PyData → List Slot → Prop} {E : ExD → List Slot → Prop} (hp : PotOk p) (m1 : 1 ≤ m) (m4 : m ≤ 4) (k : ∀ (os ps qs : List Str) p', Sht os ps qs → PotOk p' → P false (shD os ps qs) [.io 0 p', .shr (.int (m : Int))]) : (dLSheet [.io 0 p, .shr (.int (m : Int))]).to (k := ⟨P, E⟩) := by
  unfold dLSheet gLSheet
  rw [runD_to]
  simp -dsimp -implicitDefEqProofs
  refine letters_c (n := 12) hp (by decide) fun ws p1 hlen hnd hlt hp1 => ?_
  simp -dsimp -implicitDefEqProofs
  refine pick_c hp1 (by decide) (by decide) fun turn p2 hturn hp2 => ?_
  simp -dsimp -implicitDefEqProofs
  rw [cutM_from, cutM_to, add_list (by rw [List.length_map, List.length_map, List.length_drop, List.length_take]; omega), ← List.map_append]
  have hLn : (ws.drop turn ++ ws.take turn).length = 12 := by
    rw [List.length_append, List.length_drop, List.length_take]
    omega
  have hLd := rot_nodup turn hnd
  have hLt : ∀ x ∈ ws.drop turn ++ ws.take turn, Ltr x := fun x hx => hlt x (rot_mem hx)
  generalize ws.drop turn ++ ws.take turn = L at hLn hLd hLt ⊢
  have mk : ∀ x : Nat, kMin [.int (m : Int), .int (x : Int)] = some (.int ((min m x : Nat) : Int)) := fun x => by rw [← minI]; rfl
  simp -dsimp -implicitDefEqProofs
  refine pick_c hp2 (by decide) (by decide) fun v3 p3 hv3 hp3 => ?_
  obtain ⟨x, hx, x1, x4⟩ := menu1 (v := v3) (by omega)
  obtain ⟨a, ha, a1, a4⟩ : ∃ a : Nat, kMin [.int (m : Int), .int (x : Int)] = some (.int (a : Int)) ∧ 1 ≤ a ∧ a ≤ 4 := ⟨_, mk x, by omega, by omega⟩
  simp -dsimp -implicitDefEqProofs [hx, ha, -min_i, cutM_to]
  refine pick_c hp3 (by decide) (by decide) fun v4 p4 hv4 hp4 => ?_
  obtain ⟨y, hy, y4⟩ := menu0 (v := v4) (by omega)
  obtain ⟨b, hb, b4⟩ : ∃ b : Nat, kMin [.int (m : Int), .int (y : Int)] = some (.int (b : Int)) ∧ b ≤ 4 := ⟨_, mk y, by omega⟩
  have c4 : cutD (L.map PyData.str) (some 4) (some (4 + (b : Int))) = ((L.take (4 + b)).drop 4).map .str := by
    have := cutM_nn L 4 (4 + b) (by omega)
    rw [Int.natCast_add] at this
    exact this
  simp -dsimp -implicitDefEqProofs [hy, hb, -min_i, c4]
  refine pick_c hp4 (by decide) (by decide) fun v5 p5 hv5 hp5 => ?_
  obtain ⟨z, hz, z1, z4⟩ := menu1 (v := v5) (by omega)
  obtain ⟨d, hd, d1, d4⟩ : ∃ d : Nat, kMin [.int (m : Int), .int (z : Int)] = some (.int (d : Int)) ∧ 1 ≤ d ∧ d ≤ 4 := ⟨_, mk z, by omega, by omega⟩
  have c8 : cutD (L.map PyData.str) (some 8) (some (8 + (d : Int))) = ((L.take (8 + d)).drop 8).map .str := by
    have := cutM_nn L 8 (8 + d) (by omega)
    rw [Int.natCast_add] at this
    exact this
  simp -dsimp -implicitDefEqProofs [hz, hd, -min_i, c8]
  have h := k _ _ _ _ (sht_of hLd hLt hLn a1 a4 b4 d1 d4) hp5
  unfold shD at h
  simpa only [List.map_take, List.map_drop] using h
end Dl
set_option Elab.async false
set_option linter.all false
set_option maxRecDepth 100000
set_option maxHeartbeats 4000000
namespace Eh
open PySem PySem.Spec PyProof.Rows L2 Evl
/-! what answers what: the mathematics -/
inductive Kd | op | pl | cl
deriving DecidableEq
def tv (t : List (Option Nat)) (j : Nat) : Option Nat := t.getD j none
theorem tv_set {t : List (Option Nat)} {a : Nat} {v : Option Nat} (h : a < t.length) (j : Nat) : tv (t.set a v) j = if j = a then v else tv t j := by
  unfold tv
  rw [List.getD_eq_getElem?_getD, List.getD_eq_getElem?_getD, List.getElem?_set]
  by_cases e : j = a
  · subst e
    simp [h]
  · rw [if_neg (fun z => e z.symm), if_neg e]
theorem tv_rep (n j : Nat) : tv (List.replicate n none) j = none := by
  unfold tv
  rw [List.getD_eq_getElem?_getD, List.getElem?_replicate]
  split <;> rfl
theorem tv_get {t : List (Option Nat)} {j : Nat} (h : j < t.length) : t[j]? = some (tv t j) := by
  unfold tv
  rw [List.getD_eq_getElem?_getD, List.getElem?_eq_getElem h]
  rfl
def step (kf : Nat → Kd) (i : Nat) (S : List (Option Nat) × List Nat) : List (Option Nat) × List Nat :=
  match kf i with
  | .op => (S.1, i :: S.2)
  | .pl => S
  | .cl => match S.2 with
    | [] => S
    | b :: r => ((S.1.set b (some i)).set i (some b), r)
def run (kf : Nat → Kd) (n : Nat) : Nat → List (Option Nat) × List Nat
  | 0 => (List.replicate n none, [])
  | i + 1 => step kf i (run kf n i)
structure Good (kf : Nat → Kd) (n i : Nat) (t : List (Option Nat)) (st : List Nat) : Prop where
  len : t.length = n
  srt : st.Pairwise (· > ·)
  bd : ∀ b ∈ st, b < i ∧ kf b = .op ∧ tv t b = none
  opn : ∀ j, j < i → kf j = .op → tv t j = none → j ∈ st
  hi : ∀ j, i ≤ j → tv t j = none
  pr : ∀ j m, tv t j = some m → j < i ∧ m < i ∧ tv t m = some j ∧ ((kf j = .op ∧ kf m = .cl ∧ j < m ∧ ∀ b ∈ st, ¬ (j ≤ b ∧ b ≤ m)) ∨ (kf j = .cl ∧ kf m = .op ∧ m < j ∧ ∀ b ∈ st, ¬ (m ≤ b ∧ b ≤ j)))
theorem good_run (kf : Nat → Kd) (n : Nat) : ∀ i, i ≤ n → Good kf n i (run kf n i).1 (run kf n i).2
  | 0, _ => by
    refine ⟨List.length_replicate, List.Pairwise.nil, fun b hb => (List.not_mem_nil hb).elim, fun j hj => absurd hj (Nat.not_lt_zero j), fun j _ => tv_rep n j, fun j m h => ?_⟩
    have := tv_rep n j
    rw [show (run kf n 0).1 = List.replicate n none from rfl, this] at h
    cases h
  | i + 1, hi => by
    have G := good_run kf n i (by omega)
    show Good kf n (i + 1) (step kf i (run kf n i)).1 (step kf i (run kf n i)).2
    generalize run kf n i = S at G ⊢
    obtain ⟨t, st⟩ := S
    replace G : Good kf n i t st := G
    unfold step
    cases hk : kf i with
    | pl =>
      refine ⟨G.len, G.srt, fun b hb => ⟨by have := (G.bd b hb).1; omega, (G.bd b hb).2⟩, fun j hj ho hn => ?_, fun j hj => G.hi j (by omega), fun j m h => ?_⟩
      · rcases Nat.lt_succ_iff_lt_or_eq.mp hj with z | z
        · exact G.opn j z ho hn
        · subst z
          rw [hk] at ho
          cases ho
      · obtain ⟨a, b, c, d⟩ := G.pr j m h
        exact ⟨by omega, by omega, c, d⟩
    | op =>
      have hn := G.hi i (Nat.le_refl i)
      refine ⟨G.len, List.Pairwise.cons (fun b hb => (G.bd b hb).1) G.srt, fun b hb => ?_, fun j hj ho hn => ?_, fun j hj => G.hi j (by omega), fun j m h => ?_⟩
      · rcases List.mem_cons.mp hb with z | z
        · subst z
          exact ⟨by omega, hk, hn⟩
        · exact ⟨by have := (G.bd b z).1; omega, (G.bd b z).2⟩
      · rcases Nat.lt_succ_iff_lt_or_eq.mp hj with z | z
        · exact List.mem_cons_of_mem _ (G.opn j z ho hn)
        · subst z
          exact List.mem_cons_self ..
      · obtain ⟨a, b, c, d⟩ := G.pr j m h
        refine ⟨by omega, by omega, c, ?_⟩
        rcases d with ⟨d1, d2, d3, d4⟩ | ⟨d1, d2, d3, d4⟩
        · refine .inl ⟨d1, d2, d3, fun x hx => ?_⟩
          rcases List.mem_cons.mp hx with z | z
          · omega
          · exact d4 x z
        · refine .inr ⟨d1, d2, d3, fun x hx => ?_⟩
          rcases List.mem_cons.mp hx with z | z
          · omega
          · exact d4 x z
    | cl =>
      cases st with
      | nil =>
        refine ⟨G.len, G.srt, fun b hb => (List.not_mem_nil hb).elim, fun j hj ho hn => ?_, fun j hj => G.hi j (by omega), fun j m h => ?_⟩
        · rcases Nat.lt_succ_iff_lt_or_eq.mp hj with z | z
          · exact G.opn j z ho hn
          · subst z
            rw [hk] at ho
            cases ho
        · obtain ⟨a, b, c, d⟩ := G.pr j m h
          exact ⟨by omega, by omega, c, d⟩
      | cons b r =>
        obtain ⟨hb1, hb2, hb3⟩ := G.bd b (List.mem_cons_self ..)
        have hlen := G.len
        obtain ⟨hs1, hs2⟩ := List.pairwise_cons.mp G.srt
        have T : ∀ j, tv ((t.set b (some i)).set i (some b)) j = if j = i then some b else if j = b then some i else tv t j := fun j => by
          rw [tv_set (by rw [List.length_set]; omega), tv_set (by omega)]
        refine ⟨by simp [G.len], hs2, fun c hc => ?_, fun j hj ho hn => ?_, fun j hj => ?_, fun j m h => ?_⟩
        · obtain ⟨c1, c2, c3⟩ := G.bd c (List.mem_cons_of_mem _ hc)
          have := hs1 c hc
          refine ⟨by omega, c2, ?_⟩
          rw [T, if_neg (by omega), if_neg (by omega)]
          exact c3
        · rw [T] at hn
          by_cases e1 : j = i
          · rw [if_pos e1] at hn
            cases hn
          · rw [if_neg e1] at hn
            by_cases e2 : j = b
            · rw [if_pos e2] at hn
              cases hn
            · rw [if_neg e2] at hn
              exact (List.mem_cons.mp (G.opn j (by omega) ho hn)).resolve_left e2
        · rw [T, if_neg (by omega), if_neg (by omega)]
          exact G.hi j (by omega)
        · rw [T] at h
          by_cases e1 : j = i
          · rw [if_pos e1] at h
            have em : b = m := Option.some.inj h
            subst em
            subst e1
            refine ⟨by omega, by omega, ?_, .inr ⟨hk, hb2, hb1, fun c hc => by have := hs1 c hc; omega⟩⟩
            rw [T, if_neg (by omega), if_pos rfl]
          · rw [if_neg e1] at h
            by_cases e2 : j = b
            · rw [if_pos e2] at h
              have em : i = m := Option.some.inj h
              subst em
              subst e2
              refine ⟨by omega, by omega, ?_, .inl ⟨hb2, hk, hb1, fun c hc => by have := hs1 c hc; omega⟩⟩
              rw [T, if_pos rfl]
            · rw [if_neg e2] at h
              obtain ⟨g1, g2, g3, g4⟩ := G.pr j m h
              refine ⟨by omega, by omega, ?_, ?_⟩
              · rw [T, if_neg (by omega), if_neg (fun z => by
                  rw [z, hb3] at g3
                  cases g3)]
                exact g3
              · rcases g4 with ⟨d1, d2, d3, d4⟩ | ⟨d1, d2, d3, d4⟩
                · exact .inl ⟨d1, d2, d3, fun c hc => d4 c (List.mem_cons_of_mem _ hc)⟩
                · exact .inr ⟨d1, d2, d3, fun c hc => d4 c (List.mem_cons_of_mem _ hc)⟩
/-- what was told stays; what is told later is of later places -/
theorem run_later (kf : Nat → Kd) (n i j : Nat) : ∀ d, i + d ≤ n → (∀ m, tv (run kf n i).1 j = some m → tv (run kf n (i + d)).1 j = some m) ∧ (j < i → tv (run kf n i).1 j = none → tv (run kf n (i + d)).1 j = none ∨ ∃ m, i ≤ m ∧ tv (run kf n (i + d)).1 j = some m)
  | 0, _ => ⟨fun m h => h, fun _ h => .inl h⟩
  | d + 1, hd => by
    obtain ⟨ih1, ih2⟩ := run_later kf n i j d (by omega)
    have G := good_run kf n (i + d) (by omega)
    show (∀ m, tv (run kf n i).1 j = some m → tv (step kf (i + d) (run kf n (i + d))).1 j = some m) ∧ (j < i → tv (run kf n i).1 j = none → tv (step kf (i + d) (run kf n (i + d))).1 j = none ∨ ∃ m, i ≤ m ∧ tv (step kf (i + d) (run kf n (i + d))).1 j = some m)
    generalize run kf n (i + d) = S at G ih1 ih2 ⊢
    obtain ⟨t, st⟩ := S
    replace G : Good kf n (i + d) t st := G
    replace ih1 : ∀ m, tv (run kf n i).1 j = some m → tv t j = some m := ih1
    replace ih2 : j < i → tv (run kf n i).1 j = none → tv t j = none ∨ ∃ m, i ≤ m ∧ tv t j = some m := ih2
    unfold step
    cases hk : kf (i + d) with
    | pl => exact ⟨ih1, ih2⟩
    | op => exact ⟨ih1, ih2⟩
    | cl =>
      cases st with
      | nil => exact ⟨ih1, ih2⟩
      | cons b r =>
        obtain ⟨hb1, hb2, hb3⟩ := G.bd b (List.mem_cons_self ..)
        have hlen := G.len
        have T : tv ((t.set b (some (i + d))).set (i + d) (some b)) j = if j = i + d then some b else if j = b then some (i + d) else tv t j := by
          rw [tv_set (by rw [List.length_set]; omega), tv_set (by omega)]
        constructor
        · intro m h
          have h' := ih1 m h
          have := (G.pr j m h').1
          show tv ((t.set b (some (i + d))).set (i + d) (some b)) j = some m
          rw [T, if_neg (by omega), if_neg (fun z => by rw [z, hb3] at h'; cases h')]
          exact h'
        · intro hj h
          show tv ((t.set b (some (i + d))).set (i + d) (some b)) j = none ∨ ∃ m, i ≤ m ∧ tv ((t.set b (some (i + d))).set (i + d) (some b)) j = some m
          rw [T, if_neg (by omega)]
          by_cases e : j = b
          · rw [if_pos e]
            exact .inr ⟨i + d, by omega, rfl⟩
          · rw [if_neg e]
            exact ih2 hj h
/-- a falling row as the places that are in it -/
theorem filter_desc : ∀ (i : Nat) (st : List Nat), st.Pairwise (· > ·) → (∀ b ∈ st, b < i) → (List.range i).filter (fun a => decide (a ∈ st)) = st.reverse
  | 0, st, _, h => by
    cases st with
    | nil => rfl
    | cons b r => exact absurd (h b (List.mem_cons_self ..)) (Nat.not_lt_zero b)
  | i + 1, st, hs, h => by
    rw [List.range_succ, List.filter_append]
    by_cases hm : i ∈ st
    · cases st with
      | nil => exact (List.not_mem_nil hm).elim
      | cons b r =>
        obtain ⟨h1, h2⟩ := List.pairwise_cons.mp hs
        have hb : b = i := by
          rcases List.mem_cons.mp hm with z | z
          · exact z.symm
          · have := h1 i z
            have := h b (List.mem_cons_self ..)
            omega
        subst hb
        have ih := filter_desc b r h2 (fun c hc => h1 c hc)
        have e : (List.range b).filter (fun a => decide (a ∈ b :: r)) = (List.range b).filter (fun a => decide (a ∈ r)) := by
          refine List.filter_congr fun a ha => ?_
          have := List.mem_range.mp ha
          have : (a ∈ b :: r) ↔ a ∈ r := ⟨fun z => (List.mem_cons.mp z).resolve_left (by omega), fun z => List.mem_cons_of_mem _ z⟩
          simp only [this]
        rw [e, ih, List.reverse_cons, List.filter_cons, if_pos (decide_eq_true hm)]
        rfl
    · have ih := filter_desc i st hs (fun b hb => by
        have := h b hb
        have : b ≠ i := fun z => hm (z ▸ hb)
        omega)
      rw [ih, List.filter_cons, if_neg (by rw [decide_eq_false hm]; exact Bool.false_ne_true)]
      exact List.append_nil _
/-- the opens ahead of a place that are answered behind it, or never, are those that wait -/
theorem waits (kf : Nat → Kd) (n i : Nat) (hi : i ≤ n) : (List.range i).filter (fun a => decide (kf a = .op) && (decide (tv (run kf n n).1 a = none) || decide (∃ m, tv (run kf n n).1 a = some m ∧ i ≤ m))) = (run kf n i).2.reverse := by
  have G := good_run kf n i hi
  rw [← filter_desc i _ G.srt fun b hb => (G.bd b hb).1]
  refine List.filter_congr fun a ha => ?_
  have ha := List.mem_range.mp ha
  obtain ⟨l1, l2⟩ := run_later kf n i a (n - i) (by omega)
  rw [show i + (n - i) = n by omega] at l1 l2
  rw [Bool.eq_iff_iff]
  simp only [Bool.and_eq_true, Bool.or_eq_true, decide_eq_true_eq]
  constructor
  · rintro ⟨ho, hn⟩
    refine G.opn a ha ho ?_
    cases e : tv (run kf n i).1 a with
    | none => rfl
    | some m =>
      have e' := l1 m e
      have := (G.pr a m e).2.1
      rcases hn with z | ⟨m', z, hm⟩
      · rw [e'] at z
        cases z
      · rw [e'] at z
        have := Option.some.inj z
        omega
  · intro hm
    obtain ⟨_, h2, h3⟩ := G.bd a hm
    refine ⟨h2, ?_⟩
    rcases l2 ha h3 with z | ⟨m, hm, z⟩
    · exact .inl z
    · exact .inr ⟨m, z, hm⟩
def dep (kf : Nat → Kd) (n : Nat) : Nat → Nat
  | 0 => 0
  | i + 1 => max (dep kf n i) (run kf n (i + 1)).2.length
theorem dep_ge (kf : Nat → Kd) (n : Nat) : ∀ i, (run kf n i).2.length ≤ dep kf n i
  | 0 => Nat.le_refl _
  | i + 1 => Nat.le_max_right _ _
def kdOf (os qs : List Str) (x : Str) : Kd := if x ∈ os then .op else if x ∈ qs then .cl else .pl
def kfOf (os qs ws : List Str) (i : Nat) : Kd := match ws[i]? with
  | some x => kdOf os qs x
  | none => .pl
theorem kfOf_at {os qs ws : List Str} {i : Nat} {x : Str} (h : ws[i]? = some x) : kfOf os qs ws i = kdOf os qs x := by
  unfold kfOf
  rw [h]
def ansOf (os qs ws : List Str) : List (Option Nat) := (run (kfOf os qs ws) ws.length ws.length).1
theorem flat_rep {α : Type} (x : α) : ∀ n, (List.replicate n [x]).flatten = List.replicate n x
  | 0 => rfl
  | n + 1 => by
    rw [List.replicate_succ, List.flatten_cons, flat_rep x n, List.replicate_succ]
    rfl
theorem Sht.apart {os ps qs : List Str} (h : Sht os ps qs) {x : Str} (h1 : x ∈ os) (h2 : x ∈ qs) : False := by
  have := List.nodup_append.mp h.nd
  exact this.2.2 x (List.mem_append.mpr (.inl h1)) x h2 rfl
theorem kd_op {os qs : List Str} {x : Str} : kdOf os qs x = .op ↔ x ∈ os := by
  unfold kdOf
  by_cases h : x ∈ os
  · rw [if_pos h]
    exact ⟨fun _ => h, fun _ => rfl⟩
  · rw [if_neg h]
    refine ⟨fun e => ?_, fun z => absurd z h⟩
    split at e <;> cases e
theorem kd_cl {os ps qs : List Str} (hS : Sht os ps qs) {x : Str} : kdOf os qs x = .cl ↔ x ∈ qs := by
  unfold kdOf
  by_cases h : x ∈ os
  · rw [if_pos h]
    exact ⟨fun e => (nomatch e), fun z => (hS.apart h z).elim⟩
  · rw [if_neg h]
    by_cases h2 : x ∈ qs
    · rw [if_pos h2]
      exact ⟨fun _ => h2, fun _ => rfl⟩
    · rw [if_neg h2]
      exact ⟨fun e => (nomatch e), fun z => absurd z h2⟩
theorem Sht.plain {os ps qs : List Str} (hS : Sht os ps qs) {x : Str} (h : x ∈ ps) : kdOf os qs x = .pl := by
  have h1 := List.nodup_append.mp hS.nd
  have h2 := List.nodup_append.mp h1.1
  unfold kdOf
  rw [if_neg (fun z => h2.2.2 x z x h rfl), if_neg (fun z => h1.2.2 x (List.mem_append.mpr (.inr h)) x z rfl)]
theorem strOk_ltr {x : Str} (h : ∀ c ∈ cs x, az c) : PyData.strOk x = true := by
  unfold PyData.strOk
  rw [Array.all_eq_true_iff_forall_mem]
  intro c hc
  have := (h c (by simpa using hc)).2
  simp
  omega
/-- how many opens wait behind letters; none where a close is bare -/
def bal (os qs : List Str) : List Str → Nat → Option Nat
  | [], n => some n
  | x :: r, n => match kdOf os qs x with
    | .op => bal os qs r (n + 1)
    | .pl => bal os qs r n
    | .cl => match n with
      | 0 => none
      | m + 1 => bal os qs r m
theorem bal_app (os qs : List Str) : ∀ (a b : List Str) (n : Nat), bal os qs (a ++ b) n = (bal os qs a n).bind (bal os qs b)
  | [], b, n => rfl
  | x :: r, b, n => by
    show bal os qs (x :: (r ++ b)) n = (bal os qs (x :: r) n).bind (bal os qs b)
    unfold bal
    cases kdOf os qs x with
    | op => exact bal_app os qs r b (n + 1)
    | pl => exact bal_app os qs r b n
    | cl =>
      cases n with
      | zero => rfl
      | succ m => exact bal_app os qs r b m
theorem bal_one_op {os qs : List Str} {x : Str} (h : x ∈ os) (n : Nat) : bal os qs [x] n = some (n + 1) := by
  unfold bal
  rw [kd_op.mpr h]
  rfl
theorem bal_one_cl {os ps qs : List Str} (hS : Sht os ps qs) {x : Str} (h : x ∈ qs) (n : Nat) : bal os qs [x] (n + 1) = some n := by
  unfold bal
  rw [(kd_cl hS).mpr h]
  rfl
theorem bal_one_pl {os ps qs : List Str} (hS : Sht os ps qs) {x : Str} (h : x ∈ ps) (n : Nat) : bal os qs [x] n = some n := by
  unfold bal
  rw [hS.plain h]
  rfl
/-! what answers what in a part of a word -/
theorem bal_take {os qs : List Str} {G : List Str} (hb : bal os qs G 0 = some 0) : ∀ i, i ≤ G.length → bal os qs (G.take i) 0 = some (run (kfOf os qs G) G.length i).2.length
  | 0, _ => rfl
  | i + 1, hi => by
    have ih := bal_take hb i (by omega)
    have hi' : i < G.length := by omega
    have e1 : G.take (i + 1) = G.take i ++ [G[i]] := by rw [List.take_succ, List.getElem?_eq_getElem hi']; rfl
    have e2 : G = G.take i ++ G.drop i := (List.take_append_drop i G).symm
    have e3 : G.drop i = G[i] :: G.drop (i + 1) := List.drop_eq_getElem_cons hi'
    have kk : kfOf os qs G i = kdOf os qs G[i] := kfOf_at (List.getElem?_eq_getElem hi')
    rw [e1, bal_app, ih]
    show bal os qs [G[i]] (run (kfOf os qs G) G.length i).2.length = some (step (kfOf os qs G) i (run (kfOf os qs G) G.length i)).2.length
    have hb2 : ((bal os qs (G.take i) 0).bind (bal os qs (G.drop i))) = some 0 := by rw [← bal_app, ← e2]; exact hb
    rw [ih, e3] at hb2
    replace hb2 : bal os qs (G[i] :: G.drop (i + 1)) (run (kfOf os qs G) G.length i).2.length = some 0 := hb2
    unfold step
    rw [kk]
    unfold bal at hb2 ⊢
    cases h : kdOf os qs G[i] with
    | op => rfl
    | pl => rfl
    | cl =>
      rw [h] at hb2
      cases hs : (run (kfOf os qs G) G.length i).2 with
      | nil =>
        rw [hs] at hb2
        cases hb2
      | cons b r => rfl
theorem tv_set2 {t : List (Option Nat)} {a b : Nat} {u v : Option Nat} (ha : a < t.length) (hb : b < t.length) (j : Nat) : tv ((t.set b v).set a u) j = if j = a then u else if j = b then v else tv t j := by
  rw [tv_set (by rw [List.length_set]; exact ha), tv_set hb]
theorem sim {os qs : List Str} {kf : Nat → Kd} {n s : Nat} {G : List Str} (hb : bal os qs G 0 = some 0) (hk : ∀ i, i < G.length → kf (s + i) = kfOf os qs G i) (hn : s + G.length ≤ n) :
    ∀ i, i ≤ G.length → (run kf n (s + i)).2 = (run (kfOf os qs G) G.length i).2.map (· + s) ++ (run kf n s).2 ∧ ∀ j, j < G.length → tv (run kf n (s + i)).1 (s + j) = (tv (run (kfOf os qs G) G.length i).1 j).map (· + s)
  | 0, _ => by
    refine ⟨rfl, fun j hj => ?_⟩
    have g1 := (good_run kf n s (by omega)).hi (s + j) (by omega)
    have g2 := (good_run (kfOf os qs G) G.length 0 (by omega)).hi j (by omega)
    show tv (run kf n s).1 (s + j) = _
    rw [g1, g2]
    rfl
  | i + 1, hi => by
    obtain ⟨ih1, ih2⟩ := sim hb hk hn i (by omega)
    have g1 := good_run kf n (s + i) (by omega)
    have g2 := good_run (kfOf os qs G) G.length i (by omega)
    have hbt := bal_take hb (i + 1) hi
    have kk := hk i (by omega)
    show (step kf (s + i) (run kf n (s + i))).2 = (step (kfOf os qs G) i (run (kfOf os qs G) G.length i)).2.map (· + s) ++ (run kf n s).2 ∧ ∀ j, j < G.length → tv (step kf (s + i) (run kf n (s + i))).1 (s + j) = (tv (step (kfOf os qs G) i (run (kfOf os qs G) G.length i)).1 j).map (· + s)
    have hne : kfOf os qs G i = .cl → (run (kfOf os qs G) G.length i).2 ≠ [] := fun hc hnil => by
      have ht := bal_take hb i (by omega)
      rw [hnil] at ht
      have hi' : i < G.length := by omega
      have e1 : G.take (i + 1) = G.take i ++ [G[i]] := by rw [List.take_succ, List.getElem?_eq_getElem hi']; rfl
      rw [e1, bal_app, ht] at hbt
      have kk2 : kfOf os qs G i = kdOf os qs G[i] := kfOf_at (List.getElem?_eq_getElem hi')
      rw [kk2] at hc
      replace hbt : bal os qs [G[i]] 0 = _ := hbt
      unfold bal at hbt
      rw [hc] at hbt
      cases hbt
    generalize run kf n (s + i) = S at ih1 ih2 g1 ⊢
    generalize run (kfOf os qs G) G.length i = S' at ih1 ih2 g2 hne ⊢
    obtain ⟨t, st⟩ := S
    obtain ⟨t', st'⟩ := S'
    replace g1 : Good kf n (s + i) t st := g1
    replace g2 : Good (kfOf os qs G) G.length i t' st' := g2
    replace ih1 : st = st'.map (· + s) ++ (run kf n s).2 := ih1
    replace ih2 : ∀ j, j < G.length → tv t (s + j) = (tv t' j).map (· + s) := ih2
    unfold step
    rw [kk]
    cases hc : kfOf os qs G i with
    | op =>
      refine ⟨?_, ih2⟩
      show (s + i) :: st = ((i :: st').map (· + s)) ++ _
      rw [ih1, List.map_cons, Nat.add_comm i s]
      rfl
    | pl => exact ⟨ih1, ih2⟩
    | cl =>
      cases st' with
      | nil => exact absurd rfl (hne hc)
      | cons b r =>
        rw [ih1]
        have hb1 : b < i := (g2.bd b (List.mem_cons_self ..)).1
        refine ⟨rfl, fun j hj => ?_⟩
        show tv ((t.set (b + s) (some (s + i))).set (s + i) (some (b + s))) (s + j) = (tv ((t'.set b (some i)).set i (some b)) j).map (· + s)
        have l1 := g1.len
        have l2 := g2.len
        rw [tv_set2 (t := t) (by omega) (by omega), tv_set2 (t := t') (by omega) (by omega)]
        by_cases e1 : j = i
        · subst e1
          rw [if_pos rfl, if_pos rfl]
          rfl
        · rw [if_neg (by omega), if_neg e1]
          by_cases e2 : j = b
          · subst e2
            rw [if_pos (by omega), if_pos rfl]
            show some (s + i) = some (i + s)
            rw [Nat.add_comm]
          · rw [if_neg (by omega), if_neg e2]
            exact ih2 j hj
theorem st_end {os qs : List Str} {G : List Str} (hb : bal os qs G 0 = some 0) : (run (kfOf os qs G) G.length G.length).2 = [] := by
  have := bal_take hb G.length (Nat.le_refl _)
  rw [List.take_length, hb] at this
  exact List.length_eq_zero_iff.mp (Option.some.inj this).symm
theorem kf_mid {os qs A G B : List Str} {i : Nat} (hi : i < G.length) : kfOf os qs (A ++ G ++ B) (A.length + i) = kfOf os qs G i := by
  unfold kfOf
  rw [List.getElem?_append_left (by rw [List.length_append]; omega), List.getElem?_append_right (by omega), Nat.add_sub_cancel_left]
/-- in a balanced part what answers is as in it alone -/
theorem ans_mid {os qs A G B : List Str} (hb : bal os qs G 0 = some 0) {i : Nat} (hi : i < G.length) : tv (ansOf os qs (A ++ G ++ B)) (A.length + i) = (tv (ansOf os qs G) i).map (· + A.length) := by
  have hn : (A ++ G ++ B).length = A.length + G.length + B.length := by rw [List.length_append, List.length_append]
  obtain ⟨s1, s2⟩ := sim (kf := kfOf os qs (A ++ G ++ B)) (n := (A ++ G ++ B).length) (s := A.length) hb (fun i hi => kf_mid hi) (by omega) G.length (Nat.le_refl _)
  have h2 := s2 i hi
  have later := run_later (kfOf os qs (A ++ G ++ B)) (A ++ G ++ B).length (A.length + G.length) (A.length + i) B.length (by omega)
  have gG := good_run (kfOf os qs G) G.length G.length (Nat.le_refl _)
  have gW := good_run (kfOf os qs (A ++ G ++ B)) (A ++ G ++ B).length (A ++ G ++ B).length (Nat.le_refl _)
  have e0 : A.length + G.length + B.length = (A ++ G ++ B).length := hn.symm
  rw [e0] at later
  show tv (run (kfOf os qs (A ++ G ++ B)) (A ++ G ++ B).length (A ++ G ++ B).length).1 (A.length + i) = (tv (run (kfOf os qs G) G.length G.length).1 i).map (· + A.length)
  cases hg : tv (run (kfOf os qs G) G.length G.length).1 i with
  | some m =>
    rw [hg] at h2
    exact later.1 _ h2
  | none =>
    rw [hg] at h2
    cases hw : tv (run (kfOf os qs (A ++ G ++ B)) (A ++ G ++ B).length (A ++ G ++ B).length).1 (A.length + i) with
    | none => rfl
    | some m =>
      exfalso
      rcases later.2 (by omega) h2 with z | ⟨m', hm', z⟩
      · rw [hw] at z
        cases z
      · obtain ⟨p1, p2, p3, p4⟩ := gW.pr _ _ z
        rcases p4 with ⟨k1, k2, k3, k4⟩ | ⟨k1, k2, k3, k4⟩
        · rw [kf_mid hi] at k1
          have := gG.opn i hi k1 hg
          rw [st_end hb] at this
          exact List.not_mem_nil this
        · omega
theorem ans_wrap1 {os ps qs : List Str} (hS : Sht os ps qs) {a c : Str} (ha : a ∈ os) (hc : c ∈ qs) {G : List Str} (hb : bal os qs G 0 = some 0) : tv (ansOf os qs ([a] ++ G ++ [c])) 0 = some (G.length + 1) := by
  have hn : ([a] ++ G ++ [c]).length = G.length + 2 := by rw [List.length_append, List.length_append]; show 1 + G.length + 1 = _; omega
  obtain ⟨s1, _⟩ := sim (kf := kfOf os qs ([a] ++ G ++ [c])) (n := ([a] ++ G ++ [c]).length) (s := [a].length) hb (fun i hi => kf_mid hi) (by rw [hn]; show 1 + G.length ≤ _; omega) G.length (Nat.le_refl _)
  rw [st_end hb] at s1
  have k0 : kfOf os qs ([a] ++ G ++ [c]) 0 = .op := by
    rw [kfOf_at (x := a) rfl]
    exact kd_op.mpr ha
  have kc : kfOf os qs ([a] ++ G ++ [c]) (1 + G.length) = .cl := by
    rw [kfOf_at (x := c) (by rw [List.getElem?_append_right (by rw [List.length_append]; exact Nat.le_refl _), List.length_append]; show [c][1 + G.length - (1 + G.length)]? = _; rw [Nat.sub_self]; rfl)]
    exact (kd_cl hS).mpr hc
  have g := good_run (kfOf os qs ([a] ++ G ++ [c])) ([a] ++ G ++ [c]).length (1 + G.length) (by omega)
  show tv (run (kfOf os qs ([a] ++ G ++ [c])) ([a] ++ G ++ [c]).length ([a] ++ G ++ [c]).length).1 0 = _
  rw [show run (kfOf os qs ([a] ++ G ++ [c])) ([a] ++ G ++ [c]).length ([a] ++ G ++ [c]).length = step (kfOf os qs ([a] ++ G ++ [c])) (1 + G.length) (run (kfOf os qs ([a] ++ G ++ [c])) ([a] ++ G ++ [c]).length (1 + G.length)) by
    conv => lhs; rw [show ([a] ++ G ++ [c]).length = G.length + 1 + 1 from hn]
    conv => rhs; rw [show ([a] ++ G ++ [c]).length = G.length + 1 + 1 from hn]
    rw [Nat.add_comm 1 G.length]
    rfl]
  have s1' : (run (kfOf os qs ([a] ++ G ++ [c])) ([a] ++ G ++ [c]).length (1 + G.length)).2 = [0] := by
    rw [show (1 : Nat) = [a].length from rfl, s1]
    show [] ++ (step (kfOf os qs ([a] ++ G ++ [c])) 0 _).2 = [0]
    unfold step
    rw [k0]
    rfl
  unfold step
  rw [kc, s1']
  show tv (((run _ _ _).1.set 0 (some (1 + G.length))).set (1 + G.length) (some 0)) 0 = _
  have l := g.len
  rw [tv_set (by rw [List.length_set]; omega), if_neg (by omega), tv_set (by omega), if_pos rfl, Nat.add_comm]
theorem ans_inv {os qs W : List Str} {i j : Nat} (h : tv (ansOf os qs W) i = some j) : j < W.length ∧ tv (ansOf os qs W) j = some i := by
  have g := (good_run (kfOf os qs W) W.length W.length (Nat.le_refl _)).pr i j h
  exact ⟨g.2.1, g.2.2.1⟩
theorem ansOf_len' (os qs W : List Str) : (ansOf os qs W).length = W.length := (good_run (kfOf os qs W) W.length W.length (Nat.le_refl _)).len
theorem ans_out {os qs W : List Str} {i : Nat} (h : W.length ≤ i) : tv (ansOf os qs W) i = none := (good_run (kfOf os qs W) W.length W.length (Nat.le_refl _)).hi i h
theorem bal_mid {os ps qs : List Str} (hS : Sht os ps qs) {a c : Str} (ha : a ∈ os) (hc : c ∈ qs) {G : List Str} (hb : ∀ n, bal os qs G n = some n) : ∀ n, bal os qs ([a] ++ G ++ [c]) n = some n := fun n => by
  rw [bal_app, bal_app, bal_one_op ha]
  show ((bal os qs G (n + 1))).bind _ = _
  rw [hb]
  exact bal_one_cl hS hc n
theorem bal_up {os qs : List Str} : ∀ (G : List Str) (n m : Nat), bal os qs G n = some m → ∀ k, bal os qs G (n + k) = some (m + k)
  | [], n, m, h, k => by rw [Option.some.inj h]; rfl
  | x :: r, n, m, h, k => by
    unfold bal at h ⊢
    cases hx : kdOf os qs x with
    | op =>
      rw [hx] at h
      have := bal_up r (n + 1) m h k
      rw [show n + 1 + k = n + k + 1 by omega] at this
      exact this
    | pl =>
      rw [hx] at h
      exact bal_up r n m h k
    | cl =>
      rw [hx] at h
      cases n with
      | zero => cases h
      | succ n' =>
        have := bal_up r n' m h k
        rw [show n' + 1 + k = n' + k + 1 by omega]
        exact this
theorem bal_all {os qs G : List Str} (h : bal os qs G 0 = some 0) (n : Nat) : bal os qs G n = some n := by
  have := bal_up G 0 0 h n
  rw [Nat.zero_add] at this
  exact this
theorem wrap_succ (k : Nat) (a c : Str) (G : List Str) : List.replicate (k + 1) a ++ G ++ List.replicate (k + 1) c = [a] ++ (List.replicate k a ++ G ++ List.replicate k c) ++ [c] := by
  rw [List.replicate_succ, List.replicate_succ']
  simp
theorem bal_wrap {os ps qs : List Str} (hS : Sht os ps qs) {a c : Str} (ha : a ∈ os) (hc : c ∈ qs) {G : List Str} (hb : bal os qs G 0 = some 0) : ∀ k, bal os qs (List.replicate k a ++ G ++ List.replicate k c) 0 = some 0
  | 0 => by
    rw [List.replicate_zero, List.replicate_zero, List.append_nil, List.nil_append]
    exact hb
  | k + 1 => by
    rw [wrap_succ]
    exact bal_mid hS ha hc (bal_all (bal_wrap hS ha hc hb k)) 0
theorem bal_flat {os qs : List Str} : ∀ Ws : List (List Str), (∀ W ∈ Ws, bal os qs W 0 = some 0) → bal os qs Ws.flatten 0 = some 0
  | [], _ => rfl
  | W :: r, h => by
    rw [List.flatten_cons, bal_app, h W (List.mem_cons_self ..)]
    exact bal_flat r fun W hW => h W (List.mem_cons_of_mem _ hW)
theorem ans_wrap {os ps qs : List Str} (hS : Sht os ps qs) {a c : Str} (ha : a ∈ os) (hc : c ∈ qs) {G : List Str} (hb : bal os qs G 0 = some 0) : ∀ (k i : Nat), i < k → tv (ansOf os qs (List.replicate k a ++ G ++ List.replicate k c)) i = some (2 * k + G.length - 1 - i)
  | 0, i, h => absurd h (Nat.not_lt_zero _)
  | k + 1, i, h => by
    have hw := bal_wrap hS ha hc hb k
    have hlen : (List.replicate k a ++ G ++ List.replicate k c).length = 2 * k + G.length := by
      rw [List.length_append, List.length_append, List.length_replicate, List.length_replicate]
      omega
    rw [wrap_succ]
    cases i with
    | zero =>
      rw [ans_wrap1 hS ha hc hw, hlen]
      congr 1
      omega
    | succ i =>
      have e := ans_mid (A := [a]) (B := [c]) hw (i := i) (by omega)
      rw [show i + 1 = [a].length + i by show _ = 1 + i; omega, e, ans_wrap hS ha hc hb k i (by omega)]
      show some (2 * k + G.length - 1 - i + 1) = some (2 * (k + 1) + G.length - 1 - (1 + i))
      congr 1
      omega
/-- a wrap's own letters answer one another from the ends on -/
theorem ans_own {os ps qs : List Str} (hS : Sht os ps qs) {a c : Str} (ha : a ∈ os) (hc : c ∈ qs) {G : List Str} (hb : bal os qs G 0 = some 0) {k i : Nat} (h : i < k ∨ k + G.length ≤ i) (hi : i < 2 * k + G.length) : tv (ansOf os qs (List.replicate k a ++ G ++ List.replicate k c)) i = some (2 * k + G.length - 1 - i) := by
  rcases h with h | h
  · exact ans_wrap hS ha hc hb k i h
  · have := (ans_inv (ans_wrap hS ha hc hb k (2 * k + G.length - 1 - i) (by omega))).2
    rw [show 2 * k + G.length - 1 - (2 * k + G.length - 1 - i) = i by omega] at this
    exact this
def aloneOf (os qs ws : List Str) (t : List (Option Nat)) : List Nat :=
  ((List.range ws.length).filter fun i => decide (tv t i = none)).filter (fun i => decide (kfOf os qs ws i = .cl)) ++ ((List.range ws.length).filter fun i => decide (tv t i = none)).filter (fun i => decide (kfOf os qs ws i = .op))
theorem aloneOf_nil {os qs ws : List Str} {t : List (Option Nat)} : aloneOf os qs ws t = [] ↔ ∀ i, i < ws.length → tv t i = none → kfOf os qs ws i = .pl := by
  unfold aloneOf
  rw [List.append_eq_nil_iff, List.filter_eq_nil_iff, List.filter_eq_nil_iff]
  constructor
  · rintro ⟨h1, h2⟩ i hi hn
    have hm : i ∈ (List.range ws.length).filter fun i => decide (tv t i = none) := List.mem_filter.mpr ⟨List.mem_range.mpr hi, decide_eq_true hn⟩
    cases hk : kfOf os qs ws i with
    | pl => rfl
    | op => exact absurd (decide_eq_true hk) (h2 i hm)
    | cl => exact absurd (decide_eq_true hk) (h1 i hm)
  · intro h
    constructor
    · intro i hm
      obtain ⟨a, b⟩ := List.mem_filter.mp hm
      rw [h i (List.mem_range.mp a) (of_decide_eq_true b)]
      decide
    · intro i hm
      obtain ⟨a, b⟩ := List.mem_filter.mp hm
      rw [h i (List.mem_range.mp a) (of_decide_eq_true b)]
      decide
end Eh
set_option Elab.async false
set_option linter.all false
set_option maxRecDepth 100000
set_option maxHeartbeats 4000000
namespace Dl
open PySem PySem.Spec PyProof.Rows L2 Evl Gx GxR RZ Eh
section
variable {os ps qs : List Str}
@[simp] theorem sh_0 : dIx (shD os ps qs) (.int 0) = some (.tuple (os.map .str)) := rfl
@[simp] theorem sh_1 : dIx (shD os ps qs) (.int 1) = some (.tuple (ps.map .str)) := rfl
@[simp] theorem sh_2 : dIx (shD os ps qs) (.int 2) = some (.tuple (qs.map .str)) := rfl
end
def oD : Option Nat → PyData
  | none => .none
  | some j => .int (j : Int)
def inL (ls : List Str) : PyData → Bool
  | .str x => decide (x ∈ ls)
  | _ => false
theorem any_eqv (ls : List Str) (d : PyData) : ((ls.map PyData.str).any fun z => PyData.eqv z d) = inL ls d := by
  rw [List.any_map]
  cases d with
  | str x =>
    show (ls.any fun y => y == x) = decide (x ∈ ls)
    rw [Bool.eq_iff_iff, List.any_eq_true, decide_eq_true_iff]
    constructor
    · rintro ⟨y, hy, e⟩
      rw [← eq_of_beq e]
      exact hy
    · exact fun h => ⟨x, h, beq_self_eq_true x⟩
  | _ =>
    show (ls.any fun _ => false) = false
    rw [List.any_eq_false]
    exact fun _ _ z => by cases z
theorem fi_ltr {k : Nat} {x : Str} (h : Ltr x) : Fi k (.str x) := fi_str (strOk_ltr h.1)
theorem fi_strs {k : Nat} {ls : List Str} (h : ∀ x ∈ ls, Ltr x) : Fi (k + 1) (.tuple (ls.map .str)) := fi_tup.mpr fun d hd => by
  obtain ⟨x, hx, rfl⟩ := List.mem_map.mp hd
  exact fi_ltr (h x hx)
theorem fi_strsL {k : Nat} {ls : List Str} (h : ∀ x ∈ ls, Ltr x) : Fi (k + 1) (.list (ls.map .str)) := fi_list.mpr fun d hd => by
  obtain ⟨x, hx, rfl⟩ := List.mem_map.mp hd
  exact fi_ltr (h x hx)
theorem in_tup {ls : List Str} {d : PyData} (hl : ∀ x ∈ ls, Ltr x) (hd : SeqAt.shaped d = true) : dInA d (.tuple (ls.map .str)) = some (.bool (inL ls d)) := by
  show (if ((scalD d && (ls.map PyData.str).all scalD) || (SeqAt.shaped d && SeqAt.shaped (.tuple (ls.map .str)))) = true then some ((ls.map PyData.str).any fun z => PyData.eqv z d) else none).map PyData.bool = _
  rw [hd, (fi_strs (k := 0) hl).sh (by decide), Bool.and_self, Bool.or_true, if_pos rfl, any_eqv]
  rfl
theorem in_str {ls : List Str} (x : Str) : dInA (.str x) (.tuple (ls.map .str)) = some (.bool (decide (x ∈ ls))) := by
  show (if ((scalD (.str x) && (ls.map PyData.str).all scalD) || (SeqAt.shaped (.str x) && SeqAt.shaped (.tuple (ls.map .str)))) = true then some ((ls.map PyData.str).any fun z => PyData.eqv z (.str x)) else none).map PyData.bool = _
  have e : (ls.map PyData.str).all scalD = true := by
    rw [List.all_eq_true]
    intro d hd
    obtain ⟨y, _, rfl⟩ := List.mem_map.mp hd
    rfl
  rw [e, show scalD (.str x) = true from rfl, Bool.true_and, Bool.true_or, if_pos rfl, any_eqv]
  rfl
theorem in_strL {ls : List Str} (x : Str) : dInA (.str x) (.list (ls.map .str)) = some (.bool (decide (x ∈ ls))) := by
  show (if ((scalD (.str x) && (ls.map PyData.str).all scalD) || (SeqAt.shaped (.str x) && SeqAt.shaped (.list (ls.map .str)))) = true then some ((ls.map PyData.str).any fun z => PyData.eqv z (.str x)) else none).map PyData.bool = _
  have e : (ls.map PyData.str).all scalD = true := by
    rw [List.all_eq_true]
    intro d hd
    obtain ⟨y, _, rfl⟩ := List.mem_map.mp hd
    rfl
  rw [e, show scalD (.str x) = true from rfl, Bool.true_and, Bool.true_or, if_pos rfl, any_eqv]
  rfl
/-! dict comprehensions -/
theorem dc_ok {vs : List Nat} {B : Bd} {T : DEnv → R Bool} {Ek Ev : DEnv → R PyData} {Q : List (PyData × PyData) → DEnv → Prop} {E : ExD → DEnv → Prop} (I : Nat → List (PyData × PyData) → DEnv → Prop) : ∀ (ds : List PyData) (k : Nat) {acc : List (PyData × PyData)} {env : DEnv}, I k acc env →
    (∀ i d acc e, ds[i]? = some d → I (k + i) acc e → OT (B d e) (k := ⟨fun e1 => (T e1).to (k := ⟨fun b e2 => b = true ∧ (Ek e2).to (k := ⟨fun y e3 => (Ev e3).to (k := ⟨fun r e4 => ∃ z, keyK y = some z ∧ acc.length < sizeLine ∧ I (k + i + 1) (putDK acc z r) (wipeE e4 vs), noE⟩), noE⟩), noE⟩)⟩)) →
    (∀ acc e, I (k + ds.length) acc e → Q acc e) → (dcFK vs B T Ek Ev ds acc env).to (k := ⟨Q, E⟩)
  | [], k, acc, env, h0, hs, hend => hend acc env h0
  | d :: ds, k, acc, env, h0, hs, hend => by
    have h1 := hs 0 d acc env rfl h0
    rw [dcFK_cons]
    cases hB : B d env with
    | none => rw [hB] at h1; exact h1.elim
    | some e1 =>
      rw [hB] at h1
      simp only
      replace h1 : (T e1).to (k := ⟨fun b e2 => b = true ∧ (Ek e2).to (k := ⟨fun y e3 => (Ev e3).to (k := ⟨fun r e4 => ∃ z, keyK y = some z ∧ acc.length < sizeLine ∧ I (k + 0 + 1) (putDK acc z r) (wipeE e4 vs), noE⟩), noE⟩), noE⟩) := h1
      cases hT : T e1 with
      | bad => rw [hT] at h1; exact h1.elim
      | exc x e => rw [hT] at h1; exact h1.elim
      | ok b e2 =>
        rw [hT] at h1
        obtain ⟨rfl, h1⟩ : b = true ∧ (Ek e2).to (k := ⟨fun y e3 => (Ev e3).to (k := ⟨fun r e4 => ∃ z, keyK y = some z ∧ acc.length < sizeLine ∧ I (k + 0 + 1) (putDK acc z r) (wipeE e4 vs), noE⟩), noE⟩) := h1
        simp only
        cases hK : Ek e2 with
        | bad => rw [hK] at h1; exact h1.elim
        | exc x e => rw [hK] at h1; exact h1.elim
        | ok y e3 =>
          rw [hK] at h1
          replace h1 : (Ev e3).to (k := ⟨fun r e4 => ∃ z, keyK y = some z ∧ acc.length < sizeLine ∧ I (k + 0 + 1) (putDK acc z r) (wipeE e4 vs), noE⟩) := h1
          simp only
          cases hV : Ev e3 with
          | bad => rw [hV] at h1; exact h1.elim
          | exc x e => rw [hV] at h1; exact h1.elim
          | ok r e4 =>
            rw [hV] at h1
            obtain ⟨z, hz, hl, h2⟩ : ∃ z, keyK y = some z ∧ acc.length < sizeLine ∧ I (k + 0 + 1) (putDK acc z r) (wipeE e4 vs) := h1
            simp only [hz]
            rw [if_pos hl]
            rw [Nat.add_zero] at h2
            exact dc_ok I ds (k + 1) h2 (fun i d' acc' e' hd he' => by
              have := hs (i + 1) d' acc' e' hd (by rw [show k + (i + 1) = k + 1 + i from by omega]; exact he')
              rw [show k + (i + 1) = k + 1 + i from by omega] at this
              exact this) (fun acc' e' he' => hend acc' e' (by rw [List.length_cons, show k + (ds.length + 1) = k + 1 + ds.length from by omega]; exact he'))
/-- all keys are texts -/
def KeysS (es : List (PyData × PyData)) : Prop := ∀ p ∈ es, ∃ x : Str, p.1 = .str x
theorem get_str {es : List (PyData × PyData)} (h : KeysS es) (x : Str) : dGetD es (.str x) = some (lookK es (.inr x)) := by
  cases es with
  | nil => rfl
  | cons p r =>
    obtain ⟨y, hy⟩ := h p (List.mem_cons_self ..)
    obtain ⟨a, b⟩ := p
    cases hy
    rfl
def HasK (es : List (PyData × PyData)) (x : Str) : Prop := (lookK es (.inr x)).isSome = true
theorem hasK_iff {es : List (PyData × PyData)} {x : Str} : HasK es x ↔ ∃ p ∈ es, keyK p.1 = some (.inr x) := by
  unfold HasK lookK
  rw [Option.isSome_map, List.find?_isSome]
  simp only [decide_eq_true_eq]
theorem putDK_keys {es : List (PyData × PyData)} {x : Str} {d : PyData} (h : KeysS es) : KeysS (putDK es (.inr x) d) := by
  unfold putDK
  split
  · intro p hp
    obtain ⟨q, hq, rfl⟩ := List.mem_map.mp hp
    split
    · exact h q hq
    · exact h q hq
  · intro p hp
    rcases List.mem_append.mp hp with z | z
    · exact h p z
    · rw [List.mem_singleton.mp z]
      exact ⟨x, rfl⟩
theorem putDK_has {es : List (PyData × PyData)} {x : Str} {d : PyData} : HasK (putDK es (.inr x) d) x := by
  rw [hasK_iff]
  unfold putDK
  split
  · rename_i h
    obtain ⟨p, hp, e⟩ := List.any_eq_true.mp h
    have e := of_decide_eq_true e
    exact ⟨_, List.mem_map.mpr ⟨p, hp, rfl⟩, by rw [if_pos e]; exact e⟩
  · exact ⟨_, List.mem_append.mpr (.inr (List.mem_singleton.mpr rfl)), rfl⟩
theorem putDK_old {es : List (PyData × PyData)} {x y : Str} {d : PyData} (h : HasK es y) : HasK (putDK es (.inr x) d) y := by
  rw [hasK_iff] at h ⊢
  obtain ⟨p, hp, e⟩ := h
  unfold putDK
  split
  · refine ⟨_, List.mem_map.mpr ⟨p, hp, rfl⟩, ?_⟩
    split
    · exact e
    · exact e
  · exact ⟨p, List.mem_append.mpr (.inl hp), e⟩
theorem putDK_len {es : List (PyData × PyData)} {k : Key} {d : PyData} : (putDK es k d).length ≤ es.length + 1 := by
  unfold putDK
  split
  · rw [List.length_map]
    omega
  · rw [List.length_append]
    exact Nat.le_refl _
theorem sht_len {os ps qs : List Str} (hS : Sht os ps qs) : (os ++ ps ++ qs).length ≤ 12 := by
  rw [List.length_append, List.length_append]
  have := hS.o4
  have := hS.p4
  have := hS.c4
  omega
theorem orderOf_c {os ps qs : List Str} {P : Bool → PyData → List Slot → Prop} {E : ExD → List Slot → Prop} (hS : Sht os ps qs) (k : ∀ es, KeysS es → (∀ x ∈ os ++ ps ++ qs, HasK es x) → P true (.dict es) [.shr (shD os ps qs)]) : (dOrderOf [.shr (shD os ps qs)]).to (k := ⟨P, E⟩) := by
  unfold dOrderOf gOrderOf
  rw [runD_to]
  have l12 := sht_len hS
  simp -dsimp -implicitDefEqProofs [show ∀ (B : List PyData → DEnv → Option DEnv) (e : DEnv), bTup B (shD os ps qs) e = B [.tuple (os.map .str), .tuple (ps.map .str), .tuple (qs.map .str)] e from fun _ _ => rfl]
  have l1 : (os.map PyData.str).length + (ps.map PyData.str).length ≤ 1000000 := by
    rw [List.length_append, List.length_append] at l12
    rw [List.length_map, List.length_map]
    omega
  have l2 : (os.map PyData.str ++ ps.map PyData.str).length + (qs.map PyData.str).length ≤ 1000000 := by
    rw [List.length_append, List.length_append] at l12
    rw [List.length_append, List.length_map, List.length_map, List.length_map]
    omega
  simp -dsimp -implicitDefEqProofs [add_tup l1, add_tup l2]
  rw [← List.map_append, ← List.map_append, ← List.append_assoc]
  have lk : ∀ (i : Nat) (d : PyData), (enumItems ((os ++ ps ++ qs).map .str))[i]? = some d → ∃ x, (os ++ ps ++ qs)[i]? = some x ∧ d = .tuple [.int (i : Nat), .str x] := fun i d h => by
    obtain ⟨x, hx, rfl⟩ := enum_get h
    rw [List.getElem?_map] at hx
    obtain ⟨y, hy, rfl⟩ := Option.map_eq_some_iff.mp hx
    exact ⟨y, hy, rfl⟩
  have len : (enumItems ((os ++ ps ++ qs).map .str)).length = (os ++ ps ++ qs).length := by simp [enumItems]
  generalize os ++ ps ++ qs = L at l12 k lk len ⊢
  refine dc_ok (fun i acc e => KeysS acc ∧ acc.length ≤ i ∧ (∀ x ∈ L.take i, HasK acc x) ∧ e = [some (Slot.shr (shD os ps qs)), some (Slot.shr (.tuple (os.map .str))), some (Slot.shr (.tuple (ps.map .str))), some (Slot.shr (.tuple (qs.map .str))), none, none]) _ 0 ⟨fun p h => (List.not_mem_nil h).elim, Nat.le_refl _, fun x h => (List.not_mem_nil h).elim, rfl⟩ ?_ ?_
  · rintro i d acc e hd ⟨h1, h2, h3, rfl⟩
    obtain ⟨x, hx, rfl⟩ := lk i d hd
    rw [Nat.zero_add] at h2 h3 ⊢
    have hi := (List.getElem?_eq_some_iff.mp hx).1
    simp -dsimp -implicitDefEqProofs
    refine ⟨.inr x, rfl, by rw [sizeLine_eq]; omega, putDK_keys h1, Nat.le_trans putDK_len (by omega), fun y hy => ?_⟩
    rw [List.take_succ, hx] at hy
    rcases List.mem_append.mp hy with z | z
    · exact putDK_old (h3 y z)
    · rw [show y = x by simpa using z]
      exact putDK_has
  · rintro acc e ⟨h1, h2, h3, rfl⟩
    rw [len, Nat.zero_add, List.take_length] at h3
    simp -dsimp -implicitDefEqProofs
    exact k acc h1 h3
theorem needWord_c {os ps qs ws : List Str} {P : Bool → PyData → List Slot → Prop} {E : ExD → List Slot → Prop} (hS : Sht os ps qs) (hw : ∀ x ∈ ws, x ∈ os ++ ps ++ qs) (k : P false .none [.shr (shD os ps qs), .shr (.list (ws.map .str))]) : (dNeedWord [.shr (shD os ps qs), .shr (.list (ws.map .str))]).to (k := ⟨P, E⟩) := by
  unfold dNeedWord gNeedWord
  rw [runD_to]
  simp -dsimp -implicitDefEqProofs
  refine orderOf_c hS fun es hk hh => ?_
  simp -dsimp -implicitDefEqProofs
  refine for_ok0 (fun i e => ∃ x3 x4 : Option Slot, e = [some (Slot.shr (shD os ps qs)), some (Slot.shr (.list (ws.map .str))), some (Slot.shr (.dict es)), x3, x4]) ⟨_, _, rfl⟩ ?_ ?_
  · rintro i d e hd ⟨x3, x4, rfl⟩
    obtain ⟨x, hx, rfl⟩ := enum_get hd
    rw [List.getElem?_map] at hx
    obtain ⟨y, hy, rfl⟩ := Option.map_eq_some_iff.mp hx
    have hy' := hh y (hw y (List.mem_of_getElem? hy))
    have e1 : dNotInA (.str y) (.dict es) = some (.bool false) := by
      show (dGetD es (.str y)).map _ = _
      rw [get_str hk]
      unfold HasK at hy'
      show some (PyData.bool (!(lookK es (.inr y)).isSome)) = _
      rw [hy']
      rfl
    simp -dsimp -implicitDefEqProofs [e1]
  · rintro e ⟨x3, x4, rfl⟩
    simp -dsimp -implicitDefEqProofs
    exact k
end Dl
set_option Elab.async false
set_option linter.all false
set_option maxRecDepth 100000
set_option maxHeartbeats 4000000
namespace Dl
open PySem PySem.Spec PyProof.Rows L2 Evl Gx GxR RZ Eh
theorem small_log {n : Nat} (h : n ≤ 100000) : ((n : Int)).natAbs.log2 < 9000 := by
  rw [Int.natAbs_natCast]
  have : n.log2 ≤ n := by
    by_cases h0 : n = 0
    · subst h0
      decide
    · exact Nat.le_of_lt ((Nat.log2_lt h0).mpr (Nat.lt_two_pow_self))
  by_cases h0 : n = 0
  · subst h0
    decide
  · exact (Nat.log2_lt h0).mpr (Nat.lt_of_le_of_lt h (Nat.lt_of_lt_of_le (show 100000 < 2 ^ 17 by decide) (Nat.pow_le_pow_right (by decide) (by decide))))
theorem pickN_c {p : PyData} {n : Nat} {P : Bool → PyData → List Slot → Prop} {E : ExD → List Slot → Prop} (hp : PotOk p) (hn : 0 < n) (hb : n ≤ 100000) (k : ∀ (v : Nat) p', v < n → PotOk p' → P false (.int (v : Int)) [.io 0 p', .shr (.int (n : Int))]) : (dLPick [.io 0 p, .shr (.int (n : Int))]).to (k := ⟨P, E⟩) :=
  pick_c hp (by omega) (small_log hb) fun v p' hv hp' => k v p' (by omega) hp'
theorem ix_strs {ls : List Str} {v : Nat} (h : v < ls.length) : ∃ x ∈ ls, atI (ls.map PyData.str) (v : Int) = some (.str x) := by
  refine ⟨ls[v], List.getElem_mem h, ?_⟩
  have := at_nat (l := ls.map PyData.str) (n := v) (by rw [List.length_map]; exact h)
  rw [this, List.getElem_map]
theorem eq_nilT {ls : List Str} (h : ∀ x ∈ ls, Ltr x) : dEq (.tuple (ls.map .str)) (.tuple []) = some (.bool (decide (ls = []))) := by
  rw [eq_sh ((fi_strs (k := 0) h).sh (by decide)) sh_nilT]
  cases ls <;> simp
theorem ne_nilT {ls : List Str} (h : ∀ x ∈ ls, Ltr x) : dNe (.tuple (ls.map .str)) (.tuple []) = some (.bool (!decide (ls = []))) := by
  rw [ne_sh ((fi_strs (k := 0) h).sh (by decide)) sh_nilT]
  cases ls <;> simp
theorem Sht.ps {os ps qs : List Str} (hS : Sht os ps qs) : ∀ x ∈ ps, Ltr x := fun x hx => hS.lt x (List.mem_append.mpr (.inl (List.mem_append.mpr (.inr hx))))
theorem Sht.os {os ps qs : List Str} (hS : Sht os ps qs) : ∀ x ∈ os, Ltr x := fun x hx => hS.lt x (List.mem_append.mpr (.inl (List.mem_append.mpr (.inl hx))))
theorem Sht.qs {os ps qs : List Str} (hS : Sht os ps qs) : ∀ x ∈ qs, Ltr x := fun x hx => hS.lt x (List.mem_append.mpr (.inr hx))
def ShutI (os ps qs : List Str) (m i : Nat) (e : DEnv) : Prop := ∃ (wt : Nat) (ws : List Str) (p' : PyData) (x5 x6 : Option Slot), wt ≤ i ∧ ws.length = i ∧ (∀ x ∈ ws, x ∈ os ++ ps ++ qs) ∧ bal os qs ws 0 = some wt ∧ PotOk p' ∧ e = [some (Slot.io 0 p'), some (Slot.shr (shD os ps qs)), some (Slot.shr (.int (m : Int))), some (Slot.own (.list (ws.map .str))), some (Slot.shr (.int (wt : Int))), x5, x6]
def ShutJ (os ps qs : List Str) (m wt i : Nat) (ws : List Str) (acc : List PyData) (e : DEnv) : Prop := ∃ (us : List Str) (p' : PyData) (x6 : Option Slot), acc = us.map .str ∧ us.length = i ∧ (∀ x ∈ us, x ∈ qs) ∧ PotOk p' ∧ e = [some (Slot.io 0 p'), some (Slot.shr (shD os ps qs)), some (Slot.shr (.int (m : Int))), some (Slot.own (.list (ws.map .str))), some (Slot.shr (.int (wt : Int))), none, x6]
theorem bal_closes {os ps qs : List Str} (hS : Sht os ps qs) : ∀ us : List Str, (∀ x ∈ us, x ∈ qs) → bal os qs us us.length = some 0
  | [], _ => rfl
  | x :: r, h => by
    have h1 := bal_app os qs [x] r (x :: r).length
    rw [List.singleton_append, List.length_cons, bal_one_cl hS (h x (List.mem_cons_self ..))] at h1
    rw [List.length_cons, h1]
    exact bal_closes hS r fun y hy => h y (List.mem_cons_of_mem _ hy)
theorem shut_c {p : PyData} {m : Nat} {os ps qs : List Str} {P : Bool → PyData → List Slot → Prop} {E : ExD → List Slot → Prop} (hp : PotOk p) (hS : Sht os ps qs) (hm : m ≤ 1000) (k : ∀ (ws : List Str) p', (∀ x ∈ ws, x ∈ os ++ ps ++ qs) → ws.length ≤ 2 * m → bal os qs ws 0 = some 0 → PotOk p' → P true (.list (ws.map .str)) [.io 0 p', .shr (shD os ps qs), .shr (.int (m : Int))]) : (dLShut [.io 0 p, .shr (shD os ps qs), .shr (.int (m : Int))]).to (k := ⟨P, E⟩) := by
  unfold dLShut gLShut
  rw [runD_to]
  simp -dsimp -implicitDefEqProofs
  have o1 := hS.o1
  have o4 := hS.o4
  have p4 := hS.p4
  have c1 := hS.c1
  have c4 := hS.c4
  have e0 := eq_nilT (Sht.ps hS)
  have e1 := ne_nilT (Sht.ps hS)
  refine pickN_c (n := m + 1) hp (by omega) (by omega) fun n p1 hn hp1 => ?_
  simp -dsimp -implicitDefEqProofs [rng_ok (show n ≤ 1000000 by omega)]
  refine for_ok0 (ShutI os ps qs m) ⟨0, [], p1, none, none, Nat.le_refl _, rfl, fun x h => (List.not_mem_nil h).elim, rfl, hp1, rfl⟩ ?_ ?_
  · rintro i d e hd ⟨wt, ws, p2, x5, x6, h1, h2, h3, h4, hp2, rfl⟩
    obtain ⟨rfl, hi⟩ := rng_get hd
    have hl : (ws.map PyData.str).length < 1000000 := by rw [List.length_map]; omega
    simp -dsimp -implicitDefEqProofs
    refine pick_c hp2 (by decide) (by decide) fun way p3 hway hp3 => ?_
    have fin : ∀ (x : Str) (wt' : Nat) (z : Int) p4, x ∈ os ++ ps ++ qs → bal os qs [x] wt = some wt' → wt' ≤ i + 1 → z = (wt' : Int) → PotOk p4 → ∀ y5 y6, ShutI os ps qs m (i + 1) [some (Slot.io 0 p4), some (Slot.shr (shD os ps qs)), some (Slot.shr (.int (m : Int))), some (Slot.own (.list (ws.map .str ++ [.str x]))), some (Slot.shr (.int z)), y5, y6] := fun x wt' z p4 hx hb hw hz hp4 y5 y6 => by
      refine ⟨wt', ws ++ [x], p4, y5, y6, hw, by rw [List.length_append, h2]; rfl, fun y hy => ?_, by rw [bal_app, h4]; exact hb, hp4, by rw [List.map_append, hz]; rfl⟩
      rcases List.mem_append.mp hy with z | z
      · exact h3 y z
      · rw [List.mem_singleton.mp z]
        exact hx
    have opn : ∀ x ∈ os, x ∈ os ++ ps ++ qs ∧ bal os qs [x] wt = some (wt + 1) := fun x hx => ⟨List.mem_append.mpr (.inl (List.mem_append.mpr (.inl hx))), bal_one_op hx wt⟩
    have pln : ∀ x ∈ ps, x ∈ os ++ ps ++ qs ∧ bal os qs [x] wt = some wt := fun x hx => ⟨List.mem_append.mpr (.inl (List.mem_append.mpr (.inr hx))), bal_one_pl hS hx wt⟩
    have cls : ∀ x ∈ qs, 0 < wt → x ∈ os ++ ps ++ qs ∧ bal os qs [x] wt = some (wt - 1) := fun x hx hw => ⟨List.mem_append.mpr (.inr hx), by
      obtain ⟨w, rfl⟩ : ∃ w, wt = w + 1 := ⟨wt - 1, by omega⟩
      exact bal_one_cl hS hx w⟩
    have ew : ((way : Int) < 2) = (way < 2) := by simp only [eq_iff_iff]; omega
    have e2 : ((way : Int) = 2) = (way = 2) := by simp only [eq_iff_iff]; omega
    have ez : ((wt : Int) = 0) = (wt = 0) := by simp only [eq_iff_iff]; omega
    have plain : ps ≠ [] → 0 < ps.length := fun h => by
      cases ps with
      | nil => exact absurd rfl h
      | cons a b => exact Nat.succ_pos _
    by_cases a1 : way < 2
    · simp -dsimp -implicitDefEqProofs [a1, ew]
      refine pickN_c (n := os.length) hp3 (by omega) (by omega) fun v p4 hv hp4 => ?_
      obtain ⟨x, hx, ex⟩ := ix_strs hv
      simp -dsimp -implicitDefEqProofs [ex, append_l hl]
      exact fin x (wt + 1) _ p4 (opn x hx).1 (opn x hx).2 (by omega) (by omega) hp4 _ _
    · by_cases a2 : ps = []
      · rw [decide_eq_true a2] at e0 e1
        by_cases a3 : wt = 0
        · simp -dsimp -implicitDefEqProofs [a1, ew, e0, ez, a3]
          refine pickN_c (n := os.length) hp3 (by omega) (by omega) fun v p4 hv hp4 => ?_
          obtain ⟨x, hx, ex⟩ := ix_strs hv
          simp -dsimp -implicitDefEqProofs [ex, append_l hl]
          exact fin x (wt + 1) _ p4 (opn x hx).1 (opn x hx).2 (by omega) (by omega) hp4 _ _
        · simp -dsimp -implicitDefEqProofs [a1, ew, e0, e1, a3, ez, e2]
          have close : ∀ v p4, v < qs.length → PotOk p4 → True := fun _ _ _ _ => trivial
          by_cases a4 : way = 2
          · simp -dsimp -implicitDefEqProofs [a4, e1, a3, ez]
            refine pickN_c (n := qs.length) hp3 (by omega) (by omega) fun v p4 hv hp4 => ?_
            obtain ⟨x, hx, ex⟩ := ix_strs hv
            simp -dsimp -implicitDefEqProofs [ex, append_l hl]
            exact fin x (wt - 1) _ p4 (cls x hx (by omega)).1 (cls x hx (by omega)).2 (by omega) (by omega) hp4 _ _
          · simp -dsimp -implicitDefEqProofs [a4, e1, a3, ez]
            refine pickN_c (n := qs.length) hp3 (by omega) (by omega) fun v p4 hv hp4 => ?_
            obtain ⟨x, hx, ex⟩ := ix_strs hv
            simp -dsimp -implicitDefEqProofs [ex, append_l hl]
            exact fin x (wt - 1) _ p4 (cls x hx (by omega)).1 (cls x hx (by omega)).2 (by omega) (by omega) hp4 _ _
      · have pl := plain a2
        rw [decide_eq_false a2] at e0 e1
        simp -dsimp -implicitDefEqProofs [a1, ew, e0]
        by_cases a4 : way = 2
        · simp -dsimp -implicitDefEqProofs [a4, e1, e2]
          refine pickN_c (n := ps.length) hp3 (by omega) (by omega) fun v p4 hv hp4 => ?_
          obtain ⟨x, hx, ex⟩ := ix_strs hv
          simp -dsimp -implicitDefEqProofs [ex, append_l hl]
          exact fin x wt _ p4 (pln x hx).1 (pln x hx).2 (by omega) rfl hp4 _ _
        · by_cases a3 : wt = 0
          · simp -dsimp -implicitDefEqProofs [a4, e2, a3, ez]
            refine pickN_c (n := ps.length) hp3 (by omega) (by omega) fun v p4 hv hp4 => ?_
            obtain ⟨x, hx, ex⟩ := ix_strs hv
            simp -dsimp -implicitDefEqProofs [ex, append_l hl]
            exact fin x wt _ p4 (pln x hx).1 (pln x hx).2 (by omega) (by omega) hp4 _ _
          · simp -dsimp -implicitDefEqProofs [a4, e2, a3, ez]
            refine pickN_c (n := qs.length) hp3 (by omega) (by omega) fun v p4 hv hp4 => ?_
            obtain ⟨x, hx, ex⟩ := ix_strs hv
            simp -dsimp -implicitDefEqProofs [ex, append_l hl]
            exact fin x (wt - 1) _ p4 (cls x hx (by omega)).1 (cls x hx (by omega)).2 (by omega) (by omega) hp4 _ _
  · rintro e ⟨wt, ws, p2, x5, x6, h1, h2, h3, h4, hp2, rfl⟩
    have h1 : wt ≤ n := by simpa using h1
    have h2 : ws.length = n := by simpa using h2
    simp -dsimp -implicitDefEqProofs [rng_ok (show wt ≤ 1000000 by omega)]
    refine lc_go (ShutJ os ps qs m wt · ws) (by simp; omega) ⟨[], p2, x6, rfl, rfl, fun x h => (List.not_mem_nil h).elim, hp2, rfl⟩ ?_ ?_
    · rintro i d acc e hd ⟨us, p3, y6, rfl, g1, g2, hp3, rfl⟩
      simp -dsimp -implicitDefEqProofs
      refine pickN_c (n := qs.length) hp3 (by omega) (by omega) fun v p4 hv hp4 => ?_
      obtain ⟨x, hx, ex⟩ := ix_strs hv
      simp -dsimp -implicitDefEqProofs [ex]
      refine ⟨us ++ [x], p4, y6, by rw [List.map_append]; rfl, by rw [List.length_append, g1]; rfl, fun y hy => ?_, hp4, rfl⟩
      rcases List.mem_append.mp hy with z | z
      · exact g2 y z
      · rw [List.mem_singleton.mp z]
        exact hx
    · rintro acc e ⟨us, p3, y6, rfl, g1, g2, hp3, rfl⟩
      have g1 : us.length = wt := by simpa using g1
      simp -dsimp -implicitDefEqProofs [addL_list (xs := ws.map PyData.str) (ys := us.map PyData.str) (by rw [List.length_map, List.length_map]; omega)]
      rw [← List.map_append]
      refine k (ws ++ us) p3 (fun x hx => ?_) (by rw [List.length_append]; omega) ?_ hp3
      · rcases List.mem_append.mp hx with z | z
        · exact h3 x z
        · exact List.mem_append.mpr (.inr (g2 x z))
      · rw [bal_app, h4, ← g1]
        exact bal_closes hS us g2
end Dl
set_option Elab.async false
set_option linter.all false
set_option maxRecDepth 100000
set_option maxHeartbeats 4000000
namespace Eh
open PySem PySem.Spec PyProof.Rows L2 Evl Dl
def sumO : List (Option Nat) → Option Nat
  | [] => some 0
  | none :: _ => none
  | some a :: r => (sumO r).map (a + ·)
/-- how many sayings a saying has in all, no more than n within one another -/
def cnt (F : PyData → Bool) (C : PyData → List PyData) : Nat → PyData → Option Nat
  | 0, _ => none
  | n + 1, d => if F d = true then (sumO ((C d).map (cnt F C n))).map (1 + ·) else none
theorem sumO_cons (x : Option Nat) (r : List (Option Nat)) : sumO (x :: r) = (match x, sumO r with | some a, some b => some (a + b) | _, _ => none) := by
  cases x with
  | none => rfl
  | some a =>
    show (sumO r).map (a + ·) = _
    cases sumO r <;> rfl
theorem sumO_app : ∀ (a b : List (Option Nat)), sumO (a ++ b) = (match sumO a, sumO b with | some x, some y => some (x + y) | _, _ => none)
  | [], b => by
    show sumO b = _
    cases h : sumO b with
    | none => rfl
    | some y =>
      show some y = some (0 + y)
      rw [Nat.zero_add]
  | x :: a, b => by
    rw [List.cons_append, sumO_cons, sumO_app a b, sumO_cons]
    cases x with
    | none => rfl
    | some n =>
      cases sumO a with
      | none => rfl
      | some m =>
        cases sumO b with
        | none => rfl
        | some l =>
          show some (n + (m + l)) = some (n + m + l)
          rw [Nat.add_assoc]
theorem sumO_rev : ∀ a : List (Option Nat), sumO a.reverse = sumO a
  | [] => rfl
  | x :: a => by
    rw [List.reverse_cons, sumO_app, sumO_rev a, sumO_cons x a, sumO_cons x []]
    cases x with
    | none => cases sumO a <;> rfl
    | some n =>
      cases sumO a with
      | none => rfl
      | some m =>
        show some (m + (n + 0)) = some (n + m)
        rw [Nat.add_zero, Nat.add_comm]
theorem cnt_pos {F : PyData → Bool} {C : PyData → List PyData} {n c : Nat} {d : PyData} (h : cnt F C n d = some c) : 1 ≤ c := by
  cases n with
  | zero => cases h
  | succ n =>
    unfold cnt at h
    split at h
    · cases e : sumO ((C d).map (cnt F C n)) with
      | none =>
        rw [e] at h
        cases h
      | some m =>
        rw [e] at h
        have : 1 + m = c := Option.some.inj h
        omega
    · cases h
theorem sumO_up {α : Type} {f g : α → Option Nat} : ∀ (l : List α), (∀ x ∈ l, ∀ c, f x = some c → g x = some c) → ∀ c, sumO (l.map f) = some c → sumO (l.map g) = some c
  | [], _, c, h => h
  | x :: l, hl, c, h => by
    rw [List.map_cons, sumO_cons] at h ⊢
    cases ef : f x with
    | none =>
      rw [ef] at h
      cases h
    | some a =>
      rw [ef] at h
      rw [hl x (.head _) a ef]
      cases es : sumO (l.map f) with
      | none =>
        rw [es] at h
        cases h
      | some b =>
        rw [es] at h
        rw [sumO_up l (fun y hy => hl y (.tail _ hy)) b es]
        exact h
theorem cnt_up {F : PyData → Bool} {C : PyData → List PyData} : ∀ {n c : Nat} {d : PyData}, cnt F C n d = some c → cnt F C (n + 1) d = some c
  | 0, c, d, h => by cases h
  | n + 1, c, d, h => by
    unfold cnt at h ⊢
    split at h
    · rename_i hf
      rw [if_pos hf]
      cases e : sumO ((C d).map (cnt F C n)) with
      | none =>
        rw [e] at h
        cases h
      | some m =>
        rw [e] at h
        rw [sumO_up _ (fun x _ c hc => cnt_up hc) m e]
        exact h
    · cases h
theorem cnt_mono {F : PyData → Bool} {C : PyData → List PyData} {n m c : Nat} {d : PyData} (h : cnt F C n d = some c) (nm : n ≤ m) : cnt F C m d = some c := by
  induction nm with
  | refl => exact h
  | step _ ih => exact cnt_up ih
/-- what is asked of a pile of things, each with how deep it stands -/
def dfs (F : PyData → Bool) (C : PyData → List PyData) (D : Nat) : Nat → List (PyData × Nat) → Bool
  | _, [] => true
  | 0, _ :: _ => false
  | n + 1, (d, l) :: W => if l ≤ D ∧ F d = true then dfs F C D n (((C d).map fun k => (k, l + 1)).reverse ++ W) else false
def okO (n : Nat) : Option Nat → Bool
  | some c => decide (c ≤ n)
  | none => false
theorem dfs_eq (F : PyData → Bool) (C : PyData → List PyData) (D : Nat) : ∀ (n : Nat) (W : List (PyData × Nat)), dfs F C D n W = okO n (sumO (W.map fun x => cnt F C (D + 1 - x.2) x.1))
  | n, [] => by
    cases n with
    | zero => rfl
    | succ n =>
      show true = decide (0 ≤ n + 1)
      rw [decide_eq_true (Nat.zero_le _)]
  | 0, (d, l) :: W => by
    show false = okO 0 (sumO (cnt F C (D + 1 - l) d :: W.map _))
    rw [sumO_cons]
    cases e : cnt F C (D + 1 - l) d with
    | none => rfl
    | some c =>
      have := cnt_pos e
      cases sumO (W.map fun x => cnt F C (D + 1 - x.2) x.1) with
      | none => rfl
      | some b =>
        show false = decide (c + b ≤ 0)
        rw [decide_eq_false (by omega)]
  | n + 1, (d, l) :: W => by
    show (if l ≤ D ∧ F d = true then dfs F C D n (((C d).map fun k => (k, l + 1)).reverse ++ W) else false) = okO (n + 1) (sumO (cnt F C (D + 1 - l) d :: W.map _))
    by_cases hl : l ≤ D
    · obtain ⟨m, hm⟩ : ∃ m, D + 1 - l = m + 1 := ⟨D - l, by omega⟩
      have hm2 : D + 1 - (l + 1) = m := by omega
      by_cases hf : F d = true
      · rw [if_pos ⟨hl, hf⟩, dfs_eq F C D n, hm, sumO_cons]
        rw [List.map_append, List.map_reverse, List.map_map, sumO_app, sumO_rev]
        have e1 : ((fun x : PyData × Nat => cnt F C (D + 1 - x.2) x.1) ∘ fun k => (k, l + 1)) = cnt F C m := by
          funext k
          show cnt F C (D + 1 - (l + 1)) k = _
          rw [hm2]
        rw [e1]
        have e2 : cnt F C (m + 1) d = (sumO ((C d).map (cnt F C m))).map (1 + ·) := by
          rw [cnt, if_pos hf]
        rw [e2]
        cases sumO ((C d).map (cnt F C m)) with
        | none => rfl
        | some a =>
          cases sumO (W.map fun x => cnt F C (D + 1 - x.2) x.1) with
          | none => rfl
          | some b =>
            show decide (a + b ≤ n) = decide (1 + a + b ≤ n + 1)
            rw [decide_eq_decide]
            omega
      · rw [if_neg (fun h => hf h.2), hm, cnt, if_neg hf]
        rfl
    · rw [if_neg (fun h => hl h.1), show D + 1 - l = 0 by omega]
      rfl
/-- the law's own look: layer by layer -/
def dueL (F : PyData → Bool) (C : PyData → List PyData) (M : Nat) : Nat → List PyData → Nat → Bool
  | 0, layer, many => layer.isEmpty && decide (many ≤ M)
  | n + 1, layer, many => if layer.all (F) = true then dueL F C M n (layer.flatMap C) (many + layer.length) else false
theorem sum_layer {F : PyData → Bool} {C : PyData → List PyData} {n : Nat} : ∀ layer : List PyData, layer.all (F) = true → sumO (layer.map (cnt F C (n + 1))) = (sumO ((layer.flatMap C).map (cnt F C n))).map (layer.length + ·)
  | [], _ => rfl
  | d :: r, h => by
    rw [List.all_cons, Bool.and_eq_true] at h
    rw [List.map_cons, sumO_cons, sum_layer r h.2, List.flatMap_cons, List.map_append, sumO_app, cnt, if_pos h.1]
    cases sumO ((C d).map (cnt F C n)) with
    | none => rfl
    | some a =>
      cases sumO ((r.flatMap C).map (cnt F C n)) with
      | none => rfl
      | some b =>
        show some (1 + a + (r.length + b)) = some ((r.length + 1) + (a + b))
        congr 1
        omega
theorem sum_bad {F : PyData → Bool} {C : PyData → List PyData} {n : Nat} : ∀ layer : List PyData, layer.all (F) ≠ true → sumO (layer.map (cnt F C (n + 1))) = none
  | [], h => absurd rfl h
  | d :: r, h => by
    rw [List.map_cons, sumO_cons]
    by_cases hf : F d = true
    · rw [sum_bad r (fun z => h (by rw [List.all_cons, hf, z]; rfl))]
      cases cnt F C (n + 1) d <;> rfl
    · rw [cnt, if_neg hf]
theorem due_eq (F : PyData → Bool) (C : PyData → List PyData) (M : Nat) : ∀ (n : Nat) (layer : List PyData) (many : Nat), dueL F C M n layer many = okO M ((sumO (layer.map (cnt F C n))).map (many + ·))
  | 0, layer, many => by
    cases layer with
    | nil =>
      show (true && decide (many ≤ M)) = decide (many + 0 ≤ M)
      rw [Bool.true_and, decide_eq_decide]
      omega
    | cons d r => rfl
  | n + 1, layer, many => by
    show (if layer.all (F) = true then dueL F C M n (layer.flatMap C) (many + layer.length) else false) = _
    by_cases h : layer.all (F) = true
    · rw [if_pos h, due_eq F C M n, sum_layer layer h]
      cases sumO ((layer.flatMap C).map (cnt F C n)) with
      | none => rfl
      | some a =>
        show decide (many + layer.length + a ≤ M) = decide (many + (layer.length + a) ≤ M)
        rw [Nat.add_assoc]
    · rw [if_neg h, sum_bad layer h]
      rfl
/-- whether a thing is one: no more than D within one another, no more than M in all -/
def isD (F : PyData → Bool) (C : PyData → List PyData) (D M : Nat) (d : PyData) : Bool := okO M (cnt F C D d)
theorem dfs_is (F : PyData → Bool) (C : PyData → List PyData) (D M : Nat) (d : PyData) : dfs F C D M [(d, 1)] = isD F C D M d := by
  rw [dfs_eq]
  show okO M (sumO [cnt F C (D + 1 - 1) d]) = _
  rw [sumO_cons, Nat.add_sub_cancel]
  unfold isD
  cases cnt F C D d <;> rfl
theorem due_is (F : PyData → Bool) (C : PyData → List PyData) (D M : Nat) (d : PyData) : dueL F C M D [d] 0 = isD F C D M d := by
  rw [due_eq]
  show okO M ((sumO [cnt F C D d]).map (0 + ·)) = _
  rw [sumO_cons]
  unfold isD
  cases cnt F C D d with
  | none => rfl
  | some c =>
    show decide (0 + (c + 0) ≤ M) = decide (c ≤ M)
    rw [Nat.zero_add, Nat.add_zero]
theorem piled_le {B : Nat} : ∀ (ts : List Str), (∀ t ∈ ts, t.length ≤ B) → piled ts ≤ ts.length * (B + 2)
  | [], _ => by
    rw [piled_nil]
    omega
  | t :: r, h => by
    have := piled_le r fun x hx => h x (.tail _ hx)
    have h1 := h t (.head _)
    rw [piled_cons, List.length_cons, Nat.add_mul]
    omega
theorem from_len : ∀ (ts : List Str) (k : Nat) (acc : Str), (textFrom k acc ts).length ≤ acc.length + piled ts
  | [], k, acc => by
    show acc.length ≤ _
    omega
  | t :: r, k, acc => by
    have ih := from_len r (k + 1) (acc ++ (if k > 0 then ", " else "" : String) ++ t)
    have e : (((if k > 0 then ", " else "" : String) : Str)).length ≤ 2 := by split <;> decide +kernel
    rw [strLen_append, strLen_append] at ih
    rw [piled_cons]
    show (textFrom (k + 1) (acc ++ (if k > 0 then ", " else "" : String) ++ t) r).length ≤ _
    omega
theorem list_len (ts : List Str) : (listText ts).length ≤ piled ts + 2 := by
  have h := from_len ts 0 "["
  have e1 : ((("[" : String) : Str)).length = 1 := rfl
  have e2 : ((("]" : String) : Str)).length = 1 := rfl
  unfold listText
  rw [strLen_append, e2]
  rw [e1] at h
  omega
theorem shownAll_map : ∀ ds : List PyData, PyData.shownAll ds = ds.map PyData.shown
  | [] => rfl
  | d :: r => by
    rw [PyData.shownAll, shownAll_map r, List.map_cons]
theorem all_show : ∀ ds : List PyData, (∀ d ∈ ds, d.showable = true) → PyData.showableAll ds = true
  | [], _ => rfl
  | d :: r, h => by
    rw [PyData.showableAll, h d (.head _), all_show r fun x hx => h x (.tail _ hx)]
    rfl
theorem all_nod : ∀ ds : List PyData, (∀ d ∈ ds, d.hasDict = false) → PyData.hasDictAll ds = false
  | [], _ => rfl
  | d :: r, h => by
    rw [PyData.hasDictAll, h d (.head _), all_nod r fun x hx => h x (.tail _ hx)]
    rfl
theorem all_dep {k : Nat} : ∀ ds : List PyData, (∀ d ∈ ds, d.depth ≤ k) → PyData.depthAll ds ≤ k
  | [], _ => Nat.zero_le _
  | d :: r, h => by
    have a := h d (.head _)
    have b := all_dep r fun x hx => h x (.tail _ hx)
    show max d.depth (PyData.depthAll r) ≤ k
    omega
/-- nothing in it is great, all signs plain; no more than k within one another -/
inductive Gk : Nat → PyData → Prop
  | non {k : Nat} : Gk k .none
  | bl {k : Nat} (b : Bool) : Gk k (.bool b)
  | int {k : Nat} {i : Int} (h : i.natAbs.log2 < 300) : Gk k (.int i)
  | str {k : Nat} {x : Str} (h : (cs x).length ≤ 40) (h2 : ∀ c ∈ cs x, c < 128) : Gk k (.str x)
  | lst {k : Nat} {ds : List PyData} (n : ds.length ≤ 70) (h : ∀ d ∈ ds, Gk k d) : Gk (k + 1) (.list ds)
  | tup {k : Nat} {ds : List PyData} (n : ds.length ≤ 70) (h : ∀ d ∈ ds, Gk k d) : Gk (k + 1) (.tuple ds)
theorem Gk.up {k : Nat} {d : PyData} (h : Gk k d) : Gk (k + 1) d := by
  induction h with
  | non => exact .non
  | bl b => exact .bl b
  | int h => exact .int h
  | str h h2 => exact .str h h2
  | lst n _ ih => exact .lst n ih
  | tup n _ ih => exact .tup n ih
theorem Gk.mono {k m : Nat} {d : PyData} (h : Gk k d) (hm : k ≤ m) : Gk m d := by
  induction hm with
  | refl => exact h
  | step _ ih => exact ih.up
theorem Gk.can {k : Nat} {d : PyData} (h : Gk k d) : d.showable = true ∧ d.hasDict = false ∧ d.depth ≤ k := by
  induction h with
  | non => exact ⟨rfl, rfl, Nat.zero_le _⟩
  | bl b => exact ⟨rfl, rfl, Nat.zero_le _⟩
  | int h => exact ⟨decide_eq_true (by omega), rfl, Nat.zero_le _⟩
  | str h h2 => exact ⟨rfl, rfl, Nat.zero_le _⟩
  | lst n h ih => exact ⟨all_show _ fun d hd => (ih d hd).1, all_nod _ fun d hd => (ih d hd).2.1, Nat.succ_le_succ (all_dep _ fun d hd => (ih d hd).2.2)⟩
  | tup n h ih => exact ⟨all_show _ fun d hd => (ih d hd).1, all_nod _ fun d hd => (ih d hd).2.1, Nat.succ_le_succ (all_dep _ fun d hd => (ih d hd).2.2)⟩
theorem all_lay : ∀ ds : List PyData, (∀ d ∈ ds, d.canLay0 = true) → PyData.canLayAll0 ds = true
  | [], _ => rfl
  | d :: r, h => by
    rw [PyData.canLayAll0, h d (.head _), all_lay r fun x hx => h x (.tail _ hx)]
    rfl
theorem Gk.lay {k : Nat} {d : PyData} (h : Gk k d) : d.canLay0 = true := by
  induction h with
  | non => rfl
  | bl b => rfl
  | int h => rfl
  | @str k x h h2 =>
    show PyData.strOk x = true
    unfold PyData.strOk
    rw [← Array.all_toList, List.all_eq_true]
    intro c hc
    have := h2 c hc
    exact decide_eq_true (by omega)
  | lst n h ih => exact all_lay _ ih
  | tup n h ih => exact all_lay _ ih
theorem Gk.shaped {k : Nat} {d : PyData} (h : Gk k d) (hk : k ≤ 64) : SeqAt.shaped d = true := by
  unfold SeqAt.shaped
  rw [Bool.and_eq_true]
  exact ⟨h.lay, decide_eq_true (Nat.le_trans h.can.2.2 hk)⟩
mutual
/-- how much is in it -/
def wt : PyData → Nat
  | .list ds => 1 + wtAll ds
  | .tuple ds => 1 + wtAll ds
  | _ => 1
def wtAll : List PyData → Nat
  | [] => 0
  | d :: r => wt d + wtAll r
end
theorem wtAll_app : ∀ a b : List PyData, wtAll (a ++ b) = wtAll a + wtAll b
  | [], b => by
    show wtAll b = 0 + wtAll b
    omega
  | d :: a, b => by
    show wt d + wtAll (a ++ b) = wt d + wtAll a + wtAll b
    rw [wtAll_app a b]
    omega
theorem wtAll_mem {d : PyData} : ∀ {l : List PyData}, d ∈ l → wt d ≤ wtAll l
  | x :: r, h => by
    show wt d ≤ wt x + wtAll r
    rcases List.mem_cons.mp h with e | e
    · rw [e]
      omega
    · have := wtAll_mem e
      omega
theorem piledW : ∀ ds : List PyData, (∀ d ∈ ds, d.shown.length ≤ 600 * wt d) → piled (ds.map PyData.shown) ≤ 600 * wtAll ds + 2 * ds.length
  | [], _ => by
    show piled [] ≤ _
    rw [piled_nil]
    omega
  | d :: r, h => by
    have a := h d (.head _)
    have b := piledW r fun x hx => h x (.tail _ hx)
    rw [List.map_cons, piled_cons, List.length_cons]
    show _ ≤ 600 * (wt d + wtAll r) + _
    omega
theorem Gk.shownW {k : Nat} {d : PyData} (h : Gk k d) : d.shown.length ≤ 600 * wt d := by
  induction h with
  | non => exact (show (PyData.none).shown.length ≤ 600 by decide +kernel)
  | bl b => exact (show (PyData.bool b).shown.length ≤ 600 by cases b <;> decide +kernel)
  | @int k i h =>
    have e := int_text_length_le (k := 300) (by decide) h
    show (Str.ofString (toString i)).length ≤ 600
    rw [PySem.ofString_length]
    omega
  | @str k x h h2 =>
    have e := StrLaws.reprText_len x fun c hc => Nat.lt_trans (h2 c hc) (by decide)
    show (reprText x).length ≤ 600
    have e2 : x.length = (cs x).length := len_cs x
    omega
  | @lst k ds n h ih =>
    show (listText (PyData.shownAll ds)).length ≤ 600 * (1 + wtAll ds)
    rw [shownAll_map]
    have a := list_len (ds.map PyData.shown)
    have b := piledW ds ih
    omega
  | @tup k ds n h ih =>
    show (tupleText (PyData.shownAll ds)).length ≤ 600 * (1 + wtAll ds)
    rw [shownAll_map]
    have a := fmt_text (ds.map PyData.shown)
    have b := piledW ds ih
    omega
theorem gk_lit {k : Nat} {x : Str} (h : (cs x).length ≤ 40 ∧ ∀ c ∈ cs x, c < 128) : Gk k (.str x) := .str h.1 h.2
theorem gk_ltr {k : Nat} {x : Str} (h : Ltr x) : Gk k (.str x) := .str (by have := h.2.2; omega) fun c hc => by
  have := h.1 c hc
  unfold az at this
  omega
theorem wt_pos (d : PyData) : 1 ≤ wt d := by
  cases d <;> unfold wt <;> omega
theorem len_wt : ∀ ds : List PyData, ds.length ≤ wtAll ds
  | [] => Nat.zero_le _
  | d :: r => by
    have := wt_pos d
    have := len_wt r
    show r.length + 1 ≤ wt d + wtAll r
    omega
theorem gk_dep {k : Nat} {ds : List PyData} (h : ∀ d ∈ ds, Gk k d) : PyData.depthAll ds ≤ k := all_dep ds fun d hd => (h d hd).can.2.2
theorem list_shaped {k : Nat} {ds : List PyData} (h : ∀ d ∈ ds, Gk k d) (hk : k ≤ 63) : SeqAt.shaped (.list ds) = true := by
  unfold SeqAt.shaped
  rw [Bool.and_eq_true]
  refine ⟨all_lay ds fun d hd => (h d hd).lay, decide_eq_true ?_⟩
  have := gk_dep h
  show PyData.depthAll ds + 1 ≤ 64
  omega
theorem wt_sub {a b : List PyData} (h : a.Sublist b) : wtAll a ≤ wtAll b := by
  induction h with
  | slnil => exact Nat.le_refl _
  | cons x _ ih =>
    show _ ≤ wt x + _
    omega
  | cons_cons x _ ih =>
    show wt x + _ ≤ wt x + _
    omega
theorem wt_put {ds : List PyData} {i : Nat} {e : PyData} (h : ds[i]? = some e) (o : PyData) : wtAll (ds.take i ++ [o] ++ ds.drop (i + 1)) + wt e = wtAll ds + wt o := by
  obtain ⟨hi, he⟩ := List.getElem?_eq_some_iff.mp h
  have e1 : ds = ds.take i ++ (e :: ds.drop (i + 1)) := by
    rw [← he, ← List.drop_eq_getElem_cons hi, List.take_append_drop]
  have e2 : wtAll ds = wtAll (ds.take i) + (wt e + wtAll (ds.drop (i + 1))) := by
    rw [e1]
    rw [wtAll_app]
    rw [← e1]
    rfl
  rw [wtAll_app, wtAll_app]
  have e3 : wtAll [o] = wt o + 0 := rfl
  omega
theorem mem_put {ds : List PyData} {i : Nat} {o x : PyData} (h : x ∈ ds.take i ++ [o] ++ ds.drop (i + 1)) : x ∈ ds ∨ x = o := by
  rcases List.mem_append.mp h with z | z
  · rcases List.mem_append.mp z with z | z
    · exact .inl (List.mem_of_mem_take z)
    · exact .inr (List.mem_singleton.mp z)
  · exact .inl (List.mem_of_mem_drop z)
theorem len_put {ds : List PyData} {i : Nat} {o : PyData} : (ds.take i ++ [o] ++ ds.drop (i + 1)).length ≤ ds.length + 1 := by
  rw [List.length_append, List.length_append, List.length_take, List.length_drop, List.length_singleton]
  omega
/-! great words, as data -/
def strD : PyData → Str
  | .str x => x
  | _ => ""
def shutB (os qs ws : List Str) : Bool := (aloneOf os qs ws (ansOf os qs ws)).isEmpty
def shortD (os ps qs : List Str) : PyData → Bool
  | .tuple ds => (decide (ds.length ≤ 60) && ds.all (inL (os ++ ps ++ qs))) && shutB os qs (ds.map strD)
  | _ => false
def timesD : PyData → Bool
  | .int i => decide (0 ≤ i) && decide (i ≤ 10 ^ 60)
  | _ => false
def fWord (os ps qs : List Str) : List PyData → Bool
  | [x] => shortD os ps qs x
  | _ => false
def fRow : List PyData → Bool
  | [.tuple ds] => decide (ds.length ≤ 8)
  | _ => false
def fAgain : List PyData → Bool
  | [n, _] => timesD n
  | _ => false
def fWrap (os qs : List Str) : List PyData → Bool
  | [n, a, _, c] => timesD n && (inL os a && inL qs c)
  | _ => false
def fBy (os ps qs : List Str) (h : Str) (r : List PyData) : Bool := if h = ("word" : Str) then fWord os ps qs r else if h = ("row" : Str) then fRow r else if h = ("again" : Str) then fAgain r else if h = ("wrap" : Str) then fWrap os qs r else false
def formG (os ps qs : List Str) : PyData → Bool
  | .tuple (.str h :: r) => fBy os ps qs h r
  | _ => false
def kRow : List PyData → List PyData
  | [.tuple ds] => ds
  | _ => []
def kAgain : List PyData → List PyData
  | [_, x] => [x]
  | _ => []
def kWrap : List PyData → List PyData
  | [_, _, x, _] => [x]
  | _ => []
def kBy (h : Str) (r : List PyData) : List PyData := if h = ("row" : Str) then kRow r else if h = ("again" : Str) then kAgain r else if h = ("wrap" : Str) then kWrap r else []
def kidsG : PyData → List PyData
  | .tuple (.str h :: r) => kBy h r
  | _ => []
theorem formG_eq (os ps qs : List Str) (h : Str) (r : List PyData) : formG os ps qs (.tuple (.str h :: r)) = fBy os ps qs h r := rfl
theorem kidsG_eq (h : Str) (r : List PyData) : kidsG (.tuple (.str h :: r)) = kBy h r := rfl
theorem by_word (os ps qs : List Str) (r : List PyData) : fBy os ps qs "word" r = fWord os ps qs r := by
  unfold fBy
  rw [if_pos rfl]
theorem by_row (os ps qs : List Str) (r : List PyData) : fBy os ps qs "row" r = fRow r := by
  unfold fBy
  rw [if_neg (by decide +kernel), if_pos rfl]
theorem by_again (os ps qs : List Str) (r : List PyData) : fBy os ps qs "again" r = fAgain r := by
  unfold fBy
  rw [if_neg (by decide +kernel), if_neg (by decide +kernel), if_pos rfl]
theorem by_wrap (os ps qs : List Str) (r : List PyData) : fBy os ps qs "wrap" r = fWrap os qs r := by
  unfold fBy
  rw [if_neg (by decide +kernel), if_neg (by decide +kernel), if_neg (by decide +kernel), if_pos rfl]
theorem k_word (r : List PyData) : kBy "word" r = [] := by
  unfold kBy
  rw [if_neg (by decide +kernel), if_neg (by decide +kernel), if_neg (by decide +kernel)]
theorem k_row (r : List PyData) : kBy "row" r = kRow r := by
  unfold kBy
  rw [if_pos rfl]
theorem k_again (r : List PyData) : kBy "again" r = kAgain r := by
  unfold kBy
  rw [if_neg (by decide +kernel), if_pos rfl]
theorem k_wrap (r : List PyData) : kBy "wrap" r = kWrap r := by
  unfold kBy
  rw [if_neg (by decide +kernel), if_neg (by decide +kernel), if_pos rfl]
/-- what is a form is one of four -/
theorem form_four {os ps qs : List Str} {d : PyData} (h : formG os ps qs d = true) : (∃ x, d = .tuple [.str "word", x] ∧ shortD os ps qs x = true ∧ kidsG d = []) ∨ (∃ ds, d = .tuple [.str "row", .tuple ds] ∧ ds.length ≤ 8 ∧ kidsG d = ds) ∨ (∃ n x, d = .tuple [.str "again", n, x] ∧ timesD n = true ∧ kidsG d = [x]) ∨ (∃ n a x c, d = .tuple [.str "wrap", n, a, x, c] ∧ timesD n = true ∧ inL os a = true ∧ inL qs c = true ∧ kidsG d = [x]) := by
  match d, h with
  | .tuple (.str hd :: r), h =>
    rw [formG_eq] at h
    by_cases h1 : hd = ("word" : Str)
    · subst h1
      rw [by_word] at h
      match r, h with
      | [x], h => exact .inl ⟨x, rfl, h, by rw [kidsG_eq, k_word]⟩
    by_cases h2 : hd = ("row" : Str)
    · subst h2
      rw [by_row] at h
      match r, h with
      | [.tuple ds], h => exact .inr (.inl ⟨ds, rfl, of_decide_eq_true h, by rw [kidsG_eq, k_row]; rfl⟩)
    by_cases h3 : hd = ("again" : Str)
    · subst h3
      rw [by_again] at h
      match r, h with
      | [n, x], h => exact .inr (.inr (.inl ⟨n, x, rfl, h, by rw [kidsG_eq, k_again]; rfl⟩))
    by_cases h4 : hd = ("wrap" : Str)
    · subst h4
      rw [by_wrap] at h
      match r, h with
      | [n, a, x, c], h =>
        have h' := Bool.and_eq_true_iff.mp h
        have h2 := Bool.and_eq_true_iff.mp h'.2
        exact .inr (.inr (.inr ⟨n, a, x, c, rfl, h'.1, h2.1, h2.2, by rw [kidsG_eq, k_wrap]; rfl⟩))
    unfold fBy at h
    rw [if_neg h1, if_neg h2, if_neg h3, if_neg h4] at h
    cases h
theorem eqv_s (d : PyData) (h : Str) : PyData.eqv d (.str h) = (match d with | .str x => x == h | _ => false) := by
  cases d <;> rfl
theorem strD_map (ws : List Str) : (ws.map PyData.str).map strD = ws := by
  rw [List.map_map]
  show ws.map (fun x => x) = ws
  rw [List.map_id']
theorem all_in {ls : List Str} : ∀ {ds : List PyData}, ds.all (inL ls) = true → ds = (ds.map strD).map PyData.str ∧ ∀ x ∈ ds.map strD, x ∈ ls
  | [], _ => ⟨rfl, fun x hx => by cases hx⟩
  | d :: r, h => by
    rw [List.all_cons, Bool.and_eq_true] at h
    obtain ⟨h1, h2⟩ := h
    obtain ⟨e, m⟩ := all_in h2
    match d, h1 with
    | .str x, h1 =>
      have hx : x ∈ ls := of_decide_eq_true h1
      refine ⟨?_, fun y hy => ?_⟩
      · rw [List.map_cons, List.map_cons, ← e]
        rfl
      · rcases List.mem_cons.mp hy with q | q
        · rw [q]
          exact hx
        · exact m y q
theorem kidsG_gk {k : Nat} {d : PyData} (h : Gk k d) : ∀ e ∈ kidsG d, Gk k e := by
  intro e he
  match d, h, he with
  | .tuple (.str hd :: r), .tup n hh, he =>
    have hr : ∀ z ∈ r, Gk _ z := fun z hz => hh z (.tail _ hz)
    rw [kidsG_eq] at he
    unfold kBy at he
    split at he
    · match r, hr, he with
      | [.tuple ds], hr, he =>
        have := hr (.tuple ds) (by simp)
        cases this with
        | tup n h2 => exact ((h2 e he).up).up
    · split at he
      · match r, hr, he with
        | [_, x], hr, he =>
          rw [List.mem_singleton.mp he]
          exact (hr x (by simp)).up
      · split at he
        · match r, hr, he with
          | [_, _, x, _], hr, he =>
            rw [List.mem_singleton.mp he]
            exact (hr x (by simp)).up
        · cases he
theorem kidsG_wt (d : PyData) : wtAll (kidsG d) ≤ wt d := by
  match d with
  | .tuple (.str hd :: r) =>
    rw [kidsG_eq]
    show _ ≤ 1 + (wt (.str hd) + wtAll r)
    unfold kBy
    split
    · unfold kRow
      split
      · show _ ≤ 1 + (1 + ((1 + wtAll _) + 0))
        omega
      · exact Nat.zero_le _
    · split
      · unfold kAgain
        split
        · rename_i a x
          show wt x + 0 ≤ 1 + (1 + (wt a + (wt x + 0)))
          omega
        · exact Nat.zero_le _
      · split
        · unfold kWrap
          split
          · rename_i a b x c
            show wt x + 0 ≤ 1 + (1 + (wt a + (wt b + (wt x + (wt c + 0)))))
            omega
          · exact Nat.zero_le _
        · exact Nat.zero_le _
  | .tuple [] => exact Nat.zero_le _
  | .tuple (.none :: _) => exact Nat.zero_le _
  | .tuple (.bool _ :: _) => exact Nat.zero_le _
  | .tuple (.int _ :: _) => exact Nat.zero_le _
  | .tuple (.list _ :: _) => exact Nat.zero_le _
  | .tuple (.tuple _ :: _) => exact Nat.zero_le _
  | .tuple (.dict _ :: _) => exact Nat.zero_le _
  | .none => exact Nat.zero_le _
  | .bool _ => exact Nat.zero_le _
  | .int _ => exact Nat.zero_le _
  | .str _ => exact Nat.zero_le _
  | .list _ => exact Nat.zero_le _
  | .dict _ => exact Nat.zero_le _
theorem layerG_wt : ∀ ds : List PyData, wtAll (ds.flatMap kidsG) ≤ wtAll ds
  | [] => Nat.le_refl _
  | d :: r => by
    have a := kidsG_wt d
    have b := layerG_wt r
    rw [List.flatMap_cons, wtAll_app]
    show _ ≤ wt d + wtAll r
    omega
end Eh
set_option Elab.async false
set_option linter.all false
set_option maxRecDepth 100000
set_option maxHeartbeats 4000000
namespace Dl
open PySem PySem.Spec PyProof.Rows L2 Evl Gx GxR RZ Eh
def iD (n : Nat) : PyData := .int (n : Int)
@[simp] theorem app_ne {l : List PyData} {x : PyData} : (l ++ [x]).isEmpty = false := by cases l <;> rfl
theorem set_map {t : List (Option Nat)} {a b : Nat} {u v : Option Nat} : ((t.set a u).set b v).map oD = ((t.map oD).set a (oD u)).set b (oD v) := by rw [List.map_set, List.map_set]
def AnsI (os ps qs ws : List Str) (i : Nat) (e : DEnv) : Prop := ∃ (x4 x5 x6 : Option Slot), e = [some (Slot.shr (shD os ps qs)), some (Slot.shr (.list (ws.map .str))), some (Slot.own (.list ((run (kfOf os qs ws) ws.length i).1.map oD))), some (Slot.own (.list (((run (kfOf os qs ws) ws.length i).2.map iD).reverse))), x4, x5, x6]
theorem run_st_le {kf : Nat → Eh.Kd} {n i : Nat} : (run kf n i).2.length ≤ i := by
  induction i with
  | zero => exact Nat.le_refl _
  | succ i ih =>
    show (Eh.step kf i (run kf n i)).2.length ≤ i + 1
    generalize run kf n i = S at ih ⊢
    obtain ⟨t, st⟩ := S
    unfold Eh.step
    replace ih : st.length ≤ i := ih
    cases kf i with
    | op =>
      show st.length + 1 ≤ _
      omega
    | pl =>
      show st.length ≤ _
      omega
    | cl =>
      cases st with
      | nil => exact Nat.zero_le _
      | cons b r =>
        show r.length ≤ _
        replace ih : r.length + 1 ≤ i := ih
        omega
theorem answers_c {os ps qs ws : List Str} {P : Bool → PyData → List Slot → Prop} {E : ExD → List Slot → Prop} (hS : Sht os ps qs) (hw : ∀ x ∈ ws, x ∈ os ++ ps ++ qs) (hl : ws.length ≤ 10000) (k : P true (.list ((ansOf os qs ws).map oD)) [.shr (shD os ps qs), .shr (.list (ws.map .str))]) : (dAnswers [.shr (shD os ps qs), .shr (.list (ws.map .str))]).to (k := ⟨P, E⟩) := by
  unfold dAnswers gAnswers
  rw [runD_to]
  simp -dsimp -implicitDefEqProofs
  refine needWord_c hS hw ?_
  simp -dsimp -implicitDefEqProofs [mulL_list (xs := [PyData.none]) (k := (ws.length : Int)) (by omega) (by show 1 * _ ≤ _; omega) (by omega)]
  have e0 : (run (kfOf os qs ws) ws.length 0).1.map oD = List.replicate ws.length PyData.none := by
    show (List.replicate _ none).map oD = _
    rw [List.map_replicate]
    rfl
  refine for_ok0 (AnsI os ps qs ws) ⟨_, _, _, by rw [e0]; rfl⟩ ?_ ?_
  · rintro i d e hd ⟨x4, x5, x6, rfl⟩
    obtain ⟨x, hx, rfl⟩ := enum_get hd
    rw [List.getElem?_map] at hx
    obtain ⟨y, hy, rfl⟩ := Option.map_eq_some_iff.mp hx
    have hi := (List.getElem?_eq_some_iff.mp hy).1
    have G := good_run (kfOf os qs ws) ws.length i (by omega)
    have sl := run_st_le (kf := kfOf os qs ws) (n := ws.length) (i := i)
    have kk : kfOf os qs ws i = kdOf os qs y := kfOf_at hy
    have nx : run (kfOf os qs ws) ws.length (i + 1) = Eh.step (kfOf os qs ws) i (run (kfOf os qs ws) ws.length i) := rfl
    have fin : ∀ (S' : List (Option Nat) × List Nat), run (kfOf os qs ws) ws.length (i + 1) = S' → ∀ (l1 l2 : List PyData) y4 y5 y6, l1 = S'.1.map oD → l2 = (S'.2.map iD).reverse → AnsI os ps qs ws (i + 1) [some (Slot.shr (shD os ps qs)), some (Slot.shr (.list (ws.map .str))), some (Slot.own (.list l1)), some (Slot.own (.list l2)), y4, y5, y6] := fun S' e1 l1 l2 y4 y5 y6 h1 h2 => ⟨y4, y5, y6, by rw [e1, h1, h2]⟩
    rw [nx] at fin
    generalize run (kfOf os qs ws) ws.length i = S at G sl fin ⊢
    obtain ⟨t, st⟩ := S
    replace G : Good (kfOf os qs ws) ws.length i t st := G
    replace sl : st.length ≤ i := sl
    have tl := G.len
    have hap : ((st.map iD).reverse).length < 1000000 := by rw [List.length_reverse, List.length_map]; omega
    unfold Eh.step at fin
    rw [kk] at fin
    by_cases h1 : y ∈ os
    · rw [kd_op.mpr h1] at fin
      simp -dsimp -implicitDefEqProofs [in_str, h1, append_l hap]
      exact fin _ rfl _ _ _ _ _ rfl (by simp [iD])
    · by_cases h2 : y ∈ qs
      · rw [(kd_cl hS).mpr h2] at fin
        cases st with
        | nil =>
          simp -dsimp -implicitDefEqProofs [in_str, h1, h2]
          exact fin _ rfl _ _ _ _ _ rfl rfl
        | cons b r =>
          have hb := (G.bd b (List.mem_cons_self ..)).1
          have e1 : ixN t.length (b : Int) = some b := ixN_nat (by omega)
          have e2 : ixN t.length (i : Int) = some i := ixN_nat (by omega)
          simp -dsimp -implicitDefEqProofs [in_str, h1, h2, iD, e1, e2]
          exact fin ((t.set b (some i)).set i (some b), r) rfl _ _ _ _ _ (set_map (u := some i) (v := some b)).symm rfl
      · have : kdOf os qs y = .pl := by
          unfold kdOf
          rw [if_neg h1, if_neg h2]
        rw [this] at fin
        simp -dsimp -implicitDefEqProofs [in_str, h1, h2]
        exact fin _ rfl _ _ _ _ _ rfl rfl
  · rintro e ⟨x4, x5, x6, rfl⟩
    simp -dsimp -implicitDefEqProofs
    have e1 : (enumItems (ws.map PyData.str)).length = ws.length := by simp [enumItems]
    rw [e1]
    exact k
theorem al_at {t : List (Option Nat)} {i : Nat} (h : i < t.length) : atI (t.map oD) (i : Int) = some (oD (tv t i)) := by
  rw [at_nat (by rw [List.length_map]; exact h), List.getElem_map]
  congr 2
  unfold tv
  rw [List.getD_eq_getElem?_getD, List.getElem?_eq_getElem h]
  rfl
theorem ws_at {ws : List Str} {i : Nat} (h : i < ws.length) : atI (ws.map PyData.str) (i : Int) = some (.str ws[i]) := by
  rw [at_nat (by rw [List.length_map]; exact h), List.getElem_map]
theorem oD_none (o : Option Nat) : isNoneD (oD o) = decide (o = none) := by cases o <;> simp [oD]
theorem map_rng (n : Nat) : rngItems 0 n = (List.range n).map iD := by
  unfold rngItems iD
  simp
theorem filter_rng {p : PyData → Bool} {q : Nat → Bool} (h : ∀ i, p (iD i) = q i) : ∀ l : List Nat, (l.map iD).filter p = (l.filter q).map iD
  | [] => rfl
  | i :: r => by
    rw [List.map_cons, List.filter_cons, List.filter_cons, h i, filter_rng h r]
    cases q i <;> rfl
def natOf : PyData → Nat
  | .int i => i.toNat
  | _ => 0
@[simp] theorem natOf_i (i : Nat) : natOf (.int (i : Int)) = i := rfl
theorem isShut_c {os ps qs ws : List Str} {P : Bool → PyData → List Slot → Prop} {E : ExD → List Slot → Prop} (hS : Sht os ps qs) (hw : ∀ x ∈ ws, x ∈ os ++ ps ++ qs) (hl : ws.length ≤ 10000) (k : P false (.bool (shutB os qs ws)) [.shr (shD os ps qs), .shr (.list (ws.map .str))]) : (dIsShut [.shr (shD os ps qs), .shr (.list (ws.map .str))]).to (k := ⟨P, E⟩) := by
  unfold dIsShut gIsShut
  rw [runD_to]
  simp -dsimp -implicitDefEqProofs
  refine answers_c hS hw hl ?_
  simp -dsimp -implicitDefEqProofs
  unfold dAlone gAlone
  rw [runD_to]
  simp -dsimp -implicitDefEqProofs [rng_ok (show ws.length ≤ 1000000 by omega)]
  have la : (ansOf os qs ws).length = ws.length := ansOf_len' os qs ws
  rw [lc_fm (fun d => decide (tv (ansOf os qs ws) (natOf d) = none)) id (by simp; rw [sizeLine_eq]; omega) (fun d hd => by
    obtain ⟨i, hi, rfl⟩ := rng_mem hd
    rw [Int.zero_add]
    simp -dsimp -implicitDefEqProofs [al_at (show i < (ansOf os qs ws).length by omega), oD_none]
    refine Cnd_of (fun h => ?_) (fun h => ?_) <;> simp -dsimp -implicitDefEqProofs)]
  rw [map_rng, filter_rng (q := fun i => decide (tv (ansOf os qs ws) i = none)) (fun i => rfl)]
  simp -dsimp -implicitDefEqProofs
  generalize hpl : (List.range ws.length).filter (fun i => decide (tv (ansOf os qs ws) i = none)) = pl
  have hp : ∀ i ∈ pl, i < ws.length := fun i hi => by
    rw [← hpl] at hi
    exact List.mem_range.mp (List.mem_filter.mp hi).1
  have lp : pl.length ≤ 10000 := by
    rw [← hpl]
    have := List.length_filter_le (fun i => decide (tv (ansOf os qs ws) i = none)) (List.range ws.length)
    rw [List.length_range] at this
    omega
  rw [lc_fm (fun d => decide (kfOf os qs ws (natOf d) = .cl)) id (by simp; rw [sizeLine_eq]; omega) (fun d hd => by
    obtain ⟨i, hi, rfl⟩ := List.mem_map.mp hd
    have e2 : (ws[i]'(hp i hi) ∈ qs) = (kfOf os qs ws i = .cl) := by rw [kfOf_at (List.getElem?_eq_getElem (hp i hi))]; exact propext (kd_cl hS).symm
    simp -dsimp -implicitDefEqProofs [iD, ws_at (hp i hi), in_str, e2]
    refine Cnd_of (fun h => ?_) (fun h => ?_) <;> simp -dsimp -implicitDefEqProofs [iD])]
  rw [filter_rng (q := fun i => decide (kfOf os qs ws i = .cl)) (fun i => rfl)]
  simp -dsimp -implicitDefEqProofs
  rw [lc_fm (fun d => decide (kfOf os qs ws (natOf d) = .op)) id (by simp; rw [sizeLine_eq]; omega) (fun d hd => by
    obtain ⟨i, hi, rfl⟩ := List.mem_map.mp hd
    have e2 : (ws[i]'(hp i hi) ∈ os) = (kfOf os qs ws i = .op) := by rw [kfOf_at (List.getElem?_eq_getElem (hp i hi))]; exact propext kd_op.symm
    simp -dsimp -implicitDefEqProofs [iD, ws_at (hp i hi), in_str, e2]
    refine Cnd_of (fun h => ?_) (fun h => ?_) <;> simp -dsimp -implicitDefEqProofs [iD])]
  rw [filter_rng (q := fun i => decide (kfOf os qs ws i = .op)) (fun i => rfl)]
  have f1 := List.length_filter_le (fun i => decide (kfOf os qs ws i = .cl)) pl
  have f2 := List.length_filter_le (fun i => decide (kfOf os qs ws i = .op)) pl
  simp -dsimp -implicitDefEqProofs [addL_list (xs := (pl.filter fun i => decide (kfOf os qs ws i = .cl)).map iD) (ys := (pl.filter fun i => decide (kfOf os qs ws i = .op)).map iD) (by rw [List.length_map, List.length_map]; omega)]
  have e : shutB os qs ws = ((pl.filter fun i => decide (kfOf os qs ws i = .cl)).map iD ++ (pl.filter fun i => decide (kfOf os qs ws i = .op)).map iD).isEmpty := by
    rw [← List.map_append]
    unfold shutB aloneOf
    rw [hpl, Bool.eq_iff_iff, List.isEmpty_iff, List.isEmpty_iff, List.map_eq_nil_iff]
  rw [e] at k
  exact k
end Dl
set_option Elab.async false
set_option linter.all false
set_option maxRecDepth 100000
set_option maxHeartbeats 4000000
namespace Dl
open PySem PySem.Spec PyProof.Rows L2 Evl Gx GxR RZ Eh
def wholeD : PyData → Bool
  | .int _ => true
  | _ => false
theorem isWhole_c {d : PyData} {P : Bool → PyData → List Slot → Prop} {E : ExD → List Slot → Prop} (k : P false (.bool (wholeD d)) [.shr d]) : (dIsWhole [.shr d]).to (k := ⟨P, E⟩) := by
  unfold dIsWhole gIsWhole
  rw [runD_to]
  cases d <;> simp -dsimp -implicitDefEqProofs <;> exact k
theorem ten60 : (10 : Int) ^ 60 = 1000000000000000000000000000000000000000000000000000000000000 := by decide +kernel
theorem isTimes_c {d : PyData} {P : Bool → PyData → List Slot → Prop} {E : ExD → List Slot → Prop} (k : P false (.bool (timesD d)) [.shr d]) : (dIsTimes [.shr d]).to (k := ⟨P, E⟩) := by
  unfold dIsTimes gIsTimes
  rw [runD_to]
  simp -dsimp -implicitDefEqProofs
  refine isWhole_c ?_
  cases d with
  | int i =>
    simp -dsimp -implicitDefEqProofs [wholeD]
    refine Cnd_of (fun h => ?_) (fun h => ?_)
    · simp -dsimp -implicitDefEqProofs
      have e : timesD (.int i) = (decide (0 ≤ i) && decide (i ≤ 10 ^ 60)) := rfl
      rw [e, ten60, h, Bool.true_and] at k
      exact k
    · simp -dsimp -implicitDefEqProofs
      have e : timesD (.int i) = (decide (0 ≤ i) && decide (i ≤ 10 ^ 60)) := rfl
      rw [e, h, Bool.false_and] at k
      exact k
  | _ => simp -dsimp -implicitDefEqProofs [wholeD] <;> exact k
theorem all_in {ls : List Str} : ∀ {ds : List PyData}, ds.all (inL ls) = true → ds = (ds.map strD).map PyData.str ∧ ∀ x ∈ ds.map strD, x ∈ ls := Eh.all_in
theorem isShort_c {os ps qs : List Str} {d : PyData} {P : Bool → PyData → List Slot → Prop} {E : ExD → List Slot → Prop} (hS : Sht os ps qs) (g : Gk 60 d) (k : P false (.bool (shortD os ps qs d)) [.shr (shD os ps qs), .shr d]) : (dIsShortShut [.shr (shD os ps qs), .shr d]).to (k := ⟨P, E⟩) := by
  unfold dIsShortShut gIsShortShut
  rw [runD_to]
  have l12 := sht_len hS
  have l1 : (os.map PyData.str).length + (ps.map PyData.str).length ≤ 1000000 := by
    rw [List.length_append, List.length_append] at l12
    rw [List.length_map, List.length_map]
    omega
  have l2 : (os.map PyData.str ++ ps.map PyData.str).length + (qs.map PyData.str).length ≤ 1000000 := by
    rw [List.length_append, List.length_append] at l12
    rw [List.length_append, List.length_map, List.length_map, List.length_map]
    omega
  cases d with
  | tuple ds =>
    have hn : ds.length ≤ 70 ∧ ∀ d ∈ ds, Gk 60 d := by
      cases g with
      | tup n h => exact ⟨n, fun d hd => (h d hd).mono (by decide)⟩
    have e : shortD os ps qs (.tuple ds) = ((decide (ds.length ≤ 60) && ds.all (inL (os ++ ps ++ qs))) && shutB os qs (ds.map strD)) := rfl
    rw [e] at k
    simp -dsimp -implicitDefEqProofs
    by_cases h60 : ds.length ≤ 60
    · rw [decide_eq_true h60, Bool.true_and] at k
      simp -dsimp -implicitDefEqProofs [show ¬ ((60 : Int) < (ds.length : Int)) by omega, add_tup l1, add_tup l2]
      have hL : ∀ x ∈ os ++ ps ++ qs, Ltr x := fun x hx => hS.lt x hx
      have hin : ∀ d ∈ ds, dInA d (.tuple (os.map .str ++ (ps.map .str ++ qs.map .str))) = some (.bool (inL (os ++ ps ++ qs) d)) := fun d hd => by
        have := in_tup hL ((hn.2 d hd).shaped (by decide))
        rw [List.map_append, List.map_append, List.append_assoc] at this
        exact this
      have hall := @all_in (os ++ ps ++ qs) ds
      generalize inL (os ++ ps ++ qs) = p at hin hall k
      rw [any_fm (p := p) (fun d hd => by
        simp -dsimp -implicitDefEqProofs [hin d hd])]
      simp -dsimp -implicitDefEqProofs
      refine Cnd_of (fun h => ?_) (fun h => ?_)
      · obtain ⟨e1, e2⟩ := hall h
        rw [h, Bool.true_and] at k
        simp -dsimp -implicitDefEqProofs
        rw [e1]
        refine isShut_c hS e2 (by rw [List.length_map]; omega) ?_
        rw [← e1]
        simp -dsimp -implicitDefEqProofs
        exact k
      · rw [h, Bool.false_and] at k
        simp -dsimp -implicitDefEqProofs [h]
        exact k
    · rw [decide_eq_false h60, Bool.false_and, Bool.false_and] at k
      simp -dsimp -implicitDefEqProofs [show ((60 : Int) < (ds.length : Int)) by omega]
      exact k
  | _ => simp -dsimp -implicitDefEqProofs <;> exact k
end Dl
set_option Elab.async false
set_option linter.all false
set_option maxRecDepth 100000
set_option maxHeartbeats 4000000
namespace Dl
open PySem PySem.Spec PyProof.Rows L2 Evl Gx GxR RZ Eh
@[simp] theorem w_rw : (Str.ofString "row" == Str.ofString "word") = false := by decide +kernel
@[simp] theorem w_aw : (Str.ofString "again" == Str.ofString "word") = false := by decide +kernel
@[simp] theorem w_ar : (Str.ofString "again" == Str.ofString "row") = false := by decide +kernel
@[simp] theorem w_ww : (Str.ofString "wrap" == Str.ofString "word") = false := by decide +kernel
@[simp] theorem w_wr : (Str.ofString "wrap" == Str.ofString "row") = false := by decide +kernel
@[simp] theorem w_wa : (Str.ofString "wrap" == Str.ofString "again") = false := by decide +kernel
@[simp] theorem w_wor : (Str.ofString "word" == Str.ofString "row") = false := by decide +kernel
@[simp] theorem w_woa : (Str.ofString "word" == Str.ofString "again") = false := by decide +kernel
@[simp] theorem w_wow : (Str.ofString "word" == Str.ofString "wrap") = false := by decide +kernel
@[simp] theorem w_ra : (Str.ofString "row" == Str.ofString "again") = false := by decide +kernel
@[simp] theorem w_rwr : (Str.ofString "row" == Str.ofString "wrap") = false := by decide +kernel
@[simp] theorem w_awr : (Str.ofString "again" == Str.ofString "wrap") = false := by decide +kernel
/-- the head of a saying -/
theorem head5 (a : PyData) : a = .str "word" ∨ a = .str "row" ∨ a = .str "again" ∨ a = .str "wrap" ∨ (PyData.eqv a (.str "word") = false ∧ PyData.eqv a (.str "row") = false ∧ PyData.eqv a (.str "again") = false ∧ PyData.eqv a (.str "wrap") = false ∧ (∀ r, kidsG (.tuple (a :: r)) = []) ∧ ∀ os ps qs r, formG os ps qs (.tuple (a :: r)) = false) := by
  rw [eqv_s, eqv_s, eqv_s, eqv_s]
  cases a with
  | str x =>
    by_cases h1 : x = "word"
    · exact .inl (by rw [h1])
    by_cases h2 : x = "row"
    · exact .inr (.inl (by rw [h2]))
    by_cases h3 : x = "again"
    · exact .inr (.inr (.inl (by rw [h3])))
    by_cases h4 : x = "wrap"
    · exact .inr (.inr (.inr (.inl (by rw [h4]))))
    refine .inr (.inr (.inr (.inr ⟨beq_false_of_ne h1, beq_false_of_ne h2, beq_false_of_ne h3, beq_false_of_ne h4, fun r => ?_, fun os ps qs r => ?_⟩)))
    · rw [kidsG_eq]
      unfold kBy
      rw [if_neg h2, if_neg h3, if_neg h4]
    · rw [formG_eq]
      unfold fBy
      rw [if_neg h1, if_neg h2, if_neg h3, if_neg h4]
  | _ => exact .inr (.inr (.inr (.inr ⟨rfl, rfl, rfl, rfl, fun r => rfl, fun os ps qs r => rfl⟩)))
theorem at_1 {d e : PyData} {r : List PyData} : atI (d :: e :: r) 1 = some e := by
  have := at_nat (l := d :: e :: r) (n := 1) (by simp)
  exact this
theorem at_2 {d e f : PyData} {r : List PyData} : atI (d :: e :: f :: r) 2 = some f := by
  have := at_nat (l := d :: e :: f :: r) (n := 2) (by simp)
  exact this
theorem sh_lit {x : Str} (h : PyData.strOk x = true) : SeqAt.shaped (.str x) = true := sh_str h
theorem ok_word : PyData.strOk (Str.ofString "word") = true := by decide +kernel
theorem ok_row : PyData.strOk (Str.ofString "row") = true := by decide +kernel
theorem ok_again : PyData.strOk (Str.ofString "again") = true := by decide +kernel
theorem ok_wrap : PyData.strOk (Str.ofString "wrap") = true := by decide +kernel
theorem fR_1 (ds : List PyData) : fRow [.tuple ds] = decide (ds.length ≤ 8) := rfl
theorem isForm_c {os ps qs : List Str} {d : PyData} {P : Bool → PyData → List Slot → Prop} {E : ExD → List Slot → Prop} (hS : Sht os ps qs) (g : Gk 60 d) (k : P false (.bool (formG os ps qs d)) [.shr (shD os ps qs), .shr d]) : (dIsForm [.shr (shD os ps qs), .shr d]).to (k := ⟨P, E⟩) := by
  unfold dIsForm gIsForm
  rw [runD_to]
  have hO : ∀ x ∈ os, Ltr x := fun x hx => hS.lt x (List.mem_append.mpr (.inl (List.mem_append.mpr (.inl hx))))
  have hQ : ∀ x ∈ qs, Ltr x := fun x hx => hS.lt x (List.mem_append.mpr (.inr hx))
  cases d with
  | tuple ds =>
    have hn : ds.length ≤ 70 ∧ ∀ d ∈ ds, Gk 60 d := by
      cases g with
      | tup n h => exact ⟨n, fun d hd => (h d hd).mono (by decide)⟩
    have hs : ∀ d ∈ ds, SeqAt.shaped d = true := fun d hd => (hn.2 d hd).shaped (by decide)
    clear g
    match ds, hn, hs, k with
    | [], hn, hs, k =>
      simp -dsimp -implicitDefEqProofs
      exact k
    | [a], hn, hs, k =>
      simp -dsimp -implicitDefEqProofs
      have e : formG os ps qs (.tuple [a]) = false := by
        rcases head5 a with rfl | rfl | rfl | rfl | h
        · rfl
        · rfl
        · rfl
        · rfl
        · exact h.2.2.2.2.2 _ _ _ _
      rw [e] at k
      exact k
    | a :: b :: r, hn, hs, k =>
      rcases Nat.lt_or_ge 3 r.length with h5 | h5
      · simp -dsimp -implicitDefEqProofs [show (2 : Int) ≤ (r.length : Int) + 1 + 1 by omega, show ¬ ((r.length : Int) + 1 + 1 ≤ 5) by omega]
        have e : formG os ps qs (.tuple (a :: b :: r)) = false := by
          match r, h5 with
          | x :: y :: z :: w :: t, _ =>
            rcases head5 a with rfl | rfl | rfl | rfl | h
            · rw [formG_eq, by_word]; rfl
            · rw [formG_eq, by_row]; cases b <;> rfl
            · rw [formG_eq, by_again]; rfl
            · rw [formG_eq, by_wrap]; rfl
            · exact h.2.2.2.2.2 _ _ _ _
        rw [e] at k
        exact k
      simp -dsimp -implicitDefEqProofs [show (2 : Int) ≤ (r.length : Int) + 1 + 1 by omega, show (r.length : Int) + 1 + 1 ≤ 5 by omega]
      have g1 : Gk 60 b := hn.2 b (by simp)
      rcases head5 a with rfl | rfl | rfl | rfl | ⟨e1, e2, e3, e4, _, e6⟩
      · simp -dsimp -implicitDefEqProofs
        rw [formG_eq, by_word] at k
        match r, k with
        | [], k =>
          simp -dsimp -implicitDefEqProofs
          exact isShort_c hS g1 k
        | x :: y, k =>
          simp -dsimp -implicitDefEqProofs [show ¬ ((y.length : Int) + 1 + 1 + 1 = 2) by omega]
          exact k
      · rw [formG_eq, by_row] at k
        simp -dsimp -implicitDefEqProofs
        match r, k with
        | [], k =>
          cases b with
          | tuple es =>
            rw [fR_1] at k
            simp -dsimp -implicitDefEqProofs
            have e : decide (es.length ≤ 8) = decide ((es.length : Int) ≤ 8) := by rw [decide_eq_decide]; omega
            rw [e] at k
            exact k
          | _ => simp -dsimp -implicitDefEqProofs <;> exact k
        | x :: y, k =>
          have e : fRow (b :: x :: y) = false := by cases b <;> rfl
          rw [e] at k
          simp -dsimp -implicitDefEqProofs [show ¬ ((y.length : Int) + 1 + 1 + 1 = 2) by omega]
          exact k
      · rw [formG_eq, by_again] at k
        simp -dsimp -implicitDefEqProofs
        match r, k with
        | [], k =>
          simp -dsimp -implicitDefEqProofs
          exact k
        | [x], k =>
          simp -dsimp -implicitDefEqProofs
          exact isTimes_c k
        | x :: y :: z, k =>
          simp -dsimp -implicitDefEqProofs [show ¬ ((z.length : Int) + 1 + 1 + 1 + 1 = 3) by omega]
          exact k
      · rw [formG_eq, by_wrap] at k
        simp -dsimp -implicitDefEqProofs
        match r, k with
        | [], k =>
          simp -dsimp -implicitDefEqProofs
          exact k
        | [x], k =>
          simp -dsimp -implicitDefEqProofs
          exact k
        | [x, y], k =>
          simp -dsimp -implicitDefEqProofs
          exact k
        | [x, y, z], k =>
          simp -dsimp -implicitDefEqProofs
          refine isTimes_c ?_
          have e : fWrap os qs [b, x, y, z] = (timesD b && (inL os x && inL qs z)) := rfl
          rw [e] at k
          simp -dsimp -implicitDefEqProofs
          refine Cnd_of (fun h => ?_) (fun h => ?_)
          · have h : timesD b = false := by simpa using h
            rw [h, Bool.false_and] at k
            simp -dsimp -implicitDefEqProofs
            exact k
          · have h : timesD b = true := by simpa using h
            rw [h, Bool.true_and] at k
            have i1 := in_tup hO (hs x (by simp))
            have i2 := in_tup hQ (hs z (by simp))
            have a2 : atI [PyData.str (Str.ofString "wrap"), b, x, y, z] 2 = some x := at_2
            have a4 : atI [PyData.str (Str.ofString "wrap"), b, x, y, z] 4 = some z := at_nat (n := 4) (by simp)
            simp -dsimp -implicitDefEqProofs [a2, a4, i1, i2]
            refine Cnd_of (fun h => ?_) (fun h => ?_)
            · rw [h, Bool.true_and] at k
              simp -dsimp -implicitDefEqProofs [a4, i2]
              exact k
            · rw [h, Bool.false_and] at k
              simp -dsimp -implicitDefEqProofs [h]
              exact k
        | x :: y :: z :: w :: t, k =>
          exact absurd h5 (by simp)
      · rw [e6] at k
        simp -dsimp -implicitDefEqProofs [eq_sh (hs a (by simp)) (sh_lit ok_word), eq_sh (hs a (by simp)) (sh_lit ok_row), eq_sh (hs a (by simp)) (sh_lit ok_again), ne_sh (hs a (by simp)) (sh_lit ok_wrap), e1, e2, e3, e4]
        exact k
  | _ => simp -dsimp -implicitDefEqProofs <;> exact k
theorem at_3 {d e f g : PyData} {r : List PyData} : atI (d :: e :: f :: g :: r) 3 = some g := by
  have := at_nat (l := d :: e :: f :: g :: r) (n := 3) (by simp)
  exact this
theorem kids_len {os ps qs : List Str} {d : PyData} (h : formG os ps qs d = true) : (kidsG d).length ≤ 8 := by
  rcases form_four h with ⟨x, rfl, _, e⟩ | ⟨ds, rfl, h8, e⟩ | ⟨n, x, rfl, _, e⟩ | ⟨n, a, x, c, rfl, _, _, _, e⟩ <;> rw [e]
  · exact Nat.zero_le _
  · exact h8
  · show 1 ≤ 8
    decide
  · show 1 ≤ 8
    decide
theorem partsIn_c {os ps qs : List Str} {d : PyData} {P : Bool → PyData → List Slot → Prop} {E : ExD → List Slot → Prop} (h : formG os ps qs d = true) (k : P true (.list (kidsG d)) [.shr d]) : (dPartsIn [.shr d]).to (k := ⟨P, E⟩) := by
  unfold dPartsIn gPartsIn
  rw [runD_to]
  rcases form_four h with ⟨x, rfl, _, e⟩ | ⟨ds, rfl, h8, e⟩ | ⟨n, x, rfl, _, e⟩ | ⟨n, a, x, c, rfl, _, _, _, e⟩ <;> rw [e] at k
  · simp -dsimp -implicitDefEqProofs
    exact k
  · simp -dsimp -implicitDefEqProofs [at_1]
    exact k
  · simp -dsimp -implicitDefEqProofs [at_2]
    exact k
  · simp -dsimp -implicitDefEqProofs [at_3]
    exact k
def prD (x : PyData × Nat) : PyData := .tuple [x.1, .int (x.2 : Int)]
def GrI (os ps qs : List Str) (d : PyData) (n : Nat) (e : DEnv) : Prop := ∃ (W : List (PyData × Nat)) (x4 x5 : Option Slot), n ≤ 40 ∧ (∀ x ∈ W, Gk 60 x.1) ∧ W.length ≤ 1 + 8 * (40 - n) ∧ dfs (formG os ps qs) kidsG 10 n W = isD (formG os ps qs) kidsG 10 40 d ∧ e = [some (Slot.shr (shD os ps qs)), some (Slot.shr d), some (Slot.shr (.int ((40 - n : Nat) : Int))), some (Slot.own (.list ((W.map prD).reverse))), x4, x5, none]
theorem flt (l : List PyData) : l.filter (fun _ => true) = l := List.filter_eq_self.mpr fun _ _ => rfl
theorem dfs_nil {F : PyData → Bool} {C : PyData → List PyData} {D n : Nat} : dfs F C D n [] = true := by cases n <;> rfl
theorem isGreat_c {os ps qs : List Str} {d : PyData} {P : Bool → PyData → List Slot → Prop} {E : ExD → List Slot → Prop} (hS : Sht os ps qs) (g : Gk 60 d) (k : P false (.bool (isD (formG os ps qs) kidsG 10 40 d)) [.shr (shD os ps qs), .shr d]) : (dIsGreat [.shr (shD os ps qs), .shr d]).to (k := ⟨P, E⟩) := by
  unfold dIsGreat gIsGreat
  rw [runD_to]
  simp -dsimp -implicitDefEqProofs
  refine while_ok (GrI os ps qs d) ?_ 40 ⟨[(d, 1)], _, _, Nat.le_refl _, fun x hx => by rw [List.mem_singleton.mp hx]; exact g, by show 1 ≤ 1 + 8 * (40 - 40); decide, dfs_is _ _ _ _ _, rfl⟩
  rintro n e ⟨W, x4, x5, hn, hW, hl, hd, rfl⟩
  cases W with
  | nil =>
    rw [dfs_nil] at hd
    rw [← hd] at k
    simp -dsimp -implicitDefEqProofs
    exact k
  | cons w W =>
    obtain ⟨y, l⟩ := w
    rw [List.length_cons] at hl
    simp -dsimp -implicitDefEqProofs [prD]
    cases n with
    | zero =>
      have e0 : dfs (formG os ps qs) kidsG 10 0 ((y, l) :: W) = false := rfl
      rw [e0] at hd
      rw [← hd] at k
      simp -dsimp -implicitDefEqProofs
      exact k
    | succ n =>
      have e0 : dfs (formG os ps qs) kidsG 10 (n + 1) ((y, l) :: W) = if l ≤ 10 ∧ formG os ps qs y = true then dfs (formG os ps qs) kidsG 10 n (((kidsG y).map fun k => (k, l + 1)).reverse ++ W) else false := rfl
      rw [e0] at hd
      have gy : Gk 60 y := hW (y, l) (List.mem_cons_self ..)
      by_cases hl10 : l ≤ 10
      · simp -dsimp -implicitDefEqProofs [show ¬ ((40 : Int) < ((39 - n : Nat) : Int) + 1) by omega, show ¬ ((10 : Int) < (l : Int)) by omega]
        refine isForm_c hS gy ?_
        simp -dsimp -implicitDefEqProofs
        refine Cnd_of (fun h => ?_) (fun h => ?_)
        · have h : formG os ps qs y = false := by simpa using h
          rw [if_neg (by rw [h]; simp)] at hd
          rw [← hd] at k
          simp -dsimp -implicitDefEqProofs
          exact k
        · have h : formG os ps qs y = true := by simpa using h
          rw [if_pos ⟨hl10, h⟩] at hd
          simp -dsimp -implicitDefEqProofs
          refine partsIn_c h ?_
          have kl := kids_len h
          simp -dsimp -implicitDefEqProofs
          rw [lc_fm (fun d => true) (fun d => .tuple [d, .int ((l : Int) + 1)]) (by simp; rw [sizeLine_eq]; omega) (fun d hd => by simp -dsimp -implicitDefEqProofs)]
          rw [flt]
          simp -dsimp -implicitDefEqProofs [extend_l (ds := (List.map prD W).reverse) (xs := (kidsG y).map fun d => PyData.tuple [d, .int ((l : Int) + 1)]) (by rw [List.length_reverse, List.length_map, List.length_map]; omega)]
          refine ⟨n, Nat.lt_succ_self n, ((kidsG y).map fun k => (k, l + 1)).reverse ++ W, some (.shr y), some (.shr (.int (l : Int))), by omega, fun x hx => ?_, ?_, hd, ?_⟩
          · rcases List.mem_append.mp hx with z | z
            · obtain ⟨q, hq, rfl⟩ := List.mem_map.mp (List.mem_reverse.mp z)
              exact kidsG_gk gy q hq
            · exact hW x (List.mem_cons_of_mem _ z)
          · rw [List.length_append, List.length_reverse, List.length_map]
            omega
          · have q1 : ((39 - n : Nat) : Int) + 1 = ((40 - n : Nat) : Int) := by omega
            rw [q1, List.map_append, List.reverse_append, List.map_reverse, List.reverse_reverse, List.map_map]
            rfl
      · rw [if_neg (fun h => hl10 h.1)] at hd
        rw [← hd] at k
        simp -dsimp -implicitDefEqProofs [show ¬ ((40 : Int) < ((39 - n : Nat) : Int) + 1) by omega, show ((10 : Int) < (l : Int)) by omega]
        exact k
end Dl
set_option Elab.async false
set_option linter.all false
set_option maxRecDepth 100000
set_option maxHeartbeats 4000000
namespace Dl
open PySem PySem.Spec PyProof.Rows L2 Evl Gx GxR RZ Eh
def LaI (os ps qs ws : List Str) (i : Nat) (e : DEnv) : Prop := ∃ (x3 x4 : Option Slot), e = [some (Slot.shr (shD os ps qs)), some (Slot.shr (.list (ws.map .str))), some (Slot.own (.list ((run (kfOf os qs ws) ws.length i).1.map oD))), x3, x4, none]
def LaE (os ps qs ws : List Str) (i : Nat) (t : List (Option Nat)) (z : Int) : DEnv := [some (Slot.shr (shD os ps qs)), some (Slot.shr (.list (ws.map .str))), some (Slot.own (.list (t.map oD))), some (Slot.shr (.int (i : Int))), some (Slot.shr (.int z)), none]
def LaW (os ps qs ws : List Str) (i : Nat) (t : List (Option Nat)) (st : List Nat) (m : Nat) (e : DEnv) : Prop :=
  (∃ z : Int, e = LaE os ps qs ws i t z ∧ -1 ≤ z ∧ z < (i : Int) ∧ (∀ b ∈ st, (b : Int) ≤ z) ∧ m = (z + 1).toNat + 1) ∨ (∃ z : Int, e = LaE os ps qs ws i (Eh.step (kfOf os qs ws) i (t, st)).1 z ∧ m = 0 ∧ ∃ b, tv (Eh.step (kfOf os qs ws) i (t, st)).1 i = some b)
theorem oD_notN (o : Option Nat) : dNotN (oD o) .none = some (.bool (!decide (o = none))) := by cases o <;> simp [oD] <;> rfl
theorem oD_isN (o : Option Nat) : dIsN (oD o) .none = some (.bool (decide (o = none))) := by cases o <;> simp [oD] <;> rfl
theorem lAnswers_c {os ps qs ws : List Str} {P : Bool → PyData → List Slot → Prop} {E : ExD → List Slot → Prop} (hS : Sht os ps qs) (hw : ∀ x ∈ ws, x ∈ os ++ ps ++ qs) (hl : ws.length ≤ 10000) (k : P true (.list ((ansOf os qs ws).map oD)) [.shr (shD os ps qs), .shr (.list (ws.map .str))]) : (dLAnswers [.shr (shD os ps qs), .shr (.list (ws.map .str))]).to (k := ⟨P, E⟩) := by
  unfold dLAnswers gLAnswers
  rw [runD_to]
  simp -dsimp -implicitDefEqProofs
  rw [lc_fm (fun _ => true) (fun _ => .none) (by simp; rw [sizeLine_eq]; omega) (fun d hd => by simp -dsimp -implicitDefEqProofs), flt]
  simp -dsimp -implicitDefEqProofs
  have e0 : (run (kfOf os qs ws) ws.length 0).1.map oD = List.replicate ws.length PyData.none := by
    show (List.replicate _ none).map oD = _
    rw [List.map_replicate]
    rfl
  have e1 : ∀ l : List Str, (l.map PyData.str).map (fun _ => PyData.none) = List.replicate l.length PyData.none := fun l => by
    induction l with
    | nil => rfl
    | cons x r ih =>
      rw [List.map_cons, List.map_cons, ih]
      rfl
  simp -dsimp -implicitDefEqProofs [rng_ok (show ws.length ≤ 1000000 by omega)]
  refine for_ok0 (LaI os ps qs ws) ⟨none, none, by rw [e0, ← e1, List.map_map]⟩ ?_ ?_
  · rintro i d e hd ⟨x3, x4, rfl⟩
    obtain ⟨rfl, hi⟩ := rng_get hd
    rw [Int.zero_add]
    have G := good_run (kfOf os qs ws) ws.length i (by omega)
    have nx : run (kfOf os qs ws) ws.length (i + 1) = Eh.step (kfOf os qs ws) i (run (kfOf os qs ws) ws.length i) := rfl
    have fin : ∀ (t' : List (Option Nat)) z, (run (kfOf os qs ws) ws.length (i + 1)).1 = t' → LaI os ps qs ws (i + 1) (LaE os ps qs ws i t' z) := fun t' z e1 => ⟨some (Slot.shr (.int (i : Int))), some (Slot.shr (.int z)), by rw [e1]; rfl⟩
    have fin0 : ∀ (t' : List (Option Nat)) y3 y4, (run (kfOf os qs ws) ws.length (i + 1)).1 = t' → LaI os ps qs ws (i + 1) [some (Slot.shr (shD os ps qs)), some (Slot.shr (.list (ws.map .str))), some (Slot.own (.list (t'.map oD))), y3, y4, none] := fun t' y3 y4 e1 => ⟨y3, y4, by rw [e1]⟩
    rw [nx] at fin fin0
    generalize run (kfOf os qs ws) ws.length i = S at G fin fin0 ⊢
    obtain ⟨t, st⟩ := S
    replace G : Good (kfOf os qs ws) ws.length i t st := G
    have tl := G.len
    have kq : ∀ a (h : a < ws.length), (ws[a] ∈ qs) = (kfOf os qs ws a = .cl) := fun a h => by rw [kfOf_at (List.getElem?_eq_getElem h)]; exact propext (kd_cl hS).symm
    have ko : ∀ a (h : a < ws.length), (ws[a] ∈ os) = (kfOf os qs ws a = .op) := fun a h => by rw [kfOf_at (List.getElem?_eq_getElem h)]; exact propext kd_op.symm
    simp -dsimp -implicitDefEqProofs [ws_at hi, in_str, kq i hi]
    by_cases hk : kfOf os qs ws i = .cl
    · simp -dsimp -implicitDefEqProofs [hk]
      have tvi : tv t i = none := G.hi i (Nat.le_refl _)
      refine while_ok (LaW os ps qs ws i t st) ?_ (((i : Int) - 1 + 1).toNat + 1) (.inl ⟨(i : Int) - 1, rfl, by omega, by omega, fun b hb => by have := (G.bd b hb).1; omega, rfl⟩)
      rintro m e (⟨z, rfl, z1, z2, hz, hm⟩ | ⟨z, rfl, hm, b, hb⟩)
      · unfold LaE
        by_cases z0 : 0 ≤ z
        · obtain ⟨a, rfl⟩ : ∃ a : Nat, z = (a : Int) := ⟨z.toNat, by omega⟩
          have ha : a < i := by omega
          have wa := ws_at (show a < ws.length by omega)
          have kqa := kq a (by omega)
          have koa := ko a (by omega)
          simp -dsimp -implicitDefEqProofs [al_at (show i < t.length by omega), tvi, oD_none]
          by_cases ka : kfOf os qs ws a = .cl
          · cases ta : tv t a with
            | none =>
              simp -dsimp -implicitDefEqProofs [wa, in_str, kqa, koa, ka, al_at (show a < t.length by omega), ta, oD_none]
              refine ⟨_, ?_, .inl ⟨(a : Int) - 1, rfl, by omega, by omega, fun b hb => ?_, rfl⟩⟩
              · omega
              · have h1 := hz b hb
                have h2 := (G.bd b hb).2.1
                have : b ≠ a := fun e => by
                  rw [e, ka] at h2
                  cases h2
                omega
            | some j =>
              obtain ⟨p1, p2, p3, p4⟩ := G.pr a j ta
              rcases p4 with ⟨c1, _⟩ | ⟨_, c2, c3, c4⟩
              · rw [ka] at c1
                cases c1
              · simp -dsimp -implicitDefEqProofs [wa, in_str, kqa, koa, ka, al_at (show a < t.length by omega), ta, oD_none, oD]
                refine ⟨_, ?_, .inl ⟨(j : Int) - 1, rfl, by omega, by omega, fun b hb => ?_, rfl⟩⟩
                · omega
                · have := hz b hb
                  have := c4 b hb
                  omega
          · by_cases kp : kfOf os qs ws a = .op
            · cases ta : tv t a with
              | some j =>
                simp -dsimp -implicitDefEqProofs [wa, in_str, kqa, koa, ka, kp, al_at (show a < t.length by omega), ta, oD_none]
                refine ⟨_, ?_, .inl ⟨(a : Int) - 1, rfl, by omega, by omega, fun b hb => ?_, rfl⟩⟩
                · omega
                · have h1 := hz b hb
                  have h2 := (G.bd b hb).2.2
                  have : b ≠ a := fun e => by
                    rw [e, ta] at h2
                    cases h2
                  omega
              | none =>
                have hm' := G.opn a ha kp ta
                cases st with
                | nil => exact (List.not_mem_nil hm').elim
                | cons b r =>
                  have hba : b = a := by
                    obtain ⟨s1, s2⟩ := List.pairwise_cons.mp G.srt
                    have h3 := hz b (List.mem_cons_self ..)
                    rcases List.mem_cons.mp hm' with x | x
                    · exact x.symm
                    · have := s1 a x
                      omega
                  subst hba
                  have hst : Eh.step (kfOf os qs ws) i (t, b :: r) = ((t.set b (some i)).set i (some b), r) := by
                    unfold Eh.step
                    rw [hk]
                  have e1 : ixN t.length (b : Int) = some b := ixN_nat (by omega)
                  have e2 : ixN t.length (i : Int) = some i := ixN_nat (by omega)
                  simp -dsimp -implicitDefEqProofs [wa, in_str, kqa, koa, ka, kp, al_at (show b < t.length by omega), ta, oD_none, e1, e2]
                  refine ⟨0, by omega, .inr ⟨(b : Int) - 1, ?_, rfl, b, ?_⟩⟩
                  · rw [hst]
                    show _ = LaE os ps qs ws i ((t.set b (some i)).set i (some b)) _
                    unfold LaE
                    rw [set_map]
                    rfl
                  · rw [hst]
                    rw [tv_set (by rw [List.length_set]; omega), if_pos rfl]
            · simp -dsimp -implicitDefEqProofs [wa, in_str, kqa, koa, ka, kp]
              refine ⟨_, ?_, .inl ⟨(a : Int) - 1, rfl, by omega, by omega, fun b hb => ?_, rfl⟩⟩
              · omega
              · have h1 := hz b hb
                have h2 := (G.bd b hb).2.1
                have : b ≠ a := fun e => by
                  rw [e] at h2
                  exact kp h2
                omega
        · simp -dsimp -implicitDefEqProofs [z0]
          refine fin t z ?_
          unfold Eh.step
          rw [hk]
          cases st with
          | nil => rfl
          | cons b r =>
            have := hz b (List.mem_cons_self ..)
            omega
      · have ll : i < (Eh.step (kfOf os qs ws) i (t, st)).1.length := by
          unfold Eh.step
          rw [hk]
          cases st with
          | nil => show i < t.length; omega
          | cons b r => show i < ((t.set b _).set i _).length; rw [List.length_set, List.length_set]; omega
        have f := fin _ z rfl
        generalize (Eh.step (kfOf os qs ws) i (t, st)).1 = t' at hb ll f ⊢
        unfold LaE at f ⊢
        by_cases z0 : 0 ≤ z
        · simp -dsimp -implicitDefEqProofs [z0, al_at ll, hb, oD_none]
          exact f
        · simp -dsimp -implicitDefEqProofs [z0]
          exact f
    · simp -dsimp -implicitDefEqProofs [hk]
      refine fin0 t _ _ ?_
      unfold Eh.step
      cases hq : kfOf os qs ws i with
      | cl => exact absurd hq hk
      | op => rfl
      | pl => rfl
  · rintro e ⟨x3, x4, rfl⟩
    simp -dsimp -implicitDefEqProofs
    exact k
end Dl
set_option Elab.async false
set_option linter.all false
set_option maxRecDepth 100000
set_option maxHeartbeats 4000000
namespace Dl
open PySem PySem.Spec PyProof.Rows L2 Evl Gx GxR RZ Eh
theorem order_c {os ps qs : List Str} {P : Bool → PyData → List Slot → Prop} {E : ExD → List Slot → Prop} (hS : Sht os ps qs) (k : P true (.list ((os ++ ps ++ qs).map .str)) [.shr (shD os ps qs)]) : (dLOrder [.shr (shD os ps qs)]).to (k := ⟨P, E⟩) := by
  unfold dLOrder gLOrder
  rw [runD_to]
  have l12 := sht_len hS
  have l1 : (os.map PyData.str).length + (ps.map PyData.str).length ≤ 1000000 := by
    rw [List.length_append, List.length_append] at l12
    rw [List.length_map, List.length_map]
    omega
  have l2 : (os.map PyData.str ++ ps.map PyData.str).length + (qs.map PyData.str).length ≤ 1000000 := by
    rw [List.length_append, List.length_append] at l12
    rw [List.length_append, List.length_map, List.length_map, List.length_map]
    omega
  simp -dsimp -implicitDefEqProofs [add_list l1, addL_list l2]
  rw [List.map_append, List.map_append, List.append_assoc] at k
  exact k
theorem notIn_of {x y : PyData} {b : Bool} (hy : isDict y = false) (h : dInA x y = some (.bool b)) : dNotInA x y = some (.bool (!b)) := by
  have e1 : dInA x y = (inB x y).map PyData.bool := by cases y <;> first | rfl | cases hy
  have e2 : dNotInA x y = (inB x y).map fun b => PyData.bool (!b) := by cases y <;> first | rfl | cases hy
  rw [e1] at h
  rw [e2]
  cases hb : inB x y with
  | none => rw [hb] at h; cases h
  | some c =>
    rw [hb] at h
    cases h
    rfl
theorem notIn_strL {ls : List Str} (x : Str) : dNotInA (.str x) (.list (ls.map .str)) = some (.bool (!decide (x ∈ ls))) := notIn_of rfl (in_strL x)
theorem notIn_strT {ls : List Str} (x : Str) : dNotInA (.str x) (.tuple (ls.map .str)) = some (.bool (!decide (x ∈ ls))) := notIn_of rfl (in_str x)
theorem eqv_nil (xs : List PyData) : PyData.eqv (.list xs) (.list []) = xs.isEmpty := by cases xs <;> simp
@[simp] theorem eqvAll_nil (xs : List PyData) : PyData.eqvAll xs [] = xs.isEmpty := by cases xs <;> rfl
theorem sh_ofL {k : Nat} {ds : List PyData} (h : ∀ d ∈ ds, Fi k d) (hk : k ≤ 63) : SeqAt.shaped (.list ds) = true := (fi_list.mpr h).sh (by omega)
theorem gk_fi {k : Nat} {d : PyData} (h : Gk k d) : Fi k d := ⟨h.lay, h.can.2.2⟩
def pZ (ps : List Str) : PyData → Bool
  | .tuple [.str x, o] => !decide (x ∈ ps) && isNoneD o
  | _ => false
def fZ : PyData → PyData
  | .tuple [x, _] => x
  | _ => .none
theorem inL_iff {ls : List Str} {d : PyData} : inL ls d = true ↔ ∃ x ∈ ls, d = .str x := by
  cases d with
  | str x =>
    show decide (x ∈ ls) = true ↔ _
    rw [decide_eq_true_iff]
    refine ⟨fun h => ⟨x, h, rfl⟩, ?_⟩
    rintro ⟨y, h, e⟩
    cases e
    exact h
  | _ =>
    refine ⟨fun h => (by cases h), ?_⟩
    rintro ⟨y, _, e⟩
    cases e
theorem isWord_c {os ps qs : List Str} {d : PyData} {P : Bool → PyData → List Slot → Prop} {E : ExD → List Slot → Prop} (hS : Sht os ps qs) (g : Gk 60 d) (k : P false (.bool (shortD os ps qs d)) [.shr (shD os ps qs), .shr d]) : (dLIsWord [.shr (shD os ps qs), .shr d]).to (k := ⟨P, E⟩) := by
  unfold dLIsWord gLIsWord
  rw [runD_to]
  cases d with
  | tuple ds =>
    have hn : ds.length ≤ 70 ∧ ∀ d ∈ ds, Gk 60 d := by
      cases g with
      | tup n h => exact ⟨n, fun d hd => (h d hd).mono (by decide)⟩
    have e : shortD os ps qs (.tuple ds) = ((decide (ds.length ≤ 60) && ds.all (inL (os ++ ps ++ qs))) && shutB os qs (ds.map strD)) := rfl
    rw [e] at k
    simp -dsimp -implicitDefEqProofs
    by_cases h60 : ds.length ≤ 60
    · rw [decide_eq_true h60, Bool.true_and] at k
      simp -dsimp -implicitDefEqProofs [show ¬ ((60 : Int) < (ds.length : Int)) by omega]
      have no : ∀ x : Str, dNotInA (.str x) (.list (os.map .str ++ (ps.map .str ++ qs.map .str))) = some (.bool (!inL (os ++ ps ++ qs) (.str x))) := fun x => by
        have := notIn_strL (ls := os ++ ps ++ qs) x
        rw [List.map_append, List.map_append, List.append_assoc] at this
        exact this
      have nn : ∀ d : PyData, (∀ x, d ≠ .str x) → inL (os ++ ps ++ qs) d = false := fun d h => by
        cases d with
        | str x => exact absurd rfl (h x)
        | _ => rfl
      have hall := @all_in (os ++ ps ++ qs) ds
      have ki : ∀ x, x ∈ os ++ ps ++ qs → (decide (x ∈ ps) = true ↔ kdOf os qs x = .pl) := fun x hx => by
        rw [decide_eq_true_iff]
        refine ⟨hS.plain, fun h => ?_⟩
        rcases List.mem_append.mp hx with z | z
        · rcases List.mem_append.mp z with z | z
          · rw [kd_op.mpr z] at h
            cases h
          · exact z
        · rw [(kd_cl hS).mpr z] at h
          cases h
      generalize hp : inL (os ++ ps ++ qs) = p at no nn hall k
      rw [lc_fm (fun d => !p d) id (by simp; rw [sizeLine_eq]; omega) (fun d hd => by
        cases d with
        | str x =>
          simp -dsimp -implicitDefEqProofs
          refine order_c hS ?_
          simp -dsimp -implicitDefEqProofs [no]
          exact Cnd_of (fun h => by simp -dsimp -implicitDefEqProofs) (fun h => by simp -dsimp -implicitDefEqProofs)
        | _ => simp -dsimp -implicitDefEqProofs [nn])]
      simp -dsimp -implicitDefEqProofs [ne_sh (sh_ofL (k := 60) (fun d hd => gk_fi (hn.2 d (List.mem_filter.mp hd).1)) (by decide)) sh_nilL, eqv_nil]
      by_cases hA : ds.all p = true
      · rw [hA, Bool.true_and] at k
        obtain ⟨e1, e2⟩ := hall hA
        have e3 : ds.filter (fun d => !p d) = [] := List.filter_eq_nil_iff.mpr fun d hd => by
          rw [List.all_eq_true.mp hA d hd]
          decide
        rw [e3]
        simp -dsimp -implicitDefEqProofs
        generalize ds.map strD = ws at e1 e2 k
        subst e1
        rw [List.length_map] at h60
        refine lAnswers_c hS e2 (by omega) ?_
        have al := ansOf_len' os qs ws
        simp -dsimp -implicitDefEqProofs [zip_tl (xs := ws.map PyData.str) (ys := (ansOf os qs ws).map oD) (by rw [List.length_map, List.length_map, al])]
        have zg : ∀ d ∈ zipItems (ws.map PyData.str) ((ansOf os qs ws).map oD), ∃ (i : Nat) (h : i < ws.length), d = .tuple [.str ws[i], oD (tv (ansOf os qs ws) i)] := fun d hd => by
          obtain ⟨i, hi⟩ := List.mem_iff_getElem?.mp hd
          obtain ⟨x, y, hx, hy, rfl⟩ := zip_get hi
          rw [List.getElem?_map] at hx hy
          obtain ⟨u, hu, rfl⟩ := Option.map_eq_some_iff.mp hx
          obtain ⟨v, hv, rfl⟩ := Option.map_eq_some_iff.mp hy
          obtain ⟨h1, h2⟩ := List.getElem?_eq_some_iff.mp hu
          refine ⟨i, h1, ?_⟩
          rw [h2, ← show v = tv (ansOf os qs ws) i by unfold tv; rw [List.getD_eq_getElem?_getD, hv]; rfl]
        rw [lc_fm (pZ ps) fZ (by rw [zip_len, List.length_map, List.length_map, sizeLine_eq]; simp; omega) (fun d hd => by
          obtain ⟨i, hi, rfl⟩ := zg d hd
          simp -dsimp -implicitDefEqProofs [notIn_strT]
          by_cases hq : ws[i] ∈ ps
          · simp -dsimp -implicitDefEqProofs [hq, pZ]
          · simp -dsimp -implicitDefEqProofs [hq, pZ]
            refine Cnd_of (fun h => ?_) (fun h => ?_) <;> simp -dsimp -implicitDefEqProofs [fZ])]
        have zm : ∀ (i : Nat) (h : i < ws.length), PyData.tuple [.str ws[i], oD (tv (ansOf os qs ws) i)] ∈ zipItems (ws.map PyData.str) ((ansOf os qs ws).map oD) := fun i h => by
          have h' : i < (ansOf os qs ws).length := by omega
          unfold zipItems
          refine List.mem_map.mpr ⟨(.str ws[i], oD (tv (ansOf os qs ws) i)), List.mem_iff_getElem?.mpr ⟨i, ?_⟩, rfl⟩
          rw [List.getElem?_zip_eq_some]
          rw [List.getElem?_map, List.getElem?_map, List.getElem?_eq_getElem h, tv_get h']
          exact ⟨rfl, rfl⟩
        have lt : ∀ y ∈ ((zipItems (ws.map PyData.str) ((ansOf os qs ws).map oD)).filter (pZ ps)).map fZ, Fi 60 y := fun y hy => by
          obtain ⟨z, hz, rfl⟩ := List.mem_map.mp hy
          obtain ⟨i, hi, rfl⟩ := zg z (List.mem_filter.mp hz).1
          exact fi_ltr (hS.lt _ (e2 _ (List.getElem_mem hi)))
        have fe : (((zipItems (ws.map PyData.str) ((ansOf os qs ws).map oD)).filter (pZ ps)).map fZ).isEmpty = shutB os qs ws := by
          unfold shutB
          rw [Bool.eq_iff_iff, List.isEmpty_iff, List.isEmpty_iff, List.map_eq_nil_iff, List.filter_eq_nil_iff, aloneOf_nil]
          have pe : ∀ (x : Str) (o : PyData), pZ ps (.tuple [.str x, o]) = (!decide (x ∈ ps) && isNoneD o) := fun _ _ => rfl
          constructor
          · intro h i hi hn
            have := h _ (zm i hi)
            rw [pe, oD_none, decide_eq_true hn, Bool.and_true] at this
            rw [kfOf_at (List.getElem?_eq_getElem hi)]
            exact (ki _ (e2 _ (List.getElem_mem hi))).mp (by simpa using this)
          · intro h z hz
            obtain ⟨i, hi, rfl⟩ := zg z hz
            rw [pe, oD_none]
            intro hh
            obtain ⟨h1, h2⟩ := Bool.and_eq_true_iff.mp hh
            have := h i hi (of_decide_eq_true h2)
            rw [kfOf_at (List.getElem?_eq_getElem hi)] at this
            have := (ki _ (e2 _ (List.getElem_mem hi))).mpr this
            rw [this] at h1
            cases h1
        rw [← fe] at k
        generalize ((zipItems (ws.map PyData.str) ((ansOf os qs ws).map oD)).filter (pZ ps)).map fZ = zz at lt k
        simp -dsimp -implicitDefEqProofs [eq_sh (sh_ofL lt (by decide)) sh_nilL]
        exact k
      · rw [Bool.eq_false_iff.mpr hA, Bool.false_and] at k
        have e3 : (ds.filter (fun d => !p d)).isEmpty = false := by
          rw [Bool.eq_false_iff]
          intro h
          refine hA (List.all_eq_true.mpr fun d hd => ?_)
          have := List.filter_eq_nil_iff.mp (List.isEmpty_iff.mp h) d hd
          simpa using this
        simp -dsimp -implicitDefEqProofs [e3]
        exact k
    · rw [decide_eq_false h60, Bool.false_and, Bool.false_and] at k
      simp -dsimp -implicitDefEqProofs [show ((60 : Int) < (ds.length : Int)) by omega]
      exact k
  | _ => simp -dsimp -implicitDefEqProofs <;> exact k
end Dl
set_option Elab.async false
set_option linter.all false
set_option maxRecDepth 100000
set_option maxHeartbeats 4000000
namespace Dl
open PySem PySem.Spec PyProof.Rows L2 Evl Gx GxR RZ Eh
theorem lWhole_c {d : PyData} {P : Bool → PyData → List Slot → Prop} {E : ExD → List Slot → Prop} (k : P false (.bool (timesD d)) [.shr d, .shr (.int (10 ^ 60 + 1))]) : (dLWhole [.shr d, .shr (.int (10 ^ 60 + 1))]).to (k := ⟨P, E⟩) := by
  unfold dLWhole gLWhole
  rw [runD_to]
  cases d with
  | int i =>
    have e : timesD (.int i) = (decide (0 ≤ i) && decide (i ≤ 10 ^ 60)) := rfl
    rw [e] at k
    by_cases h : 0 ≤ i
    · rw [decide_eq_true h, Bool.true_and] at k
      have e2 : decide (i ≤ 10 ^ 60) = decide (i < 10 ^ 60 + 1) := by
        rw [decide_eq_decide]
        exact ⟨Int.lt_add_one_of_le, Int.le_of_lt_add_one⟩
      rw [e2] at k
      generalize (10 : Int) ^ 60 + 1 = B at k ⊢
      simp -dsimp -implicitDefEqProofs [h]
      exact k
    · rw [decide_eq_false h, Bool.false_and] at k
      generalize (10 : Int) ^ 60 + 1 = B at k ⊢
      simp -dsimp -implicitDefEqProofs [h]
      exact k
  | _ => simp -dsimp -implicitDefEqProofs <;> exact k
theorem lParts_c {os ps qs : List Str} {d : PyData} {P : Bool → PyData → List Slot → Prop} {E : ExD → List Slot → Prop} (h : formG os ps qs d = true) (k : P true (.list (kidsG d)) [.shr d]) : (dLParts [.shr d]).to (k := ⟨P, E⟩) := by
  unfold dLParts gLParts
  rw [runD_to]
  rcases form_four h with ⟨x, rfl, _, e⟩ | ⟨ds, rfl, h8, e⟩ | ⟨n, x, rfl, _, e⟩ | ⟨n, a, x, c, rfl, _, _, _, e⟩ <;> rw [e] at k
  · simp -dsimp -implicitDefEqProofs
    exact k
  · simp -dsimp -implicitDefEqProofs [at_1]
    exact k
  · simp -dsimp -implicitDefEqProofs [at_2]
    exact k
  · simp -dsimp -implicitDefEqProofs [at_3]
    exact k
theorem head_str (a : PyData) : (∃ x, a = .str x) ∨ (isiB "str" a = some (.bool false) ∧ ∀ os ps qs r, formG os ps qs (.tuple (a :: r)) = false) := by
  cases a with
  | str x => exact .inl ⟨x, rfl⟩
  | _ => exact .inr ⟨by simp, fun _ _ _ _ => rfl⟩
theorem inL_no {ls : List Str} {d : PyData} (h : isiB "str" d = some (.bool false)) : inL ls d = false := by
  cases d with
  | str x =>
    rw [isi_str_str] at h
    cases h
  | _ => rfl
theorem isIt_c {os ps qs : List Str} {d : PyData} {P : Bool → PyData → List Slot → Prop} {E : ExD → List Slot → Prop} (hS : Sht os ps qs) (g : Gk 60 d) (k : P false (.bool (formG os ps qs d)) [.shr (shD os ps qs), .shr d]) : (dLIsIt [.shr (shD os ps qs), .shr d]).to (k := ⟨P, E⟩) := by
  unfold dLIsIt gLIsIt
  rw [runD_to]
  have hO : ∀ x ∈ os, Ltr x := fun x hx => hS.lt x (List.mem_append.mpr (.inl (List.mem_append.mpr (.inl hx))))
  have hQ : ∀ x ∈ qs, Ltr x := fun x hx => hS.lt x (List.mem_append.mpr (.inr hx))
  cases d with
  | tuple ds =>
    have hn : ds.length ≤ 70 ∧ ∀ d ∈ ds, Gk 60 d := by
      cases g with
      | tup n h => exact ⟨n, fun d hd => (h d hd).mono (by decide)⟩
    have hs : ∀ d ∈ ds, SeqAt.shaped d = true := fun d hd => (hn.2 d hd).shaped (by decide)
    clear g
    match ds, hn, hs, k with
    | [], hn, hs, k =>
      simp -dsimp -implicitDefEqProofs
      exact k
    | [a], hn, hs, k =>
      simp -dsimp -implicitDefEqProofs
      have e : formG os ps qs (.tuple [a]) = false := by
        rcases head5 a with rfl | rfl | rfl | rfl | h
        · rfl
        · rfl
        · rfl
        · rfl
        · exact h.2.2.2.2.2 _ _ _ _
      rw [e] at k
      exact k
    | a :: b :: r, hn, hs, k =>
      simp -dsimp -implicitDefEqProofs [show ¬ ((r.length : Int) + 1 + 1 < 2) by omega]
      have g1 : Gk 60 b := hn.2 b (by simp)
      rcases head_str a with ⟨h0, hh⟩ | ⟨e5, e6⟩
      · subst hh
        rcases head5 (.str h0) with hh | hh | hh | hh | ⟨e1, e2, e3, e4, _, e6⟩
        · cases hh
          rw [formG_eq, by_word] at k
          simp -dsimp -implicitDefEqProofs
          match r, k with
          | [], k =>
            simp -dsimp -implicitDefEqProofs
            exact isWord_c hS g1 k
          | x :: y, k =>
            simp -dsimp -implicitDefEqProofs [show ¬ ((y.length : Int) + 1 + 1 + 1 = 2) by omega]
            exact k
        · cases hh
          rw [formG_eq, by_row] at k
          simp -dsimp -implicitDefEqProofs
          match r, k with
          | [], k =>
            cases b with
            | tuple es =>
              rw [fR_1] at k
              simp -dsimp -implicitDefEqProofs
              have e : decide (es.length ≤ 8) = decide ((es.length : Int) < 9) := by rw [decide_eq_decide]; omega
              rw [e] at k
              exact k
            | _ => simp -dsimp -implicitDefEqProofs <;> exact k
          | x :: y, k =>
            have e : fRow (b :: x :: y) = false := by cases b <;> rfl
            rw [e] at k
            simp -dsimp -implicitDefEqProofs [show ¬ ((y.length : Int) + 1 + 1 + 1 = 2) by omega]
            exact k
        · cases hh
          rw [formG_eq, by_again] at k
          simp -dsimp -implicitDefEqProofs
          match r, k with
          | [], k =>
            simp -dsimp -implicitDefEqProofs
            exact k
          | [x], k =>
            simp -dsimp -implicitDefEqProofs
            exact lWhole_c k
          | x :: y :: z, k =>
            simp -dsimp -implicitDefEqProofs [show ¬ ((z.length : Int) + 1 + 1 + 1 + 1 = 3) by omega]
            exact k
        · cases hh
          rw [formG_eq, by_wrap] at k
          simp -dsimp -implicitDefEqProofs
          match r, k with
          | [], k =>
            simp -dsimp -implicitDefEqProofs
            exact k
          | [x], k =>
            simp -dsimp -implicitDefEqProofs
            exact k
          | [x, y], k =>
            simp -dsimp -implicitDefEqProofs
            exact k
          | [x, y, z], k =>
            simp -dsimp -implicitDefEqProofs
            refine lWhole_c ?_
            have e : fWrap os qs [b, x, y, z] = (timesD b && (inL os x && inL qs z)) := rfl
            rw [e] at k
            simp -dsimp -implicitDefEqProofs
            refine Cnd_of (fun h => ?_) (fun h => ?_)
            · have h : timesD b = false := by simpa using h
              rw [h, Bool.false_and] at k
              simp -dsimp -implicitDefEqProofs
              exact k
            · have h : timesD b = true := by simpa using h
              rw [h, Bool.true_and] at k
              have a2 : atI [PyData.str (Str.ofString "wrap"), b, x, y, z] 2 = some x := at_2
              have a4 : atI [PyData.str (Str.ofString "wrap"), b, x, y, z] 4 = some z := at_nat (n := 4) (by simp)
              rcases head_str x with ⟨u, rfl⟩ | ⟨f1, _⟩
              · rcases head_str z with ⟨v, rfl⟩ | ⟨f2, _⟩
                · simp -dsimp -implicitDefEqProofs [a2, a4, in_str]
                  have i1 : inL os (.str u) = decide (u ∈ os) := rfl
                  have i2 : inL qs (.str v) = decide (v ∈ qs) := rfl
                  rw [i1, i2] at k
                  refine Cnd_of (fun h => ?_) (fun h => ?_)
                  · rw [h, Bool.true_and] at k
                    simp -dsimp -implicitDefEqProofs [a4, in_str]
                    exact k
                  · rw [h, Bool.false_and] at k
                    simp -dsimp -implicitDefEqProofs [h]
                    exact k
                · rw [inL_no f2, Bool.and_false] at k
                  simp -dsimp -implicitDefEqProofs [a2, a4, f2]
                  exact k
              · rw [inL_no f1, Bool.false_and] at k
                simp -dsimp -implicitDefEqProofs [a2, a4, f1]
                exact k
          | x :: y :: z :: w :: t, k =>
            have e : fWrap os qs (b :: x :: y :: z :: w :: t) = false := rfl
            rw [e] at k
            simp -dsimp -implicitDefEqProofs [show ¬ ((t.length : Int) + 1 + 1 + 1 + 1 + 1 + 1 = 5) by omega]
            exact k
        · rw [e6] at k
          simp -dsimp -implicitDefEqProofs [eqv_s]
          rw [eqv_s] at e1 e2 e3 e4
          simp only at e1 e2 e3 e4
          simp -dsimp -implicitDefEqProofs [e1, e2, e3, e4]
          exact k
      · rw [e6] at k
        simp -dsimp -implicitDefEqProofs [e5]
        exact k
  | _ => simp -dsimp -implicitDefEqProofs <;> exact k
end Dl
set_option Elab.async false
set_option linter.all false
set_option maxRecDepth 100000
set_option maxHeartbeats 4000000
namespace Dl
open PySem PySem.Spec PyProof.Rows L2 Evl Gx GxR RZ Eh
theorem lSame_c {n : Nat} {a b : Bool} {P : Bool → PyData → List Slot → Prop} {E : ExD → List Slot → Prop} (k : P false (.bool (a == b)) [.shr (.bool a), .shr (.bool b)]) : (dLSame (n + 1) [.shr (.bool a), .shr (.bool b)]).to (k := ⟨P, E⟩) := by
  show (runD 4 (gLSame (dLSame n)) [.shr (.bool a), .shr (.bool b)]).to (k := ⟨P, E⟩)
  generalize dLSame n = R
  unfold gLSame
  rw [runD_to]
  simp -dsimp -implicitDefEqProofs
  exact k
theorem bools_map (f : PyData → Bool) : ∀ ds : List PyData, boolsOf (ds.map fun d => PyData.bool (f d)) = some (ds.map f)
  | [] => rfl
  | d :: r => by
    show (boolsOf (r.map fun d => PyData.bool (f d))).map (f d :: ·) = _
    rw [bools_map f r]
    rfl
theorem all_bools (f : PyData → Bool) (ds : List PyData) : kAll [.list (ds.map fun d => PyData.bool (f d))] = some (.bool (ds.all f)) := by
  show (boolsOf _).map _ = _
  rw [bools_map]
  show some (PyData.bool ((ds.map f).all id)) = _
  rw [List.all_map]
  rfl
def DuI (os ps qs : List Str) (d : PyData) (i : Nat) (e : DEnv) : Prop := ∃ (L : List PyData) (many : Nat) (x4 x5 x6 : Option Slot), (∀ x ∈ L, Gk 60 x) ∧ wtAll L ≤ wt d ∧ dueL (formG os ps qs) kidsG 40 (10 - i) L many = isD (formG os ps qs) kidsG 10 40 d ∧ e = [some (Slot.shr (shD os ps qs)), some (Slot.shr d), some (Slot.shr (.list L)), some (Slot.shr (.int (many : Int))), x4, x5, x6]
def BeI (os ps qs : List Str) (d : PyData) (L : List PyData) (m : Int) (i : Nat) (e : DEnv) : Prop := ∃ (x4 x5 : Option Slot), e = [some (Slot.shr (shD os ps qs)), some (Slot.shr d), some (Slot.shr (.list L)), some (Slot.shr (.int m)), x4, x5, some (Slot.own (.list ((L.take i).flatMap kidsG)))]
theorem wt_take (L : List PyData) (i : Nat) : wtAll ((L.take i).flatMap kidsG) ≤ wtAll L := Nat.le_trans (layerG_wt _) (wt_sub (List.take_sublist i L))
theorem due_c {os ps qs : List Str} {d : PyData} {P : Bool → PyData → List Slot → Prop} {E : ExD → List Slot → Prop} (hS : Sht os ps qs) (g : Gk 60 d) (hw : wt d ≤ 9000) (k : P false (.bool (isD (formG os ps qs) kidsG 10 40 d)) [.shr (shD os ps qs), .shr d]) : (dLDue [.shr (shD os ps qs), .shr d]).to (k := ⟨P, E⟩) := by
  unfold dLDue gLDue
  rw [runD_to]
  simp -dsimp -implicitDefEqProofs
  rw [show rng1 [.int 10] = some (rngItems 0 10) from rng_ok (n := 10) (by decide)]
  simp -dsimp -implicitDefEqProofs
  refine for_ok0 (DuI os ps qs d) ⟨[d], 0, _, _, _, fun x hx => by rw [List.mem_singleton.mp hx]; exact g, Nat.le_refl _, due_is _ _ _ _ _, rfl⟩ ?_ ?_
  · rintro i z e hz ⟨L, many, x4, x5, x6, hL, hwt, hd, rfl⟩
    obtain ⟨rfl, hi⟩ := rng_get hz
    have ll := len_wt L
    obtain ⟨m, hm⟩ : ∃ m, 10 - i = m + 1 := ⟨9 - i, by omega⟩
    have hm2 : 10 - (i + 1) = m := by omega
    rw [hm] at hd
    have e0 : dueL (formG os ps qs) kidsG 40 (m + 1) L many = if L.all (formG os ps qs) = true then dueL (formG os ps qs) kidsG 40 m (L.flatMap kidsG) (many + L.length) else false := rfl
    rw [e0] at hd
    simp -dsimp -implicitDefEqProofs
    rw [lc_fm (fun _ => true) (fun x => .bool (formG os ps qs x)) (by simp; rw [sizeLine_eq]; omega) (fun x hx => by
      simp -dsimp -implicitDefEqProofs
      refine isIt_c hS (hL x hx) ?_
      simp -dsimp -implicitDefEqProofs), flt]
    simp -dsimp -implicitDefEqProofs [all_bools]
    by_cases hA : L.all (formG os ps qs) = true
    · rw [if_pos hA] at hd
      simp -dsimp -implicitDefEqProofs [hA]
      refine for_ok0 (BeI os ps qs d L _) ⟨_, _, rfl⟩ ?_ ?_
      · rintro j x e hx ⟨x4, x5, rfl⟩
        have hf := List.all_eq_true.mp hA x (List.mem_of_getElem? hx)
        simp -dsimp -implicitDefEqProofs
        refine lParts_c hf ?_
        have l8 := kids_len hf
        have lt := Nat.le_trans (len_wt _) (wt_take L j)
        simp -dsimp -implicitDefEqProofs [extend_l (ds := (L.take j).flatMap kidsG) (xs := kidsG x) (by omega)]
        refine ⟨x4, some (Slot.shr x), ?_⟩
        rw [List.take_succ, hx, List.flatMap_append]
        simp
      · rintro e ⟨x4, x5, rfl⟩
        simp -dsimp -implicitDefEqProofs
        refine ⟨L.flatMap kidsG, many + L.length, x4, x5, _, fun x hx => ?_, Nat.le_trans (layerG_wt L) hwt, by rw [hm2]; exact hd, rfl⟩
        obtain ⟨y, hy, hx⟩ := List.mem_flatMap.mp hx
        exact kidsG_gk (hL y hy) x hx
    · rw [if_neg hA] at hd
      rw [← hd] at k
      simp -dsimp -implicitDefEqProofs [hA]
      exact k
  · rintro e ⟨L, many, x4, x5, x6, hL, hwt, hd, rfl⟩
    have e0 : dueL (formG os ps qs) kidsG 40 (10 - (rngItems 0 10).length) L many = (L.isEmpty && decide (many ≤ 40)) := rfl
    rw [e0] at hd
    have e1 : decide (many ≤ 40) = decide ((many : Int) < 41) := by rw [decide_eq_decide]; omega
    rw [e1] at hd
    rw [← hd] at k
    simp -dsimp -implicitDefEqProofs [eq_sh (list_shaped hL (by decide)) sh_nilL]
    refine Cnd_of (fun h => ?_) (fun h => ?_)
    · rw [h, Bool.true_and] at k
      simp -dsimp -implicitDefEqProofs
      exact k
    · rw [h, Bool.false_and] at k
      simp -dsimp -implicitDefEqProofs [h]
      exact k
end Dl
set_option Elab.async false
set_option linter.all false
set_option maxRecDepth 100000
set_option maxHeartbeats 4000000
namespace Eh
open PySem PySem.Spec PyProof.Rows L2 Evl Dl
theorem cl_some {os qs W : List Str} (hb : bal os qs W 0 = some 0) {i : Nat} (hi : i < W.length) (hc : kfOf os qs W i = .cl) : tv (ansOf os qs W) i ≠ none := by
  have h1 := bal_take hb i (by omega)
  have h2 := bal_take hb (i + 1) hi
  have hne : (run (kfOf os qs W) W.length i).2 ≠ [] := fun hnil => by
    rw [hnil] at h1
    have e1 : W.take (i + 1) = W.take i ++ [W[i]] := by rw [List.take_succ, List.getElem?_eq_getElem hi]; rfl
    rw [e1, bal_app, h1] at h2
    rw [kfOf_at (List.getElem?_eq_getElem hi)] at hc
    replace h2 : bal os qs [W[i]] 0 = _ := h2
    unfold bal at h2
    rw [hc] at h2
    cases h2
  have g := good_run (kfOf os qs W) W.length i (by omega)
  have st : ∃ b, tv (run (kfOf os qs W) W.length (i + 1)).1 i = some b := by
    show ∃ b, tv (step (kfOf os qs W) i (run (kfOf os qs W) W.length i)).1 i = some b
    unfold step
    rw [hc]
    cases hs : (run (kfOf os qs W) W.length i).2 with
    | nil => exact absurd hs hne
    | cons b r =>
      have l := g.len
      exact ⟨b, by rw [tv_set2 (by omega) (by have := (g.bd b (by rw [hs]; exact List.mem_cons_self ..)).1; omega), if_pos rfl]⟩
  obtain ⟨b, hb'⟩ := st
  have lt := (run_later (kfOf os qs W) W.length (i + 1) i (W.length - (i + 1)) (by omega)).1 b hb'
  rw [show i + 1 + (W.length - (i + 1)) = W.length by omega] at lt
  show tv (run (kfOf os qs W) W.length W.length).1 i ≠ none
  rw [lt]
  exact fun z => nomatch z
theorem alone_nil {os qs W : List Str} (hb : bal os qs W 0 = some 0) : aloneOf os qs W (ansOf os qs W) = [] := by
  refine aloneOf_nil.mpr fun i hi hn => ?_
  cases hk : kfOf os qs W i with
  | pl => rfl
  | op =>
    have := (good_run (kfOf os qs W) W.length W.length (Nat.le_refl _)).opn i hi hk hn
    rw [st_end hb] at this
    exact (List.not_mem_nil this).elim
  | cl => exact absurd hn (cl_some hb hi hk)
/-- a great word as drawn -/
inductive GT (os ps qs : List Str) : Nat → PyData → Prop
  | word {n : Nat} {ws : List Str} (h : ∀ x ∈ ws, x ∈ os ++ ps ++ qs) (l : ws.length ≤ 6) (b : bal os qs ws 0 = some 0) : GT os ps qs n (.tuple [.str "word", .tuple (ws.map .str)])
  | row {n : Nat} {ds : List PyData} (l : ds.length ≤ 3) (h : ∀ d ∈ ds, GT os ps qs n d) : GT os ps qs (n + 1) (.tuple [.str "row", .tuple ds])
  | again {n : Nat} {i : Int} {d : PyData} (h0 : 0 ≤ i) (h1 : i ≤ 10 ^ 60) (h : GT os ps qs n d) : GT os ps qs (n + 1) (.tuple [.str "again", .int i, d])
  | wrap {n : Nat} {i : Int} {a c : Str} {d : PyData} (h0 : 0 ≤ i) (h1 : i ≤ 10 ^ 60) (ha : a ∈ os) (hc : c ∈ qs) (h : GT os ps qs n d) : GT os ps qs (n + 1) (.tuple [.str "wrap", .int i, .str a, d, .str c])
theorem log60 {i : Int} (h0 : -1 ≤ i) (h1 : i ≤ 10 ^ 60 + 1) : i.natAbs.log2 < 300 := by
  have : i.natAbs < 2 ^ 300 := by
    have h2 : (10 : Int) ^ 60 + 1 < 2 ^ 300 := by decide +kernel
    omega
  by_cases hz : i.natAbs = 0
  · rw [hz]
    decide
  · exact (Nat.log2_lt hz).mpr this
theorem gk_w {k : Nat} {s : String} (h : (decide ((cs (Str.ofString s)).length ≤ 40) && (cs (Str.ofString s)).all fun c => decide (c < 128)) = true) : Gk k (.str (Str.ofString s)) := by
  rw [Bool.and_eq_true, decide_eq_true_iff, List.all_eq_true] at h
  exact .str h.1 fun c hc => of_decide_eq_true (h.2 c hc)
theorem gk_strs {k : Nat} {os ps qs ws : List Str} (hS : Sht os ps qs) (h : ∀ x ∈ ws, x ∈ os ++ ps ++ qs) (l : ws.length ≤ 70) : Gk (k + 1) (.tuple (ws.map .str)) := .tup (by rw [List.length_map]; exact l) fun d hd => by
  obtain ⟨x, hx, rfl⟩ := List.mem_map.mp hd
  exact gk_ltr (hS.lt x (h x hx))
theorem wt_strs : ∀ ws : List Str, wtAll (ws.map PyData.str) = ws.length
  | [] => rfl
  | x :: r => by
    show 1 + wtAll (r.map PyData.str) = r.length + 1
    rw [wt_strs r]
    omega
def gW : Nat → Nat
  | 0 => 9
  | n + 1 => 3 + 3 * gW n
def gC : Nat → Nat
  | 0 => 1
  | n + 1 => 1 + 3 * gC n
theorem gW9 (n : Nat) : 9 ≤ gW n := by
  induction n with
  | zero => exact Nat.le_refl _
  | succ n ih =>
    show 9 ≤ 3 + 3 * gW n
    omega
theorem gC1 (n : Nat) : 1 ≤ gC n := by
  cases n with
  | zero => exact Nat.le_refl _
  | succ n =>
    show 1 ≤ 1 + 3 * gC n
    omega
theorem wtAll_le {B : Nat} : ∀ ds : List PyData, (∀ d ∈ ds, wt d ≤ B) → wtAll ds ≤ ds.length * B
  | [], _ => Nat.zero_le _
  | d :: r, h => by
    have a := h d (List.mem_cons_self ..)
    have b := wtAll_le r fun x hx => h x (List.mem_cons_of_mem _ hx)
    show wt d + wtAll r ≤ (r.length + 1) * B
    rw [Nat.add_mul]
    omega
section
variable {os ps qs : List Str}
theorem GT.gk (hS : Sht os ps qs) {n : Nat} {d : PyData} (h : GT os ps qs n d) : Gk (2 * n + 2) d := by
  induction h with
  | word h l b => exact .tup (by simp) (by
      intro d hd
      rcases List.mem_cons.mp hd with rfl | hd
      · exact gk_w (by decide +kernel)
      · rw [List.mem_singleton.mp hd]
        exact (gk_strs (k := 0) hS h (by omega)).mono (by omega))
  | row l h ih => exact .tup (by simp) (by
      intro d hd
      rcases List.mem_cons.mp hd with rfl | hd
      · exact gk_w (by decide +kernel)
      · rw [List.mem_singleton.mp hd]
        exact .tup (by omega) ih)
  | again h0 h1 h ih => exact .tup (by simp) (by
      intro d hd
      rcases List.mem_cons.mp hd with rfl | hd
      · exact gk_w (by decide +kernel)
      · rcases List.mem_cons.mp hd with rfl | hd
        · exact .int (log60 (by omega) (by omega))
        · rw [List.mem_singleton.mp hd]
          exact ih.up)
  | wrap h0 h1 ha hc h ih => exact .tup (by simp) (by
      intro d hd
      rcases List.mem_cons.mp hd with rfl | hd
      · exact gk_w (by decide +kernel)
      · rcases List.mem_cons.mp hd with rfl | hd
        · exact .int (log60 (by omega) (by omega))
        · rcases List.mem_cons.mp hd with rfl | hd
          · exact gk_ltr (hS.lt _ (List.mem_append.mpr (.inl (List.mem_append.mpr (.inl ha)))))
          · rcases List.mem_cons.mp hd with rfl | hd
            · exact ih.up
            · rw [List.mem_singleton.mp hd]
              exact gk_ltr (hS.lt _ (List.mem_append.mpr (.inr hc))))
theorem GT.wt {n : Nat} {d : PyData} (h : GT os ps qs n d) : wt d ≤ gW n := by
  induction h with
  | @word n ws h l b =>
    have := gW9 n
    have e : Eh.wt (.tuple [.str "word", .tuple (ws.map .str)]) = 1 + (1 + ((1 + wtAll (ws.map PyData.str)) + 0)) := rfl
    rw [e, wt_strs]
    omega
  | @row n ds l h ih =>
    have a := wtAll_le ds ih
    have b : ds.length * gW n ≤ 3 * gW n := Nat.mul_le_mul_right _ l
    show 1 + (1 + ((1 + wtAll ds) + 0)) ≤ 3 + 3 * gW n
    omega
  | @again n i d h0 h1 h ih =>
    show 1 + (1 + (1 + (Eh.wt d + 0))) ≤ 3 + 3 * gW n
    omega
  | @wrap n i a c d h0 h1 ha hc h ih =>
    have := gW9 n
    show 1 + (1 + (1 + (1 + (Eh.wt d + (1 + 0))))) ≤ 3 + 3 * gW n
    omega
theorem times_ok {i : Int} (h0 : 0 ≤ i) (h1 : i ≤ 10 ^ 60) : timesD (.int i) = true := by
  show (decide (0 ≤ i) && decide (i ≤ 10 ^ 60)) = true
  rw [decide_eq_true h0, decide_eq_true h1]
  rfl
theorem inL_str {ls : List Str} {x : Str} (h : x ∈ ls) : inL ls (.str x) = true := decide_eq_true h
theorem GT.form {n : Nat} {d : PyData} (h : GT os ps qs n d) : formG os ps qs d = true := by
  cases h with
  | @word _ ws h l b =>
    rw [formG_eq, by_word]
    show ((decide ((ws.map PyData.str).length ≤ 60) && (ws.map PyData.str).all (inL (os ++ ps ++ qs))) && shutB os qs ((ws.map PyData.str).map strD)) = true
    rw [strD_map, List.length_map, decide_eq_true (by omega), List.all_eq_true.mpr (fun d hd => by
      obtain ⟨x, hx, rfl⟩ := List.mem_map.mp hd
      exact inL_str (h x hx))]
    unfold shutB
    rw [alone_nil b]
    rfl
  | row l h =>
    rw [formG_eq, by_row]
    exact decide_eq_true (by omega)
  | again h0 h1 h =>
    rw [formG_eq, by_again]
    exact times_ok h0 h1
  | wrap h0 h1 ha hc h =>
    rw [formG_eq, by_wrap]
    show (timesD _ && (inL os _ && inL qs _)) = true
    rw [times_ok h0 h1, inL_str ha, inL_str hc]
    rfl
theorem GT.cnt {n : Nat} {d : PyData} (h : GT os ps qs n d) : ∃ c, cnt (formG os ps qs) kidsG (n + 1) d = some c ∧ c ≤ gC n := by
  have un : ∀ (m : Nat) (d : PyData), formG os ps qs d = true → Eh.cnt (formG os ps qs) kidsG (m + 1) d = (sumO ((kidsG d).map (Eh.cnt (formG os ps qs) kidsG m))).map (1 + ·) := fun m d hf => by
    rw [Eh.cnt, if_pos hf]
  induction h with
  | @word n ws h l b =>
    have f := (GT.word (n := n) h l b).form
    rw [un n _ f, kidsG_eq, k_word]
    exact ⟨1, rfl, gC1 n⟩
  | @row n ds l h ih =>
    have f := (GT.row (n := n) l h).form
    rw [un _ _ f, kidsG_eq, k_row]
    show ∃ c, (sumO (ds.map (Eh.cnt (formG os ps qs) kidsG (n + 1)))).map (1 + ·) = some c ∧ c ≤ 1 + 3 * gC n
    have : ∀ es : List PyData, (∀ d ∈ es, ∃ c, Eh.cnt (formG os ps qs) kidsG (n + 1) d = some c ∧ c ≤ gC n) → ∃ c, sumO (es.map (Eh.cnt (formG os ps qs) kidsG (n + 1))) = some c ∧ c ≤ es.length * gC n := fun es => by
      induction es with
      | nil => exact fun _ => ⟨0, rfl, Nat.zero_le _⟩
      | cons x r ihr =>
        intro hx
        obtain ⟨c1, h1, h2⟩ := hx x (List.mem_cons_self ..)
        obtain ⟨c2, h3, h4⟩ := ihr fun y hy => hx y (List.mem_cons_of_mem _ hy)
        refine ⟨c1 + c2, ?_, ?_⟩
        · rw [List.map_cons, sumO_cons, h1, h3]
        · rw [List.length_cons, Nat.add_mul]
          omega
    obtain ⟨c, h1, h2⟩ := this ds ih
    have b : ds.length * gC n ≤ 3 * gC n := Nat.mul_le_mul_right _ l
    exact ⟨1 + c, by rw [h1]; rfl, by omega⟩
  | @again n i d h0 h1 h ih =>
    have f := (GT.again (n := n) h0 h1 h).form
    obtain ⟨c, h1, h2⟩ := ih
    rw [un _ _ f, kidsG_eq, k_again]
    show ∃ c, (sumO [Eh.cnt (formG os ps qs) kidsG (n + 1) d]).map (1 + ·) = some c ∧ c ≤ 1 + 3 * gC n
    rw [h1]
    exact ⟨1 + (c + 0), rfl, by omega⟩
  | @wrap n i a c d h0 h1 ha hc h ih =>
    have f := (GT.wrap (n := n) h0 h1 ha hc h).form
    obtain ⟨c, h1, h2⟩ := ih
    rw [un _ _ f, kidsG_eq, k_wrap]
    show ∃ c, (sumO [Eh.cnt (formG os ps qs) kidsG (n + 1) d]).map (1 + ·) = some c ∧ c ≤ 1 + 3 * gC n
    rw [h1]
    exact ⟨1 + (c + 0), rfl, by omega⟩
theorem GT.is {d : PyData} (h : GT os ps qs 3 d) : isD (formG os ps qs) kidsG 10 40 d = true := by
  obtain ⟨c, h1, h2⟩ := h.cnt
  unfold isD
  rw [cnt_mono h1 (by decide)]
  exact decide_eq_true (Nat.le_trans h2 (by decide))
end
end Eh
set_option Elab.async false
set_option linter.all false
set_option maxRecDepth 100000
set_option maxHeartbeats 4000000
namespace Dl
open PySem PySem.Spec PyProof.Rows L2 Evl Gx GxR RZ Eh
theorem count_c {p : PyData} {P : Bool → PyData → List Slot → Prop} {E : ExD → List Slot → Prop} (hp : PotOk p) (k : ∀ (i : Int) p', 0 ≤ i → i ≤ 10 ^ 60 → PotOk p' → P false (.int i) [.io 0 p', .shr (.bool true)]) : (dLCount [.io 0 p, .shr (.bool true)]).to (k := ⟨P, E⟩) := by
  unfold dLCount gLCount
  rw [runD_to]
  simp -dsimp -implicitDefEqProofs
  refine pick_c hp (by decide) (by decide) fun v1 p1 h1 hp1 => ?_
  simp -dsimp -implicitDefEqProofs
  refine pick_c hp1 (by decide) (by decide) fun v2 p2 h2 hp2 => ?_
  simp -dsimp -implicitDefEqProofs
  refine pick_c hp2 (by decide +kernel) (by decide +kernel) fun v3 p3 h3 hp3 => ?_
  simp -dsimp -implicitDefEqProofs
  refine pick_c hp3 (by decide) (by decide) fun v4 p4 h4 hp4 => ?_
  simp -dsimp -implicitDefEqProofs [add_list (xs := [PyData.int 0, .int 1, .int 2, .int (v1 : Int)]) (ys := [PyData.int (v2 : Int), .int (v3 : Int), .int (1000000000000000000000000000000000000000000000000000000000000 - (v4 : Int))]) (by simp)]
  refine pick_c (m := 7) hp4 (by decide) (by decide) fun v5 p5 h5 hp5 => ?_
  rw [ten60] at k
  rcases (show v5 = 0 ∨ v5 = 1 ∨ v5 = 2 ∨ v5 = 3 ∨ v5 = 4 ∨ v5 = 5 ∨ v5 = 6 by omega) with rfl | rfl | rfl | rfl | rfl | rfl | rfl
  · simp -dsimp -implicitDefEqProofs [show atI [PyData.int 0, .int 1, .int 2, .int (v1 : Int), .int (v2 : Int), .int (v3 : Int), .int (1000000000000000000000000000000000000000000000000000000000000 - (v4 : Int))] ((0 : Nat) : Int) = some (.int 0) from rfl]
    exact k _ _ (by omega) (by omega) hp5
  · simp -dsimp -implicitDefEqProofs [show atI [PyData.int 0, .int 1, .int 2, .int (v1 : Int), .int (v2 : Int), .int (v3 : Int), .int (1000000000000000000000000000000000000000000000000000000000000 - (v4 : Int))] 1 = some (.int 1) from rfl]
    exact k _ _ (by omega) (by omega) hp5
  · simp -dsimp -implicitDefEqProofs [show atI [PyData.int 0, .int 1, .int 2, .int (v1 : Int), .int (v2 : Int), .int (v3 : Int), .int (1000000000000000000000000000000000000000000000000000000000000 - (v4 : Int))] 2 = some (.int 2) from rfl]
    exact k _ _ (by omega) (by omega) hp5
  · simp -dsimp -implicitDefEqProofs [show atI [PyData.int 0, .int 1, .int 2, .int (v1 : Int), .int (v2 : Int), .int (v3 : Int), .int (1000000000000000000000000000000000000000000000000000000000000 - (v4 : Int))] 3 = some (.int (v1 : Int)) from rfl]
    exact k _ _ (by omega) (by omega) hp5
  · simp -dsimp -implicitDefEqProofs [show atI [PyData.int 0, .int 1, .int 2, .int (v1 : Int), .int (v2 : Int), .int (v3 : Int), .int (1000000000000000000000000000000000000000000000000000000000000 - (v4 : Int))] 4 = some (.int (v2 : Int)) from rfl]
    exact k _ _ (by omega) (by omega) hp5
  · simp -dsimp -implicitDefEqProofs [show atI [PyData.int 0, .int 1, .int 2, .int (v1 : Int), .int (v2 : Int), .int (v3 : Int), .int (1000000000000000000000000000000000000000000000000000000000000 - (v4 : Int))] 5 = some (.int (v3 : Int)) from rfl]
    exact k _ _ (by omega) (by omega) hp5
  · simp -dsimp -implicitDefEqProofs [show atI [PyData.int 0, .int 1, .int 2, .int (v1 : Int), .int (v2 : Int), .int (v3 : Int), .int (1000000000000000000000000000000000000000000000000000000000000 - (v4 : Int))] 6 = some (.int (1000000000000000000000000000000000000000000000000000000000000 - (v4 : Int))) from rfl]
    exact k _ _ (by omega) (by omega) hp5
theorem gt0 (n : Nat) : decide ((0 : Int) < ((n + 1 : Nat) : Int)) = true := decide_eq_true (by omega)
def GrJ (os ps qs : List Str) (deep i : Nat) (acc : List PyData) (e : DEnv) : Prop := ∃ (ds : List PyData) (p' : PyData), acc = ds ∧ ds.length ≤ i ∧ (∀ d ∈ ds, GT os ps qs deep d) ∧ PotOk p' ∧ e = [some (Slot.io 0 p'), some (Slot.shr (shD os ps qs)), some (Slot.shr (.int ((deep : Int) + 1))), some (Slot.shr (.bool true)), some (Slot.shr (.int 1)), none, none, none, none]
theorem great_c {os ps qs : List Str} (hS : Sht os ps qs) : ∀ (deep n : Nat) {p : PyData} {P : Bool → PyData → List Slot → Prop} {E : ExD → List Slot → Prop}, deep < n → PotOk p → (∀ d p', GT os ps qs deep d → PotOk p' → P false d [.io 0 p', .shr (shD os ps qs), .shr (.int (deep : Int)), .shr (.bool true)]) →
    (dLGreat n [.io 0 p, .shr (shD os ps qs), .shr (.int (deep : Int)), .shr (.bool true)]).to (k := ⟨P, E⟩) := by
  intro deep
  induction deep with
  | zero =>
    intro n p P E hn hp k
    obtain ⟨m, rfl⟩ : ∃ m, n = m + 1 := ⟨n - 1, by omega⟩
    show (runD 9 (gLGreat (dLGreat m)) _).to (k := ⟨P, E⟩)
    generalize dLGreat m = R
    unfold gLGreat
    rw [runD_to]
    simp -dsimp -implicitDefEqProofs
    refine pick_c hp (by decide) (by decide) fun v1 p1 h1 hp1 => ?_
    simp -dsimp -implicitDefEqProofs
    refine shut_c (m := 3) hp1 hS (by decide) fun ws p2 hw hl hb hp2 => ?_
    simp -dsimp -implicitDefEqProofs
    exact k _ _ (.word hw (by omega) hb) hp2
  | succ deep ih =>
    intro n p P E hn hp k
    obtain ⟨m, rfl⟩ : ∃ m, n = m + 1 := ⟨n - 1, by omega⟩
    show (runD 9 (gLGreat (dLGreat m)) _).to (k := ⟨P, E⟩)
    have ih' := @ih m
    generalize dLGreat m = R at ih'
    unfold gLGreat
    rw [runD_to]
    simp -dsimp -implicitDefEqProofs
    refine pick_c hp (by decide) (by decide) fun v1 p1 h1 hp1 => ?_
    simp -dsimp -implicitDefEqProofs
    have hdm : deep < m := by omega
    have ih2 : ∀ {p : PyData} {P : Bool → PyData → List Slot → Prop} {E : ExD → List Slot → Prop}, PotOk p → (∀ d p', GT os ps qs deep d → PotOk p' → P false d [.io 0 p', .shr (shD os ps qs), .shr (.int (deep : Int)), .shr (.bool true)]) → (R [.io 0 p, .shr (shD os ps qs), .shr (.int (deep : Int)), .shr (.bool true)]).to (k := ⟨P, E⟩) := fun a b => ih' hdm a b
    clear ih ih'
    have l1 := hS.o1
    have l2 := hS.c1
    have lo := hS.o4
    have lc := hS.c4
    have h4 : v1 = 0 ∨ v1 = 1 ∨ v1 = 2 ∨ v1 = 3 := by omega
    refine h4.elim (fun h => ?_) fun h4 => h4.elim (fun h => ?_) fun h4 => h4.elim (fun h => ?_) fun h => ?_
    · simp -dsimp -implicitDefEqProofs [h]
      refine shut_c (m := 3) hp1 hS (by decide) fun ws p2 hw hl hb hp2 => ?_
      simp -dsimp -implicitDefEqProofs
      exact k _ _ (.word hw (by omega) hb) hp2
    · simp -dsimp -implicitDefEqProofs [h]
      refine pick_c hp1 (by decide) (by decide) fun v2 p2 h2 hp2 => ?_
      simp -dsimp -implicitDefEqProofs [rng_ok (show v2 ≤ 1000000 by omega)]
      refine lc_go (GrJ os ps qs deep) (by simp; omega) ⟨[], p2, rfl, Nat.zero_le _, fun x h => (List.not_mem_nil h).elim, hp2, rfl⟩ ?_ ?_
      · rintro i d acc e hd ⟨ds, p3, rfl, hl, hds, hp3, rfl⟩
        simp -dsimp -implicitDefEqProofs
        refine ih2 hp3 fun d' p4 hd' hp4 => ?_
        simp -dsimp -implicitDefEqProofs
        refine ⟨acc ++ [d'], p4, rfl, by rw [List.length_append]; exact Nat.add_le_add_right hl 1, fun x hx => ?_, hp4, rfl⟩
        rcases List.mem_append.mp hx with z | z
        · exact hds x z
        · rw [List.mem_singleton.mp z]
          exact hd'
      · rintro acc e ⟨ds, p3, rfl, hl, hds, hp3, rfl⟩
        rw [rng_len] at hl
        simp -dsimp -implicitDefEqProofs
        exact k _ _ (.row (by omega) hds) hp3
    · simp -dsimp -implicitDefEqProofs [h]
      refine count_c hp1 fun i p2 i0 i1 hp2 => ?_
      simp -dsimp -implicitDefEqProofs
      refine ih2 hp2 fun d p3 hd hp3 => ?_
      simp -dsimp -implicitDefEqProofs
      exact k _ _ (.again i0 i1 hd) hp3
    · simp -dsimp -implicitDefEqProofs [h]
      refine count_c hp1 fun i p2 i0 i1 hp2 => ?_
      simp -dsimp -implicitDefEqProofs
      refine ih2 hp2 fun d p3 hd hp3 => ?_
      simp -dsimp -implicitDefEqProofs
      refine pickN_c (n := os.length) hp3 (by omega) (by omega) fun v4 p4 h4 hp4 => ?_
      obtain ⟨x, hx, ex⟩ := ix_strs h4
      simp -dsimp -implicitDefEqProofs [ex]
      refine pickN_c (n := qs.length) hp4 (by omega) (by omega) fun v5 p5 h5 hp5 => ?_
      obtain ⟨y, hy, ey⟩ := ix_strs h5
      simp -dsimp -implicitDefEqProofs [ey]
      exact k _ _ (.wrap i0 i1 hx hy hd) hp5
end Dl
set_option Elab.async false
set_option linter.all false
set_option maxRecDepth 100000
set_option maxHeartbeats 4000000
namespace Eh
open PySem PySem.Spec PyProof.Rows L2 Evl Dl
def repD (n : Nat) (xs : List PyData) : List PyData := (List.replicate n xs).flatten
@[simp] theorem repD_len (n : Nat) (xs : List PyData) : (repD n xs).length = n * xs.length := by
  unfold repD
  simp
theorem repD_mem {n : Nat} {xs : List PyData} {x : PyData} (h : x ∈ repD n xs) : x ∈ xs := by
  unfold repD at h
  obtain ⟨l, hl, hx⟩ := List.mem_flatten.mp h
  rw [List.eq_of_mem_replicate hl] at hx
  exact hx
theorem repD_wt (n : Nat) (xs : List PyData) : wtAll (repD n xs) = n * wtAll xs := by
  induction n with
  | zero =>
    rw [Nat.zero_mul]
    rfl
  | succ n ih =>
    unfold repD at ih ⊢
    rw [List.replicate_succ, List.flatten_cons, wtAll_app, ih, Nat.add_mul]
    omega
/-- small -/
def Sm (k B : Nat) (d : PyData) : Prop := Gk k d ∧ wt d ≤ B
theorem Sm.mono {k B k' B' : Nat} {d : PyData} (h : Sm k B d) (hk : k ≤ k') (hB : B ≤ B') : Sm k' B' d := ⟨h.1.mono hk, Nat.le_trans h.2 hB⟩
theorem sm_none {k B : Nat} (hB : 1 ≤ B) : Sm k B .none := ⟨.non, hB⟩
theorem sm_bool {k B : Nat} {b : Bool} (hB : 1 ≤ B) : Sm k B (.bool b) := ⟨.bl b, hB⟩
theorem sm_int {k B : Nat} {i : Int} (h0 : -1 ≤ i) (h1 : i ≤ 10 ^ 60 + 1) (hB : 1 ≤ B) : Sm k B (.int i) := ⟨.int (log60 h0 h1), hB⟩
theorem sm_ltr {k B : Nat} {x : Str} (h : Ltr x) (hB : 1 ≤ B) : Sm k B (.str x) := ⟨gk_ltr h, hB⟩
theorem sm_w {k B : Nat} {s : String} (h : (decide ((cs (Str.ofString s)).length ≤ 40) && (cs (Str.ofString s)).all fun c => decide (c < 128)) = true) (hB : 1 ≤ B) : Sm k B (.str (Str.ofString s)) := ⟨gk_w h, hB⟩
theorem sm_tup {k B : Nat} {ds : List PyData} (l : ds.length ≤ 70) (h : ∀ d ∈ ds, Gk k d) (hB : 1 + wtAll ds ≤ B) : Sm (k + 1) B (.tuple ds) := ⟨.tup l h, hB⟩
theorem sm_lst {k B : Nat} {ds : List PyData} (l : ds.length ≤ 70) (h : ∀ d ∈ ds, Gk k d) (hB : 1 + wtAll ds ≤ B) : Sm (k + 1) B (.list ds) := ⟨.lst l h, hB⟩
theorem all1 {p : PyData → Prop} {a : PyData} (h : p a) : ∀ d ∈ [a], p d := fun d hd => by rw [List.mem_singleton.mp hd]; exact h
theorem allc {p : PyData → Prop} {a : PyData} {r : List PyData} (h : p a) (hr : ∀ d ∈ r, p d) : ∀ d ∈ a :: r, p d := fun d hd => by
  rcases List.mem_cons.mp hd with rfl | z
  · exact h
  · exact hr d z
theorem all0 {p : PyData → Prop} : ∀ d ∈ ([] : List PyData), p d := fun d hd => (List.not_mem_nil hd).elim
theorem alla {p : PyData → Prop} {a b : List PyData} (h : ∀ d ∈ a, p d) (hr : ∀ d ∈ b, p d) : ∀ d ∈ a ++ b, p d := fun d hd => (List.mem_append.mp hd).elim (h d) (hr d)
theorem allr {p : PyData → Prop} {n : Nat} {a : List PyData} (h : ∀ d ∈ a, p d) : ∀ d ∈ repD n a, p d := fun d hd => h d (repD_mem hd)
end Eh
namespace Dl
open PySem PySem.Spec PyProof.Rows L2 Evl Gx GxR RZ Eh
@[simp] theorem fits_11 : fits 11 = true := by decide
@[simp] theorem fits_13 : fits 13 = true := by decide
theorem mul_tup {xs : List PyData} {k : Int} (h1 : 2 ≤ k) (h2 : k ≤ 1000) (h3 : xs.length ≤ 1000) : dMul (.tuple xs) (.int k) = some (.tuple (repD k.toNat xs)) := if_pos ⟨h1, h2, h3⟩
theorem OT_at {l : List PyData} {v : Nat} {Q Rp : PyData → Prop} (h : v < l.length) (hR : ∀ d ∈ l, Rp d) (k : ∀ d, Rp d → Q d) : OT (atI l (v : Int)) (k := ⟨Q⟩) := by
  rw [at_nat h]
  exact k _ (hR _ (List.getElem_mem h))
theorem oddWords_c {os ps qs : List Str} {p : PyData} {P : Bool → PyData → List Slot → Prop} {E : ExD → List Slot → Prop} (hS : Sht os ps qs) (hp : PotOk p) (k : ∀ d p', Sm 7 80 d → PotOk p' → P false d [.io 0 p', .shr (shD os ps qs)]) : (dLOddWords [.io 0 p, .shr (shD os ps qs)]).to (k := ⟨P, E⟩) := by
  unfold dLOddWords gLOddWords
  rw [runD_to]
  have l1 := hS.o1
  have l2 := hS.c1
  have lo := hS.o4
  have lc := hS.c4
  simp -dsimp -implicitDefEqProofs
  refine pickN_c (n := os.length) hp (by omega) (by omega) fun v1 p1 h1 hp1 => ?_
  obtain ⟨x, hx, ex⟩ := ix_strs h1
  simp -dsimp -implicitDefEqProofs [ex]
  refine pickN_c (n := qs.length) hp1 (by omega) (by omega) fun v2 p2 h2 hp2 => ?_
  obtain ⟨y, hy, ey⟩ := ix_strs h2
  have c1 : cutD (ps.map PyData.str) none (some 1) = (ps.take 1).map .str := cutM_to ps 1
  have hx := Sht.os hS x hx
  have hy := Sht.qs hS y hy
  have hz : ∀ z ∈ ps.take 1, Ltr z := fun z hz => Sht.ps hS z (List.mem_of_mem_take hz)
  have lz : (ps.take 1).length ≤ 1 := by
    rw [List.length_take]
    omega
  simp -dsimp -implicitDefEqProofs [ey]
  generalize ps.take 1 = zs at c1 hz lz
  have a1 : dAdd (.tuple (repD 30 [PyData.str x, PyData.str y])) (.tuple (zs.map .str)) = some (.tuple (repD 30 [PyData.str x, PyData.str y] ++ zs.map .str)) := add_tup (by simp; omega)
  have a2 : dMul (.tuple (zs.map .str)) (.int 2) = some (.tuple (repD 2 (zs.map .str))) := mul_tup (by decide) (by decide) (by simp; omega)
  have a3 : dAdd (.tuple (repD 29 [PyData.str x, PyData.str y])) (.tuple (repD 2 (zs.map .str))) = some (.tuple (repD 29 [PyData.str x, PyData.str y] ++ repD 2 (zs.map .str))) := add_tup (by simp; omega)
  have a4 : dAdd (.tuple (repD 29 [PyData.str x, PyData.str y])) (.tuple (zs.map .str)) = some (.tuple (repD 29 [PyData.str x, PyData.str y] ++ zs.map .str)) := add_tup (by simp; omega)
  simp -dsimp -implicitDefEqProofs [mul_tup, add_list, add_tup, c1, ey, a1, a2, a3, a4]
  refine pick_c (m := 23) hp2 (by decide) (by decide) fun v p3 hv hp3 => ?_
  simp -dsimp -implicitDefEqProofs
  have gx : ∀ {k}, Gk k (.str x) := fun {k} => gk_ltr hx
  have gy : ∀ {k}, Gk k (.str y) := fun {k} => gk_ltr hy
  have gz : ∀ {k}, ∀ d ∈ zs.map PyData.str, Gk k d := fun {k} d hd => by
    obtain ⟨z, hz', rfl⟩ := List.mem_map.mp hd
    exact gk_ltr (hz z hz')
  refine OT_at (Rp := Sm 6 78) (by simp; omega) ?_ ?_
  · repeat' (first | exact all0 | refine allc ?_ ?_)
    all_goals first
      | exact sm_none (by decide)
      | exact sm_ltr hx (by decide)
      | exact sm_w (by decide +kernel) (by decide)
      | (refine sm_tup (k := 5) ?_ ?_ ?_
         · simp <;> omega
         · repeat' (first | exact all0 | exact gz | refine allc ?_ ?_ | refine alla ?_ ?_ | refine allr ?_)
           all_goals first
             | exact gx
             | exact gy
             | exact gk_w (by decide +kernel)
             | exact .non
             | exact .int (by decide)
             | exact .tup (by decide) all0
             | exact .lst (by decide) all0
             | exact .lst (by simp) (all1 gx)
             | exact .tup (by simp) (allc gx (all1 gy))
         · simp only [wtAll_app, repD_wt, wt_strs, wtAll, wt] <;> omega)
      | (refine sm_lst (k := 5) ?_ ?_ ?_
         · simp
         · repeat' (first | exact all0 | refine allc ?_ ?_)
           all_goals first
             | exact gx
             | exact gy
         · simp only [wtAll_app, repD_wt, wt_strs, wtAll, wt] <;> omega)
  · intro d hd
    simp -dsimp -implicitDefEqProofs
    refine k _ _ ?_ hp3
    refine sm_tup (by simp) (allc (gk_w (by decide +kernel)) (all1 hd.1)) ?_
    have := hd.2
    show 1 + (1 + (wt d + 0)) ≤ 80
    omega
end Dl
set_option Elab.async false
set_option linter.all false
set_option maxRecDepth 100000
set_option maxHeartbeats 4000000
namespace Dl
open PySem PySem.Spec PyProof.Rows L2 Evl Gx GxR RZ Eh
noncomputable def gBT : DEnv → Flow :=
    (gSeq (gSet 5 (fCall dLPick [] (aIo 0 (aVal (fC (.int 7)) (aNil)))))
    (gSeq (gIf (fT (f2 dEq (fBor 5) (fVal (fC (.int 0))))) (gRetX (fCallX dLOddWords [] (aIo 0 (aVar 1 (aNil))))) (gNone))
    (gSeq (gIf (fT (f2 dEq (fBor 5) (fVal (fC (.int 1))))) (gRet false (f2 dAdd (fVal (fTup (fCons (f2 dIx (fVal (fLst (fCons (fC (.str "word")) (fCons (fC (.str "row")) (fCons (fC (.str "again")) (fCons (fC (.str "wrap")) (fCons (fC (.str "wraps")) (fCons (fC (.int 0)) (fCons (fC .none) (fCons (fLst (fNil)) (fCons (fLst (fCons (fC (.str "row")) (fNil))) (fNil)))))))))))) (fVal (fCall dLPick [] (aIo 0 (aVal (fC (.int 9)) (aNil)))))) (fNil)))) (fVal (fSl (fBor 2) (fPart (fC (.int 1))) (fNoP))))) (gNone))
    (gSeq (gIf (fT (f2 dEq (fBor 5) (fVal (fC (.int 2))))) (gRet false (f2 dAdd (fBor 2) (fVal (fTup (fCons (f2 dIx (fBor 2) (fVal (fNeg (fVal (fC (.int 1)))))) (fNil)))))) (gNone))
    (gSeq (gIf (fT (f2 dEq (fBor 5) (fVal (fC (.int 3))))) (gRet false (fSl (fBor 2) (fNoP) (fPart (fNeg (fVal (fC (.int 1))))))) (gNone))
    (gSeq (gIf (fT (f2 dEq (fBor 5) (fVal (fC (.int 4))))) (gRetX (fOw (fBlt kList (fBCons (fBor 2) (fBNil))))) (gNone))
    (gSeq (gSet 4 (f2 dAdd (fVal (fC (.int 1))) (fVal (fCall dLPick [] (aIo 0 (aVal (f2 dSub (fVal (fBlt kLen (fBCons (fBor 2) (fBNil)))) (fVal (fC (.int 1)))) (aNil)))))))
    (gSeq (gSet 6 (fLst (fCons (f2 dPow (fVal (fC (.int 10))) (fVal (fC (.int 60)))) (fCons (f2 dAdd (fVal (f2 dPow (fVal (fC (.int 10))) (fVal (fC (.int 60))))) (fVal (fC (.int 1)))) (fCons (fNeg (fVal (fC (.int 1)))) (fCons (fC (.bool true)) (fCons (fC (.str "2")) (fCons (fC .none) (fCons (fTup (fNil)) (fCons (fLst (fNil)) (fCons (f2 dIx (fVal (f2 dIx (fBor 1) (fVal (fC (.int 0))))) (fVal (fNeg (fVal (fC (.int 1)))))) (fCons (f2 dIx (fVal (f2 dIx (fBor 1) (fVal (fC (.int 2))))) (fVal (fC (.int 0)))) (fCons (fC (.str "Z")) (fCons (fVar 2) (fCons (fTup (fCons (fC (.str "row")) (fCons (fTup (fNil)) (fNil)))) (fNil))))))))))))))))
    (gSeq (gSet 6 (f2 dAdd (fBor 6) (fVal (fLst (fCons (f2 dMul (fVal (fTup (fCons (fTup (fCons (fC (.str "word")) (fCons (fTup (fNil)) (fNil)))) (fNil)))) (fVal (fC (.int 8)))) (fCons (f2 dMul (fVal (fTup (fCons (fTup (fCons (fC (.str "word")) (fCons (fTup (fNil)) (fNil)))) (fNil)))) (fVal (fC (.int 9)))) (fCons (fLst (fCons (fTup (fCons (fC (.str "word")) (fCons (fTup (fNil)) (fNil)))) (fNil))) (fCons (fLst (fCons (f2 dIx (fVal (f2 dIx (fBor 1) (fVal (fC (.int 0))))) (fVal (fC (.int 0)))) (fNil))) (fNil)))))))))
    (gSeq (gSet 6 (f2 dAdd (fBor 6) (fVal (fBlt kList (fBCons (fVal (fSl (fVal (f2 dIx (fBor 1) (fVal (fC (.int 1))))) (fNoP) (fPart (fC (.int 1))))) (fBNil))))))
    (gRet false (f2 dAdd (fVal (f2 dAdd (fVal (fSl (fBor 2) (fNoP) (fPart (fVar 4)))) (fVal (fTup (fCons (f2 dIx (fBor 6) (fVal (fCall dLPick [] (aIo 0 (aVal (fBlt kLen (fBCons (fBor 6) (fBNil))) (aNil)))))) (fNil)))))) (fVal (fSl (fBor 2) (fPart (f2 dAdd (fBor 4) (fVal (fC (.int 1))))) (fNoP)))))))))))))))
theorem gLBent_eq (R : List Slot → FR) : gLBent R =
  gSeq (gSet 3 (f2 dIx (fBor 2) (fVal (fC (.int 0)))))
    (gSeq (gIf (fAnd (fT (f2 dEq (fBor 3) (fVal (fC (.str "row"))))) (fAnd (fT (f2 dNe (fVal (f2 dIx (fBor 2) (fVal (fC (.int 1))))) (fVal (fTup (fNil))))) (fT (f2 (dOrd fun i j => decide (j < i)) (fVal (fCall dLPick [] (aIo 0 (aVal (fC (.int 3)) (aNil))))) (fVal (fC (.int 0))))))) (gSeq (gSet 4 (fCall dLPick [] (aIo 0 (aVal (fBlt kLen (fBCons (fVal (f2 dIx (fBor 2) (fVal (fC (.int 1))))) (fBNil))) (aNil)))))
    (gRet false (fTup (fCons (fC (.str "row")) (fCons (f2 dAdd (fVal (f2 dAdd (fVal (fSl (fVal (f2 dIx (fBor 2) (fVal (fC (.int 1))))) (fNoP) (fPart (fVar 4)))) (fVal (fTup (fCons (fCall R [] (aIo 0 (aVar 1 (aVal (f2 dIx (fVal (f2 dIx (fBor 2) (fVal (fC (.int 1))))) (fBor 4)) (aNil))))) (fNil)))))) (fVal (fSl (fVal (f2 dIx (fBor 2) (fVal (fC (.int 1))))) (fPart (f2 dAdd (fBor 4) (fVal (fC (.int 1))))) (fNoP)))) (fNil)))))) (gNone))
    (gSeq (gIf (fAnd (fT (f2 dEq (fBor 3) (fVal (fC (.str "again"))))) (fT (f2 dEq (fVal (fCall dLPick [] (aIo 0 (aVal (fC (.int 2)) (aNil))))) (fVal (fC (.int 0)))))) (gRet false (f2 dAdd (fVal (fSl (fBor 2) (fNoP) (fPart (fC (.int 2))))) (fVal (fTup (fCons (fCall R [] (aIo 0 (aVar 1 (aVal (f2 dIx (fBor 2) (fVal (fC (.int 2)))) (aNil))))) (fNil)))))) (gNone))
    (gSeq (gIf (fAnd (fT (f2 dEq (fBor 3) (fVal (fC (.str "wrap"))))) (fT (f2 dEq (fVal (fCall dLPick [] (aIo 0 (aVal (fC (.int 2)) (aNil))))) (fVal (fC (.int 0)))))) (gRet false (f2 dAdd (fVal (fSl (fBor 2) (fNoP) (fPart (fC (.int 3))))) (fVal (fTup (fCons (fCall R [] (aIo 0 (aVar 1 (aVal (f2 dIx (fBor 2) (fVal (fC (.int 3)))) (aNil))))) (fCons (f2 dIx (fBor 2) (fVal (fC (.int 4)))) (fNil))))))) (gNone))
    gBT))) := rfl
theorem ix_last {ls : List Str} (h : 1 ≤ ls.length) : ∃ x ∈ ls, atI (ls.map PyData.str) (-1) = some (.str x) := by
  obtain ⟨a, x, rfl⟩ : ∃ a x, ls = a ++ [x] := ⟨_, _, (List.dropLast_concat_getLast (l := ls) (fun e => by rw [e] at h; exact absurd h (by decide))).symm⟩
  refine ⟨x, by simp, ?_⟩
  rw [List.map_append]
  exact at_m1
theorem ix_first {ls : List Str} (h : 1 ≤ ls.length) : ∃ x ∈ ls, atI (ls.map PyData.str) 0 = some (.str x) := by
  cases ls with
  | nil => exact absurd h (by decide)
  | cons x r => exact ⟨x, List.mem_cons_self .., at_0⟩
theorem last_wt : ∀ {ds : List PyData} {z : PyData}, atI ds (-1) = some z → z ∈ ds := by
  intro ds z h
  unfold atI at h
  cases hi : ixN ds.length (-1) with
  | none => rw [hi] at h; cases h
  | some j =>
    rw [hi] at h
    exact List.mem_of_getElem? h
theorem last_ok {ds : List PyData} (h : 1 ≤ ds.length) : ∃ z ∈ ds, atI ds (-1) = some z := by
  obtain ⟨a, x, rfl⟩ : ∃ a x, ds = a ++ [x] := ⟨_, _, (List.dropLast_concat_getLast (l := ds) (fun e => by rw [e] at h; exact absurd h (by decide))).symm⟩
  exact ⟨x, by simp, at_m1⟩
theorem OT_add {xs ys : List PyData} {Q : PyData → Prop} (l : xs.length + ys.length ≤ 1000000) (k : ∀ L, L = xs ++ ys → Q (.list L)) : OT (dAdd (.list xs) (.list ys)) (k := ⟨Q⟩) := by
  rw [add_list l]
  exact k _ rfl
theorem tail_c {os ps qs : List Str} {p : PyData} {ds : List PyData} {w : PyData} {x4 : Option Slot} {m B : Nat} {N : DEnv → Prop} {Z : Ez} (hS : Sht os ps qs) (hp : PotOk p) (l2 : 2 ≤ ds.length) (l5 : ds.length ≤ 5) (g : ∀ d ∈ ds, Gk m d) (hm : m ≤ 20) (hw : wtAll ds ≤ B)
    (k : ∀ fr d p' x4 x5 x6, Sm (m + 9) (1 + wtAll ds + B + 100) d → PotOk p' → Z.rt fr d [some (.io 0 p'), some (.shr (shD os ps qs)), some (.shr (.tuple ds)), some (.shr w), x4, x5, x6]) :
    (gBT [some (.io 0 p), some (.shr (shD os ps qs)), some (.shr (.tuple ds)), some (.shr w), x4, none, none]).fo (k := ⟨N, Z⟩) := by
  unfold gBT
  simp -dsimp -implicitDefEqProofs
  refine pick_c (m := 7) hp (by decide) (by decide) fun v p1 hv hp1 => ?_
  simp -dsimp -implicitDefEqProofs
  by_cases v0 : v = 0
  · simp -dsimp -implicitDefEqProofs [v0]
    refine oddWords_c hS hp1 fun d p2 hd hp2 => ?_
    simp -dsimp -implicitDefEqProofs
    refine k _ _ _ _ _ _ (hd.mono (by omega) (by omega)) hp2
  by_cases v1 : v = 1
  · simp -dsimp -implicitDefEqProofs [v1]
    refine pick_c (m := 9) hp1 (by decide) (by decide) fun u p2 hu hp2 => ?_
    simp -dsimp -implicitDefEqProofs
    refine OT_at (Rp := Sm (m + 1) 3) (by simp; omega) ?_ ?_
    · repeat' (first | exact all0 | refine allc ?_ ?_)
      all_goals first
        | exact sm_none (by decide)
        | exact sm_int (by decide) (by decide +kernel) (by decide)
        | exact sm_w (by decide +kernel) (by decide)
        | exact sm_lst (by simp) all0 (by decide)
        | exact sm_lst (by simp) (all1 (gk_w (by decide +kernel))) (by decide)
    · intro o ho
      have c1 : cutD ds (some 1) none = ds.tail := by
        have : cutD ds (some 1) none = ds.drop 1 := cut_from (a := 1)
        rw [this, List.drop_one]
      have dl : ds.tail.length ≤ ds.length := by rw [List.length_tail]; omega
      simp -dsimp -implicitDefEqProofs [c1, add_tup (xs := [o]) (ys := ds.tail) (by simp; omega)]
      refine k _ _ _ _ _ _ (Sm.mono (sm_tup (k := m + 1) (by simp; omega) (allc ho.1 fun d hd => (g d (List.mem_of_mem_tail hd)).up) (Nat.le_refl _)) (by omega) ?_) hp2
      have h1 := wt_sub (List.tail_sublist ds)
      have h2 := ho.2
      show 1 + (wt o + wtAll ds.tail) ≤ _
      omega
  by_cases v2 : v = 2
  · obtain ⟨z, hz, ez⟩ := last_ok (ds := ds) (by omega)
    simp -dsimp -implicitDefEqProofs [v2, ez, add_tup (xs := ds) (ys := [z]) (by simp; omega)]
    refine k _ _ _ _ _ _ (Sm.mono (sm_tup (k := m) (by simp; omega) (alla g (all1 (g z hz))) (Nat.le_refl _)) (by omega) ?_) hp1
    have h1 := wtAll_mem hz
    rw [wtAll_app]
    show 1 + (wtAll ds + (wt z + 0)) ≤ _
    omega
  by_cases v3 : v = 3
  · simp -dsimp -implicitDefEqProofs [v3]
    have h1 : wtAll (cutD ds none (some (-1))) ≤ wtAll ds := wt_sub ((List.take_sublist _ _).trans (List.drop_sublist _ _))
    have h2 := cut_len (ds := ds) (lo := none) (hi := some (-1))
    refine k _ _ _ _ _ _ (Sm.mono (sm_tup (k := m) (by omega) (fun d hd => g d (cut_mem hd)) (Nat.le_refl _)) (by omega) (by omega)) hp1
  by_cases v4 : v = 4
  · simp -dsimp -implicitDefEqProofs [v4]
    refine k _ _ _ _ _ _ (Sm.mono (sm_lst (k := m) (by omega) g (Nat.le_refl _)) (by omega) (by omega)) hp1
  have e1 : ¬ ((v : Int) = 1) := by omega
  have e2 : ¬ ((v : Int) = 2) := by omega
  have e3 : ¬ ((v : Int) = 3) := by omega
  have e4 : ¬ ((v : Int) = 4) := by omega
  simp -dsimp -implicitDefEqProofs [v0, e1, e2, e3, e4]
  have l1 : (ds.length : Int) - 1 = ((ds.length - 1 : Nat) : Int) := by omega
  rw [l1]
  refine pickN_c (n := ds.length - 1) hp1 (by omega) (by omega) fun u p2 hu hp2 => ?_
  rw [← l1]
  obtain ⟨fo, hfo, efo⟩ := ix_last hS.o1
  obtain ⟨fq, hfq, efq⟩ := ix_first hS.c1
  obtain ⟨f0, hf0, ef0⟩ := ix_first hS.o1
  have hf0 := Sht.os hS f0 hf0
  have hfo := Sht.os hS fo hfo
  have hfq := Sht.qs hS fq hfq
  have c1 : cutD (ps.map PyData.str) none (some 1) = (ps.take 1).map .str := cutM_to ps 1
  have hz : ∀ z ∈ ps.take 1, Ltr z := fun z hz => Sht.ps hS z (List.mem_of_mem_take hz)
  have lz : (ps.take 1).length ≤ 1 := by
    rw [List.length_take]
    omega
  simp -dsimp -implicitDefEqProofs
  generalize ps.take 1 = zs at c1 hz lz
  simp -dsimp -implicitDefEqProofs [mul_tup, add_list, add_tup, c1, efo, efq, ef0]
  refine OT_add (by simp; omega) fun L eL => ?_
  have hL : ∀ d ∈ L, Sm (m + 4) (1 + wtAll ds + 40) d := by
    rw [eL]
    refine alla ?_ fun d hd => ?_
    · repeat' (first | exact all0 | refine allc ?_ ?_)
      all_goals first
        | exact sm_none (by omega)
        | exact sm_bool (by omega)
        | exact sm_ltr hfo (by omega)
        | exact sm_ltr hfq (by omega)
        | exact sm_w (by decide +kernel) (by omega)
        | exact sm_int (by omega) (by omega) (by omega)
        | exact sm_tup (by simp) all0 (by show 1 + 0 ≤ _; omega)
        | exact sm_lst (by simp) all0 (by show 1 + 0 ≤ _; omega)
        | exact sm_lst (by simp) (all1 (gk_ltr hf0)) (by show 1 + (1 + 0) ≤ _; omega)
        | exact Sm.mono (sm_tup (k := m) (by omega) g (Nat.le_refl _)) (by omega) (by omega)
        | exact sm_tup (by simp) (allc (gk_w (by decide +kernel)) (all1 (.tup (by simp) all0))) (by show 1 + (1 + ((1 + 0) + 0)) ≤ _; omega)
        | exact sm_tup (by simp) (allr (all1 (.tup (by simp) (allc (gk_w (by decide +kernel)) (all1 (.tup (by simp) all0)))))) (by rw [repD_wt]; show 1 + _ * ((1 + (1 + ((1 + 0) + 0))) + 0) ≤ _; omega)
        | exact sm_lst (by simp) (all1 (.tup (by simp) (allc (gk_w (by decide +kernel)) (all1 (.tup (by simp) all0))))) (by show 1 + ((1 + (1 + ((1 + 0) + 0))) + 0) ≤ _; omega)
    · obtain ⟨z, hz', rfl⟩ := List.mem_map.mp hd
      exact sm_ltr (hz z hz') (by omega)
  have lL : L.length ≤ 18 := by
    rw [eL]
    simp
    omega
  have lL1 : 0 < L.length := by
    rw [eL]
    simp
  clear eL
  have ca : cutD ds none (some (1 + (u : Int))) = ds.take (u + 1) := by
    have := cut_to (ds := ds) (b := u + 1)
    rw [Int.natCast_add, Int.add_comm] at this
    exact this
  have cb : cutD ds (some (1 + (u : Int) + 1)) none = ds.drop (u + 1 + 1) := by
    have := cut_from (ds := ds) (a := u + 1 + 1)
    rw [Int.natCast_add, Int.natCast_add, Int.add_comm (u : Int)] at this
    exact this
  simp -dsimp -implicitDefEqProofs [ca, cb]
  refine pickN_c (n := L.length) hp2 lL1 (by omega) fun q p3 hq hp3 => ?_
  simp -dsimp -implicitDefEqProofs
  refine OT_at hq hL fun o ho => ?_
  have lt : (ds.take (u + 1)).length ≤ ds.length := by rw [List.length_take]; omega
  have ld : (ds.drop (u + 1 + 1)).length ≤ ds.length := by rw [List.length_drop]; omega
  simp -dsimp -implicitDefEqProofs [ca, cb, add_tup (xs := ds.take (u + 1)) (ys := [o]) (by rw [List.length_singleton]; omega), add_tup (xs := ds.take (u + 1) ++ [o]) (ys := ds.drop (u + 1 + 1)) (by rw [List.length_append, List.length_singleton]; omega)]
  have hu1 : u + 1 < ds.length := by omega
  have ge := List.getElem?_eq_getElem hu1
  have w1 := wt_put ge o
  have w2 := ho.2
  have lp := len_put (ds := ds) (i := u + 1) (o := o)
  have mm : ∀ d ∈ ds.take (u + 1) ++ [o] ++ ds.drop (u + 1 + 1), Gk (m + 4) d := fun d hd => by
    rcases mem_put hd with z | z
    · exact (g d z).mono (by omega)
    · rw [z]
      exact ho.1
  have nf : ds.take (u + 1) ++ [o] ++ ds.drop (u + 1 + 1) = ds.take (u + 1) ++ o :: ds.drop (u + 1 + 1) := by simp
  rw [nf] at w1 lp mm
  refine k _ _ _ _ _ _ (Sm.mono (sm_tup (k := m + 4) (by omega) mm (Nat.le_refl _)) (by omega) (by omega)) hp3
end Dl
set_option Elab.async false
set_option linter.all false
set_option maxRecDepth 100000
set_option maxHeartbeats 4000000
namespace Dl
open PySem PySem.Spec PyProof.Rows L2 Evl Gx GxR RZ Eh
theorem gW_le {m : Nat} (h : m ≤ 3) : gW m ≤ 282 := by
  rcases (show m = 0 ∨ m = 1 ∨ m = 2 ∨ m = 3 by omega) with rfl | rfl | rfl | rfl <;> decide
theorem tup_items {k : Nat} {ds : List PyData} (h : Gk (k + 1) (.tuple ds)) : ∀ d ∈ ds, Gk k d := by
  cases h with
  | tup n h => exact h
theorem at_mem {ds : List PyData} {v : Nat} (h : v < ds.length) : ∃ e, ds[v]? = some e ∧ e ∈ ds ∧ atI ds (v : Int) = some e := ⟨ds[v], List.getElem?_eq_getElem h, List.getElem_mem h, at_nat h⟩
theorem bent_c {os ps qs : List Str} (hS : Sht os ps qs) : ∀ (m n : Nat) {p d : PyData} {P : Bool → PyData → List Slot → Prop} {E : ExD → List Slot → Prop}, m < n → m ≤ 3 → PotOk p → GT os ps qs m d → (∀ fr x p', Sm (2 * m + 12) (wt d + 400) x → PotOk p' → P fr x [.io 0 p', .shr (shD os ps qs), .shr d]) →
    (dLBent n [.io 0 p, .shr (shD os ps qs), .shr d]).to (k := ⟨P, E⟩) := by
  intro m
  induction m with
  | zero =>
    intro n p d P E hn h3 hp hd k
    obtain ⟨n, rfl⟩ : ∃ m, n = m + 1 := ⟨n - 1, by omega⟩
    show (runD 7 (gLBent (dLBent n)) _).to (k := ⟨P, E⟩)
    generalize dLBent n = R
    rw [gLBent_eq, runD_to]
    have gk := hd.gk hS
    have w := hd.wt
    have e : gW 0 = 9 := rfl
    cases hd with
    | @word _ ws h l b =>
      have ww : wt (.tuple [.str "word", .tuple (ws.map .str)]) = 1 + wtAll [.str "word", .tuple (ws.map .str)] := rfl
      simp -dsimp -implicitDefEqProofs
      refine tail_c (m := 1) (B := 282) hS hp (by simp) (by simp) (tup_items gk) (by decide) (by omega) fun fr x p' x4 x5 x6 hx hp' => ?_
      simp -dsimp -implicitDefEqProofs
      exact k _ _ _ (hx.mono (by omega) (by omega)) hp'
  | succ m ih =>
    intro n p d P E hn h3 hp hd k
    obtain ⟨n, rfl⟩ : ∃ m, n = m + 1 := ⟨n - 1, by omega⟩
    show (runD 7 (gLBent (dLBent n)) _).to (k := ⟨P, E⟩)
    have ih2 := @ih n
    generalize dLBent n = R at ih2
    rw [gLBent_eq, runD_to]
    have gk := hd.gk hS
    have w := hd.wt
    have e := gW_le h3
    cases hd with
    | @word _ ws h l b =>
      have ww : wt (.tuple [.str "word", .tuple (ws.map .str)]) = 1 + wtAll [.str "word", .tuple (ws.map .str)] := rfl
      simp -dsimp -implicitDefEqProofs
      refine tail_c (m := 2 * (m + 1) + 1) (B := 282) hS hp (by simp) (by simp) (tup_items gk) (by omega) (by omega) fun fr x p' x4 x5 x6 hx hp' => ?_
      simp -dsimp -implicitDefEqProofs
      exact k _ _ _ (hx.mono (by omega) (by omega)) hp'
    | @row _ ds l h =>
      have ww : wt (.tuple [.str "row", .tuple ds]) = 1 + wtAll [.str "row", .tuple ds] := rfl
      have g2 : Gk (2 * (m + 1) + 1) (.tuple ds) := tup_items gk _ (by simp)
      simp -dsimp -implicitDefEqProofs [at_1, ne_sh (g2.shaped (by omega)) sh_nilT]
      have tl : ∀ p1 x4, PotOk p1 → (gBT [some (Slot.io 0 p1), some (Slot.shr (shD os ps qs)), some (Slot.shr (.tuple [.str "row", .tuple ds])), some (Slot.shr (.str "row")), x4, none, none]).fo (k := ⟨fun e => OT (outS e 0 [Slot.io 0 p, Slot.shr (shD os ps qs), Slot.shr (.tuple [.str "row", .tuple ds])]) (k := ⟨fun o => P false .none o⟩), { rt := fun fr d e => OT (outS e 0 [Slot.io 0 p, Slot.shr (shD os ps qs), Slot.shr (.tuple [.str "row", .tuple ds])]) (k := ⟨fun o => P fr d o⟩), ex := fun x e => OT (outS e 0 [Slot.io 0 p, Slot.shr (shD os ps qs), Slot.shr (.tuple [.str "row", .tuple ds])]) (k := ⟨fun o => E x o⟩) }⟩) := fun p1 x4 hp1 => by
        refine tail_c (m := 2 * (m + 1) + 1) (B := 282) hS hp1 (by simp) (by simp) (tup_items gk) (by omega) (by omega) fun fr x p' x4 x5 x6 hx hp' => ?_
        simp -dsimp -implicitDefEqProofs
        exact k _ _ _ (hx.mono (by omega) (by omega)) hp'
      by_cases hds : ds.isEmpty = true
      · simp -dsimp -implicitDefEqProofs [hds]
        exact tl p none hp
      · have hds' : ds.isEmpty = false := by simpa using hds
        have hd0 : 0 < ds.length := by
          cases ds with
          | nil => exact absurd rfl hds
          | cons a b => exact Nat.succ_pos _
        simp -dsimp -implicitDefEqProofs [hds']
        refine pick_c (m := 3) hp (by decide) (by decide) fun v p1 hv hp1 => ?_
        simp -dsimp -implicitDefEqProofs
        by_cases v0 : 0 < v
        · simp -dsimp -implicitDefEqProofs [v0, at_1]
          refine pickN_c (n := ds.length) hp1 hd0 (by omega) fun u p2 hu hp2 => ?_
          obtain ⟨y, hy, hym, ey⟩ := at_mem hu
          have ca : cutD ds none (some (u : Int)) = ds.take u := cut_to
          have cb : cutD ds (some ((u : Int) + 1)) none = ds.drop (u + 1) := cut_from (a := u + 1)
          simp -dsimp -implicitDefEqProofs [at_1, ey, ca]
          refine ih2 (by omega) (by omega) hp2 (h y hym) fun fr o p3 ho hp3 => ?_
          have lt : (ds.take u).length ≤ ds.length := by rw [List.length_take]; omega
          have ld : (ds.drop (u + 1)).length ≤ ds.length := by rw [List.length_drop]; omega
          simp -dsimp -implicitDefEqProofs [at_1, ca, cb, add_tup (xs := ds.take u) (ys := [o]) (by rw [List.length_singleton]; omega), add_tup (xs := ds.take u ++ [o]) (ys := ds.drop (u + 1)) (by rw [List.length_append, List.length_singleton]; omega)]
          have w1 := wt_put hy o
          have w2 := ho.2
          have lp := len_put (ds := ds) (i := u) (o := o)
          have mm : ∀ d ∈ ds.take u ++ [o] ++ ds.drop (u + 1), Gk (2 * m + 12) d := fun d hd => by
            rcases mem_put hd with z | z
            · exact ((h d z).gk hS).mono (by omega)
            · rw [z]
              exact ho.1
          have nf : ds.take u ++ [o] ++ ds.drop (u + 1) = ds.take u ++ o :: ds.drop (u + 1) := by simp
          rw [nf] at w1 lp mm
          refine k _ _ _ ⟨.tup (by simp) (allc (gk_w (by decide +kernel)) (all1 (.tup (by omega) mm))), ?_⟩ hp3
          show 1 + (1 + ((1 + wtAll (ds.take u ++ o :: ds.drop (u + 1))) + 0)) ≤ 1 + (1 + ((1 + wtAll ds) + 0)) + 400
          omega
        · simp -dsimp -implicitDefEqProofs [v0]
          exact tl p1 none hp1
    | @again _ i x h0 h1 h =>
      have ww : wt (.tuple [.str "again", .int i, x]) = 1 + wtAll [.str "again", .int i, x] := rfl
      simp -dsimp -implicitDefEqProofs
      refine pick_c (m := 2) hp (by decide) (by decide) fun v p1 hv hp1 => ?_
      simp -dsimp -implicitDefEqProofs
      by_cases v0 : v = 0
      · have c2 : cutD [PyData.str (Str.ofString "again"), .int i, x] none (some 2) = [.str (Str.ofString "again"), .int i] := cut_to (b := 2)
        simp -dsimp -implicitDefEqProofs [v0, at_2, c2]
        refine ih2 (by omega) (by omega) hp1 h fun fr o p3 ho hp3 => ?_
        simp -dsimp -implicitDefEqProofs [v0, at_2, c2, add_tup (xs := [PyData.str (Str.ofString "again"), .int i]) (ys := [o]) (by simp)]
        refine k _ _ _ ⟨.tup (by simp) (allc (gk_w (by decide +kernel)) (allc (.int (log60 (by omega) (by omega))) (all1 ho.1.up))), ?_⟩ hp3
        have := ho.2
        show 1 + (1 + (1 + (wt o + 0))) ≤ 1 + (1 + (1 + (wt x + 0))) + 400
        omega
      · simp -dsimp -implicitDefEqProofs [v0]
        refine tail_c (m := 2 * (m + 1) + 1) (B := 282) hS hp1 (by simp) (by simp) (tup_items gk) (by omega) (by omega) fun fr x p' x4 x5 x6 hx hp' => ?_
        simp -dsimp -implicitDefEqProofs
        exact k _ _ _ (hx.mono (by omega) (by omega)) hp'
    | @wrap _ i a c x h0 h1 ha hc h =>
      have ww : wt (.tuple [.str "wrap", .int i, .str a, x, .str c]) = 1 + wtAll [.str "wrap", .int i, .str a, x, .str c] := rfl
      simp -dsimp -implicitDefEqProofs
      refine pick_c (m := 2) hp (by decide) (by decide) fun v p1 hv hp1 => ?_
      simp -dsimp -implicitDefEqProofs
      by_cases v0 : v = 0
      · have c2 : cutD [PyData.str (Str.ofString "wrap"), .int i, .str a, x, .str c] none (some 3) = [.str (Str.ofString "wrap"), .int i, .str a] := cut_to (b := 3)
        have a4 : atI [PyData.str (Str.ofString "wrap"), .int i, .str a, x, .str c] 4 = some (.str c) := at_nat (n := 4) (by simp)
        simp -dsimp -implicitDefEqProofs [v0, at_3, c2]
        refine ih2 (by omega) (by omega) hp1 h fun fr o p3 ho hp3 => ?_
        simp -dsimp -implicitDefEqProofs [v0, at_3, a4, c2, add_tup (xs := [PyData.str (Str.ofString "wrap"), .int i, .str a]) (ys := [o, .str c]) (by simp)]
        have ga := Sht.os hS a ha
        have gc := Sht.qs hS c hc
        refine k _ _ _ ⟨.tup (by simp) (allc (gk_w (by decide +kernel)) (allc (.int (log60 (by omega) (by omega))) (allc (gk_ltr ga) (allc ho.1.up (all1 (gk_ltr gc)))))), ?_⟩ hp3
        have := ho.2
        show 1 + (1 + (1 + (1 + (wt o + (1 + 0))))) ≤ 1 + (1 + (1 + (1 + (wt x + (1 + 0))))) + 400
        omega
      · simp -dsimp -implicitDefEqProofs [v0]
        refine tail_c (m := 2 * (m + 1) + 1) (B := 282) hS hp1 (by simp) (by simp) (tup_items gk) (by omega) (by omega) fun fr x p' x4 x5 x6 hx hp' => ?_
        simp -dsimp -implicitDefEqProofs
        exact k _ _ _ (hx.mono (by omega) (by omega)) hp'
end Dl
set_option Elab.async false
set_option linter.all false
set_option maxRecDepth 100000
set_option maxHeartbeats 4000000
namespace Dl
open PySem PySem.Spec PyProof.Rows L2 Evl Gx GxR RZ Eh
section
variable (os ps qs : List Str)
/-- j deeds around a word -/
def Chn (j : Nat) (d : PyData) : Prop := Gk (2 * j + 3) d ∧ wt d ≤ 5 + 6 * j ∧ formG os ps qs d = true ∧ ∀ n, cnt (formG os ps qs) kidsG n d = if j < n then some (j + 1) else none
variable {os ps qs : List Str}
theorem cnt_un {n : Nat} {d : PyData} (hf : formG os ps qs d = true) : cnt (formG os ps qs) kidsG (n + 1) d = (sumO ((kidsG d).map (cnt (formG os ps qs) kidsG n))).map (1 + ·) := by
  rw [Eh.cnt, if_pos hf]
theorem chn_of {j : Nat} {d x : PyData} (h : Chn os ps qs j d) (hf : formG os ps qs x = true) (hk : kidsG x = [d]) (g : Gk (2 * (j + 1) + 3) x) (w : wt x ≤ 5 + 6 * (j + 1)) : Chn os ps qs (j + 1) x := by
  refine ⟨g, w, hf, fun n => ?_⟩
  cases n with
  | zero => rfl
  | succ n =>
    rw [cnt_un hf, hk]
    show (sumO [cnt (formG os ps qs) kidsG n d]).map (1 + ·) = _
    rw [h.2.2.2 n]
    by_cases hj : j < n
    · rw [if_pos hj, if_pos (by omega)]
      show some (1 + (j + 1 + 0)) = _
      congr 1
      omega
    · rw [if_neg hj, if_neg (by omega)]
      rfl
theorem chn_word (hS : Sht os ps qs) {x y : Str} (hx : x ∈ os) (hy : y ∈ qs) : Chn os ps qs 0 (.tuple [.str "word", .tuple [.str x, .str y]]) := by
  have b : bal os qs [x, y] 0 = some 0 := by
    have := bal_app os qs [x] [y] 0
    rw [bal_one_op hx] at this
    exact this.trans (bal_one_cl hS hy 0)
  have gt : GT os ps qs 0 (.tuple [.str "word", .tuple ([x, y].map .str)]) := .word (fun z hz => by
    rcases List.mem_cons.mp hz with rfl | hz
    · exact List.mem_append.mpr (.inl (List.mem_append.mpr (.inl hx)))
    · rw [List.mem_singleton.mp hz]
      exact List.mem_append.mpr (.inr hy)) (by simp) b
  refine ⟨(gt.gk hS).mono (by decide), by show 1 + (1 + ((1 + (1 + (1 + 0))) + 0)) ≤ 5; decide, gt.form, fun n => ?_⟩
  cases n with
  | zero => rfl
  | succ n =>
    have f := gt.form
    have : kidsG (.tuple [.str "word", .tuple [.str x, .str y]]) = [] := by rw [kidsG_eq, k_word]
    rw [cnt_un (d := .tuple [.str "word", .tuple [.str x, .str y]]) f, this, if_pos (Nat.succ_pos n)]
    rfl
theorem form_row {ds : List PyData} : formG os ps qs (.tuple [.str "row", .tuple ds]) = decide (ds.length ≤ 8) := by
  rw [formG_eq, by_row]
  rfl
theorem kids_row {ds : List PyData} : kidsG (.tuple [.str "row", .tuple ds]) = ds := by
  rw [kidsG_eq, k_row]
  rfl
theorem chn_row {j : Nat} {d : PyData} (h : Chn os ps qs j d) : Chn os ps qs (j + 1) (.tuple [.str "row", .tuple [d]]) := by
  refine chn_of h form_row kids_row (.tup (by simp) (allc (gk_w (by decide +kernel)) (all1 (.tup (by simp) (all1 h.1))))) ?_
  have := h.2.1
  show 1 + (1 + ((1 + (wt d + 0)) + 0)) ≤ _
  omega
theorem chn_again {j : Nat} {d : PyData} {i : Int} (h : Chn os ps qs j d) (h0 : 0 ≤ i) (h1 : i ≤ 10 ^ 60) : Chn os ps qs (j + 1) (.tuple [.str "again", .int i, d]) := by
  refine chn_of h (by rw [formG_eq, by_again]; exact times_ok h0 h1) (by rw [kidsG_eq, k_again]; rfl) (.tup (by simp) (allc (gk_w (by decide +kernel)) (allc (.int (log60 (by omega) (by omega))) (all1 h.1.up)))) ?_
  have := h.2.1
  show 1 + (1 + (1 + (wt d + 0))) ≤ _
  omega
theorem chn_wrap (hS : Sht os ps qs) {j : Nat} {d : PyData} {i : Int} {a c : Str} (h : Chn os ps qs j d) (h0 : 0 ≤ i) (h1 : i ≤ 10 ^ 60) (ha : a ∈ os) (hc : c ∈ qs) : Chn os ps qs (j + 1) (.tuple [.str "wrap", .int i, .str a, d, .str c]) := by
  refine chn_of h (by
    rw [formG_eq, by_wrap]
    show (timesD _ && (inL os _ && inL qs _)) = true
    rw [times_ok h0 h1, inL_str ha, inL_str hc]
    rfl) (by rw [kidsG_eq, k_wrap]; rfl) (.tup (by simp) (allc (gk_w (by decide +kernel)) (allc (.int (log60 (by omega) (by omega))) (allc (gk_ltr (Sht.os hS a ha)) (allc h.1.up (all1 (gk_ltr (Sht.qs hS c hc)))))))) ?_
  have := h.2.1
  show 1 + (1 + (1 + (1 + (wt d + (1 + 0))))) ≤ _
  omega
theorem chn_is {d : PyData} (h : Chn os ps qs 9 d) : isD (formG os ps qs) kidsG 10 40 d = true := by
  unfold isD
  rw [h.2.2.2, if_pos (by decide)]
  decide
theorem chn_not {d : PyData} (h : Chn os ps qs 10 d) : isD (formG os ps qs) kidsG 10 40 d = false := by
  unfold isD
  rw [h.2.2.2, if_neg (by decide)]
  rfl
theorem sumO_all {f : PyData → Option Nat} {c : Nat} : ∀ ds : List PyData, (∀ d ∈ ds, f d = some c) → sumO (ds.map f) = some (ds.length * c)
  | [], _ => by
    show some 0 = some (0 * c)
    rw [Nat.zero_mul]
  | d :: r, h => by
    rw [List.map_cons, sumO_cons, h d (List.mem_cons_self ..), sumO_all r fun x hx => h x (List.mem_cons_of_mem _ hx)]
    show some _ = some _
    rw [List.length_cons, Nat.add_mul, Nat.add_comm, Nat.one_mul]
theorem cnt_row {n c : Nat} {ds : List PyData} (l : ds.length ≤ 8) (h : sumO (ds.map (cnt (formG os ps qs) kidsG n)) = some c) : cnt (formG os ps qs) kidsG (n + 1) (.tuple [.str "row", .tuple ds]) = some (1 + c) := by
  rw [cnt_un (by rw [form_row]; exact decide_eq_true l), kids_row, h]
  rfl
end
def AbI (os ps qs : List Str) (one : PyData) (many i : Nat) (found : List PyData) (e : DEnv) : Prop := ∃ (d p' : PyData) (x6 x7 : Option Slot), Chn os ps qs i d ∧ PotOk p' ∧ e = [some (Slot.io 0 p'), some (Slot.shr (shD os ps qs)), some (Slot.shr one), some (Slot.own (.list found)), some (Slot.shr (.int (many : Int))), some (Slot.shr d), x6, x7, none]
def AbO (os ps qs : List Str) (one : PyData) (i : Nat) (e : DEnv) : Prop := ∃ (found : List PyData) (p' : PyData) (x4 x5 x6 x7 : Option Slot), (i = 0 ∧ found = [] ∨ i = 1 ∧ (∃ a, found = [a] ∧ Chn os ps qs 9 a) ∨ i = 2 ∧ ∃ a b, found = [a, b] ∧ Chn os ps qs 9 a ∧ Chn os ps qs 10 b) ∧ PotOk p' ∧ e = [some (Slot.io 0 p'), some (Slot.shr (shD os ps qs)), some (Slot.shr one), some (Slot.own (.list found)), x4, x5, x6, x7, none]
theorem atBounds_c {os ps qs : List Str} {p : PyData} {P : Bool → PyData → List Slot → Prop} {E : ExD → List Slot → Prop} (hS : Sht os ps qs) (hp : PotOk p) (k : ∀ a b c d p', (∀ x ∈ [a, b, c, d], Sm 40 400 x) → isD (formG os ps qs) kidsG 10 40 a = true → isD (formG os ps qs) kidsG 10 40 b = false → isD (formG os ps qs) kidsG 10 40 c = true → isD (formG os ps qs) kidsG 10 40 d = false → PotOk p' → P true (.list [a, b, c, d]) [.io 0 p', .shr (shD os ps qs)]) : (dLAtBounds [.io 0 p, .shr (shD os ps qs)]).to (k := ⟨P, E⟩) := by
  unfold dLAtBounds gLAtBounds
  rw [runD_to]
  obtain ⟨fo, hfo, efo⟩ := ix_last hS.o1
  obtain ⟨fq, hfq, efq⟩ := ix_last hS.c1
  obtain ⟨go, hgo, ego⟩ := ix_first hS.o1
  obtain ⟨gq, hgq, egq⟩ := ix_first hS.c1
  have one := chn_word hS hgo hgq
  simp -dsimp -implicitDefEqProofs [ego, egq]
  generalize PyData.tuple [.str "word", .tuple [.str go, .str gq]] = w1 at one ⊢
  refine for_ok0 (AbO os ps qs w1) ⟨[], p, _, _, _, _, .inl ⟨rfl, rfl⟩, hp, rfl⟩ ?_ ?_
  · rintro i d e hd ⟨found, p1, x4, x5, x6, x7, hf, hp1, rfl⟩
    obtain ⟨many, rfl, hm⟩ : ∃ many : Nat, d = .int (many : Int) ∧ (i = 0 ∧ many = 9 ∨ i = 1 ∧ many = 10) := by
      match i, hd with
      | 0, hd => exact ⟨9, (by cases hd; rfl), .inl ⟨rfl, rfl⟩⟩
      | 1, hd => exact ⟨10, (by cases hd; rfl), .inr ⟨rfl, rfl⟩⟩
    simp -dsimp -implicitDefEqProofs [rng_ok (show many ≤ 1000000 by omega)]
    refine for_ok0 (AbI os ps qs w1 many · found) ⟨w1, p1, _, _, one, hp1, rfl⟩ ?_ ?_
    · rintro j z e hz ⟨d, p2, x6, x7, hch, hp2, rfl⟩
      obtain ⟨rfl, hj⟩ := rng_get hz
      rw [Int.zero_add]
      simp -dsimp -implicitDefEqProofs [efo, efq]
      refine pick_c (m := 3) hp2 (by decide) (by decide) fun v p3 hv hp3 => ?_
      simp -dsimp -implicitDefEqProofs
      refine OT_at (Rp := Chn os ps qs (j + 1)) (by simp; omega) ?_ ?_
      · refine allc ?_ (allc ?_ (all1 ?_))
        · exact chn_row hch
        · exact chn_again hch (by omega) (by omega)
        · exact chn_wrap hS hch (by omega) (by omega) hfo hfq
      · intro o ho
        simp -dsimp -implicitDefEqProofs
        exact ⟨o, p3, _, _, ho, hp3, rfl⟩
    · rintro e ⟨d, p2, x6, x7, hch, hp2, rfl⟩
      rw [rng_len] at hch
      rcases hm with ⟨rfl, rfl⟩ | ⟨rfl, rfl⟩
      · rcases hf with ⟨_, rfl⟩ | ⟨h, _⟩ | ⟨h, _⟩
        · simp -dsimp -implicitDefEqProofs [append_l]
          exact ⟨_, p2, _, _, _, _, .inr (.inl ⟨rfl, d, rfl, hch⟩), hp2, rfl⟩
        · cases h
        · cases h
      · rcases hf with ⟨h, _⟩ | ⟨_, a, rfl, ha⟩ | ⟨h, _⟩
        · cases h
        · simp -dsimp -implicitDefEqProofs [append_l]
          exact ⟨_, p2, _, _, _, _, .inr (.inr ⟨rfl, a, d, rfl, ha, hch⟩), hp2, rfl⟩
        · cases h
  · rintro e ⟨found, p1, x4, x5, x6, x7, hf, hp1, rfl⟩
    rcases hf with ⟨h, _⟩ | ⟨h, _⟩ | ⟨_, a, b, rfl, ha, hb⟩
    · cases h
    · cases h
    simp -dsimp -implicitDefEqProofs [mul_tup, add_tup, append_l]
    have c0 : ∀ n, Eh.cnt (formG os ps qs) kidsG (n + 1) w1 = some 1 := fun n => one.2.2.2 (n + 1)
    have cr : ∀ m n, m ≤ 8 → Eh.cnt (formG os ps qs) kidsG (n + 2) (.tuple [.str "row", .tuple (repD m [w1])]) = some (1 + m) := fun m n hm => by
      have := cnt_row (os := os) (ps := ps) (qs := qs) (n := n + 1) (ds := repD m [w1]) (c := m) (by rw [repD_len]; simp; omega) (by
        rw [sumO_all (c := 1) _ (allr (all1 (c0 n))), repD_len]
        simp)
      exact this
    have g1 := one.1
    have w1' := one.2.1
    have gr : ∀ m, m ≤ 8 → Sm 5 (3 + 5 * m) (.tuple [.str "row", .tuple (repD m [w1])]) := fun m hm => by
      refine sm_tup (by simp) (allc (gk_w (by decide +kernel)) (all1 (.tup (by rw [repD_len]; simp; omega) (allr (all1 g1))))) ?_
      have e1 : wtAll [w1] = wt w1 := rfl
      have e2 : m * wt w1 ≤ m * 5 := Nat.mul_le_mul_left m w1'
      show 1 + (1 + ((1 + wtAll (repD m [w1])) + 0)) ≤ _
      rw [repD_wt, e1]
      omega
    have g4 := gr 4 (by decide)
    have g3 := gr 3 (by decide)
    have r4 := cr 4
    have r3 := cr 3
    generalize PyData.tuple [.str "row", .tuple (repD 4 [w1])] = four at g4 r4 ⊢
    generalize PyData.tuple [.str "row", .tuple (repD 3 [w1])] = three at g3 r3 ⊢
    refine k _ _ _ _ _ ?_ (chn_is ha) (chn_not hb) ?_ ?_ hp1
    · have wa := ha.2.1
      have wb := hb.2.1
      have w4 := g4.2
      have w3 := g3.2
      refine allc ⟨ha.1.mono (by decide), by omega⟩ (allc ⟨hb.1.mono (by decide), by omega⟩ (allc ?_ (all1 ?_)))
      · refine Sm.mono (sm_tup (k := 6) (B := 400) (by simp) (allc (gk_w (by decide +kernel)) (all1 (.tup (by simp) (alla (allr (all1 g4.1)) (all1 g3.1))))) ?_) (by decide) (Nat.le_refl _)
        show 1 + (1 + ((1 + wtAll (repD 7 [four] ++ [three])) + 0)) ≤ 400
        rw [wtAll_app, repD_wt]
        show 1 + (1 + ((1 + (7 * (wt four + 0) + (wt three + 0))) + 0)) ≤ 400
        omega
      · refine Sm.mono (sm_tup (k := 6) (B := 400) (by simp) (allc (gk_w (by decide +kernel)) (all1 (.tup (by simp) (allr (all1 g4.1))))) ?_) (by decide) (Nat.le_refl _)
        show 1 + (1 + ((1 + wtAll (repD 8 [four])) + 0)) ≤ 400
        rw [repD_wt]
        show 1 + (1 + ((1 + 8 * (wt four + 0)) + 0)) ≤ 400
        omega
    · unfold isD
      rw [cnt_row (c := 39) (by simp) (by
        rw [List.map_append, sumO_app, sumO_all (f := Eh.cnt (formG os ps qs) kidsG 9) (c := 5) _ (allr (all1 (r4 7 (by decide)))), sumO_all (f := Eh.cnt (formG os ps qs) kidsG 9) (c := 4) _ (all1 (r3 7 (by decide)))]
        simp)]
      decide
    · unfold isD
      rw [cnt_row (c := 40) (by simp) (by
        rw [sumO_all (f := Eh.cnt (formG os ps qs) kidsG 9) (c := 5) _ (allr (all1 (r4 7 (by decide))))]
        simp)]
      decide
end Dl
set_option Elab.async false
set_option linter.all false
set_option maxRecDepth 100000
set_option maxHeartbeats 4000000
namespace Dl
open PySem PySem.Spec PyProof.Rows L2 Evl Gx GxR RZ
noncomputable def gLaw : DEnv → Flow :=
  gSeq (gSet 2 (fCall dLSheet [] (aIo 1 (aVal (fC (.int 4)) (aNil)))))
    (gSeq (gSet 3 (fTup (fCons (fSl (fVal (f2 dIx (fBor 2) (fVal (fC (.int 0))))) (fNoP) (fPart (fC (.int 1)))) (fCons (f2 dIx (fBor 2) (fVal (fC (.int 1)))) (fCons (fSl (fVal (f2 dIx (fBor 2) (fVal (fC (.int 2))))) (fPart (fNeg (fVal (fC (.int 1))))) (fNoP)) (fNil))))))
    (gSeq (gSet 4 (f2 dAdd (fVal (fCall dLAtBounds [] (aIo 1 (aVar 2 (aNil))))) (fVal (fLst (fCons (fC .none) (fCons (fTup (fNil)) (fCons (fC (.str "word")) (fCons (fTup (fCons (fC (.str "word")) (fNil))) (fCons (fC (.int 0)) (fCons (fTup (fCons (fC (.str "row")) (fNil))) (fCons (fTup (fCons (fC (.str "again")) (fCons (fC (.int 1)) (fNil)))) (fCons (fTup (fCons (fC (.str "row")) (fCons (fTup (fNil)) (fCons (fTup (fNil)) (fNil))))) (fNil)))))))))))))
    (gSeq (gFor (bName 5) (fSrc rng1 (fCons (fC (.int 4)) (fNil))) (gSeq (gSet 6 (fCall (dLGreat 4) [] (aIo 1 (aVar 2 (aVal (fC (.int 3)) (aVal (fC (.bool true)) (aNil)))))))
    (gSeq (gIf (fT (f2 dIsntB (fVal (fCall dIsGreat [] (aVar 2 (aVar 6 (aNil))))) (fVal (fC (.bool true))))) (gRet false (fC (.bool false))) (gNone))
    (gSet 4 (f2 dAdd (fVal (f2 dAdd (fBor 4) (fVal (fLst (fCons (fVar 6) (fNil)))))) (fVal (fLc (fSrc rng1 (fCons (fC (.int 4)) (fNil))) [11] (bName 11) (fYes) (fCall (dLBent 5) [] (aIo 1 (aVar 2 (aVar 6 (aNil))))))))))))
    (gSeq (gFor (bName 7) (fWalk (fBor 4)) (gSeq (gSet 8 (fBlt kRepr (fBCons (fBor 7) (fBNil))))
    (gFor (bName 9) (fWalk (fVal (fLst (fCons (fVar 2) (fCons (fVar 3) (fNil)))))) (gIf (fOr (fNot (fTr (fVal (fCall (dLSame 12) [] (aVal (fCall dIsGreat [] (aVar 9 (aVar 7 (aNil)))) (aVal (fCall dLDue [] (aVar 9 (aVar 7 (aNil)))) (aNil))))))) (fT (f2 dNe (fVal (fBlt kRepr (fBCons (fBor 7) (fBNil)))) (fBor 8)))) (gRet false (fC (.bool false))) (gNone)))))
    (gSeq (gSet 10 (fLc (fWalk (fVal (fSl (fBor 4) (fNoP) (fPart (fC (.int 4)))))) [7] (bName 7) (fYes) (fCall dLDue [] (aVar 2 (aVar 7 (aNil))))))
    (gRet false (f2 dEq (fBor 10) (fVal (fLst (fCons (fC (.bool true)) (fCons (fC (.bool false)) (fCons (fC (.bool true)) (fCons (fC (.bool false)) (fNil))))))))))))))
end Dl
set_option Elab.async false
set_option linter.all false
set_option maxRecDepth 100000
set_option maxHeartbeats 4000000
namespace Dl
open PySem PySem.Spec PyProof.Rows L2 Evl Gx GxR RZ Eh
theorem cut_l1 {L : List Str} (h : 1 ≤ L.length) : cutD (L.map PyData.str) (some (-1)) none = (L.drop (L.length - 1)).map .str := by
  obtain ⟨n, hn⟩ : ∃ n, L.length = n + 1 := ⟨L.length - 1, by omega⟩
  rw [List.map_drop]
  unfold cutD HT.sIx
  rw [List.length_map, hn]
  simp
  have e : (-1 + ((n : Int) + 1)).toNat = n := by omega
  rw [e]
  exact List.take_of_length_le (by rw [List.length_drop, List.length_map]; omega)
theorem sht_other {os ps qs : List Str} (hS : Sht os ps qs) : Sht (os.take 1) ps (qs.drop (qs.length - 1)) := by
  have o1 := hS.o1
  have c1 := hS.c1
  have sub : (os.take 1 ++ ps ++ qs.drop (qs.length - 1)).Sublist (os ++ ps ++ qs) := ((List.take_sublist 1 os).append (List.Sublist.refl ps)).append (List.drop_sublist _ qs)
  refine ⟨hS.nd.sublist sub, fun x hx => hS.lt x (sub.subset hx), ?_, ?_, hS.p4, ?_, ?_⟩
  · rw [List.length_take]
    omega
  · rw [List.length_take]
    omega
  · rw [List.length_drop]
    omega
  · rw [List.length_drop]
    omega
theorem repr_sm {k B : Nat} {d : PyData} (h : Sm k B d) (hk : k ≤ 40) (hB : B ≤ 1600) : kRepr [d] = some (.str d.shown) := by
  have c := h.1.can
  have w := h.1.shownW
  have b := h.2
  refine if_pos ⟨h.1.lay, c.1, c.2.1, by omega, ?_⟩
  rw [sizeLine_eq]
  omega
def lawZ : Ez := { rt := fun fr d _ => fr = false ∧ d = .bool true, bk := fun _ => False, ct := fun _ => False, ex := fun _ _ => False }
@[simp] theorem lawZ_rt {fr : Bool} {d : PyData} {e : DEnv} : lawZ.rt fr d e = (fr = false ∧ d = .bool true) := rfl
def LwI (os ps qs : List Str) (o : PyData) (a b c d : PyData) (i : Nat) (e : DEnv) : Prop := ∃ (p : PyData) (ts : List PyData) (x5 x6 : Option Slot), PotOk p ∧ (∀ x ∈ ts, Sm 40 700 x) ∧ ts.take 4 = [a, b, c, d] ∧ ts.length ≤ 20 + 5 * i ∧ e = [none, some (.own p), some (.shr (shD os ps qs)), some (.shr o), some (.shr (.list ts)), x5, x6, none, none, none, none, none]
def LwJ (os ps qs : List Str) (o p g : PyData) (ts : List PyData) (x5 : Option Slot) (i : Nat) (acc : List PyData) (e : DEnv) : Prop := ∃ p', PotOk p' ∧ acc.length ≤ i ∧ (∀ x ∈ acc, Sm 40 700 x) ∧ e = [none, some (.own p'), some (.shr (shD os ps qs)), some (.shr o), some (.shr (.list ts)), x5, some (.shr g), none, none, none, none, none]
def LwK (os ps qs : List Str) (o p : PyData) (ts : List PyData) (x5 x6 : Option Slot) (e : DEnv) : Prop := ∃ (x7 x8 x9 : Option Slot), e = [none, some (.own p), some (.shr (shD os ps qs)), some (.shr o), some (.shr (.list ts)), x5, x6, x7, x8, x9, none, none]
def LwM (os ps qs : List Str) (o p : PyData) (ts : List PyData) (x5 x6 : Option Slot) (x : PyData) (e : DEnv) : Prop := ∃ (x9 : Option Slot), e = [none, some (.own p), some (.shr (shD os ps qs)), some (.shr o), some (.shr (.list ts)), x5, x6, some (.shr x), some (.shr (.str x.shown)), x9, none, none]
theorem law_d {ns : List Int} (hn : ns.length ≤ 12) : (gLaw [none, some (.own (.list [.list (ns.map .int), .int 0, .int 0])), none, none, none, none, none, none, none, none, none, none]).fo (k := ⟨fun _ => False, lawZ⟩) := by
  have hp : PotOk (.list [.list (ns.map .int), .int 0, .int 0]) := ⟨ns, 0, 0, rfl, by decide, by decide, hn⟩
  generalize PyData.list [.list (ns.map .int), .int 0, .int 0] = p at hp ⊢
  unfold gLaw
  simp -dsimp -implicitDefEqProofs
  refine sheet_c (m := 4) hp (by decide) (by decide) fun os ps qs p1 hS hp1 => ?_
  have o1 := hS.o1
  have c1 := hS.c1
  have e1 : cutD (os.map PyData.str) none (some 1) = (os.take 1).map .str := cutM_to os 1
  have e2 := cut_l1 (L := qs) c1
  have hS2 := sht_other hS
  generalize os.take 1 = os2 at e1 hS2
  generalize qs.drop (qs.length - 1) = qs2 at e2 hS2
  simp -dsimp -implicitDefEqProofs [e1, e2]
  refine atBounds_c hS hp1 fun a b c d p2 hs ha hb hc hd hp2 => ?_
  simp -dsimp -implicitDefEqProofs [e1, e2, add_list]
  have fo : PyData.tuple [.tuple (os2.map .str), .tuple (ps.map .str), .tuple (qs2.map .str)] = shD os2 ps qs2 := rfl
  rw [fo]
  rw [show rng1 [.int 4] = some (rngItems 0 4) from rng_ok (n := 4) (by decide)]
  simp -dsimp -implicitDefEqProofs
  have sm : ∀ x ∈ [a, b, c, d, PyData.none, PyData.tuple [], PyData.str (Str.ofString "word"), PyData.tuple [PyData.str (Str.ofString "word")], PyData.int 0, PyData.tuple [PyData.str (Str.ofString "row")], PyData.tuple [PyData.str (Str.ofString "again"), PyData.int 1], PyData.tuple [PyData.str (Str.ofString "row"), PyData.tuple [], PyData.tuple []]], Sm 40 700 x := by
    have hs' : ∀ x ∈ [a, b, c, d], Sm 40 700 x := fun x hx => (hs x hx).mono (Nat.le_refl _) (by decide)
    refine alla (a := [a, b, c, d]) hs' ?_
    repeat' (first | exact all0 | refine allc ?_ ?_)
    all_goals first
      | exact sm_none (by decide)
      | exact sm_int (by decide) (by decide +kernel) (by decide)
      | exact sm_w (by decide +kernel) (by decide)
      | exact sm_tup (k := 39) (by simp) all0 (by decide)
      | exact sm_tup (k := 39) (by simp) (all1 (gk_w (by decide +kernel))) (by decide)
      | exact sm_tup (k := 39) (by simp) (allc (gk_w (by decide +kernel)) (all1 (.int (by decide)))) (by decide)
      | exact sm_tup (k := 39) (by simp) (allc (gk_w (by decide +kernel)) (allc (.tup (by simp) all0) (all1 (.tup (by simp) all0)))) (by decide)
  refine for_ok0 (LwI os ps qs (shD os2 ps qs2) a b c d) ⟨p2, _, _, _, hp2, sm, rfl, by simp, rfl⟩ ?_ ?_
  · rintro i z e hz ⟨p3, ts, x5, x6, hp3, hts, h4, hl, rfl⟩
    have hi := (rng_get hz).2
    simp -dsimp -implicitDefEqProofs
    refine great_c hS 3 4 (by decide) hp3 fun g p4 hg hp4 => ?_
    have gg := hg.gk hS
    have gw := hg.wt
    have e9 : gW 3 = 282 := rfl
    simp -dsimp -implicitDefEqProofs
    refine isGreat_c hS (gg.mono (by decide)) ?_
    simp -dsimp -implicitDefEqProofs [hg.is]
    simp -dsimp -implicitDefEqProofs [add_list (xs := ts) (ys := [g]) (by rw [List.length_singleton]; omega), show rng1 [.int 4] = some (rngItems 0 4) from rng_ok (n := 4) (by decide)]
    have e4 : 4 ≤ ts.length := by
      have := congrArg List.length h4
      rw [List.length_take] at this
      simp at this
      omega
    refine lc_go (LwJ os ps qs (shD os2 ps qs2) p4 g ts _) (by simp) ⟨p4, hp4, Nat.zero_le _, fun x h => (List.not_mem_nil h).elim, rfl⟩ ?_ ?_
    · rintro j y acc e hy ⟨p5, hp5, hl5, hacc, rfl⟩
      simp -dsimp -implicitDefEqProofs
      refine bent_c hS 3 5 (by decide) (by decide) hp5 hg fun fr x p6 hx hp6 => ?_
      simp -dsimp -implicitDefEqProofs
      refine ⟨p6, hp6, by rw [List.length_append, List.length_singleton]; omega, alla hacc (all1 (hx.mono (by decide) (by omega))), rfl⟩
    · rintro acc e ⟨p5, hp5, hl5, hacc, rfl⟩
      rw [rng_len] at hl5
      simp -dsimp -implicitDefEqProofs [add_list (xs := ts ++ [g]) (ys := acc) (by rw [List.length_append, List.length_singleton]; omega)]
      refine ⟨p5, ts ++ g :: acc, _, _, hp5, alla hts (allc ⟨gg.mono (by decide), by omega⟩ hacc), ?_, ?_, rfl⟩
      · rw [List.take_append_of_le_length e4, h4]
      · rw [List.length_append, List.length_cons]
        omega
  · rintro e ⟨p3, ts, x5, x6, hp3, hts, h4, hl, rfl⟩
    simp -dsimp -implicitDefEqProofs
    rw [rng_len] at hl
    refine for_ok0 (fun _ => LwK os ps qs (shD os2 ps qs2) p3 ts x5 x6) ⟨_, _, _, rfl⟩ ?_ ?_
    · rintro i x e hx ⟨x7, x8, x9, rfl⟩
      have sx := hts x (List.mem_of_getElem? hx)
      have rx := repr_sm sx (by decide) (by decide)
      have gx := sx.1.mono (show 40 ≤ 60 by decide)
      have wx := sx.2
      simp -dsimp -implicitDefEqProofs [rx]
      refine for_ok0 (fun _ => LwM os ps qs (shD os2 ps qs2) p3 ts x5 x6 x) ⟨_, rfl⟩ ?_ ?_
      · rintro j y e hy ⟨x9, rfl⟩
        obtain ⟨os3, ps3, qs3, rfl, hS3⟩ : ∃ os3 ps3 qs3, y = shD os3 ps3 qs3 ∧ Sht os3 ps3 qs3 := by
          match j, hy with
          | 0, hy => exact ⟨os, ps, qs, (by cases hy; rfl), hS⟩
          | 1, hy => exact ⟨os2, ps, qs2, (by cases hy; rfl), hS2⟩
        simp -dsimp -implicitDefEqProofs
        refine isGreat_c hS3 gx ?_
        simp -dsimp -implicitDefEqProofs
        refine due_c hS3 gx (by omega) ?_
        simp -dsimp -implicitDefEqProofs
        refine lSame_c (n := 11) ?_
        simp -dsimp -implicitDefEqProofs [rx]
        exact ⟨_, rfl⟩
      · rintro e ⟨x9, rfl⟩
        exact ⟨_, _, _, rfl⟩
    · rintro e ⟨x7, x8, x9, rfl⟩
      have c4 : cutD ts none (some 4) = ts.take 4 := cut_to (b := 4)
      simp -dsimp -implicitDefEqProofs [c4]
      rw [h4]
      have hs9 : ∀ x ∈ [a, b, c, d], Gk 60 x ∧ wt x ≤ 9000 := fun x hx => ⟨(hs x hx).1.mono (by decide), Nat.le_trans (hs x hx).2 (by decide)⟩
      rw [lc_fm (fun _ => true) (fun x => .bool (isD (formG os ps qs) kidsG 10 40 x)) (by simp; rw [sizeLine_eq]; omega) (fun x hx => by
        simp -dsimp -implicitDefEqProofs
        refine due_c hS (hs9 x hx).1 (hs9 x hx).2 ?_
        simp -dsimp -implicitDefEqProofs), flt]
      have em : [a, b, c, d].map (fun x => PyData.bool (isD (formG os ps qs) kidsG 10 40 x)) = [.bool true, .bool false, .bool true, .bool false] := by
        rw [List.map_cons, List.map_cons, List.map_cons, List.map_cons, List.map_nil, ha, hb, hc, hd]
      have eq4 : dEq (.list [.bool true, .bool false, .bool true, .bool false]) (.list [.bool true, .bool false, .bool true, .bool false]) = some (.bool true) := by
        rfl
      rw [em]
      simp -dsimp -implicitDefEqProofs [eq4]
end Dl
set_option Elab.async false
set_option linter.all false
set_option maxRecDepth 100000
set_option maxHeartbeats 4000000
namespace Dl
open PySem PySem.Spec PyProof.Rows L2 Evl Gx GxR RZ
def topS (i : Nat) : Stmt := PySem.Challenge.pw_echohall_k46_what_is_a_great_word.main.body.getD i (.Pass ⟨0, 0, 0, 0⟩)
abbrev sIsWhole : Stmt := topS 4
abbrev sOrderOf : Stmt := topS 5
abbrev sNeedWord : Stmt := topS 6
abbrev sAnswers : Stmt := topS 8
abbrev sAlone : Stmt := topS 9
abbrev sIsShut : Stmt := topS 10
abbrev sIsTimes : Stmt := topS 17
abbrev sIsShortShut : Stmt := topS 18
abbrev sIsForm : Stmt := topS 19
abbrev sPartsIn : Stmt := topS 20
abbrev sIsGreat : Stmt := topS 21
abbrev sLBlend : Stmt := topS 23
abbrev sLPot : Stmt := topS 24
abbrev sLPick : Stmt := topS 25
abbrev sLLetters : Stmt := topS 26
abbrev sLSheet : Stmt := topS 27
abbrev sLOrder : Stmt := topS 28
abbrev sLShut : Stmt := topS 29
abbrev sLAnswers : Stmt := topS 30
abbrev sLSame : Stmt := topS 31
abbrev sLWhole : Stmt := topS 32
abbrev sLCount : Stmt := topS 33
abbrev sLGreat : Stmt := topS 34
abbrev sLParts : Stmt := topS 35
abbrev sLIsWord : Stmt := topS 36
abbrev sLIsIt : Stmt := topS 37
abbrev sLDue : Stmt := topS 38
abbrev sLOddWords : Stmt := topS 39
abbrev sLBent : Stmt := topS 40
abbrev sLAtBounds : Stmt := topS 41
abbrev sLaw : Stmt := topS 42
end Dl
set_option Elab.async false
set_option linter.all false
set_option maxRecDepth 100000
set_option maxHeartbeats 4000000
namespace Dl
open PySem PySem.Spec PyProof.Rows L2 Evl Gx GxR RZ
structure EnvL (K : PySem.W.Frag) (mg : Str → Option Value) (base : Heap) where
  TS : List Addr
  ca : Str → Addr
  fIsWhole : Addr
  dIsWhole : FuncData
  bIsWhole : mg "is_whole" = some (.ref fIsWhole)
  BIsWhole : Binds K dIsWhole ["thing"] []
  FIsWhole : Fun K "is_whole" "is_whole" sIsWhole fIsWhole dIsWhole
  fOrderOf : Addr
  dOrderOf : FuncData
  bOrderOf : mg "order_of" = some (.ref fOrderOf)
  BOrderOf : Binds K dOrderOf ["sheet"] []
  FOrderOf : Fun K "order_of" "order_of" sOrderOf fOrderOf dOrderOf
  fNeedWord : Addr
  dNeedWord : FuncData
  bNeedWord : mg "need_word" = some (.ref fNeedWord)
  BNeedWord : Binds K dNeedWord ["sheet", "word"] []
  FNeedWord : Fun K "need_word" "need_word" sNeedWord fNeedWord dNeedWord
  fAnswers : Addr
  dAnswers : FuncData
  bAnswers : mg "answers" = some (.ref fAnswers)
  BAnswers : Binds K dAnswers ["sheet", "word"] []
  FAnswers : Fun K "answers" "answers" sAnswers fAnswers dAnswers
  fAlone : Addr
  dAlone : FuncData
  bAlone : mg "alone" = some (.ref fAlone)
  BAlone : Binds K dAlone ["sheet", "word", "told"] []
  FAlone : Fun K "alone" "alone" sAlone fAlone dAlone
  fIsShut : Addr
  dIsShut : FuncData
  bIsShut : mg "is_shut" = some (.ref fIsShut)
  BIsShut : Binds K dIsShut ["sheet", "word"] []
  FIsShut : Fun K "is_shut" "is_shut" sIsShut fIsShut dIsShut
  fIsTimes : Addr
  dIsTimes : FuncData
  bIsTimes : mg "is_times" = some (.ref fIsTimes)
  BIsTimes : Binds K dIsTimes ["thing"] []
  FIsTimes : Fun K "is_times" "is_times" sIsTimes fIsTimes dIsTimes
  fIsShortShut : Addr
  dIsShortShut : FuncData
  bIsShortShut : mg "is_short_shut" = some (.ref fIsShortShut)
  BIsShortShut : Binds K dIsShortShut ["sheet", "thing"] []
  cIsShortShut : Addr
  PIsShortShut : Addr
  CIsShortShut : FunC K "is_short_shut" "is_short_shut" sIsShortShut fIsShortShut dIsShortShut cIsShortShut
  TBIsShortShut : TabB base mg cIsShortShut PIsShortShut
  TSIsShortShut : PIsShortShut ∈ TS
  fIsForm : Addr
  dIsForm : FuncData
  bIsForm : mg "is_form" = some (.ref fIsForm)
  BIsForm : Binds K dIsForm ["sheet", "thing"] []
  FIsForm : Fun K "is_form" "is_form" sIsForm fIsForm dIsForm
  fPartsIn : Addr
  dPartsIn : FuncData
  bPartsIn : mg "parts_in" = some (.ref fPartsIn)
  BPartsIn : Binds K dPartsIn ["great"] []
  FPartsIn : Fun K "parts_in" "parts_in" sPartsIn fPartsIn dPartsIn
  fIsGreat : Addr
  dIsGreat : FuncData
  bIsGreat : mg "is_great" = some (.ref fIsGreat)
  BIsGreat : Binds K dIsGreat ["sheet", "thing"] []
  FIsGreat : Fun K "is_great" "is_great" sIsGreat fIsGreat dIsGreat
  fLBlend : Addr
  dLBlend : FuncData
  bLBlend : mg "_law_blend" = some (.ref fLBlend)
  BLBlend : Binds K dLBlend ["cell", "at"] []
  FLBlend : Fun K "_law_blend" "_law_blend" sLBlend fLBlend dLBlend
  fLPick : Addr
  dLPick : FuncData
  bLPick : mg "_law_pick" = some (.ref fLPick)
  BLPick : Binds K dLPick ["pot", "many"] []
  FLPick : Fun K "_law_pick" "_law_pick" sLPick fLPick dLPick
  fLLetters : Addr
  dLLetters : FuncData
  bLLetters : mg "_law_letters" = some (.ref fLLetters)
  BLLetters : Binds K dLLetters ["pot", "many"] []
  FLLetters : Fun K "_law_letters" "_law_letters" sLLetters fLLetters dLLetters
  fLSheet : Addr
  dLSheet : FuncData
  bLSheet : mg "_law_sheet" = some (.ref fLSheet)
  BLSheet : Binds K dLSheet ["pot", "most"] []
  FLSheet : Fun K "_law_sheet" "_law_sheet" sLSheet fLSheet dLSheet
  fLOrder : Addr
  dLOrder : FuncData
  bLOrder : mg "_law_order" = some (.ref fLOrder)
  BLOrder : Binds K dLOrder ["sheet"] []
  FLOrder : Fun K "_law_order" "_law_order" sLOrder fLOrder dLOrder
  fLShut : Addr
  dLShut : FuncData
  bLShut : mg "_law_shut" = some (.ref fLShut)
  BLShut : Binds K dLShut ["pot", "sheet", "most"] []
  FLShut : Fun K "_law_shut" "_law_shut" sLShut fLShut dLShut
  fLAnswers : Addr
  dLAnswers : FuncData
  bLAnswers : mg "_law_answers" = some (.ref fLAnswers)
  BLAnswers : Binds K dLAnswers ["sheet", "word"] []
  FLAnswers : Fun K "_law_answers" "_law_answers" sLAnswers fLAnswers dLAnswers
  fLSame : Addr
  dLSame : FuncData
  bLSame : mg "_law_same" = some (.ref fLSame)
  BLSame : Binds K dLSame ["found", "due"] []
  FLSame : Fun K "_law_same" "_law_same" sLSame fLSame dLSame
  fLWhole : Addr
  dLWhole : FuncData
  bLWhole : mg "_law_whole" = some (.ref fLWhole)
  BLWhole : Binds K dLWhole ["thing", "many"] []
  FLWhole : Fun K "_law_whole" "_law_whole" sLWhole fLWhole dLWhole
  fLCount : Addr
  dLCount : FuncData
  bLCount : mg "_law_count" = some (.ref fLCount)
  BLCount : Binds K dLCount ["pot", "big"] []
  FLCount : Fun K "_law_count" "_law_count" sLCount fLCount dLCount
  fLGreat : Addr
  dLGreat : FuncData
  bLGreat : mg "_law_great" = some (.ref fLGreat)
  BLGreat : Binds K dLGreat ["pot", "sheet", "deep", "big"] []
  FLGreat : Fun K "_law_great" "_law_great" sLGreat fLGreat dLGreat
  fLParts : Addr
  dLParts : FuncData
  bLParts : mg "_law_parts" = some (.ref fLParts)
  BLParts : Binds K dLParts ["thing"] []
  FLParts : Fun K "_law_parts" "_law_parts" sLParts fLParts dLParts
  fLIsWord : Addr
  dLIsWord : FuncData
  bLIsWord : mg "_law_is_word" = some (.ref fLIsWord)
  BLIsWord : Binds K dLIsWord ["sheet", "letters"] []
  FLIsWord : Fun K "_law_is_word" "_law_is_word" sLIsWord fLIsWord dLIsWord
  fLIsIt : Addr
  dLIsIt : FuncData
  bLIsIt : mg "_law_is_it" = some (.ref fLIsIt)
  BLIsIt : Binds K dLIsIt ["sheet", "thing"] []
  FLIsIt : Fun K "_law_is_it" "_law_is_it" sLIsIt fLIsIt dLIsIt
  fLDue : Addr
  dLDue : FuncData
  bLDue : mg "_law_due" = some (.ref fLDue)
  BLDue : Binds K dLDue ["sheet", "thing"] []
  FLDue : Fun K "_law_due" "_law_due" sLDue fLDue dLDue
  fLOddWords : Addr
  dLOddWords : FuncData
  bLOddWords : mg "_law_odd_words" = some (.ref fLOddWords)
  BLOddWords : Binds K dLOddWords ["pot", "sheet"] []
  FLOddWords : Fun K "_law_odd_words" "_law_odd_words" sLOddWords fLOddWords dLOddWords
  fLBent : Addr
  dLBent : FuncData
  bLBent : mg "_law_bent" = some (.ref fLBent)
  BLBent : Binds K dLBent ["pot", "sheet", "thing"] []
  FLBent : Fun K "_law_bent" "_law_bent" sLBent fLBent dLBent
  fLAtBounds : Addr
  dLAtBounds : FuncData
  bLAtBounds : mg "_law_at_bounds" = some (.ref fLAtBounds)
  BLAtBounds : Binds K dLAtBounds ["pot", "sheet"] []
  FLAtBounds : Fun K "_law_at_bounds" "_law_at_bounds" sLAtBounds fLAtBounds dLAtBounds
  m_all : mg "all" = none
  m_bool : mg "bool" = none
  m_enumerate : mg "enumerate" = none
  m_int : mg "int" = none
  m_isinstance : mg "isinstance" = none
  m_len : mg "len" = none
  m_list : mg "list" = none
  m_min : mg "min" = none
  m_range : mg "range" = none
  m_str : mg "str" = none
  m_tuple : mg "tuple" = none
  m_zip : mg "zip" = none
  t_MOST_IN_ALL : Tok
  g_MOST_IN_ALL : mg "MOST_IN_ALL" = some (.int 40 t_MOST_IN_ALL)
  t_MOST_IN_A_ROW : Tok
  g_MOST_IN_A_ROW : mg "MOST_IN_A_ROW" = some (.int 8 t_MOST_IN_A_ROW)
  t_MOST_IN_A_WORD : Tok
  g_MOST_IN_A_WORD : mg "MOST_IN_A_WORD" = some (.int 60 t_MOST_IN_A_WORD)
  t_MOST_TIMES : Tok
  g_MOST_TIMES : mg "MOST_TIMES" = some (.int 1000000000000000000000000000000000000000000000000000000000000 t_MOST_TIMES)
  t_MOST_WITHIN : Tok
  g_MOST_WITHIN : mg "MOST_WITHIN" = some (.int 10 t_MOST_WITHIN)
theorem EnvL.FIsShortShut {K : PySem.W.Frag} {mg : Str → Option Value} {base : Heap} (V : EnvL K mg base) : Fun K "is_short_shut" "is_short_shut" sIsShortShut V.fIsShortShut V.dIsShortShut := V.CIsShortShut.toFun
end Dl
set_option Elab.async false
set_option linter.all false
set_option maxRecDepth 100000
set_option maxHeartbeats 4000000
namespace Dl
open PySem PySem.Spec PyProof.Rows L2 Evl Gx GxR RZ
abbrev nIsWhole : List Str := ["thing"]
theorem scIsWhole : FnScope nIsWhole ["thing"] (defScope sIsWhole) := ⟨rfl, rfl, rfl, by decide +kernel, rfl, by decide +kernel, by decide +kernel⟩
theorem ndIsWhole : nIsWhole.Nodup := scIsWhole.nd
theorem okIsWhole {P : Program} {w : World} {K : PySem.W.Frag} {mg : Str → Option Value} {base : Heap} (V : EnvL K mg base) : FnOk P w K mg base (L2.CX P w) 1 V.fIsWhole V.dIsWhole ["thing"] (spD K V.TS V.ca 1 (dIsWhole)) :=
  fn_D (N := nIsWhole) (ps := ["thing"]) (k := 0) (G := gIsWhole) V.TS V.ca V.FIsWhole scIsWhole fun cdv A outer s H vs E hr =>
    sss_one (ss_ret (se_and (fun _ => rfl) (se_isi (fun _ => rfl) (fun _ => by rfl) (fun _ => V.m_isinstance) (sb_var (fun _ => pv 0)) (fun _ => pe_bltn (v := .ty "int") (by rfl) V.m_int (by decide +kernel) rfl)) (se_one (se_not (fun _ => rfl) (sb_of (se_isi (fun _ => rfl) (fun _ => by rfl) (fun _ => V.m_isinstance) (sb_var (fun _ => pv 0)) (fun _ => pe_bltn (v := .ty "bool") (by rfl) V.m_bool (by decide +kernel) rfl)))))))
end Dl
set_option Elab.async false
set_option linter.all false
set_option maxRecDepth 100000
set_option maxHeartbeats 4000000
namespace Dl
open PySem PySem.Spec PyProof.Rows L2 Evl Gx GxR RZ
abbrev nOrderOf : List Str := ["sheet", "opens", "plains", "closes", "number", "letter"]
theorem scOrderOf : FnScope nOrderOf ["sheet"] (defScope sOrderOf) := ⟨rfl, rfl, rfl, by decide +kernel, rfl, by decide +kernel, by decide +kernel⟩
theorem ndOrderOf : nOrderOf.Nodup := scOrderOf.nd
theorem okOrderOf {P : Program} {w : World} {K : PySem.W.Frag} {mg : Str → Option Value} {base : Heap} (V : EnvL K mg base) : FnOk P w K mg base (L2.CX P w) 1 V.fOrderOf V.dOrderOf ["sheet"] (spD K V.TS V.ca 1 (dOrderOf)) :=
  fn_D (N := nOrderOf) (ps := ["sheet"]) (k := 0) (G := gOrderOf) V.TS V.ca V.FOrderOf scOrderOf fun cdv A outer s H vs E hr =>
    sss_cons (ss_asg (sg_tup (fun _ => rfl) (fun _ => rfl) (sgs_cons (sg_name (i := 1) (fun _ => ndOrderOf) (fun _ => rfl) (fun _ => .inl rfl)) (sgs_cons (sg_name (i := 2) (fun _ => ndOrderOf) (fun _ => rfl) (fun _ => .inl rfl)) (sgs_cons (sg_name (i := 3) (fun _ => ndOrderOf) (fun _ => rfl) (fun _ => .inl rfl)) (sgs_nil)))) (bl_cons (bl_cons (bl_cons bl_nil)))) (se_var (fun _ => pv 0)))
    (sss_one (ss_retX (sx_so (so_dcK (own := [("number", 4), ("letter", 5)]) (fun _ => rfl) (fun _ => ndOrderOf) (si_enumB (fun _ => rfl) (fun _ => by rfl) (fun _ => V.m_enumerate) (sbs_cons (sb_of (se_bin (ad_add (fun _ => rfl)) (sb_of (se_bin (ad_add (fun _ => rfl)) (sb_var (fun _ => pv 1)) (sb_var (fun _ => pv 2)))) (sb_var (fun _ => pv 3)))) (sbs_nil))) (fun _ => blkOk_by (own := [("number", 4), ("letter", 5)]) (N := nOrderOf) (sc := defScope sOrderOf) (by decide +kernel)) (sg_tup (fun _ => rfl) (fun _ => rfl) (sgs_cons (sg_name (i := 4) (fun _ => ndOrderOf) (fun _ => rfl) (fun _ => .inl rfl)) (sgs_cons (sg_name (i := 5) (fun _ => ndOrderOf) (fun _ => rfl) (fun _ => .inl rfl)) (sgs_nil))) (bl_cons (bl_cons bl_nil))) (sf_nil) (se_var (fun _ => pv 5)) (se_var (fun _ => pv 4)) (by decide)))))
end Dl
set_option Elab.async false
set_option linter.all false
set_option maxRecDepth 100000
set_option maxHeartbeats 4000000
namespace Dl
open PySem PySem.Spec PyProof.Rows L2 Evl Gx GxR RZ
abbrev nNeedWord : List Str := ["sheet", "word", "order", "place", "letter"]
theorem scNeedWord : FnScope nNeedWord ["sheet", "word"] (defScope sNeedWord) := ⟨rfl, rfl, rfl, by decide +kernel, rfl, by decide +kernel, by decide +kernel⟩
theorem ndNeedWord : nNeedWord.Nodup := scNeedWord.nd
theorem okNeedWord {P : Program} {w : World} {K : PySem.W.Frag} {mg : Str → Option Value} {base : Heap} (V : EnvL K mg base) : FnOk P w K mg base (L2.CX P w) 2 V.fNeedWord V.dNeedWord ["sheet", "word"] (spD K V.TS V.ca 2 (dNeedWord)) :=
  fn_D (N := nNeedWord) (ps := ["sheet", "word"]) (k := 1) (G := gNeedWord) V.TS V.ca V.FNeedWord scNeedWord fun cdv A outer s H vs E hr =>
    sss_cons (ss_set (i := 2) (fun _ => ndNeedWord) (fun _ => rfl) (fun _ => .inl rfl) (se_call (fun _ => okOrderOf V) (fun j => (hr).mono (by omega)) (fun _ => by rfl) (fun _ => V.bOrderOf) (fun _ => V.FOrderOf.kp) (fun _ => V.BOrderOf) .nil (fun _ _ => .nil) (fun _ => takes_of rfl rfl rfl rfl) (sa_var (fun _ => pv 0) (sa_nil)) (al_var al_nil)))
    (sss_one (ss_for (fun _ => passes_of rfl) (fun _ => rfl) (si_enumB (fun _ => rfl) (fun _ => by rfl) (fun _ => V.m_enumerate) (sbs_cons (sb_var (fun _ => pv 1)) (sbs_nil))) (sg_tup (fun _ => rfl) (fun _ => rfl) (sgs_cons (sg_name (i := 3) (fun _ => ndNeedWord) (fun _ => rfl) (fun _ => .inl rfl)) (sgs_cons (sg_name (i := 4) (fun _ => ndNeedWord) (fun _ => rfl) (fun _ => .inl rfl)) (sgs_nil))) (bl_cons (bl_cons bl_nil))) (sss_one (ss_if (st_notIn (fun _ => rfl) (fun j => (hr).u65) (sb_var (fun _ => pv 4)) (sb_var (fun _ => pv 2)) rfl) (sss_one (ss_bad)) (sss_nil)))))
end Dl
set_option Elab.async false
set_option linter.all false
set_option maxRecDepth 100000
set_option maxHeartbeats 4000000
namespace Dl
open PySem PySem.Spec PyProof.Rows L2 Evl Gx GxR RZ
abbrev nAnswers : List Str := ["sheet", "word", "told", "waiting", "place", "letter", "begun"]
theorem scAnswers : FnScope nAnswers ["sheet", "word"] (defScope sAnswers) := ⟨rfl, rfl, rfl, by decide +kernel, rfl, by decide +kernel, by decide +kernel⟩
theorem ndAnswers : nAnswers.Nodup := scAnswers.nd
theorem okAnswers {P : Program} {w : World} {K : PySem.W.Frag} {mg : Str → Option Value} {base : Heap} (V : EnvL K mg base) : FnOk P w K mg base (L2.CX P w) 3 V.fAnswers V.dAnswers ["sheet", "word"] (spD K V.TS V.ca 2 (dAnswers)) :=
  fn_D (N := nAnswers) (ps := ["sheet", "word"]) (k := 2) (G := gAnswers) V.TS V.ca V.FAnswers scAnswers fun cdv A outer s H vs E hr =>
    sss_cons (ss_expr (se_call (fun _ => okNeedWord V) (fun j => (hr).mono (by omega)) (fun _ => by rfl) (fun _ => V.bNeedWord) (fun _ => V.FNeedWord.kp) (fun _ => V.BNeedWord) .nil (fun _ _ => .nil) (fun _ => takes_of rfl rfl rfl rfl) (sa_var (fun _ => pv 0) (sa_var (fun _ => pv 1) (sa_nil))) (al_var (al_var al_nil))))
    (sss_cons (ss_setX (i := 2) (fun _ => ndAnswers) (fun _ => rfl) (fun _ => .inl rfl) (sx_so (so_mul (sb_of (so_se (so_lst (sas_cons (se_non) (sas_nil))))) (sb_of (sd_callB (ad_len (fun _ => rfl)) (fun _ => by rfl) (fun _ => V.m_len) PySem.boot_len (sbs_cons (sb_var (fun _ => pv 1)) (sbs_nil)))))))
    (sss_cons (ss_setX (i := 3) (fun _ => ndAnswers) (fun _ => rfl) (fun _ => .inl rfl) (sx_so (so_lst (sas_nil))))
    (sss_cons (ss_for (fun _ => passes_of rfl) (fun _ => rfl) (si_enumB (fun _ => rfl) (fun _ => by rfl) (fun _ => V.m_enumerate) (sbs_cons (sb_var (fun _ => pv 1)) (sbs_nil))) (sg_tup (fun _ => rfl) (fun _ => rfl) (sgs_cons (sg_name (i := 4) (fun _ => ndAnswers) (fun _ => rfl) (fun _ => .inl rfl)) (sgs_cons (sg_name (i := 5) (fun _ => ndAnswers) (fun _ => rfl) (fun _ => .inl rfl)) (sgs_nil))) (bl_cons (bl_cons bl_nil))) (sss_one (ss_if (st_in (fun _ => rfl) (fun j => (hr).u65) (sb_var (fun _ => pv 5)) (sb_of (se_ix (fun _ => rfl) (fun j => (hr).u65) (sb_var (fun _ => pv 0)) (sb_of (se_int)) (fun _ _ => rfl) (fun _ _ => rfl))) rfl) (sss_one (ss_expr (se_mut (.inl rfl) (fun _ => rfl) PySem.F.plainAttrs_list PySem.F.slot_list_append PySem.F.type_list_append am_append (fun _ => pv 3) (sas_cons (se_var (fun _ => pv 4)) (sas_nil))))) (sss_one (ss_if (st_w (sw_and (st_in (fun _ => rfl) (fun j => (hr).u65) (sb_var (fun _ => pv 5)) (sb_of (se_ix (fun _ => rfl) (fun j => (hr).u65) (sb_var (fun _ => pv 0)) (sb_of (se_int)) (fun _ _ => rfl) (fun _ _ => rfl))) rfl) (sw_and1 (st_val (fun _ => rfl) (sb_var (fun _ => pv 3)) (fun _ _ => rfl))))) (sss_cons (ss_set (i := 6) (fun _ => ndAnswers) (fun _ => rfl) (fun _ => .inl rfl) (se_mut0 (.inl rfl) (fun _ => rfl) PySem.F.plainAttrs_list PySem.F.slot_list_pop PySem.F.type_list_pop am_pop (fun _ => pv 3)))
    (sss_cons (ss_store (fun _ => pv 2) (sb_var (fun _ => pv 6)) (se_var (fun _ => pv 4)))
    (sss_one (ss_store (fun _ => pv 2) (sb_var (fun _ => pv 4)) (se_var (fun _ => pv 6)))))) (sss_nil))))))
    (sss_one (ss_retX (sx_move (fun _ => pv 2)))))))
end Dl
set_option Elab.async false
set_option linter.all false
set_option maxRecDepth 100000
set_option maxHeartbeats 4000000
namespace Dl
open PySem PySem.Spec PyProof.Rows L2 Evl Gx GxR RZ
abbrev nAlone : List Str := ["sheet", "word", "told", "places", "bare", "place"]
theorem scAlone : FnScope nAlone ["sheet", "word", "told"] (defScope sAlone) := ⟨rfl, rfl, rfl, by decide +kernel, rfl, by decide +kernel, by decide +kernel⟩
theorem ndAlone : nAlone.Nodup := scAlone.nd
theorem okAlone {P : Program} {w : World} {K : PySem.W.Frag} {mg : Str → Option Value} {base : Heap} (V : EnvL K mg base) : FnOk P w K mg base (L2.CX P w) 1 V.fAlone V.dAlone ["sheet", "word", "told"] (spD K V.TS V.ca 3 (dAlone)) :=
  fn_D (N := nAlone) (ps := ["sheet", "word", "told"]) (k := 0) (G := gAlone) V.TS V.ca V.FAlone scAlone fun cdv A outer s H vs E hr =>
    sss_cons (ss_setLc (i := 3) (own := [("place", 5)]) (fun _ => rfl) (fun _ => ndAlone) (fun _ => rfl) (fun _ => rfl) (fun _ => sw_true rfl rfl rfl (by decide +kernel)) (si_range1 (fun _ => by rfl) (fun _ => V.m_range) (sas_cons (sd_callB (ad_len (fun _ => rfl)) (fun _ => by rfl) (fun _ => V.m_len) PySem.boot_len (sbs_cons (sb_var (fun _ => pv 1)) (sbs_nil))) (sas_nil))) (fun _ => blkOk_by (own := [("place", 5)]) (N := nAlone) (sc := defScope sAlone) (by decide +kernel)) (sg_name (i := 5) (fun _ => ndAlone) (fun _ => rfl) (fun _ => .inl rfl)) (sf_one (st_cmp (ad_isN) (sb_of (se_ix (fun _ => rfl) (fun j => (hr).u65) (sb_var (fun _ => pv 2)) (sb_var (fun _ => pv 5)) (fun _ _ => rfl) (fun _ _ => rfl))) (sb_of (se_non)) (nomark _))) (se_var (fun _ => pv 5)) (by decide))
    (sss_cons (ss_setLc (i := 4) (own := [("place", 5)]) (fun _ => rfl) (fun _ => ndAlone) (fun _ => rfl) (fun _ => rfl) (fun _ => sw_true rfl rfl rfl (by decide +kernel)) (si_b (fun _ => rfl) (sb_var (fun _ => pv 3))) (fun _ => blkOk_by (own := [("place", 5)]) (N := nAlone) (sc := defScope sAlone) (by decide +kernel)) (sg_name (i := 5) (fun _ => ndAlone) (fun _ => rfl) (fun _ => .inl rfl)) (sf_one (st_in (fun _ => rfl) (fun j => (hr).u65) (sb_of (se_ix (fun _ => rfl) (fun j => (hr).u65) (sb_var (fun _ => pv 1)) (sb_var (fun _ => pv 5)) (fun _ _ => rfl) (fun _ _ => rfl))) (sb_of (se_ix (fun _ => rfl) (fun j => (hr).u65) (sb_var (fun _ => pv 0)) (sb_of (se_int)) (fun _ _ => rfl) (fun _ _ => rfl))) rfl)) (se_var (fun _ => pv 5)) (by decide))
    (sss_one (ss_retX (sx_so (so_add (sb_var (fun _ => pv 4)) (sb_of (so_se (so_lc (own := [("place", 5)]) (fun _ => rfl) (fun _ => ndAlone) (si_b (fun _ => rfl) (sb_var (fun _ => pv 3))) (fun _ => blkOk_by (own := [("place", 5)]) (N := nAlone) (sc := defScope sAlone) (by decide +kernel)) (sg_name (i := 5) (fun _ => ndAlone) (fun _ => rfl) (fun _ => .inl rfl)) (sf_one (st_in (fun _ => rfl) (fun j => (hr).u65) (sb_of (se_ix (fun _ => rfl) (fun j => (hr).u65) (sb_var (fun _ => pv 1)) (sb_var (fun _ => pv 5)) (fun _ _ => rfl) (fun _ _ => rfl))) (sb_of (se_ix (fun _ => rfl) (fun j => (hr).u65) (sb_var (fun _ => pv 0)) (sb_of (se_int)) (fun _ _ => rfl) (fun _ _ => rfl))) rfl)) (se_var (fun _ => pv 5)) (by decide)))))))))
end Dl
set_option Elab.async false
set_option linter.all false
set_option maxRecDepth 100000
set_option maxHeartbeats 4000000
namespace Dl
open PySem PySem.Spec PyProof.Rows L2 Evl Gx GxR RZ
abbrev nIsShut : List Str := ["sheet", "word"]
theorem scIsShut : FnScope nIsShut ["sheet", "word"] (defScope sIsShut) := ⟨rfl, rfl, rfl, by decide +kernel, rfl, by decide +kernel, by decide +kernel⟩
theorem ndIsShut : nIsShut.Nodup := scIsShut.nd
theorem okIsShut {P : Program} {w : World} {K : PySem.W.Frag} {mg : Str → Option Value} {base : Heap} (V : EnvL K mg base) : FnOk P w K mg base (L2.CX P w) 4 V.fIsShut V.dIsShut ["sheet", "word"] (spD K V.TS V.ca 2 (dIsShut)) :=
  fn_D (N := nIsShut) (ps := ["sheet", "word"]) (k := 3) (G := gIsShut) V.TS V.ca V.FIsShut scIsShut fun cdv A outer s H vs E hr =>
    sss_one (ss_ret (se_not (fun _ => rfl) (sb_of (se_call (fun _ => okAlone V) (fun j => (hr).mono (by omega)) (fun _ => by rfl) (fun _ => V.bAlone) (fun _ => V.FAlone.kp) (fun _ => V.BAlone) .nil (fun _ _ => .nil) (fun _ => takes_of rfl rfl rfl rfl) (sa_var (fun _ => pv 0) (sa_var (fun _ => pv 1) (sa_val (se_call (fun _ => okAnswers V) (fun j => (hr).mono (by omega)) (fun _ => by rfl) (fun _ => V.bAnswers) (fun _ => V.FAnswers.kp) (fun _ => V.BAnswers) .nil (fun _ _ => .nil) (fun _ => takes_of rfl rfl rfl rfl) (sa_var (fun _ => pv 0) (sa_var (fun _ => pv 1) (sa_nil))) (al_var (al_var al_nil))) (sa_nil)))) (al_var (al_var (al_val al_nil)))))))
end Dl
set_option Elab.async false
set_option linter.all false
set_option maxRecDepth 100000
set_option maxHeartbeats 4000000
namespace Dl
open PySem PySem.Spec PyProof.Rows L2 Evl Gx GxR RZ
abbrev nIsTimes : List Str := ["thing"]
theorem scIsTimes : FnScope nIsTimes ["thing"] (defScope sIsTimes) := ⟨rfl, rfl, rfl, by decide +kernel, rfl, by decide +kernel, by decide +kernel⟩
theorem ndIsTimes : nIsTimes.Nodup := scIsTimes.nd
theorem okIsTimes {P : Program} {w : World} {K : PySem.W.Frag} {mg : Str → Option Value} {base : Heap} (V : EnvL K mg base) : FnOk P w K mg base (L2.CX P w) 2 V.fIsTimes V.dIsTimes ["thing"] (spD K V.TS V.ca 1 (dIsTimes)) :=
  fn_D (N := nIsTimes) (ps := ["thing"]) (k := 1) (G := gIsTimes) V.TS V.ca V.FIsTimes scIsTimes fun cdv A outer s H vs E hr =>
    sss_one (ss_ret (se_and (fun _ => rfl) (se_call (fun _ => okIsWhole V) (fun j => (hr).mono (by omega)) (fun _ => by rfl) (fun _ => V.bIsWhole) (fun _ => V.FIsWhole.kp) (fun _ => V.BIsWhole) .nil (fun _ _ => .nil) (fun _ => takes_of rfl rfl rfl rfl) (sa_var (fun _ => pv 0) (sa_nil)) (al_var al_nil)) (se_one (se_chain (ad_le) (ad_le) (sb_of (se_int)) (sb_var (fun _ => pv 0)) (sb_of (se_glob (v := .int 1000000000000000000000000000000000000000000000000000000000000) (fun _ => by rfl) (fun _ => V.g_MOST_TIMES) ⟨_, rfl⟩ (fun _ _ => .int _)))))))
end Dl
set_option Elab.async false
set_option linter.all false
set_option maxRecDepth 100000
set_option maxHeartbeats 4000000
namespace Dl
open PySem PySem.Spec PyProof.Rows L2 Evl Gx GxR RZ
abbrev nIsShortShut : List Str := ["sheet", "thing", "letters", "letter"]
theorem scIsShortShut : FnScope nIsShortShut ["sheet", "thing"] (defScope sIsShortShut) := ⟨rfl, rfl, rfl, by decide +kernel, rfl, by decide +kernel, by decide +kernel⟩
theorem ndIsShortShut : nIsShortShut.Nodup := scIsShortShut.nd
theorem okIsShortShut {P : Program} {w : World} {K : PySem.W.Frag} {mg : Str → Option Value} {base : Heap} (V : EnvL K mg base) : FnOk P w K mg base (L2.CX P w) 5 V.fIsShortShut V.dIsShortShut ["sheet", "thing"] (spD K V.TS V.ca 2 (dIsShortShut)) :=
  fn_DC (N := nIsShortShut) (ps := ["sheet", "thing"]) (k := 4) (G := gIsShortShut) V.TS V.ca V.CIsShortShut scIsShortShut fun A outer s H vs E hr =>
    sss_cons (ss_if (st_w (sw_or (st_not (st_val (fun _ => rfl) (sb_of (se_isi (fun _ => rfl) (fun _ => by rfl) (fun _ => V.m_isinstance) (sb_var (fun _ => pv 1)) (fun _ => pe_bltn (v := .ty "tuple") (by rfl) V.m_tuple (by decide +kernel) rfl))) (fun _ _ => rfl))) (sw_or1 (st_cmp (ad_gt) (sb_of (sd_callB (ad_len (fun _ => rfl)) (fun _ => by rfl) (fun _ => V.m_len) PySem.boot_len (sbs_cons (sb_var (fun _ => pv 1)) (sbs_nil)))) (sb_of (se_glob (v := .int 60) (fun _ => by rfl) (fun _ => V.g_MOST_IN_A_WORD) ⟨_, rfl⟩ (fun _ _ => .int _))) (nomark _))))) (sss_one (ss_ret (se_bl))) (sss_nil))
    (sss_cons (ss_set (i := 2) (fun _ => ndIsShortShut) (fun _ => rfl) (fun _ => .inr rfl) (se_bin (ad_add (fun _ => rfl)) (sb_of (se_bin (ad_add (fun _ => rfl)) (sb_of (se_ix (fun _ => rfl) (fun j => (hr).u65) (sb_var (fun _ => pv 0)) (sb_of (se_int)) (fun _ _ => rfl) (fun _ _ => rfl))) (sb_of (se_ix (fun _ => rfl) (fun j => (hr).u65) (sb_var (fun _ => pv 0)) (sb_of (se_int)) (fun _ _ => rfl) (fun _ _ => rfl))))) (sb_of (se_ix (fun _ => rfl) (fun j => (hr).u65) (sb_var (fun _ => pv 0)) (sb_of (se_int)) (fun _ _ => rfl) (fun _ _ => rfl)))))
    (sss_one (ss_ret (se_and (fun _ => rfl) (se_all (own := [("letter", 3)]) (fun _ => rfl) (fun _ => ndIsShortShut) (fun _ => hr) (fun _ => by rfl) (fun _ => V.m_all) (fun _ => V.TBIsShortShut) V.TSIsShortShut (fun _ => rfl) (si_b (fun _ => rfl) (sb_var (fun _ => pv 1))) (fun _ => blkOk_by (own := [("letter", 3)]) (N := nIsShortShut) (sc := defScope sIsShortShut) (by decide +kernel)) (by decide +kernel) rfl (sg_name (i := 3) (fun _ => ndIsShortShut) (fun _ => rfl) (fun _ => .inl rfl)) (se_in (fun _ => rfl) (fun j => (j.2.1.2).u65) (sb_var (fun _ => pv 3)) (sb_var (fun _ => pv 2)) rfl) (by decide)) (se_one (se_call (fun _ => okIsShut V) (fun j => (hr).mono (by omega)) (fun _ => by rfl) (fun _ => V.bIsShut) (fun _ => V.FIsShut.kp) (fun _ => V.BIsShut) .nil (fun _ _ => .nil) (fun _ => takes_of rfl rfl rfl rfl) (sa_var (fun _ => pv 0) (sa_val (so_se (sd_callTy (ad_list (fun _ => rfl)) (fun _ => by rfl) (fun _ => V.m_list) (by decide +kernel) (sbs_cons (sb_var (fun _ => pv 1)) (sbs_nil)))) (sa_nil))) (al_var (al_val al_nil))))))))
end Dl
set_option Elab.async false
set_option linter.all false
set_option maxRecDepth 100000
set_option maxHeartbeats 4000000
namespace Dl
open PySem PySem.Spec PyProof.Rows L2 Evl Gx GxR RZ
abbrev nIsForm : List Str := ["sheet", "thing"]
theorem scIsForm : FnScope nIsForm ["sheet", "thing"] (defScope sIsForm) := ⟨rfl, rfl, rfl, by decide +kernel, rfl, by decide +kernel, by decide +kernel⟩
theorem ndIsForm : nIsForm.Nodup := scIsForm.nd
theorem okIsForm {P : Program} {w : World} {K : PySem.W.Frag} {mg : Str → Option Value} {base : Heap} (V : EnvL K mg base) : FnOk P w K mg base (L2.CX P w) 6 V.fIsForm V.dIsForm ["sheet", "thing"] (spD K V.TS V.ca 2 (dIsForm)) :=
  fn_D (N := nIsForm) (ps := ["sheet", "thing"]) (k := 5) (G := gIsForm) V.TS V.ca V.FIsForm scIsForm fun cdv A outer s H vs E hr =>
    sss_cons (ss_if (st_w (sw_or (st_not (st_val (fun _ => rfl) (sb_of (se_isi (fun _ => rfl) (fun _ => by rfl) (fun _ => V.m_isinstance) (sb_var (fun _ => pv 1)) (fun _ => pe_bltn (v := .ty "tuple") (by rfl) V.m_tuple (by decide +kernel) rfl))) (fun _ _ => rfl))) (sw_or1 (st_not (st_chain (ad_le) (ad_le) (sb_of (se_int)) (sb_of (sd_callB (ad_len (fun _ => rfl)) (fun _ => by rfl) (fun _ => V.m_len) PySem.boot_len (sbs_cons (sb_var (fun _ => pv 1)) (sbs_nil)))) (sb_of (se_int))))))) (sss_one (ss_ret (se_bl))) (sss_nil))
    (sss_cons (ss_if (st_cmp (ad_eq (fun _ => rfl) (fun j => (hr).units)) (sb_of (se_ix (fun _ => rfl) (fun j => (hr).u65) (sb_var (fun _ => pv 1)) (sb_of (se_int)) (fun _ _ => rfl) (fun _ _ => rfl))) (sb_of (se_str)) (nomark _)) (sss_one (ss_ret (se_and (fun _ => rfl) (se_cmp (ad_eq (fun _ => rfl) (fun j => (hr).units)) (sb_of (sd_callB (ad_len (fun _ => rfl)) (fun _ => by rfl) (fun _ => V.m_len) PySem.boot_len (sbs_cons (sb_var (fun _ => pv 1)) (sbs_nil)))) (sb_of (se_int)) (nomark _)) (se_one (se_call (fun _ => okIsShortShut V) (fun j => (hr).mono (by omega)) (fun _ => by rfl) (fun _ => V.bIsShortShut) (fun _ => V.FIsShortShut.kp) (fun _ => V.BIsShortShut) .nil (fun _ _ => .nil) (fun _ => takes_of rfl rfl rfl rfl) (sa_var (fun _ => pv 0) (sa_val (se_ix (fun _ => rfl) (fun j => (hr).u65) (sb_var (fun _ => pv 1)) (sb_of (se_int)) (fun _ _ => rfl) (fun _ _ => rfl)) (sa_nil))) (al_var (al_val al_nil))))))) (sss_nil))
    (sss_cons (ss_if (st_cmp (ad_eq (fun _ => rfl) (fun j => (hr).units)) (sb_of (se_ix (fun _ => rfl) (fun j => (hr).u65) (sb_var (fun _ => pv 1)) (sb_of (se_int)) (fun _ _ => rfl) (fun _ _ => rfl))) (sb_of (se_str)) (nomark _)) (sss_one (ss_ret (se_and (fun _ => rfl) (se_cmp (ad_eq (fun _ => rfl) (fun j => (hr).units)) (sb_of (sd_callB (ad_len (fun _ => rfl)) (fun _ => by rfl) (fun _ => V.m_len) PySem.boot_len (sbs_cons (sb_var (fun _ => pv 1)) (sbs_nil)))) (sb_of (se_int)) (nomark _)) (se_and (fun _ => rfl) (se_isi (fun _ => rfl) (fun _ => by rfl) (fun _ => V.m_isinstance) (sb_of (se_ix (fun _ => rfl) (fun j => (hr).u65) (sb_var (fun _ => pv 1)) (sb_of (se_int)) (fun _ _ => rfl) (fun _ _ => rfl))) (fun _ => pe_bltn (v := .ty "tuple") (by rfl) V.m_tuple (by decide +kernel) rfl)) (se_one (se_cmp (ad_le) (sb_of (sd_callB (ad_len (fun _ => rfl)) (fun _ => by rfl) (fun _ => V.m_len) PySem.boot_len (sbs_cons (sb_of (se_ix (fun _ => rfl) (fun j => (hr).u65) (sb_var (fun _ => pv 1)) (sb_of (se_int)) (fun _ _ => rfl) (fun _ _ => rfl))) (sbs_nil)))) (sb_of (se_glob (v := .int 8) (fun _ => by rfl) (fun _ => V.g_MOST_IN_A_ROW) ⟨_, rfl⟩ (fun _ _ => .int _))) (nomark _))))))) (sss_nil))
    (sss_cons (ss_if (st_cmp (ad_eq (fun _ => rfl) (fun j => (hr).units)) (sb_of (se_ix (fun _ => rfl) (fun j => (hr).u65) (sb_var (fun _ => pv 1)) (sb_of (se_int)) (fun _ _ => rfl) (fun _ _ => rfl))) (sb_of (se_str)) (nomark _)) (sss_one (ss_ret (se_and (fun _ => rfl) (se_cmp (ad_eq (fun _ => rfl) (fun j => (hr).units)) (sb_of (sd_callB (ad_len (fun _ => rfl)) (fun _ => by rfl) (fun _ => V.m_len) PySem.boot_len (sbs_cons (sb_var (fun _ => pv 1)) (sbs_nil)))) (sb_of (se_int)) (nomark _)) (se_one (se_call (fun _ => okIsTimes V) (fun j => (hr).mono (by omega)) (fun _ => by rfl) (fun _ => V.bIsTimes) (fun _ => V.FIsTimes.kp) (fun _ => V.BIsTimes) .nil (fun _ _ => .nil) (fun _ => takes_of rfl rfl rfl rfl) (sa_val (se_ix (fun _ => rfl) (fun j => (hr).u65) (sb_var (fun _ => pv 1)) (sb_of (se_int)) (fun _ _ => rfl) (fun _ _ => rfl)) (sa_nil)) (al_val al_nil)))))) (sss_nil))
    (sss_cons (ss_if (st_w (sw_or (st_cmp (ad_ne (fun _ => rfl) (fun j => (hr).units)) (sb_of (se_ix (fun _ => rfl) (fun j => (hr).u65) (sb_var (fun _ => pv 1)) (sb_of (se_int)) (fun _ _ => rfl) (fun _ _ => rfl))) (sb_of (se_str)) (nomark _)) (sw_or (st_cmp (ad_ne (fun _ => rfl) (fun j => (hr).units)) (sb_of (sd_callB (ad_len (fun _ => rfl)) (fun _ => by rfl) (fun _ => V.m_len) PySem.boot_len (sbs_cons (sb_var (fun _ => pv 1)) (sbs_nil)))) (sb_of (se_int)) (nomark _)) (sw_or1 (st_not (st_val (fun _ => rfl) (sb_of (se_call (fun _ => okIsTimes V) (fun j => (hr).mono (by omega)) (fun _ => by rfl) (fun _ => V.bIsTimes) (fun _ => V.FIsTimes.kp) (fun _ => V.BIsTimes) .nil (fun _ _ => .nil) (fun _ => takes_of rfl rfl rfl rfl) (sa_val (se_ix (fun _ => rfl) (fun j => (hr).u65) (sb_var (fun _ => pv 1)) (sb_of (se_int)) (fun _ _ => rfl) (fun _ _ => rfl)) (sa_nil)) (al_val al_nil))) (fun _ _ => rfl))))))) (sss_one (ss_ret (se_bl))) (sss_nil))
    (sss_one (ss_ret (se_and (fun _ => rfl) (se_in (fun _ => rfl) (fun j => (hr).u65) (sb_of (se_ix (fun _ => rfl) (fun j => (hr).u65) (sb_var (fun _ => pv 1)) (sb_of (se_int)) (fun _ _ => rfl) (fun _ _ => rfl))) (sb_of (se_ix (fun _ => rfl) (fun j => (hr).u65) (sb_var (fun _ => pv 0)) (sb_of (se_int)) (fun _ _ => rfl) (fun _ _ => rfl))) rfl) (se_one (se_in (fun _ => rfl) (fun j => (hr).u65) (sb_of (se_ix (fun _ => rfl) (fun j => (hr).u65) (sb_var (fun _ => pv 1)) (sb_of (se_int)) (fun _ _ => rfl) (fun _ _ => rfl))) (sb_of (se_ix (fun _ => rfl) (fun j => (hr).u65) (sb_var (fun _ => pv 0)) (sb_of (se_int)) (fun _ _ => rfl) (fun _ _ => rfl))) rfl)))))))))
end Dl
set_option Elab.async false
set_option linter.all false
set_option maxRecDepth 100000
set_option maxHeartbeats 4000000
namespace Dl
open PySem PySem.Spec PyProof.Rows L2 Evl Gx GxR RZ
abbrev nPartsIn : List Str := ["great"]
theorem scPartsIn : FnScope nPartsIn ["great"] (defScope sPartsIn) := ⟨rfl, rfl, rfl, by decide +kernel, rfl, by decide +kernel, by decide +kernel⟩
theorem ndPartsIn : nPartsIn.Nodup := scPartsIn.nd
theorem okPartsIn {P : Program} {w : World} {K : PySem.W.Frag} {mg : Str → Option Value} {base : Heap} (V : EnvL K mg base) : FnOk P w K mg base (L2.CX P w) 1 V.fPartsIn V.dPartsIn ["great"] (spD K V.TS V.ca 1 (dPartsIn)) :=
  fn_D (N := nPartsIn) (ps := ["great"]) (k := 0) (G := gPartsIn) V.TS V.ca V.FPartsIn scPartsIn fun cdv A outer s H vs E hr =>
    sss_cons (ss_if (st_cmp (ad_eq (fun _ => rfl) (fun j => (hr).units)) (sb_of (se_ix (fun _ => rfl) (fun j => (hr).u65) (sb_var (fun _ => pv 0)) (sb_of (se_int)) (fun _ _ => rfl) (fun _ _ => rfl))) (sb_of (se_str)) (nomark _)) (sss_one (ss_retX (sx_so (so_lst (sas_nil))))) (sss_nil))
    (sss_cons (ss_if (st_cmp (ad_eq (fun _ => rfl) (fun j => (hr).units)) (sb_of (se_ix (fun _ => rfl) (fun j => (hr).u65) (sb_var (fun _ => pv 0)) (sb_of (se_int)) (fun _ _ => rfl) (fun _ _ => rfl))) (sb_of (se_str)) (nomark _)) (sss_one (ss_retX (sx_so (sd_callTy (ad_list (fun _ => rfl)) (fun _ => by rfl) (fun _ => V.m_list) (by decide +kernel) (sbs_cons (sb_of (se_ix (fun _ => rfl) (fun j => (hr).u65) (sb_var (fun _ => pv 0)) (sb_of (se_int)) (fun _ _ => rfl) (fun _ _ => rfl))) (sbs_nil)))))) (sss_nil))
    (sss_one (ss_retX (sx_ite (st_cmp (ad_eq (fun _ => rfl) (fun j => (hr).units)) (sb_of (se_ix (fun _ => rfl) (fun j => (hr).u65) (sb_var (fun _ => pv 0)) (sb_of (se_int)) (fun _ _ => rfl) (fun _ _ => rfl))) (sb_of (se_str)) (nomark _)) (sx_so (so_lst (sas_cons (se_ix (fun _ => rfl) (fun j => (hr).u65) (sb_var (fun _ => pv 0)) (sb_of (se_int)) (fun _ _ => rfl) (fun _ _ => rfl)) (sas_nil)))) (sx_so (so_lst (sas_cons (se_ix (fun _ => rfl) (fun j => (hr).u65) (sb_var (fun _ => pv 0)) (sb_of (se_int)) (fun _ _ => rfl) (fun _ _ => rfl)) (sas_nil))))))))
end Dl
set_option Elab.async false
set_option linter.all false
set_option maxRecDepth 100000
set_option maxHeartbeats 4000000
namespace Dl
open PySem PySem.Spec PyProof.Rows L2 Evl Gx GxR RZ
abbrev nIsGreat : List Str := ["sheet", "thing", "seen", "waiting", "part", "level", "inner"]
theorem scIsGreat : FnScope nIsGreat ["sheet", "thing"] (defScope sIsGreat) := ⟨rfl, rfl, rfl, by decide +kernel, rfl, by decide +kernel, by decide +kernel⟩
theorem ndIsGreat : nIsGreat.Nodup := scIsGreat.nd
theorem okIsGreat {P : Program} {w : World} {K : PySem.W.Frag} {mg : Str → Option Value} {base : Heap} (V : EnvL K mg base) : FnOk P w K mg base (L2.CX P w) 7 V.fIsGreat V.dIsGreat ["sheet", "thing"] (spD K V.TS V.ca 2 (dIsGreat)) :=
  fn_D (N := nIsGreat) (ps := ["sheet", "thing"]) (k := 6) (G := gIsGreat) V.TS V.ca V.FIsGreat scIsGreat fun cdv A outer s H vs E hr =>
    sss_cons (ss_set (i := 2) (fun _ => ndIsGreat) (fun _ => rfl) (fun _ => .inl rfl) (se_int))
    (sss_cons (ss_setX (i := 3) (fun _ => ndIsGreat) (fun _ => rfl) (fun _ => .inl rfl) (sx_so (so_lst (sas_cons (se_tup (sas_cons (se_var (fun _ => pv 1)) (sas_cons (se_int) (sas_nil)))) (sas_nil)))))
    (sss_cons (ss_while (fun _ => passes_of rfl) (st_val (fun _ => rfl) (sb_var (fun _ => pv 3)) (fun _ _ => rfl)) (sss_cons (ss_asg (sg_tup (fun _ => rfl) (fun _ => rfl) (sgs_cons (sg_name (i := 4) (fun _ => ndIsGreat) (fun _ => rfl) (fun _ => .inl rfl)) (sgs_cons (sg_name (i := 5) (fun _ => ndIsGreat) (fun _ => rfl) (fun _ => .inr rfl)) (sgs_nil))) (bl_cons (bl_cons bl_nil))) (se_mut0 (.inl rfl) (fun _ => rfl) PySem.F.plainAttrs_list PySem.F.slot_list_pop PySem.F.type_list_pop am_pop (fun _ => pv 3)))
    (sss_cons (ss_aug (i := 2) (fun _ => ndIsGreat) (fun _ => rfl) (fun _ => .inl rfl) (se_int) aug_add)
    (sss_cons (ss_if (st_w (sw_or (st_cmp (ad_gt) (sb_var (fun _ => pv 2)) (sb_of (se_glob (v := .int 40) (fun _ => by rfl) (fun _ => V.g_MOST_IN_ALL) ⟨_, rfl⟩ (fun _ _ => .int _))) (nomark _)) (sw_or (st_cmp (ad_gt) (sb_var (fun _ => pv 5)) (sb_of (se_glob (v := .int 10) (fun _ => by rfl) (fun _ => V.g_MOST_WITHIN) ⟨_, rfl⟩ (fun _ _ => .int _))) (nomark _)) (sw_or1 (st_not (st_val (fun _ => rfl) (sb_of (se_call (fun _ => okIsForm V) (fun j => (hr).mono (by omega)) (fun _ => by rfl) (fun _ => V.bIsForm) (fun _ => V.FIsForm.kp) (fun _ => V.BIsForm) .nil (fun _ _ => .nil) (fun _ => takes_of rfl rfl rfl rfl) (sa_var (fun _ => pv 0) (sa_var (fun _ => pv 4) (sa_nil))) (al_var (al_var al_nil)))) (fun _ _ => rfl))))))) (sss_one (ss_ret (se_bl))) (sss_nil))
    (sss_one (ss_expr (se_mut (.inl rfl) (fun _ => rfl) PySem.F.plainAttrs_list PySem.F.slot_list_extend PySem.F.type_list_extend am_extend (fun _ => pv 3) (sas_cons (so_se (so_lc (own := [("inner", 6)]) (fun _ => rfl) (fun _ => ndIsGreat) (si_b (fun _ => rfl) (sb_of (se_call (fun _ => okPartsIn V) (fun j => (hr).mono (by omega)) (fun _ => by rfl) (fun _ => V.bPartsIn) (fun _ => V.FPartsIn.kp) (fun _ => V.BPartsIn) .nil (fun _ _ => .nil) (fun _ => takes_of rfl rfl rfl rfl) (sa_var (fun _ => pv 4) (sa_nil)) (al_var al_nil)))) (fun _ => blkOk_by (own := [("inner", 6)]) (N := nIsGreat) (sc := defScope sIsGreat) (by decide +kernel)) (sg_name (i := 6) (fun _ => ndIsGreat) (fun _ => rfl) (fun _ => .inl rfl)) (sf_nil) (se_tup (sas_cons (se_var (fun _ => pv 6)) (sas_cons (se_bin (ad_add (fun _ => rfl)) (sb_var (fun _ => pv 5)) (sb_of (se_int))) (sas_nil)))) (by decide))) (sas_nil)))))))))
    (sss_one (ss_ret (se_bl)))))
end Dl
set_option Elab.async false
set_option linter.all false
set_option maxRecDepth 100000
set_option maxHeartbeats 4000000
namespace Dl
open PySem PySem.Spec PyProof.Rows L2 Evl Gx GxR RZ
abbrev nLBlend : List Str := ["cell", "at", "one", "two", "three"]
theorem scLBlend : FnScope nLBlend ["cell", "at"] (defScope sLBlend) := ⟨rfl, rfl, rfl, by decide +kernel, rfl, by decide +kernel, by decide +kernel⟩
theorem ndLBlend : nLBlend.Nodup := scLBlend.nd
theorem okLBlend {P : Program} {w : World} {K : PySem.W.Frag} {mg : Str → Option Value} {base : Heap} (V : EnvL K mg base) : FnOk P w K mg base (L2.CX P w) 1 V.fLBlend V.dLBlend ["cell", "at"] (spD K V.TS V.ca 2 (dLBlend)) :=
  fn_D (N := nLBlend) (ps := ["cell", "at"]) (k := 0) (G := gLBlend) V.TS V.ca V.FLBlend scLBlend fun cdv A outer s H vs E hr =>
    sss_cons (ss_if (st_cmp (ad_ge) (sb_var (fun _ => pv 0)) (sb_of (se_bin (ad_pow) (sb_of (se_int)) (sb_of (se_int)))) (nomark _)) (sss_one (ss_ret (se_var (fun _ => pv 0)))) (sss_nil))
    (sss_cons (ss_set (i := 2) (fun _ => ndLBlend) (fun _ => rfl) (fun _ => .inl rfl) (se_bin (ad_mod) (sb_of (se_bin (ad_add (fun _ => rfl)) (sb_of (se_bin (ad_add (fun _ => rfl)) (sb_of (se_bin (ad_mul (fun _ => rfl)) (sb_of (se_bin (ad_mod) (sb_var (fun _ => pv 0)) (sb_of (se_int)))) (sb_of (se_int)))) (sb_of (se_bin (ad_mul (fun _ => rfl)) (sb_var (fun _ => pv 1)) (sb_of (se_int)))))) (sb_of (se_int)))) (sb_of (se_int))))
    (sss_cons (ss_set (i := 3) (fun _ => ndLBlend) (fun _ => rfl) (fun _ => .inl rfl) (se_bin (ad_mod) (sb_of (se_bin (ad_add (fun _ => rfl)) (sb_of (se_bin (ad_add (fun _ => rfl)) (sb_of (se_bin (ad_mul (fun _ => rfl)) (sb_var (fun _ => pv 2)) (sb_var (fun _ => pv 2)))) (sb_of (se_bin (ad_mul (fun _ => rfl)) (sb_var (fun _ => pv 1)) (sb_of (se_int)))))) (sb_of (se_bin (ad_mod) (sb_var (fun _ => pv 0)) (sb_of (se_int)))))) (sb_of (se_int))))
    (sss_cons (ss_set (i := 4) (fun _ => ndLBlend) (fun _ => rfl) (fun _ => .inl rfl) (se_bin (ad_mod) (sb_of (se_bin (ad_add (fun _ => rfl)) (sb_of (se_bin (ad_add (fun _ => rfl)) (sb_of (se_bin (ad_mul (fun _ => rfl)) (sb_var (fun _ => pv 3)) (sb_var (fun _ => pv 3)))) (sb_of (se_bin (ad_mul (fun _ => rfl)) (sb_var (fun _ => pv 2)) (sb_of (se_int)))))) (sb_of (se_int)))) (sb_of (se_int))))
    (sss_one (ss_ret (se_bin (ad_add (fun _ => rfl)) (sb_of (se_bin (ad_mul (fun _ => rfl)) (sb_of (se_bin (ad_add (fun _ => rfl)) (sb_of (se_bin (ad_mul (fun _ => rfl)) (sb_var (fun _ => pv 2)) (sb_of (se_int)))) (sb_var (fun _ => pv 3)))) (sb_of (se_int)))) (sb_var (fun _ => pv 4))))))))
end Dl
set_option Elab.async false
set_option linter.all false
set_option maxRecDepth 100000
set_option maxHeartbeats 4000000
namespace Dl
open PySem PySem.Spec PyProof.Rows L2 Evl Gx GxR RZ
abbrev nLPick : List Str := ["pot", "many", "at", "cell", "found"]
theorem scLPick : FnScope nLPick ["pot", "many"] (defScope sLPick) := ⟨rfl, rfl, rfl, by decide +kernel, rfl, by decide +kernel, by decide +kernel⟩
theorem ndLPick : nLPick.Nodup := scLPick.nd
theorem okLPick {P : Program} {w : World} {K : PySem.W.Frag} {mg : Str → Option Value} {base : Heap} (V : EnvL K mg base) : FnOk P w K mg base (L2.CX P w) 2 V.fLPick V.dLPick ["pot", "many"] (spD K V.TS V.ca 2 (dLPick)) :=
  fn_D (N := nLPick) (ps := ["pot", "many"]) (k := 1) (G := gLPick) V.TS V.ca V.FLPick scLPick fun cdv A outer s H vs E hr =>
    sss_cons (ss_if (st_cmp (ad_lt) (sb_of (se_ix (fun _ => rfl) (fun j => (hr).u65) (sb_var (fun _ => pv 0)) (sb_of (se_int)) (fun _ _ => rfl) (fun _ _ => rfl))) (sb_var (fun _ => pv 1)) (nomark _)) (sss_cons (ss_set (i := 2) (fun _ => ndLPick) (fun _ => rfl) (fun _ => .inl rfl) (se_ix (fun _ => rfl) (fun j => (hr).u65) (sb_var (fun _ => pv 0)) (sb_of (se_int)) (fun _ _ => rfl) (fun _ _ => rfl)))
    (sss_cons (ss_set (i := 3) (fun _ => ndLPick) (fun _ => rfl) (fun _ => .inl rfl) (se_bin (ad_mul (fun _ => rfl)) (sb_of (se_int)) (sb_var (fun _ => pv 2))))
    (sss_cons (ss_if (st_cmp (ad_lt) (sb_var (fun _ => pv 2)) (sb_of (sd_callB (ad_len (fun _ => rfl)) (fun _ => by rfl) (fun _ => V.m_len) PySem.boot_len (sbs_cons (sb_of (se_ix (fun _ => rfl) (fun j => (hr).u65) (sb_var (fun _ => pv 0)) (sb_of (se_int)) (fun _ _ => rfl) (fun _ _ => rfl))) (sbs_nil)))) (nomark _)) (sss_one (ss_set (i := 3) (fun _ => ndLPick) (fun _ => rfl) (fun _ => .inl rfl) (se_ix (fun _ => rfl) (fun j => (hr).u65) (sb_of (se_ix (fun _ => rfl) (fun j => (hr).u65) (sb_var (fun _ => pv 0)) (sb_of (se_int)) (fun _ _ => rfl) (fun _ _ => rfl))) (sb_var (fun _ => pv 2)) (fun _ _ => rfl) (fun _ _ => rfl)))) (sss_one (ss_if (st_cmp (ad_ne (fun _ => rfl) (fun j => (hr).units)) (sb_of (se_ix (fun _ => rfl) (fun j => (hr).u65) (sb_var (fun _ => pv 0)) (sb_of (se_int)) (fun _ _ => rfl) (fun _ _ => rfl))) (sb_of (so_se (so_lst (sas_nil)))) (nomark _)) (sss_one (ss_set (i := 3) (fun _ => ndLPick) (fun _ => rfl) (fun _ => .inl rfl) (se_bin (ad_mod) (sb_of (se_ix (fun _ => rfl) (fun j => (hr).u65) (sb_of (se_ix (fun _ => rfl) (fun j => (hr).u65) (sb_var (fun _ => pv 0)) (sb_of (se_int)) (fun _ _ => rfl) (fun _ _ => rfl))) (sb_of (se_bin (ad_mod) (sb_of (se_bin (ad_add (fun _ => rfl)) (sb_of (se_bin (ad_mul (fun _ => rfl)) (sb_var (fun _ => pv 2)) (sb_of (se_int)))) (sb_of (se_int)))) (sb_of (sd_callB (ad_len (fun _ => rfl)) (fun _ => by rfl) (fun _ => V.m_len) PySem.boot_len (sbs_cons (sb_of (se_ix (fun _ => rfl) (fun j => (hr).u65) (sb_var (fun _ => pv 0)) (sb_of (se_int)) (fun _ _ => rfl) (fun _ _ => rfl))) (sbs_nil)))))) (fun _ _ => rfl) (fun _ _ => rfl))) (sb_of (se_bin (ad_add (fun _ => rfl)) (sb_of (se_bin (ad_pow) (sb_of (se_int)) (sb_of (se_int)))) (sb_of (se_bin (ad_mul (fun _ => rfl)) (sb_of (se_int)) (sb_var (fun _ => pv 2))))))))) (sss_nil))))
    (sss_cons (ss_store (fun _ => pv 0) (sb_of (se_int)) (se_bin (ad_add (fun _ => rfl)) (sb_var (fun _ => pv 2)) (sb_of (se_int))))
    (sss_one (ss_store (fun _ => pv 0) (sb_of (se_int)) (se_call (fun _ => okLBlend V) (fun j => (hr).mono (by omega)) (fun _ => by rfl) (fun _ => V.bLBlend) (fun _ => V.FLBlend.kp) (fun _ => V.BLBlend) .nil (fun _ _ => .nil) (fun _ => takes_of rfl rfl rfl rfl) (sa_var (fun _ => pv 3) (sa_var (fun _ => pv 2) (sa_nil))) (al_var (al_var al_nil))))))))) (sss_nil))
    (sss_cons (ss_set (i := 4) (fun _ => ndLPick) (fun _ => rfl) (fun _ => .inl rfl) (se_bin (ad_mod) (sb_of (se_ix (fun _ => rfl) (fun j => (hr).u65) (sb_var (fun _ => pv 0)) (sb_of (se_int)) (fun _ _ => rfl) (fun _ _ => rfl))) (sb_var (fun _ => pv 1))))
    (sss_cons (ss_store (fun _ => pv 0) (sb_of (se_int)) (se_bin (ad_div) (sb_of (se_ix (fun _ => rfl) (fun j => (hr).u65) (sb_var (fun _ => pv 0)) (sb_of (se_int)) (fun _ _ => rfl) (fun _ _ => rfl))) (sb_var (fun _ => pv 1))))
    (sss_one (ss_ret (se_var (fun _ => pv 4))))))
end Dl
set_option Elab.async false
set_option linter.all false
set_option maxRecDepth 100000
set_option maxHeartbeats 4000000
namespace Dl
open PySem PySem.Spec PyProof.Rows L2 Evl Gx GxR RZ
abbrev nLLetters : List Str := ["pot", "many", "small", "k", "rest", "spot", "turn", "size", "found", "part", "at"]
theorem scLLetters : FnScope nLLetters ["pot", "many"] (defScope sLLetters) := ⟨rfl, rfl, rfl, by decide +kernel, rfl, by decide +kernel, by decide +kernel⟩
theorem ndLLetters : nLLetters.Nodup := scLLetters.nd
theorem okLLetters {P : Program} {w : World} {K : PySem.W.Frag} {mg : Str → Option Value} {base : Heap} (V : EnvL K mg base) : FnOk P w K mg base (L2.CX P w) 3 V.fLLetters V.dLLetters ["pot", "many"] (spD K V.TS V.ca 2 (dLLetters)) :=
  fn_D (N := nLLetters) (ps := ["pot", "many"]) (k := 2) (G := gLLetters) V.TS V.ca V.FLLetters scLLetters fun cdv A outer s H vs E hr =>
    sss_cons (ss_set (i := 2) (fun _ => ndLLetters) (fun _ => rfl) (fun _ => .inr rfl) (se_str))
    (sss_cons (ss_set (i := 4) (fun _ => ndLLetters) (fun _ => rfl) (fun _ => .inl rfl) (se_join (fun _ => rfl) (sb_of (se_str)) (sb_of (so_se (so_lc (own := [("k", 3)]) (fun _ => rfl) (fun _ => ndLLetters) (si_range1 (fun _ => by rfl) (fun _ => V.m_range) (sas_cons (se_int) (sas_nil))) (fun _ => blkOk_by (own := [("k", 3)]) (N := nLLetters) (sc := defScope sLLetters) (by decide +kernel)) (sg_name (i := 3) (fun _ => ndLLetters) (fun _ => rfl) (fun _ => .inl rfl)) (sf_nil) (se_ix (fun _ => rfl) (fun j => (hr).u65) (sb_var (fun _ => pv 2)) (sb_of (se_call (fun _ => okLPick V) (fun j => (hr).mono (by omega)) (fun _ => by rfl) (fun _ => V.bLPick) (fun _ => V.FLPick.kp) (fun _ => V.BLPick) .nil (fun _ _ => .nil) (fun _ => takes0) (sa_io (fun _ => pv 0) (sa_val (se_int) (sa_nil))) (al_io (al_val al_nil)))) (fun _ _ => rfl) (fun _ _ => rfl)) (by decide)))) join_str))
    (sss_cons (ss_set (i := 5) (fun _ => ndLLetters) (fun _ => rfl) (fun _ => .inl rfl) (se_call (fun _ => okLPick V) (fun j => (hr).mono (by omega)) (fun _ => by rfl) (fun _ => V.bLPick) (fun _ => V.FLPick.kp) (fun _ => V.BLPick) .nil (fun _ _ => .nil) (fun _ => takes_of rfl rfl rfl rfl) (sa_io (fun _ => pv 0) (sa_val (se_int) (sa_nil))) (al_io (al_val al_nil))))
    (sss_cons (ss_set (i := 6) (fun _ => ndLLetters) (fun _ => rfl) (fun _ => .inl rfl) (se_call (fun _ => okLPick V) (fun j => (hr).mono (by omega)) (fun _ => by rfl) (fun _ => V.bLPick) (fun _ => V.FLPick.kp) (fun _ => V.BLPick) .nil (fun _ _ => .nil) (fun _ => takes_of rfl rfl rfl rfl) (sa_io (fun _ => pv 0) (sa_val (se_int) (sa_nil))) (al_io (al_val al_nil))))
    (sss_cons (ss_set (i := 7) (fun _ => ndLLetters) (fun _ => rfl) (fun _ => .inl rfl) (se_call (fun _ => okLPick V) (fun j => (hr).mono (by omega)) (fun _ => by rfl) (fun _ => V.bLPick) (fun _ => V.FLPick.kp) (fun _ => V.BLPick) .nil (fun _ _ => .nil) (fun _ => takes_of rfl rfl rfl rfl) (sa_io (fun _ => pv 0) (sa_val (se_int) (sa_nil))) (al_io (al_val al_nil))))
    (sss_cons (ss_setX (i := 8) (fun _ => ndLLetters) (fun _ => rfl) (fun _ => .inl rfl) (sx_so (so_lst (sas_nil))))
    (sss_cons (ss_for (fun _ => passes_of rfl) (fun _ => rfl) (si_range1 (fun _ => by rfl) (fun _ => V.m_range) (sas_cons (se_var (fun _ => pv 1)) (sas_nil))) (sg_name (i := 3) (fun _ => ndLLetters) (fun _ => rfl) (fun _ => .inl rfl)) (sss_cons (ss_set (i := 9) (fun _ => ndLLetters) (fun _ => rfl) (fun _ => .inl rfl) (se_sl (fun _ => rfl) (sb_var (fun _ => pv 4)) (sp_none) (sp_some (se_bin (ad_mod) (sb_of (se_bin (ad_add (fun _ => rfl)) (sb_var (fun _ => pv 7)) (sb_of (se_bin (ad_mul (fun _ => rfl)) (sb_var (fun _ => pv 3)) (sb_of (se_bin (ad_mod) (sb_var (fun _ => pv 5)) (sb_of (se_int)))))))) (sb_of (se_int))))))
    (sss_cons (ss_set (i := 10) (fun _ => ndLLetters) (fun _ => rfl) (fun _ => .inl rfl) (se_ix (fun _ => rfl) (fun j => (hr).u65) (sb_of (so_se (so_lst (sas_cons (se_int) (sas_cons (sd_callB (ad_len (fun _ => rfl)) (fun _ => by rfl) (fun _ => V.m_len) PySem.boot_len (sbs_cons (sb_var (fun _ => pv 9)) (sbs_nil))) (sas_cons (se_bin (ad_div) (sb_of (sd_callB (ad_len (fun _ => rfl)) (fun _ => by rfl) (fun _ => V.m_len) PySem.boot_len (sbs_cons (sb_var (fun _ => pv 9)) (sbs_nil)))) (sb_of (se_int))) (sas_nil))))))) (sb_var (fun _ => pv 5)) (fun _ _ => rfl) (fun _ _ => rfl)))
    (sss_one (ss_expr (se_mut (.inl rfl) (fun _ => rfl) PySem.F.plainAttrs_list PySem.F.slot_list_append PySem.F.type_list_append am_append (fun _ => pv 8) (sas_cons (se_bin (ad_add (fun _ => rfl)) (sb_of (se_bin (ad_add (fun _ => rfl)) (sb_of (se_sl (fun _ => rfl) (sb_var (fun _ => pv 9)) (sp_none) (sp_some (se_var (fun _ => pv 10))))) (sb_of (se_ix (fun _ => rfl) (fun j => (hr).u65) (sb_var (fun _ => pv 2)) (sb_of (se_bin (ad_mod) (sb_of (se_bin (ad_add (fun _ => rfl)) (sb_var (fun _ => pv 6)) (sb_of (se_bin (ad_mul (fun _ => rfl)) (sb_of (se_int)) (sb_var (fun _ => pv 3)))))) (sb_of (se_int)))) (fun _ _ => rfl) (fun _ _ => rfl))))) (sb_of (se_sl (fun _ => rfl) (sb_var (fun _ => pv 9)) (sp_some (se_var (fun _ => pv 10))) (sp_none)))) (sas_nil))))))))
    (sss_one (ss_retX (sx_move (fun _ => pv 8))))))))))
end Dl
set_option Elab.async false
set_option linter.all false
set_option maxRecDepth 100000
set_option maxHeartbeats 4000000
namespace Dl
open PySem PySem.Spec PyProof.Rows L2 Evl Gx GxR RZ
abbrev nLSheet : List Str := ["pot", "most", "letters", "turn", "opens", "plains", "closes"]
theorem scLSheet : FnScope nLSheet ["pot", "most"] (defScope sLSheet) := ⟨rfl, rfl, rfl, by decide +kernel, rfl, by decide +kernel, by decide +kernel⟩
theorem ndLSheet : nLSheet.Nodup := scLSheet.nd
theorem okLSheet {P : Program} {w : World} {K : PySem.W.Frag} {mg : Str → Option Value} {base : Heap} (V : EnvL K mg base) : FnOk P w K mg base (L2.CX P w) 4 V.fLSheet V.dLSheet ["pot", "most"] (spD K V.TS V.ca 2 (dLSheet)) :=
  fn_D (N := nLSheet) (ps := ["pot", "most"]) (k := 3) (G := gLSheet) V.TS V.ca V.FLSheet scLSheet fun cdv A outer s H vs E hr =>
    sss_cons (ss_set (i := 2) (fun _ => ndLSheet) (fun _ => rfl) (fun _ => .inl rfl) (se_call (fun _ => okLLetters V) (fun j => (hr).mono (by omega)) (fun _ => by rfl) (fun _ => V.bLLetters) (fun _ => V.FLLetters.kp) (fun _ => V.BLLetters) .nil (fun _ _ => .nil) (fun _ => takes_of rfl rfl rfl rfl) (sa_io (fun _ => pv 0) (sa_val (se_int) (sa_nil))) (al_io (al_val al_nil))))
    (sss_cons (ss_set (i := 3) (fun _ => ndLSheet) (fun _ => rfl) (fun _ => .inl rfl) (se_call (fun _ => okLPick V) (fun j => (hr).mono (by omega)) (fun _ => by rfl) (fun _ => V.bLPick) (fun _ => V.FLPick.kp) (fun _ => V.BLPick) .nil (fun _ _ => .nil) (fun _ => takes_of rfl rfl rfl rfl) (sa_io (fun _ => pv 0) (sa_val (se_int) (sa_nil))) (al_io (al_val al_nil))))
    (sss_cons (ss_set (i := 2) (fun _ => ndLSheet) (fun _ => rfl) (fun _ => .inl rfl) (se_bin (ad_add (fun _ => rfl)) (sb_of (se_sl (fun _ => rfl) (sb_var (fun _ => pv 2)) (sp_some (se_var (fun _ => pv 3))) (sp_none))) (sb_of (se_sl (fun _ => rfl) (sb_var (fun _ => pv 2)) (sp_none) (sp_some (se_var (fun _ => pv 3)))))))
    (sss_cons (ss_set (i := 4) (fun _ => ndLSheet) (fun _ => rfl) (fun _ => .inl rfl) (se_sl (fun _ => rfl) (sb_var (fun _ => pv 2)) (sp_none) (sp_some (sd_callB (ad_min (fun _ => rfl)) (fun _ => by rfl) (fun _ => V.m_min) (by decide +kernel) (sbs_cons (sb_var (fun _ => pv 1)) (sbs_cons (sb_of (se_ix (fun _ => rfl) (fun j => (hr).u65) (sb_of (so_se (so_lst (sas_cons (se_int) (sas_cons (se_int) (sas_cons (se_int) (sas_cons (se_int) (sas_cons (se_int) (sas_nil))))))))) (sb_of (se_call (fun _ => okLPick V) (fun j => (hr).mono (by omega)) (fun _ => by rfl) (fun _ => V.bLPick) (fun _ => V.FLPick.kp) (fun _ => V.BLPick) .nil (fun _ _ => .nil) (fun _ => takes_of rfl rfl rfl rfl) (sa_io (fun _ => pv 0) (sa_val (se_int) (sa_nil))) (al_io (al_val al_nil)))) (fun _ _ => rfl) (fun _ _ => rfl))) (sbs_nil)))))))
    (sss_cons (ss_set (i := 5) (fun _ => ndLSheet) (fun _ => rfl) (fun _ => .inl rfl) (se_sl (fun _ => rfl) (sb_var (fun _ => pv 2)) (sp_some (se_int)) (sp_some (se_bin (ad_add (fun _ => rfl)) (sb_of (se_int)) (sb_of (sd_callB (ad_min (fun _ => rfl)) (fun _ => by rfl) (fun _ => V.m_min) (by decide +kernel) (sbs_cons (sb_var (fun _ => pv 1)) (sbs_cons (sb_of (se_ix (fun _ => rfl) (fun j => (hr).u65) (sb_of (so_se (so_lst (sas_cons (se_int) (sas_cons (se_int) (sas_cons (se_int) (sas_cons (se_int) (sas_cons (se_int) (sas_nil))))))))) (sb_of (se_call (fun _ => okLPick V) (fun j => (hr).mono (by omega)) (fun _ => by rfl) (fun _ => V.bLPick) (fun _ => V.FLPick.kp) (fun _ => V.BLPick) .nil (fun _ _ => .nil) (fun _ => takes_of rfl rfl rfl rfl) (sa_io (fun _ => pv 0) (sa_val (se_int) (sa_nil))) (al_io (al_val al_nil)))) (fun _ _ => rfl) (fun _ _ => rfl))) (sbs_nil)))))))))
    (sss_cons (ss_set (i := 6) (fun _ => ndLSheet) (fun _ => rfl) (fun _ => .inl rfl) (se_sl (fun _ => rfl) (sb_var (fun _ => pv 2)) (sp_some (se_int)) (sp_some (se_bin (ad_add (fun _ => rfl)) (sb_of (se_int)) (sb_of (sd_callB (ad_min (fun _ => rfl)) (fun _ => by rfl) (fun _ => V.m_min) (by decide +kernel) (sbs_cons (sb_var (fun _ => pv 1)) (sbs_cons (sb_of (se_ix (fun _ => rfl) (fun j => (hr).u65) (sb_of (so_se (so_lst (sas_cons (se_int) (sas_cons (se_int) (sas_cons (se_int) (sas_cons (se_int) (sas_cons (se_int) (sas_nil))))))))) (sb_of (se_call (fun _ => okLPick V) (fun j => (hr).mono (by omega)) (fun _ => by rfl) (fun _ => V.bLPick) (fun _ => V.FLPick.kp) (fun _ => V.BLPick) .nil (fun _ _ => .nil) (fun _ => takes_of rfl rfl rfl rfl) (sa_io (fun _ => pv 0) (sa_val (se_int) (sa_nil))) (al_io (al_val al_nil)))) (fun _ _ => rfl) (fun _ _ => rfl))) (sbs_nil)))))))))
    (sss_one (ss_ret (se_tup (sas_cons (sd_callTy (ad_tuple (fun _ => rfl)) (fun _ => by rfl) (fun _ => V.m_tuple) (by decide +kernel) (sbs_cons (sb_var (fun _ => pv 4)) (sbs_nil))) (sas_cons (sd_callTy (ad_tuple (fun _ => rfl)) (fun _ => by rfl) (fun _ => V.m_tuple) (by decide +kernel) (sbs_cons (sb_var (fun _ => pv 5)) (sbs_nil))) (sas_cons (sd_callTy (ad_tuple (fun _ => rfl)) (fun _ => by rfl) (fun _ => V.m_tuple) (by decide +kernel) (sbs_cons (sb_var (fun _ => pv 6)) (sbs_nil))) (sas_nil))))))))))))
end Dl
set_option Elab.async false
set_option linter.all false
set_option maxRecDepth 100000
set_option maxHeartbeats 4000000
namespace Dl
open PySem PySem.Spec PyProof.Rows L2 Evl Gx GxR RZ
abbrev nLOrder : List Str := ["sheet"]
theorem scLOrder : FnScope nLOrder ["sheet"] (defScope sLOrder) := ⟨rfl, rfl, rfl, by decide +kernel, rfl, by decide +kernel, by decide +kernel⟩
theorem ndLOrder : nLOrder.Nodup := scLOrder.nd
theorem okLOrder {P : Program} {w : World} {K : PySem.W.Frag} {mg : Str → Option Value} {base : Heap} (V : EnvL K mg base) : FnOk P w K mg base (L2.CX P w) 1 V.fLOrder V.dLOrder ["sheet"] (spD K V.TS V.ca 1 (dLOrder)) :=
  fn_D (N := nLOrder) (ps := ["sheet"]) (k := 0) (G := gLOrder) V.TS V.ca V.FLOrder scLOrder fun cdv A outer s H vs E hr =>
    sss_one (ss_retX (sx_so (so_add (sb_of (se_bin (ad_add (fun _ => rfl)) (sb_of (so_se (sd_callTy (ad_list (fun _ => rfl)) (fun _ => by rfl) (fun _ => V.m_list) (by decide +kernel) (sbs_cons (sb_of (se_ix (fun _ => rfl) (fun j => (hr).u65) (sb_var (fun _ => pv 0)) (sb_of (se_int)) (fun _ _ => rfl) (fun _ _ => rfl))) (sbs_nil))))) (sb_of (so_se (sd_callTy (ad_list (fun _ => rfl)) (fun _ => by rfl) (fun _ => V.m_list) (by decide +kernel) (sbs_cons (sb_of (se_ix (fun _ => rfl) (fun j => (hr).u65) (sb_var (fun _ => pv 0)) (sb_of (se_int)) (fun _ _ => rfl) (fun _ _ => rfl))) (sbs_nil))))))) (sb_of (so_se (sd_callTy (ad_list (fun _ => rfl)) (fun _ => by rfl) (fun _ => V.m_list) (by decide +kernel) (sbs_cons (sb_of (se_ix (fun _ => rfl) (fun j => (hr).u65) (sb_var (fun _ => pv 0)) (sb_of (se_int)) (fun _ _ => rfl) (fun _ _ => rfl))) (sbs_nil))))))))
end Dl
set_option Elab.async false
set_option linter.all false
set_option maxRecDepth 100000
set_option maxHeartbeats 4000000
namespace Dl
open PySem PySem.Spec PyProof.Rows L2 Evl Gx GxR RZ
abbrev nLShut : List Str := ["pot", "sheet", "most", "word", "waiting", "turn", "way"]
theorem scLShut : FnScope nLShut ["pot", "sheet", "most"] (defScope sLShut) := ⟨rfl, rfl, rfl, by decide +kernel, rfl, by decide +kernel, by decide +kernel⟩
theorem ndLShut : nLShut.Nodup := scLShut.nd
theorem okLShut {P : Program} {w : World} {K : PySem.W.Frag} {mg : Str → Option Value} {base : Heap} (V : EnvL K mg base) : FnOk P w K mg base (L2.CX P w) 3 V.fLShut V.dLShut ["pot", "sheet", "most"] (spD K V.TS V.ca 3 (dLShut)) :=
  fn_D (N := nLShut) (ps := ["pot", "sheet", "most"]) (k := 2) (G := gLShut) V.TS V.ca V.FLShut scLShut fun cdv A outer s H vs E hr =>
    sss_cons (ss_setX (i := 3) (fun _ => ndLShut) (fun _ => rfl) (fun _ => .inl rfl) (sx_so (so_lst (sas_nil))))
    (sss_cons (ss_set (i := 4) (fun _ => ndLShut) (fun _ => rfl) (fun _ => .inl rfl) (se_int))
    (sss_cons (ss_for (fun _ => passes_of rfl) (fun _ => rfl) (si_range1 (fun _ => by rfl) (fun _ => V.m_range) (sas_cons (se_call (fun _ => okLPick V) (fun j => (hr).mono (by omega)) (fun _ => by rfl) (fun _ => V.bLPick) (fun _ => V.FLPick.kp) (fun _ => V.BLPick) .nil (fun _ _ => .nil) (fun _ => takes_of rfl rfl rfl rfl) (sa_io (fun _ => pv 0) (sa_val (se_bin (ad_add (fun _ => rfl)) (sb_var (fun _ => pv 2)) (sb_of (se_int))) (sa_nil))) (al_io (al_val al_nil))) (sas_nil))) (sg_name (i := 5) (fun _ => ndLShut) (fun _ => rfl) (fun _ => .inl rfl)) (sss_cons (ss_set (i := 6) (fun _ => ndLShut) (fun _ => rfl) (fun _ => .inl rfl) (se_call (fun _ => okLPick V) (fun j => (hr).mono (by omega)) (fun _ => by rfl) (fun _ => V.bLPick) (fun _ => V.FLPick.kp) (fun _ => V.BLPick) .nil (fun _ _ => .nil) (fun _ => takes_of rfl rfl rfl rfl) (sa_io (fun _ => pv 0) (sa_val (se_int) (sa_nil))) (al_io (al_val al_nil))))
    (sss_one (ss_if (st_w (sw_or (st_cmp (ad_lt) (sb_var (fun _ => pv 6)) (sb_of (se_int)) (nomark _)) (sw_or1 (st_w (sw_and (st_cmp (ad_eq (fun _ => rfl) (fun j => (hr).units)) (sb_of (se_ix (fun _ => rfl) (fun j => (hr).u65) (sb_var (fun _ => pv 1)) (sb_of (se_int)) (fun _ _ => rfl) (fun _ _ => rfl))) (sb_of (se_tup (sas_nil))) (nomark _)) (sw_and1 (st_cmp (ad_eq (fun _ => rfl) (fun j => (hr).units)) (sb_var (fun _ => pv 4)) (sb_of (se_int)) (nomark _)))))))) (sss_cons (ss_expr (se_mut (.inl rfl) (fun _ => rfl) PySem.F.plainAttrs_list PySem.F.slot_list_append PySem.F.type_list_append am_append (fun _ => pv 3) (sas_cons (se_ix (fun _ => rfl) (fun j => (hr).u65) (sb_of (se_ix (fun _ => rfl) (fun j => (hr).u65) (sb_var (fun _ => pv 1)) (sb_of (se_int)) (fun _ _ => rfl) (fun _ _ => rfl))) (sb_of (se_call (fun _ => okLPick V) (fun j => (hr).mono (by omega)) (fun _ => by rfl) (fun _ => V.bLPick) (fun _ => V.FLPick.kp) (fun _ => V.BLPick) .nil (fun _ _ => .nil) (fun _ => takes_of rfl rfl rfl rfl) (sa_io (fun _ => pv 0) (sa_val (sd_callB (ad_len (fun _ => rfl)) (fun _ => by rfl) (fun _ => V.m_len) PySem.boot_len (sbs_cons (sb_of (se_ix (fun _ => rfl) (fun j => (hr).u65) (sb_var (fun _ => pv 1)) (sb_of (se_int)) (fun _ _ => rfl) (fun _ _ => rfl))) (sbs_nil))) (sa_nil))) (al_io (al_val al_nil)))) (fun _ _ => rfl) (fun _ _ => rfl)) (sas_nil))))
    (sss_one (ss_set (i := 4) (fun _ => ndLShut) (fun _ => rfl) (fun _ => .inl rfl) (se_bin (ad_add (fun _ => rfl)) (sb_var (fun _ => pv 4)) (sb_of (se_int)))))) (sss_one (ss_if (st_w (sw_or (st_w (sw_and (st_cmp (ad_eq (fun _ => rfl) (fun j => (hr).units)) (sb_var (fun _ => pv 6)) (sb_of (se_int)) (nomark _)) (sw_and1 (st_cmp (ad_ne (fun _ => rfl) (fun j => (hr).units)) (sb_of (se_ix (fun _ => rfl) (fun j => (hr).u65) (sb_var (fun _ => pv 1)) (sb_of (se_int)) (fun _ _ => rfl) (fun _ _ => rfl))) (sb_of (se_tup (sas_nil))) (nomark _))))) (sw_or1 (st_cmp (ad_eq (fun _ => rfl) (fun j => (hr).units)) (sb_var (fun _ => pv 4)) (sb_of (se_int)) (nomark _))))) (sss_one (ss_expr (se_mut (.inl rfl) (fun _ => rfl) PySem.F.plainAttrs_list PySem.F.slot_list_append PySem.F.type_list_append am_append (fun _ => pv 3) (sas_cons (se_ix (fun _ => rfl) (fun j => (hr).u65) (sb_of (se_ix (fun _ => rfl) (fun j => (hr).u65) (sb_var (fun _ => pv 1)) (sb_of (se_int)) (fun _ _ => rfl) (fun _ _ => rfl))) (sb_of (se_call (fun _ => okLPick V) (fun j => (hr).mono (by omega)) (fun _ => by rfl) (fun _ => V.bLPick) (fun _ => V.FLPick.kp) (fun _ => V.BLPick) .nil (fun _ _ => .nil) (fun _ => takes_of rfl rfl rfl rfl) (sa_io (fun _ => pv 0) (sa_val (sd_callB (ad_len (fun _ => rfl)) (fun _ => by rfl) (fun _ => V.m_len) PySem.boot_len (sbs_cons (sb_of (se_ix (fun _ => rfl) (fun j => (hr).u65) (sb_var (fun _ => pv 1)) (sb_of (se_int)) (fun _ _ => rfl) (fun _ _ => rfl))) (sbs_nil))) (sa_nil))) (al_io (al_val al_nil)))) (fun _ _ => rfl) (fun _ _ => rfl)) (sas_nil))))) (sss_cons (ss_expr (se_mut (.inl rfl) (fun _ => rfl) PySem.F.plainAttrs_list PySem.F.slot_list_append PySem.F.type_list_append am_append (fun _ => pv 3) (sas_cons (se_ix (fun _ => rfl) (fun j => (hr).u65) (sb_of (se_ix (fun _ => rfl) (fun j => (hr).u65) (sb_var (fun _ => pv 1)) (sb_of (se_int)) (fun _ _ => rfl) (fun _ _ => rfl))) (sb_of (se_call (fun _ => okLPick V) (fun j => (hr).mono (by omega)) (fun _ => by rfl) (fun _ => V.bLPick) (fun _ => V.FLPick.kp) (fun _ => V.BLPick) .nil (fun _ _ => .nil) (fun _ => takes_of rfl rfl rfl rfl) (sa_io (fun _ => pv 0) (sa_val (sd_callB (ad_len (fun _ => rfl)) (fun _ => by rfl) (fun _ => V.m_len) PySem.boot_len (sbs_cons (sb_of (se_ix (fun _ => rfl) (fun j => (hr).u65) (sb_var (fun _ => pv 1)) (sb_of (se_int)) (fun _ _ => rfl) (fun _ _ => rfl))) (sbs_nil))) (sa_nil))) (al_io (al_val al_nil)))) (fun _ _ => rfl) (fun _ _ => rfl)) (sas_nil))))
    (sss_one (ss_set (i := 4) (fun _ => ndLShut) (fun _ => rfl) (fun _ => .inl rfl) (se_bin (ad_sub) (sb_var (fun _ => pv 4)) (sb_of (se_int))))))))))))
    (sss_one (ss_retX (sx_so (so_add (sb_var (fun _ => pv 3)) (sb_of (so_se (so_lc (own := [("turn", 5)]) (fun _ => rfl) (fun _ => ndLShut) (si_range1 (fun _ => by rfl) (fun _ => V.m_range) (sas_cons (se_var (fun _ => pv 4)) (sas_nil))) (fun _ => blkOk_by (own := [("turn", 5)]) (N := nLShut) (sc := defScope sLShut) (by decide +kernel)) (sg_name (i := 5) (fun _ => ndLShut) (fun _ => rfl) (fun _ => .inl rfl)) (sf_nil) (se_ix (fun _ => rfl) (fun j => (hr).u65) (sb_of (se_ix (fun _ => rfl) (fun j => (hr).u65) (sb_var (fun _ => pv 1)) (sb_of (se_int)) (fun _ _ => rfl) (fun _ _ => rfl))) (sb_of (se_call (fun _ => okLPick V) (fun j => (hr).mono (by omega)) (fun _ => by rfl) (fun _ => V.bLPick) (fun _ => V.FLPick.kp) (fun _ => V.BLPick) .nil (fun _ _ => .nil) (fun _ => takes0) (sa_io (fun _ => pv 0) (sa_val (sd_callB (ad_len (fun _ => rfl)) (fun _ => by rfl) (fun _ => V.m_len) PySem.boot_len (sbs_cons (sb_of (se_ix (fun _ => rfl) (fun j => (hr).u65) (sb_var (fun _ => pv 1)) (sb_of (se_int)) (fun _ _ => rfl) (fun _ _ => rfl))) (sbs_nil))) (sa_nil))) (al_io (al_val al_nil)))) (fun _ _ => rfl) (fun _ _ => rfl)) (by decide))))))))))
end Dl
set_option Elab.async false
set_option linter.all false
set_option maxRecDepth 100000
set_option maxHeartbeats 4000000
namespace Dl
open PySem PySem.Spec PyProof.Rows L2 Evl Gx GxR RZ
abbrev nLAnswers : List Str := ["sheet", "word", "found", "place", "at", "letter"]
theorem scLAnswers : FnScope nLAnswers ["sheet", "word"] (defScope sLAnswers) := ⟨rfl, rfl, rfl, by decide +kernel, rfl, by decide +kernel, by decide +kernel⟩
theorem ndLAnswers : nLAnswers.Nodup := scLAnswers.nd
theorem okLAnswers {P : Program} {w : World} {K : PySem.W.Frag} {mg : Str → Option Value} {base : Heap} (V : EnvL K mg base) : FnOk P w K mg base (L2.CX P w) 1 V.fLAnswers V.dLAnswers ["sheet", "word"] (spD K V.TS V.ca 2 (dLAnswers)) :=
  fn_D (N := nLAnswers) (ps := ["sheet", "word"]) (k := 0) (G := gLAnswers) V.TS V.ca V.FLAnswers scLAnswers fun cdv A outer s H vs E hr =>
    sss_cons (ss_ownLc (i := 2) (own := [("letter", 5)]) (fun _ => rfl) (fun _ => ndLAnswers) (fun _ => rfl) (fun _ => rfl) (fun _ => sw_true rfl rfl rfl (by decide +kernel)) (si_b (fun _ => rfl) (sb_var (fun _ => pv 1))) (fun _ => blkOk_by (own := [("letter", 5)]) (N := nLAnswers) (sc := defScope sLAnswers) (by decide +kernel)) (sg_name (i := 5) (fun _ => ndLAnswers) (fun _ => rfl) (fun _ => .inl rfl)) (sf_nil) (se_non) (by decide))
    (sss_cons (ss_for (fun _ => passes_of rfl) (fun _ => rfl) (si_range1 (fun _ => by rfl) (fun _ => V.m_range) (sas_cons (sd_callB (ad_len (fun _ => rfl)) (fun _ => by rfl) (fun _ => V.m_len) PySem.boot_len (sbs_cons (sb_var (fun _ => pv 1)) (sbs_nil))) (sas_nil))) (sg_name (i := 3) (fun _ => ndLAnswers) (fun _ => rfl) (fun _ => .inl rfl)) (sss_one (ss_if (st_in (fun _ => rfl) (fun j => (hr).u65) (sb_of (se_ix (fun _ => rfl) (fun j => (hr).u65) (sb_var (fun _ => pv 1)) (sb_var (fun _ => pv 3)) (fun _ _ => rfl) (fun _ _ => rfl))) (sb_of (se_ix (fun _ => rfl) (fun j => (hr).u65) (sb_var (fun _ => pv 0)) (sb_of (se_int)) (fun _ _ => rfl) (fun _ _ => rfl))) rfl) (sss_cons (ss_set (i := 4) (fun _ => ndLAnswers) (fun _ => rfl) (fun _ => .inl rfl) (se_bin (ad_sub) (sb_var (fun _ => pv 3)) (sb_of (se_int))))
    (sss_one (ss_while (fun _ => passes_of rfl) (st_w (sw_and (st_cmp (ad_ge) (sb_var (fun _ => pv 4)) (sb_of (se_int)) (nomark _)) (sw_and1 (st_cmp (ad_isN) (sb_of (se_ix (fun _ => rfl) (fun j => (hr).u65) (sb_var (fun _ => pv 2)) (sb_var (fun _ => pv 3)) (fun _ _ => rfl) (fun _ _ => rfl))) (sb_of (se_non)) (nomark _))))) (sss_cons (ss_if (st_w (sw_and (st_in (fun _ => rfl) (fun j => (hr).u65) (sb_of (se_ix (fun _ => rfl) (fun j => (hr).u65) (sb_var (fun _ => pv 1)) (sb_var (fun _ => pv 4)) (fun _ _ => rfl) (fun _ _ => rfl))) (sb_of (se_ix (fun _ => rfl) (fun j => (hr).u65) (sb_var (fun _ => pv 0)) (sb_of (se_int)) (fun _ _ => rfl) (fun _ _ => rfl))) rfl) (sw_and1 (st_cmp (ad_notN) (sb_of (se_ix (fun _ => rfl) (fun j => (hr).u65) (sb_var (fun _ => pv 2)) (sb_var (fun _ => pv 4)) (fun _ _ => rfl) (fun _ _ => rfl))) (sb_of (se_non)) (nomark _))))) (sss_one (ss_set (i := 4) (fun _ => ndLAnswers) (fun _ => rfl) (fun _ => .inl rfl) (se_ix (fun _ => rfl) (fun j => (hr).u65) (sb_var (fun _ => pv 2)) (sb_var (fun _ => pv 4)) (fun _ _ => rfl) (fun _ _ => rfl)))) (sss_one (ss_if (st_w (sw_and (st_in (fun _ => rfl) (fun j => (hr).u65) (sb_of (se_ix (fun _ => rfl) (fun j => (hr).u65) (sb_var (fun _ => pv 1)) (sb_var (fun _ => pv 4)) (fun _ _ => rfl) (fun _ _ => rfl))) (sb_of (se_ix (fun _ => rfl) (fun j => (hr).u65) (sb_var (fun _ => pv 0)) (sb_of (se_int)) (fun _ _ => rfl) (fun _ _ => rfl))) rfl) (sw_and1 (st_cmp (ad_isN) (sb_of (se_ix (fun _ => rfl) (fun j => (hr).u65) (sb_var (fun _ => pv 2)) (sb_var (fun _ => pv 4)) (fun _ _ => rfl) (fun _ _ => rfl))) (sb_of (se_non)) (nomark _))))) (sss_cons (ss_store (fun _ => pv 2) (sb_var (fun _ => pv 4)) (se_var (fun _ => pv 3)))
    (sss_one (ss_store (fun _ => pv 2) (sb_var (fun _ => pv 3)) (se_var (fun _ => pv 4))))) (sss_nil))))
    (sss_one (ss_set (i := 4) (fun _ => ndLAnswers) (fun _ => rfl) (fun _ => .inl rfl) (se_bin (ad_sub) (sb_var (fun _ => pv 4)) (sb_of (se_int))))))))) (sss_nil))))
    (sss_one (ss_retX (sx_move (fun _ => pv 2)))))
end Dl
set_option Elab.async false
set_option linter.all false
set_option maxRecDepth 100000
set_option maxHeartbeats 4000000
namespace Dl
open PySem PySem.Spec PyProof.Rows L2 Evl Gx GxR RZ
abbrev nLSame : List Str := ["found", "due", "one", "other"]
theorem scLSame : FnScope nLSame ["found", "due"] (defScope sLSame) := ⟨rfl, rfl, rfl, by decide +kernel, rfl, by decide +kernel, by decide +kernel⟩
theorem ndLSame : nLSame.Nodup := scLSame.nd
theorem okLSame {P : Program} {w : World} {K : PySem.W.Frag} {mg : Str → Option Value} {base : Heap} (V : EnvL K mg base) : ∀ n : Nat, FnOk P w K mg base (L2.CX P w) (1 * n + 1) V.fLSame V.dLSame ["found", "due"] (spD K V.TS V.ca 2 (dLSame n))
  | 0 => fn_D (N := nLSame) (ps := ["found", "due"]) (k := 0) (G := gBad) V.TS V.ca V.FLSame scLSame fun c1 c2 c3 c4 c5 c6 c7 c8 => sss_bad
  | n + 1 =>
    have RG : FnOk P w K mg base (L2.CX P w) (1 * n + 1) V.fLSame V.dLSame ["found", "due"] (spD K V.TS V.ca 2 (dLSame n)) := okLSame V n
    fn_D (N := nLSame) (ps := ["found", "due"]) (k := 1 * n + 1 + 0) (G := gLSame (dLSame n)) V.TS V.ca V.FLSame scLSame fun cdv A outer s H vs E hr =>
    sss_cons (ss_if (st_w (sw_or (st_cmp (ad_isN) (sb_var (fun _ => pv 1)) (sb_of (se_non)) (nomark _)) (sw_or1 (st_val (fun _ => rfl) (sb_of (se_isi (fun _ => rfl) (fun _ => by rfl) (fun _ => V.m_isinstance) (sb_var (fun _ => pv 1)) (fun _ => pe_bltn (v := .ty "bool") (by rfl) V.m_bool (by decide +kernel) rfl))) (fun _ _ => rfl))))) (sss_one (ss_ret (se_and (fun _ => rfl) (se_cmp (ad_eq (fun _ => rfl) (fun j => (hr).units)) (sb_of (se_isi (fun _ => rfl) (fun _ => by rfl) (fun _ => V.m_isinstance) (sb_var (fun _ => pv 0)) (fun _ => pe_bltn (v := .ty "bool") (by rfl) V.m_bool (by decide +kernel) rfl))) (sb_of (se_isi (fun _ => rfl) (fun _ => by rfl) (fun _ => V.m_isinstance) (sb_var (fun _ => pv 1)) (fun _ => pe_bltn (v := .ty "bool") (by rfl) V.m_bool (by decide +kernel) rfl))) (nomark _)) (se_one (se_cmp (ad_eq (fun _ => rfl) (fun j => (hr).units)) (sb_var (fun _ => pv 0)) (sb_var (fun _ => pv 1)) (nomark _)))))) (sss_nil))
    (sss_cons (ss_if (st_val (fun _ => rfl) (sb_of (se_isi (fun _ => rfl) (fun _ => by rfl) (fun _ => V.m_isinstance) (sb_var (fun _ => pv 1)) (fun _ => pe_bltn (v := .ty "str") (by rfl) V.m_str (by decide +kernel) rfl))) (fun _ _ => rfl)) (sss_one (ss_ret (se_and (fun _ => rfl) (se_isi (fun _ => rfl) (fun _ => by rfl) (fun _ => V.m_isinstance) (sb_var (fun _ => pv 0)) (fun _ => pe_bltn (v := .ty "str") (by rfl) V.m_str (by decide +kernel) rfl)) (se_one (se_cmp (ad_eq (fun _ => rfl) (fun j => (hr).units)) (sb_var (fun _ => pv 0)) (sb_var (fun _ => pv 1)) (nomark _)))))) (sss_nil))
    (sss_cons (ss_if (st_val (fun _ => rfl) (sb_of (se_isi (fun _ => rfl) (fun _ => by rfl) (fun _ => V.m_isinstance) (sb_var (fun _ => pv 1)) (fun _ => pe_bltn (v := .ty "int") (by rfl) V.m_int (by decide +kernel) rfl))) (fun _ _ => rfl)) (sss_one (ss_ret (se_and (fun _ => rfl) (se_isi (fun _ => rfl) (fun _ => by rfl) (fun _ => V.m_isinstance) (sb_var (fun _ => pv 0)) (fun _ => pe_bltn (v := .ty "int") (by rfl) V.m_int (by decide +kernel) rfl)) (se_and (fun _ => rfl) (se_not (fun _ => rfl) (sb_of (se_isi (fun _ => rfl) (fun _ => by rfl) (fun _ => V.m_isinstance) (sb_var (fun _ => pv 0)) (fun _ => pe_bltn (v := .ty "bool") (by rfl) V.m_bool (by decide +kernel) rfl)))) (se_one (se_cmp (ad_eq (fun _ => rfl) (fun j => (hr).units)) (sb_var (fun _ => pv 0)) (sb_var (fun _ => pv 1)) (nomark _))))))) (sss_nil))
    (sss_cons (ss_if (st_w (sw_or (st_cmp (ad_ne (fun _ => rfl) (fun j => (hr).units)) (sb_of (se_isi (fun _ => rfl) (fun _ => by rfl) (fun _ => V.m_isinstance) (sb_var (fun _ => pv 1)) (fun _ => pe_bltn (v := .ty "tuple") (by rfl) V.m_tuple (by decide +kernel) rfl))) (sb_of (se_isi (fun _ => rfl) (fun _ => by rfl) (fun _ => V.m_isinstance) (sb_var (fun _ => pv 0)) (fun _ => pe_bltn (v := .ty "tuple") (by rfl) V.m_tuple (by decide +kernel) rfl))) (nomark _)) (sw_or1 (st_cmp (ad_ne (fun _ => rfl) (fun j => (hr).units)) (sb_of (se_isi (fun _ => rfl) (fun _ => by rfl) (fun _ => V.m_isinstance) (sb_var (fun _ => pv 1)) (fun _ => pe_bltn (v := .ty "list") (by rfl) V.m_list (by decide +kernel) rfl))) (sb_of (se_isi (fun _ => rfl) (fun _ => by rfl) (fun _ => V.m_isinstance) (sb_var (fun _ => pv 0)) (fun _ => pe_bltn (v := .ty "list") (by rfl) V.m_list (by decide +kernel) rfl))) (nomark _))))) (sss_one (ss_ret (se_bl))) (sss_nil))
    (sss_one (ss_ret (se_and (fun _ => rfl) (se_cmp (ad_eq (fun _ => rfl) (fun j => (hr).units)) (sb_of (sd_callB (ad_len (fun _ => rfl)) (fun _ => by rfl) (fun _ => V.m_len) PySem.boot_len (sbs_cons (sb_var (fun _ => pv 0)) (sbs_nil)))) (sb_of (sd_callB (ad_len (fun _ => rfl)) (fun _ => by rfl) (fun _ => V.m_len) PySem.boot_len (sbs_cons (sb_var (fun _ => pv 1)) (sbs_nil)))) (nomark _)) (se_one (sd_callB (ad_allL (fun _ => rfl) (fun _ => rfl)) (fun _ => by rfl) (fun _ => V.m_all) (by decide +kernel) (sbs_cons (sb_of (so_se (so_lc (own := [("one", 2), ("other", 3)]) (fun _ => rfl) (fun _ => ndLSame) (si_zipB (fun _ => rfl) (fun _ => by rfl) (fun _ => V.m_zip) (sbs_cons (sb_var (fun _ => pv 0)) (sbs_cons (sb_var (fun _ => pv 1)) (sbs_nil)))) (fun _ => blkOk_by (own := [("one", 2), ("other", 3)]) (N := nLSame) (sc := defScope sLSame) (by decide +kernel)) (sg_tup (fun _ => rfl) (fun _ => rfl) (sgs_cons (sg_name (i := 2) (fun _ => ndLSame) (fun _ => rfl) (fun _ => .inl rfl)) (sgs_cons (sg_name (i := 3) (fun _ => ndLSame) (fun _ => rfl) (fun _ => .inl rfl)) (sgs_nil))) (bl_cons (bl_cons bl_nil))) (sf_nil) (se_call (fun _ => RG) (fun j => (hr).mono (by omega)) (fun _ => by rfl) (fun _ => V.bLSame) (fun _ => V.FLSame.kp) (fun _ => V.BLSame) .nil (fun _ _ => .nil) (fun _ => takes0) (sa_var (fun _ => pv 2) (sa_var (fun _ => pv 3) (sa_nil))) (al_var (al_var al_nil))) (by decide)))) (sbs_nil))))))))))
end Dl
set_option Elab.async false
set_option linter.all false
set_option maxRecDepth 100000
set_option maxHeartbeats 4000000
namespace Dl
open PySem PySem.Spec PyProof.Rows L2 Evl Gx GxR RZ
abbrev nLWhole : List Str := ["thing", "many"]
theorem scLWhole : FnScope nLWhole ["thing", "many"] (defScope sLWhole) := ⟨rfl, rfl, rfl, by decide +kernel, rfl, by decide +kernel, by decide +kernel⟩
theorem ndLWhole : nLWhole.Nodup := scLWhole.nd
theorem okLWhole {P : Program} {w : World} {K : PySem.W.Frag} {mg : Str → Option Value} {base : Heap} (V : EnvL K mg base) : FnOk P w K mg base (L2.CX P w) 1 V.fLWhole V.dLWhole ["thing", "many"] (spD K V.TS V.ca 2 (dLWhole)) :=
  fn_D (N := nLWhole) (ps := ["thing", "many"]) (k := 0) (G := gLWhole) V.TS V.ca V.FLWhole scLWhole fun cdv A outer s H vs E hr =>
    sss_one (ss_ret (se_and (fun _ => rfl) (se_isi (fun _ => rfl) (fun _ => by rfl) (fun _ => V.m_isinstance) (sb_var (fun _ => pv 0)) (fun _ => pe_bltn (v := .ty "int") (by rfl) V.m_int (by decide +kernel) rfl)) (se_and (fun _ => rfl) (se_not (fun _ => rfl) (sb_of (se_isi (fun _ => rfl) (fun _ => by rfl) (fun _ => V.m_isinstance) (sb_var (fun _ => pv 0)) (fun _ => pe_bltn (v := .ty "bool") (by rfl) V.m_bool (by decide +kernel) rfl)))) (se_one (se_chain (ad_le) (ad_lt) (sb_of (se_int)) (sb_var (fun _ => pv 0)) (sb_var (fun _ => pv 1)))))))
end Dl
set_option Elab.async false
set_option linter.all false
set_option maxRecDepth 100000
set_option maxHeartbeats 4000000
namespace Dl
open PySem PySem.Spec PyProof.Rows L2 Evl Gx GxR RZ
abbrev nLCount : List Str := ["pot", "big", "some"]
theorem scLCount : FnScope nLCount ["pot", "big"] (defScope sLCount) := ⟨rfl, rfl, rfl, by decide +kernel, rfl, by decide +kernel, by decide +kernel⟩
theorem ndLCount : nLCount.Nodup := scLCount.nd
theorem okLCount {P : Program} {w : World} {K : PySem.W.Frag} {mg : Str → Option Value} {base : Heap} (V : EnvL K mg base) : FnOk P w K mg base (L2.CX P w) 3 V.fLCount V.dLCount ["pot", "big"] (spD K V.TS V.ca 2 (dLCount)) :=
  fn_D (N := nLCount) (ps := ["pot", "big"]) (k := 2) (G := gLCount) V.TS V.ca V.FLCount scLCount fun cdv A outer s H vs E hr =>
    sss_cons (ss_set (i := 2) (fun _ => ndLCount) (fun _ => rfl) (fun _ => .inl rfl) (so_se (so_lst (sas_cons (se_int) (sas_cons (se_int) (sas_cons (se_int) (sas_cons (se_call (fun _ => okLPick V) (fun j => (hr).mono (by omega)) (fun _ => by rfl) (fun _ => V.bLPick) (fun _ => V.FLPick.kp) (fun _ => V.BLPick) .nil (fun _ _ => .nil) (fun _ => takes_of rfl rfl rfl rfl) (sa_io (fun _ => pv 0) (sa_val (se_int) (sa_nil))) (al_io (al_val al_nil))) (sas_nil))))))))
    (sss_cons (ss_if (st_val (fun _ => rfl) (sb_var (fun _ => pv 1)) (fun _ _ => rfl)) (sss_one (ss_set (i := 2) (fun _ => ndLCount) (fun _ => rfl) (fun _ => .inl rfl) (se_bin (ad_add (fun _ => rfl)) (sb_var (fun _ => pv 2)) (sb_of (so_se (so_lst (sas_cons (se_call (fun _ => okLPick V) (fun j => (hr).mono (by omega)) (fun _ => by rfl) (fun _ => V.bLPick) (fun _ => V.FLPick.kp) (fun _ => V.BLPick) .nil (fun _ _ => .nil) (fun _ => takes_of rfl rfl rfl rfl) (sa_io (fun _ => pv 0) (sa_val (se_int) (sa_nil))) (al_io (al_val al_nil))) (sas_cons (se_call (fun _ => okLPick V) (fun j => (hr).mono (by omega)) (fun _ => by rfl) (fun _ => V.bLPick) (fun _ => V.FLPick.kp) (fun _ => V.BLPick) .nil (fun _ _ => .nil) (fun _ => takes_of rfl rfl rfl rfl) (sa_io (fun _ => pv 0) (sa_val (se_bin (ad_pow) (sb_of (se_int)) (sb_of (se_int))) (sa_nil))) (al_io (al_val al_nil))) (sas_cons (se_bin (ad_sub) (sb_of (se_bin (ad_pow) (sb_of (se_int)) (sb_of (se_int)))) (sb_of (se_call (fun _ => okLPick V) (fun j => (hr).mono (by omega)) (fun _ => by rfl) (fun _ => V.bLPick) (fun _ => V.FLPick.kp) (fun _ => V.BLPick) .nil (fun _ _ => .nil) (fun _ => takes_of rfl rfl rfl rfl) (sa_io (fun _ => pv 0) (sa_val (se_int) (sa_nil))) (al_io (al_val al_nil))))) (sas_nil)))))))))) (sss_nil))
    (sss_one (ss_ret (se_ix (fun _ => rfl) (fun j => (hr).u65) (sb_var (fun _ => pv 2)) (sb_of (se_call (fun _ => okLPick V) (fun j => (hr).mono (by omega)) (fun _ => by rfl) (fun _ => V.bLPick) (fun _ => V.FLPick.kp) (fun _ => V.BLPick) .nil (fun _ _ => .nil) (fun _ => takes_of rfl rfl rfl rfl) (sa_io (fun _ => pv 0) (sa_val (sd_callB (ad_len (fun _ => rfl)) (fun _ => by rfl) (fun _ => V.m_len) PySem.boot_len (sbs_cons (sb_var (fun _ => pv 2)) (sbs_nil))) (sa_nil))) (al_io (al_val al_nil)))) (fun _ _ => rfl) (fun _ _ => rfl)))))
end Dl
set_option Elab.async false
set_option linter.all false
set_option maxRecDepth 100000
set_option maxHeartbeats 4000000
namespace Dl
open PySem PySem.Spec PyProof.Rows L2 Evl Gx GxR RZ
abbrev nLGreat : List Str := ["pot", "sheet", "deep", "big", "way", "often", "part", "a", "k"]
theorem scLGreat : FnScope nLGreat ["pot", "sheet", "deep", "big"] (defScope sLGreat) := ⟨rfl, rfl, rfl, by decide +kernel, rfl, by decide +kernel, by decide +kernel⟩
theorem ndLGreat : nLGreat.Nodup := scLGreat.nd
theorem okLGreat {P : Program} {w : World} {K : PySem.W.Frag} {mg : Str → Option Value} {base : Heap} (V : EnvL K mg base) : ∀ n : Nat, FnOk P w K mg base (L2.CX P w) (1 * n + 4) V.fLGreat V.dLGreat ["pot", "sheet", "deep", "big"] (spD K V.TS V.ca 4 (dLGreat n))
  | 0 => fn_D (N := nLGreat) (ps := ["pot", "sheet", "deep", "big"]) (k := 3) (G := gBad) V.TS V.ca V.FLGreat scLGreat fun c1 c2 c3 c4 c5 c6 c7 c8 => sss_bad
  | n + 1 =>
    have RG : FnOk P w K mg base (L2.CX P w) (1 * n + 4) V.fLGreat V.dLGreat ["pot", "sheet", "deep", "big"] (spD K V.TS V.ca 4 (dLGreat n)) := okLGreat V n
    fn_D (N := nLGreat) (ps := ["pot", "sheet", "deep", "big"]) (k := 1 * n + 1 + 3) (G := gLGreat (dLGreat n)) V.TS V.ca V.FLGreat scLGreat fun cdv A outer s H vs E hr =>
    sss_cons (ss_set (i := 4) (fun _ => ndLGreat) (fun _ => rfl) (fun _ => .inl rfl) (se_bin (ad_mul (fun _ => rfl)) (sb_of (se_call (fun _ => okLPick V) (fun j => (hr).mono (by omega)) (fun _ => by rfl) (fun _ => V.bLPick) (fun _ => V.FLPick.kp) (fun _ => V.BLPick) .nil (fun _ _ => .nil) (fun _ => takes_of rfl rfl rfl rfl) (sa_io (fun _ => pv 0) (sa_val (se_int) (sa_nil))) (al_io (al_val al_nil)))) (sb_of (sd_callTy (ad_int) (fun _ => by rfl) (fun _ => V.m_int) PyProof.Rows.boot_int (sbs_cons (sb_of (se_cmp (ad_gt) (sb_var (fun _ => pv 2)) (sb_of (se_int)) (nomark _))) (sbs_nil))))))
    (sss_cons (ss_if (st_cmp (ad_eq (fun _ => rfl) (fun j => (hr).units)) (sb_var (fun _ => pv 4)) (sb_of (se_int)) (nomark _)) (sss_one (ss_ret (se_tup (sas_cons (se_str) (sas_cons (sd_callTy (ad_tuple (fun _ => rfl)) (fun _ => by rfl) (fun _ => V.m_tuple) (by decide +kernel) (sbs_cons (sb_of (se_call (fun _ => okLShut V) (fun j => (hr).mono (by omega)) (fun _ => by rfl) (fun _ => V.bLShut) (fun _ => V.FLShut.kp) (fun _ => V.BLShut) .nil (fun _ _ => .nil) (fun _ => takes_of rfl rfl rfl rfl) (sa_io (fun _ => pv 0) (sa_var (fun _ => pv 1) (sa_val (se_int) (sa_nil)))) (al_io (al_var (al_val al_nil))))) (sbs_nil))) (sas_nil)))))) (sss_nil))
    (sss_cons (ss_if (st_cmp (ad_eq (fun _ => rfl) (fun j => (hr).units)) (sb_var (fun _ => pv 4)) (sb_of (se_int)) (nomark _)) (sss_one (ss_ret (se_tup (sas_cons (se_str) (sas_cons (sd_callTy (ad_tuple (fun _ => rfl)) (fun _ => by rfl) (fun _ => V.m_tuple) (by decide +kernel) (sbs_cons (sb_of (so_se (so_lc (own := [("k", 8)]) (fun _ => rfl) (fun _ => ndLGreat) (si_range1 (fun _ => by rfl) (fun _ => V.m_range) (sas_cons (se_call (fun _ => okLPick V) (fun j => (hr).mono (by omega)) (fun _ => by rfl) (fun _ => V.bLPick) (fun _ => V.FLPick.kp) (fun _ => V.BLPick) .nil (fun _ _ => .nil) (fun _ => takes_of rfl rfl rfl rfl) (sa_io (fun _ => pv 0) (sa_val (se_int) (sa_nil))) (al_io (al_val al_nil))) (sas_nil))) (fun _ => blkOk_by (own := [("k", 8)]) (N := nLGreat) (sc := defScope sLGreat) (by decide +kernel)) (sg_name (i := 8) (fun _ => ndLGreat) (fun _ => rfl) (fun _ => .inl rfl)) (sf_nil) (se_call (fun _ => RG) (fun j => (hr).mono (by omega)) (fun _ => by rfl) (fun _ => V.bLGreat) (fun _ => V.FLGreat.kp) (fun _ => V.BLGreat) .nil (fun _ _ => .nil) (fun _ => takes0) (sa_io (fun _ => pv 0) (sa_var (fun _ => pv 1) (sa_val (se_bin (ad_sub) (sb_var (fun _ => pv 2)) (sb_of (se_int))) (sa_var (fun _ => pv 3) (sa_nil))))) (al_io (al_var (al_val (al_var al_nil))))) (by decide)))) (sbs_nil))) (sas_nil)))))) (sss_nil))
    (sss_cons (ss_set (i := 5) (fun _ => ndLGreat) (fun _ => rfl) (fun _ => .inl rfl) (se_call (fun _ => okLCount V) (fun j => (hr).mono (by omega)) (fun _ => by rfl) (fun _ => V.bLCount) (fun _ => V.FLCount.kp) (fun _ => V.BLCount) .nil (fun _ _ => .nil) (fun _ => takes_of rfl rfl rfl rfl) (sa_io (fun _ => pv 0) (sa_var (fun _ => pv 3) (sa_nil))) (al_io (al_var al_nil))))
    (sss_cons (ss_set (i := 6) (fun _ => ndLGreat) (fun _ => rfl) (fun _ => .inl rfl) (se_call (fun _ => RG) (fun j => (hr).mono (by omega)) (fun _ => by rfl) (fun _ => V.bLGreat) (fun _ => V.FLGreat.kp) (fun _ => V.BLGreat) .nil (fun _ _ => .nil) (fun _ => takes_of rfl rfl rfl rfl) (sa_io (fun _ => pv 0) (sa_var (fun _ => pv 1) (sa_val (se_bin (ad_sub) (sb_var (fun _ => pv 2)) (sb_of (se_int))) (sa_var (fun _ => pv 3) (sa_nil))))) (al_io (al_var (al_val (al_var al_nil))))))
    (sss_cons (ss_if (st_cmp (ad_eq (fun _ => rfl) (fun j => (hr).units)) (sb_var (fun _ => pv 4)) (sb_of (se_int)) (nomark _)) (sss_one (ss_ret (se_tup (sas_cons (se_str) (sas_cons (se_var (fun _ => pv 5)) (sas_cons (se_var (fun _ => pv 6)) (sas_nil))))))) (sss_nil))
    (sss_cons (ss_set (i := 7) (fun _ => ndLGreat) (fun _ => rfl) (fun _ => .inl rfl) (se_ix (fun _ => rfl) (fun j => (hr).u65) (sb_of (se_ix (fun _ => rfl) (fun j => (hr).u65) (sb_var (fun _ => pv 1)) (sb_of (se_int)) (fun _ _ => rfl) (fun _ _ => rfl))) (sb_of (se_call (fun _ => okLPick V) (fun j => (hr).mono (by omega)) (fun _ => by rfl) (fun _ => V.bLPick) (fun _ => V.FLPick.kp) (fun _ => V.BLPick) .nil (fun _ _ => .nil) (fun _ => takes_of rfl rfl rfl rfl) (sa_io (fun _ => pv 0) (sa_val (sd_callB (ad_len (fun _ => rfl)) (fun _ => by rfl) (fun _ => V.m_len) PySem.boot_len (sbs_cons (sb_of (se_ix (fun _ => rfl) (fun j => (hr).u65) (sb_var (fun _ => pv 1)) (sb_of (se_int)) (fun _ _ => rfl) (fun _ _ => rfl))) (sbs_nil))) (sa_nil))) (al_io (al_val al_nil)))) (fun _ _ => rfl) (fun _ _ => rfl)))
    (sss_one (ss_ret (se_tup (sas_cons (se_str) (sas_cons (se_var (fun _ => pv 5)) (sas_cons (se_var (fun _ => pv 7)) (sas_cons (se_var (fun _ => pv 6)) (sas_cons (se_ix (fun _ => rfl) (fun j => (hr).u65) (sb_of (se_ix (fun _ => rfl) (fun j => (hr).u65) (sb_var (fun _ => pv 1)) (sb_of (se_int)) (fun _ _ => rfl) (fun _ _ => rfl))) (sb_of (se_call (fun _ => okLPick V) (fun j => (hr).mono (by omega)) (fun _ => by rfl) (fun _ => V.bLPick) (fun _ => V.FLPick.kp) (fun _ => V.BLPick) .nil (fun _ _ => .nil) (fun _ => takes_of rfl rfl rfl rfl) (sa_io (fun _ => pv 0) (sa_val (sd_callB (ad_len (fun _ => rfl)) (fun _ => by rfl) (fun _ => V.m_len) PySem.boot_len (sbs_cons (sb_of (se_ix (fun _ => rfl) (fun j => (hr).u65) (sb_var (fun _ => pv 1)) (sb_of (se_int)) (fun _ _ => rfl) (fun _ _ => rfl))) (sbs_nil))) (sa_nil))) (al_io (al_val al_nil)))) (fun _ _ => rfl) (fun _ _ => rfl)) (sas_nil)))))))))))))))
end Dl
set_option Elab.async false
set_option linter.all false
set_option maxRecDepth 100000
set_option maxHeartbeats 4000000
namespace Dl
open PySem PySem.Spec PyProof.Rows L2 Evl Gx GxR RZ
abbrev nLParts : List Str := ["thing"]
theorem scLParts : FnScope nLParts ["thing"] (defScope sLParts) := ⟨rfl, rfl, rfl, by decide +kernel, rfl, by decide +kernel, by decide +kernel⟩
theorem ndLParts : nLParts.Nodup := scLParts.nd
theorem okLParts {P : Program} {w : World} {K : PySem.W.Frag} {mg : Str → Option Value} {base : Heap} (V : EnvL K mg base) : FnOk P w K mg base (L2.CX P w) 1 V.fLParts V.dLParts ["thing"] (spD K V.TS V.ca 1 (dLParts)) :=
  fn_D (N := nLParts) (ps := ["thing"]) (k := 0) (G := gLParts) V.TS V.ca V.FLParts scLParts fun cdv A outer s H vs E hr =>
    sss_cons (ss_if (st_cmp (ad_eq (fun _ => rfl) (fun j => (hr).units)) (sb_of (se_ix (fun _ => rfl) (fun j => (hr).u65) (sb_var (fun _ => pv 0)) (sb_of (se_int)) (fun _ _ => rfl) (fun _ _ => rfl))) (sb_of (se_str)) (nomark _)) (sss_one (ss_retX (sx_so (sd_callTy (ad_list (fun _ => rfl)) (fun _ => by rfl) (fun _ => V.m_list) (by decide +kernel) (sbs_cons (sb_of (se_ix (fun _ => rfl) (fun j => (hr).u65) (sb_var (fun _ => pv 0)) (sb_of (se_int)) (fun _ _ => rfl) (fun _ _ => rfl))) (sbs_nil)))))) (sss_nil))
    (sss_one (ss_retX (sx_ite (st_cmp (ad_eq (fun _ => rfl) (fun j => (hr).units)) (sb_of (se_ix (fun _ => rfl) (fun j => (hr).u65) (sb_var (fun _ => pv 0)) (sb_of (se_int)) (fun _ _ => rfl) (fun _ _ => rfl))) (sb_of (se_str)) (nomark _)) (sx_so (so_lst (sas_cons (se_ix (fun _ => rfl) (fun j => (hr).u65) (sb_var (fun _ => pv 0)) (sb_of (se_int)) (fun _ _ => rfl) (fun _ _ => rfl)) (sas_nil)))) (sx_ite (st_cmp (ad_eq (fun _ => rfl) (fun j => (hr).units)) (sb_of (se_ix (fun _ => rfl) (fun j => (hr).u65) (sb_var (fun _ => pv 0)) (sb_of (se_int)) (fun _ _ => rfl) (fun _ _ => rfl))) (sb_of (se_str)) (nomark _)) (sx_so (so_lst (sas_cons (se_ix (fun _ => rfl) (fun j => (hr).u65) (sb_var (fun _ => pv 0)) (sb_of (se_int)) (fun _ _ => rfl) (fun _ _ => rfl)) (sas_nil)))) (sx_so (so_lst (sas_nil)))))))
end Dl
set_option Elab.async false
set_option linter.all false
set_option maxRecDepth 100000
set_option maxHeartbeats 4000000
namespace Dl
open PySem PySem.Spec PyProof.Rows L2 Evl Gx GxR RZ
abbrev nLIsWord : List Str := ["sheet", "letters", "told", "letter", "at"]
theorem scLIsWord : FnScope nLIsWord ["sheet", "letters"] (defScope sLIsWord) := ⟨rfl, rfl, rfl, by decide +kernel, rfl, by decide +kernel, by decide +kernel⟩
theorem ndLIsWord : nLIsWord.Nodup := scLIsWord.nd
theorem okLIsWord {P : Program} {w : World} {K : PySem.W.Frag} {mg : Str → Option Value} {base : Heap} (V : EnvL K mg base) : FnOk P w K mg base (L2.CX P w) 2 V.fLIsWord V.dLIsWord ["sheet", "letters"] (spD K V.TS V.ca 2 (dLIsWord)) :=
  fn_D (N := nLIsWord) (ps := ["sheet", "letters"]) (k := 1) (G := gLIsWord) V.TS V.ca V.FLIsWord scLIsWord fun cdv A outer s H vs E hr =>
    sss_cons (ss_if (st_w (sw_or (st_not (st_val (fun _ => rfl) (sb_of (se_isi (fun _ => rfl) (fun _ => by rfl) (fun _ => V.m_isinstance) (sb_var (fun _ => pv 1)) (fun _ => pe_bltn (v := .ty "tuple") (by rfl) V.m_tuple (by decide +kernel) rfl))) (fun _ _ => rfl))) (sw_or1 (st_cmp (ad_gt) (sb_of (sd_callB (ad_len (fun _ => rfl)) (fun _ => by rfl) (fun _ => V.m_len) PySem.boot_len (sbs_cons (sb_var (fun _ => pv 1)) (sbs_nil)))) (sb_of (se_int)) (nomark _))))) (sss_one (ss_ret (se_bl))) (sss_nil))
    (sss_cons (ss_if (st_cmp (ad_ne (fun _ => rfl) (fun j => (hr).units)) (sb_of (so_se (so_lc (own := [("letter", 3)]) (fun _ => rfl) (fun _ => ndLIsWord) (si_b (fun _ => rfl) (sb_var (fun _ => pv 1))) (fun _ => blkOk_by (own := [("letter", 3)]) (N := nLIsWord) (sc := defScope sLIsWord) (by decide +kernel)) (sg_name (i := 3) (fun _ => ndLIsWord) (fun _ => rfl) (fun _ => .inl rfl)) (sf_one (st_w (sw_or (st_not (st_val (fun _ => rfl) (sb_of (se_isi (fun _ => rfl) (fun _ => by rfl) (fun _ => V.m_isinstance) (sb_var (fun _ => pv 3)) (fun _ => pe_bltn (v := .ty "str") (by rfl) V.m_str (by decide +kernel) rfl))) (fun _ _ => rfl))) (sw_or1 (st_notIn (fun _ => rfl) (fun j => (hr).u65) (sb_var (fun _ => pv 3)) (sb_of (se_call (fun _ => okLOrder V) (fun j => (hr).mono (by omega)) (fun _ => by rfl) (fun _ => V.bLOrder) (fun _ => V.FLOrder.kp) (fun _ => V.BLOrder) .nil (fun _ _ => .nil) (fun _ => takes0) (sa_var (fun _ => pv 0) (sa_nil)) (al_var al_nil))) rfl))))) (se_var (fun _ => pv 3)) (by decide)))) (sb_of (so_se (so_lst (sas_nil)))) (nomark _)) (sss_one (ss_ret (se_bl))) (sss_nil))
    (sss_cons (ss_set (i := 2) (fun _ => ndLIsWord) (fun _ => rfl) (fun _ => .inl rfl) (se_call (fun _ => okLAnswers V) (fun j => (hr).mono (by omega)) (fun _ => by rfl) (fun _ => V.bLAnswers) (fun _ => V.FLAnswers.kp) (fun _ => V.BLAnswers) .nil (fun _ _ => .nil) (fun _ => takes_of rfl rfl rfl rfl) (sa_var (fun _ => pv 0) (sa_val (so_se (sd_callTy (ad_list (fun _ => rfl)) (fun _ => by rfl) (fun _ => V.m_list) (by decide +kernel) (sbs_cons (sb_var (fun _ => pv 1)) (sbs_nil)))) (sa_nil))) (al_var (al_val al_nil))))
    (sss_one (ss_ret (se_cmp (ad_eq (fun _ => rfl) (fun j => (hr).units)) (sb_of (so_se (so_lc (own := [("letter", 3), ("at", 4)]) (fun _ => rfl) (fun _ => ndLIsWord) (si_zipB (fun _ => rfl) (fun _ => by rfl) (fun _ => V.m_zip) (sbs_cons (sb_var (fun _ => pv 1)) (sbs_cons (sb_var (fun _ => pv 2)) (sbs_nil)))) (fun _ => blkOk_by (own := [("letter", 3), ("at", 4)]) (N := nLIsWord) (sc := defScope sLIsWord) (by decide +kernel)) (sg_tup (fun _ => rfl) (fun _ => rfl) (sgs_cons (sg_name (i := 3) (fun _ => ndLIsWord) (fun _ => rfl) (fun _ => .inl rfl)) (sgs_cons (sg_name (i := 4) (fun _ => ndLIsWord) (fun _ => rfl) (fun _ => .inl rfl)) (sgs_nil))) (bl_cons (bl_cons bl_nil))) (sf_one (st_w (sw_and (st_notIn (fun _ => rfl) (fun j => (hr).u65) (sb_var (fun _ => pv 3)) (sb_of (se_ix (fun _ => rfl) (fun j => (hr).u65) (sb_var (fun _ => pv 0)) (sb_of (se_int)) (fun _ _ => rfl) (fun _ _ => rfl))) rfl) (sw_and1 (st_cmp (ad_isN) (sb_var (fun _ => pv 4)) (sb_of (se_non)) (nomark _)))))) (se_var (fun _ => pv 3)) (by decide)))) (sb_of (so_se (so_lst (sas_nil)))) (nomark _))))))
end Dl
set_option Elab.async false
set_option linter.all false
set_option maxRecDepth 100000
set_option maxHeartbeats 4000000
namespace Dl
open PySem PySem.Spec PyProof.Rows L2 Evl Gx GxR RZ
abbrev nLIsIt : List Str := ["sheet", "thing"]
theorem scLIsIt : FnScope nLIsIt ["sheet", "thing"] (defScope sLIsIt) := ⟨rfl, rfl, rfl, by decide +kernel, rfl, by decide +kernel, by decide +kernel⟩
theorem ndLIsIt : nLIsIt.Nodup := scLIsIt.nd
theorem okLIsIt {P : Program} {w : World} {K : PySem.W.Frag} {mg : Str → Option Value} {base : Heap} (V : EnvL K mg base) : FnOk P w K mg base (L2.CX P w) 3 V.fLIsIt V.dLIsIt ["sheet", "thing"] (spD K V.TS V.ca 2 (dLIsIt)) :=
  fn_D (N := nLIsIt) (ps := ["sheet", "thing"]) (k := 2) (G := gLIsIt) V.TS V.ca V.FLIsIt scLIsIt fun cdv A outer s H vs E hr =>
    sss_cons (ss_if (st_w (sw_or (st_not (st_val (fun _ => rfl) (sb_of (se_isi (fun _ => rfl) (fun _ => by rfl) (fun _ => V.m_isinstance) (sb_var (fun _ => pv 1)) (fun _ => pe_bltn (v := .ty "tuple") (by rfl) V.m_tuple (by decide +kernel) rfl))) (fun _ _ => rfl))) (sw_or (st_cmp (ad_lt) (sb_of (sd_callB (ad_len (fun _ => rfl)) (fun _ => by rfl) (fun _ => V.m_len) PySem.boot_len (sbs_cons (sb_var (fun _ => pv 1)) (sbs_nil)))) (sb_of (se_int)) (nomark _)) (sw_or1 (st_not (st_val (fun _ => rfl) (sb_of (se_isi (fun _ => rfl) (fun _ => by rfl) (fun _ => V.m_isinstance) (sb_of (se_ix (fun _ => rfl) (fun j => (hr).u65) (sb_var (fun _ => pv 1)) (sb_of (se_int)) (fun _ _ => rfl) (fun _ _ => rfl))) (fun _ => pe_bltn (v := .ty "str") (by rfl) V.m_str (by decide +kernel) rfl))) (fun _ _ => rfl))))))) (sss_one (ss_ret (se_bl))) (sss_nil))
    (sss_cons (ss_if (st_cmp (ad_eq (fun _ => rfl) (fun j => (hr).units)) (sb_of (se_ix (fun _ => rfl) (fun j => (hr).u65) (sb_var (fun _ => pv 1)) (sb_of (se_int)) (fun _ _ => rfl) (fun _ _ => rfl))) (sb_of (se_str)) (nomark _)) (sss_one (ss_ret (se_and (fun _ => rfl) (se_cmp (ad_eq (fun _ => rfl) (fun j => (hr).units)) (sb_of (sd_callB (ad_len (fun _ => rfl)) (fun _ => by rfl) (fun _ => V.m_len) PySem.boot_len (sbs_cons (sb_var (fun _ => pv 1)) (sbs_nil)))) (sb_of (se_int)) (nomark _)) (se_one (se_call (fun _ => okLIsWord V) (fun j => (hr).mono (by omega)) (fun _ => by rfl) (fun _ => V.bLIsWord) (fun _ => V.FLIsWord.kp) (fun _ => V.BLIsWord) .nil (fun _ _ => .nil) (fun _ => takes_of rfl rfl rfl rfl) (sa_var (fun _ => pv 0) (sa_val (se_ix (fun _ => rfl) (fun j => (hr).u65) (sb_var (fun _ => pv 1)) (sb_of (se_int)) (fun _ _ => rfl) (fun _ _ => rfl)) (sa_nil))) (al_var (al_val al_nil))))))) (sss_nil))
    (sss_cons (ss_if (st_cmp (ad_eq (fun _ => rfl) (fun j => (hr).units)) (sb_of (se_ix (fun _ => rfl) (fun j => (hr).u65) (sb_var (fun _ => pv 1)) (sb_of (se_int)) (fun _ _ => rfl) (fun _ _ => rfl))) (sb_of (se_str)) (nomark _)) (sss_one (ss_ret (se_and (fun _ => rfl) (se_cmp (ad_eq (fun _ => rfl) (fun j => (hr).units)) (sb_of (sd_callB (ad_len (fun _ => rfl)) (fun _ => by rfl) (fun _ => V.m_len) PySem.boot_len (sbs_cons (sb_var (fun _ => pv 1)) (sbs_nil)))) (sb_of (se_int)) (nomark _)) (se_and (fun _ => rfl) (se_isi (fun _ => rfl) (fun _ => by rfl) (fun _ => V.m_isinstance) (sb_of (se_ix (fun _ => rfl) (fun j => (hr).u65) (sb_var (fun _ => pv 1)) (sb_of (se_int)) (fun _ _ => rfl) (fun _ _ => rfl))) (fun _ => pe_bltn (v := .ty "tuple") (by rfl) V.m_tuple (by decide +kernel) rfl)) (se_one (se_cmp (ad_lt) (sb_of (sd_callB (ad_len (fun _ => rfl)) (fun _ => by rfl) (fun _ => V.m_len) PySem.boot_len (sbs_cons (sb_of (se_ix (fun _ => rfl) (fun j => (hr).u65) (sb_var (fun _ => pv 1)) (sb_of (se_int)) (fun _ _ => rfl) (fun _ _ => rfl))) (sbs_nil)))) (sb_of (se_int)) (nomark _))))))) (sss_nil))
    (sss_cons (ss_if (st_cmp (ad_eq (fun _ => rfl) (fun j => (hr).units)) (sb_of (se_ix (fun _ => rfl) (fun j => (hr).u65) (sb_var (fun _ => pv 1)) (sb_of (se_int)) (fun _ _ => rfl) (fun _ _ => rfl))) (sb_of (se_str)) (nomark _)) (sss_one (ss_ret (se_and (fun _ => rfl) (se_cmp (ad_eq (fun _ => rfl) (fun j => (hr).units)) (sb_of (sd_callB (ad_len (fun _ => rfl)) (fun _ => by rfl) (fun _ => V.m_len) PySem.boot_len (sbs_cons (sb_var (fun _ => pv 1)) (sbs_nil)))) (sb_of (se_int)) (nomark _)) (se_one (se_call (fun _ => okLWhole V) (fun j => (hr).mono (by omega)) (fun _ => by rfl) (fun _ => V.bLWhole) (fun _ => V.FLWhole.kp) (fun _ => V.BLWhole) .nil (fun _ _ => .nil) (fun _ => takes_of rfl rfl rfl rfl) (sa_val (se_ix (fun _ => rfl) (fun j => (hr).u65) (sb_var (fun _ => pv 1)) (sb_of (se_int)) (fun _ _ => rfl) (fun _ _ => rfl)) (sa_val (se_bin (ad_add (fun _ => rfl)) (sb_of (se_bin (ad_pow) (sb_of (se_int)) (sb_of (se_int)))) (sb_of (se_int))) (sa_nil))) (al_val (al_val al_nil))))))) (sss_nil))
    (sss_cons (ss_if (st_w (sw_or (st_cmp (ad_ne (fun _ => rfl) (fun j => (hr).units)) (sb_of (se_ix (fun _ => rfl) (fun j => (hr).u65) (sb_var (fun _ => pv 1)) (sb_of (se_int)) (fun _ _ => rfl) (fun _ _ => rfl))) (sb_of (se_str)) (nomark _)) (sw_or (st_cmp (ad_ne (fun _ => rfl) (fun j => (hr).units)) (sb_of (sd_callB (ad_len (fun _ => rfl)) (fun _ => by rfl) (fun _ => V.m_len) PySem.boot_len (sbs_cons (sb_var (fun _ => pv 1)) (sbs_nil)))) (sb_of (se_int)) (nomark _)) (sw_or1 (st_not (st_val (fun _ => rfl) (sb_of (se_call (fun _ => okLWhole V) (fun j => (hr).mono (by omega)) (fun _ => by rfl) (fun _ => V.bLWhole) (fun _ => V.FLWhole.kp) (fun _ => V.BLWhole) .nil (fun _ _ => .nil) (fun _ => takes_of rfl rfl rfl rfl) (sa_val (se_ix (fun _ => rfl) (fun j => (hr).u65) (sb_var (fun _ => pv 1)) (sb_of (se_int)) (fun _ _ => rfl) (fun _ _ => rfl)) (sa_val (se_bin (ad_add (fun _ => rfl)) (sb_of (se_bin (ad_pow) (sb_of (se_int)) (sb_of (se_int)))) (sb_of (se_int))) (sa_nil))) (al_val (al_val al_nil)))) (fun _ _ => rfl))))))) (sss_one (ss_ret (se_bl))) (sss_nil))
    (sss_cons (ss_if (st_w (sw_or (st_not (st_val (fun _ => rfl) (sb_of (se_isi (fun _ => rfl) (fun _ => by rfl) (fun _ => V.m_isinstance) (sb_of (se_ix (fun _ => rfl) (fun j => (hr).u65) (sb_var (fun _ => pv 1)) (sb_of (se_int)) (fun _ _ => rfl) (fun _ _ => rfl))) (fun _ => pe_bltn (v := .ty "str") (by rfl) V.m_str (by decide +kernel) rfl))) (fun _ _ => rfl))) (sw_or1 (st_not (st_val (fun _ => rfl) (sb_of (se_isi (fun _ => rfl) (fun _ => by rfl) (fun _ => V.m_isinstance) (sb_of (se_ix (fun _ => rfl) (fun j => (hr).u65) (sb_var (fun _ => pv 1)) (sb_of (se_int)) (fun _ _ => rfl) (fun _ _ => rfl))) (fun _ => pe_bltn (v := .ty "str") (by rfl) V.m_str (by decide +kernel) rfl))) (fun _ _ => rfl)))))) (sss_one (ss_ret (se_bl))) (sss_nil))
    (sss_one (ss_ret (se_and (fun _ => rfl) (se_in (fun _ => rfl) (fun j => (hr).u65) (sb_of (se_ix (fun _ => rfl) (fun j => (hr).u65) (sb_var (fun _ => pv 1)) (sb_of (se_int)) (fun _ _ => rfl) (fun _ _ => rfl))) (sb_of (se_ix (fun _ => rfl) (fun j => (hr).u65) (sb_var (fun _ => pv 0)) (sb_of (se_int)) (fun _ _ => rfl) (fun _ _ => rfl))) rfl) (se_one (se_in (fun _ => rfl) (fun j => (hr).u65) (sb_of (se_ix (fun _ => rfl) (fun j => (hr).u65) (sb_var (fun _ => pv 1)) (sb_of (se_int)) (fun _ _ => rfl) (fun _ _ => rfl))) (sb_of (se_ix (fun _ => rfl) (fun j => (hr).u65) (sb_var (fun _ => pv 0)) (sb_of (se_int)) (fun _ _ => rfl) (fun _ _ => rfl))) rfl))))))))))
end Dl
set_option Elab.async false
set_option linter.all false
set_option maxRecDepth 100000
set_option maxHeartbeats 4000000
namespace Dl
open PySem PySem.Spec PyProof.Rows L2 Evl Gx GxR RZ
abbrev nLDue : List Str := ["sheet", "thing", "layer", "many", "deep_at", "one", "below"]
theorem scLDue : FnScope nLDue ["sheet", "thing"] (defScope sLDue) := ⟨rfl, rfl, rfl, by decide +kernel, rfl, by decide +kernel, by decide +kernel⟩
theorem ndLDue : nLDue.Nodup := scLDue.nd
theorem okLDue {P : Program} {w : World} {K : PySem.W.Frag} {mg : Str → Option Value} {base : Heap} (V : EnvL K mg base) : FnOk P w K mg base (L2.CX P w) 4 V.fLDue V.dLDue ["sheet", "thing"] (spD K V.TS V.ca 2 (dLDue)) :=
  fn_D (N := nLDue) (ps := ["sheet", "thing"]) (k := 3) (G := gLDue) V.TS V.ca V.FLDue scLDue fun cdv A outer s H vs E hr =>
    sss_cons (ss_set (i := 2) (fun _ => ndLDue) (fun _ => rfl) (fun _ => .inl rfl) (so_se (so_lst (sas_cons (se_var (fun _ => pv 1)) (sas_nil)))))
    (sss_cons (ss_set (i := 3) (fun _ => ndLDue) (fun _ => rfl) (fun _ => .inl rfl) (se_int))
    (sss_cons (ss_for (fun _ => passes_of rfl) (fun _ => rfl) (si_range1 (fun _ => by rfl) (fun _ => V.m_range) (sas_cons (se_int) (sas_nil))) (sg_name (i := 4) (fun _ => ndLDue) (fun _ => rfl) (fun _ => .inl rfl)) (sss_cons (ss_if (st_not (st_val (fun _ => rfl) (sb_of (sd_callB (ad_allL (fun _ => rfl) (fun _ => rfl)) (fun _ => by rfl) (fun _ => V.m_all) (by decide +kernel) (sbs_cons (sb_of (so_se (so_lc (own := [("one", 5)]) (fun _ => rfl) (fun _ => ndLDue) (si_b (fun _ => rfl) (sb_var (fun _ => pv 2))) (fun _ => blkOk_by (own := [("one", 5)]) (N := nLDue) (sc := defScope sLDue) (by decide +kernel)) (sg_name (i := 5) (fun _ => ndLDue) (fun _ => rfl) (fun _ => .inl rfl)) (sf_nil) (se_call (fun _ => okLIsIt V) (fun j => (hr).mono (by omega)) (fun _ => by rfl) (fun _ => V.bLIsIt) (fun _ => V.FLIsIt.kp) (fun _ => V.BLIsIt) .nil (fun _ _ => .nil) (fun _ => takes0) (sa_var (fun _ => pv 0) (sa_var (fun _ => pv 5) (sa_nil))) (al_var (al_var al_nil))) (by decide)))) (sbs_nil)))) (fun _ _ => rfl))) (sss_one (ss_ret (se_bl))) (sss_nil))
    (sss_cons (ss_set (i := 3) (fun _ => ndLDue) (fun _ => rfl) (fun _ => .inl rfl) (se_bin (ad_add (fun _ => rfl)) (sb_var (fun _ => pv 3)) (sb_of (sd_callB (ad_len (fun _ => rfl)) (fun _ => by rfl) (fun _ => V.m_len) PySem.boot_len (sbs_cons (sb_var (fun _ => pv 2)) (sbs_nil))))))
    (sss_cons (ss_setX (i := 6) (fun _ => ndLDue) (fun _ => rfl) (fun _ => .inl rfl) (sx_so (so_lst (sas_nil))))
    (sss_cons (ss_for (fun _ => passes_of rfl) (fun _ => rfl) (si_b (fun _ => rfl) (sb_var (fun _ => pv 2))) (sg_name (i := 5) (fun _ => ndLDue) (fun _ => rfl) (fun _ => .inl rfl)) (sss_one (ss_expr (se_mut (.inl rfl) (fun _ => rfl) PySem.F.plainAttrs_list PySem.F.slot_list_extend PySem.F.type_list_extend am_extend (fun _ => pv 6) (sas_cons (se_call (fun _ => okLParts V) (fun j => (hr).mono (by omega)) (fun _ => by rfl) (fun _ => V.bLParts) (fun _ => V.FLParts.kp) (fun _ => V.BLParts) .nil (fun _ _ => .nil) (fun _ => takes_of rfl rfl rfl rfl) (sa_var (fun _ => pv 5) (sa_nil)) (al_var al_nil)) (sas_nil))))))
    (sss_one (ss_set (i := 2) (fun _ => ndLDue) (fun _ => rfl) (fun _ => .inl rfl) (se_var (fun _ => pv 6)))))))))
    (sss_one (ss_ret (se_and (fun _ => rfl) (se_cmp (ad_eq (fun _ => rfl) (fun j => (hr).units)) (sb_var (fun _ => pv 2)) (sb_of (so_se (so_lst (sas_nil)))) (nomark _)) (se_one (se_cmp (ad_lt) (sb_var (fun _ => pv 3)) (sb_of (se_int)) (nomark _))))))))
end Dl
set_option Elab.async false
set_option linter.all false
set_option maxRecDepth 100000
set_option maxHeartbeats 4000000
namespace Dl
open PySem PySem.Spec PyProof.Rows L2 Evl Gx GxR RZ
abbrev nLOddWords : List Str := ["pot", "sheet", "a", "c", "some"]
theorem scLOddWords : FnScope nLOddWords ["pot", "sheet"] (defScope sLOddWords) := ⟨rfl, rfl, rfl, by decide +kernel, rfl, by decide +kernel, by decide +kernel⟩
theorem ndLOddWords : nLOddWords.Nodup := scLOddWords.nd
theorem okLOddWords {P : Program} {w : World} {K : PySem.W.Frag} {mg : Str → Option Value} {base : Heap} (V : EnvL K mg base) : FnOk P w K mg base (L2.CX P w) 3 V.fLOddWords V.dLOddWords ["pot", "sheet"] (spD K V.TS V.ca 2 (dLOddWords)) :=
  fn_D (N := nLOddWords) (ps := ["pot", "sheet"]) (k := 2) (G := gLOddWords) V.TS V.ca V.FLOddWords scLOddWords fun cdv A outer s H vs E hr =>
    sss_cons (ss_set (i := 2) (fun _ => ndLOddWords) (fun _ => rfl) (fun _ => .inl rfl) (se_ix (fun _ => rfl) (fun j => (hr).u65) (sb_of (se_ix (fun _ => rfl) (fun j => (hr).u65) (sb_var (fun _ => pv 1)) (sb_of (se_int)) (fun _ _ => rfl) (fun _ _ => rfl))) (sb_of (se_call (fun _ => okLPick V) (fun j => (hr).mono (by omega)) (fun _ => by rfl) (fun _ => V.bLPick) (fun _ => V.FLPick.kp) (fun _ => V.BLPick) .nil (fun _ _ => .nil) (fun _ => takes_of rfl rfl rfl rfl) (sa_io (fun _ => pv 0) (sa_val (sd_callB (ad_len (fun _ => rfl)) (fun _ => by rfl) (fun _ => V.m_len) PySem.boot_len (sbs_cons (sb_of (se_ix (fun _ => rfl) (fun j => (hr).u65) (sb_var (fun _ => pv 1)) (sb_of (se_int)) (fun _ _ => rfl) (fun _ _ => rfl))) (sbs_nil))) (sa_nil))) (al_io (al_val al_nil)))) (fun _ _ => rfl) (fun _ _ => rfl)))
    (sss_cons (ss_set (i := 3) (fun _ => ndLOddWords) (fun _ => rfl) (fun _ => .inl rfl) (se_ix (fun _ => rfl) (fun j => (hr).u65) (sb_of (se_ix (fun _ => rfl) (fun j => (hr).u65) (sb_var (fun _ => pv 1)) (sb_of (se_int)) (fun _ _ => rfl) (fun _ _ => rfl))) (sb_of (se_call (fun _ => okLPick V) (fun j => (hr).mono (by omega)) (fun _ => by rfl) (fun _ => V.bLPick) (fun _ => V.FLPick.kp) (fun _ => V.BLPick) .nil (fun _ _ => .nil) (fun _ => takes_of rfl rfl rfl rfl) (sa_io (fun _ => pv 0) (sa_val (sd_callB (ad_len (fun _ => rfl)) (fun _ => by rfl) (fun _ => V.m_len) PySem.boot_len (sbs_cons (sb_of (se_ix (fun _ => rfl) (fun j => (hr).u65) (sb_var (fun _ => pv 1)) (sb_of (se_int)) (fun _ _ => rfl) (fun _ _ => rfl))) (sbs_nil))) (sa_nil))) (al_io (al_val al_nil)))) (fun _ _ => rfl) (fun _ _ => rfl)))
    (sss_cons (ss_set (i := 4) (fun _ => ndLOddWords) (fun _ => rfl) (fun _ => .inl rfl) (so_se (so_lst (sas_cons (se_tup (sas_cons (se_var (fun _ => pv 2)) (sas_nil))) (sas_cons (se_tup (sas_cons (se_var (fun _ => pv 3)) (sas_cons (se_var (fun _ => pv 2)) (sas_nil)))) (sas_cons (se_tup (sas_cons (se_var (fun _ => pv 2)) (sas_cons (se_var (fun _ => pv 3)) (sas_cons (se_var (fun _ => pv 3)) (sas_nil))))) (sas_cons (se_tup (sas_cons (se_str) (sas_nil))) (sas_cons (se_tup (sas_cons (se_var (fun _ => pv 2)) (sas_cons (se_str) (sas_cons (se_var (fun _ => pv 3)) (sas_nil))))) (sas_cons (se_bin (ad_mul (fun _ => rfl)) (sb_of (se_tup (sas_cons (se_var (fun _ => pv 2)) (sas_cons (se_var (fun _ => pv 3)) (sas_nil))))) (sb_of (se_int))) (sas_cons (se_bin (ad_mul (fun _ => rfl)) (sb_of (se_tup (sas_cons (se_var (fun _ => pv 2)) (sas_cons (se_var (fun _ => pv 3)) (sas_nil))))) (sb_of (se_int))) (sas_cons (so_se (so_lst (sas_cons (se_var (fun _ => pv 2)) (sas_cons (se_var (fun _ => pv 3)) (sas_nil))))) (sas_cons (se_str) (sas_cons (se_non) (sas_cons (se_tup (sas_cons (se_var (fun _ => pv 2)) (sas_cons (se_int) (sas_cons (se_var (fun _ => pv 3)) (sas_nil))))) (sas_nil)))))))))))))))
    (sss_cons (ss_set (i := 4) (fun _ => ndLOddWords) (fun _ => rfl) (fun _ => .inl rfl) (se_bin (ad_add (fun _ => rfl)) (sb_var (fun _ => pv 4)) (sb_of (so_se (so_lst (sas_cons (se_tup (sas_cons (se_var (fun _ => pv 2)) (sas_cons (se_var (fun _ => pv 2)) (sas_cons (se_var (fun _ => pv 3)) (sas_cons (se_var (fun _ => pv 3)) (sas_nil)))))) (sas_cons (se_bin (ad_add (fun _ => rfl)) (sb_of (se_bin (ad_mul (fun _ => rfl)) (sb_of (se_tup (sas_cons (se_var (fun _ => pv 2)) (sas_nil)))) (sb_of (se_int)))) (sb_of (se_bin (ad_mul (fun _ => rfl)) (sb_of (se_tup (sas_cons (se_var (fun _ => pv 3)) (sas_nil)))) (sb_of (se_int))))) (sas_cons (se_tup (sas_cons (se_int) (sas_nil))) (sas_cons (se_tup (sas_cons (se_tup (sas_cons (se_var (fun _ => pv 2)) (sas_cons (se_var (fun _ => pv 3)) (sas_nil)))) (sas_nil))) (sas_cons (se_var (fun _ => pv 2)) (sas_cons (se_tup (sas_cons (so_se (so_lst (sas_nil))) (sas_nil))) (sas_cons (se_tup (sas_cons (so_se (so_lst (sas_cons (se_var (fun _ => pv 2)) (sas_nil)))) (sas_cons (se_var (fun _ => pv 3)) (sas_nil)))) (sas_cons (so_se (so_lst (sas_nil))) (sas_cons (se_tup (sas_cons (se_non) (sas_cons (se_var (fun _ => pv 3)) (sas_nil)))) (sas_nil)))))))))))))))
    (sss_cons (ss_set (i := 4) (fun _ => ndLOddWords) (fun _ => rfl) (fun _ => .inl rfl) (se_bin (ad_add (fun _ => rfl)) (sb_var (fun _ => pv 4)) (sb_of (so_se (so_lst (sas_cons (se_bin (ad_add (fun _ => rfl)) (sb_of (se_bin (ad_mul (fun _ => rfl)) (sb_of (se_tup (sas_cons (se_var (fun _ => pv 2)) (sas_cons (se_var (fun _ => pv 3)) (sas_nil))))) (sb_of (se_int)))) (sb_of (se_sl (fun _ => rfl) (sb_of (se_ix (fun _ => rfl) (fun j => (hr).u65) (sb_var (fun _ => pv 1)) (sb_of (se_int)) (fun _ _ => rfl) (fun _ _ => rfl))) (sp_none) (sp_some (se_int))))) (sas_cons (se_bin (ad_add (fun _ => rfl)) (sb_of (se_bin (ad_mul (fun _ => rfl)) (sb_of (se_tup (sas_cons (se_var (fun _ => pv 2)) (sas_cons (se_var (fun _ => pv 3)) (sas_nil))))) (sb_of (se_int)))) (sb_of (se_bin (ad_mul (fun _ => rfl)) (sb_of (se_sl (fun _ => rfl) (sb_of (se_ix (fun _ => rfl) (fun j => (hr).u65) (sb_var (fun _ => pv 1)) (sb_of (se_int)) (fun _ _ => rfl) (fun _ _ => rfl))) (sp_none) (sp_some (se_int)))) (sb_of (se_int))))) (sas_cons (se_bin (ad_add (fun _ => rfl)) (sb_of (se_bin (ad_mul (fun _ => rfl)) (sb_of (se_tup (sas_cons (se_var (fun _ => pv 2)) (sas_cons (se_var (fun _ => pv 3)) (sas_nil))))) (sb_of (se_int)))) (sb_of (se_sl (fun _ => rfl) (sb_of (se_ix (fun _ => rfl) (fun j => (hr).u65) (sb_var (fun _ => pv 1)) (sb_of (se_int)) (fun _ _ => rfl) (fun _ _ => rfl))) (sp_none) (sp_some (se_int))))) (sas_nil)))))))))
    (sss_one (ss_ret (se_tup (sas_cons (se_str) (sas_cons (se_ix (fun _ => rfl) (fun j => (hr).u65) (sb_var (fun _ => pv 4)) (sb_of (se_call (fun _ => okLPick V) (fun j => (hr).mono (by omega)) (fun _ => by rfl) (fun _ => V.bLPick) (fun _ => V.FLPick.kp) (fun _ => V.BLPick) .nil (fun _ _ => .nil) (fun _ => takes_of rfl rfl rfl rfl) (sa_io (fun _ => pv 0) (sa_val (sd_callB (ad_len (fun _ => rfl)) (fun _ => by rfl) (fun _ => V.m_len) PySem.boot_len (sbs_cons (sb_var (fun _ => pv 4)) (sbs_nil))) (sa_nil))) (al_io (al_val al_nil)))) (fun _ _ => rfl) (fun _ _ => rfl)) (sas_nil))))))))))
end Dl
set_option Elab.async false
set_option linter.all false
set_option maxRecDepth 100000
set_option maxHeartbeats 4000000
namespace Dl
open PySem PySem.Spec PyProof.Rows L2 Evl Gx GxR RZ
abbrev nLBent : List Str := ["pot", "sheet", "thing", "word", "at", "way", "some"]
theorem scLBent : FnScope nLBent ["pot", "sheet", "thing"] (defScope sLBent) := ⟨rfl, rfl, rfl, by decide +kernel, rfl, by decide +kernel, by decide +kernel⟩
theorem ndLBent : nLBent.Nodup := scLBent.nd
theorem okLBent {P : Program} {w : World} {K : PySem.W.Frag} {mg : Str → Option Value} {base : Heap} (V : EnvL K mg base) : ∀ n : Nat, FnOk P w K mg base (L2.CX P w) (1 * n + 4) V.fLBent V.dLBent ["pot", "sheet", "thing"] (spD K V.TS V.ca 3 (dLBent n))
  | 0 => fn_D (N := nLBent) (ps := ["pot", "sheet", "thing"]) (k := 3) (G := gBad) V.TS V.ca V.FLBent scLBent fun c1 c2 c3 c4 c5 c6 c7 c8 => sss_bad
  | n + 1 =>
    have RG : FnOk P w K mg base (L2.CX P w) (1 * n + 4) V.fLBent V.dLBent ["pot", "sheet", "thing"] (spD K V.TS V.ca 3 (dLBent n)) := okLBent V n
    fn_D (N := nLBent) (ps := ["pot", "sheet", "thing"]) (k := 1 * n + 1 + 3) (G := gLBent (dLBent n)) V.TS V.ca V.FLBent scLBent fun cdv A outer s H vs E hr =>
    sss_cons (ss_set (i := 3) (fun _ => ndLBent) (fun _ => rfl) (fun _ => .inl rfl) (se_ix (fun _ => rfl) (fun j => (hr).u65) (sb_var (fun _ => pv 2)) (sb_of (se_int)) (fun _ _ => rfl) (fun _ _ => rfl)))
    (sss_cons (ss_if (st_w (sw_and (st_cmp (ad_eq (fun _ => rfl) (fun j => (hr).units)) (sb_var (fun _ => pv 3)) (sb_of (se_str)) (nomark _)) (sw_and (st_cmp (ad_ne (fun _ => rfl) (fun j => (hr).units)) (sb_of (se_ix (fun _ => rfl) (fun j => (hr).u65) (sb_var (fun _ => pv 2)) (sb_of (se_int)) (fun _ _ => rfl) (fun _ _ => rfl))) (sb_of (se_tup (sas_nil))) (nomark _)) (sw_and1 (st_cmp (ad_gt) (sb_of (se_call (fun _ => okLPick V) (fun j => (hr).mono (by omega)) (fun _ => by rfl) (fun _ => V.bLPick) (fun _ => V.FLPick.kp) (fun _ => V.BLPick) .nil (fun _ _ => .nil) (fun _ => takes_of rfl rfl rfl rfl) (sa_io (fun _ => pv 0) (sa_val (se_int) (sa_nil))) (al_io (al_val al_nil)))) (sb_of (se_int)) (nomark _)))))) (sss_cons (ss_set (i := 4) (fun _ => ndLBent) (fun _ => rfl) (fun _ => .inl rfl) (se_call (fun _ => okLPick V) (fun j => (hr).mono (by omega)) (fun _ => by rfl) (fun _ => V.bLPick) (fun _ => V.FLPick.kp) (fun _ => V.BLPick) .nil (fun _ _ => .nil) (fun _ => takes_of rfl rfl rfl rfl) (sa_io (fun _ => pv 0) (sa_val (sd_callB (ad_len (fun _ => rfl)) (fun _ => by rfl) (fun _ => V.m_len) PySem.boot_len (sbs_cons (sb_of (se_ix (fun _ => rfl) (fun j => (hr).u65) (sb_var (fun _ => pv 2)) (sb_of (se_int)) (fun _ _ => rfl) (fun _ _ => rfl))) (sbs_nil))) (sa_nil))) (al_io (al_val al_nil))))
    (sss_one (ss_ret (se_tup (sas_cons (se_str) (sas_cons (se_bin (ad_add (fun _ => rfl)) (sb_of (se_bin (ad_add (fun _ => rfl)) (sb_of (se_sl (fun _ => rfl) (sb_of (se_ix (fun _ => rfl) (fun j => (hr).u65) (sb_var (fun _ => pv 2)) (sb_of (se_int)) (fun _ _ => rfl) (fun _ _ => rfl))) (sp_none) (sp_some (se_var (fun _ => pv 4))))) (sb_of (se_tup (sas_cons (se_call (fun _ => RG) (fun j => (hr).mono (by omega)) (fun _ => by rfl) (fun _ => V.bLBent) (fun _ => V.FLBent.kp) (fun _ => V.BLBent) .nil (fun _ _ => .nil) (fun _ => takes_of rfl rfl rfl rfl) (sa_io (fun _ => pv 0) (sa_var (fun _ => pv 1) (sa_val (se_ix (fun _ => rfl) (fun j => (hr).u65) (sb_of (se_ix (fun _ => rfl) (fun j => (hr).u65) (sb_var (fun _ => pv 2)) (sb_of (se_int)) (fun _ _ => rfl) (fun _ _ => rfl))) (sb_var (fun _ => pv 4)) (fun _ _ => rfl) (fun _ _ => rfl)) (sa_nil)))) (al_io (al_var (al_val al_nil)))) (sas_nil)))))) (sb_of (se_sl (fun _ => rfl) (sb_of (se_ix (fun _ => rfl) (fun j => (hr).u65) (sb_var (fun _ => pv 2)) (sb_of (se_int)) (fun _ _ => rfl) (fun _ _ => rfl))) (sp_some (se_bin (ad_add (fun _ => rfl)) (sb_var (fun _ => pv 4)) (sb_of (se_int)))) (sp_none)))) (sas_nil))))))) (sss_nil))
    (sss_cons (ss_if (st_w (sw_and (st_cmp (ad_eq (fun _ => rfl) (fun j => (hr).units)) (sb_var (fun _ => pv 3)) (sb_of (se_str)) (nomark _)) (sw_and1 (st_cmp (ad_eq (fun _ => rfl) (fun j => (hr).units)) (sb_of (se_call (fun _ => okLPick V) (fun j => (hr).mono (by omega)) (fun _ => by rfl) (fun _ => V.bLPick) (fun _ => V.FLPick.kp) (fun _ => V.BLPick) .nil (fun _ _ => .nil) (fun _ => takes_of rfl rfl rfl rfl) (sa_io (fun _ => pv 0) (sa_val (se_int) (sa_nil))) (al_io (al_val al_nil)))) (sb_of (se_int)) (nomark _))))) (sss_one (ss_ret (se_bin (ad_add (fun _ => rfl)) (sb_of (se_sl (fun _ => rfl) (sb_var (fun _ => pv 2)) (sp_none) (sp_some (se_int)))) (sb_of (se_tup (sas_cons (se_call (fun _ => RG) (fun j => (hr).mono (by omega)) (fun _ => by rfl) (fun _ => V.bLBent) (fun _ => V.FLBent.kp) (fun _ => V.BLBent) .nil (fun _ _ => .nil) (fun _ => takes_of rfl rfl rfl rfl) (sa_io (fun _ => pv 0) (sa_var (fun _ => pv 1) (sa_val (se_ix (fun _ => rfl) (fun j => (hr).u65) (sb_var (fun _ => pv 2)) (sb_of (se_int)) (fun _ _ => rfl) (fun _ _ => rfl)) (sa_nil)))) (al_io (al_var (al_val al_nil)))) (sas_nil))))))) (sss_nil))
    (sss_cons (ss_if (st_w (sw_and (st_cmp (ad_eq (fun _ => rfl) (fun j => (hr).units)) (sb_var (fun _ => pv 3)) (sb_of (se_str)) (nomark _)) (sw_and1 (st_cmp (ad_eq (fun _ => rfl) (fun j => (hr).units)) (sb_of (se_call (fun _ => okLPick V) (fun j => (hr).mono (by omega)) (fun _ => by rfl) (fun _ => V.bLPick) (fun _ => V.FLPick.kp) (fun _ => V.BLPick) .nil (fun _ _ => .nil) (fun _ => takes_of rfl rfl rfl rfl) (sa_io (fun _ => pv 0) (sa_val (se_int) (sa_nil))) (al_io (al_val al_nil)))) (sb_of (se_int)) (nomark _))))) (sss_one (ss_ret (se_bin (ad_add (fun _ => rfl)) (sb_of (se_sl (fun _ => rfl) (sb_var (fun _ => pv 2)) (sp_none) (sp_some (se_int)))) (sb_of (se_tup (sas_cons (se_call (fun _ => RG) (fun j => (hr).mono (by omega)) (fun _ => by rfl) (fun _ => V.bLBent) (fun _ => V.FLBent.kp) (fun _ => V.BLBent) .nil (fun _ _ => .nil) (fun _ => takes_of rfl rfl rfl rfl) (sa_io (fun _ => pv 0) (sa_var (fun _ => pv 1) (sa_val (se_ix (fun _ => rfl) (fun j => (hr).u65) (sb_var (fun _ => pv 2)) (sb_of (se_int)) (fun _ _ => rfl) (fun _ _ => rfl)) (sa_nil)))) (al_io (al_var (al_val al_nil)))) (sas_cons (se_ix (fun _ => rfl) (fun j => (hr).u65) (sb_var (fun _ => pv 2)) (sb_of (se_int)) (fun _ _ => rfl) (fun _ _ => rfl)) (sas_nil)))))))) (sss_nil))
    (sss_cons (ss_set (i := 5) (fun _ => ndLBent) (fun _ => rfl) (fun _ => .inl rfl) (se_call (fun _ => okLPick V) (fun j => (hr).mono (by omega)) (fun _ => by rfl) (fun _ => V.bLPick) (fun _ => V.FLPick.kp) (fun _ => V.BLPick) .nil (fun _ _ => .nil) (fun _ => takes_of rfl rfl rfl rfl) (sa_io (fun _ => pv 0) (sa_val (se_int) (sa_nil))) (al_io (al_val al_nil))))
    (sss_cons (ss_if (st_cmp (ad_eq (fun _ => rfl) (fun j => (hr).units)) (sb_var (fun _ => pv 5)) (sb_of (se_int)) (nomark _)) (sss_one (ss_retX (sx_call (fun _ => okLOddWords V) (fun j => (hr).mono (by omega)) (fun _ => by rfl) (fun _ => V.bLOddWords) (fun _ => V.FLOddWords.kp) (fun _ => V.BLOddWords) .nil (fun _ _ => .nil) (fun _ => takes_of rfl rfl rfl rfl) (sa_io (fun _ => pv 0) (sa_var (fun _ => pv 1) (sa_nil))) (al_io (al_var al_nil))))) (sss_nil))
    (sss_cons (ss_if (st_cmp (ad_eq (fun _ => rfl) (fun j => (hr).units)) (sb_var (fun _ => pv 5)) (sb_of (se_int)) (nomark _)) (sss_one (ss_ret (se_bin (ad_add (fun _ => rfl)) (sb_of (se_tup (sas_cons (se_ix (fun _ => rfl) (fun j => (hr).u65) (sb_of (so_se (so_lst (sas_cons (se_str) (sas_cons (se_str) (sas_cons (se_str) (sas_cons (se_str) (sas_cons (se_str) (sas_cons (se_int) (sas_cons (se_non) (sas_cons (so_se (so_lst (sas_nil))) (sas_cons (so_se (so_lst (sas_cons (se_str) (sas_nil)))) (sas_nil))))))))))))) (sb_of (se_call (fun _ => okLPick V) (fun j => (hr).mono (by omega)) (fun _ => by rfl) (fun _ => V.bLPick) (fun _ => V.FLPick.kp) (fun _ => V.BLPick) .nil (fun _ _ => .nil) (fun _ => takes_of rfl rfl rfl rfl) (sa_io (fun _ => pv 0) (sa_val (se_int) (sa_nil))) (al_io (al_val al_nil)))) (fun _ _ => rfl) (fun _ _ => rfl)) (sas_nil)))) (sb_of (se_sl (fun _ => rfl) (sb_var (fun _ => pv 2)) (sp_some (se_int)) (sp_none)))))) (sss_nil))
    (sss_cons (ss_if (st_cmp (ad_eq (fun _ => rfl) (fun j => (hr).units)) (sb_var (fun _ => pv 5)) (sb_of (se_int)) (nomark _)) (sss_one (ss_ret (se_bin (ad_add (fun _ => rfl)) (sb_var (fun _ => pv 2)) (sb_of (se_tup (sas_cons (se_ix (fun _ => rfl) (fun j => (hr).u65) (sb_var (fun _ => pv 2)) (sb_of (se_neg (sb_of (se_int)))) (fun _ _ => rfl) (fun _ _ => rfl)) (sas_nil))))))) (sss_nil))
    (sss_cons (ss_if (st_cmp (ad_eq (fun _ => rfl) (fun j => (hr).units)) (sb_var (fun _ => pv 5)) (sb_of (se_int)) (nomark _)) (sss_one (ss_ret (se_sl (fun _ => rfl) (sb_var (fun _ => pv 2)) (sp_none) (sp_some (se_neg (sb_of (se_int))))))) (sss_nil))
    (sss_cons (ss_if (st_cmp (ad_eq (fun _ => rfl) (fun j => (hr).units)) (sb_var (fun _ => pv 5)) (sb_of (se_int)) (nomark _)) (sss_one (ss_retX (sx_so (sd_callTy (ad_list (fun _ => rfl)) (fun _ => by rfl) (fun _ => V.m_list) (by decide +kernel) (sbs_cons (sb_var (fun _ => pv 2)) (sbs_nil)))))) (sss_nil))
    (sss_cons (ss_set (i := 4) (fun _ => ndLBent) (fun _ => rfl) (fun _ => .inl rfl) (se_bin (ad_add (fun _ => rfl)) (sb_of (se_int)) (sb_of (se_call (fun _ => okLPick V) (fun j => (hr).mono (by omega)) (fun _ => by rfl) (fun _ => V.bLPick) (fun _ => V.FLPick.kp) (fun _ => V.BLPick) .nil (fun _ _ => .nil) (fun _ => takes_of rfl rfl rfl rfl) (sa_io (fun _ => pv 0) (sa_val (se_bin (ad_sub) (sb_of (sd_callB (ad_len (fun _ => rfl)) (fun _ => by rfl) (fun _ => V.m_len) PySem.boot_len (sbs_cons (sb_var (fun _ => pv 2)) (sbs_nil)))) (sb_of (se_int))) (sa_nil))) (al_io (al_val al_nil))))))
    (sss_cons (ss_set (i := 6) (fun _ => ndLBent) (fun _ => rfl) (fun _ => .inl rfl) (so_se (so_lst (sas_cons (se_bin (ad_pow) (sb_of (se_int)) (sb_of (se_int))) (sas_cons (se_bin (ad_add (fun _ => rfl)) (sb_of (se_bin (ad_pow) (sb_of (se_int)) (sb_of (se_int)))) (sb_of (se_int))) (sas_cons (se_neg (sb_of (se_int))) (sas_cons (se_bl) (sas_cons (se_str) (sas_cons (se_non) (sas_cons (se_tup (sas_nil)) (sas_cons (so_se (so_lst (sas_nil))) (sas_cons (se_ix (fun _ => rfl) (fun j => (hr).u65) (sb_of (se_ix (fun _ => rfl) (fun j => (hr).u65) (sb_var (fun _ => pv 1)) (sb_of (se_int)) (fun _ _ => rfl) (fun _ _ => rfl))) (sb_of (se_neg (sb_of (se_int)))) (fun _ _ => rfl) (fun _ _ => rfl)) (sas_cons (se_ix (fun _ => rfl) (fun j => (hr).u65) (sb_of (se_ix (fun _ => rfl) (fun j => (hr).u65) (sb_var (fun _ => pv 1)) (sb_of (se_int)) (fun _ _ => rfl) (fun _ _ => rfl))) (sb_of (se_int)) (fun _ _ => rfl) (fun _ _ => rfl)) (sas_cons (se_str) (sas_cons (se_var (fun _ => pv 2)) (sas_cons (se_tup (sas_cons (se_str) (sas_cons (se_tup (sas_nil)) (sas_nil)))) (sas_nil)))))))))))))))))
    (sss_cons (ss_set (i := 6) (fun _ => ndLBent) (fun _ => rfl) (fun _ => .inl rfl) (se_bin (ad_add (fun _ => rfl)) (sb_var (fun _ => pv 6)) (sb_of (so_se (so_lst (sas_cons (se_bin (ad_mul (fun _ => rfl)) (sb_of (se_tup (sas_cons (se_tup (sas_cons (se_str) (sas_cons (se_tup (sas_nil)) (sas_nil)))) (sas_nil)))) (sb_of (se_int))) (sas_cons (se_bin (ad_mul (fun _ => rfl)) (sb_of (se_tup (sas_cons (se_tup (sas_cons (se_str) (sas_cons (se_tup (sas_nil)) (sas_nil)))) (sas_nil)))) (sb_of (se_int))) (sas_cons (so_se (so_lst (sas_cons (se_tup (sas_cons (se_str) (sas_cons (se_tup (sas_nil)) (sas_nil)))) (sas_nil)))) (sas_cons (so_se (so_lst (sas_cons (se_ix (fun _ => rfl) (fun j => (hr).u65) (sb_of (se_ix (fun _ => rfl) (fun j => (hr).u65) (sb_var (fun _ => pv 1)) (sb_of (se_int)) (fun _ _ => rfl) (fun _ _ => rfl))) (sb_of (se_int)) (fun _ _ => rfl) (fun _ _ => rfl)) (sas_nil)))) (sas_nil))))))))))
    (sss_cons (ss_set (i := 6) (fun _ => ndLBent) (fun _ => rfl) (fun _ => .inl rfl) (se_bin (ad_add (fun _ => rfl)) (sb_var (fun _ => pv 6)) (sb_of (so_se (sd_callTy (ad_list (fun _ => rfl)) (fun _ => by rfl) (fun _ => V.m_list) (by decide +kernel) (sbs_cons (sb_of (se_sl (fun _ => rfl) (sb_of (se_ix (fun _ => rfl) (fun j => (hr).u65) (sb_var (fun _ => pv 1)) (sb_of (se_int)) (fun _ _ => rfl) (fun _ _ => rfl))) (sp_none) (sp_some (se_int)))) (sbs_nil)))))))
    (sss_one (ss_ret (se_bin (ad_add (fun _ => rfl)) (sb_of (se_bin (ad_add (fun _ => rfl)) (sb_of (se_sl (fun _ => rfl) (sb_var (fun _ => pv 2)) (sp_none) (sp_some (se_var (fun _ => pv 4))))) (sb_of (se_tup (sas_cons (se_ix (fun _ => rfl) (fun j => (hr).u65) (sb_var (fun _ => pv 6)) (sb_of (se_call (fun _ => okLPick V) (fun j => (hr).mono (by omega)) (fun _ => by rfl) (fun _ => V.bLPick) (fun _ => V.FLPick.kp) (fun _ => V.BLPick) .nil (fun _ _ => .nil) (fun _ => takes_of rfl rfl rfl rfl) (sa_io (fun _ => pv 0) (sa_val (sd_callB (ad_len (fun _ => rfl)) (fun _ => by rfl) (fun _ => V.m_len) PySem.boot_len (sbs_cons (sb_var (fun _ => pv 6)) (sbs_nil))) (sa_nil))) (al_io (al_val al_nil)))) (fun _ _ => rfl) (fun _ _ => rfl)) (sas_nil)))))) (sb_of (se_sl (fun _ => rfl) (sb_var (fun _ => pv 2)) (sp_some (se_bin (ad_add (fun _ => rfl)) (sb_var (fun _ => pv 4)) (sb_of (se_int)))) (sp_none)))))))))))))))))))
end Dl
set_option Elab.async false
set_option linter.all false
set_option maxRecDepth 100000
set_option maxHeartbeats 4000000
namespace Dl
open PySem PySem.Spec PyProof.Rows L2 Evl Gx GxR RZ
abbrev nLAtBounds : List Str := ["pot", "sheet", "one", "found", "many", "deep", "k", "around", "four"]
theorem scLAtBounds : FnScope nLAtBounds ["pot", "sheet"] (defScope sLAtBounds) := ⟨rfl, rfl, rfl, by decide +kernel, rfl, by decide +kernel, by decide +kernel⟩
theorem ndLAtBounds : nLAtBounds.Nodup := scLAtBounds.nd
theorem okLAtBounds {P : Program} {w : World} {K : PySem.W.Frag} {mg : Str → Option Value} {base : Heap} (V : EnvL K mg base) : FnOk P w K mg base (L2.CX P w) 3 V.fLAtBounds V.dLAtBounds ["pot", "sheet"] (spD K V.TS V.ca 2 (dLAtBounds)) :=
  fn_D (N := nLAtBounds) (ps := ["pot", "sheet"]) (k := 2) (G := gLAtBounds) V.TS V.ca V.FLAtBounds scLAtBounds fun cdv A outer s H vs E hr =>
    sss_cons (ss_set (i := 2) (fun _ => ndLAtBounds) (fun _ => rfl) (fun _ => .inl rfl) (se_tup (sas_cons (se_str) (sas_cons (se_tup (sas_cons (se_ix (fun _ => rfl) (fun j => (hr).u65) (sb_of (se_ix (fun _ => rfl) (fun j => (hr).u65) (sb_var (fun _ => pv 1)) (sb_of (se_int)) (fun _ _ => rfl) (fun _ _ => rfl))) (sb_of (se_int)) (fun _ _ => rfl) (fun _ _ => rfl)) (sas_cons (se_ix (fun _ => rfl) (fun j => (hr).u65) (sb_of (se_ix (fun _ => rfl) (fun j => (hr).u65) (sb_var (fun _ => pv 1)) (sb_of (se_int)) (fun _ _ => rfl) (fun _ _ => rfl))) (sb_of (se_int)) (fun _ _ => rfl) (fun _ _ => rfl)) (sas_nil)))) (sas_nil)))))
    (sss_cons (ss_setX (i := 3) (fun _ => ndLAtBounds) (fun _ => rfl) (fun _ => .inl rfl) (sx_so (so_lst (sas_nil))))
    (sss_cons (ss_for (fun _ => passes_of rfl) (fun _ => rfl) (si_b (fun _ => rfl) (sb_of (so_se (so_lst (sas_cons (se_int) (sas_cons (se_int) (sas_nil))))))) (sg_name (i := 4) (fun _ => ndLAtBounds) (fun _ => rfl) (fun _ => .inl rfl)) (sss_cons (ss_set (i := 5) (fun _ => ndLAtBounds) (fun _ => rfl) (fun _ => .inl rfl) (se_var (fun _ => pv 2)))
    (sss_cons (ss_for (fun _ => passes_of rfl) (fun _ => rfl) (si_range1 (fun _ => by rfl) (fun _ => V.m_range) (sas_cons (se_var (fun _ => pv 4)) (sas_nil))) (sg_name (i := 6) (fun _ => ndLAtBounds) (fun _ => rfl) (fun _ => .inl rfl)) (sss_cons (ss_set (i := 7) (fun _ => ndLAtBounds) (fun _ => rfl) (fun _ => .inl rfl) (so_se (so_lst (sas_cons (se_tup (sas_cons (se_str) (sas_cons (se_tup (sas_cons (se_var (fun _ => pv 5)) (sas_nil))) (sas_nil)))) (sas_cons (se_tup (sas_cons (se_str) (sas_cons (se_var (fun _ => pv 6)) (sas_cons (se_var (fun _ => pv 5)) (sas_nil))))) (sas_cons (se_tup (sas_cons (se_str) (sas_cons (se_bin (ad_sub) (sb_of (se_bin (ad_pow) (sb_of (se_int)) (sb_of (se_int)))) (sb_var (fun _ => pv 6))) (sas_cons (se_ix (fun _ => rfl) (fun j => (hr).u65) (sb_of (se_ix (fun _ => rfl) (fun j => (hr).u65) (sb_var (fun _ => pv 1)) (sb_of (se_int)) (fun _ _ => rfl) (fun _ _ => rfl))) (sb_of (se_neg (sb_of (se_int)))) (fun _ _ => rfl) (fun _ _ => rfl)) (sas_cons (se_var (fun _ => pv 5)) (sas_cons (se_ix (fun _ => rfl) (fun j => (hr).u65) (sb_of (se_ix (fun _ => rfl) (fun j => (hr).u65) (sb_var (fun _ => pv 1)) (sb_of (se_int)) (fun _ _ => rfl) (fun _ _ => rfl))) (sb_of (se_neg (sb_of (se_int)))) (fun _ _ => rfl) (fun _ _ => rfl)) (sas_nil))))))) (sas_nil)))))))
    (sss_one (ss_set (i := 5) (fun _ => ndLAtBounds) (fun _ => rfl) (fun _ => .inl rfl) (se_ix (fun _ => rfl) (fun j => (hr).u65) (sb_var (fun _ => pv 7)) (sb_of (se_call (fun _ => okLPick V) (fun j => (hr).mono (by omega)) (fun _ => by rfl) (fun _ => V.bLPick) (fun _ => V.FLPick.kp) (fun _ => V.BLPick) .nil (fun _ _ => .nil) (fun _ => takes_of rfl rfl rfl rfl) (sa_io (fun _ => pv 0) (sa_val (se_int) (sa_nil))) (al_io (al_val al_nil)))) (fun _ _ => rfl) (fun _ _ => rfl))))))
    (sss_one (ss_expr (se_mut (.inl rfl) (fun _ => rfl) PySem.F.plainAttrs_list PySem.F.slot_list_append PySem.F.type_list_append am_append (fun _ => pv 3) (sas_cons (se_var (fun _ => pv 5)) (sas_nil))))))))
    (sss_cons (ss_set (i := 8) (fun _ => ndLAtBounds) (fun _ => rfl) (fun _ => .inl rfl) (se_tup (sas_cons (se_str) (sas_cons (se_bin (ad_mul (fun _ => rfl)) (sb_of (se_tup (sas_cons (se_var (fun _ => pv 2)) (sas_nil)))) (sb_of (se_int))) (sas_nil)))))
    (sss_cons (ss_expr (se_mut (.inl rfl) (fun _ => rfl) PySem.F.plainAttrs_list PySem.F.slot_list_append PySem.F.type_list_append am_append (fun _ => pv 3) (sas_cons (se_tup (sas_cons (se_str) (sas_cons (se_bin (ad_add (fun _ => rfl)) (sb_of (se_bin (ad_mul (fun _ => rfl)) (sb_of (se_tup (sas_cons (se_var (fun _ => pv 8)) (sas_nil)))) (sb_of (se_int)))) (sb_of (se_tup (sas_cons (se_tup (sas_cons (se_str) (sas_cons (se_bin (ad_mul (fun _ => rfl)) (sb_of (se_tup (sas_cons (se_var (fun _ => pv 2)) (sas_nil)))) (sb_of (se_int))) (sas_nil)))) (sas_nil))))) (sas_nil)))) (sas_nil))))
    (sss_cons (ss_expr (se_mut (.inl rfl) (fun _ => rfl) PySem.F.plainAttrs_list PySem.F.slot_list_append PySem.F.type_list_append am_append (fun _ => pv 3) (sas_cons (se_tup (sas_cons (se_str) (sas_cons (se_bin (ad_mul (fun _ => rfl)) (sb_of (se_tup (sas_cons (se_var (fun _ => pv 8)) (sas_nil)))) (sb_of (se_int))) (sas_nil)))) (sas_nil))))
    (sss_one (ss_retX (sx_move (fun _ => pv 3)))))))))
end Dl

set_option Elab.async false
set_option linter.all false
set_option maxRecDepth 100000
set_option maxHeartbeats 4000000
namespace Dl
open PySem PySem.Spec PyProof.Rows L2 Evl Gx GxR RZ
abbrev nLaw : List Str := ["script", "pot", "sheet", "other", "things", "turn", "great", "thing", "before", "some", "told", "k"]
theorem scLaw : FnScope nLaw ["script"] (defScope sLaw) := ⟨rfl, rfl, rfl, by decide +kernel, rfl, by decide +kernel, by decide +kernel⟩
theorem ndLaw : nLaw.Nodup := scLaw.nd
theorem tieLaw {P : Program} {w : World} {K : PySem.W.Frag} {mg : Str → Option Value} {base : Heap} (V : EnvL K mg base) (mrepr : mg "repr" = none) {f : Addr} {cdv : Value} {A : Around} {outer : List Env} {s : Shared} {H : Hp} {vs : List L2.V} {E : XK}
    (hr : Room 30 (A.deeper (envOfC "law" (defScope sLaw) s.heap.objs.size f cdv))) (hgd : (A.deeper (envOfC "law" (defScope sLaw) s.heap.objs.size f cdv)).guards = some []) :
    SSs ⟨K, vs, V.TS, V.ca⟩ (fun cls d _ H' => E cls d H') (fun _ : Unit => cxOf (L2.CX P w) P w K mg base nLaw "law" (defScope sLaw) f cdv A outer s H E) ((defBody sLaw).tail) gLaw :=
  sss_cons (ss_set (i := 2) (fun _ => ndLaw) (fun _ => rfl) (fun _ => .inr rfl) (se_call (fun _ => okLSheet V) (fun j => (hr).mono (by omega)) (fun _ => by rfl) (fun _ => V.bLSheet) (fun _ => V.FLSheet.kp) (fun _ => V.BLSheet) .nil (fun _ _ => .nil) (fun _ => takes_of rfl rfl rfl rfl) (sa_io (fun _ => pv 1) (sa_val (se_int) (sa_nil))) (al_io (al_val al_nil))))
    (sss_cons (ss_set (i := 3) (fun _ => ndLaw) (fun _ => rfl) (fun _ => .inl rfl) (se_tup (sas_cons (se_sl (fun _ => rfl) (sb_of (se_ix (fun _ => rfl) (fun j => (hr).u65) (sb_var (fun _ => pv 2)) (sb_of (se_int)) (fun _ _ => rfl) (fun _ _ => rfl))) (sp_none) (sp_some (se_int))) (sas_cons (se_ix (fun _ => rfl) (fun j => (hr).u65) (sb_var (fun _ => pv 2)) (sb_of (se_int)) (fun _ _ => rfl) (fun _ _ => rfl)) (sas_cons (se_sl (fun _ => rfl) (sb_of (se_ix (fun _ => rfl) (fun j => (hr).u65) (sb_var (fun _ => pv 2)) (sb_of (se_int)) (fun _ _ => rfl) (fun _ _ => rfl))) (sp_some (se_neg (sb_of (se_int)))) (sp_none)) (sas_nil))))))
    (sss_cons (ss_set (i := 4) (fun _ => ndLaw) (fun _ => rfl) (fun _ => .inl rfl) (se_bin (ad_add (fun _ => rfl)) (sb_of (se_call (fun _ => okLAtBounds V) (fun j => (hr).mono (by omega)) (fun _ => by rfl) (fun _ => V.bLAtBounds) (fun _ => V.FLAtBounds.kp) (fun _ => V.BLAtBounds) .nil (fun _ _ => .nil) (fun _ => takes_of rfl rfl rfl rfl) (sa_io (fun _ => pv 1) (sa_var (fun _ => pv 2) (sa_nil))) (al_io (al_var al_nil)))) (sb_of (so_se (so_lst (sas_cons (se_non) (sas_cons (se_tup (sas_nil)) (sas_cons (se_str) (sas_cons (se_tup (sas_cons (se_str) (sas_nil))) (sas_cons (se_int) (sas_cons (se_tup (sas_cons (se_str) (sas_nil))) (sas_cons (se_tup (sas_cons (se_str) (sas_cons (se_int) (sas_nil)))) (sas_cons (se_tup (sas_cons (se_str) (sas_cons (se_tup (sas_nil)) (sas_cons (se_tup (sas_nil)) (sas_nil))))) (sas_nil))))))))))))))
    (sss_cons (ss_for (fun _ => passes_of rfl) (fun _ => rfl) (si_range1 (fun _ => by rfl) (fun _ => V.m_range) (sas_cons (se_int) (sas_nil))) (sg_name (i := 5) (fun _ => ndLaw) (fun _ => rfl) (fun _ => .inl rfl)) (sss_cons (ss_set (i := 6) (fun _ => ndLaw) (fun _ => rfl) (fun _ => .inr rfl) (se_call (fun _ => okLGreat V 4) (fun j => (hr).mono (by omega)) (fun _ => by rfl) (fun _ => V.bLGreat) (fun _ => V.FLGreat.kp) (fun _ => V.BLGreat) .nil (fun _ _ => .nil) (fun _ => takes_of rfl rfl rfl rfl) (sa_io (fun _ => pv 1) (sa_var (fun _ => pv 2) (sa_val (se_int) (sa_val (se_bl) (sa_nil))))) (al_io (al_var (al_val (al_val al_nil))))))
    (sss_cons (ss_if (st_cmp (ad_isntB) (sb_of (se_call (fun _ => okIsGreat V) (fun j => (hr).mono (by omega)) (fun _ => by rfl) (fun _ => V.bIsGreat) (fun _ => V.FIsGreat.kp) (fun _ => V.BIsGreat) .nil (fun _ _ => .nil) (fun _ => takes_of rfl rfl rfl rfl) (sa_var (fun _ => pv 2) (sa_var (fun _ => pv 6) (sa_nil))) (al_var (al_var al_nil)))) (sb_of (se_bl)) (nomark _)) (sss_one (ss_ret (se_bl))) (sss_nil))
    (sss_one (ss_set (i := 4) (fun _ => ndLaw) (fun _ => rfl) (fun _ => .inl rfl) (se_bin (ad_add (fun _ => rfl)) (sb_of (se_bin (ad_add (fun _ => rfl)) (sb_var (fun _ => pv 4)) (sb_of (so_se (so_lst (sas_cons (se_var (fun _ => pv 6)) (sas_nil))))))) (sb_of (so_se (so_lc (own := [("k", 11)]) (fun _ => rfl) (fun _ => ndLaw) (si_range1 (fun _ => by rfl) (fun _ => V.m_range) (sas_cons (se_int) (sas_nil))) (fun _ => blkOk_by (own := [("k", 11)]) (N := nLaw) (sc := defScope sLaw) (by decide +kernel)) (sg_name (i := 11) (fun _ => ndLaw) (fun _ => rfl) (fun _ => .inl rfl)) (sf_nil) (se_call (fun _ => okLBent V 5) (fun j => (hr).mono (by omega)) (fun _ => by rfl) (fun _ => V.bLBent) (fun _ => V.FLBent.kp) (fun _ => V.BLBent) .nil (fun _ _ => .nil) (fun _ => takes0) (sa_io (fun _ => pv 1) (sa_var (fun _ => pv 2) (sa_var (fun _ => pv 6) (sa_nil)))) (al_io (al_var (al_var al_nil)))) (by decide))))))))))
    (sss_cons (ss_for (fun _ => passes_of rfl) (fun _ => rfl) (si_b (fun _ => rfl) (sb_var (fun _ => pv 4))) (sg_name (i := 7) (fun _ => ndLaw) (fun _ => rfl) (fun _ => .inl rfl)) (sss_cons (ss_set (i := 8) (fun _ => ndLaw) (fun _ => rfl) (fun _ => .inl rfl) (sd_callB (ad_repr (fun _ => rfl) (fun _ => hr) (fun _ => hgd)) (fun _ => by rfl) (fun _ => mrepr) (by decide +kernel) (sbs_cons (sb_var (fun _ => pv 7)) (sbs_nil))))
    (sss_one (ss_for (fun _ => passes_of rfl) (fun _ => rfl) (si_b (fun _ => rfl) (sb_of (so_se (so_lst (sas_cons (se_var (fun _ => pv 2)) (sas_cons (se_var (fun _ => pv 3)) (sas_nil))))))) (sg_name (i := 9) (fun _ => ndLaw) (fun _ => rfl) (fun _ => .inl rfl)) (sss_one (ss_if (st_w (sw_or (st_not (st_val (fun _ => rfl) (sb_of (se_call (fun _ => okLSame V 12) (fun j => (hr).mono (by omega)) (fun _ => by rfl) (fun _ => V.bLSame) (fun _ => V.FLSame.kp) (fun _ => V.BLSame) .nil (fun _ _ => .nil) (fun _ => takes_of rfl rfl rfl rfl) (sa_val (se_call (fun _ => okIsGreat V) (fun j => (hr).mono (by omega)) (fun _ => by rfl) (fun _ => V.bIsGreat) (fun _ => V.FIsGreat.kp) (fun _ => V.BIsGreat) .nil (fun _ _ => .nil) (fun _ => takes_of rfl rfl rfl rfl) (sa_var (fun _ => pv 9) (sa_var (fun _ => pv 7) (sa_nil))) (al_var (al_var al_nil))) (sa_val (se_call (fun _ => okLDue V) (fun j => (hr).mono (by omega)) (fun _ => by rfl) (fun _ => V.bLDue) (fun _ => V.FLDue.kp) (fun _ => V.BLDue) .nil (fun _ _ => .nil) (fun _ => takes_of rfl rfl rfl rfl) (sa_var (fun _ => pv 9) (sa_var (fun _ => pv 7) (sa_nil))) (al_var (al_var al_nil))) (sa_nil))) (al_val (al_val al_nil)))) (fun _ _ => rfl))) (sw_or1 (st_cmp (ad_ne (fun _ => rfl) (fun j => (hr).units)) (sb_of (sd_callB (ad_repr (fun _ => rfl) (fun _ => hr) (fun _ => hgd)) (fun _ => by rfl) (fun _ => mrepr) (by decide +kernel) (sbs_cons (sb_var (fun _ => pv 7)) (sbs_nil)))) (sb_var (fun _ => pv 8)) (nomark _))))) (sss_one (ss_ret (se_bl))) (sss_nil)))))))
    (sss_cons (ss_setLc (i := 10) (own := [("thing", 7)]) (fun _ => rfl) (fun _ => ndLaw) (fun _ => rfl) (fun _ => rfl) (fun _ => sw_true rfl rfl rfl (by decide +kernel)) (si_b (fun _ => rfl) (sb_of (se_sl (fun _ => rfl) (sb_var (fun _ => pv 4)) (sp_none) (sp_some (se_int))))) (fun _ => blkOk_by (own := [("thing", 7)]) (N := nLaw) (sc := defScope sLaw) (by decide +kernel)) (sg_name (i := 7) (fun _ => ndLaw) (fun _ => rfl) (fun _ => .inl rfl)) (sf_nil) (se_call (fun _ => okLDue V) (fun j => (hr).mono (by omega)) (fun _ => by rfl) (fun _ => V.bLDue) (fun _ => V.FLDue.kp) (fun _ => V.BLDue) .nil (fun _ _ => .nil) (fun _ => takes0) (sa_var (fun _ => pv 2) (sa_var (fun _ => pv 7) (sa_nil))) (al_var (al_var al_nil))) (by decide))
    (sss_one (ss_ret (se_cmp (ad_eq (fun _ => rfl) (fun j => (hr).units)) (sb_var (fun _ => pv 10)) (sb_of (so_se (so_lst (sas_cons (se_bl) (sas_cons (se_bl) (sas_cons (se_bl) (sas_cons (se_bl) (sas_nil)))))))) (nomark _)))))))))
end Dl
set_option Elab.async false
set_option linter.all false
set_option maxRecDepth 100000
set_option maxHeartbeats 4000000
namespace Dl
open PySem PySem.Spec PyProof.Rows L2 Evl Gx GxR RZ Eh
/-- for i, x in enumerate(list) -/
theorem for_enum {K : PySem.W.Frag} {a : Addr} {xs : List V} {tb : TS} {D : Ends} {σ : L2.St} {H : Hp} {i1 i2 : Nat} (Pv : Nat → L2.St → Hp → Prop) (h0 : Pv 0 σ H) (hl : ∀ i σ H, i ≤ xs.length → Pv i σ H → SqL K H a xs)
    (hs : ∀ i x σ H T, xs[i]? = some x → Pv i σ H → H T = none → tb { D with nx := Pv (i + 1), ct := Pv (i + 1), bk := D.nx } ((σ.set i1 (some (.int (i : Nat)))).set i2 (some x)) (upd H T (.tup [.int (i : Nat), x])))
    (hd : ∀ σ H, Pv xs.length σ H → D.nx σ H) :
    ∃ W : Nat → Nat → L2.St → Hp → Prop, (∃ m, W 0 m σ H) ∧ ∀ i m σ H, W i m σ H →
      ((Ite K a).stop i H ∧ D.nx σ H) ∨ ((Ite K a).go i H ∧ ∃ N : L2.St → Hp → Prop, (∀ σ' H', N σ' H' → ∃ m', m' < m ∧ W (i + 1) m' σ' H') ∧ ∀ x H', (Ite K a).yld i H x H' → gTup K 2 (gCons (gName i1) (gCons (gName i2) gNil)) x σ H' fun σ2 H2 => tb { D with nx := N, ct := N, bk := D.nx } σ2 H2) := by
  refine ⟨fun i m σ H => m = xs.length - i ∧ i ≤ xs.length ∧ Pv i σ H, ⟨xs.length, by omega, Nat.zero_le _, h0⟩, ?_⟩
  rintro i m σ H ⟨rfl, hi, p⟩
  have q := hl i σ H hi p
  by_cases hlt : i < xs.length
  · refine .inr ⟨⟨xs, xs[i], q, List.getElem?_eq_getElem hlt⟩, Pv (i + 1), fun σ' H' p' => ⟨xs.length - (i + 1), by omega, rfl, hlt, p'⟩, fun v H' y => ?_⟩
    obtain ⟨T, x, rfl, nT, rfl, f⟩ := y
    exact ⟨T, [.int (i : Nat), x], rfl, st_of upd_same, rfl, _, _, rfl, _, _, rfl, rfl, hs i x σ H T (f xs q) p nT⟩
  · have e : i = xs.length := by omega
    subst e
    exact .inl ⟨⟨xs, q, Nat.le_refl _⟩, hd σ H p⟩
theorem cut0 (xs : List V) (n : Nat) : cutV xs none (some (n : Int)) = xs.take n := by
  unfold cutV
  rw [HT.sIx_none, HT.sIx_nat, List.drop_zero, Nat.sub_zero]
  rw [List.take_eq_take_iff]
  omega
theorem cutLH (xs : List V) (n m : Nat) : cutV xs (some (n : Int)) (some (m : Int)) = (xs.take m).drop n := by
  unfold cutV
  rw [HT.sIx_nat, HT.sIx_nat, List.drop_take]
  by_cases h : n ≤ xs.length
  · rw [Nat.min_eq_left h, List.take_eq_take_iff, List.length_drop]
    omega
  · rw [Nat.min_eq_right (show xs.length ≤ n by omega), List.drop_of_length_le (Nat.le_refl _), List.drop_of_length_le (show xs.length ≤ n by omega), List.take_nil, List.take_nil]
abbrev nLPot : List Str := ["script", "cells", "k", "cell"]
theorem scLPot : FnScope nLPot ["script"] (defScope sLPot) := ⟨rfl, rfl, rfl, by decide +kernel, rfl, by decide +kernel, by decide +kernel⟩
def spPot0 (K : PySem.W.Frag) : Sp := fun vs H Q _ => ∃ (a : Addr) (ns : List Int), vs = [.ref a] ∧ SqL K H a (ns.map V.int) ∧ ns.length ≤ 63 ∧ ∀ (p c : Addr) (ms : List Int) H', Ex H H' → ms.length ≤ 12 → c ≠ p → H' p = some (.lst [.ref c, .int 0, .int 0]) → H' c = some (.lst (ms.map V.int)) → H p = none → H c = none → Q (.ref p) H'
section
variable {P : Program} {w : World} {K : PySem.W.Frag} {mg : Str → Option Value} {base : Heap}
theorem ok_pot {f : Addr} {fd : FuncData} {k : Nat} (F : Fun K "_law_pot" "_law_pot" sLPot f fd) (ml : mg "list" = none) (me : mg "enumerate" = none) :
    FnOk P w K mg base CX0 (k + 1) f fd ["script"] (spPot0 K) := by
  have nd := scLPot.nd
  refine F.ok scLPot (fun vs H Q E h => ?_) (fun cdv A outer s H vs Q E hr h => ?_)
  · obtain ⟨a, ns, rfl, _⟩ := h
    rfl
  · obtain ⟨a, ns, rfl, hS, hl, q⟩ := h
    refine ⟨_, pss_cons (ps_set (i := 1) nd rfl (.inl rfl) (pe_callTy call_list_of (by rfl) ml (by decide +kernel) (pa_cons (pe_slice sl_list (pv 0) po_none (po_some pe_int)) pa_nil)))
      (pss_cons (ps_for PassesOwn.never rfl (pi_enum (by rfl) me (pa_cons (pe_slice sl_list (pv 0) (po_some pe_int) (po_some pe_int)) pa_nil)) (pg_tup rfl (pgs_cons (pg_name (i := 2) nd rfl (.inl rfl)) (pgs_cons (pg_name (i := 3) nd rfl (.inl rfl)) pgs_nil)))
         (pss_one (ps_asg (pe_op op_add (pe_ix ix_list (pv 1) (pe_op op_mod (pv 2) pe_int) (fun _ _ => rfl)) (pv 3)) (pg_sub (pv 1) (pe_op op_mod (pv 2) pe_int) set_list))))
      (pss_one (ps_ret (pe_lst (pa_cons (pv 1) (pa_cons pe_int (pa_cons pe_int pa_nil))))))), ?_⟩
    refine ⟨_, rfl, 12, rfl, a, _, rfl, hS, fun u hu => ⟨u, _, rfl, .inl (sq_of upd_same), fun c hc => ?_⟩⟩
    have hcu : c ≠ u := fun e => by
      rw [e, upd_same] at hc
      cases hc
    have hcH : H c = none := by rw [← hc, upd_ne hcu]
    have e1 : Ex H (upd (upd H u (.lst (cutV (ns.map V.int) none (some 12)))) c (.lst (cutV (ns.map V.int) none (some 12)))) := (Ex.new hu).trans (Ex.new hc)
    have ec : cutV (ns.map V.int) none (some 12) = (ns.take 12).map V.int := by
      rw [show (some 12 : Option Int) = some ((12 : Nat) : Int) from rfl, cut0, List.map_take]
    rw [ec] at e1
    rw [ec]
    generalize hH1 : upd (upd H u (.lst ((ns.take 12).map V.int))) c (.lst ((ns.take 12).map V.int)) = H1 at e1 ⊢
    have hc1 : H1 c = some (.lst ((ns.take 12).map V.int)) := by
      rw [← hH1]
      exact upd_same
    refine ⟨_, rfl, 12, rfl, 63, rfl, a, _, rfl, ex_l e1 hS, fun l nl => ?_⟩
    have es : cutV (ns.map V.int) (some 12) (some 63) = ((ns.take 63).drop 12).map V.int := by
      rw [show (some 12 : Option Int) = some ((12 : Nat) : Int) from rfl, show (some 63 : Option Int) = some ((63 : Nat) : Int) from rfl, cutLH, List.map_drop, List.map_take]
    rw [es]
    have nlc : l ≠ c := fun e => by
      rw [e, hc1] at nl
      cases nl
    refine ⟨l, _, rfl, sq_of upd_same, for_enum (xs := ((ns.take 63).drop 12).map V.int) (fun i σ H' => (∃ y2 y3, σ = [some (.ref a), some (.ref c), y2, y3]) ∧ Ex H H' ∧ H' l = some (.lst (((ns.take 63).drop 12).map V.int)) ∧ ∃ ms : List Int, ms.length = min 12 ns.length ∧ H' c = some (.lst (ms.map V.int))) ?_ ?_ ?_ ?_⟩
    · refine ⟨⟨_, _, rfl⟩, e1.trans (Ex.new nl), upd_same, ns.take 12, ?_, ?_⟩
      · rw [List.length_take]
      · rw [upd_ne nlc.symm]
        exact hc1
    · rintro i σ H' _ ⟨_, _, h, _⟩
      exact sq_of h
    · rintro i x σ H' T hx ⟨⟨y2, y3, rfl⟩, eH, hl', ms, hms, hc'⟩ nT
      have ex : ∃ z : Int, x = .int z := by
        rw [List.getElem?_map] at hx
        obtain ⟨z, _, e⟩ := Option.map_eq_some_iff.mp hx
        exact ⟨z, e.symm⟩
      obtain ⟨z, rfl⟩ := ex
      have hi : 12 < ns.length := by
        have := (List.getElem?_eq_some_iff.mp hx).1
        rw [List.length_map, List.length_drop, List.length_take] at this
        omega
      have g0 : ((i : Int) % 12) = ((i % 12 : Nat) : Int) := by omega
      have hj : i % 12 < ms.length := by
        rw [hms]
        have := Nat.mod_lt i (show 0 < 12 by decide)
        omega
      have eT : Ex H' (upd H' T (.tup [.int (i : Nat), .int z])) := Ex.new nT
      have ix : (ms.map V.int)[i % 12]? = some (.int ms[i % 12]) := by
        rw [List.getElem?_map, List.getElem?_eq_getElem hj]
        rfl
      refine ⟨_, rfl, _, rfl, _, _, rfl, rfl, (by show (0 : Int) < _; decide), c, _, _, _, rfl, rfl, sq_of (eT _ _ hc'), at_of (j := i % 12) g0 ix, _, rfl, _, _, rfl, rfl, _, rfl, _, rfl, _, _, rfl, rfl, (by show (0 : Int) < _; decide), c, _, _, i % 12, rfl, rfl, eT _ _ hc', ?_, ⟨_, _, rfl⟩, ?_, ?_, ms.set (i % 12) (ms[i % 12] + z), ?_, ?_⟩
      · show ixN _ ((i : Int) % 12) = _
        rw [g0]
        exact ixN_nat (by rw [List.length_map]; exact hj)
      · exact Ex.mut (eH.trans eT) hcH
      · rw [upd_ne nlc]
        exact eT _ _ hl'
      · rw [List.length_set]
        exact hms
      · rw [upd_same, List.map_set]
    · rintro σ H' ⟨⟨y2, y3, rfl⟩, eH, hl', ms, hms, hc'⟩
      refine ⟨_, rfl, (by show 3 ≤ sizeLine; decide), fun p np => q p c ms _ (eH.trans (Ex.new np)) (by rw [hms]; omega) ?_ upd_same ?_ (fresh_back eH np) hcH⟩
      · intro e
        rw [← e, hc'] at np
        cases np
      · have : c ≠ p := fun e => by
          rw [← e, hc'] at np
          cases np
        rw [upd_ne this]
        exact hc'
end
end Dl
set_option Elab.async false
set_option linter.all false
set_option maxRecDepth 100000
set_option maxHeartbeats 4000000
/-! the end of a law whose defs have tables of code objects; no guard stands around the law's own body -/
namespace EndG
open PySem PySem.Spec PyProof.Rows L2 GxR
abbrev tabO : Obj := { cls := .none, data := .fields #[] }
abbrev lstO (vs : List Value) : Obj := { cls := .type "list", data := .seq vs.toArray }
/-- what the law may track at first: the tables, and the script if it isn't K's -/
def h0 (ts : List Addr) (a : Addr) (fz : Bool) (vs : List Value) (ns : List Int) : Hp := fun b => if b ∈ ts then some (.tbl #[]) else if b = a ∧ fz = true then some (.frz (lstO vs) (.lst (ns.map V.int))) else none
section
variable {ts : List Addr} {a b : Addr} {fz : Bool} {vs : List Value} {ns : List Int}
theorem h0_t (h : b ∈ ts) : h0 ts a fz vs ns b = some (.tbl #[]) := if_pos h
theorem h0_a (h : a ∉ ts) (z : fz = true) : h0 ts a fz vs ns a = some (.frz (lstO vs) (.lst (ns.map V.int))) := (if_neg h).trans (if_pos ⟨rfl, z⟩)
theorem h0_n (h : b ∉ ts) (z : ¬ (b = a ∧ fz = true)) : h0 ts a fz vs ns b = none := (if_neg h).trans (if_neg z)
theorem h0_or : b ∈ ts ∨ (b ∉ ts ∧ b = a ∧ fz = true) ∨ h0 ts a fz vs ns b = none := by
  by_cases h : b ∈ ts
  · exact .inl h
  · by_cases z : b = a ∧ fz = true
    · exact .inr (.inl ⟨h, z⟩)
    · exact .inr (.inr (h0_n h z))
end
/-- a body runs: one context -/
theorem enter {CX : CXT} {P : Program} {w : World} {K : PySem.W.Frag} {mg : Str → Option Value} {base : Heap} {k : Nat} {f : Addr} {name qual : Str} {params : Arguments} {body : List Stmt} {scope : Scope} {dV kV doc pm cdv ct oc : Value} {an od : Option Addr} {osl : Array (Option Value)} {N ps : List Str}
    {A : Around} {outer : List Env} {z : Shared} {H : Hp} {args : Args} {us : List Value} {vs : List V} {Q : VK} {E : XK} {t : TS}
    (lk : K.lookup f = some ⟨oc, od, .func (PySem.W.fnOf name qual params body scope dV kV doc pm an cdv ct), osl⟩) (cd : PySem.W.codeIn K cdv qual = true) (S : FnScope N ps scope) (hr : Room (k + 1) A) (e0 : Env0 P w K mg base A outer z H)
    (bi : BindsTo z (PySem.W.fnOf name qual params body scope dV kV doc pm an cdv ct) args (ps.zip us)) (rv : Vals vs us) (hl : vs.length = ps.length)
    (ht : PSs (cxOf CX P w K mg base N qual scope f cdv A outer z H E) body t) (hq : t { nx := fun _ H' => Q .non H', rt := Q } (start N vs) H) :
    codeAny (model P w) A (.call (.ref f) args) (CR CX outer P w H z Q E) z := by
  have kb : ∀ b o, base.get? b = some o → z.heap.get? b = some o := fun b o e => (e0.bs b o e).1
  have kz : K.In z.heap := e0.mod.kin.keeps kb
  refine codeAny_call_function hr.depth (kz _ _ lk) rfl S.co S.gen rfl (PySem.W.codeRec_of kz cd) (bi _ _ _ _ ?_)
  refine wpAny_newFunctionEnv_cells S.kind (fun y hy => ?_) fun env he z1 x => ?_
  · rcases S.par y.1 (List.of_mem_zip hy).1 with q | q
    · exact .inl q
    · exact .inr ⟨q, PySem.W.cellsFrom_some _ _ _ (.inl q)⟩
  subst he
  refine ⟨(e0.mod.nolimit.keeps kb).keeps x.toInCall.keep, codeAny_func (wpAny_mono (ht.run [] z1 (start N vs) H _ (inv_start S hr.hd e0 hl rv x) hq) (fun fl z' hs => ?_) fun e z' hs => hs)⟩
  cases fl with
  | ret u =>
    obtain ⟨v, _, H', J, r, q⟩ := hs
    exact ⟨v, H', J.os, J.bare, J.base, J.hok, r, q⟩
  | next =>
    obtain ⟨_, H', J, q⟩ := hs
    exact ⟨.non, H', J.os, J.bare, J.base, J.hok, rfl, q⟩
  | brk =>
    obtain ⟨_, _, _, q⟩ := hs
    exact q.elim
  | cont =>
    obtain ⟨_, _, _, q⟩ := hs
    exact q.elim
/-- the law is called -/
theorem law_callG {P : Program} {w : World} {K : PySem.W.Frag} {mg mb : Str → Option Value} {CX : CXT} {fa a : Addr} {cs : List (Addr × Addr)} {z : Shared} {vs : List Value} {ns : List Int}
    (kx : K.In z.heap) (gn : z.heap.Ns mainGlobals mg) (bn : z.heap.Ns builtinsNs mb) (bb : ∀ x : Str, x ≠ "__name__" → mb x = bootBuiltins x) (nl : z.heap.NoLimit) (g0 : z.gens = #[])
    (tb : ∀ p ∈ cs, z.heap.get? p.2 = some tabO) (tn : ∀ p ∈ cs, K.lookup p.2 = none) (ch : ∀ p ∈ cs, PySem.W.CodeHd z.heap p.1 p.2)
    (bm : ∃ (bm : Addr) (ob : Obj), mg "__builtins__" = some (.ref bm) ∧ bm ≠ builtinsNs ∧ z.heap.get? bm = some ob ∧ ob.cls = .type "module" ∧ ob.dict = some builtinsNs ∧ ob.data = .plain)
    (sc : z.heap.get? a = some (lstO vs)) (si : IntsAre vs ns) (sl : ns.length ≤ sizeLine)
    (run : ∀ (base : Heap) (H : Hp), K.In base → base.Ns mainGlobals mg → (∀ p ∈ cs, TabB base mg p.1 p.2) → (∀ p ∈ cs, H p.2 = some (.tbl #[])) → SqL K H a (ns.map V.int) → Env0 P w K mg base callerA [] z H →
      codeAny (model P w) callerA (.call (.ref fa) ⟨[.ref a], []⟩) (CR CX [] P w H z (fun v _ => v = .bl true) fun _ _ _ => False) z)
    (hCX : ∀ H e z', CX [] H z (fun _ _ _ => False) e z' → False) :
    codeAny (model P w) callerA (.call (.ref fa) ⟨[.ref a], []⟩) (fun r z' => r = .ok (.ret (.bool true)) ∧ OldK z.heap z'.heap ∧ z'.os = z.os ∧ AllBare z'.gens) z := by
  generalize hts : cs.map (·.2) = ts
  have inT : ∀ p ∈ cs, p.2 ∈ ts := fun p hp => hts ▸ List.mem_map.mpr ⟨p, hp, rfl⟩
  have ofT : ∀ b ∈ ts, ∃ p ∈ cs, p.2 = b := fun b hb => by
    rw [← hts] at hb
    exact List.mem_map.mp hb
  have tO : ∀ b ∈ ts, z.heap.get? b = some tabO := fun b hb => by
    obtain ⟨p, hp, rfl⟩ := ofT b hb
    exact tb p hp
  have aT : a ∉ ts := fun c => by
    have q := (tO a c).symm.trans sc
    have q2 : Data.fields #[] = Data.seq vs.toArray _ := congrArg Obj.data (Option.some.inj q)
    cases q2
  generalize hf : (K.lookup a).isNone = fz
  have rv := vals_ints si
  generalize eH : h0 ts a fz vs ns = H
  have Ht : ∀ b ∈ ts, H b = some (.tbl #[]) := fun b hb => eH ▸ h0_t hb
  have Ha : fz = true → H a = some (.frz (lstO vs) (.lst (ns.map V.int))) := fun c => eH ▸ h0_a aT c
  have Ho : ∀ b, b ∈ ts ∨ (b ∉ ts ∧ b = a ∧ fz = true) ∨ H b = none := fun b => eH ▸ h0_or
  have hS : SqL K H a (ns.map V.int) := by
    cases e : K.lookup a with
    | none => exact .inl (.inr ⟨_, Ha (by rw [← hf, e]; rfl)⟩)
    | some o =>
      have q := (kx a o e).symm.trans sc
      cases q
      exact .inr ⟨_, vs.toArray, _, e, rfl, rfl, rfl, by rw [List.size_toArray, si.length]; exact sl, by simpa using rv⟩
  have hok : HOk P w H z.heap := fun b o e => by
    rcases Ho b with c | ⟨_, rfl, c⟩ | c
    · rw [Ht b c] at e
      cases e
      exact tO b c
    · rw [Ha c] at e
      cases e
      exact ⟨sc, by rw [List.length_map]; exact sl, vs, _, rv, sc⟩
    · rw [c] at e
      cases e
  -- what isn't a table nor the script is in the ground
  have low : ∀ {b : Addr} {o : Obj}, z.heap.get? b = some o → (∀ x n, o.data ≠ .seq x n) → o.data ≠ .fields #[] → H b = none := fun {b o} e n1 n2 => by
    rcases Ho b with c | ⟨_, rfl, _⟩ | c
    · cases (tO b c).symm.trans e
      exact (n2 rfl).elim
    · cases sc.symm.trans e
      exact (n1 _ _ rfl).elim
    · exact c
  have nsG : ∀ {b : Addr} {m : Str → Option Value}, z.heap.Ns b m → (hidT z.heap H).Ns b m := fun {b m} ⟨o, es, ep, e, d, r⟩ =>
    ⟨o, es, ep, hidT_get e (low e (fun x n c => by rw [d] at c; cases c) fun c => by rw [d] at c; cases c), d, r⟩
  have kG : K.In (hidT z.heap H) := fun b o e => by
    refine hidT_get (kx b o e) ?_
    rcases Ho b with c | ⟨_, rfl, c⟩ | c
    · obtain ⟨p, hp, rfl⟩ := ofT b c
      rw [tn p hp] at e
      cases e
    · rw [← hf, e] at c
      cases c
    · exact c
  have TB : ∀ p ∈ cs, TabB (hidT z.heap H) mg p.1 p.2 := fun p hp => by
    refine ⟨?_, ?_, fun c => ?_⟩
    · obtain ⟨o, us, x1, x2, x3, x4, x5, x6, x7, e, r1, r2, r3, r⟩ := ch p hp
      refine ⟨o, us, x1, x2, x3, x4, x5, x6, x7, hidT_get e (low e (fun x n c => by rw [r2] at c; cases c) fun c => ?_), r1, r2, r3, r⟩
      rw [r2] at c
      cases c
      simp at r3
    · obtain ⟨m, ob, b1, b2, b3, b4, b5, b6⟩ := bm
      refine ⟨m, ob, b1, b2, fun c => ?_, fun c => ?_, hidT_get b3 (low b3 (fun x n c => by rw [b6] at c; cases c) fun c => by rw [b6] at c; cases c), b4, b5, b6⟩
      · obtain ⟨o, es, ep, e, d, _⟩ := gn
        rw [c] at b3
        cases b3.symm.trans e
        rw [b6] at d
        cases d
      · rw [c] at b3
        cases b3.symm.trans (tb p hp)
        cases b6
    · obtain ⟨o, es, ep, e, d, _⟩ := gn
      rw [c] at e
      cases e.symm.trans (tb p hp)
      cases d
  have e0 : Env0 P w K mg (hidT z.heap H) callerA [] z H :=
    { frames := rfl, mod := ⟨kG, nsG gn, ⟨mb, nsG bn, bb⟩, nl.elim fun mc q => ⟨mc, nsG q.1, q.2⟩⟩, bs := fun b o e => of_hidT e, bsz := Nat.le_of_eq (hidT_size _ _), funs := trivial, frf := (fun b (c : b ∈ ([] : List Addr)) => (List.not_mem_nil c).elim), hok := hok, bare := .of_eq g0 }
  refine codeAny_mono (run _ H kG (nsG gn) TB (fun p hp => Ht _ (inT p hp)) hS e0) fun r z' q => ?_
  cases r with
  | error e => exact (hCX H e z' q).elim
  | ok fl =>
    cases fl with
    | next => exact q.elim
    | brk => exact q.elim
    | cont => exact q.elim
    | ret u =>
      obtain ⟨v, H', os, ba, un, ok', r, e⟩ := q
      have e : v = .bl true := e
      subst e
      obtain rfl : u = Value.bool true := r
      have same : ∀ b o, b ∉ ts → z.heap.get? b = some o → z'.heap.get? b = some o := fun b o nb e => by
        rcases Ho b with c | ⟨_, rfl, c⟩ | c
        · exact (nb c).elim
        · have q1 := (ok' b _ (un.frzs b _ _ (Ha c))).1
          cases sc.symm.trans e
          exact q1
        · exact un.keep b o e c (fun d => by cases d) fun d => by cases d
      have more : ∀ b ∈ ts, ∃ xs : Array Value, z'.heap.get? b = some { cls := .none, data := .fields xs } := fun b hb => by
        obtain ⟨m, q⟩ := un.tbls b #[] (Ht b hb)
        exact ⟨_, ok' b _ q⟩
      refine ⟨rfl, ⟨fun b o e => ?_, fun b o e => ?_⟩, os, ba⟩
      · by_cases c : b ∈ ts
        · obtain ⟨xs, q⟩ := more b c
          cases (tO b c).symm.trans e
          obtain ⟨p, hp, rfl⟩ := ofT b c
          exact .inr (.inl ⟨((ch p hp).tab (tb p hp)).isCodeTable, rfl, #[], xs, rfl, by rw [Array.empty_append]; exact q⟩)
        · exact .inl (same b o c e)
      · by_cases c : b ∈ ts
        · obtain ⟨xs, q⟩ := more b c
          exact ⟨_, q⟩
        · exact ⟨o, same b o c e⟩
/-- each of these defs has an empty table -/
def Tabs (nms : List Str) (K : PySem.W.Frag) (mg : Str → Option Value) (h : Heap) : Prop := ∀ nm ∈ nms, ∀ f, mg nm = some (.ref f) → LamX.OwnTab K f h
/-- the law, at the head's heap h -/
def LawAtG (l : PySem.W.OpenLaw) (w : World) (K : PySem.W.Frag) (CX : CXT) (n : Nat) (mg : Str → Option Value) (fa : Addr) (h : Heap) : Prop :=
  ∃ cs : List (Addr × Addr), (∀ p ∈ cs, h.get? p.2 = some tabO) ∧ (∀ p ∈ cs, K.lookup p.2 = none) ∧ (∀ p ∈ cs, PySem.W.CodeHd h p.1 p.2) ∧
    ∀ (base : Heap) (H : Hp) (z : Shared) (a : Addr) (ns : List Int), K.In base → base.Ns mainGlobals mg → (∀ p ∈ cs, TabB base mg p.1 p.2) → (∀ p ∈ cs, H p.2 = some (.tbl #[])) → SqL K H a (ns.map V.int) → ns.length ≤ n → (∀ i ∈ ns, Builtin.Int.intBits i ≤ 1048576) → Env0 l.prog w K mg base callerA [] z H →
      codeAny (model l.prog w) callerA (.call (.ref fa) ⟨[.ref a], []⟩) (CR CX [] l.prog w H z (fun v _ => v = .bl true) fun _ _ _ => False) z
theorem walkG {l : PySem.W.OpenLaw} {n : Nat} {q : Program} {loose : List Str} {XP : (Str → Option Value) → Heap → Prop} {YP : World → Heap → Prop} {d : DefRec} {K : Params → PySem.W.Frag} {CX : World → CXT} (nms : List Str)
    (hn : l.most = some n) (hn2 : n ≤ sizeLine) (hdf : d.params.defaults = []) (hrec : (nms.all fun nm => (recsOf q).any fun e => e.name == nm) = true) (hY : ∀ (w : World) (h : Heap), YP w h → (K w.params).In h)
    (F : ∀ (w : World) (mg : Str → Option Value) (fa : Addr) (h : Heap), YP w h → (K w.params).In h → h.Ns mainGlobals mg → mg d.name = some (.ref fa) → Tabs nms (K w.params) mg h → LawAtG l w (K w.params) (CX w) n mg fa h)
    (hCX : ∀ (w : World) (H : Hp) (s : Shared) (e : Value) (s' : Shared), CX w [] H s (fun _ _ _ => False) e s' → False) :
    PySem.W.WalkO q loose XP YP l.row.toRowW d [] (fun f vs => PySem.call f vs) := by
  refine Att.attach_callB hn hdf fun w _ z mg mb fa _ _ _ _ a vs ns G Y _ _ _ hmg hobj hints hlen hbits hg => ?_
  have kx := hY w _ Y
  have own : Tabs nms (K w.params) mg z.heap := fun nm hm f hf c P o fd e dd us sl k1 k2 k3 k4 k5 => by
    obtain ⟨r, hr, he⟩ := List.any_eq_true.mp (List.all_eq_true.mp hrec nm hm)
    obtain ⟨_, _, _, _, _, h1, h2, h3, h4, _, ⟨_, _, e1, _, e3, e4⟩, hP⟩ := G.T.tab r hr
    rw [beq_iff_eq.mp he, hf] at h1
    cases h1
    cases (kx _ _ k1).symm.trans h2
    cases k2.symm.trans h3
    cases k3.symm.trans h4
    cases (kx _ _ k4).symm.trans e1
    cases e3
    cases k5.symm.trans e4
    exact hP
  obtain ⟨cs, t1, t2, t3, run⟩ := F w mg fa _ Y kx G.T.g hmg own
  exact law_callG kx G.T.g G.T.b G.T.builtins G.T.nolimit hg t1 t2 t3 G.T.bmain hobj hints (Nat.le_trans hlen hn2) (fun base H x1 x2 x3 x4 x5 x6 => run base H z a ns x1 x2 x3 x4 x5 hlen hbits x6) fun H e z' => hCX w H z e z'
end EndG
set_option Elab.async false
set_option linter.all false
set_option maxRecDepth 100000
set_option maxHeartbeats 4000000
namespace Dl
open PySem PySem.Spec PyProof.Rows L2 Evl Gx GxR RZ Eh
theorem fpost_true {f : Flow} {c : Cs} {O : List Addr} {Y : Addr → Prop} {H : Hp} {W : WX} {D : Ends} (hD : D.rt = fun v _ => v = .bl true) (h : f.fo (k := ⟨fun _ => False, lawZ⟩)) : FPost c O Y H D W f := by
  cases f with
  | next e => exact h.elim
  | ret fr d e =>
    obtain ⟨rfl, rfl⟩ : fr = false ∧ d = .bool true := h
    intro v σ H' O' Y' st sr r
    have r : Sh c.K Y' H' v (.bool true) := r
    rw [hD]
    cases r
    rfl
  | brk e => exact h.elim
  | cont e => exact h.elim
  | exc x e => exact h.elim
  | bad => exact h.elim
theorem ints_sh {K : PySem.W.Frag} {Y : Addr → Prop} {H : Hp} : ∀ ns : List Int, ShA K Y H (ns.map V.int) (ns.map PyData.int)
  | [] => .nil
  | n :: r => .cons (.int n) (ints_sh r)
section
variable {P : Program} {w : World} {K : PySem.W.Frag} {mg : Str → Option Value} {base : Heap}
theorem pot_sr {TS : List Addr} {ca : Str → Addr} {H : Hp} {a p c : Addr} {ms : List Int} (hne : c ≠ p) (h1 : H p = some (.lst [.ref c, .int 0, .int 0])) (h2 : H c = some (.lst (ms.map V.int))) (tT : ∀ P ∈ TS, TabG H P) :
    SR ⟨K, [], TS, ca⟩ [p] (fun b => b = p) [some (.ref a), some (.ref p), none, none, none, none, none, none, none, none, none, none] [none, some (.own (.list [.list (ms.map .int), .int 0, .int 0])), none, none, none, none, none, none, none, none, none, none] H where
  sub := fun b hb => List.mem_singleton.mp hb
  own := fun b hb => by
    rw [List.mem_singleton.mp hb]
    exact ⟨_, h1, rfl⟩
  yd := fun b hb => by
    rw [hb, h1]
    exact fun z => nomatch z
  len := rfl
  sl := fun i s h => by
    match i, h with
    | 1, h =>
      cases h
      exact ⟨.ref p, rfl, p, rfl, by simp, .lst h1 (.cons (.lst hne h2 (ints_sh ms)) (.cons (.int 0) (.cons (.int 0) .nil)))⟩
    | 0, h => cases h
    | i + 2, h =>
      have : ∀ j, ([none, none, none, none, none, none, none, none, none, none] : DEnv)[j]? ≠ some (some s) := fun j hj => by
        have := List.mem_of_getElem? hj
        simp at this
      exact absurd h (this i)
  ap := fun i j b hij h1 h2 => by
    have only : ∀ {i}, OwnAt [none, some (.own (.list [.list (ms.map .int), .int 0, .int 0])), none, none, none, none, none, none, none, none, none, none] i → i = 1 := fun {i} ⟨s, h, _⟩ => by
      match i, h with
      | 1, _ => rfl
      | 0, h => cases h
      | i + 2, h =>
        have : ∀ j, ([none, none, none, none, none, none, none, none, none, none] : DEnv)[j]? ≠ some (some s) := fun j hj => by
          have := List.mem_of_getElem? hj
          simp at this
        exact absurd h (this i)
    exact absurd ((only h1).trans (only h2).symm) hij
  tab := tT
  a0 := fun b hb => (List.not_mem_nil hb).elim
theorem law_run (V : EnvL K mg base) {f fpot : Addr} {fd dpot : FuncData} (F : Fun K "law" "law" sLaw f fd) (Fpot : Fun K "_law_pot" "_law_pot" sLPot fpot dpot) (Gpot : FnOk P w K mg base CX0 30 fpot dpot ["script"] (spPot0 K)) (bpot : Binds K dpot ["script"] []) (gpot : mg "_law_pot" = some (.ref fpot))
    (mrepr : mg "repr" = none) (hk : Room 31 callerA) {z : Shared} {H : Hp} {a : Addr} {ns : List Int} (bi : ∀ (s : Shared) (u : Value), BindsTo s fd ⟨[u], []⟩ [("script", u)]) (e0 : Env0 P w K mg base callerA [] z H) (hA : SqL K H a (ns.map L2.V.int)) (hns : ns.length ≤ 63) (tT : ∀ Q ∈ V.TS, TabG H Q) :
    codeAny (model P w) callerA (.call (.ref f) ⟨[.ref a], []⟩) (CR (L2.CX P w) [] P w H z (fun v _ => v = .bl true) fun _ _ _ => False) z := by
  obtain ⟨oc, od, kV, doc, pm, an, cdv, ct, osl, rfl, h1, h2⟩ := F.ex
  have hr := hk.deeper (envOfC "law" (defScope sLaw) z.heap.objs.size f cdv)
  have body : ∃ t, PSs (cxOf (L2.CX P w) P w K mg base nLaw "law" (defScope sLaw) f cdv callerA [] z H fun _ _ _ => False) (defBody sLaw) t ∧ t { nx := fun _ H' => (fun (v : L2.V) (_ : Hp) => v = .bl true) .non H', rt := fun v _ => v = .bl true } (start nLaw [.ref a]) H := by
    refine ⟨_, pss_cons (ps_set (i := 1) ndLaw rfl (.inr rfl) (pe_call Gpot hr (by rfl) gpot Fpot.kp bpot .nil pass0 (pa_cons (pv 0) pa_nil))) (RSs.pss (X := fun _ : Unit => cxOf (L2.CX P w) P w K mg base nLaw "law" (defScope sLaw) f cdv callerA [] z H fun _ _ _ => False) ()), ?_⟩
    refine ⟨_, rfl, a, ns, rfl, hA, hns, fun p c ms H1 e1 hl hne h1 h2 np nc => ?_⟩
    exact tieLaw V mrepr (vs := []) hr rfl [p] (fun b => b = p) _ _ H1 _ (pot_sr hne h1 h2 fun Q hQ => (ET.of e1).tab _ (tT Q hQ)) (fpost_true rfl (law_d hl))
  obtain ⟨t, ht, hq⟩ := body
  exact EndG.enter (us := [.ref a]) (vs := [.ref a]) h1 h2 scLaw hk e0 (bi z (.ref a)) (.cons rfl .nil) rfl ht hq
end
end Dl
set_option Elab.async false
set_option linter.all false
set_option maxRecDepth 100000
set_option maxHeartbeats 4000000
namespace Eh
open PySem PySem.Spec PyProof.Rows L2 Evl GxR Gx Dl
theorem all_mk {l : PySem.W.OpenLaw} {w : World} {K : PySem.W.Frag} {h : Heap} {mg : Str → Option Value} {fa f0 f1 f2 f3 f4 f5 f6 f7 f8 f9 f10 f11 f12 f13 f14 f15 f16 f17 f18 f19 f20 f21 f22 f23 f24 f25 f26 f27 f28 f29 f30 : Addr} (X : K.In h) (G : h.Ns mainGlobals mg) (hfa : mg "law" = some (.ref fa)) (own : EndG.Tabs ["is_short_shut"] K mg h)
    {od0 an0 : Option Addr} {sl0 : Array (Option Value)} {oc0 kV0 dc0 pm0 ct0 : Value} {cd0 : Value}
    {od1 an1 : Option Addr} {sl1 : Array (Option Value)} {oc1 kV1 dc1 pm1 ct1 : Value} {cd1 : Value}
    {od2 an2 : Option Addr} {sl2 : Array (Option Value)} {oc2 kV2 dc2 pm2 ct2 : Value} {cd2 : Value}
    {od3 an3 : Option Addr} {sl3 : Array (Option Value)} {oc3 kV3 dc3 pm3 ct3 : Value} {cd3 : Value}
    {od4 an4 : Option Addr} {sl4 : Array (Option Value)} {oc4 kV4 dc4 pm4 ct4 : Value} {cd4 : Value}
    {od5 an5 : Option Addr} {sl5 : Array (Option Value)} {oc5 kV5 dc5 pm5 ct5 : Value} {cd5 : Value}
    {od6 an6 : Option Addr} {sl6 : Array (Option Value)} {oc6 kV6 dc6 pm6 ct6 : Value} {cd6 : Value}
    {od7 an7 : Option Addr} {sl7 : Array (Option Value)} {oc7 kV7 dc7 pm7 ct7 : Value} {cc7 PT7 : Addr} {ce7 : Value} {cdd7 : Option Addr} {vsC7 : Array Value} {ccs7 : Array (Option Value)}
    {od8 an8 : Option Addr} {sl8 : Array (Option Value)} {oc8 kV8 dc8 pm8 ct8 : Value} {cd8 : Value}
    {od9 an9 : Option Addr} {sl9 : Array (Option Value)} {oc9 kV9 dc9 pm9 ct9 : Value} {cd9 : Value}
    {od10 an10 : Option Addr} {sl10 : Array (Option Value)} {oc10 kV10 dc10 pm10 ct10 : Value} {cd10 : Value}
    {od11 an11 : Option Addr} {sl11 : Array (Option Value)} {oc11 kV11 dc11 pm11 ct11 : Value} {cd11 : Value}
    {od12 an12 : Option Addr} {sl12 : Array (Option Value)} {oc12 kV12 dc12 pm12 ct12 : Value} {cd12 : Value}
    {od13 an13 : Option Addr} {sl13 : Array (Option Value)} {oc13 kV13 dc13 pm13 ct13 : Value} {cd13 : Value}
    {od14 an14 : Option Addr} {sl14 : Array (Option Value)} {oc14 kV14 dc14 pm14 ct14 : Value} {cd14 : Value}
    {od15 an15 : Option Addr} {sl15 : Array (Option Value)} {oc15 kV15 dc15 pm15 ct15 : Value} {cd15 : Value}
    {od16 an16 : Option Addr} {sl16 : Array (Option Value)} {oc16 kV16 dc16 pm16 ct16 : Value} {cd16 : Value}
    {od17 an17 : Option Addr} {sl17 : Array (Option Value)} {oc17 kV17 dc17 pm17 ct17 : Value} {cd17 : Value}
    {od18 an18 : Option Addr} {sl18 : Array (Option Value)} {oc18 kV18 dc18 pm18 ct18 : Value} {cd18 : Value}
    {od19 an19 : Option Addr} {sl19 : Array (Option Value)} {oc19 kV19 dc19 pm19 ct19 : Value} {cd19 : Value}
    {od20 an20 : Option Addr} {sl20 : Array (Option Value)} {oc20 kV20 dc20 pm20 ct20 : Value} {cd20 : Value}
    {od21 an21 : Option Addr} {sl21 : Array (Option Value)} {oc21 kV21 dc21 pm21 ct21 : Value} {cd21 : Value}
    {od22 an22 : Option Addr} {sl22 : Array (Option Value)} {oc22 kV22 dc22 pm22 ct22 : Value} {cd22 : Value}
    {od23 an23 : Option Addr} {sl23 : Array (Option Value)} {oc23 kV23 dc23 pm23 ct23 : Value} {cd23 : Value}
    {od24 an24 : Option Addr} {sl24 : Array (Option Value)} {oc24 kV24 dc24 pm24 ct24 : Value} {cd24 : Value}
    {od25 an25 : Option Addr} {sl25 : Array (Option Value)} {oc25 kV25 dc25 pm25 ct25 : Value} {cd25 : Value}
    {od26 an26 : Option Addr} {sl26 : Array (Option Value)} {oc26 kV26 dc26 pm26 ct26 : Value} {cd26 : Value}
    {od27 an27 : Option Addr} {sl27 : Array (Option Value)} {oc27 kV27 dc27 pm27 ct27 : Value} {cd27 : Value}
    {od28 an28 : Option Addr} {sl28 : Array (Option Value)} {oc28 kV28 dc28 pm28 ct28 : Value} {cd28 : Value}
    {od29 an29 : Option Addr} {sl29 : Array (Option Value)} {oc29 kV29 dc29 pm29 ct29 : Value} {cd29 : Value}
    {od30 an30 : Option Addr} {sl30 : Array (Option Value)} {oc30 kV30 dc30 pm30 ct30 : Value} {cd30 : Value}
    {tk0 tk1 tk2 tk3 tk4 : Tok}
    (a0 : PySem.W.nsIn K mainGlobals "is_whole" = some (some (.ref f0)))
    (l0 : K.lookup f0 = some ⟨oc0, od0, .func (PySem.W.fnOf "is_whole" "is_whole" (defArgs sIsWhole) (defBody sIsWhole) (defScope sIsWhole) .none kV0 dc0 pm0 an0 cd0 ct0), sl0⟩)
    (c0 : PySem.W.codeIn K cd0 "is_whole" = true)
    (k0 : PySem.W.keepIn K (.ref f0) = true)
    (a1 : PySem.W.nsIn K mainGlobals "order_of" = some (some (.ref f1)))
    (l1 : K.lookup f1 = some ⟨oc1, od1, .func (PySem.W.fnOf "order_of" "order_of" (defArgs sOrderOf) (defBody sOrderOf) (defScope sOrderOf) .none kV1 dc1 pm1 an1 cd1 ct1), sl1⟩)
    (c1 : PySem.W.codeIn K cd1 "order_of" = true)
    (k1 : PySem.W.keepIn K (.ref f1) = true)
    (a2 : PySem.W.nsIn K mainGlobals "need_word" = some (some (.ref f2)))
    (l2 : K.lookup f2 = some ⟨oc2, od2, .func (PySem.W.fnOf "need_word" "need_word" (defArgs sNeedWord) (defBody sNeedWord) (defScope sNeedWord) .none kV2 dc2 pm2 an2 cd2 ct2), sl2⟩)
    (c2 : PySem.W.codeIn K cd2 "need_word" = true)
    (k2 : PySem.W.keepIn K (.ref f2) = true)
    (a3 : PySem.W.nsIn K mainGlobals "answers" = some (some (.ref f3)))
    (l3 : K.lookup f3 = some ⟨oc3, od3, .func (PySem.W.fnOf "answers" "answers" (defArgs sAnswers) (defBody sAnswers) (defScope sAnswers) .none kV3 dc3 pm3 an3 cd3 ct3), sl3⟩)
    (c3 : PySem.W.codeIn K cd3 "answers" = true)
    (k3 : PySem.W.keepIn K (.ref f3) = true)
    (a4 : PySem.W.nsIn K mainGlobals "alone" = some (some (.ref f4)))
    (l4 : K.lookup f4 = some ⟨oc4, od4, .func (PySem.W.fnOf "alone" "alone" (defArgs sAlone) (defBody sAlone) (defScope sAlone) .none kV4 dc4 pm4 an4 cd4 ct4), sl4⟩)
    (c4 : PySem.W.codeIn K cd4 "alone" = true)
    (k4 : PySem.W.keepIn K (.ref f4) = true)
    (a5 : PySem.W.nsIn K mainGlobals "is_shut" = some (some (.ref f5)))
    (l5 : K.lookup f5 = some ⟨oc5, od5, .func (PySem.W.fnOf "is_shut" "is_shut" (defArgs sIsShut) (defBody sIsShut) (defScope sIsShut) .none kV5 dc5 pm5 an5 cd5 ct5), sl5⟩)
    (c5 : PySem.W.codeIn K cd5 "is_shut" = true)
    (k5 : PySem.W.keepIn K (.ref f5) = true)
    (a6 : PySem.W.nsIn K mainGlobals "is_times" = some (some (.ref f6)))
    (l6 : K.lookup f6 = some ⟨oc6, od6, .func (PySem.W.fnOf "is_times" "is_times" (defArgs sIsTimes) (defBody sIsTimes) (defScope sIsTimes) .none kV6 dc6 pm6 an6 cd6 ct6), sl6⟩)
    (c6 : PySem.W.codeIn K cd6 "is_times" = true)
    (k6 : PySem.W.keepIn K (.ref f6) = true)
    (a7 : PySem.W.nsIn K mainGlobals "is_short_shut" = some (some (.ref f7)))
    (l7 : K.lookup f7 = some ⟨oc7, od7, .func (PySem.W.fnOf "is_short_shut" "is_short_shut" (defArgs sIsShortShut) (defBody sIsShortShut) (defScope sIsShortShut) .none kV7 dc7 pm7 an7 (.ref cc7) ct7), sl7⟩)
    (c7 : PySem.W.codeIn K (.ref cc7) "is_short_shut" = true)
    (k7 : PySem.W.keepIn K (.ref f7) = true)
    (co7 : K.lookup cc7 = some ⟨ce7, cdd7, .fields vsC7, ccs7⟩)
    (pt7 : vsC7[11]? = some (.ref PT7))
    (pn7 : K.lookup PT7 = none)
    (hd7 : PySem.W.codeHdIn K cc7 PT7 = true)
    (a8 : PySem.W.nsIn K mainGlobals "is_form" = some (some (.ref f8)))
    (l8 : K.lookup f8 = some ⟨oc8, od8, .func (PySem.W.fnOf "is_form" "is_form" (defArgs sIsForm) (defBody sIsForm) (defScope sIsForm) .none kV8 dc8 pm8 an8 cd8 ct8), sl8⟩)
    (c8 : PySem.W.codeIn K cd8 "is_form" = true)
    (k8 : PySem.W.keepIn K (.ref f8) = true)
    (a9 : PySem.W.nsIn K mainGlobals "parts_in" = some (some (.ref f9)))
    (l9 : K.lookup f9 = some ⟨oc9, od9, .func (PySem.W.fnOf "parts_in" "parts_in" (defArgs sPartsIn) (defBody sPartsIn) (defScope sPartsIn) .none kV9 dc9 pm9 an9 cd9 ct9), sl9⟩)
    (c9 : PySem.W.codeIn K cd9 "parts_in" = true)
    (k9 : PySem.W.keepIn K (.ref f9) = true)
    (a10 : PySem.W.nsIn K mainGlobals "is_great" = some (some (.ref f10)))
    (l10 : K.lookup f10 = some ⟨oc10, od10, .func (PySem.W.fnOf "is_great" "is_great" (defArgs sIsGreat) (defBody sIsGreat) (defScope sIsGreat) .none kV10 dc10 pm10 an10 cd10 ct10), sl10⟩)
    (c10 : PySem.W.codeIn K cd10 "is_great" = true)
    (k10 : PySem.W.keepIn K (.ref f10) = true)
    (a11 : PySem.W.nsIn K mainGlobals "_law_blend" = some (some (.ref f11)))
    (l11 : K.lookup f11 = some ⟨oc11, od11, .func (PySem.W.fnOf "_law_blend" "_law_blend" (defArgs sLBlend) (defBody sLBlend) (defScope sLBlend) .none kV11 dc11 pm11 an11 cd11 ct11), sl11⟩)
    (c11 : PySem.W.codeIn K cd11 "_law_blend" = true)
    (k11 : PySem.W.keepIn K (.ref f11) = true)
    (a12 : PySem.W.nsIn K mainGlobals "_law_pot" = some (some (.ref f12)))
    (l12 : K.lookup f12 = some ⟨oc12, od12, .func (PySem.W.fnOf "_law_pot" "_law_pot" (defArgs sLPot) (defBody sLPot) (defScope sLPot) .none kV12 dc12 pm12 an12 cd12 ct12), sl12⟩)
    (c12 : PySem.W.codeIn K cd12 "_law_pot" = true)
    (k12 : PySem.W.keepIn K (.ref f12) = true)
    (a13 : PySem.W.nsIn K mainGlobals "_law_pick" = some (some (.ref f13)))
    (l13 : K.lookup f13 = some ⟨oc13, od13, .func (PySem.W.fnOf "_law_pick" "_law_pick" (defArgs sLPick) (defBody sLPick) (defScope sLPick) .none kV13 dc13 pm13 an13 cd13 ct13), sl13⟩)
    (c13 : PySem.W.codeIn K cd13 "_law_pick" = true)
    (k13 : PySem.W.keepIn K (.ref f13) = true)
    (a14 : PySem.W.nsIn K mainGlobals "_law_letters" = some (some (.ref f14)))
    (l14 : K.lookup f14 = some ⟨oc14, od14, .func (PySem.W.fnOf "_law_letters" "_law_letters" (defArgs sLLetters) (defBody sLLetters) (defScope sLLetters) .none kV14 dc14 pm14 an14 cd14 ct14), sl14⟩)
    (c14 : PySem.W.codeIn K cd14 "_law_letters" = true)
    (k14 : PySem.W.keepIn K (.ref f14) = true)
    (a15 : PySem.W.nsIn K mainGlobals "_law_sheet" = some (some (.ref f15)))
    (l15 : K.lookup f15 = some ⟨oc15, od15, .func (PySem.W.fnOf "_law_sheet" "_law_sheet" (defArgs sLSheet) (defBody sLSheet) (defScope sLSheet) .none kV15 dc15 pm15 an15 cd15 ct15), sl15⟩)
    (c15 : PySem.W.codeIn K cd15 "_law_sheet" = true)
    (k15 : PySem.W.keepIn K (.ref f15) = true)
    (a16 : PySem.W.nsIn K mainGlobals "_law_order" = some (some (.ref f16)))
    (l16 : K.lookup f16 = some ⟨oc16, od16, .func (PySem.W.fnOf "_law_order" "_law_order" (defArgs sLOrder) (defBody sLOrder) (defScope sLOrder) .none kV16 dc16 pm16 an16 cd16 ct16), sl16⟩)
    (c16 : PySem.W.codeIn K cd16 "_law_order" = true)
    (k16 : PySem.W.keepIn K (.ref f16) = true)
    (a17 : PySem.W.nsIn K mainGlobals "_law_shut" = some (some (.ref f17)))
    (l17 : K.lookup f17 = some ⟨oc17, od17, .func (PySem.W.fnOf "_law_shut" "_law_shut" (defArgs sLShut) (defBody sLShut) (defScope sLShut) .none kV17 dc17 pm17 an17 cd17 ct17), sl17⟩)
    (c17 : PySem.W.codeIn K cd17 "_law_shut" = true)
    (k17 : PySem.W.keepIn K (.ref f17) = true)
    (a18 : PySem.W.nsIn K mainGlobals "_law_answers" = some (some (.ref f18)))
    (l18 : K.lookup f18 = some ⟨oc18, od18, .func (PySem.W.fnOf "_law_answers" "_law_answers" (defArgs sLAnswers) (defBody sLAnswers) (defScope sLAnswers) .none kV18 dc18 pm18 an18 cd18 ct18), sl18⟩)
    (c18 : PySem.W.codeIn K cd18 "_law_answers" = true)
    (k18 : PySem.W.keepIn K (.ref f18) = true)
    (a19 : PySem.W.nsIn K mainGlobals "_law_same" = some (some (.ref f19)))
    (l19 : K.lookup f19 = some ⟨oc19, od19, .func (PySem.W.fnOf "_law_same" "_law_same" (defArgs sLSame) (defBody sLSame) (defScope sLSame) .none kV19 dc19 pm19 an19 cd19 ct19), sl19⟩)
    (c19 : PySem.W.codeIn K cd19 "_law_same" = true)
    (k19 : PySem.W.keepIn K (.ref f19) = true)
    (a20 : PySem.W.nsIn K mainGlobals "_law_whole" = some (some (.ref f20)))
    (l20 : K.lookup f20 = some ⟨oc20, od20, .func (PySem.W.fnOf "_law_whole" "_law_whole" (defArgs sLWhole) (defBody sLWhole) (defScope sLWhole) .none kV20 dc20 pm20 an20 cd20 ct20), sl20⟩)
    (c20 : PySem.W.codeIn K cd20 "_law_whole" = true)
    (k20 : PySem.W.keepIn K (.ref f20) = true)
    (a21 : PySem.W.nsIn K mainGlobals "_law_count" = some (some (.ref f21)))
    (l21 : K.lookup f21 = some ⟨oc21, od21, .func (PySem.W.fnOf "_law_count" "_law_count" (defArgs sLCount) (defBody sLCount) (defScope sLCount) .none kV21 dc21 pm21 an21 cd21 ct21), sl21⟩)
    (c21 : PySem.W.codeIn K cd21 "_law_count" = true)
    (k21 : PySem.W.keepIn K (.ref f21) = true)
    (a22 : PySem.W.nsIn K mainGlobals "_law_great" = some (some (.ref f22)))
    (l22 : K.lookup f22 = some ⟨oc22, od22, .func (PySem.W.fnOf "_law_great" "_law_great" (defArgs sLGreat) (defBody sLGreat) (defScope sLGreat) .none kV22 dc22 pm22 an22 cd22 ct22), sl22⟩)
    (c22 : PySem.W.codeIn K cd22 "_law_great" = true)
    (k22 : PySem.W.keepIn K (.ref f22) = true)
    (a23 : PySem.W.nsIn K mainGlobals "_law_parts" = some (some (.ref f23)))
    (l23 : K.lookup f23 = some ⟨oc23, od23, .func (PySem.W.fnOf "_law_parts" "_law_parts" (defArgs sLParts) (defBody sLParts) (defScope sLParts) .none kV23 dc23 pm23 an23 cd23 ct23), sl23⟩)
    (c23 : PySem.W.codeIn K cd23 "_law_parts" = true)
    (k23 : PySem.W.keepIn K (.ref f23) = true)
    (a24 : PySem.W.nsIn K mainGlobals "_law_is_word" = some (some (.ref f24)))
    (l24 : K.lookup f24 = some ⟨oc24, od24, .func (PySem.W.fnOf "_law_is_word" "_law_is_word" (defArgs sLIsWord) (defBody sLIsWord) (defScope sLIsWord) .none kV24 dc24 pm24 an24 cd24 ct24), sl24⟩)
    (c24 : PySem.W.codeIn K cd24 "_law_is_word" = true)
    (k24 : PySem.W.keepIn K (.ref f24) = true)
    (a25 : PySem.W.nsIn K mainGlobals "_law_is_it" = some (some (.ref f25)))
    (l25 : K.lookup f25 = some ⟨oc25, od25, .func (PySem.W.fnOf "_law_is_it" "_law_is_it" (defArgs sLIsIt) (defBody sLIsIt) (defScope sLIsIt) .none kV25 dc25 pm25 an25 cd25 ct25), sl25⟩)
    (c25 : PySem.W.codeIn K cd25 "_law_is_it" = true)
    (k25 : PySem.W.keepIn K (.ref f25) = true)
    (a26 : PySem.W.nsIn K mainGlobals "_law_due" = some (some (.ref f26)))
    (l26 : K.lookup f26 = some ⟨oc26, od26, .func (PySem.W.fnOf "_law_due" "_law_due" (defArgs sLDue) (defBody sLDue) (defScope sLDue) .none kV26 dc26 pm26 an26 cd26 ct26), sl26⟩)
    (c26 : PySem.W.codeIn K cd26 "_law_due" = true)
    (k26 : PySem.W.keepIn K (.ref f26) = true)
    (a27 : PySem.W.nsIn K mainGlobals "_law_odd_words" = some (some (.ref f27)))
    (l27 : K.lookup f27 = some ⟨oc27, od27, .func (PySem.W.fnOf "_law_odd_words" "_law_odd_words" (defArgs sLOddWords) (defBody sLOddWords) (defScope sLOddWords) .none kV27 dc27 pm27 an27 cd27 ct27), sl27⟩)
    (c27 : PySem.W.codeIn K cd27 "_law_odd_words" = true)
    (k27 : PySem.W.keepIn K (.ref f27) = true)
    (a28 : PySem.W.nsIn K mainGlobals "_law_bent" = some (some (.ref f28)))
    (l28 : K.lookup f28 = some ⟨oc28, od28, .func (PySem.W.fnOf "_law_bent" "_law_bent" (defArgs sLBent) (defBody sLBent) (defScope sLBent) .none kV28 dc28 pm28 an28 cd28 ct28), sl28⟩)
    (c28 : PySem.W.codeIn K cd28 "_law_bent" = true)
    (k28 : PySem.W.keepIn K (.ref f28) = true)
    (a29 : PySem.W.nsIn K mainGlobals "_law_at_bounds" = some (some (.ref f29)))
    (l29 : K.lookup f29 = some ⟨oc29, od29, .func (PySem.W.fnOf "_law_at_bounds" "_law_at_bounds" (defArgs sLAtBounds) (defBody sLAtBounds) (defScope sLAtBounds) .none kV29 dc29 pm29 an29 cd29 ct29), sl29⟩)
    (c29 : PySem.W.codeIn K cd29 "_law_at_bounds" = true)
    (k29 : PySem.W.keepIn K (.ref f29) = true)
    (a30 : PySem.W.nsIn K mainGlobals "law" = some (some (.ref f30)))
    (l30 : K.lookup f30 = some ⟨oc30, od30, .func (PySem.W.fnOf "law" "law" (defArgs sLaw) (defBody sLaw) (defScope sLaw) .none kV30 dc30 pm30 an30 cd30 ct30), sl30⟩)
    (c30 : PySem.W.codeIn K cd30 "law" = true)
    (k30 : PySem.W.keepIn K (.ref f30) = true)
    (z0 : PySem.W.nsIn K mainGlobals "all" = some none)
    (z1 : PySem.W.nsIn K mainGlobals "bool" = some none)
    (z2 : PySem.W.nsIn K mainGlobals "enumerate" = some none)
    (z3 : PySem.W.nsIn K mainGlobals "int" = some none)
    (z4 : PySem.W.nsIn K mainGlobals "isinstance" = some none)
    (z5 : PySem.W.nsIn K mainGlobals "len" = some none)
    (z6 : PySem.W.nsIn K mainGlobals "list" = some none)
    (z7 : PySem.W.nsIn K mainGlobals "min" = some none)
    (z8 : PySem.W.nsIn K mainGlobals "range" = some none)
    (z9 : PySem.W.nsIn K mainGlobals "repr" = some none)
    (z10 : PySem.W.nsIn K mainGlobals "str" = some none)
    (z11 : PySem.W.nsIn K mainGlobals "tuple" = some none)
    (z12 : PySem.W.nsIn K mainGlobals "zip" = some none)
    (gg0 : PySem.W.nsIn K mainGlobals "MOST_IN_ALL" = some (some (.int 40 tk0)))
    (gg1 : PySem.W.nsIn K mainGlobals "MOST_IN_A_ROW" = some (some (.int 8 tk1)))
    (gg2 : PySem.W.nsIn K mainGlobals "MOST_IN_A_WORD" = some (some (.int 60 tk2)))
    (gg3 : PySem.W.nsIn K mainGlobals "MOST_TIMES" = some (some (.int 1000000000000000000000000000000000000000000000000000000000000 tk3)))
    (gg4 : PySem.W.nsIn K mainGlobals "MOST_WITHIN" = some (some (.int 10 tk4)))
    : EndG.LawAtG l w K (L2.CX l.prog w) 63 mg fa h := by
  have e := hfa.symm.trans (PySem.W.mg_of X G a30)
  cases e
  have F0 := fun_mk (st := sIsWhole) l0 c0 k0
  have g0 := PySem.W.mg_of X G a0
  have b0 := F0.binds (ps := ["thing"]) fun _ _ _ _ _ _ us hl => match us, hl with | [_], _ => rfl
  have F1 := fun_mk (st := sOrderOf) l1 c1 k1
  have g1 := PySem.W.mg_of X G a1
  have b1 := F1.binds (ps := ["sheet"]) fun _ _ _ _ _ _ us hl => match us, hl with | [_], _ => rfl
  have F2 := fun_mk (st := sNeedWord) l2 c2 k2
  have g2 := PySem.W.mg_of X G a2
  have b2 := F2.binds (ps := ["sheet", "word"]) fun _ _ _ _ _ _ us hl => match us, hl with | [_, _], _ => rfl
  have F3 := fun_mk (st := sAnswers) l3 c3 k3
  have g3 := PySem.W.mg_of X G a3
  have b3 := F3.binds (ps := ["sheet", "word"]) fun _ _ _ _ _ _ us hl => match us, hl with | [_, _], _ => rfl
  have F4 := fun_mk (st := sAlone) l4 c4 k4
  have g4 := PySem.W.mg_of X G a4
  have b4 := F4.binds (ps := ["sheet", "word", "told"]) fun _ _ _ _ _ _ us hl => match us, hl with | [_, _, _], _ => rfl
  have F5 := fun_mk (st := sIsShut) l5 c5 k5
  have g5 := PySem.W.mg_of X G a5
  have b5 := F5.binds (ps := ["sheet", "word"]) fun _ _ _ _ _ _ us hl => match us, hl with | [_, _], _ => rfl
  have F6 := fun_mk (st := sIsTimes) l6 c6 k6
  have g6 := PySem.W.mg_of X G a6
  have b6 := F6.binds (ps := ["thing"]) fun _ _ _ _ _ _ us hl => match us, hl with | [_], _ => rfl
  have C7 : FunC K "is_short_shut" "is_short_shut" sIsShortShut f7 _ cc7 := ⟨⟨_, _, _, _, _, _, _, _, rfl, l7, c7⟩, k7⟩
  have F7 := C7.toFun
  have g7 := PySem.W.mg_of X G a7
  have b7 := F7.binds (ps := ["sheet", "thing"]) fun _ _ _ _ _ _ us hl => match us, hl with | [_, _], _ => rfl
  have F8 := fun_mk (st := sIsForm) l8 c8 k8
  have g8 := PySem.W.mg_of X G a8
  have b8 := F8.binds (ps := ["sheet", "thing"]) fun _ _ _ _ _ _ us hl => match us, hl with | [_, _], _ => rfl
  have F9 := fun_mk (st := sPartsIn) l9 c9 k9
  have g9 := PySem.W.mg_of X G a9
  have b9 := F9.binds (ps := ["great"]) fun _ _ _ _ _ _ us hl => match us, hl with | [_], _ => rfl
  have F10 := fun_mk (st := sIsGreat) l10 c10 k10
  have g10 := PySem.W.mg_of X G a10
  have b10 := F10.binds (ps := ["sheet", "thing"]) fun _ _ _ _ _ _ us hl => match us, hl with | [_, _], _ => rfl
  have F11 := fun_mk (st := sLBlend) l11 c11 k11
  have g11 := PySem.W.mg_of X G a11
  have b11 := F11.binds (ps := ["cell", "at"]) fun _ _ _ _ _ _ us hl => match us, hl with | [_, _], _ => rfl
  have F12 := fun_mk (st := sLPot) l12 c12 k12
  have g12 := PySem.W.mg_of X G a12
  have b12 := F12.binds (ps := ["script"]) fun _ _ _ _ _ _ us hl => match us, hl with | [_], _ => rfl
  have F13 := fun_mk (st := sLPick) l13 c13 k13
  have g13 := PySem.W.mg_of X G a13
  have b13 := F13.binds (ps := ["pot", "many"]) fun _ _ _ _ _ _ us hl => match us, hl with | [_, _], _ => rfl
  have F14 := fun_mk (st := sLLetters) l14 c14 k14
  have g14 := PySem.W.mg_of X G a14
  have b14 := F14.binds (ps := ["pot", "many"]) fun _ _ _ _ _ _ us hl => match us, hl with | [_, _], _ => rfl
  have F15 := fun_mk (st := sLSheet) l15 c15 k15
  have g15 := PySem.W.mg_of X G a15
  have b15 := F15.binds (ps := ["pot", "most"]) fun _ _ _ _ _ _ us hl => match us, hl with | [_, _], _ => rfl
  have F16 := fun_mk (st := sLOrder) l16 c16 k16
  have g16 := PySem.W.mg_of X G a16
  have b16 := F16.binds (ps := ["sheet"]) fun _ _ _ _ _ _ us hl => match us, hl with | [_], _ => rfl
  have F17 := fun_mk (st := sLShut) l17 c17 k17
  have g17 := PySem.W.mg_of X G a17
  have b17 := F17.binds (ps := ["pot", "sheet", "most"]) fun _ _ _ _ _ _ us hl => match us, hl with | [_, _, _], _ => rfl
  have F18 := fun_mk (st := sLAnswers) l18 c18 k18
  have g18 := PySem.W.mg_of X G a18
  have b18 := F18.binds (ps := ["sheet", "word"]) fun _ _ _ _ _ _ us hl => match us, hl with | [_, _], _ => rfl
  have F19 := fun_mk (st := sLSame) l19 c19 k19
  have g19 := PySem.W.mg_of X G a19
  have b19 := F19.binds (ps := ["found", "due"]) fun _ _ _ _ _ _ us hl => match us, hl with | [_, _], _ => rfl
  have F20 := fun_mk (st := sLWhole) l20 c20 k20
  have g20 := PySem.W.mg_of X G a20
  have b20 := F20.binds (ps := ["thing", "many"]) fun _ _ _ _ _ _ us hl => match us, hl with | [_, _], _ => rfl
  have F21 := fun_mk (st := sLCount) l21 c21 k21
  have g21 := PySem.W.mg_of X G a21
  have b21 := F21.binds (ps := ["pot", "big"]) fun _ _ _ _ _ _ us hl => match us, hl with | [_, _], _ => rfl
  have F22 := fun_mk (st := sLGreat) l22 c22 k22
  have g22 := PySem.W.mg_of X G a22
  have b22 := F22.binds (ps := ["pot", "sheet", "deep", "big"]) fun _ _ _ _ _ _ us hl => match us, hl with | [_, _, _, _], _ => rfl
  have F23 := fun_mk (st := sLParts) l23 c23 k23
  have g23 := PySem.W.mg_of X G a23
  have b23 := F23.binds (ps := ["thing"]) fun _ _ _ _ _ _ us hl => match us, hl with | [_], _ => rfl
  have F24 := fun_mk (st := sLIsWord) l24 c24 k24
  have g24 := PySem.W.mg_of X G a24
  have b24 := F24.binds (ps := ["sheet", "letters"]) fun _ _ _ _ _ _ us hl => match us, hl with | [_, _], _ => rfl
  have F25 := fun_mk (st := sLIsIt) l25 c25 k25
  have g25 := PySem.W.mg_of X G a25
  have b25 := F25.binds (ps := ["sheet", "thing"]) fun _ _ _ _ _ _ us hl => match us, hl with | [_, _], _ => rfl
  have F26 := fun_mk (st := sLDue) l26 c26 k26
  have g26 := PySem.W.mg_of X G a26
  have b26 := F26.binds (ps := ["sheet", "thing"]) fun _ _ _ _ _ _ us hl => match us, hl with | [_, _], _ => rfl
  have F27 := fun_mk (st := sLOddWords) l27 c27 k27
  have g27 := PySem.W.mg_of X G a27
  have b27 := F27.binds (ps := ["pot", "sheet"]) fun _ _ _ _ _ _ us hl => match us, hl with | [_, _], _ => rfl
  have F28 := fun_mk (st := sLBent) l28 c28 k28
  have g28 := PySem.W.mg_of X G a28
  have b28 := F28.binds (ps := ["pot", "sheet", "thing"]) fun _ _ _ _ _ _ us hl => match us, hl with | [_, _, _], _ => rfl
  have F29 := fun_mk (st := sLAtBounds) l29 c29 k29
  have g29 := PySem.W.mg_of X G a29
  have b29 := F29.binds (ps := ["pot", "sheet"]) fun _ _ _ _ _ _ us hl => match us, hl with | [_, _], _ => rfl
  have F30 := fun_mk (st := sLaw) l30 c30 k30
  have g30 := PySem.W.mg_of X G a30
  have b30 := F30.binds (ps := ["script"]) fun _ _ _ _ _ _ us hl => match us, hl with | [_], _ => rfl
  have mall := PySem.W.mg_none_of X G z0
  have mbool := PySem.W.mg_none_of X G z1
  have menumerate := PySem.W.mg_none_of X G z2
  have mint := PySem.W.mg_none_of X G z3
  have misinstance := PySem.W.mg_none_of X G z4
  have mlen := PySem.W.mg_none_of X G z5
  have mlist := PySem.W.mg_none_of X G z6
  have mmin := PySem.W.mg_none_of X G z7
  have mrange := PySem.W.mg_none_of X G z8
  have mrepr := PySem.W.mg_none_of X G z9
  have mstr := PySem.W.mg_none_of X G z10
  have mtuple := PySem.W.mg_none_of X G z11
  have mzip := PySem.W.mg_none_of X G z12
  have mg0 := PySem.W.mg_of X G gg0
  have mg1 := PySem.W.mg_of X G gg1
  have mg2 := PySem.W.mg_of X G gg2
  have mg3 := PySem.W.mg_of X G gg3
  have mg4 := PySem.W.mg_of X G gg4
  have tb7 := own "is_short_shut" (by decide) f7 g7 cc7 PT7 _ _ _ _ _ _ l7 rfl rfl co7 pt7
  have two : ∀ {φ : Addr × Addr → Prop}, φ (cc7, PT7) → ∀ p ∈ [(cc7, PT7)], φ p := fun h7 p hp => by
    simp only [List.mem_cons, List.not_mem_nil, or_false] at hp
    rcases hp with rfl
    · exact h7
  refine ⟨[(cc7, PT7)], two tb7, two pn7, two (PySem.W.codeHd_of_K X hd7), ?_⟩
  intro base H z a ns kb nb TB hH hS hlen hbits e0
  have TB7 := TB (cc7, PT7) (by simp)
  have tG : ∀ {Q : Addr}, H Q = some (.tbl #[]) → TabG H Q := fun h => ⟨#[], h, by exact trivial⟩
  have VV : ∃ V : EnvL K mg base, V.TS = [PT7] := ⟨{ TS := [PT7], ca := fun _ => fa, fIsWhole := f0, dIsWhole := _, bIsWhole := g0, BIsWhole := b0, FIsWhole := F0, fOrderOf := f1, dOrderOf := _, bOrderOf := g1, BOrderOf := b1, FOrderOf := F1, fNeedWord := f2, dNeedWord := _, bNeedWord := g2, BNeedWord := b2, FNeedWord := F2, fAnswers := f3, dAnswers := _, bAnswers := g3, BAnswers := b3, FAnswers := F3, fAlone := f4, dAlone := _, bAlone := g4, BAlone := b4, FAlone := F4, fIsShut := f5, dIsShut := _, bIsShut := g5, BIsShut := b5, FIsShut := F5, fIsTimes := f6, dIsTimes := _, bIsTimes := g6, BIsTimes := b6, FIsTimes := F6, fIsShortShut := f7, dIsShortShut := _, bIsShortShut := g7, BIsShortShut := b7, cIsShortShut := cc7, PIsShortShut := PT7, CIsShortShut := C7, TBIsShortShut := TB7, TSIsShortShut := by simp, fIsForm := f8, dIsForm := _, bIsForm := g8, BIsForm := b8, FIsForm := F8, fPartsIn := f9, dPartsIn := _, bPartsIn := g9, BPartsIn := b9, FPartsIn := F9, fIsGreat := f10, dIsGreat := _, bIsGreat := g10, BIsGreat := b10, FIsGreat := F10, fLBlend := f11, dLBlend := _, bLBlend := g11, BLBlend := b11, FLBlend := F11, fLPick := f13, dLPick := _, bLPick := g13, BLPick := b13, FLPick := F13, fLLetters := f14, dLLetters := _, bLLetters := g14, BLLetters := b14, FLLetters := F14, fLSheet := f15, dLSheet := _, bLSheet := g15, BLSheet := b15, FLSheet := F15, fLOrder := f16, dLOrder := _, bLOrder := g16, BLOrder := b16, FLOrder := F16, fLShut := f17, dLShut := _, bLShut := g17, BLShut := b17, FLShut := F17, fLAnswers := f18, dLAnswers := _, bLAnswers := g18, BLAnswers := b18, FLAnswers := F18, fLSame := f19, dLSame := _, bLSame := g19, BLSame := b19, FLSame := F19, fLWhole := f20, dLWhole := _, bLWhole := g20, BLWhole := b20, FLWhole := F20, fLCount := f21, dLCount := _, bLCount := g21, BLCount := b21, FLCount := F21, fLGreat := f22, dLGreat := _, bLGreat := g22, BLGreat := b22, FLGreat := F22, fLParts := f23, dLParts := _, bLParts := g23, BLParts := b23, FLParts := F23, fLIsWord := f24, dLIsWord := _, bLIsWord := g24, BLIsWord := b24, FLIsWord := F24, fLIsIt := f25, dLIsIt := _, bLIsIt := g25, BLIsIt := b25, FLIsIt := F25, fLDue := f26, dLDue := _, bLDue := g26, BLDue := b26, FLDue := F26, fLOddWords := f27, dLOddWords := _, bLOddWords := g27, BLOddWords := b27, FLOddWords := F27, fLBent := f28, dLBent := _, bLBent := g28, BLBent := b28, FLBent := F28, fLAtBounds := f29, dLAtBounds := _, bLAtBounds := g29, BLAtBounds := b29, FLAtBounds := F29, m_all := mall, m_bool := mbool, m_enumerate := menumerate, m_int := mint, m_isinstance := misinstance, m_len := mlen, m_list := mlist, m_min := mmin, m_range := mrange, m_str := mstr, m_tuple := mtuple, m_zip := mzip, t_MOST_IN_ALL := tk0, g_MOST_IN_ALL := mg0, t_MOST_IN_A_ROW := tk1, g_MOST_IN_A_ROW := mg1, t_MOST_IN_A_WORD := tk2, g_MOST_IN_A_WORD := mg2, t_MOST_TIMES := tk3, g_MOST_TIMES := mg3, t_MOST_WITHIN := tk4, g_MOST_WITHIN := mg4 }, rfl⟩
  obtain ⟨V, hV⟩ := VV
  have G1 : FnOk l.prog w K mg base CX0 30 _ _ _ (spPot0 K) := ok_pot (k := 29) F12 mlist menumerate
  refine law_run V F30 F12 G1 b12 g12 mrepr ⟨rfl, by decide, by decide⟩ (fun s v => .of_eq rfl) e0 hS hlen fun Q hQ => ?_
  rw [hV] at hQ
  simp only [List.mem_cons, List.not_mem_nil, or_false] at hQ
  rcases hQ with rfl
  · exact tG (hH (cc7, _) (by simp))
end Eh
open PySem PySem.W PyProof.Rows
set_option maxHeartbeats 0 in
theorem PySem.Challenge.cw_echohall_k46_what_is_a_great_word_holds : PySem.Challenge.rw_echohall_k46_what_is_a_great_word.Holds := by
  w_on; o_law; k_head; (case hw => w_witness2)
  k_fill
  refine EndG.walkG (l := PySem.Challenge.rw_echohall_k46_what_is_a_great_word) (n := 63) (CX := fun w => L2.CX (PySem.Challenge.rw_echohall_k46_what_is_a_great_word).prog w) ["is_short_shut"] rfl (by decide) rfl (by decide +kernel) (fun w h Y => PySem.W.kIn_of Y) ?F (fun _ _ _ _ _ ⟨_, _, _, _, _, _, _, _, _, _, _, _, h⟩ => h)
  case F =>
    intro w mg fa h _ KX G hmg own
    refine' Eh.all_mk KX G hmg own ?a0 ?l0 ?c0 ?k0 ?a1 ?l1 ?c1 ?k1 ?a2 ?l2 ?c2 ?k2 ?a3 ?l3 ?c3 ?k3 ?a4 ?l4 ?c4 ?k4 ?a5 ?l5 ?c5 ?k5 ?a6 ?l6 ?c6 ?k6 ?a7 ?l7 ?c7 ?k7 ?co7 ?pt7 ?pn7 ?hd7 ?a8 ?l8 ?c8 ?k8 ?a9 ?l9 ?c9 ?k9 ?a10 ?l10 ?c10 ?k10 ?a11 ?l11 ?c11 ?k11 ?a12 ?l12 ?c12 ?k12 ?a13 ?l13 ?c13 ?k13 ?a14 ?l14 ?c14 ?k14 ?a15 ?l15 ?c15 ?k15 ?a16 ?l16 ?c16 ?k16 ?a17 ?l17 ?c17 ?k17 ?a18 ?l18 ?c18 ?k18 ?a19 ?l19 ?c19 ?k19 ?a20 ?l20 ?c20 ?k20 ?a21 ?l21 ?c21 ?k21 ?a22 ?l22 ?c22 ?k22 ?a23 ?l23 ?c23 ?k23 ?a24 ?l24 ?c24 ?k24 ?a25 ?l25 ?c25 ?k25 ?a26 ?l26 ?c26 ?k26 ?a27 ?l27 ?c27 ?k27 ?a28 ?l28 ?c28 ?k28 ?a29 ?l29 ?c29 ?k29 ?a30 ?l30 ?c30 ?k30 ?z0 ?z1 ?z2 ?z3 ?z4 ?z5 ?z6 ?z7 ?z8 ?z9 ?z10 ?z11 ?z12 ?gg0 ?gg1 ?gg2 ?gg3 ?gg4
    (case a0 => k_is)
    (case l0 => k_is)
    (case c0 => k_is)
    (case k0 => k_is)
    (case a1 => k_is)
    (case l1 => k_is)
    (case c1 => k_is)
    (case k1 => k_is)
    (case a2 => k_is)
    (case l2 => k_is)
    (case c2 => k_is)
    (case k2 => k_is)
    (case a3 => k_is)
    (case l3 => k_is)
    (case c3 => k_is)
    (case k3 => k_is)
    (case a4 => k_is)
    (case l4 => k_is)
    (case c4 => k_is)
    (case k4 => k_is)
    (case a5 => k_is)
    (case l5 => k_is)
    (case c5 => k_is)
    (case k5 => k_is)
    (case a6 => k_is)
    (case l6 => k_is)
    (case c6 => k_is)
    (case k6 => k_is)
    (case a7 => k_is)
    (case l7 => k_is)
    (case c7 => k_is)
    (case k7 => k_is)
    (case co7 => k_is)
    (case pt7 => rfl)
    (case pn7 => first | k_is | rfl | decide +kernel)
    (case hd7 => first | k_is | rfl | decide +kernel)
    (case a8 => k_is)
    (case l8 => k_is)
    (case c8 => k_is)
    (case k8 => k_is)
    (case a9 => k_is)
    (case l9 => k_is)
    (case c9 => k_is)
    (case k9 => k_is)
    (case a10 => k_is)
    (case l10 => k_is)
    (case c10 => k_is)
    (case k10 => k_is)
    (case a11 => k_is)
    (case l11 => k_is)
    (case c11 => k_is)
    (case k11 => k_is)
    (case a12 => k_is)
    (case l12 => k_is)
    (case c12 => k_is)
    (case k12 => k_is)
    (case a13 => k_is)
    (case l13 => k_is)
    (case c13 => k_is)
    (case k13 => k_is)
    (case a14 => k_is)
    (case l14 => k_is)
    (case c14 => k_is)
    (case k14 => k_is)
    (case a15 => k_is)
    (case l15 => k_is)
    (case c15 => k_is)
    (case k15 => k_is)
    (case a16 => k_is)
    (case l16 => k_is)
    (case c16 => k_is)
    (case k16 => k_is)
    (case a17 => k_is)
    (case l17 => k_is)
    (case c17 => k_is)
    (case k17 => k_is)
    (case a18 => k_is)
    (case l18 => k_is)
    (case c18 => k_is)
    (case k18 => k_is)
    (case a19 => k_is)
    (case l19 => k_is)
    (case c19 => k_is)
    (case k19 => k_is)
    (case a20 => k_is)
    (case l20 => k_is)
    (case c20 => k_is)
    (case k20 => k_is)
    (case a21 => k_is)
    (case l21 => k_is)
    (case c21 => k_is)
    (case k21 => k_is)
    (case a22 => k_is)
    (case l22 => k_is)
    (case c22 => k_is)
    (case k22 => k_is)
    (case a23 => k_is)
    (case l23 => k_is)
    (case c23 => k_is)
    (case k23 => k_is)
    (case a24 => k_is)
    (case l24 => k_is)
    (case c24 => k_is)
    (case k24 => k_is)
    (case a25 => k_is)
    (case l25 => k_is)
    (case c25 => k_is)
    (case k25 => k_is)
    (case a26 => k_is)
    (case l26 => k_is)
    (case c26 => k_is)
    (case k26 => k_is)
    (case a27 => k_is)
    (case l27 => k_is)
    (case c27 => k_is)
    (case k27 => k_is)
    (case a28 => k_is)
    (case l28 => k_is)
    (case c28 => k_is)
    (case k28 => k_is)
    (case a29 => k_is)
    (case l29 => k_is)
    (case c29 => k_is)
    (case k29 => k_is)
    (case a30 => k_is)
    (case l30 => k_is)
    (case c30 => k_is)
    (case k30 => k_is)
    (case z0 => k_is)
    (case z1 => k_is)
    (case z2 => k_is)
    (case z3 => k_is)
    (case z4 => k_is)
    (case z5 => k_is)
    (case z6 => k_is)
    (case z7 => k_is)
    (case z8 => k_is)
    (case z9 => k_is)
    (case z10 => k_is)
    (case z11 => k_is)
    (case z12 => k_is)
    (case gg0 => k_is)
    (case gg1 => k_is)
    (case gg2 => k_is)
    (case gg3 => k_is)
    (case gg4 => k_is)
