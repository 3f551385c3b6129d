import PyProof.Rows.All
import Wide.All
import OpenK.AllK
import Wide.FinOn
import HandS.ForMost
import KE.KExcSuper
import HandS.Exc
import HandS.ExcInit
import HandS.FStr
import HandS.Nested
import KE.KIsAll
import KE.KTryMore
import KE.KExcIs
import HandS.ExcIs
import HandS.ExcField
import HandS.ExcValue
import HandS.WordsExc
import HandS.Evl
import KE.LtSeq
import HandS.RaiseMore
import KE.GoesEnum
import HandS.DictComp
import HandS.Flow
import HandS.Wide
import HandS.Style
import HandS.IsInst
import HandS.TupMul
import PySem.Challenge.RW_echohall_k48_letters_at_places
set_option Elab.async false
set_option linter.all false
set_option maxRecDepth 100000
set_option maxHeartbeats 4000000
namespace Eh
open PySem PySem.Spec PyProof.Rows L2 NdefX
/-! an error class whose __init__ says super().__init__(text), then self.f = f -/
/-- __init__(self, f): the field is there behind it -/
def spInit (K : PySem.W.Frag) (C : Addr) (f : Str) : Sp := fun vs H Q _ => ∃ (a : Addr) (n : Int), vs = [.ref a, .int n] ∧ n.natAbs.log2 < 1900 ∧ H a = some (exo a C none) ∧
  ∀ dx, H dx = none → dx ≠ a → Q .non (upd (upd H dx (exd dx [(f, .int n)])) a (exo a C (some dx)))
theorem upd_self {H : Hp} {a : Addr} {o : HO} (h : H a = some o) : upd H a o = H := by
  funext b
  by_cases e : b = a
  · rw [e, upd_same, h]
  · rw [upd_ne e]
/-- what is written of the class and its __init__ -/
structure InitC (P : Program) (K : PySem.W.Frag) (mg : Str → Option Value) (C fI : Addr) (qual f : Str) (st : Stmt) (J : Expr) (fd : FuncData) : Prop where
  ox : OexC K C
  iC : PySem.W.findIn K (.ref C) "__init__" = some (some (.ref fI))
  tI : PySem.W.typeIn K (.ref fI) = some (.type "function")
  noF : PySem.W.findIn K (.ref C) f = some none
  sup : PySem.W.ks_superIn K C C "__init__" = some (some (.builtin "ValueError.__init__"))
  subV : PySem.W.subIn K (.ref C) (.type "ValueError") = some true
  mro : PySem.W.mroIn K C (.ref C) = some true
  opq : PySem.W.nsIn K cStatics "thirdparty.any" = some none
  msu : mg "super" = none
  top : (P.main.scope.names.lookup ("super" : Str)).isSome = false
  ex : ∃ (oc : Value) (od : Option Addr) (kV doc pm : Value) (an : Option Addr) (cda : Addr) (ct : Value) (osl : Array (Option Value)) (cc : Addr),
    fd = PySem.W.ksFn "__init__" qual (defArgs st) (defBody st) (defScope st) .none kV doc pm an (.ref cda) ct cc ∧ K.lookup fI = some ⟨oc, od, .func fd, osl⟩ ∧ PySem.W.codeIn K (.ref cda) qual = true ∧
    (∃ (cl : Value) (cld : Option Addr) (csl : Array (Option Value)), K.lookup cc = some ⟨cl, cld, .cell (some (.ref C)), csl⟩) ∧
    ∃ (ccl : Value) (cdd : Option Addr) (ccs : Array (Option Value)) (vs : Array Value) (file : Str) (tf : Tok), K.lookup cda = some ⟨ccl, cdd, .fields vs, ccs⟩ ∧ vs[2]? = some (.str file tf) ∧ ((P.main.file : Str) == file) = true
  bi : Binds K fd ["self", f] []
  sc : NScope ["self", f, "__class__"] ["self", f] ["__class__"] (defScope st)
  ksu : (defScope st).names.lookup ("super" : Str) = some .globalImplicit
  kse : (defScope st).names.lookup ("self" : Str) = some .local
  kfd : (defScope st).names.lookup f = some .local
  par : ((defArgs st).posonlyargs ++ (defArgs st).args).head?.map (·.arg) = some "self"
  fdb : (f == ("__debug__" : Str)) = false
  fcd : (f == ("__classdict__" : Str)) = false
  body : ∃ p0 p1 p2 p3 p4 q1 q2 q3 q4 : Pos, defBody st = [.Expr (.Call (.Attribute (.Call (.Name "super" p0) [] [] p1) "__init__" p2) [J] [] p3) p4, .Assign [.Attribute (.Name "self" q1) f q2] (.Name f q3) q4] ∧
    (∀ env : Env, ∃ pl : Sem Bool, eval (.Call (.Attribute (.Call (.Name "super" p0) [] [] p1) "__init__" p2) [J] [] p3) env = (do
      let ov ← attributeBase (.Call (.Name "super" p0) [] [] p1) "__init__" env (eval (.Call (.Name "super" p0) [] [] p1) env)
      standAt p2.atName
      let (f, first) ← holding [ov] (getMethod ov "__init__" pl)
      callWith p3 f first (backTo p3 (starEach [J] env)) [])) ∧ (∀ env : Env, swapsWith (.Call (.Attribute (.Call (.Name "super" p0) [] [] p1) "__init__" p2) [J] [] p3) none p4.line env = pure false) ∧
    (∀ env : Env, starEach [J] env = (false, eval J env) :: starEach [] env) ∧ (∀ env : Env, swapsWith (.Name f q3) (some (.Attribute (.Name "self" q1) f q2)) q4.line env = pure false)
  txt : ∀ X : Cx, X.N = (["self", f, "__class__"] : List Str) → X.env.scope = defScope st → ∃ tJ : TE, PE X J tJ ∧ ∀ (σ : L2.St) (H : Hp) (n : Int) (Q : VK), n.natAbs.log2 < 1900 → σ[1]? = some (some (V.int n)) → (∀ z : Str, Q (.str z) H) → tJ σ H Q
theorem isCell_of {h : Heap} {c : Addr} {cl : Value} {cld : Option Addr} {csl : Array (Option Value)} {v : Option Value} (e : h.get? c = some ⟨cl, cld, .cell v, csl⟩) : h.IsCell c v := ⟨_, e, rfl⟩
/-- the bound ValueError.__init__, called -/
theorem call_mw {X : Cx} {pins : List (Addr × Obj)} {σ : L2.St} {H : Hp} {s : Shared} {a C u : Addr} {us : List Value} {Q : Value → Shared → Prop} {A : Around} {E : Value → Shared → Prop} (T : OexC X.K C) (I : Inv X pins σ H s) (e : H a = some (exo a C none)) (hu : s.heap.get? u = some (PySem.W.kxs_mw "ValueError.__init__" a))
    (hl : us.length ≤ sizeLine) (h : ∀ s', Inv X pins σ H s' → Q .none s') : wpAny (model X.prog X.w) A (call (.ref u) us) Q E s := by
  obtain ⟨nm, q, N, bs, bm, sn, sub, ab, col, dd, k0, k1, k2, k3, k5, hC, hbm⟩ := T.cls
  obtain ⟨t1, ho⟩ := exo_at I.hok e
  obtain ⟨hp, g, d, t, os⟩ := s
  refine wpAny_call (codeAny_of_tree ?_)
  show wpAny _ A.in1 (callAny (.ref u) ⟨us, []⟩) _ _ _
  simp only [callAny]
  refine wpAny_bind (wpAny_load hu ?_)
  simp only [PySem.W.kxs_mw, show (Value.type "method-wrapper" == Value.type "method" || Value.type "method-wrapper" == Value.type "builtin_function_or_method" || Value.type "method-wrapper" == Value.type "method-wrapper") = true by decide, if_true]
  refine PySem.W.KFB.if_so (by decide) ?_
  refine wpAny_bind (PySem.W.check_bound_init F.excBase_ValueError.toExcCallFacts (I.kIn _ _ hC) ho rfl ?_)
  refine wpAny_bind (wpAny_pure (wpAny_pure ?_))
  refine ⟨plainId_quiet F.excBase_ValueError.init.plain _, codeAny_builtin F.excBase_ValueError.initEntry ?_⟩
  refine PySem.W.exc_init_tree (cls := .ref C) (t0 := t1) (dv := none) (c2 := .none) (c3 := .none) (b4 := .bool false) ho hl fun h' k hx _ => ?_
  have J := I.write (t' := t) (x := a) (e := a) (o := exo a C none) (by rw [e]; exact True.intro) (.inl rfl) k ⟨_, hx⟩ (exo_ok hx)
  rw [upd_self e] at J
  exact h _ J
theorem fn_init {P : Program} {w : World} {K : PySem.W.Frag} {mg : Str → Option Value} {base : Heap} {C fI : Addr} {qual f : Str} {st : Stmt} {J : Expr} {fd : FuncData} {k : Nat} (T : InitC P K mg C fI qual f st J fd) : FnOk P w K mg base CX0 (k + 1) fI fd ["self", f] (spInit K C f) := by
  obtain ⟨oc, od, kV, doc, pm, an, cda, ct, osl, cc, rfl, lk, hcd, ⟨ccl', cld, csl, hcell⟩, ccl, cdd, ccs, vsC, file, tf, hcode, hvs, hfile⟩ := T.ex
  obtain ⟨p0, p1, p2, p3, p4, q1, q2, q3, q4, hbody, hev, hsw, hst, hsw2⟩ := T.body
  refine ⟨fun vs H Q E h => ?_, fun A outer s H args us vs Q E hr e0 hb r hsp => ?_⟩
  · obtain ⟨a, n, rfl, _⟩ := h
    rfl
  obtain ⟨a, n, rfl, hn, ha, hq⟩ := hsp
  have KX : K.In s.heap := e0.mod.kin.keeps fun b o e => (e0.bs b o e).1
  have lim : s.heap.NoLimit := e0.mod.nolimit.keeps fun b o e => (e0.bs b o e).1
  have S := T.sc
  have CA : CellsAt [("__class__", cc)] ["__class__"] [some (V.ref C)] s.heap H := by
    have one : ∀ y c, List.lookup y [(("__class__" : Str), cc)] = some c → y = "__class__" ∧ c = cc := fun y c e => by
      have := PySem.mem_of_lookup e
      simp at this
      exact this
    refine ⟨rfl, fun y c e => ?_, fun x y c e1 e2 => (one x c e1).1.trans (one y c e2).1.symm, fun i y e => ?_⟩
    · obtain ⟨_, rfl⟩ := one y c e
      exact ⟨(e0.bs _ _ (e0.mod.kin _ _ hcell)).2, _, isCell_of (KX _ _ hcell)⟩
    · cases i with
      | zero =>
        cases e
        refine ⟨cc, by simp [List.lookup], fun v ev => ?_⟩
        cases ev
        exact ⟨.ref C, rfl, isCell_of (KX _ _ hcell)⟩
      | succ i => simp at e
  refine ks_codeAny_call_defAt (fd := PySem.W.ksFn "__init__" qual (defArgs st) (defBody st) (defScope st) .none kV doc pm an (.ref cda) ct cc) (body := defBody st) (binds := (["self", f] : List Str).zip us) hr.depth (KX _ _ lk) rfl lim (PySem.W.codeRec_of KX hcd) rfl hb S.nocell (fun ⟨n, _⟩ hy => S.par n (List.of_mem_zip hy).1) (fun h₁ hns kp => ?_) S.co S.gen S.kind
  have I : Inv (ncx CX0 P w K mg base ["self", f, "__class__"] ⟨"__init__", qual, defArgs st, defBody st, defScope st, [("__class__", cc)], cda⟩ fI A outer s H E) [] (startF ["self", f, "__class__"] [.ref a, .int n] [some (.ref C)]) H { s with heap := h₁, toks := s.toks + ((["self", f] : List Str).zip us).length } := inv_startN S hr.hd e0 rfl r CA hns kp
  cases r with
  | @cons _ u0 _ ur ra rr =>
  cases rr with
  | @cons _ u1 _ ur' rn rnil =>
  cases rnil
  obtain rfl : u0 = Value.ref a := ra
  generalize hX : ncx CX0 P w K mg base ["self", f, "__class__"] ⟨"__init__", qual, defArgs st, defBody st, defScope st, [("__class__", cc)], cda⟩ fI A outer s H E = X at I
  have eP : X.prog = P := by rw [← hX]; rfl
  have eW : X.w = w := by rw [← hX]; rfl
  have eK : X.K = K := by rw [← hX]; rfl
  have eN : X.N = (["self", f, "__class__"] : List Str) := by rw [← hX]; rfl
  have eE : X.env = PySem.W.ksEnv qual (defScope st) s.heap.objs.size fI (.ref cda) cc := by rw [← hX]; rfl
  have eA : X.A = A.deeper X.env := by rw [← hX]; rfl
  have eM : X.mg = mg := by rw [← hX]; rfl
  have hks : X.env.scope = defScope st := by rw [eE]
  have key : _root_.PySem.wpAt (model X.prog X.w) X.A (.func (defBody st) X.env) (execs (defBody st) X.env) (SP X [] { nx := fun _ H' => Q .non H', rt := Q }) X.xe { s with heap := h₁, toks := s.toks + ((["self", f] : List Str).zip [Value.ref a, u1]).length } := by
    obtain ⟨ar, har, har'⟩ : ∃ ar : Arg, ((defArgs st).posonlyargs ++ (defArgs st).args).head? = some ar ∧ ar.arg = "self" := by
      have := T.par
      cases e : ((defArgs st).posonlyargs ++ (defArgs st).args).head? with
      | none => rw [e] at this; cases this
      | some ar => rw [e] at this; exact ⟨ar, rfl, Option.some.inj this⟩
    have kS : X.env.kindOf "super" = some .globalImplicit := by rw [eE]; exact T.ksu
    have kC : X.env.kindOf "__class__" = some .free := by rw [eE]; exact S.frk _ (List.mem_singleton.mpr rfl)
    have kE : X.env.kindOf "self" = some .local := by rw [eE]; exact T.kse
    have X1 := I.kIn
    rw [eK] at X1
    have ox : OexC X.K C := by rw [eK]; exact T.ox
    obtain ⟨t1, ho⟩ := exo_at I.hok ha
    obtain ⟨nm, q, N', bs, bm, sn, sub, ab, col, dd, k0, k1, k2, k3, k5, hC, hbm⟩ := T.ox.cls
    have hC1 := X1 _ _ hC
    have IA : PySem.W.InstAt h₁ a ({ cls := .ref C, dict := none, data := .fields #[.ref t1, .none, .none, .none, .bool false, .none] } : Obj) C none := ⟨ho, rfl, rfl, trivial⟩
    rw [hbody]
    obtain ⟨pl, hev1⟩ := hev X.env
    refine ks_wpAt_execs_cons (ks_wpAt_Expr_any (ks_wpAt_MethodCall (pl := pl) (ks_wpAt_super_base (f := fI) (cc := cda) kS kC (by decide) (by rw [eE]) (X1 _ _ lk) rfl har (by rw [eE]) (X1 _ _ hcode) rfl hvs (by rw [eP]; exact hfile) (by rw [eP]; exact T.top) ?_) hev1) I.quiet (hsw X.env))
    obtain ⟨mb, hb1, hb2⟩ := I.mod.blt
    refine PySem.W.ks_loadName_global I.ok.kind kS (Calls.loadGlobal_builtin (by rw [I.ok.glob]; exact I.mod.glob.keeps I.bk) (by rw [eM]; exact T.msu) (by rw [I.ok.blt]; exact hb1.keeps I.bk) ((hb2 "super" (by decide)).trans PyProof.Rows.Boot.«super») ⟨rfl, ?_⟩)
    refine wpAny_loadName_free (c := cc) (v := .ref C) I.ok.kind kC (by rw [eE]; simp [List.lookup]) ⟨_, X1 _ _ hcell, rfl⟩ ?_
    rw [har']
    have ndP : (["self", f] : List Str).Nodup := by
      have q := S.nd.sublist (List.take_sublist 2 _)
      exact q
    refine wpAny_loadName_local (v := .ref a) I.ok.kind kE (by rw [eE]; exact hns) (zip_look (i := 0) ndP rfl rfl) ?_
    refine ks_wpAny_isType_cls hC1 rfl ⟨rfl, ?_⟩
    refine ks_wpAny_call_super hC1 rfl ho rfl (fun c e => by cases e) (PySem.W.looks_mroIn X1 T.mro) (fun h2 e2 k2 => ?_)
    have I2 : Inv X [] _ H { s with heap := h2, toks := _ } := I.kept (t' := s.toks + ((["self", f] : List Str).zip [Value.ref a, u1]).length) k2
    have X2 : K.In h2 := X1.keeps k2
    have IA2 : PySem.W.InstAt h2 a ({ cls := .ref C, dict := none, data := .fields #[.ref t1, .none, .none, .none, .bool false, .none] } : Obj) C none := ⟨k2 _ _ ho, rfl, rfl, trivial⟩
    have hcl : PySem.W.clsIn K C = some { name := nm, bases := bs, mro := .ref C :: bm, ns := N', qualname := q, hasDict := true, slotNames := sn, subclasses := sub, abstract := ab, collection := col, hasDel := false } := by unfold PySem.W.clsIn; rw [hC] <;> rfl
    have hsup := T.sup
    unfold PySem.W.ks_superIn at hsup
    rw [hcl] at hsup
    have hI : PySem.W.Looks (model X.prog X.w) h2 (isInstance (.ref a) (.type "ValueError")) true := IA2.type.andThen (PySem.W.looks_subIn X2 T.subV)
    refine PySem.W.kxs_getMethod PySem.W.kxs_ValueError e2 (PySem.W.looks_opaque X2 T.opq) (l₀ := .ref C :: bm) (fun A Q E s k q => wpAny_bind ((PySem.W.looks_clsIn X2 hcl) A _ E s k (wpAny_pure q))) rfl X2 hsup hI (PySem.W.ks_ne X2 IA2 hcl) (by decide) ?_
    have I3 : Inv X [] _ H { s with heap := h2.push (PySem.W.kxs_mw "ValueError.__init__" a), toks := _ } := I2.kept (t' := s.toks + ((["self", f] : List Str).zip [Value.ref a, u1]).length + 1) fun b o e => Heap.get?_push_of_some _ e
    have I4 : Inv X [(h2.objs.size, PySem.W.kxs_mw "ValueError.__init__" a)] _ H _ := I3.pins_of fun p hp => by
      rw [List.mem_singleton.mp hp]
      exact ⟨Heap.get?_push_at rfl rfl, I2.hok.fresh (Nat.le_refl _), Nat.ne_of_gt I2.lt, I2.nofs (Nat.le_refl _), fun v z => by cases z⟩
    obtain ⟨tJ, pJ, rJ⟩ := T.txt X eN hks
    have hu1 : ∃ t, u1 = Value.int n t := rn
    have hσ : (startF (["self", f, "__class__"] : List Str) [V.ref a, V.int n] [some (V.ref C)]) = [some (V.ref a), some (.int n), some (.ref C)] := rfl
    have aft : ∀ s6, Inv X [] [some (V.ref a), some (.int n), some (.ref C)] H s6 → wpAny (model X.prog X.w) X.A (execs [.Assign [.Attribute (.Name "self" q1) f q2] (.Name f q3) q4] X.env) (SP X [] { nx := fun _ H' => Q .non H', rt := Q }) X.xe s6 := fun s6 I6 => by
      refine (pss_one (ps_ost (pe_var (i := 0) (by rw [eN]; rfl) (.inl (by rw [hks]; exact T.kse))) (pe_var (i := 1) (by rw [eN]; rfl) (.inl (by rw [hks]; exact T.kfd)) T.fdb T.fcd) (hsw2 X.env))).run [] s6 _ H _ I6 ?_
      refine ⟨_, rfl, _, rfl, a, C, rfl, ox, by rw [eK]; exact T.noF, .inl ⟨ha, fun dx n1 n2 => hq dx n1 n2⟩⟩
    rw [hst]
    refine PySem.W.kxs_callWith (i := "ValueError.__init__") (x := a) rfl (Calls.evalArgs_plain ?_)
    refine Calls.spliced_cons (thn (pJ.run _ _ _ _ _ I4 (rJ _ H n (fun v H' => (∃ z, v = V.str z) ∧ H' = H) hn rfl fun z => ⟨⟨z, rfl⟩, rfl⟩)) fun u s5 ⟨v, H5, I5, r5, ⟨z, ez⟩, eH⟩ => ?_)
    subst eH
    refine Calls.spliced_nil ⟨(I5.pin (h2.objs.size, PySem.W.kxs_mw "ValueError.__init__" a) (List.mem_append_right _ (List.mem_singleton.mpr rfl))).1, ?_⟩
    refine call_mw ox I5 ha (I5.pin (h2.objs.size, PySem.W.kxs_mw "ValueError.__init__" a) (List.mem_append_right _ (List.mem_singleton.mpr rfl))).1 (by show 1 ≤ sizeLine; rw [sizeLine_eq]; omega) fun s6 I6 => ?_
    have I7 : Inv X [] _ H5 s6 := I6.pins_of fun p hp => (List.not_mem_nil hp).elim
    exact wpAt_of_wpAny (aft s6 I7)
  subst hX
  refine ks_wpAt_mono key (fun fl s' hs => ?_) (fun e s' hs => hs)
  have fin : ∀ {σ' : L2.St} {H' : Hp} {v : V} {u : Value}, Inv (ncx CX0 P w K mg base ["self", f, "__class__"] ⟨"__init__", qual, defArgs st, defBody st, defScope st, [("__class__", cc)], cda⟩ fI A outer s H E) [] σ' H' s' → L2.RelV v u → Q v H' → CE outer P w H s Q u s' :=
    fun {σ' H' v u} J rv q => ⟨v, H', J.os, J.bare, J.base, J.hok, rv, q⟩
  cases fl with
  | ret u =>
    obtain ⟨v, σ', H', J, rv, q⟩ := hs
    exact fin J rv q
  | next =>
    obtain ⟨σ', H', J, q⟩ := hs
    exact fin (v := V.non) (u := Value.none) J rfl q
  | brk =>
    obtain ⟨_, _, _, q⟩ := hs
    exact False.elim q
  | cont =>
    obtain ⟨_, _, _, q⟩ := hs
    exact False.elim q
/-- C(e): a new error -/
theorem pmk_err {X : Cx} {x qual f : Str} {C fI : Addr} {st : Stmt} {J e : Expr} {fd : FuncData} {ta : TA} {p pos : Pos} {k : Nat} (T : InitC X.prog X.K X.mg C fI qual f st J fd) (hr : Room (k + 2) X.A) (hg : Gl X x) (hm : X.mg x = some (.ref C)) (ha : PA X [e] ta)
    (hdb : (x == ("__debug__" : Str)) = false := by decide) (he : starEach [e] X.env = (false, eval e X.env) :: starEach [] X.env := by rfl) : PMk X (.Call (.Name x p) [e] [] pos) (tMkO C (spInit X.K C f) [] ta) := by
  have G : FnOk X.prog X.w X.K X.mg X.base CX0 (k + 1) fI fd ["self", f] (spInit X.K C f) := fn_init T
  exact pmk_oex T.ox T.iC T.tI G hr T.bi .nil pass0 hg hm ha hdb he rfl
/-- .. its own dict at d holds f -/
theorem mk_rd {K : PySem.W.Frag} {C : Addr} {f : Str} {n : Int} {H1 : Hp} {Q : XK} (hn : n.natAbs.log2 < 1900) (q : ∀ d, H1 d = none → Q (.ref C) (some d) (upd H1 d (.xd [(f, .int n)]))) : ([V.int n] : List V).length ≤ 1000 ∧ ∀ a, H1 a = none → spInit K C f (.ref a :: ([V.int n] ++ [])) (upd H1 a (exo a C none))
      (fun v H2 => v = .non ∧ ∃ (d : Addr) (fs : List (Str × V)), H2 a = some (exo a C (some d)) ∧ H2 d = some (exd d fs) ∧ H1 d = none ∧ Q (.ref C) (some d) (upd (del H2 a) d (.xd fs))) (fun _ _ _ => False) := by
  refine ⟨by show 1 ≤ 1000; decide, fun a na => ⟨a, n, rfl, hn, upd_same, fun dx n1 n2 => ⟨rfl, dx, [(f, .int n)], upd_same, ?_, ?_, ?_⟩⟩⟩
  · rw [upd_ne n2, upd_same]
  · rw [upd_ne n2] at n1
    exact n1
  · rw [upd_ne n2] at n1
    have e : upd (del (upd (upd (upd H1 a (exo a C none)) dx (exd dx [(f, .int n)])) a (exo a C (some dx))) a) dx (.xd [(f, .int n)]) = upd H1 dx (.xd [(f, .int n)]) := by
      funext b
      by_cases hb : b = dx
      · rw [hb, upd_same, upd_same]
      · rw [upd_ne hb, upd_ne hb]
        by_cases hba : b = a
        · rw [hba, del_same, na]
        · rw [del_ne hba, upd_ne hba, upd_ne hb, upd_ne hba]
    rw [e]
    exact q dx n1
end Eh
set_option Elab.async false
set_option linter.all false
set_option maxRecDepth 100000
set_option maxHeartbeats 4000000
namespace Eh
open PySem PySem.Spec PyProof.Rows L2 NdefX
/-! a caught error that is kept: except X as n: y = n; behind the suite it is an object of ours -/
/-- at a: an exception that was raised, its class cls, its dict d -/
def exv (a : Addr) (cls : Value) (d : Option Addr) : HO := .ext fun h => ∃ (oe : Obj) (vs : Array Value), h.get? a = some oe ∧ Zc cls d oe ∧ oe.data = .fields vs
theorem exv_ok {P : Program} {w : World} {H : Hp} {h : Heap} {a : Addr} {cls : Value} {d : Option Addr} {oe : Obj} {vs : Array Value} (e : h.get? a = some oe) (z : Zc cls d oe) (hd : oe.data = .fields vs) : ObjOk P w H h a (exv a cls d) :=
  ⟨⟨oe, vs, e, z, hd⟩, ⟨oe, e⟩, fun _ _ ⟨o, v, q, r⟩ k => ⟨o, v, k o q, r⟩⟩
theorem exv_at {P : Program} {w : World} {H : Hp} {h : Heap} {a : Addr} {cls : Value} {d : Option Addr} (hok : HOk P w H h) (e : H a = some (exv a cls d)) : ∃ (oe : Obj) (vs : Array Value), h.get? a = some oe ∧ Zc cls d oe ∧ oe.data = .fields vs := by
  have x : ObjOk P w H h a (.ext fun h => ∃ (oe : Obj) (vs : Array Value), h.get? a = some oe ∧ Zc cls d oe ∧ oe.data = .fields vs) := hok a _ e
  exact x.1
section
variable {X : Cx} {pins : List (Addr × Obj)} {σ : L2.St} {H : Hp} {s : Shared}
/-- an object that was not there at the entry is tracked from now on -/
theorem Inv_track {a : Addr} {o : HO} {oe : Obj} (I : Inv X ((a, oe) :: pins) σ H s) (n0 : X.s_0.heap.get? a = none) (np : ∀ p ∈ X.pn ++ pins, p.1 ≠ a) (nc : ∀ x c, X.env.cells.lookup x = some c → c ≠ a) (new : ObjOk X.prog X.w (upd H a o) s.heap a o) : Inv X pins σ (upd H a o) s := by
  obtain ⟨ha, hn, nL, nF, _⟩ := I.pin (a, oe) (List.mem_append_right _ List.mem_cons_self)
  have ne0 : ∀ b u, X.s_0.heap.get? b = some u → b ≠ a := fun b u e z => by
    rw [z, n0] at e
    cases e
  refine ⟨I.ok, I.os, I.bare, ⟨I.base.keep, I.base.slot, fun b u e n hx => ?_, I.base.there, fun b xs e => ?_, fun b u v e => ?_, fun b ps e => ?_⟩, I.loc, I.cell, ?_, fun x c e => ?_, fun p hp => ?_, fun b u e => ?_, I.len⟩
  · rw [upd_ne (ne0 b u e)]
    exact I.base.free b u e n hx
  · have q := I.base.tups b xs e
    rw [upd_ne (ne_of_none q hn)]
    exact q
  · have q := I.base.frzs b u v e
    rw [upd_ne (ne_of_none q hn)]
    exact q
  · obtain ⟨m, q⟩ := I.base.tbls b ps e
    exact ⟨m, by rw [upd_ne (ne_of_none q hn)]; exact q⟩
  · rw [upd_ne (Ne.symm nL)]
    exact I.free
  · rw [upd_ne (nc x c e)]
    exact I.freeC x c e
  · have hp' : p ∈ X.pn ++ (a, oe) :: pins := by
      rcases List.mem_append.mp hp with z | z
      · exact List.mem_append_left _ z
      · exact List.mem_append_right _ (List.mem_cons_of_mem _ z)
    obtain ⟨e, n, ne, nf, d⟩ := I.pin p hp'
    exact ⟨e, by rw [upd_ne (np p hp)]; exact n, ne, nf, d⟩
  · by_cases hb : b = a
    · subst hb
      rw [upd_same] at e
      cases e
      exact new
    · rw [upd_ne hb] at e
      exact (I.hok b u e).stay (fun c v _ q => q) (fun c q => by rw [upd_ne (ne_of_none q hn)]; exact q) fun c xs q => by rw [upd_ne (ne_of_none q hn)]; exact q
theorem Inv_unsuite {a : Addr} {q : Addr × Obj} {pn' : List (Addr × Obj)} (I : Inv (X.suite a (q :: (X.pn ++ pins))) pn' σ H s) (ok : X.Ok) : Inv X (q :: pins) σ H s :=
  ⟨ok, I.os, I.bare, I.base, I.loc, I.cell, I.free, I.freeC, fun p hp => by
    refine I.pin p (List.mem_append_left _ ?_)
    rcases List.mem_append.mp hp with z | z
    · exact List.mem_cons_of_mem _ (List.mem_append_left _ z)
    · rcases List.mem_cons.mp z with z | z
      · rw [z]; exact List.mem_cons_self
      · exact List.mem_cons_of_mem _ (List.mem_append_right _ z), I.hok, I.len⟩
end
section
variable {X : Cx} {pins : List (Addr × Obj)}
/-- an error at a that is about to be looked at by X's except clause; I0: the state without it, at i0 -/
structure Air (X : Cx) (pins : List (Addr × Obj)) (B : Heap) (a : Addr) (cls : Value) (d : Option Addr) (σ : L2.St) (H : Hp) (i0 s1 : Shared) : Prop where
  inv : Inv X pins σ H i0
  gnd : ∀ b o, i0.heap.get? b = some o → b ∉ frs X.stack → B.get? b = some o
  ups : i0.heap.UpToSlots s1.heap
  non : H a = none
  sos : s1.os = i0.os
  gen : AllBare s1.gens
/-- .. when it is down: h1 the heap -/
structure Down (X : Cx) (pins : List (Addr × Obj)) (a : Addr) (cls : Value) (d : Option Addr) (σ : L2.St) (H : Hp) (i0 : Shared) (oe : Obj) (s1 : Shared) : Prop where
  inv : Inv X pins σ H s1
  obj : s1.heap.get? a = some oe
  zc : Zc cls d oe
  rcd : ∃ vs, oe.data = .fields vs
  loc : a ≠ X.env.locals
  frm : a ∉ X.fs
  no0 : X.s_0.heap.get? a = none
  noP : ∀ p ∈ X.pn ++ pins, p.1 ≠ a
  noC : ∀ y c, X.env.cells.lookup y = some c → c ≠ a
theorem Air.down {B h1 : Heap} {a : Addr} {cls : Value} {d : Option Addr} {σ : L2.St} {H : Hp} {i0 s1 : Shared} (A : Air X pins B a cls d σ H i0 s1) (hs : X.stack = X.env :: X.outer) (hex : X.ex = []) (hf : X.env.frame = some X.env.locals)
    (fl : HandSPX.FlyingZ B (X.env :: X.outer) a (Zc cls d) h1) (up : s1.heap.UpToSlots h1) : ∃ oe, Down X pins a cls d σ H i0 oe { s1 with heap := h1 } := by
  obtain ⟨oe, vs, eo, zo, dat⟩ := fl.there
  have out : a ∉ frs (X.env :: X.outer) := fun m => by
    obtain ⟨_, o, q, ng⟩ := fl.2.2.1.mem m
    rw [eo] at q
    cases q
    exact ng _ dat
  have gone : i0.heap.get? a = none := by
    cases q : i0.heap.get? a with
    | none => rfl
    | some o =>
      have z := A.gnd a o q (by rw [hs]; exact out)
      rw [fl.2.1] at z
      cases z
  have off : ∀ {b : Addr} {o : Obj}, i0.heap.get? b = some o → b ≠ a := fun {b o} q z => by
    rw [z, gone] at q
    cases q
  refine ⟨oe, A.inv.landed A.gnd fl.1 (A.ups.trans up) A.sos A.gen, eo, zo, ⟨vs, dat⟩, fun z => ?_, fun m => ?_, ?_, fun p m => off (A.inv.pin p m).1, fun y c q => ?_⟩
  · exact out (List.mem_filterMap.mpr ⟨X.env, .head _, by rw [hf, z]⟩)
  · obtain ⟨v, m1, m2⟩ := List.mem_filterMap.mp m
    exact out (List.mem_filterMap.mpr ⟨v, .tail _ m1, m2⟩)
  · cases q : X.s_0.heap.get? a with
    | none => rfl
    | some o =>
      obtain ⟨o', z⟩ := A.inv.base.there a o q (by rw [hex]; exact fun z => nomatch z)
      exact absurd rfl (off z)
  · obtain ⟨_, o, q2, _⟩ := A.inv.cell y c q
    exact off q2
variable {x n : Str} {c : Value} {i : Nat} {body suite : List Stmt} {b₀ : Stmt} {np pos pos' : Pos} {tb : WX → TS} {ts : Addr → Value → Option Addr → TS} {σ : L2.St} {H : Hp} {i0 s1 : Shared} {a : Addr} {cls : Value} {d : Option Addr} {oe : Obj} {D : Ends}
/-- the clause's class is read, its suite run, its name goes, the error is kept -/
theorem Down.runs {B : Heap} (U : Down X pins a cls d σ H i0 oe s1) (fl : HandSPX.FlyingZ B (X.env :: X.outer) a (Zc cls d) s1.heap) (A : Air X pins B a cls d σ H i0 s1) (hs : X.stack = X.env :: X.outer) (hex : X.ex = []) (hf : X.env.frame = some X.env.locals)
    (hN : X.N.Nodup) (hi : X.N[i]? = some n) (hln : X.env.kindOf n = some .local) (hc : Names X x c) (ht : PySem.W.exmOne X.K cls c = some true)
    (hsu : ∀ (a : Addr) (oe : Obj) (cls : Value) (d : Option Addr) (pn : List (Addr × Obj)), Zc cls d oe → (∃ vs, oe.data = .fields vs) → PSs (X.suite a ((a, oe) :: pn)) (b₀ :: suite) (ts a cls d))
    (q : ts a cls d { nx := fun σ' H' => D.nx (σ'.set i none) (upd H' a (exv a cls d)), rt := fun _ _ => False, bk := fun _ _ => False, ct := fun _ _ => False } (σ.set i (some (.ref a))) H) :
    wpAny (model X.prog X.w) X.A (handleBy (.ref a) X.env [.ExceptHandler (some (.Name x np)) (some n) (b₀ :: suite) pos']) (SP X pins D) X.xe s1 := by
  obtain ⟨vs, dat⟩ := U.rcd
  have V := U.inv.suite U.obj dat A.non U.loc U.frm
  refine wpAny_handleBy_cons (codeAny_handlers_test ?_) (fun z => by cases z)
  have ty : PySem.W.Looks (model X.prog X.w) s1.heap (typeOf (.ref a)) cls := fun _ _ _ _ kk qq => wpAny_typeOf_ref (kk _ _ U.obj) (by rw [U.zc.1]; exact qq)
  have mt := PySem.W.exm_one (M := model X.prog X.w) U.inv.kIn ty ht
  have nm : ∀ {Q1 : Value → Shared → Prop} {E1 : Value → Shared → Prop}, Q1 c s1 → wpAny (model X.prog X.w) (X.A.mark (some (.ref a))) (eval (.Name x np) X.env) Q1 E1 s1 := fun {Q1 E1} qq => by
    rcases hc with ⟨g1, g2, g3 | ⟨g3, g4, g5⟩⟩
    · exact ld_glob (X := X.suite a ((a, oe) :: (X.pn ++ pins))) V g1 g3 qq g2
    · exact ld_blt (X := X.suite a ((a, oe) :: (X.pn ++ pins))) V g1 g3 g4 qq g5 g2
  refine nm (mt.here (codeAny_handlers_suite_as ?_))
  refine HandSPX.lands_againZ fl fun h2 fl2 up2 => ?_
  obtain ⟨oe2, U2⟩ := A.down hs hex hf fl2 up2
  obtain ⟨vs2, dat2⟩ := U2.rcd
  refine store_ok (X := X.suite a ((a, oe2) :: (X.pn ++ pins))) (v := .ref a) (U2.inv.suite U2.obj dat2 A.non U2.loc U2.frm) hN hi (.inl hln) rfl (fun s3 V3 => ?_) (.inr hln)
  refine wpAny_mono ((hsu a oe2 cls d (X.pn ++ pins) U2.zc ⟨vs2, dat2⟩).run [] s3 _ H _ V3 q) (fun fl s4 e => ?_) (fun _ _ z => z.elim)
  cases fl with
  | next =>
    obtain ⟨σ4, H4, V4, q4⟩ := e
    exact gone_ok (Inv_unsuite V4 U.inv.ok) hN hi hln fun s5 V5 => ⟨_, _, Inv_track V5 U.no0 U.noP U.noC (exv_ok (V5.pin (a, oe2) (List.mem_append_right _ (.head _))).1 U2.zc dat2), q4⟩
  | brk => obtain ⟨_, _, _, z⟩ := e; exact z.elim
  | cont => obtain ⟨_, _, _, z⟩ := e; exact z.elim
  | ret v => obtain ⟨_, _, _, _, _, z⟩ := e; exact z.elim
/-- try: body / except x as n: suite, every error of the body being one of x -/
def wKeep (K : PySem.W.Frag) (c : Value) (i : Nat) (ts : Addr → Value → Option Addr → TS) (D : Ends) : WX := fun cls d σ H =>
  PySem.W.exmOne K cls c = some true ∧ ∀ a, H a = none → ts a cls d { nx := fun σ' H' => D.nx (σ'.set i none) (upd H' a (exv a cls d)), rt := fun _ _ => False, bk := fun _ _ => False, ct := fun _ _ => False } (σ.set i (some (.ref a))) H
theorem ps_try_keep (hs : X.stack = X.env :: X.outer) (hex : X.ex = []) (hf : X.env.frame = some X.env.locals) (hN : X.N.Nodup) (hi : X.N[i]? = some n) (hln : X.env.kindOf n = some .local) (hc : Names X x c)
    (hb : ∀ (W : WX) (pn : List (Addr × Obj)) (xe : Value → Shared → Prop), Takes (X.tr pn xe) W → PassesOwn (model X.prog X.w) X.A X.env xe → PSs (X.tr pn xe) body (tb W))
    (hsu : ∀ (a : Addr) (oe : Obj) (cls : Value) (d : Option Addr) (pn : List (Addr × Obj)), Zc cls d oe → (∃ vs, oe.data = .fields vs) → PSs (X.suite a ((a, oe) :: pn)) (b₀ :: suite) (ts a cls d)) :
    PS X (.Try body [.ExceptHandler (some (.Name x np)) (some n) (b₀ :: suite) pos'] [] [] pos) (fun D σ H => tb (wKeep X.K c i ts D) D σ H) := by
  refine ⟨fun pins s σ H D I h => wpAny_Try_except ?_⟩
  have frm : X.A.frames = some (X.env :: X.outer) := by rw [I.ok.frames, hs]
  have up0 : ∀ (h : Heap), h.UpToSlots h := fun h => Heap.UpToSlots.of_keeps fun _ _ e => e
  have body0 := (hb (wKeep X.K c i ts D) (X.pn ++ pins) (fun e t1 => wpAny (model X.prog X.w) X.A (noteFrame e X.env) (fun _ t2 => wpAny (model X.prog X.w) X.A (setFlight e none) (fun _ t3 => wpAny (model X.prog X.w) X.A (handleBy e X.env [.ExceptHandler (some (.Name x np)) (some n) (b₀ :: suite) pos']) (SP X pins D) X.xe t3) X.xe t2) X.xe t1)
    (fun u t1 air => by
      obtain ⟨a, B, i0, _, σ0, H0, cls, d, rfl, J, gnd, ups, sky, na, so, ag, hm, hy⟩ := air
      have A : Air X pins B a cls d σ0 H0 i0 t1 := ⟨J.ofTry I.ok, gnd, ups, na, so, ag⟩
      refine Sky.land Zc.steady frm hf (show Sky B (X.env :: X.outer) a (Zc cls d) X.env.locals t1.heap from hs ▸ sky) fun h1 fl1 up1 => ?_
      obtain ⟨oe, U⟩ := A.down hs hex hf fl1 up1
      exact U.runs fl1 ⟨A.inv, gnd, ups.trans up1, na, so, ag⟩ hs hex hf hN hi hln hc hm hsu (hy a na)) PassesOwn.looking).run [] s σ H D (I.toTry _) h
  refine wpAny_mono body0 (fun fl t1 e => ?_) (fun _ _ e => e)
  cases fl with
  | next => obtain ⟨σ1, H1, J, q⟩ := e; exact wpAny_execs_nil ⟨σ1, H1, J.ofTry I.ok, q⟩
  | brk => obtain ⟨σ1, H1, J, q⟩ := e; exact ⟨σ1, H1, J.ofTry I.ok, q⟩
  | cont => obtain ⟨σ1, H1, J, q⟩ := e; exact ⟨σ1, H1, J.ofTry I.ok, q⟩
  | ret u => obtain ⟨v, σ1, H1, J, r, q⟩ := e; exact ⟨v, σ1, H1, J.ofTry I.ok, r, q⟩
end
end Eh
set_option Elab.async false
set_option linter.all false
set_option maxRecDepth 100000
set_option maxHeartbeats 4000000
namespace Eh
open PySem PySem.Spec PyProof.Rows L2 NdefX
/-! isinstance and the field of a caught error that was kept -/
/-- its own dict, if it has one, is ours -/
def DctOk (H : Hp) (d : Option Addr) : Prop := match d with
  | none => True
  | some dd => ∃ fs, H dd = some (.xd fs)
/-- what is told of an error's class -/
structure ErrC (K : PySem.W.Frag) (C : Addr) : Prop where
  ec : ExcC K C
  xf : XfC K C
theorem inst_exv {P : Program} {w : World} {H : Hp} {h : Heap} {a C : Addr} {d : Option Addr} (hok : HOk P w H h) (e : H a = some (exv a (.ref C) d)) (hd : DctOk H d) : ∃ (oe : Obj) (od : Option Obj), PySem.W.InstAt h a oe C od := by
  obtain ⟨oe, vs, e1, z, dat⟩ := exv_at hok e
  have nc : PySem.W.notCls oe = true := by
    unfold PySem.W.notCls
    rw [dat] <;> rfl
  cases d with
  | none => exact ⟨oe, none, e1, z.1, nc, by rw [z.2]; trivial⟩
  | some dd =>
    obtain ⟨fs, e2⟩ := hd
    have x : ObjOk P w H h dd (.xd fs) := hok dd _ e2
    obtain ⟨mA, hns, _⟩ := x
    obtain ⟨od, ho, _⟩ := lookIn_ns hns
    exact ⟨oe, some od, e1, z.1, nc, by rw [z.2]; exact ho⟩
/-- isinstance(x, c), x such an error -/
def rIsX (K : PySem.W.Frag) : List V → Hp → VK → Prop := fun xs H Q => ∃ (a C : Addr) (d : Option Addr) (c : V) (cv : Value) (b : Bool), xs = [.ref a, c] ∧ H a = some (exv a (.ref C) d) ∧ DctOk H d ∧ ErrC K C ∧ (∀ u, L2.RelV c u → u = cv) ∧ PySem.W.kitOne K (.ref C) cv = some b ∧ Q (.bl b) H
theorem call_isX {X : Cx} : CallR X (.builtin "isinstance") (rIsX X.K) := by
  intro pins s σ H xs us Q I r h
  obtain ⟨a, C, d, c, cv, b, rfl, ea, hd, T, hcv, e, q⟩ := h
  cases r with
  | cons rx rr =>
  cases rr with
  | cons rt rr =>
  cases rr
  cases rx
  have ec := hcv _ rt
  subst ec
  obtain ⟨oe, od, J⟩ := inst_exv I.hok ea hd
  have hcl : (PySem.W.clsIn X.K C).isSome = true := by
    obtain ⟨cd, hc, _⟩ := PySem.W.any_some T.ec.hd
    rw [hc] <;> rfl
  exact PySem.W.kia_one (PySem.W.kitx_exc hcl T.ec.hg T.ec.hk T.ec.hs T.ec.ha T.ec.hn T.ec.ht T.ec.hm) I.kIn J e (fun z => nomatch z) fun tk => ⟨.bl b, H, I.tok tk, rfl, q⟩
/-- x.n, x such an error -/
def tXg (K : PySem.W.Frag) (n : Str) (te : TE) : TE := fun σ H Q => te σ H fun x H1 => ∃ (a C dd : Addr) (fs : List (Str × V)) (v : V), x = .ref a ∧ ErrC K C ∧ PySem.W.findIn K (.ref C) n = some none ∧ H1 a = some (exv a (.ref C) (some dd)) ∧ H1 dd = some (.xd fs) ∧ fs.lookup n = some v ∧ Q v H1
theorem pe_xg {X : Cx} {e : Expr} {te : TE} {pos : Pos} {n : Str} (he : PE X e te) (hb : attributeBase e n X.env (eval e X.env) = eval e X.env := by rfl) : PE X (.Attribute e n pos) (tXg X.K n te) := by
  refine ⟨fun pins s σ H Q I h => ?_⟩
  refine attr_of hb (thn (he.run pins s σ H _ I h) fun u s1 ⟨x, H1, I1, rx, a, C, dd, fs, v, ex, T, hno, ea, ed, l, q⟩ => ?_)
  subst ex
  obtain rfl : u = Value.ref a := rx
  obtain ⟨oe, vs, e1, z, dat⟩ := exv_at I1.hok ea
  have x : ObjOk X.prog X.w H1 s1.heap dd (.xd fs) := I1.hok dd _ ed
  obtain ⟨mA, hns, hr⟩ := x
  obtain ⟨od, ho, hl⟩ := lookIn_ns hns
  obtain ⟨u, hu, ru⟩ := RelO.some_of (v := v) (o := mA n) (by rw [← l]; exact hr n)
  exact HandSPX.exc_get I1.kIn (⟨e1, z.1, by unfold PySem.W.notCls; rw [dat] <;> rfl, by rw [z.2]; exact ho⟩ : PySem.W.InstAt s1.heap a oe C (some od)) T.xf.ga T.xf.gg T.xf.exC (PySem.W.findObj_own T.xf.hdC hno rfl (by rw [hl, hu])) (handed_of ru) ⟨v, H1, I1.tok _, ru, q⟩
end Eh
set_option Elab.async false
set_option linter.all false
set_option maxRecDepth 100000
set_option maxHeartbeats 4000000
namespace Eh
open PySem PySem.Spec PyProof.Rows L2 Evl
def topS (i : Nat) : Stmt := PySem.Challenge.pw_echohall_k48_letters_at_places.main.body.getD i (.Pass ⟨0, 0, 0, 0⟩)
abbrev sOrderOf : Stmt := topS 4
abbrev sNeedWord : Stmt := topS 5
abbrev sAnswers : Stmt := topS 7
abbrev sPartsIn : Stmt := topS 9
abbrev sLengthOf : Stmt := topS 10
abbrev sPartAt : Stmt := topS 11
abbrev sIsOwn : Stmt := topS 12
abbrev sSteppedIn : Stmt := topS 13
abbrev sIsPlace : Stmt := topS 14
abbrev sLetterAt : Stmt := topS 15
abbrev sAnswerAt : Stmt := topS 16
abbrev sBlend : Stmt := topS 18
abbrev sPot : Stmt := topS 19
abbrev sPick : Stmt := topS 20
abbrev sLetters : Stmt := topS 21
abbrev sSheet : Stmt := topS 22
abbrev sShut : Stmt := topS 23
abbrev sAns : Stmt := topS 24
abbrev sSame : Stmt := topS 25
abbrev sLawCount : Stmt := topS 26
abbrev sLawGreat : Stmt := topS 27
abbrev sSize : Stmt := topS 28
abbrev sLawWrite : Stmt := topS 29
abbrev sLawWideGreat : Stmt := topS 30
abbrev sLawTenDeep : Stmt := topS 31
abbrev sLawFound : Stmt := topS 32
abbrev sLawPlaces : Stmt := topS 33
abbrev sLawRight : Stmt := topS 34
abbrev sLaw : Stmt := topS 35
theorem scBlend : FnScope ["cell", "at", "one", "two", "three"] ["cell", "at"] (defScope sBlend) := ⟨rfl, rfl, rfl, by decide +kernel, rfl, by decide +kernel, by decide +kernel⟩
theorem scPot : FnScope ["script", "cells", "k", "cell"] ["script"] (defScope sPot) := ⟨rfl, rfl, rfl, by decide +kernel, rfl, by decide +kernel, by decide +kernel⟩
theorem scPick : FnScope ["pot", "many", "at", "cell", "found"] ["pot", "many"] (defScope sPick) := ⟨rfl, rfl, rfl, by decide +kernel, rfl, by decide +kernel, by decide +kernel⟩
theorem scLetters : FnScope ["pot", "many", "small", "k", "rest", "spot", "turn", "size", "found", "part", "at"] ["pot", "many"] (defScope sLetters) := ⟨rfl, rfl, rfl, by decide +kernel, rfl, by decide +kernel, by decide +kernel⟩
theorem scSheet : FnScope ["pot", "most", "letters", "turn", "opens", "plains", "closes"] ["pot", "most"] (defScope sSheet) := ⟨rfl, rfl, rfl, by decide +kernel, rfl, by decide +kernel, by decide +kernel⟩
end Eh
set_option Elab.async false
set_option linter.all false
set_option maxRecDepth 100000
set_option maxHeartbeats 4000000
namespace Eh
open PySem PySem.Spec PyProof.Rows L2 Evl
/-! heaps -/
def Keep (p : Addr) (H H' : Hp) : Prop := ∀ b o, b ≠ p → H b = some o → H' b = some o
theorem Keep.refl (p : Addr) (H : Hp) : Keep p H H := fun _ _ _ h => h
theorem Keep.trans {p : Addr} {H H1 H2 : Hp} (a : Keep p H H1) (b : Keep p H1 H2) : Keep p H H2 := fun x o n h => b x o n (a x o n h)
theorem Keep.ofEx {p : Addr} {H H' : Hp} (e : Ex H H') : Keep p H H' := fun b o _ h => e b o h
theorem Keep.new {p q : Addr} {H H' : Hp} {o : HO} (k : Keep p H H') (h : H q = none) : Keep p H (upd H' q o) := fun b u n e => by
  rw [upd_ne (ne_of_none e h)]
  exact k b u n e
theorem Keep.at {p : Addr} {H H' : Hp} {o : HO} (k : Keep p H H') : Keep p H (upd H' p o) := fun b u n e => by
  rw [upd_ne n]
  exact k b u n e
/-- the drawing pot: its cells stand still, how many were drawn and the rest change -/
def Pot (p c : Addr) (ns : List Int) (H : Hp) : Prop := ∃ a r : Int, 0 ≤ a ∧ H p = some (.lst [.ref c, .int a, .int r]) ∧ H c = some (.lst (ns.map V.int))
theorem Pot.ne {p c : Addr} {ns : List Int} {H : Hp} (h : Pot p c ns H) : c ≠ p := by
  obtain ⟨a, r, _, h1, h2⟩ := h
  intro e
  subst e
  have q : [V.ref c, .int a, .int r] = ns.map V.int := by
    have := h1.symm.trans h2
    injection this with this
    injection this
  cases ns with
  | nil => cases q
  | cons x t => cases q
theorem Pot.ex {p c : Addr} {ns : List Int} {H H' : Hp} (h : Pot p c ns H) (e : Ex H H') : Pot p c ns H' := by
  obtain ⟨a, r, h0, h1, h2⟩ := h
  exact ⟨a, r, h0, e _ _ h1, e _ _ h2⟩
theorem Pot.new {p c q : Addr} {ns : List Int} {H : Hp} {o : HO} (h : Pot p c ns H) (hp : p ≠ q) (hc : c ≠ q) : Pot p c ns (upd H q o) := by
  obtain ⟨a, r, h0, h1, h2⟩ := h
  exact ⟨a, r, h0, by rw [upd_ne hp]; exact h1, by rw [upd_ne hc]; exact h2⟩
section
variable {P : Program} {w : World} {K : PySem.W.Frag} {mg : Str → Option Value} {base : Heap}
def spBlend : Sp := fun vs H Q _ => ∃ x a : Int, vs = [.int x, .int a] ∧ ∀ v : Int, Q (.int v) H
theorem ok_blend {f : Addr} {fd : FuncData} {k : Nat} (F : Fun K "_law_blend" "_law_blend" sBlend f fd) : FnOk P w K mg base CX0 (k + 1) f fd ["cell", "at"] spBlend := by
  refine F.ok scBlend (fun vs H Q E h => ?_) (fun cdv A outer s H vs Q E hr h => ?_)
  · obtain ⟨x, a, rfl, _⟩ := h
    rfl
  · obtain ⟨x, a, rfl, q⟩ := h
    refine ⟨_, pss_cons (ps_if (pt_cmpR op_ge (pv 0) (pe_op op_pow pe_int pe_int) (nomark _)) (pss_one (ps_ret (pv 0))) pss_nil)
      (pss_cons (ps_set (i := 2) scBlend.nd rfl (.inl rfl) (pe_op op_mod (pe_op op_add (pe_op op_add (pe_op op_mul (pe_op op_mod (pv 0) pe_int) pe_int) (pe_op op_mul (pv 1) pe_int)) pe_int) pe_int))
      (pss_cons (ps_set (i := 3) scBlend.nd rfl (.inl rfl) (pe_op op_mod (pe_op op_add (pe_op op_add (pe_op op_mul (pv 2) (pv 2)) (pe_op op_mul (pv 1) pe_int)) (pe_op op_mod (pv 0) pe_int)) pe_int))
      (pss_cons (ps_set (i := 4) scBlend.nd rfl (.inl rfl) (pe_op op_mod (pe_op op_add (pe_op op_add (pe_op op_mul (pv 3) (pv 3)) (pe_op op_mul (pv 2) pe_int)) pe_int) pe_int))
      (pss_one (ps_ret (pe_op op_add (pe_op op_mul (pe_op op_add (pe_op op_mul (pv 2) pe_int) (pv 3)) pe_int) (pv 4))))))), ?_⟩
    refine ⟨_, rfl, 10, 18, rfl, rfl, ⟨by decide, by decide, by decide⟩, _, _, rfl, rfl, _, rfl, ite2 (fun e => ?_) (fun e => ?_)⟩
    · exact ⟨_, rfl, q _⟩
    · have big : ∀ j : Int, 0 < j → j < 4294967296 → ∀ y : Int, CMul (y % j) (y % j) := fun j h0 h1 y => .inl ⟨by have := Int.emod_nonneg y (show j ≠ 0 by omega); omega, by have := Int.emod_lt_of_pos y h0; omega⟩
      refine ⟨_, rfl, _, _, rfl, rfl, (by show (0 : Int) < _; decide), _, _, rfl, rfl, .inr ⟨by decide, by decide⟩, _, rfl, _, _, rfl, rfl, .inr ⟨by decide, by decide⟩, _, _, rfl, rfl, _, _, rfl, rfl, _, _, rfl, rfl, (by show (0 : Int) < _; decide), ?_⟩
      refine ⟨_, rfl, _, rfl, _, _, rfl, rfl, big _ (by decide) (by decide) _, _, rfl, _, _, rfl, rfl, .inr ⟨by decide, by decide⟩, _, _, rfl, rfl, _, rfl, _, _, rfl, rfl, (by show (0 : Int) < _; decide), _, _, rfl, rfl, _, _, rfl, rfl, (by show (0 : Int) < _; decide), ?_⟩
      refine ⟨_, rfl, _, rfl, _, _, rfl, rfl, big _ (by decide) (by decide) _, _, rfl, _, _, rfl, rfl, .inr ⟨by decide, by decide⟩, _, _, rfl, rfl, _, _, rfl, rfl, _, _, rfl, rfl, (by show (0 : Int) < _; decide), ?_⟩
      exact ⟨_, rfl, _, _, rfl, rfl, .inr ⟨by decide, by decide⟩, _, rfl, _, _, rfl, rfl, _, _, rfl, rfl, .inr ⟨by decide, by decide⟩, _, rfl, _, _, rfl, rfl, q _⟩
end
end Eh
set_option Elab.async false
set_option linter.all false
set_option maxRecDepth 100000
set_option maxHeartbeats 4000000
namespace Eh
open PySem PySem.Spec PyProof.Rows L2 Evl
theorem dpInts {K : PySem.W.Frag} {H : Hp} : ∀ ns : List Int, DpAll K H (ns.map V.int) (ns.map PyData.int)
  | [] => .nil
  | n :: r => .cons (.int n) (dpInts r)
theorem layInts : ∀ ns : List Int, PyData.canLayAll0 (ns.map PyData.int) = true
  | [] => rfl
  | n :: r => by
    show (true && PyData.canLayAll0 (r.map PyData.int)) = true
    rw [layInts r]
    rfl
theorem deepInts : ∀ ns : List Int, PyData.depthAll (ns.map PyData.int) = 0
  | [] => rfl
  | n :: r => by
    show max 0 (PyData.depthAll (r.map PyData.int)) = 0
    rw [deepInts r]
    rfl
theorem shapedInts (ns : List Int) : SeqAt.shaped (.list (ns.map PyData.int)) = true := by
  unfold SeqAt.shaped
  have h1 : PyData.canLay0 (.list (ns.map PyData.int)) = true := layInts ns
  have h2 : PyData.depth (.list (ns.map PyData.int)) = 1 := by
    show PyData.depthAll (ns.map PyData.int) + 1 = 1
    rw [deepInts]
  rw [h1, h2]
  rfl
theorem shapedNil : SeqAt.shaped (.list []) = true := by decide +kernel
section
variable {P : Program} {w : World} {K : PySem.W.Frag} {mg : Str → Option Value} {base : Heap}
def spPick : Sp := fun vs H Q _ => ∃ (p c : Addr) (ns : List Int) (m : Int), vs = [.ref p, .int m] ∧ 0 < m ∧ m < 1073741824 ∧ Pot p c ns H ∧ ∀ (v : Nat) H', (v : Int) < m → Keep p H H' → Pot p c ns H' → Q (.int v) H'
theorem ok_pick {f fB : Addr} {fd fdB : FuncData} {k : Nat} (F : Fun K "_law_pick" "_law_pick" sPick f fd) (FB : Fun K "_law_blend" "_law_blend" sBlend fB fdB) (bB : Binds K fdB ["cell", "at"] []) (gB : mg "_law_blend" = some (.ref fB)) (ml : mg "len" = none) :
    FnOk P w K mg base CX0 (k + 2) f fd ["pot", "many"] spPick := by
  have GB : FnOk P w K mg base CX0 (k + 1) fB fdB ["cell", "at"] spBlend := ok_blend FB
  have nd := scPick.nd
  refine F.ok scPick (fun vs H Q E h => ?_) (fun cdv A outer s H vs Q E hr h => ?_)
  · obtain ⟨p, c, ns, m, rfl, _⟩ := h
    rfl
  · obtain ⟨p, c, ns, m, rfl, m0, m1, hP, q⟩ := h
    refine ⟨_, pss_cut (ps_if (pt_cmpR op_lt (pe_ix ix_list (pv 0) pe_int (fun _ _ => rfl)) (pv 1) (nomark _))
       (pss_cons (ps_set (i := 2) nd rfl (.inl rfl) (pe_ix ix_list (pv 0) pe_int (fun _ _ => rfl)))
       (pss_cons (ps_set (i := 3) nd rfl (.inl rfl) (pe_op op_mul pe_int (pv 2)))
       (pss_cut (ps_if (pt_cmpR op_lt (pv 2) (pe_callB call_len_seq (by rfl) ml PySem.boot_len (pa_cons (pe_ix ix_list (pv 0) pe_int (fun _ _ => rfl)) pa_nil)) (nomark _))
            (pss_one (ps_set (i := 3) nd rfl (.inl rfl) (pe_ix ix_list (pe_ix ix_list (pv 0) pe_int (fun _ _ => rfl)) (pv 2) (fun _ _ => rfl))))
            (pss_one (ps_if (pt_cmpR (op_neD hr.units) (pe_ix ix_list (pv 0) pe_int (fun _ _ => rfl)) (pe_lst pa_nil) (nomark _))
              (pss_one (ps_set (i := 3) nd rfl (.inl rfl) (pe_op op_mod (pe_ix ix_list (pe_ix ix_list (pv 0) pe_int (fun _ _ => rfl)) (pe_op op_mod (pe_op op_add (pe_op op_mul (pv 2) pe_int) pe_int) (pe_callB call_len_seq (by rfl) ml PySem.boot_len (pa_cons (pe_ix ix_list (pv 0) pe_int (fun _ _ => rfl)) pa_nil))) (fun _ _ => rfl)) (pe_op op_add (pe_op op_pow pe_int pe_int) (pe_op op_mul pe_int (pv 2)))))) pss_nil)))
       (pss_cons (ps_asg (pe_op op_add (pv 2) pe_int) (pg_sub (pv 0) pe_int set_list))
       (pss_one (ps_asg (pe_call GB hr (by rfl) gB FB.kp bB .nil pass0 (pa_cons (pv 3) (pa_cons (pv 2) pa_nil))) (pg_sub (pv 0) pe_int set_list)))))))
       pss_nil)
      (pss_cons (ps_set (i := 4) nd rfl (.inl rfl) (pe_op op_mod (pe_ix ix_list (pv 0) pe_int (fun _ _ => rfl)) (pv 1)))
      (pss_cons (ps_asg (pe_op op_fdiv (pe_ix ix_list (pv 0) pe_int (fun _ _ => rfl)) (pv 1)) (pg_sub (pv 0) pe_int set_list))
      (pss_one (ps_ret (pv 4))))), ?_⟩
    have hne := hP.ne
    obtain ⟨a, r, a0, hp, hc⟩ := hP
    refine ⟨fun σ' H' => (∃ y2 y3, σ' = [some (.ref p), some (.int m), y2, y3, none]) ∧ Keep p H H' ∧ Pot p c ns H', ?_, ?_⟩
    · refine ⟨_, rfl, p, _, 2, .int r, rfl, rfl, sq_of hp, rfl, _, rfl, _, _, rfl, rfl, _, rfl, ite2 (fun e => ?_) (fun e => ?_)⟩
      · refine ⟨_, rfl, p, _, 1, .int a, rfl, rfl, sq_of hp, rfl, ?_⟩
        refine ⟨_, rfl, _, _, rfl, rfl, .inl ⟨by decide, by decide⟩, ?_⟩
        refine ⟨fun σ' H' => ∃ y3 : Int, σ' = [some (.ref p), some (.int m), some (.int a), some (.int y3), none] ∧ Ex H H', ?_, ?_⟩
        · refine ⟨_, rfl, _, rfl, p, _, 0, .ref c, rfl, rfl, sq_of hp, rfl, c, _, rfl, .inl (sq_of hc), _, _, rfl, rfl, _, rfl, ite2 (fun e => ?_) (fun e => ?_)⟩
          · have ha : a < (ns.map V.int).length := of_decide_eq_true e
            have hb : a.toNat < ns.length := by
              rw [List.length_map] at ha
              omega
            refine ⟨_, rfl, p, _, 0, .ref c, rfl, rfl, sq_of hp, rfl, _, rfl, c, _, a, .int ns[a.toNat], rfl, rfl, sq_of hc, at_of (j := a.toNat) (by omega) ?_, _, rfl, Ex.refl _⟩
            rw [List.getElem?_map, List.getElem?_eq_getElem hb]
            rfl
          · refine ⟨_, rfl, p, _, 0, .ref c, rfl, rfl, sq_of hp, rfl, Nat.zero_le _, fun u hu => ?_⟩
            have e1 : Ex H (upd H u (.lst [])) := Ex.new hu
            refine ⟨.list (ns.map PyData.int), .list [], .lst (sq_of (e1 _ _ hc)) (dpInts ns), .lst (sq_of upd_same) .nil, shapedInts ns, shapedNil, _, rfl, ite2 (fun e => ?_) (fun e => ?_)⟩
            · have h0 : 0 < ns.length := by
                cases ns with
                | nil => exact absurd e (by decide)
                | cons x t => exact Nat.succ_pos _
              have hl : (0 : Int) < ((ns.map V.int).length : Int) := by
                rw [List.length_map]
                omega
              have g0 := Int.emod_nonneg (a * 7 + 1) (show ((ns.map V.int).length : Int) ≠ 0 by omega)
              have g1 := Int.emod_lt_of_pos (a * 7 + 1) hl
              have hb : ((a * 7 + 1) % ((ns.map V.int).length : Int)).toNat < ns.length := by
                rw [List.length_map] at g0 g1 ⊢
                omega
              refine ⟨_, rfl, p, _, 0, .ref c, rfl, rfl, sq_of (e1 _ _ hp), rfl, _, rfl, _, _, rfl, rfl, .inr ⟨by decide, by decide⟩, _, _, rfl, rfl, _, rfl, p, _, 0, .ref c, rfl, rfl, sq_of (e1 _ _ hp), rfl, c, _, rfl, .inl (sq_of (e1 _ _ hc)), _, _, rfl, rfl, hl, c, _, _, .int ns[((a * 7 + 1) % ((ns.map V.int).length : Int)).toNat], rfl, rfl, sq_of (e1 _ _ hc), at_of (j := ((a * 7 + 1) % ((ns.map V.int).length : Int)).toNat) (by omega) ?_, _, _, rfl, rfl, ⟨by decide, by decide, by decide⟩, _, rfl, _, _, rfl, rfl, .inl ⟨by decide, by decide⟩, _, _, rfl, rfl, _, _, rfl, rfl, ?_, _, rfl, e1⟩
              · rw [List.getElem?_map, List.getElem?_eq_getElem hb]
                rfl
              · show (0 : Int) < 10 ^ (17 : Int).toNat + 3 * a
                have : (10 : Int) ^ (17 : Int).toNat = 100000000000000000 := by decide
                omega
            · exact ⟨_, rfl, e1⟩
        · rintro σ' H' ⟨y3, rfl, e1⟩
          refine ⟨_, rfl, _, _, rfl, rfl, _, rfl, p, _, 1, 1, rfl, rfl, e1 _ _ hp, rfl, ?_⟩
          refine ⟨_, rfl, _, rfl, _, _, rfl, fun v => ⟨_, rfl, p, _, 2, 2, rfl, rfl, upd_same, rfl, ⟨_, _, rfl⟩, ?_, a + 1, v, by omega, upd_same, ?_⟩⟩
          · exact ((Keep.ofEx e1).at).at
          · rw [upd_ne hne, upd_ne hne]
            exact e1 _ _ hc
      · exact ⟨⟨_, _, rfl⟩, Keep.refl _ _, a, r, a0, hp, hc⟩
    · rintro σ' H' ⟨⟨y2, y3, rfl⟩, kp, a', r', a0', hp', hc'⟩
      have g0 := Int.emod_nonneg r' (show m ≠ 0 by omega)
      have g1 := Int.emod_lt_of_pos r' m0
      refine ⟨_, rfl, p, _, 2, .int r', rfl, rfl, sq_of hp', rfl, _, rfl, _, _, rfl, rfl, m0, ?_⟩
      refine ⟨_, rfl, p, _, 2, .int r', rfl, rfl, sq_of hp', rfl, _, rfl, _, _, rfl, rfl, ⟨m0, m1⟩, _, rfl, p, _, 2, 2, rfl, rfl, hp', rfl, ?_⟩
      refine ⟨_, rfl, ?_⟩
      have e : r' % m = ((r' % m).toNat : Int) := by omega
      show Q (.int (r' % m)) _
      rw [e]
      refine q _ _ (by omega) kp.at ⟨a', r' / m, a0', upd_same, ?_⟩
      rw [upd_ne hne]
      exact hc'
end
end Eh
set_option Elab.async false
set_option linter.all false
set_option maxRecDepth 100000
set_option maxHeartbeats 4000000
namespace Eh
open PySem PySem.Spec PyProof.Rows L2 Evl
/-- for i, x in enumerate(list) -/
theorem for_enum {K : PySem.W.Frag} {a : Addr} {xs : List V} {tb : TS} {D : Ends} {σ : L2.St} {H : Hp} {i1 i2 : Nat} (Pv : Nat → L2.St → Hp → Prop) (h0 : Pv 0 σ H) (hl : ∀ i σ H, i ≤ xs.length → Pv i σ H → SqL K H a xs)
    (hs : ∀ i x σ H T, xs[i]? = some x → Pv i σ H → H T = none → tb { D with nx := Pv (i + 1), ct := Pv (i + 1), bk := D.nx } ((σ.set i1 (some (.int (i : Nat)))).set i2 (some x)) (upd H T (.tup [.int (i : Nat), x])))
    (hd : ∀ σ H, Pv xs.length σ H → D.nx σ H) :
    ∃ W : Nat → Nat → L2.St → Hp → Prop, (∃ m, W 0 m σ H) ∧ ∀ i m σ H, W i m σ H →
      ((Ite K a).stop i H ∧ D.nx σ H) ∨ ((Ite K a).go i H ∧ ∃ N : L2.St → Hp → Prop, (∀ σ' H', N σ' H' → ∃ m', m' < m ∧ W (i + 1) m' σ' H') ∧ ∀ x H', (Ite K a).yld i H x H' → gTup K 2 (gCons (gName i1) (gCons (gName i2) gNil)) x σ H' fun σ2 H2 => tb { D with nx := N, ct := N, bk := D.nx } σ2 H2) := by
  refine ⟨fun i m σ H => m = xs.length - i ∧ i ≤ xs.length ∧ Pv i σ H, ⟨xs.length, by omega, Nat.zero_le _, h0⟩, ?_⟩
  rintro i m σ H ⟨rfl, hi, p⟩
  have q := hl i σ H hi p
  by_cases hlt : i < xs.length
  · refine .inr ⟨⟨xs, xs[i], q, List.getElem?_eq_getElem hlt⟩, Pv (i + 1), fun σ' H' p' => ⟨xs.length - (i + 1), by omega, rfl, hlt, p'⟩, fun v H' y => ?_⟩
    obtain ⟨T, x, rfl, nT, rfl, f⟩ := y
    exact ⟨T, [.int (i : Nat), x], rfl, st_of upd_same, rfl, _, _, rfl, _, _, rfl, rfl, hs i x σ H T (f xs q) p nT⟩
  · have e : i = xs.length := by omega
    subst e
    exact .inl ⟨⟨xs, q, Nat.le_refl _⟩, hd σ H p⟩
theorem cut0 (xs : List V) (n : Nat) : cutV xs none (some (n : Int)) = xs.take n := by
  unfold cutV
  rw [HT.sIx_none, HT.sIx_nat, List.drop_zero, Nat.sub_zero]
  rw [List.take_eq_take_iff]
  omega
theorem cutF (xs : List V) (n : Nat) : cutV xs (some (n : Int)) none = xs.drop n := by
  unfold cutV
  rw [HT.sIx_none, HT.sIx_nat]
  by_cases h : n ≤ xs.length
  · rw [Nat.min_eq_left h]
    exact List.take_of_length_le (by rw [List.length_drop]; exact Nat.le_refl _)
  · rw [Nat.min_eq_right (by omega), List.drop_of_length_le (Nat.le_refl _), List.drop_of_length_le (by omega)]
    exact List.take_nil
theorem cutLH (xs : List V) (n m : Nat) : cutV xs (some (n : Int)) (some (m : Int)) = (xs.take m).drop n := by
  unfold cutV
  rw [HT.sIx_nat, HT.sIx_nat, List.drop_take]
  by_cases h : n ≤ xs.length
  · rw [Nat.min_eq_left h, List.take_eq_take_iff, List.length_drop]
    omega
  · rw [Nat.min_eq_right (show xs.length ≤ n by omega), List.drop_of_length_le (Nat.le_refl _), List.drop_of_length_le (show xs.length ≤ n by omega), List.take_nil, List.take_nil]
section
variable {P : Program} {w : World} {K : PySem.W.Frag} {mg : Str → Option Value} {base : Heap}
def spPot (K : PySem.W.Frag) : Sp := fun vs H Q _ => ∃ (a : Addr) (ns : List Int), vs = [.ref a] ∧ SqL K H a (ns.map V.int) ∧ ns.length ≤ 63 ∧ ∀ (p c : Addr) (ms : List Int) H', Ex H H' → Pot p c ms H' → H p = none → H c = none → Q (.ref p) H'
theorem ok_pot {f : Addr} {fd : FuncData} {k : Nat} (F : Fun K "_law_pot" "_law_pot" sPot f fd) (ml : mg "list" = none) (me : mg "enumerate" = none) :
    FnOk P w K mg base CX0 (k + 1) f fd ["script"] (spPot K) := by
  have nd := scPot.nd
  refine F.ok scPot (fun vs H Q E h => ?_) (fun cdv A outer s H vs Q E hr h => ?_)
  · obtain ⟨a, ns, rfl, _⟩ := h
    rfl
  · obtain ⟨a, ns, rfl, hS, hl, q⟩ := h
    refine ⟨_, pss_cons (ps_set (i := 1) nd rfl (.inl rfl) (pe_callTy call_list_of (by rfl) ml (by decide +kernel) (pa_cons (pe_slice sl_list (pv 0) po_none (po_some pe_int)) pa_nil)))
      (pss_cons (ps_for PassesOwn.never rfl (pi_enum (by rfl) me (pa_cons (pe_slice sl_list (pv 0) (po_some pe_int) (po_some pe_int)) pa_nil)) (pg_tup rfl (pgs_cons (pg_name (i := 2) nd rfl (.inl rfl)) (pgs_cons (pg_name (i := 3) nd rfl (.inl rfl)) pgs_nil)))
         (pss_one (ps_asg (pe_op op_add (pe_ix ix_list (pv 1) (pe_op op_mod (pv 2) pe_int) (fun _ _ => rfl)) (pv 3)) (pg_sub (pv 1) (pe_op op_mod (pv 2) pe_int) set_list))))
      (pss_one (ps_ret (pe_lst (pa_cons (pv 1) (pa_cons pe_int (pa_cons pe_int pa_nil))))))), ?_⟩
    refine ⟨_, rfl, 12, rfl, a, _, rfl, hS, fun u hu => ⟨u, _, rfl, .inl (sq_of upd_same), fun c hc => ?_⟩⟩
    have hcu : c ≠ u := fun e => by
      rw [e, upd_same] at hc
      cases hc
    have hcH : H c = none := by rw [← hc, upd_ne hcu]
    have e1 : Ex H (upd (upd H u (.lst (cutV (ns.map V.int) none (some 12)))) c (.lst (cutV (ns.map V.int) none (some 12)))) := (Ex.new hu).trans (Ex.new hc)
    have ec : cutV (ns.map V.int) none (some 12) = (ns.take 12).map V.int := by
      rw [show (some 12 : Option Int) = some ((12 : Nat) : Int) from rfl, cut0, List.map_take]
    rw [ec] at e1
    rw [ec]
    generalize hH1 : upd (upd H u (.lst ((ns.take 12).map V.int))) c (.lst ((ns.take 12).map V.int)) = H1 at e1 ⊢
    have hc1 : H1 c = some (.lst ((ns.take 12).map V.int)) := by
      rw [← hH1]
      exact upd_same
    refine ⟨_, rfl, 12, rfl, 63, rfl, a, _, rfl, ex_l e1 hS, fun l nl => ?_⟩
    have es : cutV (ns.map V.int) (some 12) (some 63) = ((ns.take 63).drop 12).map V.int := by
      rw [show (some 12 : Option Int) = some ((12 : Nat) : Int) from rfl, show (some 63 : Option Int) = some ((63 : Nat) : Int) from rfl, cutLH, List.map_drop, List.map_take]
    rw [es]
    have nlc : l ≠ c := fun e => by
      rw [e, hc1] at nl
      cases nl
    refine ⟨l, _, rfl, sq_of upd_same, for_enum (xs := ((ns.take 63).drop 12).map V.int) (fun i σ H' => (∃ y2 y3, σ = [some (.ref a), some (.ref c), y2, y3]) ∧ Ex H H' ∧ H' l = some (.lst (((ns.take 63).drop 12).map V.int)) ∧ ∃ ms : List Int, ms.length = min 12 ns.length ∧ H' c = some (.lst (ms.map V.int))) ?_ ?_ ?_ ?_⟩
    · refine ⟨⟨_, _, rfl⟩, e1.trans (Ex.new nl), upd_same, ns.take 12, ?_, ?_⟩
      · rw [List.length_take]
      · rw [upd_ne nlc.symm]
        exact hc1
    · rintro i σ H' _ ⟨_, _, h, _⟩
      exact sq_of h
    · rintro i x σ H' T hx ⟨⟨y2, y3, rfl⟩, eH, hl', ms, hms, hc'⟩ nT
      have ex : ∃ z : Int, x = .int z := by
        rw [List.getElem?_map] at hx
        obtain ⟨z, _, e⟩ := Option.map_eq_some_iff.mp hx
        exact ⟨z, e.symm⟩
      obtain ⟨z, rfl⟩ := ex
      have hi : 12 < ns.length := by
        have := (List.getElem?_eq_some_iff.mp hx).1
        rw [List.length_map, List.length_drop, List.length_take] at this
        omega
      have g0 : ((i : Int) % 12) = ((i % 12 : Nat) : Int) := by omega
      have hj : i % 12 < ms.length := by
        rw [hms]
        have := Nat.mod_lt i (show 0 < 12 by decide)
        omega
      have eT : Ex H' (upd H' T (.tup [.int (i : Nat), .int z])) := Ex.new nT
      have ix : (ms.map V.int)[i % 12]? = some (.int ms[i % 12]) := by
        rw [List.getElem?_map, List.getElem?_eq_getElem hj]
        rfl
      refine ⟨_, rfl, _, rfl, _, _, rfl, rfl, (by show (0 : Int) < _; decide), c, _, _, _, rfl, rfl, sq_of (eT _ _ hc'), at_of (j := i % 12) g0 ix, _, rfl, _, _, rfl, rfl, _, rfl, _, rfl, _, _, rfl, rfl, (by show (0 : Int) < _; decide), c, _, _, i % 12, rfl, rfl, eT _ _ hc', ?_, ⟨_, _, rfl⟩, ?_, ?_, ms.set (i % 12) (ms[i % 12] + z), ?_, ?_⟩
      · show ixN _ ((i : Int) % 12) = _
        rw [g0]
        exact ixN_nat (by rw [List.length_map]; exact hj)
      · exact Ex.mut (eH.trans eT) hcH
      · rw [upd_ne nlc]
        exact eT _ _ hl'
      · rw [List.length_set]
        exact hms
      · rw [upd_same, List.map_set]
    · rintro σ H' ⟨⟨y2, y3, rfl⟩, eH, hl', ms, hms, hc'⟩
      refine ⟨_, rfl, (by show 3 ≤ sizeLine; decide), fun p np => q p c ms _ (eH.trans (Ex.new np)) ⟨0, 0, by decide, upd_same, ?_⟩ (fresh_back eH np) hcH⟩
      have : c ≠ p := fun e => by
        rw [← e, hc'] at np
        cases np
      rw [upd_ne this]
      exact hc'
end
end Eh
set_option Elab.async false
set_option linter.all false
set_option maxRecDepth 100000
set_option maxHeartbeats 4000000
namespace Eh
open PySem PySem.Spec PyProof.Rows L2 Evl TL
/-! texts as lists of codes -/
abbrev cs (w : Str) : List Nat := w.cps.toList
theorem cs_ext {x y : Str} (h : cs x = cs y) : x = y := by
  cases x with | mk a => cases y with | mk b =>
  have : a = b := by
    apply Array.ext'
    exact h
  rw [this]
def az (c : Nat) : Prop := 97 ≤ c ∧ c < 123
/-- what is drawn as a letter -/
def Ltr (w : Str) : Prop := (∀ c ∈ cs w, az c) ∧ 1 ≤ (cs w).length ∧ (cs w).length ≤ 8
def spotAt (spot n : Nat) : Nat := if spot = 0 then 0 else if spot = 1 then n else n / 2
def mkL (rest : List Nat) (spot turn size k : Nat) : List Nat :=
  (rest.take ((size + k * (spot % 2)) % 8)).take (spotAt spot (rest.take ((size + k * (spot % 2)) % 8)).length) ++ ([97 + (turn + 5 * k) % 26] ++ (rest.take ((size + k * (spot % 2)) % 8)).drop (spotAt spot (rest.take ((size + k * (spot % 2)) % 8)).length))
theorem mkL_inj {rest : List Nat} {spot turn size k1 k2 : Nat} (hs : spot < 3) (h1 : k1 < 26) (h2 : k2 < 26) (h : mkL rest spot turn size k1 = mkL rest spot turn size k2) : k1 = k2 := by
  have key : 97 + (turn + 5 * k1) % 26 = 97 + (turn + 5 * k2) % 26 → k1 = k2 := fun e => by omega
  apply key
  unfold mkL at h
  have cases3 : spot = 0 ∨ spot = 1 ∨ spot = 2 := by omega
  rcases cases3 with rfl | rfl | rfl
  · simp only [spotAt, if_true, List.take_zero, List.nil_append, List.cons_append] at h
    exact (List.cons.inj h).1
  · have n1 : ∀ l : List Nat, spotAt 1 l.length = l.length := fun l => rfl
    rw [n1, n1, List.take_length, List.take_length, List.drop_length, List.drop_length, List.append_nil, List.append_nil] at h
    exact (List.cons.inj (List.append_inj' h rfl).2).1
  · rw [show k1 * (2 % 2) = 0 from Nat.mul_zero _, show k2 * (2 % 2) = 0 from Nat.mul_zero _] at h
    have := List.append_cancel_left h
    exact (List.cons.inj this).1
theorem mkL_len {rest : List Nat} {spot turn size k : Nat} : (mkL rest spot turn size k).length = (rest.take ((size + k * (spot % 2)) % 8)).length + 1 := by
  unfold mkL
  generalize rest.take ((size + k * (spot % 2)) % 8) = l
  rw [List.length_append, List.length_append, List.length_take, List.length_drop, List.length_singleton]
  omega
theorem mkL_az {rest : List Nat} {spot turn size k : Nat} (h : ∀ c ∈ rest, az c) : ∀ c ∈ mkL rest spot turn size k, az c := by
  intro c hc
  unfold mkL at hc
  rcases List.mem_append.mp hc with q | q
  · exact h c (List.mem_of_mem_take (List.mem_of_mem_take q))
  · rcases List.mem_append.mp q with q | q
    · rw [List.mem_singleton.mp q]
      unfold az
      omega
    · exact h c (List.mem_of_mem_take (List.mem_of_mem_drop q))
def mkS (rest : List Nat) (spot turn size k : Nat) : Str := ⟨(mkL rest spot turn size k).toArray⟩
theorem cs_mkS {rest : List Nat} {spot turn size k : Nat} : cs (mkS rest spot turn size k) = mkL rest spot turn size k := rfl
def mkAll (rest : List Nat) (spot turn size n : Nat) : List Str := (List.range n).map (mkS rest spot turn size)
theorem mkAll_nodup {rest : List Nat} {spot turn size n : Nat} (hs : spot < 3) (hn : n ≤ 26) : (mkAll rest spot turn size n).Nodup := by
  unfold mkAll
  rw [List.Nodup, List.pairwise_map]
  refine List.Pairwise.imp_of_mem (fun {a b} ha hb hab e => hab ?_) (List.nodup_range (n := n))
  have ha' := List.mem_range.mp ha
  have hb' := List.mem_range.mp hb
  exact mkL_inj hs (by omega) (by omega) (by
    have := congrArg cs e
    exact this)
theorem mkAll_ltr {rest : List Nat} {spot turn size n : Nat} (h : ∀ c ∈ rest, az c) : ∀ w ∈ mkAll rest spot turn size n, Ltr w := by
  intro w hw
  obtain ⟨k, _, rfl⟩ := List.mem_map.mp hw
  refine ⟨fun c hc => mkL_az h c hc, ?_, ?_⟩
  · rw [cs_mkS, mkL_len]
    omega
  · rw [cs_mkS, mkL_len, List.length_take]
    omega
theorem joinL_nil : ∀ ls : List (List Nat), joinL [] ls = ls.flatten
  | [] => rfl
  | [p] => by simp [joinL]
  | p :: q :: r => by
    show p ++ ([] ++ joinL [] (q :: r)) = (p :: q :: r).flatten
    rw [joinL_nil (q :: r), List.nil_append]
    rfl
theorem flat_one : ∀ ds : List Nat, (ds.map fun c => [c]).flatten = ds
  | [] => rfl
  | d :: r => by
    show [d] ++ (r.map fun c => [c]).flatten = d :: r
    rw [flat_one r]
    rfl
theorem cs_join (ds : List Nat) : cs (Txt.join (Str.ofString "") (ds.map fun c => (⟨#[c]⟩ : Str))) = ds := by
  have h := tl_join (Str.ofString "") (ds.map fun c => (⟨#[c]⟩ : Str))
  rw [← join_eq, show tl (Str.ofString "") = [] from rfl, joinL_nil, List.map_map] at h
  exact h.trans (flat_one ds)
abbrev alpha : Str := Str.ofString "abcdefghijklmnopqrstuvwxyz"
theorem cs_alpha : cs alpha = (List.range 26).map (97 + ·) := by decide +kernel
theorem alpha_at {v : Nat} (h : v < 26) : atI (cs alpha) (v : Int) = some (97 + v) := by
  refine atI_nat ?_
  rw [cs_alpha, List.getElem?_map, List.getElem?_range h]
  rfl
theorem cs_app (x y : Str) : cs (x ++ y) = cs x ++ cs y := tl_append x y
theorem len_cs (x : Str) : x.length = (cs x).length := by simp [Str.length]
theorem cs_cut0 (x : Str) (n : Nat) : cs (cutS x none (some (n : Int))) = (cs x).take n := by
  unfold cutS
  rw [HT.sIx_none, HT.sIx_nat]
  show ((cs x).drop 0).take _ = _
  rw [List.drop_zero, Nat.sub_zero, List.take_eq_take_iff, len_cs]
  omega
theorem cs_cutF (x : Str) (n : Nat) : cs (cutS x (some (n : Int)) none) = (cs x).drop n := by
  unfold cutS
  rw [HT.sIx_none, HT.sIx_nat, len_cs]
  show ((cs x).drop _).take _ = _
  by_cases h : n ≤ (cs x).length
  · rw [Nat.min_eq_left h]
    exact List.take_of_length_le (by rw [List.length_drop]; exact Nat.le_refl _)
  · rw [Nat.min_eq_right (show (cs x).length ≤ n by omega), List.drop_of_length_le (Nat.le_refl _), List.drop_of_length_le (show (cs x).length ≤ n by omega), List.take_nil]
end Eh
set_option Elab.async false
set_option linter.all false
set_option maxRecDepth 100000
set_option maxHeartbeats 4000000
namespace Eh
open PySem PySem.Spec PyProof.Rows L2
section
variable {X : Cx}
theorem call_repr_bl : CallR X (.builtin "repr") (fun xs H Q => ∃ b, xs = [.bl b] ∧ Q (.str (if b then "True" else "False")) H) := by
  intro pins s σ H xs us Q I r h
  obtain ⟨b, rfl, q⟩ := h
  cases r with
  | cons r1 rr =>
    cases rr
    cases r1
    exact PySem.P.repr_of_bool ⟨.str _, H, I.tok _, ⟨_, rfl⟩, q⟩
/-- a text so often -/
def repS (x : Str) (n : Nat) : Str := ⟨(List.replicate n x.cps).foldl (· ++ ·) #[]⟩
theorem foldl_app (l : List (Array Nat)) (a : Array Nat) : (l.foldl (· ++ ·) a).toList = a.toList ++ (l.map (·.toList)).flatten := by
  induction l generalizing a with
  | nil => simp
  | cons x r ih =>
    rw [List.foldl_cons, ih]
    simp
theorem repS_cs (x : Str) (n : Nat) : (repS x n).cps.toList = (List.replicate n x.cps.toList).flatten := by
  unfold repS
  rw [foldl_app, List.map_replicate]
  rfl
theorem op_repS : OpR X (binaryOp .Mult) (fun x y H Q => ∃ (z : Str) (n : Nat), x = .str z ∧ y = .int (n : Int) ∧ z.length ≤ 1000 ∧ n ≤ 1000 ∧ Q (.str (repS z n)) H) := by
  intro pins s σ H x y v u Q I rx ry h
  obtain ⟨z, n, rfl, rfl, hz, hn, q⟩ := h
  obtain ⟨t, rfl⟩ := rx
  obtain ⟨t', rfl⟩ := ry
  have e0 : n < 1 → repS z n = Str.empty := fun h => by
    have : n = 0 := by omega
    subst this
    rfl
  have ext : ∀ a b : Str, a.cps.toList = b.cps.toList → a = b := fun a b h => by
    cases a
    cases b
    congr 1
    exact Array.toList_inj.mp h
  have e1 : (n = 1 ∨ z.length = 0) → ¬ n < 1 → repS z n = z := fun h h1 => by
    apply ext
    rw [repS_cs]
    rcases h with h | h
    · subst h
      simp
    · have hz0 : z.cps.toList = [] := by
        have : z.cps.size = 0 := h
        exact List.eq_nil_of_length_eq_zero (by simpa using this)
      rw [hz0]
      simp
  have hm : z.length * n ≤ 1000000 := Nat.le_trans (Nat.mul_le_mul hz hn) (by decide)
  refine PySem.P.mul_str (by rw [decide_eq_false (by omega), decide_eq_false (by omega)]; rfl) (fun h1 _ => ?_) (fun h1 _ => ?_) ?_
  · have h2 : (1 : Int) ≤ n := by omega
    have h3 : (9223372036854775807 : Int) / (n : Int) ≥ 9223372036854775807 / 1000 := by
      refine Int.le_ediv_of_mul_le (by omega) ?_
      omega
    show ¬ ((z.length : Int) > (2 ^ 63 - 1) / (n : Int))
    have e2 : ((2 : Int) ^ 63 - 1) = 9223372036854775807 := by decide
    rw [e2]
    omega
  · rw [Int.toNat_natCast]
    show decide (z.length * n > sizeLine) = false
    rw [sizeLine_eq]
    exact decide_eq_false (by omega)
  · by_cases h1 : (n : Int) < 1
    · rw [if_pos h1]
      refine ⟨by decide, .str (repS z n), H, I.tok _, ⟨s.toks, ?_⟩, q⟩
      rw [e0 (by omega)]
    · rw [if_neg h1]
      by_cases h2 : ((n : Int) == 1 || z.length == 0) = true
      · rw [if_pos h2]
        have h3 : n = 1 ∨ z.length = 0 := by
          simp at h2
          omega
        have h4 := e1 h3 (by omega)
        rw [h4] at q
        exact ⟨.str z, H, I, ⟨_, rfl⟩, q⟩
      · rw [if_neg h2]
        have hl : (repS z n).length ≤ sizeLine := by
          have : (repS z n).length = n * z.length := by
            show (repS z n).cps.size = n * z.cps.size
            rw [← Array.length_toList, repS_cs]
            simp
          rw [this, sizeLine_eq, Nat.mul_comm]
          omega
        exact ⟨hl, .str (repS z n), H, I.tok _, ⟨_, rfl⟩, q⟩
/-- xs < ys, lists of ints -/
theorem firstLt_lex : ∀ (ns ms : List Int) (k : Nat) (e r : Nat → Bool), (∀ j, j < ns.length → j < ms.length → e (k + j) = decide (ns[j]? = ms[j]?)) → (∀ j, j < ns.length → j < ms.length → r (k + j) = decide (ns.getD j 0 < ms.getD j 0)) → SeqAt.firstLt e r (decide (ns.length < ms.length)) ((List.range (min ns.length ms.length)).map (k + ·)) = HT.lexLt ns ms
  | [], [], k, e, r, _, _ => rfl
  | [], y :: ms, k, e, r, _, _ => by simp [SeqAt.firstLt, HT.lexLt]
  | x :: ns, [], k, e, r, _, _ => by simp [SeqAt.firstLt, HT.lexLt]
  | x :: ns, y :: ms, k, e, r, he, hr => by
    rw [HT.lexLt_cons, List.length_cons, List.length_cons, show min (ns.length + 1) (ms.length + 1) = min ns.length ms.length + 1 by omega, List.range_succ_eq_map, List.map_cons, List.map_map]
    have e0 := he 0 (by simp) (by simp)
    have r0 := hr 0 (by simp) (by simp)
    have ih := firstLt_lex ns ms (k + 1) e r (fun j h1 h2 => by
      have := he (j + 1) (by simpa using h1) (by simpa using h2)
      rw [show k + 1 + j = k + (j + 1) by omega, this]
      simp) (fun j h1 h2 => by
      have := hr (j + 1) (by simpa using h1) (by simpa using h2)
      rw [show k + 1 + j = k + (j + 1) by omega, this]
      simp)
    by_cases h : x = y
    · rw [if_pos h, SeqAt.firstLt_yes (by rw [e0]; simp [h])]
      rw [show (decide (ns.length + 1 < ms.length + 1)) = decide (ns.length < ms.length) by simp, show ((fun x => k + x) ∘ Nat.succ) = (fun x => k + 1 + x) by funext z; show k + (z + 1) = k + 1 + z; omega]
      exact ih
    · rw [if_neg h, SeqAt.firstLt_no (by rw [e0]; simp [h]), r0]
      rfl
def rLtL (K : PySem.W.Frag) : R2 := fun x y H Q => ∃ (a b : Addr) (ns ms : List Int), x = .ref a ∧ y = .ref b ∧ SqL K H a (ns.map V.int) ∧ SqL K H b (ms.map V.int) ∧ Q (.bl (HT.lexLt ns ms)) H
theorem op_ltL (hu : X.A.units < cLine) : OpR X (compareOp .Lt) (rLtL X.K) := by
  intro pins s σ H x y v u Q I rx ry h
  obtain ⟨a, b, ns, ms, rfl, rfl, ha, hb, q⟩ := h
  cases rx
  cases ry
  obtain ⟨its, r1, p1, _⟩ := I.list ha
  obtain ⟨its2, r2, p2, _⟩ := I.list hb
  have l1 : its.length = ns.length := by
    have := r1.length
    rw [List.length_map] at this
    exact this.symm
  have l2 : its2.length = ms.length := by
    have := r2.length
    rw [List.length_map] at this
    exact this.symm
  have g1 : ∀ j (h : j < ns.length), ∃ t, its[j]'(by omega) = .int ns[j] t := fun j h => by
    obtain ⟨u, hu, t, ru⟩ := r1.get (i := j) (show (ns.map V.int)[j]? = some (.int ns[j]) by rw [List.getElem?_map, List.getElem?_eq_getElem h]; rfl)
    obtain ⟨_, e⟩ := List.getElem?_eq_some_iff.mp hu
    exact ⟨t, e.trans ru⟩
  have g2 : ∀ j (h : j < ms.length), ∃ t, its2[j]'(by omega) = .int ms[j] t := fun j h => by
    obtain ⟨u, hu, t, ru⟩ := r2.get (i := j) (show (ms.map V.int)[j]? = some (.int ms[j]) by rw [List.getElem?_map, List.getElem?_eq_getElem h]; rfl)
    obtain ⟨_, e⟩ := List.getElem?_eq_some_iff.mp hu
    exact ⟨t, e.trans ru⟩
  have key := SeqAt.RcLt.lists (A := X.A) (s := s) (e := fun j => decide (ns[j]? = ms[j]?)) (r := fun j => decide (ns.getD j 0 < ms.getD j 0)) p1.isList p2.isList hu (fun j h1 h2 => ?_) (fun j h1 h2 hj => ?_)
  · have e : SeqAt.firstLt (fun j => decide (ns[j]? = ms[j]?)) (fun j => decide (ns.getD j 0 < ms.getD j 0)) (decide (its.toArray.size < its2.toArray.size)) (List.range (min its.toArray.size its2.toArray.size)) = HT.lexLt ns ms := by
      have := firstLt_lex ns ms 0 (fun j => decide (ns[j]? = ms[j]?)) (fun j => decide (ns.getD j 0 < ms.getD j 0)) (fun j _ _ => by rw [Nat.zero_add]) (fun j _ _ => by rw [Nat.zero_add])
      rw [← this]
      simp [l1, l2]
    rw [e] at key
    exact key _ _ _ _ ⟨.bl _, H, I, rfl, q⟩
  · have h1' : j < ns.length := by simpa [l1] using h1
    have h2' : j < ms.length := by simpa [l2] using h2
    obtain ⟨t1, e1⟩ := g1 j h1'
    obtain ⟨t2, e2⟩ := g2 j h2'
    have e3 : its.toArray[j] = .int ns[j] t1 := by simpa using e1
    have e4 : its2.toArray[j] = .int ms[j] t2 := by simpa using e2
    rw [e3, e4]
    have := SeqAt.EqAt.int_int (A := X.A.in1) (s := s) ns[j] t1 ms[j] t2
    have e5 : decide (ns[j]? = ms[j]?) = (ns[j] == ms[j]) := by
      rw [List.getElem?_eq_getElem h1', List.getElem?_eq_getElem h2']
      by_cases z : ns[j] = ms[j] <;> simp [z]
    simp only [e5]
    exact this
  · have h1' : j < ns.length := by simpa [l1] using h1
    have h2' : j < ms.length := by simpa [l2] using h2
    obtain ⟨t1, e1⟩ := g1 j h1'
    obtain ⟨t2, e2⟩ := g2 j h2'
    have e3 : its.toArray[j] = .int ns[j] t1 := by simpa using e1
    have e4 : its2.toArray[j] = .int ms[j] t2 := by simpa using e2
    rw [e3, e4]
    have e5 : decide (ns.getD j 0 < ms.getD j 0) = decide (ns[j] < ms[j]) := by
      rw [List.getD_eq_getElem?_getD, List.getD_eq_getElem?_getD, List.getElem?_eq_getElem h1', List.getElem?_eq_getElem h2']
      rfl
    simp only [e5]
    intro prog w E Q hq
    exact HT.rcLt_int _ _ _ _ _ _ prog w E Q hq
end
end Eh
set_option Elab.async false
set_option linter.all false
set_option maxRecDepth 100000
set_option maxHeartbeats 4000000
namespace Eh
open PySem PySem.Spec PyProof.Rows L2 Evl
abbrev lS (ws : List Str) : HO := .lst (ws.map V.str)
abbrev nLetters : List Str := ["pot", "many", "small", "k", "rest", "spot", "turn", "size", "found", "part", "at"]
theorem yesT {σ : L2.St} {H : Hp} {A B : Hp → Prop} (h : A H) : tYes σ H (fun b H3 => if b = true then A H3 else B H3) := by
  show if true = true then A H else B H
  exact iteT h
theorem Pot.ne_new {p c q : Addr} {ns : List Int} {H : Hp} (h : Pot p c ns H) (hq : H q = none) : p ≠ q ∧ c ≠ q := by
  obtain ⟨a, r, h0, h1, h2⟩ := h
  exact ⟨ne_of_none h1 hq, ne_of_none h2 hq⟩
/-! one sign so often -/
def mk3 (turn k : Nat) : Str := repS ⟨#[97 + (turn + k / 8) % 26]⟩ (1 + k % 8)
theorem cs_mk3 (turn k : Nat) : cs (mk3 turn k) = List.replicate (1 + k % 8) (97 + (turn + k / 8) % 26) := by
  show (mk3 turn k).cps.toList = _
  unfold mk3
  rw [repS_cs]
  show (List.replicate (1 + k % 8) [97 + (turn + k / 8) % 26]).flatten = _
  generalize 1 + k % 8 = n
  induction n with
  | zero => rfl
  | succ n ih =>
    rw [List.replicate_succ, List.replicate_succ, List.flatten_cons, ih]
    rfl
theorem mk3_inj {turn k1 k2 : Nat} (h1 : k1 < 26) (h2 : k2 < 26) (h : mk3 turn k1 = mk3 turn k2) : k1 = k2 := by
  have e := congrArg cs h
  rw [cs_mk3, cs_mk3] at e
  have l := congrArg List.length e
  rw [List.length_replicate, List.length_replicate] at l
  have c : (List.replicate (1 + k1 % 8) (97 + (turn + k1 / 8) % 26))[0]? = (List.replicate (1 + k2 % 8) (97 + (turn + k2 / 8) % 26))[0]? := by rw [e]
  rw [List.getElem?_replicate, List.getElem?_replicate, if_pos (by omega), if_pos (by omega)] at c
  have c' := Option.some.inj c
  omega
theorem mk3_ltr (turn k : Nat) : Ltr (mk3 turn k) := by
  refine ⟨fun c hc => ?_, ?_, ?_⟩
  · rw [cs_mk3] at hc
    rw [List.eq_of_mem_replicate hc]
    unfold az
    omega
  · rw [cs_mk3, List.length_replicate]
    omega
  · rw [cs_mk3, List.length_replicate]
    omega
def all3 (turn n : Nat) : List Str := (List.range n).map (mk3 turn)
theorem all3_nodup {turn n : Nat} (h : n ≤ 26) : (all3 turn n).Nodup := by
  unfold all3
  refine List.pairwise_map.mpr (List.Pairwise.imp_of_mem ?_ List.nodup_range)
  intro a b ha hb hne e
  exact hne (mk3_inj (by have := List.mem_range.mp ha; omega) (by have := List.mem_range.mp hb; omega) e)
theorem Keep.back {p q : Addr} {H H' : Hp} (k : Keep p H H') (hq : q ≠ p) (h : H' q = none) : H q = none := by
  cases e : H q with
  | none => rfl
  | some o =>
    rw [k q o hq e] at h
    cases h
section
variable {P : Program} {w : World} {K : PySem.W.Frag} {mg : Str → Option Value} {base : Heap}
def spLetters : Sp := fun vs H Q _ => ∃ (p c : Addr) (ns : List Int) (m : Nat), vs = [.ref p, .int (m : Int)] ∧ m ≤ 26 ∧ Pot p c ns H ∧
  ∀ (ws : List Str) l H', ws.length = m → ws.Nodup → (∀ x ∈ ws, Ltr x) → Keep p H H' → Pot p c ns H' → H l = none → H' l = some (lS ws) → Q (.ref l) H'
theorem ok_letters {f fP : Addr} {fd fdP : FuncData} {k : Nat} (F : Fun K "_law_letters" "_law_letters" sLetters f fd) (FP : Fun K "_law_pick" "_law_pick" sPick fP fdP) (GP : FnOk P w K mg base CX0 (k + 1) fP fdP ["pot", "many"] spPick) (bP : Binds K fdP ["pot", "many"] []) (gP : mg "_law_pick" = some (.ref fP)) (ml : mg "len" = none) (mr : mg "range" = none) :
    FnOk P w K mg base CX0 (k + 2) f fd ["pot", "many"] spLetters := by
  have nd := scLetters.nd
  refine F.ok scLetters (fun vs H Q E h => ?_) (fun cdv A outer s H vs Q E hr h => ?_)
  · obtain ⟨p, c, ns, m, rfl, _⟩ := h
    rfl
  · obtain ⟨p, c, ns, m, rfl, m1, hP, q⟩ := h
    refine ⟨_, pss_cons (ps_set (i := 2) nd rfl (.inr rfl) pe_str)
      (pss_cons (ps_set (i := 4) nd rfl (.inl rfl) (pe_join pe_str (pe_lc (own := [("k", 3)]) (g := gName 3) (tt := tYes) (by rfl) nd (pi_range1 (by rfl) mr (pa_cons pe_int pa_nil)) (blkOk_by (own := [("k", 3)]) (N := nLetters) (sc := defScope sLetters) (by decide +kernel)) (fun _ _ _ _ _ => pg_name (i := 3) nd rfl (Or.inl rfl)) (fun _ _ _ _ _ => pts_nil)
          (fun _ _ _ _ _ => pe_ix ix_str (pv 2) (pe_call GP hr (by rfl) gP FP.kp bP .nil pass0 (pa_cons (pv 0) (pa_cons pe_int pa_nil))) (fun _ _ => rfl)))))
      (pss_cons (ps_set (i := 5) nd rfl (.inl rfl) (pe_call GP hr (by rfl) gP FP.kp bP .nil pass0 (pa_cons (pv 0) (pa_cons pe_int pa_nil))))
      (pss_cons (ps_set (i := 6) nd rfl (.inr rfl) (pe_call GP hr (by rfl) gP FP.kp bP .nil pass0 (pa_cons (pv 0) (pa_cons pe_int pa_nil))))
      (pss_cons (ps_set (i := 7) nd rfl (.inl rfl) (pe_call GP hr (by rfl) gP FP.kp bP .nil pass0 (pa_cons (pv 0) (pa_cons pe_int pa_nil))))
      (pss_cons (ps_if (pt_cmpR op_eq (pv 5) pe_int (nomark _)) (pss_one (ps_ret (pe_lc (own := [("k", 3)]) (g := gName 3) (tt := tYes) (by rfl) nd (pi_range1 (by rfl) mr (pa_cons (pv 1) pa_nil)) (blkOk_by (own := [("k", 3)]) (N := nLetters) (sc := defScope sLetters) (by decide +kernel)) (fun _ _ _ _ _ => pg_name (i := 3) nd rfl (Or.inl rfl)) (fun _ _ _ _ _ => pts_nil)
          (fun _ _ _ _ _ => pe_op op_repS (pe_ix ix_str (pv 2) (pe_op op_mod (pe_op op_add (pv 6) (pe_op op_fdiv (pv 3) pe_int)) pe_int) (fun _ _ => rfl)) (pe_op op_add pe_int (pe_op op_mod (pv 3) pe_int)))))) pss_nil)
      (pss_cons (ps_set (i := 8) nd rfl (.inl rfl) (pe_lst pa_nil))
      (pss_cons (ps_for PassesOwn.never rfl (pi_range1 (by rfl) mr (pa_cons (pv 1) pa_nil)) (pg_name (i := 3) nd rfl (.inl rfl))
        (pss_cons (ps_set (i := 9) nd rfl (.inl rfl) (pe_slice sl_str (pv 4) po_none (po_some (pe_op op_mod (pe_op op_add (pv 7) (pe_op op_mul (pv 3) (pe_op op_mod (pv 5) pe_int))) pe_int))))
        (pss_cons (ps_set (i := 10) nd rfl (.inl rfl) (pe_ix ix_list (pe_lst (pa_cons pe_int (pa_cons (pe_callB call_len_str (by rfl) ml PySem.boot_len (pa_cons (pv 9) pa_nil)) (pa_cons (pe_op op_fdiv (pe_callB call_len_str (by rfl) ml PySem.boot_len (pa_cons (pv 9) pa_nil)) pe_int) pa_nil)))) (pv 5) (fun _ _ => rfl)))
        (pss_one (ps_expr (pe_bm PySem.F.plainAttrs_list PySem.F.slot_list_append PySem.F.type_list_append mt_append (pv 8) (pa_cons (pe_op op_add_str (pe_op op_add_str (pe_slice sl_str (pv 9) po_none (po_some (pv 10))) (pe_ix ix_str (pv 2) (pe_op op_mod (pe_op op_add (pv 6) (pe_op op_mul pe_int (pv 3))) pe_int) (fun _ _ => rfl))) (pe_slice sl_str (pv 9) (po_some (pv 10)) po_none)) pa_nil)))))))
      (pss_one (ps_ret (pv 8)))))))))), ?_⟩
    -- rest
    refine ⟨⟨_, rfl⟩, 7, rfl, by decide, by decide, fun D nD => ?_⟩
    refine lc_range (lo := 0) (n := 7) (fun i H' => ∃ ds : List Nat, ds.length = i ∧ (∀ d ∈ ds, az d) ∧ H' D = some (.lst (ds.map fun d => .str ⟨#[d]⟩)) ∧ Keep p H H' ∧ Pot p c ns H') ?_ ?_ ?_
    · exact ⟨[], rfl, fun d hd => (List.not_mem_nil hd).elim, upd_same, (Keep.refl p H).new nD, hP.new (hP.ne_new nD).1 (hP.ne_new nD).2⟩
    · rintro i H' hi ⟨ds, hds, haz, hD, kp, hP'⟩
      refine ⟨rfl, ?_⟩
      refine yesT ?_
      refine ⟨_, rfl, _, rfl, p, c, ns, 26, rfl, by decide, by decide, hP', fun v H2 hv kp2 hP2 => ?_⟩
      have hv' : v < 26 := by omega
      have hpD := (hP.ne_new nD).1
      have hD2 : H2 D = some (.lst (ds.map fun d => .str ⟨#[d]⟩)) := kp2 _ _ hpD.symm hD
      refine ⟨_, _, 97 + v, rfl, rfl, by decide, alpha_at hv', _, hD2, ?_, ds ++ [97 + v], ?_, ?_, ?_, ?_, ?_⟩
      · rw [List.length_map]
        exact sz_lt (by omega)
      · rw [List.length_append, hds]
        rfl
      · intro d hd
        rcases List.mem_append.mp hd with z | z
        · exact haz d z
        · rw [List.mem_singleton.mp z]
          unfold az
          omega
      · rw [upd_same, List.map_append]
        rfl
      · exact (kp.trans kp2).new nD
      · exact hP2.new hpD (hP.ne_new nD).2
    · rintro H1 ⟨ds, hds, haz, hD, kp, hP1⟩
      have hlen : ((ds.map fun d => (⟨#[d]⟩ : Str)).map (·.length)).sum ≤ 100 := by
        have : ∀ l : List Nat, ((l.map fun d => (⟨#[d]⟩ : Str)).map (·.length)).sum = l.length := fun l => by
          induction l with
          | nil => rfl
          | cons x r ih =>
            rw [List.map_cons, List.map_cons, List.sum_cons, ih, List.length_cons, show (⟨#[x]⟩ : Str).length = 1 from rfl]
            omega
        rw [this]
        omega
      refine ⟨_, D, ds.map fun d => (⟨#[d]⟩ : Str), rfl, rfl, .inl (sq_of (by rw [List.map_map]; exact hD)), ?_, ?_⟩
      · rw [List.length_map, show (Str.ofString "").length = 0 from rfl]
        omega
      · generalize hR : Txt.join (Str.ofString "") (ds.map fun d => (⟨#[d]⟩ : Str)) = rest
        have cR : cs rest = ds := by
          rw [← hR]
          exact cs_join ds
        -- spot, turn, size
        refine ⟨_, rfl, p, c, ns, 4, rfl, by decide, by decide, hP1, fun spot H2 hspot4 kp2 hP2 => ?_⟩
        refine ⟨_, rfl, p, c, ns, 26, rfl, by decide, by decide, hP2, fun turn H3 hturn kp3 hP3 => ?_⟩
        refine ⟨_, rfl, p, c, ns, 8, rfl, by decide, by decide, hP3, fun size H4 hsize kp4 hP4 => ?_⟩
        have kp04 : Keep p H H4 := ((kp.trans kp2).trans kp3).trans kp4
        refine ⟨_, rfl, rfl, _, rfl, ite2 (fun h3 => ?_) (fun h3 => ?_)⟩
        · refine ⟨_, rfl, m, rfl, by omega, by omega, fun l nl => ?_⟩
          have hpl := hP4.ne_new nl
          have nlH : H l = none := Keep.back kp04 hpl.1.symm nl
          refine lc_range (lo := 0) (n := ((m : Int)).toNat) (fun i H' => H' = upd H4 l (lS (all3 turn i))) rfl ?_ ?_
          · rintro i H' hi rfl
            have hlt : (turn + i / 8) % 26 < 26 := Nat.mod_lt _ (by decide)
            have e0 : (0 : Int) + (i : Int) = (i : Int) := Int.zero_add _
            rw [e0]
            have e2 : ((turn : Int) + (i : Int) / 8) % 26 = (((turn + i / 8) % 26 : Nat) : Int) := by omega
            have hat : atI (cs alpha) (((turn : Int) + (i : Int) / 8) % 26) = some (97 + (turn + i / 8) % 26) := by
              rw [e2]
              exact alpha_at hlt
            refine ⟨rfl, yesT ⟨_, rfl, _, rfl, _, rfl, _, _, rfl, rfl, ⟨by decide, by decide⟩, _, _, rfl, rfl, _, _, rfl, rfl, (by show (0 : Int) < _; decide), _, _, _, rfl, rfl, by decide, hat, _, rfl, _, _, rfl, rfl, (by show (0 : Int) < _; decide), _, _, rfl, rfl, _, 1 + i % 8, rfl, ?_, (by show 1 ≤ 1000; decide), by omega, _, upd_same, ?_, ?_⟩⟩
            · show V.int (1 + (i : Int) % 8) = V.int ((1 + i % 8 : Nat) : Int)
              congr 1
            · rw [List.length_map]
              unfold all3
              rw [List.length_map, List.length_range]
              exact sz_lt (by omega)
            · funext b
              by_cases hb : b = l
              · rw [hb, upd_same, upd_same]
                unfold lS all3
                rw [List.range_succ, List.map_append, List.map_append]
                rfl
              · rw [upd_ne hb, upd_ne hb, upd_ne hb]
          · rintro H' rfl
            rw [Int.toNat_natCast]
            refine q (all3 turn m) l _ ?_ (all3_nodup m1) (fun x hx => ?_) (kp04.new nlH) (hP4.new hpl.1 hpl.2) nlH upd_same
            · unfold all3
              rw [List.length_map, List.length_range]
            · unfold all3 at hx
              obtain ⟨k, _, rfl⟩ := List.mem_map.mp hx
              exact mk3_ltr turn k
        have hspot : (spot : Int) < 3 := by
          have : spot ≠ 3 := fun z => h3 (by rw [z]; rfl)
          omega
        refine ⟨Nat.zero_le _, fun l nl => ?_⟩
        have hpl := hP4.ne_new nl
        have nlH : H l = none := by
          cases e : H l with
          | none => rfl
          | some o =>
            by_cases z : l = p
            · exact absurd z.symm hpl.1
            · rw [kp04 l o z e] at nl
              cases nl
        refine ⟨_, rfl, m, rfl, by omega, by omega, for_range (lo := 0) (n := ((m : Int)).toNat) (fun i σ H' => (∃ y3 y9 y10, σ = [some (.ref p), some (.int (m : Int)), some (.str alpha), y3, some (.str rest), some (.int (spot : Int)), some (.int (turn : Int)), some (.int (size : Int)), some (.ref l), y9, y10]) ∧ Keep p H H' ∧ Pot p c ns H' ∧ H' l = some (lS (mkAll (cs rest) spot turn size i))) ?_ ?_ ?_⟩
        · exact ⟨⟨_, _, _, rfl⟩, kp04.new nlH, hP4.new hpl.1 hpl.2, upd_same⟩
        · rintro i σ H' hi ⟨⟨y3, y9, y10, rfl⟩, kp', hP', hl'⟩
          have hi' : i < m := by omega
          have e0 : (0 : Int) + (i : Int) = (i : Int) := Int.zero_add _
          rw [e0]
          have e1 : ((size : Int) + (i : Int) * ((spot : Int) % 2)) % 8 = (((size + i * (spot % 2)) % 8 : Nat) : Int) := by
            rw [show ((spot : Int) % 2) = ((spot % 2 : Nat) : Int) by omega, ← Int.natCast_mul]
            generalize i * (spot % 2) = z
            omega
          have lenR : rest.length ≤ sizeLine := sz_of (by rw [len_cs, cR]; omega)
          refine ⟨_, rfl, _, rfl, _, rfl, _, rfl, _, _, rfl, rfl, (by show (0 : Int) < _; decide), _, _, rfl, rfl, .inr (by rcases (show spot % 2 = 0 ∨ spot % 2 = 1 by omega) with z | z <;> exact ⟨by show -(2 ^ 64) < (spot : Int) % 2; omega, by show (spot : Int) % 2 < 2 ^ 64; omega⟩), _, _, rfl, rfl, _, _, rfl, rfl, (by show (0 : Int) < _; decide), _, rfl, rest, rfl, lenR, ?_⟩
          show tSeq _ _ _ [some (.ref p), some (.int (m : Int)), some (.str alpha), some (.int (i : Int)), some (.str rest), some (.int (spot : Int)), some (.int (turn : Int)), some (.int (size : Int)), some (.ref l), some (.str (cutS rest none (some (((size : Int) + (i : Int) * ((spot : Int) % 2)) % 8)))), y10] H'
          rw [e1]
          have cP := cs_cut0 rest ((size + i * (spot % 2)) % 8)
          generalize cutS rest none (some (((size + i * (spot % 2)) % 8 : Nat) : Int)) = part at cP
          have lp : part.length ≤ 8 := by
            rw [len_cs, cP, List.length_take, cR]
            omega
          have lpS : part.length ≤ sizeLine := sz_of (by omega)
          -- at
          refine ⟨_, rfl, part, rfl, lpS, _, rfl, part, rfl, lpS, _, _, rfl, rfl, ⟨by decide, by decide⟩, (by show 3 ≤ sizeLine; decide), fun t nt => ?_⟩
          have eT : Ex H' (upd H' t (.lst [.int 0, .int (part.length : Int), .int ((part.length : Int) / 2)])) := Ex.new nt
          refine ⟨_, rfl, t, _, _, .int (spotAt spot part.length : Nat), rfl, rfl, sq_of upd_same, at_of (j := spot) rfl ?_, ?_⟩
          · rcases (show spot = 0 ∨ spot = 1 ∨ spot = 2 by omega) with rfl | rfl | rfl
            · rfl
            · rfl
            · show some (V.int ((part.length : Int) / 2)) = some (V.int ((part.length / 2 : Nat) : Int))
              rw [show ((part.length / 2 : Nat) : Int) = (part.length : Int) / 2 by omega]
          -- append
          · have e2 : ((turn : Int) + 5 * (i : Int)) % 26 = (((turn + 5 * i) % 26 : Nat) : Int) := by omega
            have hlt : (turn + 5 * i) % 26 < 26 := Nat.mod_lt _ (by decide)
            have hat : atI (cs alpha) (((turn : Int) + 5 * (i : Int)) % 26) = some (97 + (turn + 5 * i) % 26) := by
              rw [e2]
              exact alpha_at hlt
            have hl2 := eT _ _ hl'
            have c1 := cs_cut0 part (spotAt spot part.length)
            have c2 := cs_cutF part (spotAt spot part.length)
            have k1 : (cutS part none (some ((spotAt spot part.length : Nat) : Int))).length ≤ 8 := by
              rw [len_cs, c1, List.length_take, ← len_cs]
              omega
            have k2 : (cutS part (some ((spotAt spot part.length : Nat) : Int)) none).length ≤ 8 := by
              rw [len_cs, c2, List.length_drop, ← len_cs]
              omega
            refine ⟨_, rfl, .inl ⟨rfl, _, sq_of hl2⟩, _, rfl, _, rfl, _, rfl, part, rfl, lpS, _, rfl, _, rfl, _, rfl, _, _, rfl, rfl, .inl ⟨by decide, by decide⟩, _, _, rfl, rfl, _, _, rfl, rfl, (by show (0 : Int) < _; decide), _, _, _, rfl, rfl, by decide, hat, _, _, rfl, rfl, ?_, _, rfl, _, rfl, _, rfl, part, rfl, lpS, _, _, rfl, rfl, ?_, l, _, _, rfl, rfl, hl2, ?_, ⟨_, _, _, rfl⟩, ?_, ?_, ?_⟩
            · exact sz_of (by
                have : (⟨#[97 + (turn + 5 * i) % 26]⟩ : Str).length = 1 := rfl
                omega)
            · exact sz_of (by
                rw [len_cs, cs_app, List.length_append, ← len_cs, ← len_cs]
                have : (⟨#[97 + (turn + 5 * i) % 26]⟩ : Str).length = 1 := rfl
                omega)
            · rw [List.length_map]
              exact sz_lt (by unfold mkAll; rw [List.length_map, List.length_range]; omega)
            · exact (kp'.trans (Keep.ofEx eT)).new nlH
            · exact (hP'.ex eT).new hpl.1 hpl.2
            · rw [upd_same]
              have e3 : cutS part none (some ((spotAt spot part.length : Nat) : Int)) ++ (⟨#[97 + (turn + 5 * i) % 26]⟩ : Str) ++ cutS part (some ((spotAt spot part.length : Nat) : Int)) none = mkS (cs rest) spot turn size i := by
                apply cs_ext
                rw [cs_app, cs_app, c1, c2, cs_mkS, len_cs, cP, List.append_assoc]
                rfl
              rw [e3]
              unfold lS mkAll
              rw [List.range_succ, List.map_append, List.map_append]
              rfl
        · rintro σ H' ⟨⟨y3, y9, y10, rfl⟩, kp', hP', hl'⟩
          refine ⟨_, rfl, q (mkAll (cs rest) spot turn size m) l H' ?_ (mkAll_nodup (by omega) m1) (mkAll_ltr (by rw [cR]; exact haz)) kp' hP' nlH ?_⟩
          · unfold mkAll
            rw [List.length_map, List.length_range]
          · rw [Int.toNat_natCast] at hl'
            exact hl'
end
end Eh
set_option Elab.async false
set_option linter.all false
set_option maxRecDepth 100000
set_option maxHeartbeats 4000000
namespace Eh
open PySem PySem.Spec PyProof.Rows L2 Evl
/-- a sheet: its opens, plains, closes -/
structure Sht (os ps qs : List Str) : Prop where
  nd : (os ++ ps ++ qs).Nodup
  lt : ∀ x ∈ os ++ ps ++ qs, Ltr x
  o1 : 1 ≤ os.length
  o4 : os.length ≤ 4
  p4 : ps.length ≤ 4
  c1 : 1 ≤ qs.length
  c4 : qs.length ≤ 4
def SheetAt (H : Hp) (s : Addr) (os ps qs : List Str) : Prop := ∃ ao ap ac, H s = some (.tup [.ref ao, .ref ap, .ref ac]) ∧ H ao = some (.tup (os.map V.str)) ∧ H ap = some (.tup (ps.map V.str)) ∧ H ac = some (.tup (qs.map V.str))
theorem Pot.ne_tup {p c a : Addr} {ns : List Int} {H : Hp} {xs : List V} (h : Pot p c ns H) (ha : H a = some (.tup xs)) : a ≠ p := fun e => by
  obtain ⟨_, _, _, h1, _⟩ := h
  rw [e, h1] at ha
  cases ha
theorem SheetAt.ex {H H' : Hp} {s : Addr} {os ps qs : List Str} (h : SheetAt H s os ps qs) (e : Ex H H') : SheetAt H' s os ps qs := by
  obtain ⟨ao, ap, ac, h0, h1, h2, h3⟩ := h
  exact ⟨ao, ap, ac, e _ _ h0, e _ _ h1, e _ _ h2, e _ _ h3⟩
theorem SheetAt.keep {H H' : Hp} {s p c : Addr} {ns : List Int} {os ps qs : List Str} (h : SheetAt H s os ps qs) (hP : Pot p c ns H) (k : Keep p H H') : SheetAt H' s os ps qs := by
  obtain ⟨ao, ap, ac, h0, h1, h2, h3⟩ := h
  exact ⟨ao, ap, ac, k _ _ (hP.ne_tup h0) h0, k _ _ (hP.ne_tup h1) h1, k _ _ (hP.ne_tup h2) h2, k _ _ (hP.ne_tup h3) h3⟩
theorem rot_nodup {L : List Str} (t : Nat) (h : L.Nodup) : (L.drop t ++ L.take t).Nodup := by
  refine (List.perm_append_comm.nodup_iff).mp ?_
  rw [List.take_append_drop]
  exact h
theorem rot_mem {L : List Str} {t : Nat} {x : Str} (h : x ∈ L.drop t ++ L.take t) : x ∈ L := by
  rcases List.mem_append.mp h with q | q
  · exact List.mem_of_mem_drop q
  · exact List.mem_of_mem_take q
theorem sub12 {L : List Str} {a b d : Nat} (ha : a ≤ 4) (hb : b ≤ 4) : ((L.take a) ++ (L.take (4 + b)).drop 4 ++ (L.take (8 + d)).drop 8).Sublist L := by
  have e : L = L.take 4 ++ (L.take 8).drop 4 ++ L.drop 8 := by
    have e1 : L.take 4 ++ (L.take 8).drop 4 = L.take 8 := by
      have := List.take_append_drop 4 (L.take 8)
      rw [List.take_take] at this
      exact this
    rw [e1, List.take_append_drop]
  have s1 : (L.take a).Sublist (L.take 4) := by
    have : L.take a = (L.take 4).take a := by rw [List.take_take, Nat.min_eq_left ha]
    rw [this]
    exact List.take_sublist _ _
  have s2 : ((L.take (4 + b)).drop 4).Sublist ((L.take 8).drop 4) := by
    refine List.Sublist.drop ?_ 4
    have : L.take (4 + b) = (L.take 8).take (4 + b) := by rw [List.take_take, Nat.min_eq_left (by omega)]
    rw [this]
    exact List.take_sublist _ _
  have s3 : ((L.take (8 + d)).drop 8).Sublist (L.drop 8) := List.Sublist.drop (List.take_sublist _ _) 8
  have := (s1.append s2).append s3
  rw [← e] at this
  exact this
theorem sht_of {L : List Str} (hn : L.Nodup) (hl : ∀ x ∈ L, Ltr x) (h12 : L.length = 12) {a b d : Nat} (a1 : 1 ≤ a) (a4 : a ≤ 4) (b4 : b ≤ 4) (d1 : 1 ≤ d) (d4 : d ≤ 4) : Sht (L.take a) ((L.take (4 + b)).drop 4) ((L.take (8 + d)).drop 8) := by
  refine ⟨(sub12 a4 b4).nodup hn, fun x hx => hl x ((sub12 a4 b4).subset hx), ?_, ?_, ?_, ?_, ?_⟩ <;> simp only [List.length_take, List.length_drop, h12] <;> omega
theorem menu1 {v : Nat} (h : v < 5) : ∃ x : Nat, ([.int 1, .int 1, .int 2, .int 2, .int 4] : List V)[v]? = some (.int (x : Int)) ∧ 1 ≤ x ∧ x ≤ 4 := by
  rcases (show v = 0 ∨ v = 1 ∨ v = 2 ∨ v = 3 ∨ v = 4 by omega) with rfl | rfl | rfl | rfl | rfl
  · exact ⟨1, rfl, by omega⟩
  · exact ⟨1, rfl, by omega⟩
  · exact ⟨2, rfl, by omega⟩
  · exact ⟨2, rfl, by omega⟩
  · exact ⟨4, rfl, by omega⟩
theorem menu0 {v : Nat} (h : v < 5) : ∃ x : Nat, ([.int 0, .int 1, .int 1, .int 2, .int 4] : List V)[v]? = some (.int (x : Int)) ∧ x ≤ 4 := by
  rcases (show v = 0 ∨ v = 1 ∨ v = 2 ∨ v = 3 ∨ v = 4 by omega) with rfl | rfl | rfl | rfl | rfl
  · exact ⟨0, rfl, by omega⟩
  · exact ⟨1, rfl, by omega⟩
  · exact ⟨1, rfl, by omega⟩
  · exact ⟨2, rfl, by omega⟩
  · exact ⟨4, rfl, by omega⟩
theorem minI (m x : Nat) : (if (x : Int) < (m : Int) then (x : Int) else (m : Int)) = ((min m x : Nat) : Int) := by
  split <;> omega
theorem map_cut0 (L : List Str) (n : Nat) : cutV (L.map V.str) none (some (n : Int)) = (L.take n).map V.str := by rw [cut0, List.map_take]
theorem map_cutF (L : List Str) (n : Nat) : cutV (L.map V.str) (some (n : Int)) none = (L.drop n).map V.str := by rw [cutF, List.map_drop]
theorem map_cutLH (L : List Str) (n m : Nat) : cutV (L.map V.str) (some (n : Int)) (some (m : Int)) = ((L.take m).drop n).map V.str := by rw [cutLH, List.map_drop, List.map_take]
theorem lS_ne {p c l : Addr} {ns : List Int} {H : Hp} {ws : List Str} (h : Pot p c ns H) (hl : H l = some (lS ws)) : l ≠ p := fun e => by
  obtain ⟨_, _, _, h1, _⟩ := h
  rw [e, h1] at hl
  injection hl with hl
  injection hl with hl
  cases ws <;> cases hl
theorem menu_rd {K : PySem.W.Frag} {p c : Addr} {ns : List Int} {H : Hp} {σ : L2.St} {xs : List V} {Q : VK} {ta : TA} {n : Int} (hP : Pot p c ns H) (hσ : σ[0]? = some (some (.ref p))) (n0 : 0 < n) (n1 : n < 1073741824) (hta : ∀ Q : List V → Hp → Prop, Q xs H → ta σ H Q) (hxs : xs.length ≤ 1000)
    (k : ∀ (v : Nat) H', (v : Int) < n → Keep p H H' → Pot p c ns H' → ∃ z, xs[v]? = some z ∧ Q z H') : tOp (rIxL K) (tLst ta) (tCall spPick [] E0 (tCons (tVar 0) (tCons (tC (.int n)) tNil))) σ H Q := by
  refine hta _ ⟨sz_of (by omega), fun t nt => ⟨_, hσ, p, c, ns, n, rfl, n0, n1, hP.ex (Ex.new nt), fun v H5 hv kp5 hP5 => ?_⟩⟩
  obtain ⟨z, hz, q⟩ := k v H5 hv ((Keep.ofEx (Ex.new nt)).trans kp5) hP5
  exact ⟨t, xs, (v : Int), z, rfl, rfl, sq_of (kp5 _ _ (hP.ne_new nt).1.symm upd_same), atI_nat hz, q⟩
section
variable {P : Program} {w : World} {K : PySem.W.Frag} {mg : Str → Option Value} {base : Heap}
def spSheet : Sp := fun vs H Q _ => ∃ (p c : Addr) (ns : List Int) (m : Nat), vs = [.ref p, .int (m : Int)] ∧ 1 ≤ m ∧ m ≤ 4 ∧ Pot p c ns H ∧
  ∀ (os ps qs : List Str) s H', Sht os ps qs → SheetAt H' s os ps qs → Keep p H H' → Pot p c ns H' → Q (.ref s) H'
theorem ok_sheet {f fP fL : Addr} {fd fdP fdL : FuncData} {k : Nat} (F : Fun K "_law_sheet" "_law_sheet" sSheet f fd) (FP : Fun K "_law_pick" "_law_pick" sPick fP fdP) (GP : FnOk P w K mg base CX0 (k + 1) fP fdP ["pot", "many"] spPick) (bP : Binds K fdP ["pot", "many"] []) (gP : mg "_law_pick" = some (.ref fP))
    (FL : Fun K "_law_letters" "_law_letters" sLetters fL fdL) (GL : FnOk P w K mg base CX0 (k + 2) fL fdL ["pot", "many"] spLetters) (bL : Binds K fdL ["pot", "many"] []) (gL : mg "_law_letters" = some (.ref fL)) (mm : mg "min" = none) (mt : mg "tuple" = none) :
    FnOk P w K mg base CX0 (k + 3) f fd ["pot", "most"] spSheet := by
  have nd := scSheet.nd
  refine F.ok scSheet (fun vs H Q E h => ?_) (fun cdv A outer s H vs Q E hr h => ?_)
  · obtain ⟨p, c, ns, m, rfl, _⟩ := h
    rfl
  · obtain ⟨p, c, ns, m, rfl, m1, m4, hP, q⟩ := h
    have hr1 : Room (k + 1) _ := hr.mono (Nat.le_succ _)
    refine ⟨_, pss_cons (ps_set (i := 2) nd rfl (.inl rfl) (pe_call GL hr (by rfl) gL FL.kp bL .nil pass0 (pa_cons (pv 0) (pa_cons pe_int pa_nil))))
      (pss_cons (ps_set (i := 3) nd rfl (.inl rfl) (pe_call GP hr1 (by rfl) gP FP.kp bP .nil pass0 (pa_cons (pv 0) (pa_cons pe_int pa_nil))))
      (pss_cons (ps_set (i := 2) nd rfl (.inl rfl) (pe_op op_cat (pe_slice sl_list (pv 2) (po_some (pv 3)) po_none) (pe_slice sl_list (pv 2) po_none (po_some (pv 3)))))
      (pss_cons (ps_set (i := 4) nd rfl (.inl rfl) (pe_slice sl_list (pv 2) po_none (po_some (pe_callB (call_min2 rfl) (by rfl) mm (by decide +kernel) (pa_cons (pv 1) (pa_cons (pe_ix ix_list (pe_lst (pa_cons pe_int (pa_cons pe_int (pa_cons pe_int (pa_cons pe_int (pa_cons pe_int pa_nil)))))) (pe_call GP hr1 (by rfl) gP FP.kp bP .nil pass0 (pa_cons (pv 0) (pa_cons pe_int pa_nil))) (fun _ _ => rfl)) pa_nil))))))
      (pss_cons (ps_set (i := 5) nd rfl (.inl rfl) (pe_slice sl_list (pv 2) (po_some pe_int) (po_some (pe_op op_add pe_int (pe_callB (call_min2 rfl) (by rfl) mm (by decide +kernel) (pa_cons (pv 1) (pa_cons (pe_ix ix_list (pe_lst (pa_cons pe_int (pa_cons pe_int (pa_cons pe_int (pa_cons pe_int (pa_cons pe_int pa_nil)))))) (pe_call GP hr1 (by rfl) gP FP.kp bP .nil pass0 (pa_cons (pv 0) (pa_cons pe_int pa_nil))) (fun _ _ => rfl)) pa_nil)))))))
      (pss_cons (ps_set (i := 6) nd rfl (.inl rfl) (pe_slice sl_list (pv 2) (po_some pe_int) (po_some (pe_op op_add pe_int (pe_callB (call_min2 rfl) (by rfl) mm (by decide +kernel) (pa_cons (pv 1) (pa_cons (pe_ix ix_list (pe_lst (pa_cons pe_int (pa_cons pe_int (pa_cons pe_int (pa_cons pe_int (pa_cons pe_int pa_nil)))))) (pe_call GP hr1 (by rfl) gP FP.kp bP .nil pass0 (pa_cons (pv 0) (pa_cons pe_int pa_nil))) (fun _ _ => rfl)) pa_nil)))))))
      (pss_one (ps_ret (pe_tup (pa_cons (pe_callTy call_tuple_of (by rfl) mt (by decide +kernel) (pa_cons (pv 4) pa_nil)) (pa_cons (pe_callTy call_tuple_of (by rfl) mt (by decide +kernel) (pa_cons (pv 5) pa_nil)) (pa_cons (pe_callTy call_tuple_of (by rfl) mt (by decide +kernel) (pa_cons (pv 6) pa_nil)) pa_nil)))))))))))  , ?_⟩
    refine ⟨_, rfl, p, c, ns, 12, rfl, by decide, hP, fun ws l H1 hlen hnd hlt kp1 hP1 nl hl => ?_⟩
    refine ⟨_, rfl, p, c, ns, 12, rfl, by decide, by decide, hP1, fun turn H2 hturn kp2 hP2 => ?_⟩
    have hl2 : H2 l = some (lS ws) := kp2 _ _ (lS_ne hP1 hl) hl
    refine ⟨_, rfl, _, rfl, _, rfl, l, _, rfl, sq_of hl2, fun u nu => ?_⟩
    have e2 : Ex H2 (upd H2 u (.lst (cutV (ws.map V.str) (some (turn : Int)) none))) := Ex.new nu
    refine ⟨_, rfl, _, rfl, _, rfl, l, _, rfl, sq_of (e2 _ _ hl2), fun u' nu' => ?_⟩
    have e3 : Ex H2 (upd (upd H2 u (.lst (cutV (ws.map V.str) (some (turn : Int)) none))) u' (.lst (cutV (ws.map V.str) none (some (turn : Int))))) := e2.trans (Ex.new nu')
    have nuu : u ≠ u' := ne_of_none upd_same nu'
    have hu3 : (upd (upd H2 u (.lst (cutV (ws.map V.str) (some (turn : Int)) none))) u' (.lst (cutV (ws.map V.str) none (some (turn : Int))))) u = some (.lst ((ws.drop turn).map V.str)) := by
      rw [upd_ne nuu, upd_same, map_cutF]
    have hu3' : (upd (upd H2 u (.lst (cutV (ws.map V.str) (some (turn : Int)) none))) u' (.lst (cutV (ws.map V.str) none (some (turn : Int))))) u' = some (.lst ((ws.take turn).map V.str)) := by
      rw [upd_same, map_cut0]
    generalize (upd (upd H2 u (.lst (cutV (ws.map V.str) (some (turn : Int)) none))) u' (.lst (cutV (ws.map V.str) none (some (turn : Int))))) = H3 at e3 hu3 hu3' ⊢
    have hLn : (ws.drop turn ++ ws.take turn).length = 12 := by
      rw [List.length_append, List.length_drop, List.length_take]
      omega
    refine ⟨u, u', _, _, rfl, rfl, hu3, hu3', ?_, fun r nr => ?_⟩
    · rw [← List.length_append, ← List.map_append, List.length_map]
      exact sz_of (by omega)
    rw [← List.map_append]
    have hLd := rot_nodup turn hnd
    have hLt : ∀ x ∈ ws.drop turn ++ ws.take turn, Ltr x := fun x hx => hlt x (rot_mem hx)
    generalize ws.drop turn ++ ws.take turn = L at hLn hLd hLt ⊢
    have hP3 := hP2.ex e3
    have e4 : Ex H3 (upd H3 r (lS L)) := Ex.new nr
    have hP4 := hP3.ex e4
    have kp4 : Keep p H (upd H3 r (lS L)) := ((kp1.trans kp2).trans (Keep.ofEx e3)).trans (Keep.ofEx e4)
    have hr4 : (upd H3 r (lS L)) r = some (lS L) := upd_same
    show tSeq _ _ _ [some (.ref p), some (.int (m : Int)), some (.ref r), some (.int (turn : Int)), none, none, none] (upd H3 r (lS L))
    generalize upd H3 r (lS L) = H4 at e4 hP4 kp4 hr4 ⊢
    -- opens
    refine ⟨_, rfl, _, rfl, menu_rd (xs := [.int 1, .int 1, .int 2, .int 2, .int 4]) hP4 rfl (by decide) (by decide) (fun Q z => z) (by decide) fun v H5 hv kp5 hP5 => ?_⟩
    obtain ⟨x, hx, x1, x4⟩ := menu1 (show v < 5 by omega)
    refine ⟨_, hx, _, _, rfl, _, rfl, r, _, rfl, sq_of (kp5 _ _ (lS_ne hP4 hr4) hr4), fun o no => ?_⟩
    rw [minI, map_cut0]
    have hr5 : H5 r = some (lS L) := kp5 _ _ (lS_ne hP4 hr4) hr4
    have e6 : Ex H5 (upd H5 o (lS (L.take (min m x)))) := Ex.new no
    have hP6 := hP5.ex e6
    have hr6 := e6 _ _ hr5
    have ho6 : (upd H5 o (lS (L.take (min m x)))) o = some (lS (L.take (min m x))) := upd_same
    have kp6 : Keep p H (upd H5 o (lS (L.take (min m x)))) := (kp4.trans kp5).trans (Keep.ofEx e6)
    show tSeq _ _ _ [some (.ref p), some (.int (m : Int)), some (.ref r), some (.int (turn : Int)), some (.ref o), none, none] (upd H5 o (lS (L.take (min m x))))
    generalize upd H5 o (lS (L.take (min m x))) = H6 at hP6 hr6 ho6 kp6 ⊢
    -- plains
    refine ⟨_, rfl, _, rfl, _, rfl, menu_rd (xs := [.int 0, .int 1, .int 1, .int 2, .int 4]) hP6 rfl (by decide) (by decide) (fun Q z => z) (by decide) fun v H7 hv kp7 hP7 => ?_⟩
    obtain ⟨y, hy, y4⟩ := menu0 (show v < 5 by omega)
    have hr7 : H7 r = some (lS L) := kp7 _ _ (lS_ne hP6 hr6) hr6
    have ho7 : H7 o = some (lS (L.take (min m x))) := kp7 _ _ (lS_ne hP6 ho6) ho6
    refine ⟨_, hy, _, _, rfl, _, _, rfl, rfl, _, rfl, r, _, rfl, sq_of hr7, fun u1 nu1 => ?_⟩
    have ey : (4 : Int) + (if (y : Int) < (m : Int) then (y : Int) else (m : Int)) = ((4 + min m y : Nat) : Int) := by
      rw [minI]
      omega
    rw [ey, show (some 4 : Option Int) = some ((4 : Nat) : Int) from rfl, map_cutLH]
    have e8 : Ex H7 (upd H7 u1 (lS ((L.take (4 + min m y)).drop 4))) := Ex.new nu1
    have hP8 := hP7.ex e8
    have hr8 := e8 _ _ hr7
    have ho8 := e8 _ _ ho7
    have hu8 : (upd H7 u1 (lS ((L.take (4 + min m y)).drop 4))) u1 = some (lS ((L.take (4 + min m y)).drop 4)) := upd_same
    have kp8 : Keep p H (upd H7 u1 (lS ((L.take (4 + min m y)).drop 4))) := (kp6.trans kp7).trans (Keep.ofEx e8)
    show tSeq _ _ _ [some (.ref p), some (.int (m : Int)), some (.ref r), some (.int (turn : Int)), some (.ref o), some (.ref u1), none] (upd H7 u1 (lS ((L.take (4 + min m y)).drop 4)))
    generalize upd H7 u1 (lS ((L.take (4 + min m y)).drop 4)) = H8 at hP8 hr8 ho8 hu8 kp8 ⊢
    -- closes
    refine ⟨_, rfl, _, rfl, _, rfl, menu_rd (xs := [.int 1, .int 1, .int 2, .int 2, .int 4]) hP8 rfl (by decide) (by decide) (fun Q z => z) (by decide) fun v H9 hv kp9 hP9 => ?_⟩
    obtain ⟨z, hz, z1, z4⟩ := menu1 (show v < 5 by omega)
    have hr9 : H9 r = some (lS L) := kp9 _ _ (lS_ne hP8 hr8) hr8
    have ho9 : H9 o = some (lS (L.take (min m x))) := kp9 _ _ (lS_ne hP8 ho8) ho8
    have hu9 := kp9 _ _ (lS_ne hP8 hu8) hu8
    refine ⟨_, hz, _, _, rfl, _, _, rfl, rfl, _, rfl, r, _, rfl, sq_of hr9, fun u2 nu2 => ?_⟩
    have ez : (8 : Int) + (if (z : Int) < (m : Int) then (z : Int) else (m : Int)) = ((8 + min m z : Nat) : Int) := by
      rw [minI]
      omega
    rw [ez, show (some 8 : Option Int) = some ((8 : Nat) : Int) from rfl, map_cutLH]
    have e10 : Ex H9 (upd H9 u2 (lS ((L.take (8 + min m z)).drop 8))) := Ex.new nu2
    have hP10 := hP9.ex e10
    have ho10 := e10 _ _ ho9
    have hu10 := e10 _ _ hu9
    have hv10 : (upd H9 u2 (lS ((L.take (8 + min m z)).drop 8))) u2 = some (lS ((L.take (8 + min m z)).drop 8)) := upd_same
    have kp10 : Keep p H (upd H9 u2 (lS ((L.take (8 + min m z)).drop 8))) := (kp8.trans kp9).trans (Keep.ofEx e10)
    refine ⟨_, rfl, o, _, rfl, .inl ⟨sq_of ho10, fun ao nao => ?_⟩⟩
    have f1 : Ex _ _ := Ex.new (o := .tup ((L.take (min m x)).map V.str)) nao
    refine ⟨_, rfl, u1, _, rfl, .inl ⟨sq_of (f1 _ _ hu10), fun ap nap => ?_⟩⟩
    have f2 : Ex _ _ := Ex.new (o := .tup (((L.take (4 + min m y)).drop 4).map V.str)) nap
    refine ⟨_, rfl, u2, _, rfl, .inl ⟨sq_of (f2 _ _ (f1 _ _ hv10)), fun ac nac => ?_⟩⟩
    have f3 : Ex _ _ := Ex.new (o := .tup (((L.take (8 + min m z)).drop 8).map V.str)) nac
    refine ⟨(by show 3 ≤ sizeLine; decide), fun sh nsh => ?_⟩
    have f4 : Ex _ _ := Ex.new (o := .tup [.ref ao, .ref ap, .ref ac]) nsh
    exact q _ _ _ sh _ (sht_of hLd hLt hLn (by omega) (by omega) (by omega) (by omega) (by omega)) ⟨ao, ap, ac, upd_same, f4 _ _ (f3 _ _ (f2 _ _ upd_same)), f4 _ _ (f3 _ _ upd_same), f4 _ _ upd_same⟩ (kp10.trans (Keep.ofEx (((f1.trans f2).trans f3).trans f4))) (hP10.ex (((f1.trans f2).trans f3).trans f4))
end
end Eh
set_option Elab.async false
set_option linter.all false
set_option maxRecDepth 100000
set_option maxHeartbeats 4000000
namespace Eh
open PySem PySem.Spec PyProof.Rows L2 Evl
open Sem (wp)
open AutoSeq1 (wpAny_loadPart')
/-! enumerate of a tuple -/
theorem enumT_meets {v : Value} {ob : Obj} {G : Heap → Prop} (B : Begins v ob G) : Meets (Builtin.«enumerate.__new__» ⟨[.type "enumerate", v], []⟩) (fun _ R s1 => G s1.heap ∧ R (.ok (.ret (.ref (s1.heap.push ob).objs.size))) { s1 with heap := (s1.heap.push ob).push { cls := .type "enumerate", data := .fields #[.none, .bool false, .ref s1.heap.objs.size, rawInt 0, .none, .none] } }) :=
  .of_wp fun pr wo ar R s1 hyp => by
    obtain ⟨hp, gg, dd, tt, oo⟩ := s1; obtain ⟨hg, hyp⟩ := hyp
    have hsb := sub_enumerate
    have hit : ∀ {A' : Around} {E : Value → Shared → Prop} {Q : Value → Shared → Prop}, Q (.ref hp.objs.size) ⟨hp.push ob, gg, dd, tt, oo⟩ → wpAny (model pr wo) A' (pyIter v) Q E ⟨hp, gg, dd, tt, oo⟩ := fun q => B.iter pr wo _ _ ⟨hp, gg, dd, tt, oo⟩ _ hg q
    wp_walk using hit
    refine wpAny_stack_any fun stk => wpAny_pure ?_
    split
    · rename_i cl _ _ _ _ _; cases (cl == Value.type "enumerate") <;> (wp_walk using hit; exact ⟨_, rfl, hyp⟩)
    · wp_walk using hit; exact ⟨_, rfl, hyp⟩
theorem enumT_call {prog : Program} {w : World} {A : Around} {E : Value → Shared → Prop} {s : Shared} {v : Value} {ob : Obj} {G : Heap → Prop} {Q : Value → Shared → Prop} (B : Begins v ob G) (hg : G s.heap)
    (hyp : ∀ h', IsEnum h' (s.heap.objs.size + 1) s.heap.objs.size 0 .none → h'.get? s.heap.objs.size = some ob → h'.objs.size = s.heap.objs.size + 2 → (∀ b o, s.heap.get? b = some o → h'.get? b = some o) → Q (.ref (s.heap.objs.size + 1)) { s with heap := h' }) : wpAny (model prog w) A (call (.type "enumerate") [v]) Q E s := by
  refine callType_new F.called_enumerate (by decide) (F.typeCall_enumerate_1 _) (F.newCall_enumerate_1 _) (fun x => F.args_object_init_2 x _) F.entry_enumerate_new (enumT_meets B) ⟨hg, ?_⟩
  have sz : (s.heap.push ob).objs.size = s.heap.objs.size + 1 := Heap.size_push ..
  show _ ∧ _
  rw [sz]
  have en : IsEnum ((s.heap.push ob).push { cls := .type "enumerate", data := .fields #[.none, .bool false, .ref s.heap.objs.size, rawInt 0, .none, .none] }) (s.heap.objs.size + 1) s.heap.objs.size 0 .none := by
    have z := Heap.get?_push_size (s.heap.push ob) (o := { cls := .type "enumerate", data := .fields #[.none, .bool false, .ref s.heap.objs.size, rawInt 0, .none, .none] }) rfl
    rw [sz] at z; exact z
  exact ⟨⟨_, en, rfl⟩, hyp _ en (Heap.get?_push_of_some _ (Heap.get?_push_size _ B.free)) (by rw [Heap.size_push, sz]) fun b o x => Heap.get?_push_of_some _ (Heap.get?_push_of_some _ x)⟩
def IteT (K : PySem.W.Frag) (a : Addr) : It :=
  ⟨fun i H => ∃ (xs : List V) (x : V), SqT K H a xs ∧ xs[i]? = some x, fun i H v H' => ∃ T x, v = .ref T ∧ H T = none ∧ H' = upd H T (.tup [.int (i : Nat), x]) ∧ ∀ xs, SqT K H a xs → xs[i]? = some x, fun i H => ∃ xs : List V, SqT K H a xs ∧ xs.length = i⟩
theorem apart_cls {h : Heap} {a b : Addr} {o1 o2 : Obj} {x y : String} (h1 : h.get? a = some o1) (c1 : o1.cls = .type x) (h2 : h.get? b = some o2) (c2 : o2.cls = .type y) (n : x ≠ y) : a ≠ b := fun z => by
  subst z
  rw [h1] at h2
  have e : o1 = o2 := Option.some.inj h2
  rw [e, c2] at c1
  injection c1 with c1
  exact n c1.symm
theorem turn_enumT {P : Program} {w : World} {K : PySem.W.Frag} {elts : List Expr} {kk : Nat} {tpos : Pos} (a e it : Addr) :
    Turn P w K (.Tuple elts kk tpos) (IteT K a) [e, it] e (fun i h => (∃ old, IsEnum h e it ((i : Nat) : Int) old) ∧ h.IsTupleIter it a i ∧ e ≠ it) where
  mem := by simp
  obj := fun i h tn b hb => by
    obtain ⟨⟨old, en⟩, ⟨ob, h1, h2, h3⟩, _⟩ := tn
    rcases (show b = e ∨ b = it by simpa using hb) with z | z
    · subst z; exact ⟨_, en, fun v q => nomatch q⟩
    · subst z; exact ⟨ob, h1, fun v q => by rw [h3] at q; cases q⟩
  keep := fun i h h' tn kk => let ⟨⟨old, en⟩, ti, ne⟩ := tn; ⟨⟨old, kk e (by simp) _ en⟩, ti.at fun o q => kk it (by simp) o q, ne⟩
  item := by
    intro X eP ew eK hc i pins s σ H E I fpo tn go
    subst eP ew eK
    obtain ⟨⟨old, en⟩, ti, ne⟩ := tn
    obtain ⟨xs, x, sq, hx⟩ := go
    obtain ⟨its, rv, pt, _⟩ := I.tuple sq
    obtain ⟨u, hu, ru⟩ := rv.get hx
    have le : e < s.heap.objs.size := Heap.lt_size en
    have li : it < s.heap.objs.size := by obtain ⟨_, q, _⟩ := ti; exact Heap.lt_size q
    have nai : a ≠ it := by
      obtain ⟨o1, g1, c1, _⟩ := id ti
      obtain ⟨o2, g2, c2, _⟩ := id pt
      exact apart_cls g2 c2 g1 c1 (by decide)
    have nea : e ≠ a := by
      obtain ⟨o2, g2, c2, _⟩ := id pt
      exact apart_cls en rfl g2 c2 (by decide)
    have DD := Draws.tuple (prog := X.prog) (w := X.w) (A := X.A.in1) (I.ok.hd hc) it a nai its.toArray
    refine wpAny_pyNext_enum_itemC DD en ⟨ti, pt⟩ (by have h1 := (List.getElem?_eq_some_iff.mp hu).1; rw [List.size_toArray]; exact h1) ne (by simp [ne, nea]) fun y h' tk hy out st' hT hsz kp => ?_
    have ey : y = u := by
      have hy' : its.toArray[i]? = some y := hy
      rw [List.getElem?_toArray, hu] at hy'
      exact (Option.some.inj hy').symm
    subst ey
    refine ⟨_, rfl, wpAny_letOwnedTupleGo_enum (s := { s with heap := h', toks := tk + 1 }) out fun h'' en' sb => ?_⟩
    have hT' : h''.get? s.heap.objs.size = some { cls := .type "tuple", data := .seq #[.int i tk, y] } := (sb.2 _ (Nat.ne_of_gt le)).trans hT
    have nw : ObjOk X.prog X.w (upd H s.heap.objs.size (.tup [.int (i : Nat), x])) h'' s.heap.objs.size (.tup [.int (i : Nat), x]) := ⟨by show 2 ≤ sizeLine; decide, [.int i tk, y], .cons ⟨_, rfl⟩ (.cons ru .nil), ⟨_, hT', rfl, _, rfl⟩⟩
    have J1 : Inv X pins σ (upd H s.heap.objs.size (.tup [.int (i : Nat), x])) { s with heap := h'', toks := tk + 1 } := I.turnedNew (ch := [e, it]) (fun b o hb q => (sb.2 b (fun z => hb (by simp [z]))).trans (kp b o (fun z => hb (by simp [z])) (fun z => hb (by simp [z])) q)) fpo (Nat.le_refl _) nw
    refine ⟨.ref s.heap.objs.size, _, J1, rfl, ⟨_, x, rfl, I.hok.fresh (Nat.le_refl _), rfl, fun ys hs => by rw [I.tuple_inj hs sq]; exact hx⟩, ⟨⟨y, ?_⟩, st'.1.at fun o q => (sb.2 it (Ne.symm ne)).trans q, ne⟩, fun b hb => ?_⟩
    · rw [show ((i + 1 : Nat) : Int) = (i : Int) + 1 by omega]
      exact en'
    · have lb : b < s.heap.objs.size := by
        rcases (show b = e ∨ b = it by simpa using hb) with z | z
        · subst z; exact le
        · subst z; exact li
      rw [upd_ne (Nat.ne_of_lt lb)]
      exact (fpo b hb).1
  done := by
    intro X eP ew eK hc i pins s σ H E I fpo tn stp
    subst eP ew eK
    obtain ⟨⟨old, en⟩, ti, ne⟩ := tn
    obtain ⟨xs, sq, hx⟩ := stp
    obtain ⟨its, rv, pt, _⟩ := I.tuple sq
    obtain ⟨f0, f1, _, f3, f4, f5⟩ := fpo it (by simp)
    have nai : a ≠ it := by
      obtain ⟨o1, g1, c1, _⟩ := id ti
      obtain ⟨o2, g2, c2, _⟩ := id pt
      exact apart_cls g2 c2 g1 c1 (by decide)
    have DD := Draws.tuple (prog := X.prog) (w := X.w) (A := X.A.in1) (I.ok.hd hc) it a nai its.toArray
    have en' : its.toArray.size = i := by rw [List.size_toArray, ← rv.length, hx]
    exact wpAny_pyNext_enum_endD DD en (by rw [en']; exact ⟨ti, pt⟩) fun h' eb => ⟨rfl, I.turned (t' := s.toks) (fun b o hb q => eb b o hb q) f0 f1 f3 f4 f5⟩
  self := fun A i s Q E tn hq => let ⟨⟨_, en⟩, _⟩ := tn; wpAny_pyIter_enum en hq
def iEnumT (K : PySem.W.Frag) (ta : TA) : TI := fun σ H R => ta σ H fun vs H1 => ∃ a xs, vs = [.ref a] ∧ SqT K H1 a xs ∧ R (IteT K a) H1
theorem pi_enumT {X : Cx} {e : Expr} {ta : TA} {p pos tpos : Pos} {elts : List Expr} {kk : Nat} (hg : Gl X "enumerate") (hm : X.mg "enumerate" = none) (ha : PA X [e] ta) (hs : starEach [e] X.env = [(false, eval e X.env)] := by rfl) : PI X (.Tuple elts kk tpos) (.Call (.Name "enumerate" p) [e] [] pos) (iEnumT X.K ta) := by
  refine ⟨fun pins s σ H R I hyp => Call_ (ld_blt I hg hm boot_enumerate (PyProof.Rows.callWith_type1 (thn (ha.run pos pins s σ H _ I hyp) fun us s1 ⟨vs, H1, I1, r1, q1⟩ => ?_) hs rfl))⟩
  obtain ⟨a, xs, ev, sq, q⟩ := q1
  subst ev
  obtain ⟨u, rfl, ru⟩ := vals1 r1
  cases ru
  obtain ⟨its, rv, pt, _⟩ := I1.tuple sq
  refine enumT_call (begins_tuple a its.toArray) pt fun h' en hit hsz kp => wpAny_pyIter_enum en ?_
  have I2 : Inv X pins σ H1 { s1 with heap := h' } := I1.kept (t' := s1.toks) kp
  refine ⟨s1.heap.objs.size + 1, [s1.heap.objs.size + 1, s1.heap.objs.size], _, _, H1, rfl, I2, turn_enumT a (s1.heap.objs.size + 1) s1.heap.objs.size, ⟨⟨.none, en⟩, ⟨_, hit, rfl, rfl⟩, Nat.succ_ne_self _⟩, fun b hb => ?_, q⟩
  have lb : s1.heap.objs.size ≤ b := by
    rcases (show b = s1.heap.objs.size + 1 ∨ b = s1.heap.objs.size by simpa using hb) with z | z
    · rw [z]; exact Nat.le_add_right ..
    · rw [z]; exact Nat.le_refl ..
  exact I1.fpOk lb (I1.hok.fresh lb)
end Eh
set_option linter.all false
namespace Eh
/-! what answers what: the mathematics -/
inductive Kd | op | pl | cl
deriving DecidableEq
def tv (t : List (Option Nat)) (j : Nat) : Option Nat := t.getD j none
theorem tv_set {t : List (Option Nat)} {a : Nat} {v : Option Nat} (h : a < t.length) (j : Nat) : tv (t.set a v) j = if j = a then v else tv t j := by
  unfold tv
  rw [List.getD_eq_getElem?_getD, List.getD_eq_getElem?_getD, List.getElem?_set]
  by_cases e : j = a
  · subst e
    simp [h]
  · rw [if_neg (fun z => e z.symm), if_neg e]
theorem tv_rep (n j : Nat) : tv (List.replicate n none) j = none := by
  unfold tv
  rw [List.getD_eq_getElem?_getD, List.getElem?_replicate]
  split <;> rfl
theorem tv_get {t : List (Option Nat)} {j : Nat} (h : j < t.length) : t[j]? = some (tv t j) := by
  unfold tv
  rw [List.getD_eq_getElem?_getD, List.getElem?_eq_getElem h]
  rfl
def step (kf : Nat → Kd) (i : Nat) (S : List (Option Nat) × List Nat) : List (Option Nat) × List Nat :=
  match kf i with
  | .op => (S.1, i :: S.2)
  | .pl => S
  | .cl => match S.2 with
    | [] => S
    | b :: r => ((S.1.set b (some i)).set i (some b), r)
def run (kf : Nat → Kd) (n : Nat) : Nat → List (Option Nat) × List Nat
  | 0 => (List.replicate n none, [])
  | i + 1 => step kf i (run kf n i)
structure Good (kf : Nat → Kd) (n i : Nat) (t : List (Option Nat)) (st : List Nat) : Prop where
  len : t.length = n
  srt : st.Pairwise (· > ·)
  bd : ∀ b ∈ st, b < i ∧ kf b = .op ∧ tv t b = none
  opn : ∀ j, j < i → kf j = .op → tv t j = none → j ∈ st
  hi : ∀ j, i ≤ j → tv t j = none
  pr : ∀ j m, tv t j = some m → j < i ∧ m < i ∧ tv t m = some j ∧ ((kf j = .op ∧ kf m = .cl ∧ j < m ∧ ∀ b ∈ st, ¬ (j ≤ b ∧ b ≤ m)) ∨ (kf j = .cl ∧ kf m = .op ∧ m < j ∧ ∀ b ∈ st, ¬ (m ≤ b ∧ b ≤ j)))
theorem good_run (kf : Nat → Kd) (n : Nat) : ∀ i, i ≤ n → Good kf n i (run kf n i).1 (run kf n i).2
  | 0, _ => by
    refine ⟨List.length_replicate, List.Pairwise.nil, fun b hb => (List.not_mem_nil hb).elim, fun j hj => absurd hj (Nat.not_lt_zero j), fun j _ => tv_rep n j, fun j m h => ?_⟩
    have := tv_rep n j
    rw [show (run kf n 0).1 = List.replicate n none from rfl, this] at h
    cases h
  | i + 1, hi => by
    have G := good_run kf n i (by omega)
    show Good kf n (i + 1) (step kf i (run kf n i)).1 (step kf i (run kf n i)).2
    generalize run kf n i = S at G ⊢
    obtain ⟨t, st⟩ := S
    replace G : Good kf n i t st := G
    unfold step
    cases hk : kf i with
    | pl =>
      refine ⟨G.len, G.srt, fun b hb => ⟨by have := (G.bd b hb).1; omega, (G.bd b hb).2⟩, fun j hj ho hn => ?_, fun j hj => G.hi j (by omega), fun j m h => ?_⟩
      · rcases Nat.lt_succ_iff_lt_or_eq.mp hj with z | z
        · exact G.opn j z ho hn
        · subst z
          rw [hk] at ho
          cases ho
      · obtain ⟨a, b, c, d⟩ := G.pr j m h
        exact ⟨by omega, by omega, c, d⟩
    | op =>
      have hn := G.hi i (Nat.le_refl i)
      refine ⟨G.len, List.Pairwise.cons (fun b hb => (G.bd b hb).1) G.srt, fun b hb => ?_, fun j hj ho hn => ?_, fun j hj => G.hi j (by omega), fun j m h => ?_⟩
      · rcases List.mem_cons.mp hb with z | z
        · subst z
          exact ⟨by omega, hk, hn⟩
        · exact ⟨by have := (G.bd b z).1; omega, (G.bd b z).2⟩
      · rcases Nat.lt_succ_iff_lt_or_eq.mp hj with z | z
        · exact List.mem_cons_of_mem _ (G.opn j z ho hn)
        · subst z
          exact List.mem_cons_self ..
      · obtain ⟨a, b, c, d⟩ := G.pr j m h
        refine ⟨by omega, by omega, c, ?_⟩
        rcases d with ⟨d1, d2, d3, d4⟩ | ⟨d1, d2, d3, d4⟩
        · refine .inl ⟨d1, d2, d3, fun x hx => ?_⟩
          rcases List.mem_cons.mp hx with z | z
          · omega
          · exact d4 x z
        · refine .inr ⟨d1, d2, d3, fun x hx => ?_⟩
          rcases List.mem_cons.mp hx with z | z
          · omega
          · exact d4 x z
    | cl =>
      cases st with
      | nil =>
        refine ⟨G.len, G.srt, fun b hb => (List.not_mem_nil hb).elim, fun j hj ho hn => ?_, fun j hj => G.hi j (by omega), fun j m h => ?_⟩
        · rcases Nat.lt_succ_iff_lt_or_eq.mp hj with z | z
          · exact G.opn j z ho hn
          · subst z
            rw [hk] at ho
            cases ho
        · obtain ⟨a, b, c, d⟩ := G.pr j m h
          exact ⟨by omega, by omega, c, d⟩
      | cons b r =>
        obtain ⟨hb1, hb2, hb3⟩ := G.bd b (List.mem_cons_self ..)
        have hlen := G.len
        obtain ⟨hs1, hs2⟩ := List.pairwise_cons.mp G.srt
        have T : ∀ j, tv ((t.set b (some i)).set i (some b)) j = if j = i then some b else if j = b then some i else tv t j := fun j => by
          rw [tv_set (by rw [List.length_set]; omega), tv_set (by omega)]
        refine ⟨by simp [G.len], hs2, fun c hc => ?_, fun j hj ho hn => ?_, fun j hj => ?_, fun j m h => ?_⟩
        · obtain ⟨c1, c2, c3⟩ := G.bd c (List.mem_cons_of_mem _ hc)
          have := hs1 c hc
          refine ⟨by omega, c2, ?_⟩
          rw [T, if_neg (by omega), if_neg (by omega)]
          exact c3
        · rw [T] at hn
          by_cases e1 : j = i
          · rw [if_pos e1] at hn
            cases hn
          · rw [if_neg e1] at hn
            by_cases e2 : j = b
            · rw [if_pos e2] at hn
              cases hn
            · rw [if_neg e2] at hn
              exact (List.mem_cons.mp (G.opn j (by omega) ho hn)).resolve_left e2
        · rw [T, if_neg (by omega), if_neg (by omega)]
          exact G.hi j (by omega)
        · rw [T] at h
          by_cases e1 : j = i
          · rw [if_pos e1] at h
            have em : b = m := Option.some.inj h
            subst em
            subst e1
            refine ⟨by omega, by omega, ?_, .inr ⟨hk, hb2, hb1, fun c hc => by have := hs1 c hc; omega⟩⟩
            rw [T, if_neg (by omega), if_pos rfl]
          · rw [if_neg e1] at h
            by_cases e2 : j = b
            · rw [if_pos e2] at h
              have em : i = m := Option.some.inj h
              subst em
              subst e2
              refine ⟨by omega, by omega, ?_, .inl ⟨hb2, hk, hb1, fun c hc => by have := hs1 c hc; omega⟩⟩
              rw [T, if_pos rfl]
            · rw [if_neg e2] at h
              obtain ⟨g1, g2, g3, g4⟩ := G.pr j m h
              refine ⟨by omega, by omega, ?_, ?_⟩
              · rw [T, if_neg (by omega), if_neg (fun z => by
                  rw [z, hb3] at g3
                  cases g3)]
                exact g3
              · rcases g4 with ⟨d1, d2, d3, d4⟩ | ⟨d1, d2, d3, d4⟩
                · exact .inl ⟨d1, d2, d3, fun c hc => d4 c (List.mem_cons_of_mem _ hc)⟩
                · exact .inr ⟨d1, d2, d3, fun c hc => d4 c (List.mem_cons_of_mem _ hc)⟩
/-- what was told stays; what is told later is of later places -/
theorem run_later (kf : Nat → Kd) (n i j : Nat) : ∀ d, i + d ≤ n → (∀ m, tv (run kf n i).1 j = some m → tv (run kf n (i + d)).1 j = some m) ∧ (j < i → tv (run kf n i).1 j = none → tv (run kf n (i + d)).1 j = none ∨ ∃ m, i ≤ m ∧ tv (run kf n (i + d)).1 j = some m)
  | 0, _ => ⟨fun m h => h, fun _ h => .inl h⟩
  | d + 1, hd => by
    obtain ⟨ih1, ih2⟩ := run_later kf n i j d (by omega)
    have G := good_run kf n (i + d) (by omega)
    show (∀ m, tv (run kf n i).1 j = some m → tv (step kf (i + d) (run kf n (i + d))).1 j = some m) ∧ (j < i → tv (run kf n i).1 j = none → tv (step kf (i + d) (run kf n (i + d))).1 j = none ∨ ∃ m, i ≤ m ∧ tv (step kf (i + d) (run kf n (i + d))).1 j = some m)
    generalize run kf n (i + d) = S at G ih1 ih2 ⊢
    obtain ⟨t, st⟩ := S
    replace G : Good kf n (i + d) t st := G
    replace ih1 : ∀ m, tv (run kf n i).1 j = some m → tv t j = some m := ih1
    replace ih2 : j < i → tv (run kf n i).1 j = none → tv t j = none ∨ ∃ m, i ≤ m ∧ tv t j = some m := ih2
    unfold step
    cases hk : kf (i + d) with
    | pl => exact ⟨ih1, ih2⟩
    | op => exact ⟨ih1, ih2⟩
    | cl =>
      cases st with
      | nil => exact ⟨ih1, ih2⟩
      | cons b r =>
        obtain ⟨hb1, hb2, hb3⟩ := G.bd b (List.mem_cons_self ..)
        have hlen := G.len
        have T : tv ((t.set b (some (i + d))).set (i + d) (some b)) j = if j = i + d then some b else if j = b then some (i + d) else tv t j := by
          rw [tv_set (by rw [List.length_set]; omega), tv_set (by omega)]
        constructor
        · intro m h
          have h' := ih1 m h
          have := (G.pr j m h').1
          show tv ((t.set b (some (i + d))).set (i + d) (some b)) j = some m
          rw [T, if_neg (by omega), if_neg (fun z => by rw [z, hb3] at h'; cases h')]
          exact h'
        · intro hj h
          show tv ((t.set b (some (i + d))).set (i + d) (some b)) j = none ∨ ∃ m, i ≤ m ∧ tv ((t.set b (some (i + d))).set (i + d) (some b)) j = some m
          rw [T, if_neg (by omega)]
          by_cases e : j = b
          · rw [if_pos e]
            exact .inr ⟨i + d, by omega, rfl⟩
          · rw [if_neg e]
            exact ih2 hj h
/-- a falling row as the places that are in it -/
theorem filter_desc : ∀ (i : Nat) (st : List Nat), st.Pairwise (· > ·) → (∀ b ∈ st, b < i) → (List.range i).filter (fun a => decide (a ∈ st)) = st.reverse
  | 0, st, _, h => by
    cases st with
    | nil => rfl
    | cons b r => exact absurd (h b (List.mem_cons_self ..)) (Nat.not_lt_zero b)
  | i + 1, st, hs, h => by
    rw [List.range_succ, List.filter_append]
    by_cases hm : i ∈ st
    · cases st with
      | nil => exact (List.not_mem_nil hm).elim
      | cons b r =>
        obtain ⟨h1, h2⟩ := List.pairwise_cons.mp hs
        have hb : b = i := by
          rcases List.mem_cons.mp hm with z | z
          · exact z.symm
          · have := h1 i z
            have := h b (List.mem_cons_self ..)
            omega
        subst hb
        have ih := filter_desc b r h2 (fun c hc => h1 c hc)
        have e : (List.range b).filter (fun a => decide (a ∈ b :: r)) = (List.range b).filter (fun a => decide (a ∈ r)) := by
          refine List.filter_congr fun a ha => ?_
          have := List.mem_range.mp ha
          have : (a ∈ b :: r) ↔ a ∈ r := ⟨fun z => (List.mem_cons.mp z).resolve_left (by omega), fun z => List.mem_cons_of_mem _ z⟩
          simp only [this]
        rw [e, ih, List.reverse_cons, List.filter_cons, if_pos (decide_eq_true hm)]
        rfl
    · have ih := filter_desc i st hs (fun b hb => by
        have := h b hb
        have : b ≠ i := fun z => hm (z ▸ hb)
        omega)
      rw [ih, List.filter_cons, if_neg (by rw [decide_eq_false hm]; exact Bool.false_ne_true)]
      exact List.append_nil _
/-- the opens ahead of a place that are answered behind it, or never, are those that wait -/
theorem waits (kf : Nat → Kd) (n i : Nat) (hi : i ≤ n) : (List.range i).filter (fun a => decide (kf a = .op) && (decide (tv (run kf n n).1 a = none) || decide (∃ m, tv (run kf n n).1 a = some m ∧ i ≤ m))) = (run kf n i).2.reverse := by
  have G := good_run kf n i hi
  rw [← filter_desc i _ G.srt fun b hb => (G.bd b hb).1]
  refine List.filter_congr fun a ha => ?_
  have ha := List.mem_range.mp ha
  obtain ⟨l1, l2⟩ := run_later kf n i a (n - i) (by omega)
  rw [show i + (n - i) = n by omega] at l1 l2
  rw [Bool.eq_iff_iff]
  simp only [Bool.and_eq_true, Bool.or_eq_true, decide_eq_true_eq]
  constructor
  · rintro ⟨ho, hn⟩
    refine G.opn a ha ho ?_
    cases e : tv (run kf n i).1 a with
    | none => rfl
    | some m =>
      have e' := l1 m e
      have := (G.pr a m e).2.1
      rcases hn with z | ⟨m', z, hm⟩
      · rw [e'] at z
        cases z
      · rw [e'] at z
        have := Option.some.inj z
        omega
  · intro hm
    obtain ⟨_, h2, h3⟩ := G.bd a hm
    refine ⟨h2, ?_⟩
    rcases l2 ha h3 with z | ⟨m, hm, z⟩
    · exact .inl z
    · exact .inr ⟨m, z, hm⟩
def dep (kf : Nat → Kd) (n : Nat) : Nat → Nat
  | 0 => 0
  | i + 1 => max (dep kf n i) (run kf n (i + 1)).2.length
theorem dep_ge (kf : Nat → Kd) (n : Nat) : ∀ i, (run kf n i).2.length ≤ dep kf n i
  | 0 => Nat.le_refl _
  | i + 1 => Nat.le_max_right _ _
end Eh
set_option Elab.async false
set_option linter.all false
set_option maxRecDepth 100000
set_option maxHeartbeats 4000000
namespace Eh
open PySem PySem.Spec PyProof.Rows L2 Evl
def kdOf (os qs : List Str) (x : Str) : Kd := if x ∈ os then .op else if x ∈ qs then .cl else .pl
def kfOf (os qs ws : List Str) (i : Nat) : Kd := match ws[i]? with
  | some x => kdOf os qs x
  | none => .pl
theorem kfOf_at {os qs ws : List Str} {i : Nat} {x : Str} (h : ws[i]? = some x) : kfOf os qs ws i = kdOf os qs x := by
  unfold kfOf
  rw [h]
theorem inV_str (x : Str) : ∀ os : List Str, inV (.str x) (os.map V.str) = decide (x ∈ os)
  | [] => rfl
  | y :: r => by
    show (eqV (.str y) (.str x) || inV (.str x) (r.map V.str)) = _
    rw [inV_str x r, show eqV (.str y) (.str x) = (y == x) from rfl]
    by_cases e : y = x
    · subst e
      simp
    · have e' : ¬ x = y := fun z => e z.symm
      simp [e, e']
theorem flat_str (os : List Str) : (os.map V.str).all flatV = true := by
  rw [List.all_eq_true]
  intro v hv
  obtain ⟨x, _, rfl⟩ := List.mem_map.mp hv
  rfl
def oV : Option Nat → V
  | none => .non
  | some j => .int (j : Int)
def nV (j : Nat) : V := .int (j : Int)
abbrev tO (t : List (Option Nat)) : HO := .lst (t.map oV)
abbrev tN (st : List Nat) : HO := .lst (st.map nV)
def ansOf (os qs ws : List Str) : List (Option Nat) := (run (kfOf os qs ws) ws.length ws.length).1
theorem flat_rep {α : Type} (x : α) : ∀ n, (List.replicate n [x]).flatten = List.replicate n x
  | 0 => rfl
  | n + 1 => by
    rw [List.replicate_succ, List.flatten_cons, flat_rep x n, List.replicate_succ]
    rfl
theorem Sht.apart {os ps qs : List Str} (h : Sht os ps qs) {x : Str} (h1 : x ∈ os) (h2 : x ∈ qs) : False := by
  have := List.nodup_append.mp h.nd
  exact this.2.2 x (List.mem_append.mpr (.inl h1)) x h2 rfl
theorem kd_op {os qs : List Str} {x : Str} : kdOf os qs x = .op ↔ x ∈ os := by
  unfold kdOf
  by_cases h : x ∈ os
  · rw [if_pos h]
    exact ⟨fun _ => h, fun _ => rfl⟩
  · rw [if_neg h]
    refine ⟨fun e => ?_, fun z => absurd z h⟩
    split at e <;> cases e
theorem kd_cl {os ps qs : List Str} (hS : Sht os ps qs) {x : Str} : kdOf os qs x = .cl ↔ x ∈ qs := by
  unfold kdOf
  by_cases h : x ∈ os
  · rw [if_pos h]
    exact ⟨fun e => (nomatch e), fun z => (hS.apart h z).elim⟩
  · rw [if_neg h]
    by_cases h2 : x ∈ qs
    · rw [if_pos h2]
      exact ⟨fun _ => h2, fun _ => rfl⟩
    · rw [if_neg h2]
      exact ⟨fun e => (nomatch e), fun z => absurd z h2⟩
theorem Sht.plain {os ps qs : List Str} (hS : Sht os ps qs) {x : Str} (h : x ∈ ps) : kdOf os qs x = .pl := by
  have h1 := List.nodup_append.mp hS.nd
  have h2 := List.nodup_append.mp h1.1
  unfold kdOf
  rw [if_neg (fun z => h2.2.2 x z x h rfl), if_neg (fun z => h1.2.2 x (List.mem_append.mpr (.inr h)) x z rfl)]
end Eh
set_option Elab.async false
set_option linter.all false
set_option maxRecDepth 100000
set_option maxHeartbeats 4000000
namespace Eh
open PySem PySem.Spec PyProof.Rows L2 Evl
/-! texts compared at depth -/
theorem strOk_ltr {x : Str} (h : ∀ c ∈ cs x, az c) : PyData.strOk x = true := by
  unfold PyData.strOk
  rw [Array.all_eq_true_iff_forall_mem]
  intro c hc
  have := (h c (by simpa using hc)).2
  simp
  omega
theorem dpStrs {K : PySem.W.Frag} {H : Hp} : ∀ ws : List Str, DpAll K H (ws.map V.str) (ws.map PyData.str)
  | [] => .nil
  | x :: r => .cons (.str x) (dpStrs r)
theorem layStrs : ∀ ws : List Str, (∀ x ∈ ws, ∀ c ∈ cs x, az c) → PyData.canLayAll0 (ws.map PyData.str) = true
  | [], _ => rfl
  | x :: r, h => by
    show (PyData.strOk x && PyData.canLayAll0 (r.map PyData.str)) = true
    rw [layStrs r fun y hy => h y (List.mem_cons_of_mem _ hy), strOk_ltr (h x (List.mem_cons_self ..))]
    rfl
theorem deepStrs : ∀ ws : List Str, PyData.depthAll (ws.map PyData.str) = 0
  | [] => rfl
  | x :: r => by
    show max 0 (PyData.depthAll (r.map PyData.str)) = 0
    rw [deepStrs r]
    rfl
theorem shapedT {ws : List Str} (h : ∀ x ∈ ws, ∀ c ∈ cs x, az c) : SeqAt.shaped (.tuple (ws.map PyData.str)) = true := by
  unfold SeqAt.shaped
  rw [show PyData.canLay0 (.tuple (ws.map PyData.str)) = true from layStrs ws h, show PyData.depth (.tuple (ws.map PyData.str)) = 1 by
    show PyData.depthAll (ws.map PyData.str) + 1 = 1
    rw [deepStrs]]
  rfl
theorem shapedL {ws : List Str} (h : ∀ x ∈ ws, ∀ c ∈ cs x, az c) : SeqAt.shaped (.list (ws.map PyData.str)) = true := by
  unfold SeqAt.shaped
  rw [show PyData.canLay0 (.list (ws.map PyData.str)) = true from layStrs ws h, show PyData.depth (.list (ws.map PyData.str)) = 1 by
    show PyData.depthAll (ws.map PyData.str) + 1 = 1
    rw [deepStrs]]
  rfl
theorem shapedT0 : SeqAt.shaped (.tuple []) = true := by decide +kernel
theorem eqv_nilT (ws : List Str) : PyData.eqv (.tuple (ws.map PyData.str)) (.tuple []) = decide (ws = []) := by
  cases ws with
  | nil => rfl
  | cons x r => exact (decide_eq_false (fun z => nomatch z)).symm
/-! a letter of one part drawn -/
theorem draw_rd {K : PySem.W.Frag} {p c s ad : Addr} {ns : List Int} {H : Hp} {σ : L2.St} {xs : List V} {ys : List Str} {Q : VK} {j : Nat} {z : Int} (hP : Pot p c ns H) (h0 : σ[0]? = some (some (.ref p))) (hj : σ[j]? = some (some (.ref s))) (hs : H s = some (.tup xs)) (ha : atI xs z = some (.ref ad)) (hy : H ad = some (.tup (ys.map V.str))) (y0 : ys ≠ []) (y1 : ys.length ≤ 1000)
    (k : ∀ x H', x ∈ ys → Keep p H H' → Pot p c ns H' → Q (.str x) H') : tOp (rIxT K) (tOp (rIxT K) (tVar j) (tC (.int z))) (tCall spPick [] E0 (tCons (tVar 0) (tCons (tCB (rLenS K) (tCons (tOp (rIxT K) (tVar j) (tC (.int z))) tNil)) tNil))) σ H Q := by
  have hl : 0 < ys.length := by
    cases ys with
    | nil => exact absurd rfl y0
    | cons _ _ => exact Nat.succ_pos _
  refine ⟨_, hj, s, xs, z, _, rfl, rfl, st_of hs, ha, _, h0, _, hj, s, xs, z, _, rfl, rfl, st_of hs, ha, ad, _, rfl, .inr (st_of hy), p, c, ns, _, rfl, ?_, ?_, hP, fun v H' hv kp hP' => ?_⟩
  · rw [List.length_map]
    omega
  · rw [List.length_map]
    omega
  · rw [List.length_map] at hv
    have hv' : v < ys.length := by omega
    refine ⟨ad, _, _, .str ys[v], rfl, rfl, st_of (kp _ _ (hP.ne_tup hy) hy), atI_nat ?_, k _ H' (List.getElem_mem hv') kp hP'⟩
    rw [List.getElem?_map, List.getElem?_eq_getElem hv']
    rfl
theorem app_rd {K : PySem.W.Frag} {p c s l ad : Addr} {ns : List Int} {H : Hp} {σ : L2.St} {xs : List V} {ys ws : List Str} {D : Ends} {z : Int} (hP : Pot p c ns H) (h0 : σ[0]? = some (some (.ref p))) (h1 : σ[1]? = some (some (.ref s))) (h3 : σ[3]? = some (some (.ref l))) (hs : H s = some (.tup xs)) (ha : atI xs z = some (.ref ad)) (hy : H ad = some (.tup (ys.map V.str))) (y0 : ys ≠ []) (y1 : ys.length ≤ 1000) (hl : H l = some (lS ws)) (hlp : l ≠ p) (hz : ws.length < 100000)
    (k : ∀ x H', x ∈ ys → Keep p H H' → Pot p c ns H' → D.nx σ (upd H' l (.lst (ws.map V.str ++ [.str x])))) : tDrop (tBM K "list" rAppend (tVar 3) (tCons (tOp (rIxT K) (tOp (rIxT K) (tVar 1) (tC (.int z))) (tCall spPick [] E0 (tCons (tVar 0) (tCons (tCB (rLenS K) (tCons (tOp (rIxT K) (tVar 1) (tC (.int z))) tNil)) tNil)))) tNil)) D σ H :=
  ⟨_, h3, .inl ⟨rfl, _, sq_of hl⟩, draw_rd hP h0 h1 hs ha hy y0 y1 fun x H6 hx kp6 hP6 => ⟨l, _, _, rfl, rfl, kp6 _ _ hlp hl, by rw [List.length_map]; exact sz_lt hz, k x H6 hx kp6 hP6⟩⟩
/-- how many opens wait behind letters; none where a close is bare -/
def bal (os qs : List Str) : List Str → Nat → Option Nat
  | [], n => some n
  | x :: r, n => match kdOf os qs x with
    | .op => bal os qs r (n + 1)
    | .pl => bal os qs r n
    | .cl => match n with
      | 0 => none
      | m + 1 => bal os qs r m
theorem bal_app (os qs : List Str) : ∀ (a b : List Str) (n : Nat), bal os qs (a ++ b) n = (bal os qs a n).bind (bal os qs b)
  | [], b, n => rfl
  | x :: r, b, n => by
    show bal os qs (x :: (r ++ b)) n = (bal os qs (x :: r) n).bind (bal os qs b)
    unfold bal
    cases kdOf os qs x with
    | op => exact bal_app os qs r b (n + 1)
    | pl => exact bal_app os qs r b n
    | cl =>
      cases n with
      | zero => rfl
      | succ m => exact bal_app os qs r b m
theorem bal_one_op {os qs : List Str} {x : Str} (h : x ∈ os) (n : Nat) : bal os qs [x] n = some (n + 1) := by
  unfold bal
  rw [kd_op.mpr h]
  rfl
theorem bal_one_cl {os ps qs : List Str} (hS : Sht os ps qs) {x : Str} (h : x ∈ qs) (n : Nat) : bal os qs [x] (n + 1) = some n := by
  unfold bal
  rw [(kd_cl hS).mpr h]
  rfl
theorem bal_one_pl {os ps qs : List Str} (hS : Sht os ps qs) {x : Str} (h : x ∈ ps) (n : Nat) : bal os qs [x] n = some n := by
  unfold bal
  rw [hS.plain h]
  rfl
abbrev nShut : List Str := ["pot", "sheet", "most", "word", "waiting", "turn", "way"]
theorem scShut : FnScope nShut ["pot", "sheet", "most"] (defScope sShut) := ⟨rfl, rfl, rfl, by decide +kernel, rfl, by decide +kernel, by decide +kernel⟩
theorem lS_add (ws : List Str) (x : Str) : HO.lst (ws.map V.str ++ [.str x]) = lS (ws ++ [x]) := by
  unfold lS
  rw [List.map_append]
  rfl
theorem Keep.fresh {p q : Addr} {H H' : Hp} (k : Keep p H H') (hq : q ≠ p) (h : H' q = none) : H q = none := by
  cases e : H q with
  | none => rfl
  | some o =>
    rw [k q o hq e] at h
    cases h
section
variable {P : Program} {w : World} {K : PySem.W.Frag} {mg : Str → Option Value} {base : Heap}
def spShut : Sp := fun vs H Q _ => ∃ (p c s : Addr) (ns : List Int) (os ps qs : List Str) (m : Nat), vs = [.ref p, .ref s, .int (m : Int)] ∧ m ≤ 1000 ∧ Pot p c ns H ∧ Sht os ps qs ∧ SheetAt H s os ps qs ∧
  ∀ (ws : List Str) l H', (∀ x ∈ ws, x ∈ os ++ ps ++ qs) → ws.length ≤ 2 * m → bal os qs ws 0 = some 0 → Keep p H H' → Pot p c ns H' → H l = none → H' l = some (lS ws) → Q (.ref l) H'
theorem ok_shut {f fP : Addr} {fd fdP : FuncData} {k : Nat} (F : Fun K "_law_shut" "_law_shut" sShut f fd) (FP : Fun K "_law_pick" "_law_pick" sPick fP fdP) (GP : FnOk P w K mg base CX0 (k + 1) fP fdP ["pot", "many"] spPick) (bP : Binds K fdP ["pot", "many"] []) (gP : mg "_law_pick" = some (.ref fP)) (ml : mg "len" = none) (mr : mg "range" = none) :
    FnOk P w K mg base CX0 (k + 2) f fd ["pot", "sheet", "most"] spShut := by
  have nd := scShut.nd
  refine F.ok scShut (fun vs H Q E h => ?_) (fun cdv A outer s H vs Q E hr h => ?_)
  · obtain ⟨p, c, s, ns, os, ps, qs, m, rfl, _⟩ := h
    rfl
  · obtain ⟨p, c, s, ns, os, ps, qs, m, rfl, m1, hP, hS, hs, q⟩ := h
    refine ⟨_, pss_cons (ps_set (i := 3) nd rfl (.inl rfl) (pe_lst pa_nil))
      (pss_cons (ps_set (i := 4) nd rfl (.inl rfl) pe_int)
      (pss_cons (ps_for PassesOwn.never rfl (pi_range1 (by rfl) mr (pa_cons (pe_call GP hr (by rfl) gP FP.kp bP .nil pass0 (pa_cons (pv 0) (pa_cons (pe_op op_add (pv 2) pe_int) pa_nil))) pa_nil)) (pg_name (i := 5) nd rfl (.inl rfl))
        (pss_cons (ps_set (i := 6) nd rfl (.inl rfl) (pe_call GP hr (by rfl) gP FP.kp bP .nil pass0 (pa_cons (pv 0) (pa_cons pe_int pa_nil))))
        (pss_one (ps_if (PW.pt (pw_or (pt_cmpR op_lt (pv 6) pe_int (nomark _)) (pw_or1 (PW.pt (pw_and (pt_cmpR (op_eqD hr.units) (pe_ix ix_tup (pv 1) pe_int (fun _ _ => rfl)) (pe_tup pa_nil) (nomark _)) (pw_and1 (pt_cmpR op_eq (pv 4) pe_int (nomark _))))))))
          (pss_cons (ps_expr (pe_bm PySem.F.plainAttrs_list PySem.F.slot_list_append PySem.F.type_list_append mt_append (pv 3) (pa_cons (pe_ix ix_tup (pe_ix ix_tup (pv 1) pe_int (fun _ _ => rfl)) (pe_call GP hr (by rfl) gP FP.kp bP .nil pass0 (pa_cons (pv 0) (pa_cons (pe_callB call_len_seq (by rfl) ml PySem.boot_len (pa_cons (pe_ix ix_tup (pv 1) pe_int (fun _ _ => rfl)) pa_nil)) pa_nil))) (fun _ _ => rfl)) pa_nil)))
          (pss_one (ps_set (i := 4) nd rfl (.inl rfl) (pe_op op_add (pv 4) pe_int))))
          (pss_one (ps_if (PW.pt (pw_or (PW.pt (pw_and (pt_cmpR op_eq (pv 6) pe_int (nomark _)) (pw_and1 (pt_cmpR (op_neD hr.units) (pe_ix ix_tup (pv 1) pe_int (fun _ _ => rfl)) (pe_tup pa_nil) (nomark _))))) (pw_or1 (pt_cmpR op_eq (pv 4) pe_int (nomark _)))))
            (pss_one (ps_expr (pe_bm PySem.F.plainAttrs_list PySem.F.slot_list_append PySem.F.type_list_append mt_append (pv 3) (pa_cons (pe_ix ix_tup (pe_ix ix_tup (pv 1) pe_int (fun _ _ => rfl)) (pe_call GP hr (by rfl) gP FP.kp bP .nil pass0 (pa_cons (pv 0) (pa_cons (pe_callB call_len_seq (by rfl) ml PySem.boot_len (pa_cons (pe_ix ix_tup (pv 1) pe_int (fun _ _ => rfl)) pa_nil)) pa_nil))) (fun _ _ => rfl)) pa_nil))))
            (pss_cons (ps_expr (pe_bm PySem.F.plainAttrs_list PySem.F.slot_list_append PySem.F.type_list_append mt_append (pv 3) (pa_cons (pe_ix ix_tup (pe_ix ix_tup (pv 1) pe_int (fun _ _ => rfl)) (pe_call GP hr (by rfl) gP FP.kp bP .nil pass0 (pa_cons (pv 0) (pa_cons (pe_callB call_len_seq (by rfl) ml PySem.boot_len (pa_cons (pe_ix ix_tup (pv 1) pe_int (fun _ _ => rfl)) pa_nil)) pa_nil))) (fun _ _ => rfl)) pa_nil)))
            (pss_one (ps_set (i := 4) nd rfl (.inl rfl) (pe_op op_sub (pv 4) pe_int))))))))))
      (pss_one (ps_ret (pe_op op_cat (pv 3) (pe_lc (own := [("turn", 5)]) (g := gName 5) (tt := tYes) (te := tOp (rIxT K) (tOp (rIxT K) (tVar 1) (tC (.int 2))) (tCall spPick [] E0 (tCons (tVar 0) (tCons (tCB (rLenS K) (tCons (tOp (rIxT K) (tVar 1) (tC (.int 2))) tNil)) tNil)))) rfl nd (pi_range1 (by rfl) mr (pa_cons (pv 4) pa_nil)) (blkOk_by (own := [("turn", 5)]) (N := nShut) (sc := defScope sShut) (by decide +kernel)) (fun _ _ _ _ _ => pg_name (i := 5) nd rfl (Or.inl rfl)) (fun _ _ _ _ _ => pts_nil)
        (fun _ _ _ _ _ => pe_ix ix_tup (pe_ix ix_tup (pv 1) pe_int (fun _ _ => rfl)) (pe_call GP hr (by rfl) gP FP.kp bP .nil pass0 (pa_cons (pv 0) (pa_cons (pe_callB call_len_seq (by rfl) ml PySem.boot_len (pa_cons (pe_ix ix_tup (pv 1) pe_int (fun _ _ => rfl)) pa_nil)) pa_nil))) (fun _ _ => rfl)))))))), ?_⟩
    refine ⟨Nat.zero_le _, fun l nl => ?_⟩
    have e1 : Ex H (upd H l (lS [])) := Ex.new nl
    have hpl := hP.ne_new nl
    refine ⟨_, rfl, _, rfl, _, _, rfl, rfl, p, c, ns, _, rfl, by omega, by omega, hP.ex e1, fun n H2 hn kp2 hP2 => ?_⟩
    have kH2 : Keep p H H2 := (Keep.ofEx e1).trans kp2
    refine ⟨_, rfl, by omega, by omega, for_range (lo := 0) (n := ((n : Int)).toNat) (fun i σ H' => ∃ (wt : Nat) (ws : List Str), (∃ y5 y6, σ = [some (.ref p), some (.ref s), some (.int (m : Int)), some (.ref l), some (nV wt), y5, y6]) ∧ wt ≤ i ∧ ws.length = i ∧ (∀ x ∈ ws, x ∈ os ++ ps ++ qs) ∧ bal os qs ws 0 = some wt ∧ Keep p H H' ∧ Pot p c ns H' ∧ H' l = some (lS ws)) ?_ ?_ ?_⟩
    · exact ⟨0, [], ⟨_, _, rfl⟩, Nat.le_refl _, rfl, fun x hx => (List.not_mem_nil hx).elim, rfl, kH2, hP2, kp2 _ _ hpl.1.symm upd_same⟩
    · rintro i σ H3 hi ⟨wt, ws, ⟨y5, y6, rfl⟩, hwt, hwl, hwm, hb, kp3, hP3, hl3⟩
      have hi' : i < 1001 := by omega
      refine ⟨_, rfl, p, c, ns, 5, rfl, by decide, by decide, hP3, fun way H4 hway kp4 hP4 => ?_⟩
      have kp04 := kp3.trans kp4
      have hl4 : H4 l = some (lS ws) := kp4 _ _ hpl.1.symm hl3
      obtain ⟨ao, ap, ac, g0, g1, g2, g3⟩ := (hs.keep hP kp3).keep hP3 kp4
      have hps : ∀ x ∈ ps, ∀ d ∈ cs x, az d := fun x hx => (hS.lt x (List.mem_append.mpr (.inl (List.mem_append.mpr (.inr hx))))).1
      -- what each way adds
      have fin : ∀ (z : Str) (wt' : Nat) (H5 : Hp), z ∈ os ++ ps ++ qs → bal os qs [z] wt = some wt' → wt' ≤ i + 1 → Keep p H4 H5 → Pot p c ns H5 → ∀ y5 y6, ∃ (wt2 : Nat) (ws2 : List Str), (∃ y5' y6', [some (V.ref p), some (.ref s), some (.int (m : Int)), some (.ref l), some (nV wt'), y5, y6] = [some (.ref p), some (.ref s), some (.int (m : Int)), some (.ref l), some (nV wt2), y5', y6']) ∧ wt2 ≤ i + 1 ∧ ws2.length = i + 1 ∧ (∀ x ∈ ws2, x ∈ os ++ ps ++ qs) ∧ bal os qs ws2 0 = some wt2 ∧ Keep p H (upd H5 l (.lst (ws.map V.str ++ [.str z]))) ∧ Pot p c ns (upd H5 l (.lst (ws.map V.str ++ [.str z]))) ∧ (upd H5 l (.lst (ws.map V.str ++ [.str z]))) l = some (lS ws2) := by
        intro z wt' H5 hz hbz hw' kp5 hP5 y5 y6
        refine ⟨wt', ws ++ [z], ⟨_, _, rfl⟩, hw', by rw [List.length_append, hwl]; rfl, fun x hx => ?_, ?_, (kp04.trans kp5).new nl, hP5.new hpl.1 hpl.2, ?_⟩
        · rcases List.mem_append.mp hx with a | a
          · exact hwm x a
          · rw [List.mem_singleton.mp a]
            exact hz
        · rw [bal_app, hb]
          exact hbz
        · rw [upd_same, lS_add]
      have wsz : ws.length < 100000 := by omega
      have o0 : os ≠ [] := fun z => by have := hS.o1; rw [z] at this; exact absurd this (by decide)
      have c0 : qs ≠ [] := fun z => by have := hS.c1; rw [z] at this; exact absurd this (by decide)
      have o4 := hS.o4
      have p4 := hS.p4
      have c4 := hS.c4
      have mo : ∀ x, x ∈ os → x ∈ os ++ ps ++ qs := fun x hx => List.mem_append.mpr (.inl (List.mem_append.mpr (.inl hx)))
      have mp : ∀ x, x ∈ ps → x ∈ os ++ ps ++ qs := fun x hx => List.mem_append.mpr (.inl (List.mem_append.mpr (.inr hx)))
      have mc : ∀ x, x ∈ qs → x ∈ os ++ ps ++ qs := fun x hx => List.mem_append.mpr (.inr hx)
      have tst : ∀ (H5 : Hp), Ex H4 H5 → ∀ (σ' : L2.St), σ'[1]? = some (some (.ref s)) → Ev (tOp (rEqD K) (tOp (rIxT K) (tVar 1) (tC (.int 1))) (tTup tNil)) σ' H5 (.bl (decide (ps = []))) ∧ Ev (tOp (rNeD K) (tOp (rIxT K) (tVar 1) (tC (.int 1))) (tTup tNil)) σ' H5 (.bl (!decide (ps = []))) := fun H5 e5 σ' h1 => by
        constructor
        · refine ev_opU (ev_op (ev_var h1) ev_c (rv_ixT (st_of (e5 _ _ g0)) (show atI [V.ref ao, .ref ap, .ref ac] 1 = some (.ref ap) from rfl))) (eu_tup ea_nil (by decide)) fun u H6 hu e6 => ?_
          refine fun H7 e7 Q qq => ⟨.tuple (ps.map PyData.str), .tuple [], .tup (st_of (e7 _ _ (e6 _ _ (e5 _ _ g2)))) (dpStrs ps), .tup (st_of (e7 _ _ hu)) .nil, shapedT hps, shapedT0, ?_⟩
          rw [eqv_nilT]
          exact qq H7 (Ex.refl _)
        · refine ev_opU (ev_op (ev_var h1) ev_c (rv_ixT (st_of (e5 _ _ g0)) (show atI [V.ref ao, .ref ap, .ref ac] 1 = some (.ref ap) from rfl))) (eu_tup ea_nil (by decide)) fun u H6 hu e6 => ?_
          refine fun H7 e7 Q qq => ⟨.tuple (ps.map PyData.str), .tuple [], .tup (st_of (e7 _ _ (e6 _ _ (e5 _ _ g2)))) (dpStrs ps), .tup (st_of (e7 _ _ hu)) .nil, shapedT hps, shapedT0, ?_⟩
          rw [eqv_nilT]
          exact qq H7 (Ex.refl _)
      have wz : decide (nV wt = .int 0) = decide (wt = 0) := by
        by_cases z : wt = 0
        · subst z
          rfl
        · rw [decide_eq_false z, decide_eq_false (fun e => z (by have := V.int.inj e; omega))]
      refine s_if (b := decide ((way : Int) < 2) || (decide (ps = []) && decide (nV wt = .int 0))) (et_or (et_test (ev_op (ev_var rfl) ev_c rv_I0)) (fun _ => et_and (et_test (tst H4 (Ex.refl _) _ rfl).1) (fun _ => et_test (ev_op (ev_var rfl) ev_c (rv_eq rfl))))) (fun hb1 H5 e5 => ?_) (fun hb1 H5 e5 => ?_)
      · refine app_rd (hP4.ex e5) rfl rfl rfl (e5 _ _ g0) (show atI [V.ref ao, .ref ap, .ref ac] 0 = some (.ref ao) from rfl) (e5 _ _ g1) o0 (by omega) (e5 _ _ hl4) hpl.1.symm wsz fun x H6 hx kp6 hP6 => ?_
        exact ⟨_, rfl, _, _, rfl, rfl, fin x (wt + 1) H6 (mo x hx) (bal_one_op hx _) (by omega) ((Keep.ofEx e5).trans kp6) hP6 _ _⟩
      · rw [wz, Bool.or_eq_false_iff, Bool.and_eq_false_iff] at hb1
        refine s_if (b := (decide (V.int (way : Int) = .int 2) && !decide (ps = [])) || decide (nV wt = .int 0)) (et_or (et_and (et_test (ev_op (ev_var rfl) ev_c (rv_eq rfl))) (fun _ => et_test (tst H5 e5 _ rfl).2)) (fun _ => et_test (ev_op (ev_var rfl) ev_c (rv_eq rfl)))) (fun hb2 H6 e6 => ?_) (fun hb2 H6 e6 => ?_)
        · have p0 : ps ≠ [] := fun z => by
            rw [wz, Bool.or_eq_true, Bool.and_eq_true] at hb2
            rcases hb2 with ⟨_, h2⟩ | h2
            · rw [decide_eq_true z] at h2
              exact absurd h2 (by decide)
            · rcases hb1.2 with h3 | h3
              · rw [decide_eq_true z] at h3
                exact absurd h3 (by decide)
              · rw [h2] at h3
                cases h3
          have e56 := e5.trans e6
          exact app_rd (hP4.ex e56) rfl rfl rfl (e56 _ _ g0) (show atI [V.ref ao, .ref ap, .ref ac] 1 = some (.ref ap) from rfl) (e56 _ _ g2) p0 (by omega) (e56 _ _ hl4) hpl.1.symm wsz fun x H7 hx kp7 hP7 => fin x wt H7 (mp x hx) (bal_one_pl hS hx _) (by omega) ((Keep.ofEx e56).trans kp7) hP7 _ _
        · rw [wz, Bool.or_eq_false_iff] at hb2
          have w0 : wt ≠ 0 := of_decide_eq_false hb2.2
          obtain ⟨w', rfl⟩ : ∃ w', wt = w' + 1 := ⟨wt - 1, by omega⟩
          have e56 := e5.trans e6
          refine app_rd (hP4.ex e56) rfl rfl rfl (e56 _ _ g0) (show atI [V.ref ao, .ref ap, .ref ac] 2 = some (.ref ac) from rfl) (e56 _ _ g3) c0 (by omega) (e56 _ _ hl4) hpl.1.symm wsz fun x H7 hx kp7 hP7 => ?_
          have ew : ((w' + 1 : Nat) : Int) - 1 = (w' : Int) := by omega
          refine ⟨_, rfl, _, _, rfl, rfl, ?_⟩
          show ∃ (wt : Nat) (ws : List Str), (∃ y5 y6, [some (V.ref p), some (.ref s), some (.int (m : Int)), some (.ref l), some (.int (((w' + 1 : Nat) : Int) - 1)), _, _] = _) ∧ _
          rw [ew]
          exact fin x w' H7 (mc x hx) (bal_one_cl hS hx _) (by omega) ((Keep.ofEx e56).trans kp7) hP7 _ _
    · rintro σ H3 ⟨wt, ws, ⟨y5, y6, rfl⟩, hwt, hwl, hwm, hb, kp3, hP3, hl3⟩
      obtain ⟨ao, ap, ac, g0, g1, g2, g3⟩ := hs.keep hP kp3
      have c0 : qs ≠ [] := fun z => by have := hS.c1; rw [z] at this; exact absurd this (by decide)
      have c4 := hS.c4
      have hwn : wt ≤ n := by
        rw [Int.toNat_natCast] at hwt
        exact hwt
      have hln : ws.length = n := by
        rw [Int.toNat_natCast] at hwl
        exact hwl
      refine ⟨_, rfl, _, rfl, (wt : Int), rfl, by omega, by omega, fun D nD => ?_⟩
      have hpD := hP3.ne_new nD
      have nDH : H D = none := kp3.fresh hpD.1.symm nD
      have nlD : l ≠ D := ne_of_none hl3 nD
      refine lc_range (lo := 0) (n := ((wt : Int)).toNat) (fun i H' => ∃ ds : List Str, ds.length = i ∧ (∀ d ∈ ds, d ∈ qs) ∧ H' D = some (lS ds) ∧ Keep p H3 H' ∧ Pot p c ns H') ?_ ?_ ?_
      · exact ⟨[], rfl, fun d hd => (List.not_mem_nil hd).elim, upd_same, (Keep.refl p H3).new nD, hP3.new hpD.1 hpD.2⟩
      · rintro i H' hi ⟨ds, hds, hdm, hD, kp, hP'⟩
        refine ⟨rfl, yesT (draw_rd hP' rfl rfl (kp _ _ (hP3.ne_tup g0) g0) (show atI [V.ref ao, .ref ap, .ref ac] 2 = some (.ref ac) from rfl) (kp _ _ (hP3.ne_tup g3) g3) c0 (by omega) fun x H2' hx kp2' hP2' => ?_)⟩
        refine ⟨_, kp2' _ _ hpD.1.symm hD, ?_, ds ++ [x], ?_, ?_, ?_, (kp.trans kp2').new nD, hP2'.new hpD.1 hpD.2⟩
        · rw [List.length_map]
          exact sz_lt (by omega)
        · rw [List.length_append, hds]
          rfl
        · intro d hd
          rcases List.mem_append.mp hd with a | a
          · exact hdm d a
          · rw [List.mem_singleton.mp a]
            exact hx
        · rw [upd_same, lS_add]
      · rintro H5 ⟨ds, hds, hdm, hD, kp5, hP5⟩
        rw [Int.toNat_natCast] at hds
        have hl5 : H5 l = some (lS ws) := kp5 _ _ hpl.1.symm hl3
        refine ⟨l, D, _, _, rfl, rfl, hl5, hD, ?_, fun r nr => ?_⟩
        · rw [List.length_map, List.length_map]
          exact sz_of (by omega)
        · have kp05 := kp3.trans kp5
          have hpr := hP5.ne_new nr
          refine q (ws ++ ds) r _ (fun x hx => ?_) ?_ ?_ (kp05.new (kp05.fresh hpr.1.symm nr)) (hP5.new hpr.1 hpr.2) (kp05.fresh hpr.1.symm nr) ?_
          · rcases List.mem_append.mp hx with a | a
            · exact hwm x a
            · exact List.mem_append.mpr (.inr (hdm x a))
          · rw [List.length_append]
            omega
          · rw [bal_app, hb]
            show bal os qs ds wt = some 0
            rw [← hds]
            clear hD hds hpD nDH nlD kp5 hP5 hl5 kp05 nr hpr
            induction ds with
            | nil => rfl
            | cons d r ih =>
              have h1 := bal_app os qs [d] r (d :: r).length
              rw [List.singleton_append, List.length_cons, bal_one_cl hS (hdm d (List.mem_cons_self ..))] at h1
              rw [List.length_cons, h1]
              exact ih fun x hx => hdm x (List.mem_cons_of_mem _ hx)
          · rw [upd_same, ← List.map_append]
end
end Eh
set_option Elab.async false
set_option linter.all false
set_option maxRecDepth 100000
set_option maxHeartbeats 4000000
namespace Eh
open PySem PySem.Spec PyProof.Rows L2 Evl
theorem seq_list_iadd : seqSlot? (.type "list") (dunderI "add") = pure (some (.builtin "list.__iadd__")) := PySem.seqSlot_of PySem.F.slot_list_iadd.lookup (by decide +kernel)
theorem iconcat_list {M : Model} {A : Around} {E : Value → Shared → Prop} {s : Shared} {a b : Value} {Q : Value → Shared → Prop} (ha : s.TypeIs a "list") (hb : s.TypeIs b "list")
    (hc : wpAny M A (call (.builtin "list.__iadd__") [a, b]) Q E s) : wpAny M A (inplaceOp .Add a b) Q E s := by
  unfold inplaceOp
  refine wpAny_holding ?_
  have hfi : fillsInplaceSlot (.type "list") "add" (Operator.Add == .Add) = pure false := by
    unfold fillsInplaceSlot
    show (typeLookup (.type "list") (dunderI "add") >>= fun fi => pure (fi.isSome && !isSeqSlot fi)) = pure false
    rw [PySem.F.slot_list_iadd.lookup, pure_bind]
    rw [show isSeqSlot (some (.builtin "list.__iadd__")) = true by decide +kernel]
    rfl
  refine wpAny_bind (wpAny_typeOf ha (wpAny_bind (wpAny_of_eq hfi ?_)))
  show wpAny M A (if false = true then _ else _) Q E s
  rw [if_neg Bool.false_ne_true]
  refine wpAny_bind (wpAny_binaryOp1_none (nm := "add") ha hb noFill_list_add ?_)
  refine wpAny_bind (wpAny_of_eq seq_list_iadd ?_)
  exact wpAny_bind (wpAny_rule hc)
/-- x += y of two lists: x itself grows -/
def ipL : TIp := fun x y H Q => ∃ l b xs zs, x = .ref l ∧ y = .ref b ∧ H l = some (.lst xs) ∧ H b = some (.lst zs) ∧ xs.length + zs.length ≤ sizeLine ∧ Q (.ref l) (upd H l (.lst (xs ++ zs)))
theorem ip_cat {X : Cx} : PIp X .Add ipL := by
  intro pins s σ H x y v u Q I rx ry hyp
  obtain ⟨l, b, xs, zs, rfl, rfl, hH, hB, hz, q⟩ := hyp
  cases rx
  cases ry
  obtain ⟨z1, its, n, r, hl, e⟩ := I.lstM hH
  obtain ⟨z2, its2, n2, r2, hl2, e2⟩ := I.lstM hB
  have hs : its.toArray.size + its2.toArray.size ≤ sizeLine := by rw [List.size_toArray, List.size_toArray]; omega
  have hnl : ¬ (!its.toArray.isEmpty && Builtin.List.listTooLong (its.toArray.size + its2.toArray.size)) = true := by rw [notLongL hs, Bool.and_false]; exact Bool.false_ne_true
  refine iconcat_list ⟨_, e, rfl⟩ ⟨_, e2, rfl⟩ (call_meets PySem.F.slot_list_iadd ⟨_, e, rfl⟩ PySem.F.entry_list_iadd (PySem.F.args_list_iadd_2 _ _) (AutoSeq1.list___iadd___list_list_0 l its.toArray n b its2.toArray n2 hnl (by rw [List.size_toArray]; omega) (by omega)) ⟨e, e2, ?_⟩)
  exact ⟨.ref l, _, I.lset (its' := its ++ its2) hH e (by simp) (r.append r2) (by rw [List.length_append]; omega), rfl, q⟩
end Eh
set_option Elab.async false
set_option linter.all false
set_option maxRecDepth 100000
set_option maxHeartbeats 4000000
namespace Eh
open PySem PySem.Spec PyProof.Rows L2 Evl
section
variable {P : Program} {w : World} {K : PySem.W.Frag} {mg : Str → Option Value} {base : Heap}
def spPickW : Sp := fun vs H Q _ => ∃ (p c : Addr) (ns : List Int) (m : Int), vs = [.ref p, .int m] ∧ 0 < m ∧ m.natAbs.log2 < 9000 ∧ Pot p c ns H ∧ ∀ (v : Nat) H', (v : Int) < m → Keep p H H' → Pot p c ns H' → Q (.int v) H'
theorem ok_pickW {f fB : Addr} {fd fdB : FuncData} {k : Nat} (F : Fun K "_law_pick" "_law_pick" sPick f fd) (FB : Fun K "_law_blend" "_law_blend" sBlend fB fdB) (bB : Binds K fdB ["cell", "at"] []) (gB : mg "_law_blend" = some (.ref fB)) (ml : mg "len" = none) :
    FnOk P w K mg base CX0 (k + 2) f fd ["pot", "many"] spPickW := by
  have GB : FnOk P w K mg base CX0 (k + 1) fB fdB ["cell", "at"] spBlend := ok_blend FB
  have nd := scPick.nd
  refine F.ok scPick (fun vs H Q E h => ?_) (fun cdv A outer s H vs Q E hr h => ?_)
  · obtain ⟨p, c, ns, m, rfl, _⟩ := h
    rfl
  · obtain ⟨p, c, ns, m, rfl, m0, m1, hP, q⟩ := h
    refine ⟨_, pss_cut (ps_if (pt_cmpR op_lt (pe_ix ix_list (pv 0) pe_int (fun _ _ => rfl)) (pv 1) (nomark _))
       (pss_cons (ps_set (i := 2) nd rfl (.inl rfl) (pe_ix ix_list (pv 0) pe_int (fun _ _ => rfl)))
       (pss_cons (ps_set (i := 3) nd rfl (.inl rfl) (pe_op op_mul pe_int (pv 2)))
       (pss_cut (ps_if (pt_cmpR op_lt (pv 2) (pe_callB call_len_seq (by rfl) ml PySem.boot_len (pa_cons (pe_ix ix_list (pv 0) pe_int (fun _ _ => rfl)) pa_nil)) (nomark _))
            (pss_one (ps_set (i := 3) nd rfl (.inl rfl) (pe_ix ix_list (pe_ix ix_list (pv 0) pe_int (fun _ _ => rfl)) (pv 2) (fun _ _ => rfl))))
            (pss_one (ps_if (pt_cmpR (op_neD hr.units) (pe_ix ix_list (pv 0) pe_int (fun _ _ => rfl)) (pe_lst pa_nil) (nomark _))
              (pss_one (ps_set (i := 3) nd rfl (.inl rfl) (pe_op op_mod (pe_ix ix_list (pe_ix ix_list (pv 0) pe_int (fun _ _ => rfl)) (pe_op op_mod (pe_op op_add (pe_op op_mul (pv 2) pe_int) pe_int) (pe_callB call_len_seq (by rfl) ml PySem.boot_len (pa_cons (pe_ix ix_list (pv 0) pe_int (fun _ _ => rfl)) pa_nil))) (fun _ _ => rfl)) (pe_op op_add (pe_op op_pow pe_int pe_int) (pe_op op_mul pe_int (pv 2)))))) pss_nil)))
       (pss_cons (ps_asg (pe_op op_add (pv 2) pe_int) (pg_sub (pv 0) pe_int set_list))
       (pss_one (ps_asg (pe_call GB hr (by rfl) gB FB.kp bB .nil pass0 (pa_cons (pv 3) (pa_cons (pv 2) pa_nil))) (pg_sub (pv 0) pe_int set_list)))))))
       pss_nil)
      (pss_cons (ps_set (i := 4) nd rfl (.inl rfl) (pe_op op_mod (pe_ix ix_list (pv 0) pe_int (fun _ _ => rfl)) (pv 1)))
      (pss_cons (ps_asg (pe_op op_fdivW (pe_ix ix_list (pv 0) pe_int (fun _ _ => rfl)) (pv 1)) (pg_sub (pv 0) pe_int set_list))
      (pss_one (ps_ret (pv 4))))), ?_⟩
    have hne := hP.ne
    obtain ⟨a, r, a0, hp, hc⟩ := hP
    refine ⟨fun σ' H' => (∃ y2 y3, σ' = [some (.ref p), some (.int m), y2, y3, none]) ∧ Keep p H H' ∧ Pot p c ns H', ?_, ?_⟩
    · refine ⟨_, rfl, p, _, 2, .int r, rfl, rfl, sq_of hp, rfl, _, rfl, _, _, rfl, rfl, _, rfl, ite2 (fun e => ?_) (fun e => ?_)⟩
      · refine ⟨_, rfl, p, _, 1, .int a, rfl, rfl, sq_of hp, rfl, ?_⟩
        refine ⟨_, rfl, _, _, rfl, rfl, .inl ⟨by decide, by decide⟩, ?_⟩
        refine ⟨fun σ' H' => ∃ y3 : Int, σ' = [some (.ref p), some (.int m), some (.int a), some (.int y3), none] ∧ Ex H H', ?_, ?_⟩
        · refine ⟨_, rfl, _, rfl, p, _, 0, .ref c, rfl, rfl, sq_of hp, rfl, c, _, rfl, .inl (sq_of hc), _, _, rfl, rfl, _, rfl, ite2 (fun e => ?_) (fun e => ?_)⟩
          · have ha : a < (ns.map V.int).length := of_decide_eq_true e
            have hb : a.toNat < ns.length := by
              rw [List.length_map] at ha
              omega
            refine ⟨_, rfl, p, _, 0, .ref c, rfl, rfl, sq_of hp, rfl, _, rfl, c, _, a, .int ns[a.toNat], rfl, rfl, sq_of hc, at_of (j := a.toNat) (by omega) ?_, _, rfl, Ex.refl _⟩
            rw [List.getElem?_map, List.getElem?_eq_getElem hb]
            rfl
          · refine ⟨_, rfl, p, _, 0, .ref c, rfl, rfl, sq_of hp, rfl, Nat.zero_le _, fun u hu => ?_⟩
            have e1 : Ex H (upd H u (.lst [])) := Ex.new hu
            refine ⟨.list (ns.map PyData.int), .list [], .lst (sq_of (e1 _ _ hc)) (dpInts ns), .lst (sq_of upd_same) .nil, shapedInts ns, shapedNil, _, rfl, ite2 (fun e => ?_) (fun e => ?_)⟩
            · have h0 : 0 < ns.length := by
                cases ns with
                | nil => exact absurd e (by decide)
                | cons x t => exact Nat.succ_pos _
              have hl : (0 : Int) < ((ns.map V.int).length : Int) := by
                rw [List.length_map]
                omega
              have g0 := Int.emod_nonneg (a * 7 + 1) (show ((ns.map V.int).length : Int) ≠ 0 by omega)
              have g1 := Int.emod_lt_of_pos (a * 7 + 1) hl
              have hb : ((a * 7 + 1) % ((ns.map V.int).length : Int)).toNat < ns.length := by
                rw [List.length_map] at g0 g1 ⊢
                omega
              refine ⟨_, rfl, p, _, 0, .ref c, rfl, rfl, sq_of (e1 _ _ hp), rfl, _, rfl, _, _, rfl, rfl, .inr ⟨by decide, by decide⟩, _, _, rfl, rfl, _, rfl, p, _, 0, .ref c, rfl, rfl, sq_of (e1 _ _ hp), rfl, c, _, rfl, .inl (sq_of (e1 _ _ hc)), _, _, rfl, rfl, hl, c, _, _, .int ns[((a * 7 + 1) % ((ns.map V.int).length : Int)).toNat], rfl, rfl, sq_of (e1 _ _ hc), at_of (j := ((a * 7 + 1) % ((ns.map V.int).length : Int)).toNat) (by omega) ?_, _, _, rfl, rfl, ⟨by decide, by decide, by decide⟩, _, rfl, _, _, rfl, rfl, .inl ⟨by decide, by decide⟩, _, _, rfl, rfl, _, _, rfl, rfl, ?_, _, rfl, e1⟩
              · rw [List.getElem?_map, List.getElem?_eq_getElem hb]
                rfl
              · show (0 : Int) < 10 ^ (17 : Int).toNat + 3 * a
                have : (10 : Int) ^ (17 : Int).toNat = 100000000000000000 := by decide
                omega
            · exact ⟨_, rfl, e1⟩
        · rintro σ' H' ⟨y3, rfl, e1⟩
          refine ⟨_, rfl, _, _, rfl, rfl, _, rfl, p, _, 1, 1, rfl, rfl, e1 _ _ hp, rfl, ?_⟩
          refine ⟨_, rfl, _, rfl, _, _, rfl, fun v => ⟨_, rfl, p, _, 2, 2, rfl, rfl, upd_same, rfl, ⟨_, _, rfl⟩, ?_, a + 1, v, by omega, upd_same, ?_⟩⟩
          · exact ((Keep.ofEx e1).at).at
          · rw [upd_ne hne, upd_ne hne]
            exact e1 _ _ hc
      · exact ⟨⟨_, _, rfl⟩, Keep.refl _ _, a, r, a0, hp, hc⟩
    · rintro σ' H' ⟨⟨y2, y3, rfl⟩, kp, a', r', a0', hp', hc'⟩
      have g0 := Int.emod_nonneg r' (show m ≠ 0 by omega)
      have g1 := Int.emod_lt_of_pos r' m0
      refine ⟨_, rfl, p, _, 2, .int r', rfl, rfl, sq_of hp', rfl, _, rfl, _, _, rfl, rfl, m0, ?_⟩
      refine ⟨_, rfl, p, _, 2, .int r', rfl, rfl, sq_of hp', rfl, _, rfl, _, _, rfl, rfl, ⟨m0, m1⟩, _, rfl, p, _, 2, 2, rfl, rfl, hp', rfl, ?_⟩
      refine ⟨_, rfl, ?_⟩
      have e : r' % m = ((r' % m).toNat : Int) := by omega
      show Q (.int (r' % m)) _
      rw [e]
      refine q _ _ (by omega) kp.at ⟨a', r' / m, a0', upd_same, ?_⟩
      rw [upd_ne hne]
      exact hc'
end
end Eh
set_option Elab.async false
set_option linter.all false
set_option maxRecDepth 100000
set_option maxHeartbeats 4000000
namespace Eh
open PySem PySem.Spec PyProof.Rows L2 Evl
/-! great words as they stand on the heap, by the word that they write -/
def All2 (R : V → List Str → Prop) : List V → List (List Str) → Prop
  | [], [] => True
  | v :: vs, W :: Ws => R v W ∧ All2 R vs Ws
  | _, _ => False
theorem All2.len {R : V → List Str → Prop} : ∀ (vs : List V) (Ws : List (List Str)), All2 R vs Ws → vs.length = Ws.length
  | [], [], _ => rfl
  | v :: vs, W :: Ws, h => congrArg Nat.succ (All2.len vs Ws h.2)
  | [], _ :: _, h => h.elim
  | _ :: _, [], h => h.elim
theorem All2.mono {R R' : V → List Str → Prop} (k : ∀ v W, R v W → R' v W) : ∀ (vs : List V) (Ws : List (List Str)), All2 R vs Ws → All2 R' vs Ws
  | [], [], _ => trivial
  | v :: vs, W :: Ws, h => ⟨k v W h.1, All2.mono k vs Ws h.2⟩
  | [], _ :: _, h => h.elim
  | _ :: _, [], h => h.elim
theorem All2.at {R : V → List Str → Prop} : ∀ (vs : List V) (Ws : List (List Str)), All2 R vs Ws → ∀ (i : Nat) v, vs[i]? = some v → ∃ W, Ws[i]? = some W ∧ R v W
  | [], [], _, i, v, e => by simp at e
  | v :: vs, W :: Ws, h, 0, x, e => ⟨W, rfl, by rw [← Option.some.inj e]; exact h.1⟩
  | v :: vs, W :: Ws, h, i + 1, x, e => All2.at vs Ws h.2 i x e
  | [], _ :: _, h, _, _, _ => h.elim
  | _ :: _, [], h, _, _, _ => h.elim
theorem All2.mem {R : V → List Str → Prop} : ∀ (vs : List V) (Ws : List (List Str)), All2 R vs Ws → ∀ W ∈ Ws, ∃ v, R v W
  | [], [], _, W, hm => (List.not_mem_nil hm).elim
  | v :: vs, W :: Ws, h, X, hm => by
    rcases List.mem_cons.mp hm with e | e
    · exact ⟨v, e ▸ h.1⟩
    · exact All2.mem vs Ws h.2 X e
  | [], _ :: _, h, _, _ => h.elim
  | _ :: _, [], h, _, _ => h.elim
theorem All2.snoc {R : V → List Str → Prop} {v : V} {W : List Str} (hv : R v W) : ∀ (vs : List V) (Ws : List (List Str)), All2 R vs Ws → All2 R (vs ++ [v]) (Ws ++ [W])
  | [], [], _ => ⟨hv, trivial⟩
  | x :: vs, X :: Ws, h => ⟨h.1, All2.snoc hv vs Ws h.2⟩
  | [], _ :: _, h => h.elim
  | _ :: _, [], h => h.elim
/-- a tuple's items xs, the parts in it, what these write, what it writes -/
inductive GS (os ls qs : List Str) (H : Hp) (R : V → List Str → Prop) : List V → List V → List (List Str) → List Str → Prop
  | word {u : Addr} {W : List Str} (hu : H u = some (.tup (W.map V.str))) (hl : W.length ≤ 60) (hm : ∀ x ∈ W, x ∈ os ++ ls ++ qs) (hb : bal os qs W 0 = some 0) : GS os ls qs H R [.str "word", .ref u] [] [] W
  | row {u : Addr} {ps : List V} {Ws : List (List Str)} (hu : H u = some (.tup ps)) (hr : All2 R ps Ws) (hl : ps.length ≤ 8) : GS os ls qs H R [.str "row", .ref u] ps Ws Ws.flatten
  | again {k : Nat} {p : V} {W : List Str} (hk : k < 2 ^ 200) (hr : R p W) : GS os ls qs H R [.str "again", .int (k : Int), p] [p] [W] (List.replicate k W).flatten
  | wrap {k : Nat} {a c : Str} {p : V} {W : List Str} (hk : k < 2 ^ 200) (ha : a ∈ os) (hc : c ∈ qs) (hr : R p W) : GS os ls qs H R [.str "wrap", .int (k : Int), .str a, p, .str c] [p] [W] (List.replicate k a ++ W ++ List.replicate k c)
theorem GS.parts {os ls qs : List Str} {H : Hp} {R : V → List Str → Prop} {xs ps : List V} {Ws : List (List Str)} {W : List Str} (h : GS os ls qs H R xs ps Ws W) : All2 R ps Ws ∧ ps.length ≤ 8 := by
  cases h with
  | word => exact ⟨trivial, Nat.zero_le _⟩
  | row hu hr hl => exact ⟨hr, hl⟩
  | again hk hr => exact ⟨⟨hr, trivial⟩, by show 1 ≤ 8; decide⟩
  | wrap hk ha hc hr => exact ⟨⟨hr, trivial⟩, by show 1 ≤ 8; decide⟩
theorem GS.keep {os ls qs : List Str} {H H' : Hp} {R R' : V → List Str → Prop} (k : ∀ b xs, H b = some (.tup xs) → H' b = some (.tup xs)) (kr : ∀ v W, R v W → R' v W) {xs ps : List V} {Ws : List (List Str)} {W : List Str} (h : GS os ls qs H R xs ps Ws W) : GS os ls qs H' R' xs ps Ws W := by
  cases h with
  | word hu hl hm hb => exact .word (k _ _ hu) hl hm hb
  | row hu hr hl => exact .row (k _ _ hu) (All2.mono kr _ _ hr) hl
  | again hk hr => exact .again hk (kr _ _ hr)
  | wrap hk ha hc hr => exact .wrap hk ha hc (kr _ _ hr)
/-- a great word, at most n within one another -/
def GAt (os ls qs : List Str) (H : Hp) : Nat → V → List Str → Prop
  | 0, _, _ => False
  | n + 1, v, W => ∃ t xs ps Ws, v = .ref t ∧ H t = some (.tup xs) ∧ GS os ls qs H (GAt os ls qs H n) xs ps Ws W
theorem GAt.keep {os ls qs : List Str} {H H' : Hp} (k : ∀ b xs, H b = some (.tup xs) → H' b = some (.tup xs)) : ∀ (n : Nat) (v : V) (W : List Str), GAt os ls qs H n v W → GAt os ls qs H' n v W
  | 0, _, _, h => h
  | n + 1, v, W, ⟨t, xs, ps, Ws, e, ht, hg⟩ => ⟨t, xs, ps, Ws, e, k _ _ ht, hg.keep k (GAt.keep k n)⟩
theorem GAt.ex {os ls qs : List Str} {H H' : Hp} (e : Ex H H') {n : Nat} {v : V} {W : List Str} (h : GAt os ls qs H n v W) : GAt os ls qs H' n v W := GAt.keep (fun b xs z => e b _ z) n v W h
theorem GAt.kp {os ls qs : List Str} {p c : Addr} {ns : List Int} {H H' : Hp} (hP : Pot p c ns H) (e : Keep p H H') {n : Nat} {v : V} {W : List Str} (h : GAt os ls qs H n v W) : GAt os ls qs H' n v W := GAt.keep (fun b xs z => e b _ (hP.ne_tup z) z) n v W h
theorem GAt.up {os ls qs : List Str} {H : Hp} : ∀ (n : Nat) (v : V) (W : List Str), GAt os ls qs H n v W → GAt os ls qs H (n + 1) v W
  | 0, _, _, h => h.elim
  | n + 1, v, W, ⟨t, xs, ps, Ws, e, ht, hg⟩ => ⟨t, xs, ps, Ws, e, ht, hg.keep (fun _ _ z => z) (GAt.up n)⟩
theorem GAt.le {os ls qs : List Str} {H : Hp} {n m : Nat} (h : n ≤ m) {v : V} {W : List Str} (e : GAt os ls qs H n v W) : GAt os ls qs H m v W := by
  induction h with
  | refl => exact e
  | step _ ih => exact GAt.up _ _ _ ih
theorem flat_len (Ws : List (List Str)) : Ws.flatten.length = (Ws.map List.length).sum := by
  induction Ws with
  | nil => rfl
  | cons x r ih => rw [List.flatten_cons, List.length_append, List.map_cons, List.sum_cons, ih]
theorem rep_len (k : Nat) (W : List Str) : (List.replicate k W).flatten.length = k * W.length := by
  rw [flat_len, List.map_replicate, List.sum_replicate_nat]
theorem sum_lt {B : Nat} (Ws : List (List Str)) (h : ∀ W ∈ Ws, W.length ≤ B) : (Ws.map List.length).sum ≤ Ws.length * B := by
  induction Ws with
  | nil => exact Nat.zero_le _
  | cons x r ih =>
    rw [List.map_cons, List.sum_cons, List.length_cons, Nat.succ_mul]
    have h1 := h x (List.mem_cons_self ..)
    have h2 := ih fun W hW => h W (List.mem_cons_of_mem _ hW)
    omega
theorem GAt.bits {os ls qs : List Str} {H : Hp} : ∀ (n : Nat) (v : V) (W : List Str), GAt os ls qs H n v W → W.length < 2 ^ (300 * n)
  | 0, _, _, h => h.elim
  | n + 1, v, W, ⟨t, xs, ps, Ws, e, ht, hg⟩ => by
    have e1 : 2 ^ (300 * (n + 1)) = 2 ^ 300 * 2 ^ (300 * n) := by rw [← Nat.pow_add]; congr 1; omega
    have p1 : 1 ≤ 2 ^ (300 * n) := Nat.one_le_two_pow
    rw [e1]
    generalize hB : 2 ^ (300 * n) = B at p1
    have ih : ∀ v W, GAt os ls qs H n v W → W.length ≤ B := fun v W h => by have := GAt.bits n v W h; omega
    have c1 : (2 : Nat) ^ 300 = 2037035976334486086268445688409378161051468393665936250636140449354381299763336706183397376 := by decide +kernel
    have c2 : (2 : Nat) ^ 200 = 1606938044258990275541962092341162602522202993782792835301376 := by decide +kernel
    rw [c1]
    cases hg with
    | word hu hl hm hb => omega
    | row hu hr hl =>
      rw [flat_len]
      have h1 := sum_lt (B := B) Ws fun W hW => by
        obtain ⟨v, hv⟩ := All2.mem _ _ hr W hW
        exact ih v W hv
      rw [← All2.len _ _ hr] at h1
      have h2 := Nat.mul_le_mul_right B hl
      omega
    | again hk hr =>
      rw [c2] at hk
      rw [rep_len]
      have h1 := Nat.mul_le_mul (Nat.le_of_lt hk) (ih _ _ hr)
      omega
    | wrap hk ha hc hr =>
      rw [c2] at hk
      rw [List.length_append, List.length_append, List.length_replicate, List.length_replicate]
      have := ih _ _ hr
      omega
theorem given_true (n : Nat) (v : Nat → V) : given n (fun _ => true) v = (List.range n).map v := by
  unfold given
  rw [List.filter_eq_self.mpr (fun _ _ => rfl)]
theorem ev_sumN {K : PySem.W.Frag} {ta : TE} {σ : L2.St} {H : Hp} {xs : List V} {ns : List Int} (ha : EvL ta σ H xs) (hx : xs = ns.map V.int) : Ev (tCB (rSum K) (tCons ta tNil)) σ H (.int ns.sum) := fun H1 e Q q =>
  ha H1 e _ fun p H2 _ e2 h2 => ⟨p, ns, rfl, sq_of (by rw [← hx]; exact h2), q H2 e2⟩
theorem ev_yes {σ : L2.St} {H : Hp} : EvT tYes σ H true := fun H1 _ _ q => q H1 (Ex.refl H1)
section
variable {P : Program} {w : World} {K : PySem.W.Frag} {mg : Str → Option Value} {base : Heap}
/-- a def that nobody may call so -/
theorem fn_no {CX : CXT} {k : Nat} {f : Addr} {fd : FuncData} {ps : List Str} {sp : Sp} (h : ∀ vs H Q E, sp vs H Q E → False) : FnOk P w K mg base CX k f fd ps sp := ⟨fun _ _ _ _ z => (h _ _ _ _ z).elim, fun _ _ _ _ _ _ _ _ _ _ _ _ _ z => (h _ _ _ _ z).elim⟩
end
end Eh
set_option Elab.async false
set_option linter.all false
set_option maxRecDepth 100000
set_option maxHeartbeats 4000000
namespace Eh
open PySem PySem.Spec PyProof.Rows L2 Evl
abbrev nPartsIn : List Str := ["great"]
theorem scPartsIn : FnScope nPartsIn ["great"] (defScope sPartsIn) := ⟨rfl, rfl, rfl, by decide +kernel, rfl, by decide +kernel, by decide +kernel⟩
abbrev nLengthOf : List Str := ["great", "within", "part"]
theorem scLengthOf : FnScope nLengthOf ["great"] (defScope sLengthOf) := ⟨rfl, rfl, rfl, by decide +kernel, rfl, by decide +kernel, by decide +kernel⟩
theorem ev_tag {K : PySem.W.Frag} {σ : L2.St} {H : Hp} {t : Addr} {s z : Str} {r : List V} (h0 : σ[0]? = some (some (.ref t))) (ht : H t = some (.tup (.str s :: r))) : EvT (tTest (tOp rEq (tOp (rIxT K) (tVar 0) (tC (.int 0))) (tC (.str z)))) σ H (decide (V.str s = .str z)) :=
  et_test (ev_op (ev_op (ev_var h0) ev_c (rv_ixT (st_of ht) (show atI (V.str s :: r) ((0 : Nat) : Int) = some (V.str s) from atI_nat rfl))) ev_c (rv_eq rfl))
theorem ev_it {K : PySem.W.Frag} {σ : L2.St} {H : Hp} {t : Addr} {xs : List V} {i : Nat} {v : V} (h0 : σ[0]? = some (some (.ref t))) (ht : H t = some (.tup xs)) (hv : xs[i]? = some v) : Ev (tOp (rIxT K) (tVar 0) (tC (.int (i : Int)))) σ H v :=
  ev_op (ev_var h0) ev_c (rv_ixT (st_of ht) (atI_nat hv))
/-- what parts_in tells -/
def spParts (os ls qs : List Str) : Sp := fun vs H Q _ => ∃ (R : V → List Str → Prop) (t : Addr) (xs ps : List V) (Ws : List (List Str)) (W : List Str), vs = [.ref t] ∧ H t = some (.tup xs) ∧ GS os ls qs H R xs ps Ws W ∧ RetL ps H Q
def spLen (os ls qs : List Str) (n : Nat) : Sp := fun vs H Q _ => ∃ (v : V) (W : List Str), vs = [v] ∧ GAt os ls qs H n v W ∧ n ≤ 20 ∧ RetV (.int (W.length : Int)) H Q
theorem sumsI (Ws : List (List Str)) : (Ws.map fun W => (W.length : Int)).sum = ((Ws.map List.length).sum : Nat) := by
  induction Ws with
  | nil => rfl
  | cons x r ih =>
    rw [List.map_cons, List.map_cons, List.sum_cons, List.sum_cons, ih]
    omega
theorem range_get (Ws : List (List Str)) (g : List Str → V) : (List.range Ws.length).map (fun i => g (Ws.getD i [])) = Ws.map g := by
  apply List.ext_getElem
  · rw [List.length_map, List.length_range, List.length_map]
  · intro i h1 h2
    rw [List.length_map] at h2
    rw [List.getElem_map, List.getElem_range, List.getElem_map, List.getD_eq_getElem?_getD, List.getElem?_eq_getElem h2]
    rfl
section
variable {P : Program} {w : World} {K : PySem.W.Frag} {mg : Str → Option Value} {base : Heap} {os ls qs : List Str}
theorem ok_partsIn {f : Addr} {fd : FuncData} {k : Nat} (F : Fun K "parts_in" "parts_in" sPartsIn f fd) (mlist : mg "list" = none) : FnOk P w K mg base CX0 (k + 1) f fd ["great"] (spParts os ls qs) := by
  have nd := scPartsIn.nd
  refine F.ok scPartsIn (fun vs H Q E h => ?_) (fun cdv A outer s H vs Q E hr h => ?_)
  · obtain ⟨R, t, xs, ps, Ws, W, rfl, _⟩ := h
    rfl
  · obtain ⟨R, t, xs, ps, Ws, W, rfl, ht, hg, q⟩ := h
    refine ⟨_, (pss_cons (ps_if (pt_cmpR op_eq (pe_ix ix_tup (pv 0) pe_int (fun _ _ => rfl)) pe_str (nomark _)) (pss_one (ps_ret (pe_lst pa_nil))) pss_nil)
      (pss_cons (ps_if (pt_cmpR op_eq (pe_ix ix_tup (pv 0) pe_int (fun _ _ => rfl)) pe_str (nomark _)) (pss_one (ps_ret (pe_callTy call_list_of (by rfl) mlist (by decide +kernel) (pa_cons (pe_ix ix_tup (pv 0) pe_int (fun _ _ => rfl)) pa_nil)))) pss_nil)
      (pss_one (ps_ret (pe_ifExp (pt_cmpR op_eq (pe_ix ix_tup (pv 0) pe_int (fun _ _ => rfl)) pe_str (nomark _)) (pe_lst (pa_cons (pe_ix ix_tup (pv 0) pe_int (fun _ _ => rfl)) pa_nil)) (pe_lst (pa_cons (pe_ix ix_tup (pv 0) pe_int (fun _ _ => rfl)) pa_nil))))))), ?_⟩
    cases hg with
    | word hu hl hm hb => exact q_when (ev_tag rfl ht) (fun _ H1 e1 => s_retL (el_lst ea_nil (by decide)) fun p H2 hp e2 h2 => q.go e1 hp e2 h2) (fun h => absurd h (by decide))
    | row hu hr hl =>
      refine q_when (ev_tag rfl ht) (fun h => absurd h (by decide)) fun _ H1 e1 => q_when (ev_tag rfl (e1 _ _ ht)) (fun _ H2 e2 => ?_) (fun h => absurd h (by decide))
      have e12 := e1.trans e2
      refine ev_it (i := 1) rfl (e12 _ _ ht) rfl H2 (Ex.refl _) _ fun H3 e3 => ⟨_, ps, rfl, .inr (st_of (e3 _ _ (e12 _ _ hu))), fun l nl => q.go (e12.trans e3) nl (Ex.new nl) upd_same⟩
    | again hk hr =>
      refine q_when (ev_tag rfl ht) (fun h => absurd h (by decide)) fun _ H1 e1 => q_when (ev_tag rfl (e1 _ _ ht)) (fun h => absurd h (by decide)) fun _ H2 e2 => ?_
      have e12 := e1.trans e2
      refine ev_tag rfl (e12 _ _ ht) H2 (Ex.refl _) _ fun H3 e3 => iteT (el_lst (ea_cons (ev_it (i := 2) rfl (e12 _ _ ht) rfl) ea_nil) (by show 1 ≤ 100000; decide) H3 e3 _ fun p H4 hp e4 h4 => q.go (e12.trans e3) hp e4 h4)
    | wrap hk ha hc hr =>
      refine q_when (ev_tag rfl ht) (fun h => absurd h (by decide)) fun _ H1 e1 => q_when (ev_tag rfl (e1 _ _ ht)) (fun h => absurd h (by decide)) fun _ H2 e2 => ?_
      have e12 := e1.trans e2
      refine ev_tag rfl (e12 _ _ ht) H2 (Ex.refl _) _ fun H3 e3 => iteF (el_lst (ea_cons (ev_it (i := 3) rfl (e12 _ _ ht) rfl) ea_nil) (by show 1 ≤ 100000; decide) H3 e3 _ fun p H4 hp e4 h4 => q.go (e12.trans e3) hp e4 h4)
/-- the parts as told -/
theorem el_parts {σ : L2.St} {H : Hp} {t : Addr} {xs ps : List V} {Ws : List (List Str)} {W : List Str} {R : V → List Str → Prop} (kr : ∀ H', Ex H H' → GS os ls qs H' R xs ps Ws W) (h0 : σ[0]? = some (some (.ref t))) (ht : H t = some (.tup xs)) : EvL (tCall (spParts os ls qs) [] E0 (tCons (tVar 0) tNil)) σ H ps :=
  el_call (ea_cons (ev_var h0) ea_nil) fun H1 e1 Q q E => ⟨R, t, xs, ps, Ws, W, rfl, e1 _ _ ht, kr H1 e1, fun p H2 hp e2 h2 => q p H2 hp e2 h2⟩
theorem GS.ofR {n : Nat} {H : Hp} {xs ps : List V} {Ws : List (List Str)} {W : List Str} (hg : GS os ls qs H (GAt os ls qs H n) xs ps Ws W) : ∀ H', Ex H H' → GS os ls qs H' (GAt os ls qs H n) xs ps Ws W := fun H' e => hg.keep (fun b xs z => e b _ z) fun _ _ z => z
theorem ev_within {n : Nat} {σ : L2.St} {H : Hp} {t : Addr} {xs ps : List V} {Ws : List (List Str)} {W : List Str} (hn : n ≤ 20) (h0 : σ[0]? = some (some (.ref t))) (hs : σ.length = 3) (ht : H t = some (.tup xs)) (hg : GS os ls qs H (GAt os ls qs H n) xs ps Ws W) :
    Ev (tCB (rSum K) (tCons (tLc (iList K (tCall (spParts os ls qs) [] E0 (tCons (tVar 0) tNil))) (gName 2) tYes (tCall (spLen os ls qs n) [] E0 (tCons (tVar 2) tNil)) [2]) tNil)) σ H (.int ((Ws.map List.length).sum : Nat)) := by
  obtain ⟨hp, h8⟩ := hg.parts
  have hl := All2.len _ _ hp
  have hx : ∀ x : V, wipe ((wipe σ [2]).set 2 (some x)) [2] = wipe σ [2] := fun x => by
    obtain ⟨a, b, c, rfl⟩ : ∃ a b c, σ = [a, b, c] := by
      match σ, hs with
      | [a, b, c], _ => exact ⟨a, b, c, rfl⟩
    rfl
  have h2 : ∀ x : V, ((wipe σ [2]).set 2 (some x))[2]? = some (some x) := fun x => by
    obtain ⟨a, b, c, rfl⟩ : ∃ a b c, σ = [a, b, c] := by
      match σ, hs with
      | [a, b, c], _ => exact ⟨a, b, c, rfl⟩
    rfl
  have key := el_lcNL (K := K) (t := tYes) (te := tCall (spLen os ls qs n) [] E0 (tCons (tVar 2) tNil)) (j := 2) (vs := [2]) (fun _ => true) (fun i => .int ((Ws.getD i []).length : Int)) (el_parts hg.ofR h0 ht) (by omega) hx (fun i x H1 e1 hi => ev_yes) (fun i x H1 e1 hi _ => ?_)
  · have := ev_sumN (K := K) (ns := Ws.map fun W => (W.length : Int)) key (by rw [given_true, hl, range_get Ws fun W => V.int (W.length : Int), List.map_map]; rfl)
    rw [sumsI] at this
    exact this
  · obtain ⟨W', hW, hR⟩ := All2.at _ _ hp i x hi
    refine ev_call (ea_cons (ev_var (h2 x)) ea_nil) fun H2 e2 Q q E => ⟨x, W', rfl, hR.ex (e1.trans e2), hn, fun H3 e3 => ?_⟩
    have e : Ws.getD i [] = W' := by rw [List.getD_eq_getElem?_getD, hW]; rfl
    have := q H3 e3
    rw [e] at this
    exact this
theorem log_of {i : Nat} {a : Nat} (h : i < 2 ^ a) (h0 : 0 < a) : (i : Int).natAbs.log2 < a := PySem.Flt.log2_lt_of h0 (by rw [Int.natAbs_natCast]; exact h)
theorem mulW_of {i j n : Nat} (hi : i < 2 ^ 200) (hj : j < 2 ^ (300 * n)) (hn : n ≤ 20) : CMulW (i : Int) (j : Int) := by
  have h1 := log_of hi (by decide)
  have h2 : (j : Int).natAbs.log2 < 300 * n + 1 := log_of (Nat.lt_of_lt_of_le hj (Nat.pow_le_pow_right (by decide) (by omega))) (by omega)
  unfold CMulW
  omega
theorem ok_lengthOf {f fp : Addr} {fd fdp : FuncData} (Flength_of : Fun K "length_of" "length_of" sLengthOf f fd) (blength_of : Binds K fd ["great"] []) (glength_of : mg "length_of" = some (.ref f)) (Fparts_in : Fun K "parts_in" "parts_in" sPartsIn fp fdp) (bparts_in : Binds K fdp ["great"] []) (gparts_in : mg "parts_in" = some (.ref fp)) (mlist : mg "list" = none) (mlen : mg "len" = none) (msum : mg "sum" = none) : ∀ (n k : Nat), FnOk P w K mg base CX0 (k + n + 1) f fd ["great"] (spLen os ls qs n)
  | 0, k => fn_no fun vs H Q E ⟨_, _, _, h, _⟩ => h
  | n + 1, k => by
    have nd := scLengthOf.nd
    have Glength_of : FnOk P w K mg base CX0 (k + n + 1) f fd ["great"] (spLen os ls qs n) := ok_lengthOf Flength_of blength_of glength_of Fparts_in bparts_in gparts_in mlist mlen msum n k
    have Gparts_in : FnOk P w K mg base CX0 (k + n + 1) fp fdp ["great"] (spParts os ls qs) := ok_partsIn Fparts_in mlist
    refine Flength_of.ok scLengthOf (fun vs H Q E h => ?_) (fun cdv A outer s H vs Q E hr h => ?_)
    · obtain ⟨v, W, rfl, _⟩ := h
      rfl
    · obtain ⟨v, W, rfl, hG, hn, q⟩ := h
      refine ⟨_, (pss_cons (ps_if (pt_cmpR op_eq (pe_ix ix_tup (pv 0) pe_int (fun _ _ => rfl)) pe_str (nomark _)) (pss_one (ps_ret (pe_callB call_len_seq (by rfl) mlen PySem.boot_len (pa_cons (pe_ix ix_tup (pv 0) pe_int (fun _ _ => rfl)) pa_nil)))) pss_nil)
      (pss_cons (ps_set (i := 1) nd rfl (.inl rfl) (pe_callB (cr_sum rfl) (by rfl) msum (by decide +kernel) (pa_cons (pe_lc (own := [("part", 2)]) (g := gName 2) (tt := tYes) (te := (tCall (spLen os ls qs n) [] E0 (tCons (tVar 2) tNil))) rfl nd (pi_list (pe_call Gparts_in hr (by rfl) gparts_in Fparts_in.kp bparts_in .nil pass0 (pa_cons (pv 0) pa_nil))) (blkOk_by (own := [("part", 2)]) (N := nLengthOf) (sc := defScope sLengthOf) (by decide +kernel)) (fun _ _ _ _ _ => pg_name (i := 2) nd rfl (.inl rfl)) (fun _ _ _ _ _ => pts_nil) (fun _ _ _ _ _ => (pe_call Glength_of hr (by rfl) glength_of Flength_of.kp blength_of .nil pass0 (pa_cons (pv 2) pa_nil)))) pa_nil)))
      (pss_cons (ps_if (pt_cmpR op_eq (pe_ix ix_tup (pv 0) pe_int (fun _ _ => rfl)) pe_str (nomark _)) (pss_one (ps_ret (pe_op op_mulW (pe_ix ix_tup (pv 0) pe_int (fun _ _ => rfl)) (pv 1)))) pss_nil)
      (pss_cons (ps_if (pt_cmpR op_eq (pe_ix ix_tup (pv 0) pe_int (fun _ _ => rfl)) pe_str (nomark _)) (pss_one (ps_ret (pe_op op_add (pe_op op_mulW pe_int (pe_ix ix_tup (pv 0) pe_int (fun _ _ => rfl))) (pv 1)))) pss_nil)
      (pss_one (ps_ret (pv 1))))))), ?_⟩
      obtain ⟨t, xs, ps, Ws, rfl, ht, hg⟩ := hG
      have mid : ∀ {s : Str} {r : List V} (H1 : Hp), xs = .str s :: r → Ex H H1 → _ := fun {s r} H1 hx e1 => ev_within (K := K) (σ := [some (.ref t), none, none]) (show n ≤ 20 by omega) rfl rfl (e1 _ _ ht) (hg.keep (R' := GAt os ls qs H1 n) (fun b xs z => e1 b _ z) fun v W z => z.ex e1)
      cases hg with
      | word hu hl hm hb =>
        refine q_when (ev_tag rfl ht) (fun _ H1 e1 => ?_) (fun h => absurd h (by decide))
        refine ev_it (i := 1) rfl (e1 _ _ ht) rfl H1 (Ex.refl _) _ fun H2 e2 => ⟨_, _, rfl, .inr (st_of (e2 _ _ (e1 _ _ hu))), ?_⟩
        rw [List.length_map]
        exact q.go (e1.trans e2)
      | row hu hr hl =>
        refine q_when (ev_tag rfl ht) (fun h => absurd h (by decide)) fun _ H1 e1 => q_asg (mid H1 rfl e1) fun H2 e2 => ?_
        have e12 := e1.trans e2
        refine q_when (ev_tag rfl (e12 _ _ ht)) (fun h => absurd h (by decide)) fun _ H3 e3 => q_when (ev_tag rfl ((e12.trans e3) _ _ ht)) (fun h => absurd h (by decide)) fun _ H4 e4 => s_ret (ev_var rfl) fun H5 e5 => ?_
        rw [← flat_len]
        exact q.go (((e12.trans e3).trans e4).trans e5)
      | again hk hr =>
        rename_i k' p W
        refine q_when (ev_tag rfl ht) (fun h => absurd h (by decide)) fun _ H1 e1 => q_asg (mid H1 rfl e1) fun H2 e2 => ?_
        have e12 := e1.trans e2
        refine q_when (ev_tag rfl (e12 _ _ ht)) (fun _ H3 e3 => ?_) (fun h => absurd h (by decide))
        refine s_ret (ev_op (ev_it (i := 1) rfl ((e12.trans e3) _ _ ht) rfl) (ev_var rfl) (rv_I (mulW_of hk ?_ (show n ≤ 20 by omega)))) fun H4 e4 => ?_
        · show W.length + 0 < _
          exact GAt.bits _ _ _ hr
        · have e : ((k' : Int) * (((([W] : List (List Str)).map List.length).sum : Nat) : Int)) = ((List.replicate k' W).flatten.length : Nat) := by
            rw [rep_len, Int.natCast_mul]
            rfl
          show Q (.int ((k' : Int) * (((([W] : List (List Str)).map List.length).sum : Nat) : Int))) H4
          rw [e]
          exact q.go ((e12.trans e3).trans e4)
      | wrap hk ha hc hr =>
        rename_i k' a c p W
        refine q_when (ev_tag rfl ht) (fun h => absurd h (by decide)) fun _ H1 e1 => q_asg (mid H1 rfl e1) fun H2 e2 => ?_
        have e12 := e1.trans e2
        refine q_when (ev_tag rfl (e12 _ _ ht)) (fun h => absurd h (by decide)) fun _ H3 e3 => ?_
        have e13 := e12.trans e3
        refine q_when (ev_tag rfl (e13 _ _ ht)) (fun _ H4 e4 => ?_) (fun h => absurd h (by decide))
        refine s_ret (ev_op (ev_op ev_c (ev_it (i := 1) rfl ((e13.trans e4) _ _ ht) rfl) (rv_I (mulW_of (i := 2) (n := 1) (by decide) (Nat.lt_trans hk (Nat.pow_lt_pow_right (by decide) (by decide))) (by decide)))) (ev_var rfl) rv_I0) fun H5 e5 => ?_
        have e : (2 * (k' : Int) + (((([W] : List (List Str)).map List.length).sum : Nat) : Int)) = ((List.replicate k' a ++ W ++ List.replicate k' c).length : Nat) := by
          rw [List.length_append, List.length_append, List.length_replicate, List.length_replicate]
          show 2 * (k' : Int) + ((W.length + 0 : Nat) : Int) = _
          omega
        show Q (.int (2 * (k' : Int) + (((([W] : List (List Str)).map List.length).sum : Nat) : Int))) H5
        rw [e]
        exact q.go ((e13.trans e4).trans e5)
end
end Eh
set_option Elab.async false
set_option linter.all false
set_option maxRecDepth 100000
set_option maxHeartbeats 4000000
namespace Eh
open PySem PySem.Spec PyProof.Rows L2 Evl
/-! what answers what in a part of a word -/
theorem bal_take {os qs : List Str} {G : List Str} (hb : bal os qs G 0 = some 0) : ∀ i, i ≤ G.length → bal os qs (G.take i) 0 = some (run (kfOf os qs G) G.length i).2.length
  | 0, _ => rfl
  | i + 1, hi => by
    have ih := bal_take hb i (by omega)
    have hi' : i < G.length := by omega
    have e1 : G.take (i + 1) = G.take i ++ [G[i]] := by rw [List.take_succ, List.getElem?_eq_getElem hi']; rfl
    have e2 : G = G.take i ++ G.drop i := (List.take_append_drop i G).symm
    have e3 : G.drop i = G[i] :: G.drop (i + 1) := List.drop_eq_getElem_cons hi'
    have kk : kfOf os qs G i = kdOf os qs G[i] := kfOf_at (List.getElem?_eq_getElem hi')
    rw [e1, bal_app, ih]
    show bal os qs [G[i]] (run (kfOf os qs G) G.length i).2.length = some (step (kfOf os qs G) i (run (kfOf os qs G) G.length i)).2.length
    have hb2 : ((bal os qs (G.take i) 0).bind (bal os qs (G.drop i))) = some 0 := by rw [← bal_app, ← e2]; exact hb
    rw [ih, e3] at hb2
    replace hb2 : bal os qs (G[i] :: G.drop (i + 1)) (run (kfOf os qs G) G.length i).2.length = some 0 := hb2
    unfold step
    rw [kk]
    unfold bal at hb2 ⊢
    cases h : kdOf os qs G[i] with
    | op => rfl
    | pl => rfl
    | cl =>
      rw [h] at hb2
      cases hs : (run (kfOf os qs G) G.length i).2 with
      | nil =>
        rw [hs] at hb2
        cases hb2
      | cons b r => rfl
theorem tv_set2 {t : List (Option Nat)} {a b : Nat} {u v : Option Nat} (ha : a < t.length) (hb : b < t.length) (j : Nat) : tv ((t.set b v).set a u) j = if j = a then u else if j = b then v else tv t j := by
  rw [tv_set (by rw [List.length_set]; exact ha), tv_set hb]
theorem sim {os qs : List Str} {kf : Nat → Kd} {n s : Nat} {G : List Str} (hb : bal os qs G 0 = some 0) (hk : ∀ i, i < G.length → kf (s + i) = kfOf os qs G i) (hn : s + G.length ≤ n) :
    ∀ i, i ≤ G.length → (run kf n (s + i)).2 = (run (kfOf os qs G) G.length i).2.map (· + s) ++ (run kf n s).2 ∧ ∀ j, j < G.length → tv (run kf n (s + i)).1 (s + j) = (tv (run (kfOf os qs G) G.length i).1 j).map (· + s)
  | 0, _ => by
    refine ⟨rfl, fun j hj => ?_⟩
    have g1 := (good_run kf n s (by omega)).hi (s + j) (by omega)
    have g2 := (good_run (kfOf os qs G) G.length 0 (by omega)).hi j (by omega)
    show tv (run kf n s).1 (s + j) = _
    rw [g1, g2]
    rfl
  | i + 1, hi => by
    obtain ⟨ih1, ih2⟩ := sim hb hk hn i (by omega)
    have g1 := good_run kf n (s + i) (by omega)
    have g2 := good_run (kfOf os qs G) G.length i (by omega)
    have hbt := bal_take hb (i + 1) hi
    have kk := hk i (by omega)
    show (step kf (s + i) (run kf n (s + i))).2 = (step (kfOf os qs G) i (run (kfOf os qs G) G.length i)).2.map (· + s) ++ (run kf n s).2 ∧ ∀ j, j < G.length → tv (step kf (s + i) (run kf n (s + i))).1 (s + j) = (tv (step (kfOf os qs G) i (run (kfOf os qs G) G.length i)).1 j).map (· + s)
    have hne : kfOf os qs G i = .cl → (run (kfOf os qs G) G.length i).2 ≠ [] := fun hc hnil => by
      have ht := bal_take hb i (by omega)
      rw [hnil] at ht
      have hi' : i < G.length := by omega
      have e1 : G.take (i + 1) = G.take i ++ [G[i]] := by rw [List.take_succ, List.getElem?_eq_getElem hi']; rfl
      rw [e1, bal_app, ht] at hbt
      have kk2 : kfOf os qs G i = kdOf os qs G[i] := kfOf_at (List.getElem?_eq_getElem hi')
      rw [kk2] at hc
      replace hbt : bal os qs [G[i]] 0 = _ := hbt
      unfold bal at hbt
      rw [hc] at hbt
      cases hbt
    generalize run kf n (s + i) = S at ih1 ih2 g1 ⊢
    generalize run (kfOf os qs G) G.length i = S' at ih1 ih2 g2 hne ⊢
    obtain ⟨t, st⟩ := S
    obtain ⟨t', st'⟩ := S'
    replace g1 : Good kf n (s + i) t st := g1
    replace g2 : Good (kfOf os qs G) G.length i t' st' := g2
    replace ih1 : st = st'.map (· + s) ++ (run kf n s).2 := ih1
    replace ih2 : ∀ j, j < G.length → tv t (s + j) = (tv t' j).map (· + s) := ih2
    unfold step
    rw [kk]
    cases hc : kfOf os qs G i with
    | op =>
      refine ⟨?_, ih2⟩
      show (s + i) :: st = ((i :: st').map (· + s)) ++ _
      rw [ih1, List.map_cons, Nat.add_comm i s]
      rfl
    | pl => exact ⟨ih1, ih2⟩
    | cl =>
      cases st' with
      | nil => exact absurd rfl (hne hc)
      | cons b r =>
        rw [ih1]
        have hb1 : b < i := (g2.bd b (List.mem_cons_self ..)).1
        refine ⟨rfl, fun j hj => ?_⟩
        show tv ((t.set (b + s) (some (s + i))).set (s + i) (some (b + s))) (s + j) = (tv ((t'.set b (some i)).set i (some b)) j).map (· + s)
        have l1 := g1.len
        have l2 := g2.len
        rw [tv_set2 (t := t) (by omega) (by omega), tv_set2 (t := t') (by omega) (by omega)]
        by_cases e1 : j = i
        · subst e1
          rw [if_pos rfl, if_pos rfl]
          rfl
        · rw [if_neg (by omega), if_neg e1]
          by_cases e2 : j = b
          · subst e2
            rw [if_pos (by omega), if_pos rfl]
            show some (s + i) = some (i + s)
            rw [Nat.add_comm]
          · rw [if_neg (by omega), if_neg e2]
            exact ih2 j hj
theorem st_end {os qs : List Str} {G : List Str} (hb : bal os qs G 0 = some 0) : (run (kfOf os qs G) G.length G.length).2 = [] := by
  have := bal_take hb G.length (Nat.le_refl _)
  rw [List.take_length, hb] at this
  exact List.length_eq_zero_iff.mp (Option.some.inj this).symm
theorem kf_mid {os qs A G B : List Str} {i : Nat} (hi : i < G.length) : kfOf os qs (A ++ G ++ B) (A.length + i) = kfOf os qs G i := by
  unfold kfOf
  rw [List.getElem?_append_left (by rw [List.length_append]; omega), List.getElem?_append_right (by omega), Nat.add_sub_cancel_left]
/-- in a balanced part what answers is as in it alone -/
theorem ans_mid {os qs A G B : List Str} (hb : bal os qs G 0 = some 0) {i : Nat} (hi : i < G.length) : tv (ansOf os qs (A ++ G ++ B)) (A.length + i) = (tv (ansOf os qs G) i).map (· + A.length) := by
  have hn : (A ++ G ++ B).length = A.length + G.length + B.length := by rw [List.length_append, List.length_append]
  obtain ⟨s1, s2⟩ := sim (kf := kfOf os qs (A ++ G ++ B)) (n := (A ++ G ++ B).length) (s := A.length) hb (fun i hi => kf_mid hi) (by omega) G.length (Nat.le_refl _)
  have h2 := s2 i hi
  have later := run_later (kfOf os qs (A ++ G ++ B)) (A ++ G ++ B).length (A.length + G.length) (A.length + i) B.length (by omega)
  have gG := good_run (kfOf os qs G) G.length G.length (Nat.le_refl _)
  have gW := good_run (kfOf os qs (A ++ G ++ B)) (A ++ G ++ B).length (A ++ G ++ B).length (Nat.le_refl _)
  have e0 : A.length + G.length + B.length = (A ++ G ++ B).length := hn.symm
  rw [e0] at later
  show tv (run (kfOf os qs (A ++ G ++ B)) (A ++ G ++ B).length (A ++ G ++ B).length).1 (A.length + i) = (tv (run (kfOf os qs G) G.length G.length).1 i).map (· + A.length)
  cases hg : tv (run (kfOf os qs G) G.length G.length).1 i with
  | some m =>
    rw [hg] at h2
    exact later.1 _ h2
  | none =>
    rw [hg] at h2
    cases hw : tv (run (kfOf os qs (A ++ G ++ B)) (A ++ G ++ B).length (A ++ G ++ B).length).1 (A.length + i) with
    | none => rfl
    | some m =>
      exfalso
      rcases later.2 (by omega) h2 with z | ⟨m', hm', z⟩
      · rw [hw] at z
        cases z
      · obtain ⟨p1, p2, p3, p4⟩ := gW.pr _ _ z
        rcases p4 with ⟨k1, k2, k3, k4⟩ | ⟨k1, k2, k3, k4⟩
        · rw [kf_mid hi] at k1
          have := gG.opn i hi k1 hg
          rw [st_end hb] at this
          exact List.not_mem_nil this
        · omega
theorem ans_wrap1 {os ps qs : List Str} (hS : Sht os ps qs) {a c : Str} (ha : a ∈ os) (hc : c ∈ qs) {G : List Str} (hb : bal os qs G 0 = some 0) : tv (ansOf os qs ([a] ++ G ++ [c])) 0 = some (G.length + 1) := by
  have hn : ([a] ++ G ++ [c]).length = G.length + 2 := by rw [List.length_append, List.length_append]; show 1 + G.length + 1 = _; omega
  obtain ⟨s1, _⟩ := sim (kf := kfOf os qs ([a] ++ G ++ [c])) (n := ([a] ++ G ++ [c]).length) (s := [a].length) hb (fun i hi => kf_mid hi) (by rw [hn]; show 1 + G.length ≤ _; omega) G.length (Nat.le_refl _)
  rw [st_end hb] at s1
  have k0 : kfOf os qs ([a] ++ G ++ [c]) 0 = .op := by
    rw [kfOf_at (x := a) rfl]
    exact kd_op.mpr ha
  have kc : kfOf os qs ([a] ++ G ++ [c]) (1 + G.length) = .cl := by
    rw [kfOf_at (x := c) (by rw [List.getElem?_append_right (by rw [List.length_append]; exact Nat.le_refl _), List.length_append]; show [c][1 + G.length - (1 + G.length)]? = _; rw [Nat.sub_self]; rfl)]
    exact (kd_cl hS).mpr hc
  have g := good_run (kfOf os qs ([a] ++ G ++ [c])) ([a] ++ G ++ [c]).length (1 + G.length) (by omega)
  show tv (run (kfOf os qs ([a] ++ G ++ [c])) ([a] ++ G ++ [c]).length ([a] ++ G ++ [c]).length).1 0 = _
  rw [show run (kfOf os qs ([a] ++ G ++ [c])) ([a] ++ G ++ [c]).length ([a] ++ G ++ [c]).length = step (kfOf os qs ([a] ++ G ++ [c])) (1 + G.length) (run (kfOf os qs ([a] ++ G ++ [c])) ([a] ++ G ++ [c]).length (1 + G.length)) by
    conv => lhs; rw [show ([a] ++ G ++ [c]).length = G.length + 1 + 1 from hn]
    conv => rhs; rw [show ([a] ++ G ++ [c]).length = G.length + 1 + 1 from hn]
    rw [Nat.add_comm 1 G.length]
    rfl]
  have s1' : (run (kfOf os qs ([a] ++ G ++ [c])) ([a] ++ G ++ [c]).length (1 + G.length)).2 = [0] := by
    rw [show (1 : Nat) = [a].length from rfl, s1]
    show [] ++ (step (kfOf os qs ([a] ++ G ++ [c])) 0 _).2 = [0]
    unfold step
    rw [k0]
    rfl
  unfold step
  rw [kc, s1']
  show tv (((run _ _ _).1.set 0 (some (1 + G.length))).set (1 + G.length) (some 0)) 0 = _
  have l := g.len
  rw [tv_set (by rw [List.length_set]; omega), if_neg (by omega), tv_set (by omega), if_pos rfl, Nat.add_comm]
theorem ans_inv {os qs W : List Str} {i j : Nat} (h : tv (ansOf os qs W) i = some j) : j < W.length ∧ tv (ansOf os qs W) j = some i := by
  have g := (good_run (kfOf os qs W) W.length W.length (Nat.le_refl _)).pr i j h
  exact ⟨g.2.1, g.2.2.1⟩
theorem ansOf_len' (os qs W : List Str) : (ansOf os qs W).length = W.length := (good_run (kfOf os qs W) W.length W.length (Nat.le_refl _)).len
theorem ans_out {os qs W : List Str} {i : Nat} (h : W.length ≤ i) : tv (ansOf os qs W) i = none := (good_run (kfOf os qs W) W.length W.length (Nat.le_refl _)).hi i h
theorem bal_mid {os ps qs : List Str} (hS : Sht os ps qs) {a c : Str} (ha : a ∈ os) (hc : c ∈ qs) {G : List Str} (hb : ∀ n, bal os qs G n = some n) : ∀ n, bal os qs ([a] ++ G ++ [c]) n = some n := fun n => by
  rw [bal_app, bal_app, bal_one_op ha]
  show ((bal os qs G (n + 1))).bind _ = _
  rw [hb]
  exact bal_one_cl hS hc n
theorem bal_up {os qs : List Str} : ∀ (G : List Str) (n m : Nat), bal os qs G n = some m → ∀ k, bal os qs G (n + k) = some (m + k)
  | [], n, m, h, k => by rw [Option.some.inj h]; rfl
  | x :: r, n, m, h, k => by
    unfold bal at h ⊢
    cases hx : kdOf os qs x with
    | op =>
      rw [hx] at h
      have := bal_up r (n + 1) m h k
      rw [show n + 1 + k = n + k + 1 by omega] at this
      exact this
    | pl =>
      rw [hx] at h
      exact bal_up r n m h k
    | cl =>
      rw [hx] at h
      cases n with
      | zero => cases h
      | succ n' =>
        have := bal_up r n' m h k
        rw [show n' + 1 + k = n' + k + 1 by omega]
        exact this
theorem bal_all {os qs G : List Str} (h : bal os qs G 0 = some 0) (n : Nat) : bal os qs G n = some n := by
  have := bal_up G 0 0 h n
  rw [Nat.zero_add] at this
  exact this
theorem wrap_succ (k : Nat) (a c : Str) (G : List Str) : List.replicate (k + 1) a ++ G ++ List.replicate (k + 1) c = [a] ++ (List.replicate k a ++ G ++ List.replicate k c) ++ [c] := by
  rw [List.replicate_succ, List.replicate_succ']
  simp
theorem bal_wrap {os ps qs : List Str} (hS : Sht os ps qs) {a c : Str} (ha : a ∈ os) (hc : c ∈ qs) {G : List Str} (hb : bal os qs G 0 = some 0) : ∀ k, bal os qs (List.replicate k a ++ G ++ List.replicate k c) 0 = some 0
  | 0 => by
    rw [List.replicate_zero, List.replicate_zero, List.append_nil, List.nil_append]
    exact hb
  | k + 1 => by
    rw [wrap_succ]
    exact bal_mid hS ha hc (bal_all (bal_wrap hS ha hc hb k)) 0
theorem bal_flat {os qs : List Str} : ∀ Ws : List (List Str), (∀ W ∈ Ws, bal os qs W 0 = some 0) → bal os qs Ws.flatten 0 = some 0
  | [], _ => rfl
  | W :: r, h => by
    rw [List.flatten_cons, bal_app, h W (List.mem_cons_self ..)]
    exact bal_flat r fun W hW => h W (List.mem_cons_of_mem _ hW)
theorem ans_wrap {os ps qs : List Str} (hS : Sht os ps qs) {a c : Str} (ha : a ∈ os) (hc : c ∈ qs) {G : List Str} (hb : bal os qs G 0 = some 0) : ∀ (k i : Nat), i < k → tv (ansOf os qs (List.replicate k a ++ G ++ List.replicate k c)) i = some (2 * k + G.length - 1 - i)
  | 0, i, h => absurd h (Nat.not_lt_zero _)
  | k + 1, i, h => by
    have hw := bal_wrap hS ha hc hb k
    have hlen : (List.replicate k a ++ G ++ List.replicate k c).length = 2 * k + G.length := by
      rw [List.length_append, List.length_append, List.length_replicate, List.length_replicate]
      omega
    rw [wrap_succ]
    cases i with
    | zero =>
      rw [ans_wrap1 hS ha hc hw, hlen]
      congr 1
      omega
    | succ i =>
      have e := ans_mid (A := [a]) (B := [c]) hw (i := i) (by omega)
      rw [show i + 1 = [a].length + i by show _ = 1 + i; omega, e, ans_wrap hS ha hc hb k i (by omega)]
      show some (2 * k + G.length - 1 - i + 1) = some (2 * (k + 1) + G.length - 1 - (1 + i))
      congr 1
      omega
/-- a wrap's own letters answer one another from the ends on -/
theorem ans_own {os ps qs : List Str} (hS : Sht os ps qs) {a c : Str} (ha : a ∈ os) (hc : c ∈ qs) {G : List Str} (hb : bal os qs G 0 = some 0) {k i : Nat} (h : i < k ∨ k + G.length ≤ i) (hi : i < 2 * k + G.length) : tv (ansOf os qs (List.replicate k a ++ G ++ List.replicate k c)) i = some (2 * k + G.length - 1 - i) := by
  rcases h with h | h
  · exact ans_wrap hS ha hc hb k i h
  · have := (ans_inv (ans_wrap hS ha hc hb k (2 * k + G.length - 1 - i) (by omega))).2
    rw [show 2 * k + G.length - 1 - (2 * k + G.length - 1 - i) = i by omega] at this
    exact this
end Eh
set_option Elab.async false
set_option linter.all false
set_option maxRecDepth 100000
set_option maxHeartbeats 4000000
namespace Eh
open PySem PySem.Spec PyProof.Rows L2 Evl
def ordKV : List Str → Nat → List (Key × V)
  | [], _ => []
  | x :: r, n => (.inr x, .int (n : Int)) :: ordKV r (n + 1)
theorem ordKV_app : ∀ (a b : List Str) (n : Nat), ordKV (a ++ b) n = ordKV a n ++ ordKV b (n + a.length)
  | [], b, n => rfl
  | x :: r, b, n => by
    show (.inr x, .int (n : Int)) :: ordKV (r ++ b) (n + 1) = (.inr x, .int (n : Int)) :: (ordKV r (n + 1) ++ ordKV b (n + (r.length + 1)))
    rw [ordKV_app r b (n + 1), show n + 1 + r.length = n + (r.length + 1) by omega]
theorem ordKV_len : ∀ (a : List Str) (n : Nat), (ordKV a n).length = a.length
  | [], n => rfl
  | x :: r, n => by
    show (ordKV r (n + 1)).length + 1 = r.length + 1
    rw [ordKV_len r (n + 1)]
theorem ordKV_none : ∀ (a : List Str) (n : Nat) (x : Str), ¬ x ∈ a → valV (ordKV a n) (.inr x) = none
  | [], n, x, _ => rfl
  | y :: r, n, x, h => by
    have h1 : ¬ y = x := fun e => h (by rw [e]; exact List.mem_cons_self ..)
    have h2 : ¬ x ∈ r := fun e => h (List.mem_cons_of_mem _ e)
    show valV ((Sum.inr y, V.int (n : Int)) :: ordKV r (n + 1)) (.inr x) = none
    rw [valV_neg (fun e => h1 (Sum.inr.inj e))]
    exact ordKV_none r (n + 1) x h2
theorem ordKV_some : ∀ (a : List Str) (n : Nat) (x : Str), x ∈ a → valV (ordKV a n) (.inr x) = some (.int ((n + a.idxOf x : Nat) : Int))
  | [], n, x, h => (List.not_mem_nil h).elim
  | y :: r, n, x, h => by
    show valV ((Sum.inr y, V.int (n : Int)) :: ordKV r (n + 1)) (.inr x) = _
    by_cases e : y = x
    · subst e
      rw [valV_pos (by rfl), List.idxOf_cons_self]
      rfl
    · rw [valV_neg (fun z => e (Sum.inr.inj z)), ordKV_some r (n + 1) x ((List.mem_cons.mp h).resolve_left fun z => e z.symm), List.idxOf_cons, show (y == x) = false from beq_false_of_ne e]
      show some (V.int ((n + 1 + r.idxOf x : Nat) : Int)) = some (V.int ((n + (r.idxOf x + 1) : Nat) : Int))
      rw [show n + 1 + r.idxOf x = n + (r.idxOf x + 1) by omega]
/-- one tuple behind the other, the first with something in it -/
theorem cat_rd {K : PySem.W.Frag} {a b : Addr} {xs ys : List V} {H : Hp} {Q : VK} (h1 : SqT K H a xs) (h2 : SqT K H b ys) (n0 : xs ≠ []) (hz : xs.length + ys.length ≤ 1000) (q : ∀ p H', Ex H H' → SqT K H' p (xs ++ ys) → Q (.ref p) H') : rCatT K (.ref a) (.ref b) H Q :=
  ⟨a, b, xs, ys, rfl, rfl, h1, h2, n0, sz_of (by omega), fun e => q a H (Ex.refl H) (by rw [e, List.append_nil]; exact h1), fun _ p np => q p _ (Ex.new np) (st_of upd_same)⟩
/-- {.. for i, x in enumerate(tuple)} -/
theorem dc_enumT {K : PySem.W.Frag} {a : Addr} {xs : List V} {tt : TT} {tk tv : TE} {σ : L2.St} {H1 : Hp} {Dd : Addr} {Qd : Hp → Prop} {i1 i2 : Nat} {vs : List Nat} (Pv : Nat → Hp → Prop) (h0 : Pv 0 (upd H1 Dd (.dK []))) (hl : ∀ i H, i ≤ xs.length → Pv i H → SqT K H a xs)
    (hs : ∀ i x H T, xs[i]? = some x → Pv i H → H T = none → wipe (((wipe σ vs).set i1 (some (.int (i : Nat)))).set i2 (some x)) vs = wipe σ vs ∧ tt (((wipe σ vs).set i1 (some (.int (i : Nat)))).set i2 (some x)) (upd H T (.tup [.int (i : Nat), x])) fun b H3 => if b = true then tk (((wipe σ vs).set i1 (some (.int (i : Nat)))).set i2 (some x)) H3 fun y H4 => tv (((wipe σ vs).set i1 (some (.int (i : Nat)))).set i2 (some x)) H4 fun z H5 => ∃ kvs k, y = kV k ∧ H5 Dd = some (.dK kvs) ∧ kvs.length < sizeLine ∧ Pv (i + 1) (upd H5 Dd (.dK (putK kvs k z))) else Pv (i + 1) H3)
    (hd : ∀ H, Pv xs.length H → Qd H) :
    ∃ W : Nat → Nat → Hp → Prop, (∃ m, W 0 m (upd H1 Dd (.dK []))) ∧ ∀ i m H, W i m H → ((IteT K a).stop i H ∧ Qd H) ∨ ((IteT K a).go i H ∧ ∃ Nx : Hp → Prop, (∀ H', Nx H' → ∃ m', m' < m ∧ W (i + 1) m' H') ∧ ∀ x H', (IteT K a).yld i H x H' → gTup K 2 (gCons (gName i1) (gCons (gName i2) gNil)) x (wipe σ vs) H' fun σ2 H2 => wipe σ2 vs = wipe σ vs ∧ tt σ2 H2 fun b H3 => if b = true then tk σ2 H3 fun y H4 => tv σ2 H4 fun z H5 => ∃ kvs k, y = kV k ∧ H5 Dd = some (.dK kvs) ∧ kvs.length < sizeLine ∧ Nx (upd H5 Dd (.dK (putK kvs k z))) else Nx H3) := by
  refine ⟨fun i m H => m = xs.length - i ∧ i ≤ xs.length ∧ Pv i H, ⟨xs.length, by omega, Nat.zero_le _, h0⟩, ?_⟩
  rintro i m H ⟨rfl, hi, pp⟩
  have sq := hl i H hi pp
  by_cases hlt : i < xs.length
  · refine .inr ⟨⟨xs, xs[i], sq, List.getElem?_eq_getElem hlt⟩, Pv (i + 1), fun H' p' => ⟨xs.length - (i + 1), by omega, rfl, hlt, p'⟩, fun v H' y => ?_⟩
    obtain ⟨T, x, rfl, nT, rfl, f⟩ := y
    exact ⟨T, [.int (i : Nat), x], rfl, st_of upd_same, rfl, _, _, rfl, _, _, rfl, rfl, hs i x H T (f xs sq) pp nT⟩
  · have e : i = xs.length := by omega
    subst e
    exact .inl ⟨⟨xs, sq, rfl⟩, hd H pp⟩
abbrev nOrderOf : List Str := ["sheet", "opens", "plains", "closes", "number", "letter"]
theorem scOrderOf : FnScope nOrderOf ["sheet"] (defScope sOrderOf) := ⟨rfl, rfl, rfl, by decide +kernel, rfl, by decide +kernel, by decide +kernel⟩
theorem scNeedWord : FnScope ["sheet", "word", "order", "place", "letter"] ["sheet", "word"] (defScope sNeedWord) := ⟨rfl, rfl, rfl, by decide +kernel, rfl, by decide +kernel, by decide +kernel⟩
section
variable {P : Program} {w : World} {K : PySem.W.Frag} {mg : Str → Option Value} {base : Heap}
def spOrderOf : Sp := fun vs H Q _ => ∃ (s : Addr) (os ps qs : List Str), vs = [.ref s] ∧ Sht os ps qs ∧ SheetAt H s os ps qs ∧ ∀ d H', Ex H H' → H d = none → H' d = some (.dK (ordKV (os ++ ps ++ qs) 0)) → Q (.ref d) H'
theorem ok_orderOf {f : Addr} {fd : FuncData} {k : Nat} (F : Fun K "order_of" "order_of" sOrderOf f fd) (me : mg "enumerate" = none) : FnOk P w K mg base CX0 (k + 1) f fd ["sheet"] spOrderOf := by
  have nd := scOrderOf.nd
  refine F.ok scOrderOf (fun vs H Q E h => ?_) (fun cdv A outer s H vs Q E hr h => ?_)
  · obtain ⟨s, os, ps, qs, rfl, _⟩ := h
    rfl
  · obtain ⟨s, os, ps, qs, rfl, hS, ⟨ao, ap, ac, h0, h1, h2, h3⟩, q⟩ := h
    refine ⟨_, pss_cons (ps_asg (pv 0) (pg_tup rfl (pgs_cons (pg_name (i := 1) nd rfl (.inl rfl)) (pgs_cons (pg_name (i := 2) nd rfl (.inl rfl)) (pgs_cons (pg_name (i := 3) nd rfl (.inl rfl)) pgs_nil)))))
      (pss_one (ps_ret (pe_dc (own := [("number", 4), ("letter", 5)]) (g := gTup K 2 (gCons (gName 4) (gCons (gName 5) gNil))) (tt := tYes) rfl nd (pi_enumT (by rfl) me (pa_cons (pe_op op_catT (pe_op op_catT (pv 1) (pv 2)) (pv 3)) pa_nil)) (blkOk_by (own := [("number", 4), ("letter", 5)]) (N := nOrderOf) (sc := defScope sOrderOf) (by decide +kernel))
        (fun _ _ _ _ _ => pg_tup rfl (pgs_cons (pg_name (i := 4) nd rfl (.inl rfl)) (pgs_cons (pg_name (i := 5) nd rfl (.inl rfl)) pgs_nil))) (fun _ _ _ _ _ => pts_nil) (fun _ _ _ _ _ => pv 5) (fun _ _ _ _ _ => pv 4)))), ?_⟩
    refine ⟨_, rfl, s, _, rfl, st_of h0, rfl, _, _, rfl, _, _, rfl, _, _, rfl, rfl, ?_⟩
    have on : os.map V.str ≠ [] := fun e => by
      have := hS.o1
      rw [← List.length_map (f := V.str), e] at this
      exact absurd this (by decide)
    have l1 : (os.map V.str).length + (ps.map V.str).length ≤ 1000 := by
      rw [List.length_map, List.length_map]
      have := hS.o4
      have := hS.p4
      omega
    refine ⟨_, rfl, _, rfl, cat_rd (st_of h1) (st_of h2) on l1 fun p1 H1 e1 g1 => ⟨_, rfl, cat_rd g1 (st_of (e1 _ _ h3)) (fun z => on (List.append_eq_nil_iff.mp z).1) ?_ fun p2 H2 e2 g2 => ?_⟩⟩
    · rw [List.length_append, List.length_map, List.length_map, List.length_map]
      have := hS.o4
      have := hS.p4
      have := hS.c4
      omega
    rw [← List.map_append, ← List.map_append] at g2
    generalize hL : os ++ ps ++ qs = L at *
    have hLl : L.length ≤ 12 := by
      rw [← hL, List.length_append, List.length_append]
      have := hS.o4
      have := hS.p4
      have := hS.c4
      omega
    have hLd : L.Nodup := by
      have := hS.nd
      rw [hL] at this
      exact this
    refine ⟨p2, _, rfl, g2, fun Dd nD => dc_enumT (xs := L.map V.str) (fun i H' => Ex H2 H' ∧ H' Dd = some (.dK (ordKV (L.take i) 0))) ⟨Ex.new nD, upd_same⟩ (fun i H' _ hh => ex_t hh.1 g2) ?_ ?_⟩
    · rintro i x H' T hx ⟨eH, hD⟩ nT
      refine ⟨rfl, yesT ?_⟩
      rw [List.getElem?_map] at hx
      obtain ⟨y, hy, rfl⟩ := Option.map_eq_some_iff.mp hx
      have eT : Ex H' (upd H' T (.tup [.int (i : Nat), .str y])) := Ex.new nT
      refine ⟨_, rfl, _, rfl, _, .inr y, rfl, eT _ _ hD, ?_, (eH.trans eT).mut nD, ?_⟩
      · rw [ordKV_len]
        exact sz_lt (by rw [List.length_take]; omega)
      · have hi := (List.getElem?_eq_some_iff.mp hy).1
        rw [upd_same, putK_new _ (ordKV_none _ _ _ ?_), List.take_add_one, hy, ordKV_app, List.length_take, Nat.min_eq_left (by omega), Nat.zero_add]
        · rfl
        · intro hm
          obtain ⟨j, hj, e⟩ := List.mem_take_iff_getElem.mp hm
          have : j = i := (List.getElem_inj hLd).mp (e.trans (List.getElem?_eq_some_iff.mp hy).2.symm)
          omega
    · rintro H' ⟨eH, hD⟩
      rw [List.length_map, List.take_length] at hD
      exact q Dd H' ((e1.trans e2).trans eH) (fresh_back (e1.trans e2) nD) hD
def spNeedWord (K : PySem.W.Frag) : Sp := fun vs H Q _ => ∃ (s l : Addr) (os ps qs ws : List Str), vs = [.ref s, .ref l] ∧ Sht os ps qs ∧ SheetAt H s os ps qs ∧ SqL K H l (ws.map V.str) ∧ (∀ x ∈ ws, x ∈ os ++ ps ++ qs) ∧ ∀ H', Ex H H' → Q .non H'
theorem ok_needWord {f fO : Addr} {fd fdO : FuncData} {k : Nat} (F : Fun K "need_word" "need_word" sNeedWord f fd) (FO : Fun K "order_of" "order_of" sOrderOf fO fdO) (bO : Binds K fdO ["sheet"] []) (gO : mg "order_of" = some (.ref fO)) (me : mg "enumerate" = none) : FnOk P w K mg base CX0 (k + 2) f fd ["sheet", "word"] (spNeedWord K) := by
  have GO : FnOk P w K mg base CX0 (k + 1) fO fdO ["sheet"] spOrderOf := ok_orderOf FO me
  have nd := scNeedWord.nd
  refine F.ok scNeedWord (fun vs H Q E h => ?_) (fun cdv A outer s H vs Q E hr h => ?_)
  · obtain ⟨s, l, os, ps, qs, ws, rfl, _⟩ := h
    rfl
  · obtain ⟨s, l, os, ps, qs, ws, rfl, hS, hs, hl, hw, q⟩ := h
    have hu := hu_of hr
    refine ⟨_, pss_cons (ps_set (i := 2) nd rfl (.inl rfl) (pe_call GO hr (by rfl) gO FO.kp bO .nil pass0 (pa_cons (pv 0) pa_nil)))
      (pss_one (ps_for PassesOwn.never rfl (pi_enum (by rfl) me (pa_cons (pv 1) pa_nil)) (pg_tup rfl (pgs_cons (pg_name (i := 3) nd rfl (.inl rfl)) (pgs_cons (pg_name (i := 4) nd rfl (.inl rfl)) pgs_nil)))
        (pss_one (ps_if (pt_cmp (pc_dnotin hu (pv 4) (pv 2))) (pss_one ps_never) pss_nil)))), ?_⟩
    refine ⟨_, rfl, s, os, ps, qs, rfl, hS, hs, fun d H1 e1 nd1 hd => ?_⟩
    refine ⟨_, rfl, l, _, rfl, ex_l e1 hl, for_enum (xs := ws.map V.str) (fun i σ H' => (∃ y3 y4, σ = [some (.ref s), some (.ref l), some (.ref d), y3, y4]) ∧ Ex H1 H') ⟨⟨_, _, rfl⟩, Ex.refl _⟩ (fun i σ H' _ hh => ex_l (e1.trans hh.2) hl) ?_ ?_⟩
    · rintro i x σ H' T hx ⟨⟨y3, y4, rfl⟩, eH⟩ nT
      rw [List.getElem?_map] at hx
      obtain ⟨y, hy, rfl⟩ := Option.map_eq_some_iff.mp hx
      have eT : Ex H' (upd H' T (.tup [.int (i : Nat), .str y])) := Ex.new nT
      have hin : y ∈ os ++ ps ++ qs := hw y (List.mem_of_getElem? hy)
      refine ⟨_, rfl, _, rfl, d, _, rfl, DGet.k (k := Sum.inr y) (eT _ _ (eH _ _ hd)), ?_⟩
      rw [ordKV_some _ _ _ hin]
      exact ⟨_, rfl, iteF ⟨⟨_, _, rfl⟩, eH.trans eT⟩⟩
    · rintro σ H' ⟨_, eH⟩
      exact q H' (e1.trans eH)
end
end Eh
set_option Elab.async false
set_option linter.all false
set_option maxRecDepth 100000
set_option maxHeartbeats 4000000
namespace Eh
open PySem PySem.Spec PyProof.Rows L2 Evl
theorem scAnswers : FnScope ["sheet", "word", "told", "waiting", "place", "letter", "begun"] ["sheet", "word"] (defScope sAnswers) := ⟨rfl, rfl, rfl, by decide +kernel, rfl, by decide +kernel, by decide +kernel⟩
theorem rv_isN {K : PySem.W.Frag} {x : V} {H : Hp} : RV (fun x y H Q => y = V.non ∧ Q (.bl (decide (x = .non))) H) x .non H (.bl (decide (x = .non))) := fun H1 _ _ q => ⟨rfl, q H1 (Ex.refl H1)⟩
theorem oV_non (o : Option Nat) : decide (oV o = .non) = decide (o = none) := by
  cases o with
  | none => rfl
  | some j => exact (decide_eq_false (fun z => nomatch z)).trans (decide_eq_false (fun z => nomatch z)).symm
section
variable {P : Program} {w : World} {K : PySem.W.Frag} {mg : Str → Option Value} {base : Heap}
def spAnswers (K : PySem.W.Frag) : Sp := fun vs H Q _ => ∃ (s l : Addr) (os ps qs ws : List Str), vs = [.ref s, .ref l] ∧ Sht os ps qs ∧ SheetAt H s os ps qs ∧ SqL K H l (ws.map V.str) ∧ (∀ x ∈ ws, x ∈ os ++ ps ++ qs) ∧ ws.length ≤ 10000 ∧ ∀ a H', Ex H H' → H a = none → H' a = some (tO (ansOf os qs ws)) → Q (.ref a) H'
theorem ok_answers {f fN : Addr} {fd fdN : FuncData} {k : Nat} (F : Fun K "answers" "answers" sAnswers f fd) (FN : Fun K "need_word" "need_word" sNeedWord fN fdN) (GN : FnOk P w K mg base CX0 (k + 1) fN fdN ["sheet", "word"] (spNeedWord K)) (bN : Binds K fdN ["sheet", "word"] []) (gN : mg "need_word" = some (.ref fN)) (ml : mg "len" = none) (me : mg "enumerate" = none) : FnOk P w K mg base CX0 (k + 2) f fd ["sheet", "word"] (spAnswers K) := by
  have nd := scAnswers.nd
  refine F.ok scAnswers (fun vs H Q E h => ?_) (fun cdv A outer s H vs Q E hr h => ?_)
  · obtain ⟨s, l, os, ps, qs, ws, rfl, _⟩ := h
    rfl
  · obtain ⟨s, l, os, ps, qs, ws, rfl, hS, hs, hl, hw, hlen, q⟩ := h
    refine ⟨_, pss_cons (ps_expr (pe_call GN hr (by rfl) gN FN.kp bN .nil pass0 (pa_cons (pv 0) (pa_cons (pv 1) pa_nil))))
      (pss_cons (ps_set (i := 2) nd rfl (.inl rfl) (pe_op op_rep (pe_lst (pa_cons pe_non pa_nil)) (pe_callB call_len_seq (by rfl) ml PySem.boot_len (pa_cons (pv 1) pa_nil))))
      (pss_cons (ps_set (i := 3) nd rfl (.inl rfl) (pe_lst pa_nil))
      (pss_cons (ps_for PassesOwn.never rfl (pi_enum (by rfl) me (pa_cons (pv 1) pa_nil)) (pg_tup rfl (pgs_cons (pg_name (i := 4) nd rfl (.inl rfl)) (pgs_cons (pg_name (i := 5) nd rfl (.inl rfl)) pgs_nil)))
        (pss_one (ps_if (pt_cmpR op_in_seq (pv 5) (pe_ix ix_tup (pv 0) pe_int (fun _ _ => rfl)) (by rfl))
          (pss_one (ps_expr (pe_bm PySem.F.plainAttrs_list PySem.F.slot_list_append PySem.F.type_list_append mt_append (pv 3) (pa_cons (pv 4) pa_nil))))
          (pss_one (ps_if (PW.pt (pw_and (pt_cmpR op_in_seq (pv 5) (pe_ix ix_tup (pv 0) pe_int (fun _ _ => rfl)) (by rfl)) (pw_and1 (pt_truth (pv 3) (by intro _; rfl)))))
            (pss_cons (ps_set (i := 6) nd rfl (.inl rfl) (pe_bm0 PySem.F.plainAttrs_list PySem.F.slot_list_pop PySem.F.type_list_pop mt_pop (pv 3)))
            (pss_cons (ps_asg (pv 4) (pg_sub (pv 2) (pv 6) set_list))
            (pss_one (ps_asg (pv 6) (pg_sub (pv 2) (pv 4) set_list)))))
            pss_nil)))))
      (pss_one (ps_ret (pv 2)))))), ?_⟩
    refine ⟨_, rfl, _, rfl, s, l, os, ps, qs, ws, rfl, hS, hs, hl, hw, fun H1 e1 => ?_⟩
    -- told
    refine ⟨(by show 1 ≤ sizeLine; decide), fun u nu => ?_⟩
    have e2 : Ex H1 (upd H1 u (.lst [.non])) := Ex.new nu
    refine ⟨_, rfl, l, _, rfl, .inl (ex_l (e1.trans e2) hl), u, _, _, rfl, rfl, upd_same, by omega, ?_, ?_, fun T nT => ?_⟩
    · rw [List.length_map]
      omega
    · rw [List.length_map, Int.toNat_natCast]
      exact sz_of (by simp only [List.length_singleton]; omega)
    rw [List.length_map, Int.toNat_natCast, flat_rep, show List.replicate ws.length V.non = (List.replicate ws.length (none : Option Nat)).map oV by rw [List.map_replicate]; rfl]
    have e3 : Ex H (upd (upd H1 u (.lst [.non])) T (tO (List.replicate ws.length none))) := (e1.trans e2).trans (Ex.new nT)
    have nTH : H T = none := fresh_back (e1.trans e2) nT
    have hT3 : (upd (upd H1 u (.lst [.non])) T (tO (List.replicate ws.length none))) T = some (tO (List.replicate ws.length none)) := upd_same
    show tSeq _ _ _ [some (.ref s), some (.ref l), some (.ref T), none, none, none, none] (upd (upd H1 u (.lst [.non])) T (tO (List.replicate ws.length none)))
    generalize upd (upd H1 u (.lst [.non])) T (tO (List.replicate ws.length none)) = H3 at e3 hT3 ⊢
    -- waiting
    refine ⟨Nat.zero_le _, fun W nW => ?_⟩
    have nWH : H W = none := fresh_back e3 nW
    have nTW : T ≠ W := ne_of_none hT3 nW
    have e4 : Ex H (upd H3 W (tN [])) := e3.trans (Ex.new nW)
    obtain ⟨ao, ap, ac, g0, g1, g2, g3⟩ := hs
    refine ⟨_, rfl, l, _, rfl, ex_l e4 hl, for_enum (xs := ws.map V.str) (fun i σ H' => (∃ y4 y5 y6, σ = [some (.ref s), some (.ref l), some (.ref T), some (.ref W), y4, y5, y6]) ∧ Ex H H' ∧ H' T = some (tO (run (kfOf os qs ws) ws.length i).1) ∧ H' W = some (tN (run (kfOf os qs ws) ws.length i).2.reverse)) ⟨⟨_, _, _, rfl⟩, e4, by rw [upd_ne nTW]; exact hT3, upd_same⟩ (fun i σ H' _ hh => ex_l hh.2.1 hl) ?_ ?_⟩
    · rintro i x σ H' Tp hx ⟨⟨y4, y5, y6, rfl⟩, eH, hT, hW⟩ nTp
      rw [List.getElem?_map] at hx
      obtain ⟨y, hy, rfl⟩ := Option.map_eq_some_iff.mp hx
      have hi := (List.getElem?_eq_some_iff.mp hy).1
      have GR := good_run (kfOf os qs ws) ws.length i (by omega)
      have hrun : run (kfOf os qs ws) ws.length (i + 1) = step (kfOf os qs ws) i (run (kfOf os qs ws) ws.length i) := rfl
      have hk : kfOf os qs ws i = kdOf os qs y := kfOf_at hy
      have eT : Ex H' (upd H' Tp (.tup [.int (i : Nat), .str y])) := Ex.new nTp
      have eHT := eH.trans eT
      replace hT := eT _ _ hT
      replace hW := eT _ _ hW
      generalize upd H' Tp (.tup [.int (i : Nat), .str y]) = H'' at eHT hT hW ⊢
      generalize run (kfOf os qs ws) ws.length i = S at GR hrun hT hW ⊢
      obtain ⟨t, st⟩ := S
      replace GR : Good _ _ i t st := GR
      replace hT : H'' T = some (tO t) := hT
      replace hW : H'' W = some (tN st.reverse) := hW
      have hlt := GR.len
      have hst : st.length ≤ i := by
        have := congrArg List.length (filter_desc i st GR.srt fun b hb => (GR.bd b hb).1)
        rw [List.length_reverse] at this
        rw [← this]
        have h2 := List.length_filter_le (fun a => decide (a ∈ st)) (List.range i)
        rw [List.length_range] at h2
        exact h2
      refine ⟨_, rfl, _, rfl, s, _, 0, .ref ao, rfl, rfl, st_of (eHT _ _ g0), rfl, ao, _, rfl, .inr (st_of (eHT _ _ g1)), rfl, flat_str os, _, rfl, ?_⟩
      show if inV (.str y) (os.map V.str) = true then _ else _
      rw [inV_str]
      refine ite2 (fun ho => ?_) (fun ho => ?_)
      · have hko : kfOf os qs ws i = .op := by
          rw [hk]
          unfold kdOf
          rw [if_pos (of_decide_eq_true ho)]
        refine ⟨_, rfl, .inl ⟨rfl, _, sq_of hW⟩, _, rfl, W, _, _, rfl, rfl, hW, ?_, ⟨_, _, _, rfl⟩, eHT.mut nWH, ?_, ?_⟩
        · rw [List.length_map, List.length_reverse]
          exact sz_lt (by omega)
        · rw [upd_ne nTW, hT, hrun]
          unfold step
          rw [hko]
        · rw [upd_same, hrun]
          unfold step
          rw [hko]
          show some (HO.lst (st.reverse.map nV ++ [nV i])) = some (HO.lst ((i :: st).reverse.map nV))
          rw [List.reverse_cons, List.map_append]
          rfl
      · have hno : ¬ y ∈ os := fun z => ho (decide_eq_true z)
        refine ⟨_, rfl, _, rfl, s, _, 2, .ref ac, rfl, rfl, st_of (eHT _ _ g0), rfl, ac, _, rfl, .inr (st_of (eHT _ _ g3)), rfl, flat_str qs, _, rfl, ?_⟩
        show if inV (.str y) (qs.map V.str) = true then _ else _
        rw [inV_str]
        refine ite2 (fun hc => ?_) (fun hc => ?_)
        · have hkc : kfOf os qs ws i = .cl := by
            rw [hk]
            unfold kdOf
            rw [if_neg hno, if_pos (of_decide_eq_true hc)]
          refine ⟨_, rfl, _, .inl ⟨_, sq_of hW, rfl⟩, ?_⟩
          cases st with
          | nil =>
            refine iteF ?_
            refine ⟨⟨_, _, _, rfl⟩, eHT, ?_, ?_⟩
            · rw [hT, hrun]
              unfold step
              rw [hkc]
            · rw [hW, hrun]
              unfold step
              rw [hkc]
          | cons b r =>
            obtain ⟨hb1, hb2, hb3⟩ := GR.bd b (List.mem_cons_self ..)
            have er : ((b :: r).reverse.map nV) = r.reverse.map nV ++ [nV b] := by
              rw [List.reverse_cons, List.map_append]
              rfl
            rw [er]
            have hemp : (!(r.reverse.map nV ++ [nV b]).isEmpty) = true := by
              rw [Bool.not_eq_true']
              cases r.reverse.map nV <;> rfl
            rw [hemp]
            refine iteT ?_
            have hW' : H'' W = some (.lst (r.reverse.map nV ++ [nV b])) := by
              rw [hW]
              unfold tN
              rw [er]
            refine ⟨_, rfl, .inl ⟨rfl, _, sq_of hW'⟩, W, _, nV b, rfl, rfl, hW', ?_, ?_⟩
            · rw [List.length_append, List.length_singleton, Nat.add_sub_cancel, List.getElem?_append_right (Nat.le_refl _), Nat.sub_self]
              rfl
            · rw [List.dropLast_concat]
              have hT1 : (upd H'' W (.lst (r.reverse.map nV))) T = some (tO t) := by
                rw [upd_ne nTW]
                exact hT
              refine ⟨_, rfl, _, rfl, _, rfl, T, _, _, b, rfl, rfl, hT1, ixN_nat (by rw [List.length_map]; omega), ?_⟩
              refine ⟨_, rfl, _, rfl, _, rfl, T, _, _, i, rfl, rfl, upd_same, ixN_nat (by rw [List.length_set, List.length_map]; omega), ⟨_, _, _, rfl⟩, ((eHT.mut nWH).mut nTH).mut nTH, ?_, ?_⟩
              · rw [upd_same, hrun]
                unfold step
                rw [hkc]
                show some (HO.lst (((t.map oV).set b (oV (some i))).set i (oV (some b)))) = some (tO ((t.set b (some i)).set i (some b)))
                rw [← List.map_set, ← List.map_set]
              · rw [upd_ne nTW.symm, upd_ne nTW.symm, upd_same, hrun]
                unfold step
                rw [hkc]
        · have hkp : kfOf os qs ws i = .pl := by
            rw [hk]
            unfold kdOf
            rw [if_neg hno, if_neg (fun z => hc (decide_eq_true z))]
          refine iteF ?_
          refine ⟨⟨_, _, _, rfl⟩, eHT, ?_, ?_⟩
          · rw [hT, hrun]
            unfold step
            rw [hkp]
          · rw [hW, hrun]
            unfold step
            rw [hkp]
    · rintro σ H' ⟨⟨y4, y5, y6, rfl⟩, eH, hT, hW⟩
      rw [List.length_map] at hT
      exact ⟨_, rfl, q T H' eH nTH hT⟩
end
end Eh
set_option Elab.async false
set_option linter.all false
set_option maxRecDepth 100000
set_option maxHeartbeats 4000000
namespace Eh
open PySem PySem.Spec PyProof.Rows L2 Evl
abbrev rIsN : R2 := fun x y H Q => y = V.non ∧ Q (.bl (decide (x = .non))) H
abbrev rNotN : R2 := fun x y H Q => y = V.non ∧ Q (.bl (!decide (x = .non))) H
theorem rv_notN {x : V} {H : Hp} : RV rNotN x .non H (.bl (!decide (x = .non))) := fun H1 _ _ q => ⟨rfl, q H1 (Ex.refl H1)⟩
theorem et_yes {σ : L2.St} {H : Hp} : EvT tYes σ H true := fun H1 _ _ q => q H1 (Ex.refl H1)
theorem kd_rd {K : PySem.W.Frag} {os qs ws y : List Str} {s l ad : Addr} {xs : List V} {H : Hp} {σ : L2.St} {iz a : Nat} {z : Int} {kd : Kd} (hl : SqL K H l (ws.map V.str)) (hs : H s = some (.tup xs)) (hz : atI xs z = some (.ref ad)) (hy : H ad = some (.tup (y.map V.str))) (hkd : ∀ x, kdOf os qs x = kd ↔ x ∈ y) (h0 : σ[0]? = some (some (.ref s))) (h1 : σ[1]? = some (some (.ref l))) (hi : σ[iz]? = some (some (nV a))) (ha : a < ws.length) :
    EvT (tTest (tOp (rIn K false) (tOp (rIxL K) (tVar 1) (tVar iz)) (tOp (rIxT K) (tVar 0) (tC (.int z))))) σ H (decide (kfOf os qs ws a = kd)) := by
  have hwj : ws[a]? = some ws[a] := List.getElem?_eq_getElem ha
  refine et_is (et_test (ev_op (ev_op (ev_var h1) (ev_var hi) (rv_ixL hl (atI_nat (v := .str ws[a]) (by rw [List.getElem?_map, hwj]; rfl)))) (ev_op (ev_var h0) ev_c (rv_ixT (st_of hs) hz)) (rv_isT (st_of hy) rfl (flat_str y)))) ?_
  rw [inV_str, kfOf_at hwj]
  exact decide_eq_decide.mpr (hkd _).symm
theorem t_at {t : List (Option Nat)} {a : Nat} (ha : a < t.length) : atI (t.map oV) (a : Int) = some (oV (tv t a)) := by
  refine atI_nat ?_
  rw [List.getElem?_map, tv_get ha]
  rfl
theorem none_rd {K : PySem.W.Frag} {t : List (Option Nat)} {F : Addr} {H : Hp} {σ : L2.St} {f iz a : Nat} (hF : SqL K H F (t.map oV)) (h2 : σ[f]? = some (some (.ref F))) (hi : σ[iz]? = some (some (nV a))) (ha : a < t.length) : EvT (tTest (tOp rIsN (tOp (rIxL K) (tVar f) (tVar iz)) (tC .non))) σ H (decide (tv t a = none)) :=
  et_is (et_test (ev_op (ev_op (ev_var h2) (ev_var hi) (rv_ixL hF (t_at ha))) ev_c (rv_isN (K := K)))) (oV_non _)
theorem some_rd {K : PySem.W.Frag} {t : List (Option Nat)} {F : Addr} {H : Hp} {σ : L2.St} {f iz a : Nat} (hF : SqL K H F (t.map oV)) (h2 : σ[f]? = some (some (.ref F))) (hi : σ[iz]? = some (some (nV a))) (ha : a < t.length) : EvT (tTest (tOp rNotN (tOp (rIxL K) (tVar f) (tVar iz)) (tC .non))) σ H (!decide (tv t a = none)) :=
  et_is (et_test (ev_op (ev_op (ev_var h2) (ev_var hi) (rv_ixL hF (t_at ha))) ev_c rv_notN)) (by rw [oV_non])
abbrev nAns : List Str := ["sheet", "word", "found", "place", "at", "letter"]
theorem scAns : FnScope nAns ["sheet", "word"] (defScope sAns) := ⟨rfl, rfl, rfl, by decide +kernel, rfl, by decide +kernel, by decide +kernel⟩
theorem given_non (n : Nat) : given n (fun _ => true) (fun _ => V.non) = (List.replicate n (none : Option Nat)).map oV := by
  unfold given
  rw [List.filter_eq_self.mpr (fun _ _ => rfl), List.map_replicate]
  apply List.ext_getElem
  · rw [List.length_map, List.length_range, List.length_replicate]
  · intro i h1 h2
    rw [List.getElem_map, List.getElem_replicate]
    rfl
section
variable {P : Program} {w : World} {K : PySem.W.Frag} {mg : Str → Option Value} {base : Heap}
theorem ok_ans {f : Addr} {fd : FuncData} {k : Nat} (F : Fun K "_law_answers" "_law_answers" sAns f fd) (ml : mg "len" = none) (mr : mg "range" = none) : FnOk P w K mg base CX0 (k + 1) f fd ["sheet", "word"] (spAnswers K) := by
  have nd := scAns.nd
  refine F.ok scAns (fun vs H Q E h => ?_) (fun cdv A outer s H vs Q E hr h => ?_)
  · obtain ⟨s, l, os, ps, qs, ws, rfl, _⟩ := h
    rfl
  · obtain ⟨s, l, os, ps, qs, ws, rfl, hS, ⟨ao, ap, ac, g0, g1, g2, g3⟩, hl, hw, hlen, q⟩ := h
    refine ⟨_, pss_cons (ps_setLc (i := 2) (own := [("letter", 5)]) (g := gName 5) (tt := tYes) (te := tC .non) rfl nd rfl rfl (sw_true rfl rfl rfl (by decide +kernel)) (pi_list (pv 1)) (blkOk_by (own := [("letter", 5)]) (N := nAns) (sc := defScope sAns) (by decide +kernel)) (fun _ _ _ _ _ => pg_name (i := 5) nd rfl (Or.inl rfl)) (fun _ _ _ _ _ => pts_nil) (fun _ _ _ _ _ => pe_non))
      (pss_cons (ps_for PassesOwn.never rfl (pi_range1 (by rfl) mr (pa_cons (pe_callB call_len_seq (by rfl) ml PySem.boot_len (pa_cons (pv 1) pa_nil)) pa_nil)) (pg_name (i := 3) nd rfl (.inl rfl))
        (pss_one (ps_if (pt_cmpR op_in_seq (pe_ix ix_list (pv 1) (pv 3) (fun _ _ => rfl)) (pe_ix ix_tup (pv 0) pe_int (fun _ _ => rfl)) (by rfl))
          (pss_cons (ps_set (i := 4) nd rfl (.inl rfl) (pe_op op_sub (pv 3) pe_int))
          (pss_one (ps_while PassesOwn.never (PW.pt (pw_and (pt_cmpR op_ge (pv 4) pe_int (nomark _)) (pw_and1 (pt_cmpR op_isN (pe_ix ix_list (pv 2) (pv 3) (fun _ _ => rfl)) pe_non (nomark _)))))
            (pss_cons (ps_if (PW.pt (pw_and (pt_cmpR op_in_seq (pe_ix ix_list (pv 1) (pv 4) (fun _ _ => rfl)) (pe_ix ix_tup (pv 0) pe_int (fun _ _ => rfl)) (by rfl)) (pw_and1 (pt_cmpR op_notN (pe_ix ix_list (pv 2) (pv 4) (fun _ _ => rfl)) pe_non (nomark _)))))
              (pss_one (ps_set (i := 4) nd rfl (.inl rfl) (pe_ix ix_list (pv 2) (pv 4) (fun _ _ => rfl))))
              (pss_one (ps_if (PW.pt (pw_and (pt_cmpR op_in_seq (pe_ix ix_list (pv 1) (pv 4) (fun _ _ => rfl)) (pe_ix ix_tup (pv 0) pe_int (fun _ _ => rfl)) (by rfl)) (pw_and1 (pt_cmpR op_isN (pe_ix ix_list (pv 2) (pv 4) (fun _ _ => rfl)) pe_non (nomark _)))))
                (pss_cons (ps_asg (pv 3) (pg_sub (pv 2) (pv 4) set_list)) (pss_one (ps_asg (pv 4) (pg_sub (pv 2) (pv 3) set_list)))) pss_nil)))
            (pss_one (ps_set (i := 4) nd rfl (.inl rfl) (pe_op op_sub (pv 4) pe_int)))))))
          pss_nil)))
      (pss_one (ps_ret (pv 2)))), ?_⟩
    have n0 : (ws.map V.str).length = ws.length := List.length_map _
    refine q_asgL (el_lcL (fun _ => true) (fun _ => V.non) (ev_var rfl) hl (by rw [n0]; omega) (fun x => rfl) (fun i x H1 e1 hx => et_yes) (fun i x H1 e1 hx _ => ev_c)) fun T H1 nT e1 hT => ?_
    rw [n0, given_non] at hT
    generalize hkf : kfOf os qs ws = kf
    refine q_forR1 (ea_cons (ev_len (ev_var rfl) (ex_l e1 hl)) ea_nil) (by rw [n0]; omega) (fun i σ H' => (∃ y3 y4, σ = [some (.ref s), some (.ref l), some (.ref T), y3, y4, none]) ∧ Ex H H' ∧ H' T = some (tO (run kf ws.length i).1)) (fun H2 e2 => ⟨⟨_, _, rfl⟩, e1.trans e2, e2 _ _ hT⟩) ?_ ?_
    · rintro i σ H2 hi ⟨⟨y3, y4, rfl⟩, e2, hT2⟩
      rw [n0] at hi
      have hi' : i < ws.length := by omega
      have G := good_run kf ws.length i (by omega)
      have hrun : run kf ws.length (i + 1) = step kf i (run kf ws.length i) := rfl
      generalize run kf ws.length i = S at G hrun hT2
      obtain ⟨t, st⟩ := S
      replace G : Good kf ws.length i t st := G
      replace hT2 : H2 T = some (tO t) := hT2
      rw [hrun]
      have hcl : ∀ x, kdOf os qs x = .cl ↔ x ∈ qs := fun x => kd_cl hS
      have hop : ∀ x, kdOf os qs x = .op ↔ x ∈ os := fun x => kd_op
      have tl := G.len
      refine s_when (b := decide (kf i = .cl)) (by rw [← hkf]; exact kd_rd (ex_l e2 hl) (e2 _ _ g0) (show atI [V.ref ao, .ref ap, .ref ac] 2 = some (.ref ac) from rfl) (e2 _ _ g3) hcl rfl rfl rfl hi') (fun hb H3 e3 => ?_) (fun hb H3 e3 => ?_)
      · have hk : kf i = .cl := of_decide_eq_true hb
        have nTH : H T = none := nT
        -- behind the search what is found is as behind the step
        refine ⟨_, rfl, _, _, rfl, rfl, ?_⟩
        refine s_while (fun m σ' H' => (∃ z : Int, σ' = [some (.ref s), some (.ref l), some (.ref T), some (nV i), some (.int z), none] ∧ -1 ≤ z ∧ z < (i : Int) ∧ (∀ b ∈ st, (b : Int) ≤ z) ∧ m = (z + 1).toNat + 1 ∧ Ex H H' ∧ H' T = some (tO t)) ∨ (∃ z : Int, σ' = [some (.ref s), some (.ref l), some (.ref T), some (nV i), some (.int z), none] ∧ m = 0 ∧ Ex H H' ∧ H' T = some (tO (step kf i (t, st)).1) ∧ ∃ b, tv (step kf i (t, st)).1 i = some b)) (((i : Int) - 1 + 1).toNat + 1) (.inl ⟨(i : Int) - 1, rfl, by omega, by omega, fun b hb' => by have := (G.bd b hb').1; omega, rfl, e2.trans e3, e3 _ _ hT2⟩) ?_
        rintro m σ' H4 (⟨z, rfl, z1, z2, hz, hm, e4, hT4⟩ | ⟨z, rfl, hm, e4, hT4, b, hb'⟩)
        · -- still seeking
          have tvi : tv t i = none := G.hi i (Nat.le_refl _)
          refine ⟨decide (0 ≤ z), ?_, fun hb' H5 e5 => ?_, fun hb' H5 e5 => ?_⟩
          · refine et_is (et_and (et_test (ev_op (ev_var rfl) ev_c rv_I0)) (fun _ => none_rd (K := K) (a := i) (sq_of hT4) rfl rfl (by omega))) ?_
            rw [tvi]
            simp
          · have z0 : 0 ≤ z := of_decide_eq_true hb'
            obtain ⟨a, rfl⟩ : ∃ a : Nat, z = (a : Int) := ⟨z.toNat, by omega⟩
            have ha : a < i := by omega
            have hT5 := e5 _ _ hT4
            have e45 := e4.trans e5
            refine ⟨fun σ2 H6 => (∃ z' : Int, σ2 = [some (.ref s), some (.ref l), some (.ref T), some (nV i), some (.int z'), none] ∧ -1 ≤ z' ∧ z' < (a : Int) ∧ (∀ b ∈ st, (b : Int) ≤ z') ∧ Ex H H6 ∧ H6 T = some (tO t)) ∨ (∃ z' : Int, σ2 = [some (.ref s), some (.ref l), some (.ref T), some (nV i), some (.int z'), none] ∧ Ex H H6 ∧ H6 T = some (tO (step kf i (t, st)).1) ∧ ∃ b, tv (step kf i (t, st)).1 i = some b), ?_, ?_⟩
            · rintro σ2 H6 (⟨z', rfl, q1, q2, q3, q4, q5⟩ | ⟨z', rfl, q4, q5, q6⟩)
              · exact ⟨(z' + 1).toNat + 1, by omega, .inl ⟨z', rfl, q1, by omega, q3, rfl, q4, q5⟩⟩
              · exact ⟨0, by omega, .inr ⟨z', rfl, rfl, q4, q5, q6⟩⟩
            · refine q_if (b := decide (kf a = .cl) && !decide (tv t a = none)) (et_and (by rw [← hkf]; exact kd_rd (ex_l e45 hl) (e45 _ _ g0) (show atI [V.ref ao, .ref ap, .ref ac] 2 = some (.ref ac) from rfl) (e45 _ _ g3) hcl rfl rfl rfl (by omega)) (fun _ => some_rd (K := K) (a := a) (sq_of hT5) rfl rfl (by omega))) (fun h1 H6 e6 => ?_) (fun h1 H6 e6 => ?_)
              · -- over an answered close
                rw [Bool.and_eq_true] at h1
                have hka : kf a = .cl := of_decide_eq_true h1.1
                cases hta : tv t a with
                | none =>
                  rw [hta] at h1
                  exact absurd h1.2 (by decide)
                | some j =>
                  obtain ⟨p1, p2, p3, p4⟩ := G.pr a j hta
                  rcases p4 with ⟨c1, _⟩ | ⟨_, c2, c3, c4⟩
                  · rw [hka] at c1
                    cases c1
                  · refine ⟨_, rfl, _, rfl, T, _, _, nV j, rfl, rfl, sq_of (e6 _ _ hT5), by rw [show nV j = oV (tv t a) by rw [hta]; rfl]; exact t_at (by omega), _, rfl, _, _, rfl, rfl, ?_⟩
                    refine .inl ⟨(j : Int) - 1, rfl, by omega, by omega, fun b hb2 => ?_, e45.trans e6, e6 _ _ hT5⟩
                    have := hz b hb2
                    have := c4 b hb2
                    omega
              · refine s_if (b := decide (kf a = .op) && decide (tv t a = none)) (et_and (by rw [← hkf]; exact kd_rd (ex_l (e45.trans e6) hl) ((e45.trans e6) _ _ g0) (show atI [V.ref ao, .ref ap, .ref ac] 0 = some (.ref ao) from rfl) ((e45.trans e6) _ _ g1) hop rfl rfl rfl (by omega)) (fun _ => none_rd (K := K) (a := a) (sq_of (e6 _ _ hT5)) rfl rfl (by omega))) (fun h2 H7 e7 => ?_) (fun h2 H7 e7 => ?_)
                · -- the open that waits
                  rw [Bool.and_eq_true] at h2
                  have hka : kf a = .op := of_decide_eq_true h2.1
                  have hta : tv t a = none := of_decide_eq_true h2.2
                  have hm' := G.opn a ha hka hta
                  cases st with
                  | nil => exact (List.not_mem_nil hm').elim
                  | cons b r =>
                    have hba : b = a := by
                      obtain ⟨s1, s2⟩ := List.pairwise_cons.mp G.srt
                      have h3 := hz b (List.mem_cons_self ..)
                      rcases List.mem_cons.mp hm' with x | x
                      · exact x.symm
                      · have := s1 a x
                        omega
                    subst hba
                    have hst : step kf i (t, b :: r) = ((t.set b (some i)).set i (some b), r) := by
                      unfold step
                      rw [hk]
                    have hT7 := e7 _ _ (e6 _ _ hT5)
                    have e47 := (e45.trans e6).trans e7
                    refine ⟨_, rfl, _, rfl, _, rfl, T, _, _, b, rfl, rfl, hT7, ixN_nat (by rw [List.length_map]; omega), ?_⟩
                    refine ⟨_, rfl, _, rfl, _, rfl, T, _, _, i, rfl, rfl, upd_same, ixN_nat (by rw [List.length_set, List.length_map]; omega), _, rfl, _, _, rfl, rfl, ?_⟩
                    refine .inr ⟨(b : Int) - 1, rfl, (e47.mut nTH).mut nTH, ?_, ?_⟩
                    · rw [upd_same, hst]
                      show some (HO.lst (((t.map oV).set b (oV (some i))).set i (oV (some b)))) = some (tO ((t.set b (some i)).set i (some b)))
                      rw [← List.map_set, ← List.map_set]
                    · rw [hst]
                      refine ⟨b, ?_⟩
                      show tv ((t.set b (some i)).set i (some b)) i = some b
                      rw [tv_set (by rw [List.length_set]; omega), if_pos rfl]
                · -- neither
                  refine ⟨_, rfl, _, _, rfl, rfl, .inl ⟨(a : Int) - 1, rfl, by omega, by omega, fun b hb2 => ?_, (e45.trans e6).trans e7, e7 _ _ (e6 _ _ hT5)⟩⟩
                  have h3 := hz b hb2
                  have h4 : b ≠ a := fun x => by
                    subst x
                    obtain ⟨_, c2, c3⟩ := G.bd b hb2
                    rw [decide_eq_true c2, decide_eq_true c3] at h2
                    cases h2
                  omega
          · -- none waits
            have z0 : ¬ 0 ≤ z := of_decide_eq_false hb'
            have hst : st = [] := by
              cases st with
              | nil => rfl
              | cons b r =>
                have := hz b (List.mem_cons_self ..)
                omega
            refine ⟨⟨_, _, rfl⟩, e4.trans e5, ?_⟩
            rw [e5 _ _ hT4]
            unfold step
            rw [hk, hst]
        · -- found
          have hl2 : i < (step kf i (t, st)).1.length := by
            have := (good_run kf ws.length (i + 1) (by omega)).len
            rw [hrun] at this
            omega
          refine ⟨false, ?_, (fun hf => by cases hf), fun _ H5 e5 => ⟨⟨_, _, rfl⟩, e4.trans e5, e5 _ _ hT4⟩⟩
          refine et_is (et_and (et_test (ev_op (ev_var rfl) ev_c rv_I0)) (fun _ => none_rd (K := K) (a := i) (sq_of hT4) rfl rfl hl2)) ?_
          rw [hb', show decide ((some b : Option Nat) = none) = false from rfl, Bool.and_false]
      · refine ⟨⟨_, _, rfl⟩, e2.trans e3, ?_⟩
        rw [e3 _ _ hT2]
        unfold step
        cases hk : kf i with
        | pl => rfl
        | op => rfl
        | cl =>
          rw [decide_eq_true hk] at hb
          cases hb
    · rintro σ H2 ⟨⟨y3, y4, rfl⟩, e2, hT2⟩
      rw [n0, Int.toNat_natCast] at hT2
      refine ⟨_, rfl, q T H2 e2 nT ?_⟩
      unfold ansOf
      rw [hkf]
      exact hT2
end
end Eh
set_option Elab.async false
set_option linter.all false
set_option maxRecDepth 100000
set_option maxHeartbeats 4000000
namespace Eh
open PySem PySem.Spec PyProof.Rows L2 Evl
abbrev nIsOwn : List Str := ["great", "place"]
theorem scIsOwn : FnScope nIsOwn ["great", "place"] (defScope sIsOwn) := ⟨rfl, rfl, rfl, by decide +kernel, rfl, by decide +kernel, by decide +kernel⟩
abbrev nSteppedIn : List Str := ["great", "place", "size", "before", "part"]
theorem scSteppedIn : FnScope nSteppedIn ["great", "place"] (defScope sSteppedIn) := ⟨rfl, rfl, rfl, by decide +kernel, rfl, by decide +kernel, by decide +kernel⟩
abbrev nPartAt : List Str := ["great", "place", "ahead", "part", "before"]
theorem scPartAt : FnScope nPartAt ["great", "place"] (defScope sPartAt) := ⟨rfl, rfl, rfl, by decide +kernel, rfl, by decide +kernel, by decide +kernel⟩
theorem ev_tagS {K : PySem.W.Frag} {σ : L2.St} {H : Hp} {t : Addr} {i : Nat} {s z : Str} {r : List V} (h0 : σ[i]? = some (some (.ref t))) (ht : H t = some (.tup (.str s :: r))) : EvT (tTest (tOp rEq (tOp (rIxT K) (tVar i) (tC (.int 0))) (tC (.str z)))) σ H (decide (V.str s = .str z)) :=
  et_test (ev_op (ev_op (ev_var h0) ev_c (rv_ixT (st_of ht) (show atI (V.str s :: r) ((0 : Nat) : Int) = some (V.str s) from atI_nat rfl))) ev_c (rv_eq rfl))
theorem ev_itS {K : PySem.W.Frag} {σ : L2.St} {H : Hp} {t : Addr} {xs : List V} {j i : Nat} {v : V} (h0 : σ[j]? = some (some (.ref t))) (ht : H t = some (.tup xs)) (hv : xs[i]? = some v) : Ev (tOp (rIxT K) (tVar j) (tC (.int (i : Int)))) σ H v :=
  ev_op (ev_var h0) ev_c (rv_ixT (st_of ht) (atI_nat hv))
def ownOf (xs : List V) (W : List Str) (pl : Nat) : Bool := match xs with
  | .str s :: .int k :: _ => decide (V.str s = .str "wrap") && (decide ((pl : Int) < k) || decide ((W.length : Int) - k ≤ (pl : Int)))
  | v :: _ => decide (v = .str "word")
  | [] => false
def spOwn (os ls qs : List Str) (n : Nat) : Sp := fun vs H Q _ => ∃ (t : Addr) (xs ps : List V) (Ws : List (List Str)) (W : List Str) (pl : Nat), vs = [.ref t, .int (pl : Int)] ∧ H t = some (.tup xs) ∧ GS os ls qs H (GAt os ls qs H n) xs ps Ws W ∧ n + 1 ≤ 20 ∧ RetV (.bl (ownOf xs W pl)) H Q
def spStep (os ls qs : List Str) (n : Nat) : Sp := fun vs H Q _ => ∃ (t : Addr) (xs ps : List V) (Ws : List (List Str)) (W : List Str) (pl : Nat), vs = [.ref t, .int (pl : Int)] ∧ H t = some (.tup xs) ∧ GS os ls qs H (GAt os ls qs H n) xs ps Ws W ∧ n + 1 ≤ 20 ∧ pl < W.length ∧ ownOf xs W pl = false ∧
  ∀ (r : Addr) (part : V) (A Wp B : List Str) (H' : Hp), Ex H H' → H' r = some (.tup [part, .int (A.length : Int)]) → GAt os ls qs H' n part Wp → W = A ++ Wp ++ B → A.length ≤ pl → pl < A.length + Wp.length → Q (.ref r) H'
def spPart (os ls qs : List Str) (n : Nat) : Sp := fun vs H Q _ => ∃ (v : V) (W : List Str) (place : Nat), vs = [v, .int (place : Int)] ∧ GAt os ls qs H n v W ∧ n ≤ 20 ∧ place < W.length ∧
  ∀ (r t : Addr) (xs ps : List V) (Ws : List (List Str)) (m at_ : Nat) (A Wg B : List Str) (H' : Hp), Ex H H' → H' r = some (.tup [.ref t, .int (at_ : Int), .int (A.length : Int)]) → H' t = some (.tup xs) → GS os ls qs H' (GAt os ls qs H' m) xs ps Ws Wg → m + 1 ≤ n → ownOf xs Wg at_ = true → W = A ++ Wg ++ B → A.length + at_ = place → at_ < Wg.length → Q (.ref r) H'
/-- a promise for any depth below n -/
def spAny (n : Nat) (sp : Nat → Sp) : Sp := fun vs H Q E => ∃ m, m < n ∧ sp m vs H Q E
theorem fn_any {P : Program} {w : World} {K : PySem.W.Frag} {mg : Str → Option Value} {base : Heap} {CX : CXT} {k : Nat} {f : Addr} {fd : FuncData} {ps : List Str} {n : Nat} {sp : Nat → Sp} (_ : n = n) (h : ∀ m, m < n → FnOk P w K mg base CX k f fd ps (sp m)) : FnOk P w K mg base CX k f fd ps (spAny n sp) := ⟨fun _ _ _ _ ⟨m, hm, z⟩ => (h m hm).1 _ _ _ _ z, fun _ _ _ _ _ _ _ _ a b c d e ⟨m, hm, z⟩ => (h m hm).2 _ _ _ _ _ _ _ _ a b c d e z⟩
theorem rep_split {k m : Nat} (W : List Str) (h : m < k) : (List.replicate k W).flatten = (List.replicate m W).flatten ++ W ++ (List.replicate (k - m - 1) W).flatten := by
  rw [show k = m + (1 + (k - m - 1)) by omega, ← List.replicate_append_replicate, ← List.replicate_append_replicate]
  rw [List.flatten_append, List.flatten_append, show m + (1 + (k - m - 1)) - m - 1 = k - m - 1 by omega, List.append_assoc]
  show _ ++ ((W ++ []) ++ _) = _
  rw [List.append_nil]
theorem div_in {pl k s : Nat} (h : pl < k * s) : 0 < s ∧ pl / s < k ∧ pl / s * s ≤ pl ∧ pl < pl / s * s + s := by
  have hs : 0 < s := by
    rcases Nat.eq_zero_or_pos s with z | z
    · rw [z, Nat.mul_zero] at h
      omega
    · exact z
  have h1 := Nat.div_add_mod pl s
  have h2 := Nat.mod_lt pl hs
  rw [Nat.mul_comm] at h1
  exact ⟨hs, (Nat.div_lt_iff_lt_mul hs).mpr h, by omega, by omega⟩
section
variable {P : Program} {w : World} {K : PySem.W.Frag} {mg : Str → Option Value} {base : Heap} {os ls qs : List Str}
theorem ok_isOwn {f fl : Addr} {fd dl : FuncData} {n k : Nat} (F : Fun K "is_own" "is_own" sIsOwn f fd) (Flength_of : Fun K "length_of" "length_of" sLengthOf fl dl) (blength_of : Binds K dl ["great"] []) (glength_of : mg "length_of" = some (.ref fl)) (Glength_of : FnOk P w K mg base CX0 (k + 1) fl dl ["great"] (spLen os ls qs (n + 1))) : FnOk P w K mg base CX0 (k + 2) f fd ["great", "place"] (spOwn os ls qs n) := by
  have nd := scIsOwn.nd
  refine F.ok scIsOwn (fun vs H Q E h => ?_) (fun cdv A outer s H vs Q E hr h => ?_)
  · obtain ⟨t, xs, ps, Ws, W, pl, rfl, _⟩ := h
    rfl
  · obtain ⟨t, xs, ps, Ws, W, pl, rfl, ht, hg, hn, q⟩ := h
    refine ⟨_, (pss_cons (ps_if (pt_cmpR op_eq (pe_ix ix_tup (pv 0) pe_int (fun _ _ => rfl)) pe_str (nomark _)) (pss_one (ps_ret (pe_or (pe_cmpR op_lt (pv 1) (pe_ix ix_tup (pv 0) pe_int (fun _ _ => rfl)) (nomark _)) (pe_one (pe_cmpR op_ge (pv 1) (pe_op op_sub (pe_call Glength_of hr (by rfl) glength_of Flength_of.kp blength_of .nil pass0 (pa_cons (pv 0) pa_nil)) (pe_ix ix_tup (pv 0) pe_int (fun _ _ => rfl))) (nomark _)))))) pss_nil)
      (pss_one (ps_ret (pe_cmpR op_eq (pe_ix ix_tup (pv 0) pe_int (fun _ _ => rfl)) pe_str (nomark _))))), ?_⟩
    have hG : GAt os ls qs H (n + 1) (.ref t) W := ⟨t, xs, ps, Ws, rfl, ht, hg⟩
    cases hg with
    | word hu hl hm hb => exact q_when (ev_tagS rfl ht) (fun h => absurd h (by decide)) fun _ H1 e1 => s_ret (ev_op (ev_itS (i := 0) rfl (e1 _ _ ht) rfl) ev_c (rv_eq rfl)) fun H2 e2 => q.go (e1.trans e2)
    | row hu hr hl => exact q_when (ev_tagS rfl ht) (fun h => absurd h (by decide)) fun _ H1 e1 => s_ret (ev_op (ev_itS (i := 0) rfl (e1 _ _ ht) rfl) ev_c (rv_eq rfl)) fun H2 e2 => q.go (e1.trans e2)
    | again hk hr => exact q_when (ev_tagS rfl ht) (fun h => absurd h (by decide)) fun _ H1 e1 => s_ret (ev_op (ev_itS (i := 0) rfl (e1 _ _ ht) rfl) ev_c (rv_eq rfl)) fun H2 e2 => q.go (e1.trans e2)
    | wrap hk ha hc hr =>
      refine q_when (ev_tagS rfl ht) (fun _ H1 e1 => ?_) (fun h => absurd h (by decide))
      refine s_ret (ev_orV (ev_op (ev_var rfl) (ev_itS (i := 1) rfl (e1 _ _ ht) rfl) rv_I0) fun _ => ev_op (ev_var rfl) (ev_op (ev_call (ea_cons (ev_var rfl) ea_nil) fun H2 e2 Q q E => ⟨_, _, rfl, hG.ex (e1.trans e2), hn, fun H3 e3 => q H3 e3⟩) (ev_itS (i := 1) rfl (e1 _ _ ht) rfl) rv_I0) rv_I0) fun H4 e4 => ?_
      exact q.go (e1.trans e4)
theorem ok_steppedIn {f fl : Addr} {fd dl : FuncData} {n k : Nat} (F : Fun K "stepped_in" "stepped_in" sSteppedIn f fd) (Flength_of : Fun K "length_of" "length_of" sLengthOf fl dl) (blength_of : Binds K dl ["great"] []) (glength_of : mg "length_of" = some (.ref fl)) (Glength_of : FnOk P w K mg base CX0 (k + 1) fl dl ["great"] (spLen os ls qs n)) : FnOk P w K mg base CX0 (k + 2) f fd ["great", "place"] (spStep os ls qs n) := by
  have nd := scSteppedIn.nd
  refine F.ok scSteppedIn (fun vs H Q E h => ?_) (fun cdv A outer s H vs Q E hr h => ?_)
  · obtain ⟨t, xs, ps, Ws, W, pl, rfl, _⟩ := h
    rfl
  · obtain ⟨t, xs, ps, Ws, W, pl, rfl, ht, hg, hn, hpl, hown, q⟩ := h
    refine ⟨_, (pss_cons (ps_if (pt_cmpR op_eq (pe_ix ix_tup (pv 0) pe_int (fun _ _ => rfl)) pe_str (nomark _)) (pss_one (ps_ret (pe_tup (pa_cons (pe_ix ix_tup (pv 0) pe_int (fun _ _ => rfl)) (pa_cons (pe_ix ix_tup (pv 0) pe_int (fun _ _ => rfl)) pa_nil))))) pss_nil)
      (pss_cons (ps_if (pt_cmpR op_eq (pe_ix ix_tup (pv 0) pe_int (fun _ _ => rfl)) pe_str (nomark _)) (pss_cons (ps_set (i := 2) nd rfl (.inl rfl) (pe_call Glength_of hr (by rfl) glength_of Flength_of.kp blength_of .nil pass0 (pa_cons (pe_ix ix_tup (pv 0) pe_int (fun _ _ => rfl)) pa_nil)))
      (pss_one (ps_ret (pe_tup (pa_cons (pe_ix ix_tup (pv 0) pe_int (fun _ _ => rfl)) (pa_cons (pe_op op_mulW (pe_op op_fdivW (pv 1) (pv 2)) (pv 2)) pa_nil)))))) pss_nil)
      (pss_cons (ps_set (i := 3) nd rfl (.inl rfl) pe_int)
      (pss_cons (ps_for PassesOwn.never rfl (pi_tup (pe_ix ix_tup (pv 0) pe_int (fun _ _ => rfl))) (pg_name (i := 4) nd rfl (.inl rfl)) (pss_cons (ps_set (i := 2) nd rfl (.inl rfl) (pe_call Glength_of hr (by rfl) glength_of Flength_of.kp blength_of .nil pass0 (pa_cons (pv 4) pa_nil)))
      (pss_cons (ps_if (pt_cmpR op_lt (pv 1) (pe_op op_add (pv 3) (pv 2)) (nomark _)) (pss_one (ps_ret (pe_tup (pa_cons (pv 4) (pa_cons (pv 3) pa_nil))))) pss_nil)
      (pss_one (ps_aug (i := 3) nd rfl (.inl rfl) (pv 2) ip_add)))))
      (pss_one (ps_ret pe_non)))))), ?_⟩
    have call : ∀ {σ : L2.St} {te : TE} {x : V} {W' : List Str} (H1 : Hp), Ex H H1 → Ev te σ H1 x → GAt os ls qs H n x W' → Ev (tCall (spLen os ls qs n) [] E0 (tCons te tNil)) σ H1 (.int (W'.length : Int)) := fun {σ te x W'} H1 e1 hx hR => ev_call (ea_cons hx ea_nil) fun H2 e2 Q q E => ⟨x, W', rfl, hR.ex (e1.trans e2), by omega, fun H3 e3 => q H3 e3⟩
    cases hg with
    | word hu hl hm hb => exact absurd hown (by show ¬ decide (V.str "word" = V.str "word") = false; decide)
    | @wrap k' a c p W' hk ha hc hr' =>
      refine q_when (ev_tagS rfl ht) (fun _ H1 e1 => ?_) (fun h => absurd h (by decide))
      refine s_retU (eu_tup (ea_cons (ev_itS (i := 3) rfl (e1 _ _ ht) rfl) (ea_cons (ev_itS (i := 1) rfl (e1 _ _ ht) rfl) ea_nil)) (by show 2 ≤ 100000; decide)) fun r H2 nr e2 hr2 => ?_
      have hh : ¬ ((pl : Int) < (k' : Int)) ∧ ¬ (((List.replicate k' a ++ W' ++ List.replicate k' c).length : Int) - (k' : Int) ≤ (pl : Int)) := by
        replace hown : (decide (V.str "wrap" = V.str "wrap") && (decide ((pl : Int) < (k' : Int)) || decide (((List.replicate k' a ++ W' ++ List.replicate k' c).length : Int) - (k' : Int) ≤ (pl : Int)))) = false := hown
        rw [decide_eq_true rfl, Bool.true_and] at hown
        have := Bool.or_eq_false_iff.mp hown
        exact ⟨of_decide_eq_false this.1, of_decide_eq_false this.2⟩
      have hlen : (List.replicate k' a ++ W' ++ List.replicate k' c).length = k' + W'.length + k' := by rw [List.length_append, List.length_append, List.length_replicate, List.length_replicate]
      refine q r p (List.replicate k' a) W' (List.replicate k' c) H2 (e1.trans e2) ?_ (hr'.ex (e1.trans e2)) rfl ?_ ?_
      · rw [List.length_replicate]
        exact hr2
      · rw [List.length_replicate]
        omega
      · rw [List.length_replicate]
        omega
    | @again k' p W' hk hr' =>
      refine q_when (ev_tagS rfl ht) (fun h => absurd h (by decide)) fun _ H1 e1 => q_when (ev_tagS rfl (e1 _ _ ht)) (fun _ H2 e2 => ?_) (fun h => absurd h (by decide))
      have e12 := e1.trans e2
      rw [rep_len] at hpl
      obtain ⟨d1, d2, d3, d4⟩ := div_in hpl
      have hb := GAt.bits _ _ _ hr'
      refine q_asg (call H2 e12 (ev_itS (i := 2) rfl (e12 _ _ ht) rfl) hr') fun H3 e3 => ?_
      have e13 := e12.trans e3
      have hlog : ((W'.length : Int)).natAbs.log2 < 300 * n + 1 := log_of (Nat.lt_of_lt_of_le hb (Nat.pow_le_pow_right (by decide) (by omega))) (by omega)
      have hdv : ((pl : Int) / (W'.length : Int)) = ((pl / W'.length : Nat) : Int) := by rw [Int.natCast_ediv]
      refine s_retU (eu_tup (ea_cons (ev_itS (i := 2) rfl (e13 _ _ ht) rfl) (ea_cons (ev_op (ev_op (ev_var rfl) (ev_var rfl) (rv_I ⟨by omega, by omega⟩)) (ev_var rfl) (rv_I ?_)) ea_nil)) (by show 2 ≤ 100000; decide)) fun r H4 nr e4 hr4 => ?_
      · rw [hdv]
        exact mulW_of (n := n) (by omega) hb (by omega)
      · have e14 := e13.trans e4
        have hl2 : (List.replicate (pl / W'.length) W').flatten.length = pl / W'.length * W'.length := rep_len _ _
        refine q r p (List.replicate (pl / W'.length) W').flatten W' (List.replicate (k' - pl / W'.length - 1) W').flatten H4 e14 ?_ (hr'.ex e14) (rep_split W' d2) (by omega) (by omega)
        rw [hl2, Int.natCast_mul, ← hdv]
        exact hr4
    | @row u ps Ws hu hr' hl =>
      refine q_when (ev_tagS rfl ht) (fun h => absurd h (by decide)) fun _ H1 e1 => q_when (ev_tagS rfl (e1 _ _ ht)) (fun h => absurd h (by decide)) fun _ H2 e2 => q_asg ev_c fun H3 e3 => ?_
      have e13 := (e1.trans e2).trans e3
      have hlW := All2.len _ _ hr'
      refine q_forT (ev_itS (i := 1) rfl (e13 _ _ ht) rfl) (st_of (e13 _ _ hu)) (fun i σ' H' => (∃ y2 y4, σ' = [some (.ref t), some (.int (pl : Int)), y2, some (.int ((Ws.take i).flatten.length : Int)), y4]) ∧ Ex H H' ∧ (Ws.take i).flatten.length ≤ pl) (fun H4 e4 => ⟨⟨_, _, rfl⟩, e13.trans e4, Nat.zero_le _⟩) ?_ ?_ ?_
      · rintro i σ' H' _ ⟨_, eH, _⟩
        exact st_of (eH _ _ hu)
      · rintro i x σ' H' hi ⟨⟨y2, y4, rfl⟩, eH, hle⟩
        obtain ⟨W', hW, hR⟩ := All2.at _ _ hr' i x hi
        have hiW := (List.getElem?_eq_some_iff.mp hW)
        have et : Ws.take (i + 1) = Ws.take i ++ [W'] := by rw [List.take_succ, hW]; rfl
        have el : (Ws.take (i + 1)).flatten.length = (Ws.take i).flatten.length + W'.length := by
          rw [et, List.flatten_append, List.length_append]
          show _ + (W' ++ []).length = _
          rw [List.append_nil]
        refine q_asg (call H' eH (ev_var rfl) hR) fun H5 e5 => ?_
        have e05 := eH.trans e5
        refine q_when (et_test (ev_op (ev_var rfl) (ev_op (ev_var rfl) (ev_var rfl) rv_I0) rv_I0)) (fun hb H6 e6 => ?_) (fun hb H6 e6 => ?_)
        · replace hb := of_decide_eq_true hb
          refine s_retU (eu_tup (ea_cons (ev_var rfl) (ea_cons (ev_var rfl) ea_nil)) (by show 2 ≤ 100000; decide)) fun r H7 nr e7 hr7 => ?_
          have e07 := (e05.trans e6).trans e7
          refine q r x (Ws.take i).flatten W' (Ws.drop (i + 1)).flatten H7 e07 hr7 (hR.ex e07) ?_ hle (by omega)
          conv => lhs; rw [← List.take_append_drop (i + 1) Ws, et]
          rw [List.flatten_append, List.flatten_append]
          show _ ++ (W' ++ []) ++ _ = _
          rw [List.append_nil]
        · replace hb := of_decide_eq_false hb
          refine s_aug rfl (ev_var rfl) fun H7 e7 => ⟨⟨some (.int (W'.length : Int)), some x, ?_⟩, (e05.trans e6).trans e7, by rw [el]; omega⟩
          rw [el, Int.natCast_add]
          rfl
      · rintro σ' H' ⟨_, _, hle⟩
        exfalso
        rw [hlW, List.take_length] at hle
        omega
theorem ok_partAt {f fO fS : Addr} {fd dO dS : FuncData} {n k : Nat} (F : Fun K "part_at" "part_at" sPartAt f fd) (Fis_own : Fun K "is_own" "is_own" sIsOwn fO dO) (GO : ∀ m, m < n → FnOk P w K mg base CX0 (k + 1) fO dO ["great", "place"] (spOwn os ls qs m)) (bis_own : Binds K dO ["great", "place"] []) (gis_own : mg "is_own" = some (.ref fO)) (Fstepped_in : Fun K "stepped_in" "stepped_in" sSteppedIn fS dS) (GS' : ∀ m, m < n → FnOk P w K mg base CX0 (k + 1) fS dS ["great", "place"] (spStep os ls qs m)) (bstepped_in : Binds K dS ["great", "place"] []) (gstepped_in : mg "stepped_in" = some (.ref fS)) : FnOk P w K mg base CX0 (k + 2) f fd ["great", "place"] (spPart os ls qs n) := by
  have nd := scPartAt.nd
  have Gis_own : FnOk P w K mg base CX0 (k + 1) fO dO ["great", "place"] (spAny n (spOwn os ls qs)) := fn_any rfl GO
  have Gstepped_in : FnOk P w K mg base CX0 (k + 1) fS dS ["great", "place"] (spAny n (spStep os ls qs)) := fn_any rfl GS'
  refine F.ok scPartAt (fun vs H Q E h => ?_) (fun cdv A outer s H vs Q E hr h => ?_)
  · obtain ⟨v, W, place, rfl, _⟩ := h
    rfl
  · obtain ⟨v, W, place, rfl, hG, hn, hpl, q⟩ := h
    refine ⟨_, (pss_cons (ps_set (i := 2) nd rfl (.inl rfl) pe_int)
      (pss_cons (ps_while PassesOwn.never (pt_not (pt_val (pe_call Gis_own hr (by rfl) gis_own Fis_own.kp bis_own .nil pass0 (pa_cons (pv 0) (pa_cons (pv 1) pa_nil))))) (pss_cons (ps_asg (pe_call Gstepped_in hr (by rfl) gstepped_in Fstepped_in.kp bstepped_in .nil pass0 (pa_cons (pv 0) (pa_cons (pv 1) pa_nil))) (pg_tup rfl (pgs_cons (pg_name (i := 3) nd rfl (.inl rfl)) (pgs_cons (pg_name (i := 4) nd rfl (.inl rfl)) pgs_nil))))
      (pss_one (ps_par3 (i := 0) (j := 1) (l := 2) (by rfl) nd rfl rfl rfl (by decide) (by decide) (by decide) rfl rfl rfl (pa_cons (pv 3) (pa_cons (pe_op op_sub (pv 1) (pv 4)) (pa_cons (pe_op op_add (pv 2) (pv 4)) pa_nil))) (by rfl)))))
      (pss_one (ps_ret (pe_tup (pa_cons (pv 0) (pa_cons (pv 1) (pa_cons (pv 2) pa_nil)))))))), ?_⟩
    refine q_asg ev_c fun H0 e0 => ?_
    refine q_while (fun m σ' H' => ∃ (g : V) (pl : Nat) (A Wg B : List Str) (y3 y4 : Option V), σ' = [some g, some (.int (pl : Int)), some (.int (A.length : Int)), y3, y4] ∧ Ex H H' ∧ GAt os ls qs H' m g Wg ∧ m ≤ n ∧ W = A ++ Wg ++ B ∧ A.length + pl = place ∧ pl < Wg.length) n ⟨v, place, [], W, [], none, none, rfl, e0, hG.ex e0, Nat.le_refl _, by rw [List.append_nil]; rfl, Nat.zero_add _, hpl⟩ ?_
    rintro m σ' H' ⟨g, pl, A, Wg, B, y3, y4, rfl, eH, hg, hm, hW, hat, hlt⟩
    cases m with
    | zero => exact hg.elim
    | succ m =>
      obtain ⟨t, xs, ps, Ws, rfl, ht, hgs⟩ := hg
      have ob : EvT (tNot (tB (tCall (spAny n (spOwn os ls qs)) [] E0 (tCons (tVar 0) (tCons (tVar 1) tNil))))) [some (.ref t), some (.int (pl : Int)), some (.int (A.length : Int)), y3, y4] H' (!ownOf xs Wg pl) := et_not (et_B (ev_call (ea_cons (ev_var rfl) (ea_cons (ev_var rfl) ea_nil)) fun H2 e2 Q q E => ⟨m, by omega, t, xs, ps, Ws, Wg, pl, rfl, e2 _ _ ht, hgs.keep (R' := GAt os ls qs H2 m) (fun b xs z => e2 b _ z) fun v W z => z.ex e2, by omega, fun H3 e3 => q H3 e3⟩))
      refine ⟨_, ob, fun hb H1 e1 => ?_, fun hb H1 e1 => ?_⟩
      · have hown : ownOf xs Wg pl = false := by
          cases h : ownOf xs Wg pl with
          | false => rfl
          | true => rw [h] at hb; cases hb
        refine ⟨fun σ2 H2 => ∃ m', m' < m + 1 ∧ ∃ (g : V) (pl : Nat) (A Wg B : List Str) (y3 y4 : Option V), σ2 = [some g, some (.int (pl : Int)), some (.int (A.length : Int)), y3, y4] ∧ Ex H H2 ∧ GAt os ls qs H2 m' g Wg ∧ m' ≤ n ∧ W = A ++ Wg ++ B ∧ A.length + pl = place ∧ pl < Wg.length, fun _ _ z => z, ?_⟩
        refine ⟨_, rfl, _, rfl, m, by omega, t, xs, ps, Ws, Wg, pl, rfl, e1 _ _ ht, hgs.keep (R' := GAt os ls qs H1 m) (fun b xs z => e1 b _ z) fun v W z => z.ex e1, by omega, hlt, hown, fun r part A2 Wp B2 H2 e2 hr2 hp2 hW2 h3 h4 => ?_⟩
        refine ⟨r, _, rfl, st_of hr2, rfl, part, _, rfl, _, _, rfl, rfl, _, rfl, _, rfl, _, rfl, _, _, rfl, rfl, _, rfl, _, rfl, _, _, rfl, rfl, _, _, _, rfl, m, by omega, part, pl - A2.length, A ++ A2, Wp, B2 ++ B, some part, some (.int (A2.length : Int)), ?_, (eH.trans e1).trans e2, hp2, by omega, ?_, ?_, by omega⟩
        · rw [List.length_append, Int.natCast_add, show ((pl - A2.length : Nat) : Int) = (pl : Int) - (A2.length : Int) by omega]
          rfl
        · rw [hW, hW2]
          simp only [List.append_assoc]
        · rw [List.length_append]
          omega
      · have hown : ownOf xs Wg pl = true := by
          cases h : ownOf xs Wg pl with
          | true => rfl
          | false => rw [h] at hb; cases hb
        refine s_retU (eu_tup (ea_cons (ev_var rfl) (ea_cons (ev_var rfl) (ea_cons (ev_var rfl) ea_nil))) (by show 3 ≤ 100000; decide)) fun r H2 nr e2 hr2 => ?_
        have e12 := e1.trans e2
        exact q r t xs ps Ws m pl A Wg B H2 (eH.trans e12) hr2 (e12 _ _ ht) (hgs.keep (fun b xs z => e12 b _ z) fun v W z => z.ex e12) hm hown hW hat hlt
end
end Eh
set_option Elab.async false
set_option linter.all false
set_option maxRecDepth 100000
set_option maxHeartbeats 4000000
namespace Eh
open PySem PySem.Spec PyProof.Rows L2 Evl
abbrev nIsPlace : List Str := ["great", "place"]
theorem scIsPlace : FnScope nIsPlace ["great", "place"] (defScope sIsPlace) := ⟨rfl, rfl, rfl, by decide +kernel, rfl, by decide +kernel, by decide +kernel⟩
abbrev nLetterAt : List Str := ["great", "place", "part", "at", "ahead"]
theorem scLetterAt : FnScope nLetterAt ["great", "place"] (defScope sLetterAt) := ⟨rfl, rfl, rfl, by decide +kernel, rfl, by decide +kernel, by decide +kernel⟩
abbrev nAnswerAt : List Str := ["sheet", "great", "place", "part", "at", "ahead", "told"]
theorem scAnswerAt : FnScope nAnswerAt ["sheet", "great", "place"] (defScope sAnswerAt) := ⟨rfl, rfl, rfl, by decide +kernel, rfl, by decide +kernel, by decide +kernel⟩
def sV : Option Str → V
  | none => .non
  | some x => .str x
def spPlace (os ls qs : List Str) (n : Nat) : Sp := fun vs H Q _ => ∃ (v : V) (W : List Str) (pl : Nat), vs = [v, .int (pl : Int)] ∧ GAt os ls qs H n v W ∧ n ≤ 20 ∧ RetV (.bl (decide (pl < W.length))) H Q
def spLetterAt (os ls qs : List Str) (n : Nat) : Sp := fun vs H Q _ => ∃ (v : V) (W : List Str) (pl : Nat), vs = [v, .int (pl : Int)] ∧ GAt os ls qs H n v W ∧ n ≤ 20 ∧ RetV (sV W[pl]?) H Q
def spAnswerAt (os ls qs : List Str) (n : Nat) : Sp := fun vs H Q _ => ∃ (s : Addr) (v : V) (W : List Str) (pl : Nat), vs = [.ref s, v, .int (pl : Int)] ∧ Sht os ls qs ∧ SheetAt H s os ls qs ∧ GAt os ls qs H n v W ∧ n ≤ 20 ∧ RetV (oV (tv (ansOf os qs W) pl)) H Q
theorem GAt.shut {os ls qs : List Str} (hS : Sht os ls qs) {H : Hp} : ∀ (n : Nat) (v : V) (W : List Str), GAt os ls qs H n v W → bal os qs W 0 = some 0
  | 0, _, _, h => h.elim
  | n + 1, v, W, ⟨t, xs, ps, Ws, e, ht, hg⟩ => by
    cases hg with
    | word hu hl hm hb => exact hb
    | row hu hr hl =>
      refine bal_flat _ fun W hW => ?_
      obtain ⟨v, hv⟩ := All2.mem _ _ hr W hW
      exact GAt.shut hS n v W hv
    | again hk hr =>
      refine bal_flat _ fun W hW => ?_
      rw [List.eq_of_mem_replicate hW]
      exact GAt.shut hS n _ _ hr
    | wrap hk ha hc hr => exact bal_wrap hS ha hc (GAt.shut hS n _ _ hr) _
theorem GS.shut {os ls qs : List Str} (hS : Sht os ls qs) {H : Hp} {n : Nat} {t : Addr} {xs ps : List V} {Ws : List (List Str)} {W : List Str} (ht : H t = some (.tup xs)) (hg : GS os ls qs H (GAt os ls qs H n) xs ps Ws W) : bal os qs W 0 = some 0 := GAt.shut hS (n + 1) (.ref t) W ⟨t, xs, ps, Ws, rfl, ht, hg⟩
theorem mid_at {A G B : List Str} {i : Nat} (h : i < G.length) : (A ++ G ++ B)[A.length + i]? = G[i]? := by
  rw [List.getElem?_append_left (by rw [List.length_append]; omega), List.getElem?_append_right (by omega), Nat.add_sub_cancel_left]
theorem own_wrap {k pl : Nat} {a c : Str} {p : V} {W' W : List Str} (hW : W = List.replicate k a ++ W' ++ List.replicate k c) (h : ownOf [.str "wrap", .int (k : Int), .str a, p, .str c] W pl = true) : pl < k ∨ k + W'.length ≤ pl := by
  have hlen : W.length = k + W'.length + k := by rw [hW, List.length_append, List.length_append, List.length_replicate, List.length_replicate]
  replace h : (decide (V.str "wrap" = V.str "wrap") && (decide ((pl : Int) < (k : Int)) || decide ((W.length : Int) - (k : Int) ≤ (pl : Int)))) = true := h
  rw [decide_eq_true rfl, Bool.true_and] at h
  rcases Bool.or_eq_true_iff.mp h with z | z
  · have := of_decide_eq_true z
    omega
  · have := of_decide_eq_true z
    omega
theorem own_again {k : Int} {p : V} {W : List Str} {pl : Nat} : ownOf [.str "again", .int k, p] W pl = false := by
  show (decide (V.str "again" = V.str "wrap") && (decide ((pl : Int) < k) || decide ((W.length : Int) - k ≤ (pl : Int)))) = false
  rw [decide_eq_false (show ¬ V.str "again" = V.str "wrap" by decide)]
  rfl
theorem rep_at {k i : Nat} {a c : Str} {W : List Str} (h : i < k ∨ k + W.length ≤ i) (hi : i < (List.replicate k a ++ W ++ List.replicate k c).length) : (List.replicate k a ++ W ++ List.replicate k c)[i]? = some (if i < k then a else c) := by
  rw [List.length_append, List.length_append, List.length_replicate, List.length_replicate] at hi
  rcases h with h | h
  · rw [if_pos h, List.append_assoc, List.getElem?_append_left (by rw [List.length_replicate]; exact h), List.getElem?_replicate, if_pos h]
  · rw [if_neg (by omega), List.getElem?_append_right (by rw [List.length_append, List.length_replicate]; omega), List.length_append, List.length_replicate, List.getElem?_replicate, if_pos (by omega)]
section
variable {P : Program} {w : World} {K : PySem.W.Frag} {mg : Str → Option Value} {base : Heap} {os ls qs : List Str}
theorem ok_isPlace {f fl : Addr} {fd dl : FuncData} {n k : Nat} (F : Fun K "is_place" "is_place" sIsPlace f fd) (Flength_of : Fun K "length_of" "length_of" sLengthOf fl dl) (blength_of : Binds K dl ["great"] []) (glength_of : mg "length_of" = some (.ref fl)) (Glength_of : FnOk P w K mg base CX0 (k + 1) fl dl ["great"] (spLen os ls qs n)) : FnOk P w K mg base CX0 (k + 2) f fd ["great", "place"] (spPlace os ls qs n) := by
  have nd := scIsPlace.nd
  refine F.ok scIsPlace (fun vs H Q E h => ?_) (fun cdv A outer s H vs Q E hr h => ?_)
  · obtain ⟨v, W, pl, rfl, _⟩ := h
    rfl
  · obtain ⟨v, W, pl, rfl, hG, hn, q⟩ := h
    refine ⟨_, (pss_one (ps_ret (pe_chain op_le op_lt pe_int (pv 1) (pe_call Glength_of hr (by rfl) glength_of Flength_of.kp blength_of .nil pass0 (pa_cons (pv 0) pa_nil))))), ?_⟩
    refine ⟨_, rfl, _, _, rfl, rfl, _, rfl, ?_⟩
    rw [decide_eq_true (show (0 : Int) ≤ (pl : Int) by omega)]
    refine iteT ⟨_, rfl, v, W, rfl, hG, hn, fun H2 e2 => ⟨_, _, rfl, rfl, ?_⟩⟩
    dsimp only
    rw [show decide ((pl : Int) < (W.length : Int)) = decide (pl < W.length) from decide_eq_decide.mpr Int.ofNat_lt]
    exact q.go e2
theorem ok_letterAt {f fp fa : Addr} {fd dp da : FuncData} {n k : Nat} (F : Fun K "letter_at" "letter_at" sLetterAt f fd) (Fis_place : Fun K "is_place" "is_place" sIsPlace fp dp) (Gis_place : FnOk P w K mg base CX0 (k + 1) fp dp ["great", "place"] (spPlace os ls qs n)) (bis_place : Binds K dp ["great", "place"] []) (gis_place : mg "is_place" = some (.ref fp)) (Fpart_at : Fun K "part_at" "part_at" sPartAt fa da) (Gpart_at : FnOk P w K mg base CX0 (k + 1) fa da ["great", "place"] (spPart os ls qs n)) (bpart_at : Binds K da ["great", "place"] []) (gpart_at : mg "part_at" = some (.ref fa)) : FnOk P w K mg base CX0 (k + 2) f fd ["great", "place"] (spLetterAt os ls qs n) := by
  have nd := scLetterAt.nd
  refine F.ok scLetterAt (fun vs H Q E h => ?_) (fun cdv A outer s H vs Q E hr h => ?_)
  · obtain ⟨v, W, pl, rfl, _⟩ := h
    rfl
  · obtain ⟨v, W, pl, rfl, hG, hn, q⟩ := h
    refine ⟨_, (pss_cons (ps_if (pt_not (pt_val (pe_call Gis_place hr (by rfl) gis_place Fis_place.kp bis_place .nil pass0 (pa_cons (pv 0) (pa_cons (pv 1) pa_nil))))) (pss_one (ps_ret pe_non)) pss_nil)
      (pss_cons (ps_asg (pe_call Gpart_at hr (by rfl) gpart_at Fpart_at.kp bpart_at .nil pass0 (pa_cons (pv 0) (pa_cons (pv 1) pa_nil))) (pg_tup rfl (pgs_cons (pg_name (i := 2) nd rfl (.inl rfl)) (pgs_cons (pg_name (i := 3) nd rfl (.inl rfl)) (pgs_cons (pg_name (i := 4) nd rfl (.inl rfl)) pgs_nil)))))
      (pss_cons (ps_if (pt_cmpR op_eq (pe_ix ix_tup (pv 2) pe_int (fun _ _ => rfl)) pe_str (nomark _)) (pss_one (ps_ret (pe_ix ix_tup (pe_ix ix_tup (pv 2) pe_int (fun _ _ => rfl)) (pv 3) (fun _ _ => rfl)))) pss_nil)
      (pss_one (ps_ret (pe_ifExp (pt_cmpR op_lt (pv 3) (pe_ix ix_tup (pv 2) pe_int (fun _ _ => rfl)) (nomark _)) (pe_ix ix_tup (pv 2) pe_int (fun _ _ => rfl)) (pe_ix ix_tup (pv 2) pe_int (fun _ _ => rfl)))))))), ?_⟩
    have isp : EvT (tNot (tB (tCall (spPlace os ls qs n) [] E0 (tCons (tVar 0) (tCons (tVar 1) tNil))))) [some v, some (.int (pl : Int)), none, none, none] H (!decide (pl < W.length)) := et_not (et_B (ev_call (ea_cons (ev_var rfl) (ea_cons (ev_var rfl) ea_nil)) fun H2 e2 Q q E => ⟨v, W, pl, rfl, hG.ex e2, hn, fun H3 e3 => q H3 e3⟩))
    refine q_when isp (fun hb H1 e1 => ?_) (fun hb H1 e1 => ?_)
    · have hge : W.length ≤ pl := by
        by_cases z : pl < W.length
        · rw [decide_eq_true z] at hb; cases hb
        · omega
      refine s_ret ev_c fun H2 e2 => ?_
      rw [List.getElem?_eq_none hge] at q
      exact q.go (e1.trans e2)
    · have hlt : pl < W.length := by
        by_cases z : pl < W.length
        · exact z
        · rw [decide_eq_false z] at hb; cases hb
      refine ⟨_, rfl, _, rfl, v, W, pl, rfl, hG.ex e1, hn, hlt, fun r t xs ps Ws m at_ A' Wg B H2 e2 hr2 ht hgs hm hown hW hat hatl => ⟨r, _, rfl, st_of hr2, rfl, _, _, rfl, _, _, rfl, _, _, rfl, rfl, ?_⟩⟩
      have e12 := e1.trans e2
      have hWp : W[pl]? = Wg[at_]? := by
        rw [hW, ← hat]
        exact mid_at hatl
      rw [hWp] at q
      show tSeq _ _ _ [some v, some (.int (pl : Int)), some (.ref t), some (.int (at_ : Int)), some (.int (A'.length : Int))] H2
      cases hgs with
      | word hu hl hm' hb' =>
        refine q_when (ev_tagS rfl ht) (fun _ H3 e3 => ?_) (fun h => absurd h (by decide))
        refine s_ret (v := sV Wg[at_]?) (ev_op (ev_itS (i := 1) rfl (e3 _ _ ht) rfl) (ev_var rfl) (rv_ixT (st_of (e3 _ _ hu)) ?_)) fun H4 e4 => q.go ((e12.trans e3).trans e4)
        rw [List.getElem?_eq_getElem hatl]
        exact atI_nat (by rw [List.getElem?_map, List.getElem?_eq_getElem hatl]; rfl)
      | row hu hr' hl => exact absurd hown (by show ¬ decide (V.str "row" = V.str "word") = true; decide)
      | again hk hr' => exact absurd hown (by rw [own_again]; intro z; cases z)
      | @wrap k' a c p W' hk ha hc hr' =>
        have ho := own_wrap rfl hown
        rw [rep_at ho hatl] at q
        refine q_when (ev_tagS rfl ht) (fun h => absurd h (by decide)) fun _ H3 e3 => ?_
        have e13 := e12.trans e3
        refine s_ret (v := .str (if at_ < k' then a else c)) (ev_if (et_test (ev_op (ev_var rfl) (ev_itS (i := 1) rfl (e3 _ _ ht) rfl) rv_I0)) (fun hb' => ?_) (fun hb' => ?_)) fun H4 e4 => q.go (e13.trans e4)
        · have := of_decide_eq_true hb'
          rw [if_pos (by omega)]
          exact ev_itS (i := 2) rfl (e3 _ _ ht) rfl
        · have := of_decide_eq_false hb'
          rw [if_neg (by omega)]
          exact ev_itS (i := 4) rfl (e3 _ _ ht) rfl
theorem ok_answerAt {f fp fa fl fn : Addr} {fd dp da dl dn : FuncData} {n k : Nat} (F : Fun K "answer_at" "answer_at" sAnswerAt f fd) (Fis_place : Fun K "is_place" "is_place" sIsPlace fp dp) (Gis_place : FnOk P w K mg base CX0 (k + 1) fp dp ["great", "place"] (spPlace os ls qs n)) (bis_place : Binds K dp ["great", "place"] []) (gis_place : mg "is_place" = some (.ref fp)) (Fpart_at : Fun K "part_at" "part_at" sPartAt fa da) (Gpart_at : FnOk P w K mg base CX0 (k + 1) fa da ["great", "place"] (spPart os ls qs n)) (bpart_at : Binds K da ["great", "place"] []) (gpart_at : mg "part_at" = some (.ref fa)) (Flength_of : Fun K "length_of" "length_of" sLengthOf fl dl) (blength_of : Binds K dl ["great"] []) (glength_of : mg "length_of" = some (.ref fl)) (Glength_of : FnOk P w K mg base CX0 (k + 1) fl dl ["great"] (spLen os ls qs n)) (Fanswers : Fun K "answers" "answers" sAnswers fn dn) (Ganswers : FnOk P w K mg base CX0 (k + 1) fn dn ["sheet", "word"] (spAnswers K)) (banswers : Binds K dn ["sheet", "word"] []) (ganswers : mg "answers" = some (.ref fn)) (mlist : mg "list" = none) : FnOk P w K mg base CX0 (k + 2) f fd ["sheet", "great", "place"] (spAnswerAt os ls qs n) := by
  have nd := scAnswerAt.nd
  refine F.ok scAnswerAt (fun vs H Q E h => ?_) (fun cdv A outer s H vs Q E hr h => ?_)
  · obtain ⟨s, v, W, pl, rfl, _⟩ := h
    rfl
  · obtain ⟨s, v, W, pl, rfl, hS, hs, hG, hn, q⟩ := h
    refine ⟨_, (pss_cons (ps_if (pt_not (pt_val (pe_call Gis_place hr (by rfl) gis_place Fis_place.kp bis_place .nil pass0 (pa_cons (pv 1) (pa_cons (pv 2) pa_nil))))) (pss_one (ps_ret pe_non)) pss_nil)
      (pss_cons (ps_asg (pe_call Gpart_at hr (by rfl) gpart_at Fpart_at.kp bpart_at .nil pass0 (pa_cons (pv 1) (pa_cons (pv 2) pa_nil))) (pg_tup rfl (pgs_cons (pg_name (i := 3) nd rfl (.inl rfl)) (pgs_cons (pg_name (i := 4) nd rfl (.inl rfl)) (pgs_cons (pg_name (i := 5) nd rfl (.inl rfl)) pgs_nil)))))
      (pss_cons (ps_if (pt_cmpR op_eq (pe_ix ix_tup (pv 3) pe_int (fun _ _ => rfl)) pe_str (nomark _)) (pss_one (ps_ret (pe_op op_sub (pe_op op_sub (pe_op op_add (pv 5) (pe_call Glength_of hr (by rfl) glength_of Flength_of.kp blength_of .nil pass0 (pa_cons (pv 3) pa_nil))) pe_int) (pv 4)))) pss_nil)
      (pss_cons (ps_set (i := 6) nd rfl (.inl rfl) (pe_ix ix_list (pe_call Ganswers hr (by rfl) ganswers Fanswers.kp banswers .nil pass0 (pa_cons (pv 0) (pa_cons (pe_callTy call_list_of (by rfl) mlist (by decide +kernel) (pa_cons (pe_ix ix_tup (pv 3) pe_int (fun _ _ => rfl)) pa_nil)) pa_nil))) (pv 4) (fun _ _ => rfl)))
      (pss_one (ps_ret (pe_ifExp (pt_cmpR op_isN (pv 6) pe_non (nomark _)) pe_non (pe_op op_add (pv 5) (pv 6))))))))), ?_⟩
    have isp : EvT (tNot (tB (tCall (spPlace os ls qs n) [] E0 (tCons (tVar 1) (tCons (tVar 2) tNil))))) [some (.ref s), some v, some (.int (pl : Int)), none, none, none, none] H (!decide (pl < W.length)) := et_not (et_B (ev_call (ea_cons (ev_var rfl) (ea_cons (ev_var rfl) ea_nil)) fun H2 e2 Q q E => ⟨v, W, pl, rfl, hG.ex e2, hn, fun H3 e3 => q H3 e3⟩))
    refine q_when isp (fun hb H1 e1 => ?_) (fun hb H1 e1 => ?_)
    · have hge : W.length ≤ pl := by
        by_cases z : pl < W.length
        · rw [decide_eq_true z] at hb; cases hb
        · omega
      refine s_ret ev_c fun H2 e2 => ?_
      rw [ans_out hge] at q
      exact q.go (e1.trans e2)
    · have hlt : pl < W.length := by
        by_cases z : pl < W.length
        · exact z
        · rw [decide_eq_false z] at hb; cases hb
      refine ⟨_, rfl, _, rfl, v, W, pl, rfl, hG.ex e1, hn, hlt, fun r t xs ps Ws m at_ A' Wg B H2 e2 hr2 ht hgs hm hown hW hat hatl => ⟨r, _, rfl, st_of hr2, rfl, _, _, rfl, _, _, rfl, _, _, rfl, rfl, ?_⟩⟩
      have e12 := e1.trans e2
      have hsh := hgs.shut hS ht
      have hWp : tv (ansOf os qs W) pl = (tv (ansOf os qs Wg) at_).map (· + A'.length) := by
        rw [hW, ← hat]
        exact ans_mid hsh hatl
      rw [hWp] at q
      show tSeq _ _ _ [some (.ref s), some v, some (.int (pl : Int)), some (.ref t), some (.int (at_ : Int)), some (.int (A'.length : Int)), none] H2
      have hGg : GAt os ls qs H2 (m + 1) (.ref t) Wg := ⟨t, xs, ps, Ws, rfl, ht, hgs⟩
      cases hgs with
      | word hu hl hm' hb' =>
        refine q_when (ev_tagS rfl ht) (fun h => absurd h (by decide)) fun _ H3 e3 => ?_
        have e13 := e12.trans e3
        refine ⟨_, rfl, ev_itS (i := 1) rfl (e3 _ _ ht) rfl H3 (Ex.refl _) _ fun H4 e4 => ⟨_, _, rfl, .inr (st_of (e4 _ _ (e3 _ _ hu))), fun l nl => ⟨s, l, os, ls, qs, Wg, rfl, hS, (hs.ex (e13.trans e4)).ex (Ex.new nl), sq_of upd_same, hm', by omega, fun a H5 e5 na ha => ⟨_, rfl, a, _, _, _, rfl, rfl, sq_of ha, t_at (by rw [ansOf_len']; exact hatl), ?_⟩⟩⟩⟩
        have e05 := ((e13.trans e4).trans (Ex.new nl)).trans e5
        generalize hz : tv (ansOf os qs Wg) at_ = z at q ⊢
        cases z with
        | none =>
          exact ⟨_, rfl, rfl, _, rfl, iteT (q.go e05)⟩
        | some j =>
          refine ⟨_, rfl, rfl, _, rfl, iteF ⟨_, rfl, _, rfl, _, _, rfl, rfl, ?_⟩⟩
          have e : ((A'.length : Int) + (j : Int)) = ((j + A'.length : Nat) : Int) := by omega
          show Q (.int ((A'.length : Int) + (j : Int))) H5
          rw [e]
          exact q.go e05
      | row hu hr' hl => exact absurd hown (by show ¬ decide (V.str "row" = V.str "word") = true; decide)
      | again hk hr' => exact absurd hown (by rw [own_again]; intro z; cases z)
      | @wrap k' a c p W' hk ha hc hr' =>
        have ho := own_wrap rfl hown
        have hlen : (List.replicate k' a ++ W' ++ List.replicate k' c).length = 2 * k' + W'.length := by
          rw [List.length_append, List.length_append, List.length_replicate, List.length_replicate]
          omega
        rw [ans_own hS ha hc (GAt.shut hS _ _ _ hr') ho (by omega)] at q
        refine q_when (ev_tagS rfl ht) (fun _ H3 e3 => ?_) (fun h => absurd h (by decide))
        have e13 := e12.trans e3
        refine s_ret (ev_op (ev_op (ev_op (ev_var rfl) (ev_call (ea_cons (ev_var rfl) ea_nil) fun H4 e4 Q q E => ⟨_, _, rfl, (hGg.le hm).ex (e3.trans e4), hn, fun H5 e5 => q H5 e5⟩) rv_I0) ev_c rv_I0) (ev_var rfl) rv_I0) fun H4 e4 => ?_
        have e : ((A'.length : Int) + ((List.replicate k' a ++ W' ++ List.replicate k' c).length : Int) - 1 - (at_ : Int)) = ((2 * k' + W'.length - 1 - at_ + A'.length : Nat) : Int) := by
          omega
        show Q (.int ((A'.length : Int) + ((List.replicate k' a ++ W' ++ List.replicate k' c).length : Int) - 1 - (at_ : Int))) H4
        rw [e]
        exact q.go (e13.trans e4)
end
end Eh
set_option Elab.async false
set_option linter.all false
set_option maxRecDepth 100000
set_option maxHeartbeats 4000000
namespace Eh
open PySem PySem.Spec PyProof.Rows L2 Evl
abbrev nSize : List Str := ["great", "part"]
theorem scSize : FnScope nSize ["great"] (defScope sSize) := ⟨rfl, rfl, rfl, by decide +kernel, rfl, by decide +kernel, by decide +kernel⟩
abbrev nLawWrite : List Str := ["great", "found", "part", "inner"]
theorem scLawWrite : FnScope nLawWrite ["great"] (defScope sLawWrite) := ⟨rfl, rfl, rfl, by decide +kernel, rfl, by decide +kernel, by decide +kernel⟩
theorem flat_le {Ws : List (List Str)} {W : List Str} (h : W ∈ Ws) : W.length ≤ Ws.flatten.length := by
  rw [flat_len]
  induction Ws with
  | nil => exact (List.not_mem_nil h).elim
  | cons x r ih =>
    rw [List.map_cons, List.sum_cons]
    rcases List.mem_cons.mp h with e | e
    · rw [e]; omega
    · have := ih e; omega
/-- each part of what isn't empty is no longer -/
theorem GS.le {os ls qs : List Str} {H : Hp} {R : V → List Str → Prop} {xs ps : List V} {Ws : List (List Str)} {W : List Str} (h : GS os ls qs H R xs ps Ws W) (h0 : W.length ≠ 0) : Ws.flatten.length ≤ W.length := by
  cases h with
  | word => exact Nat.zero_le _
  | row hu hr hl => exact Nat.le_refl _
  | again hk hr =>
    rename_i k p W
    rw [rep_len] at h0 ⊢
    rw [show [W].flatten = W by simp]
    have : k ≠ 0 := fun z => h0 (by rw [z, Nat.zero_mul])
    have := Nat.mul_le_mul_right W.length (show 1 ≤ k by omega)
    omega
  | wrap hk ha hc hr =>
    rename_i k a c p W
    rw [show [W].flatten = W by simp, List.length_append, List.length_append]
    omega
theorem k63 {k : Nat} (h : k < 2 ^ 60) : (k : Int) < 2 ^ 63 := by
  have : (2 : Nat) ^ 60 = 1152921504606846976 := by decide
  omega
theorem rep_V (k : Nat) (W : List Str) : (List.replicate k (W.map V.str)).flatten = (List.replicate k W).flatten.map V.str := by
  rw [List.map_flatten, List.map_replicate]
theorem rep_1 (k : Nat) (a : Str) : (List.replicate k [V.str a]).flatten = (List.replicate k a).map V.str := by
  rw [flat_rep, List.map_replicate]
theorem decN {s z : Nat} : decide (V.int (s : Int) = V.int (z : Int)) = decide (s = z) := by
  by_cases e : s = z
  · rw [e, decide_eq_true rfl, decide_eq_true rfl]
  · rw [decide_eq_false e, decide_eq_false (fun h => e (by have := V.int.inj h; omega))]
theorem tk_succ {Ws : List (List Str)} {i : Nat} {W : List Str} (h : Ws[i]? = some W) : (Ws.take (i + 1)).flatten = (Ws.take i).flatten ++ W := by
  rw [List.take_add_one, h, List.flatten_append]
  show _ ++ (W ++ []) = _
  rw [List.append_nil]
theorem tk_le (Ws : List (List Str)) (i : Nat) : (Ws.take i).flatten.length ≤ Ws.flatten.length := by
  conv => rhs; rw [← List.take_append_drop i Ws, List.flatten_append, List.length_append]
  omega
section
variable {P : Program} {w : World} {K : PySem.W.Frag} {mg : Str → Option Value} {base : Heap} {os ls qs : List Str}
/-- a * k .. of lists of texts, and what wraps them -/
theorem el_rep {σ : L2.St} {H : Hp} {ta tb : TE} {xs : List V} {k : Nat} (ha : EvL ta σ H xs) (hb : Ev tb σ H (.int (k : Int))) (hk : xs.length * k ≤ 10000) (hk2 : k < 2 ^ 60) : EvL (tOp rRep ta tb) σ H (List.replicate k xs).flatten := fun H1 e Q q =>
  ha H1 e _ fun p H2 hp e2 h2 => hb H2 (e.trans e2) _ fun H3 e3 => ⟨p, (k : Int), xs, rfl, rfl, e3 _ _ h2, by omega, k63 hk2, sz_of (by rw [Int.toNat_natCast]; omega), fun r nr => q r _ (fresh_back (e2.trans e3) nr) ((e2.trans e3).trans (Ex.new nr)) (by rw [upd_same, Int.toNat_natCast])⟩
theorem el_repV {σ : L2.St} {H : Hp} {ta tb : TE} {xs : List V} {l : Addr} {k : Nat} (ha : Ev ta σ H (.ref l)) (hl : H l = some (.lst xs)) (hb : Ev tb σ H (.int (k : Int))) (hk : xs.length * k ≤ 10000) (hk2 : k < 2 ^ 60) : EvL (tOp rRep ta tb) σ H (List.replicate k xs).flatten := fun H1 e Q q =>
  ha H1 e _ fun H2 e2 => hb H2 (e.trans e2) _ fun H3 e3 => ⟨l, (k : Int), xs, rfl, rfl, e3 _ _ (e2 _ _ (e _ _ hl)), by omega, k63 hk2, sz_of (by rw [Int.toNat_natCast]; omega), fun r nr => q r _ (fresh_back (e2.trans e3) nr) ((e2.trans e3).trans (Ex.new nr)) (by rw [upd_same, Int.toNat_natCast])⟩
theorem el_cat {σ : L2.St} {H : Hp} {ta tb : TE} {xs ys : List V} (ha : EvL ta σ H xs) (hb : EvL tb σ H ys) (hk : xs.length + ys.length ≤ 10000) : EvL (tOp rCat ta tb) σ H (xs ++ ys) := fun H1 e Q q =>
  ha H1 e _ fun p H2 hp e2 h2 => hb H2 (e.trans e2) _ fun r H3 hr e3 h3 => ⟨p, r, xs, ys, rfl, rfl, e3 _ _ h2, h3, sz_of (by omega), fun z nz => q z _ (fresh_back (e2.trans e3) nz) ((e2.trans e3).trans (Ex.new nz)) upd_same⟩
theorem el_catV {σ : L2.St} {H : Hp} {ta tb : TE} {xs ys : List V} {l : Addr} (ha : EvL ta σ H xs) (hb : Ev tb σ H (.ref l)) (hl : H l = some (.lst ys)) (hk : xs.length + ys.length ≤ 10000) : EvL (tOp rCat ta tb) σ H (xs ++ ys) := fun H1 e Q q =>
  ha H1 e _ fun p H2 hp e2 h2 => hb H2 (e.trans e2) _ fun H3 e3 => ⟨p, l, xs, ys, rfl, rfl, e3 _ _ h2, e3 _ _ (e2 _ _ (e _ _ hl)), sz_of (by omega), fun z nz => q z _ (fresh_back (e2.trans e3) nz) ((e2.trans e3).trans (Ex.new nz)) upd_same⟩
/-- [a] * k + within + [c] * k -/
theorem el_wrap {σ : L2.St} {H : Hp} {t l : Addr} {j k : Nat} {a c : Str} {p : V} {W : List Str} (h0 : σ[0]? = some (some (.ref t))) (hj : σ[j]? = some (some (.ref l))) (ht : H t = some (.tup [.str "wrap", .int (k : Int), .str a, p, .str c])) (hl : H l = some (.lst (W.map V.str))) (hk : (List.replicate k a ++ W ++ List.replicate k c).length ≤ 400) :
    EvL (tOp rCat (tOp rCat (tOp rRep (tLst (tCons (tOp (rIxT K) (tVar 0) (tC (.int 2))) tNil)) (tOp (rIxT K) (tVar 0) (tC (.int 1)))) (tVar j)) (tOp rRep (tLst (tCons (tOp (rIxT K) (tVar 0) (tC (.int 4))) tNil)) (tOp (rIxT K) (tVar 0) (tC (.int 1))))) σ H ((List.replicate k a ++ W ++ List.replicate k c).map V.str) := by
  rw [List.length_append, List.length_append, List.length_replicate, List.length_replicate] at hk
  have k60 : k < 2 ^ 60 := Nat.lt_of_le_of_lt (show k ≤ 400 by omega) (by decide)
  have h1 : EvL (tOp rRep (tLst (tCons (tOp (rIxT K) (tVar 0) (tC (.int 2))) tNil)) (tOp (rIxT K) (tVar 0) (tC (.int 1)))) σ H ((List.replicate k a).map V.str) := by
    rw [← rep_1]
    exact el_rep (el_lst (ea_cons (ev_it (i := 2) h0 ht rfl) ea_nil) (by show 1 ≤ 100000; decide)) (ev_it (i := 1) h0 ht rfl) (by show 1 * k ≤ 10000; omega) k60
  have h2 : EvL (tOp rRep (tLst (tCons (tOp (rIxT K) (tVar 0) (tC (.int 4))) tNil)) (tOp (rIxT K) (tVar 0) (tC (.int 1)))) σ H ((List.replicate k c).map V.str) := by
    rw [← rep_1]
    exact el_rep (el_lst (ea_cons (ev_it (i := 4) h0 ht rfl) ea_nil) (by show 1 ≤ 100000; decide)) (ev_it (i := 1) h0 ht rfl) (by show 1 * k ≤ 10000; omega) k60
  rw [List.map_append, List.map_append]
  exact el_cat (el_catV h1 (ev_var hj) hl (by rw [List.length_map, List.length_map, List.length_replicate]; omega)) h2 (by rw [List.length_append, List.length_map, List.length_map, List.length_map, List.length_replicate, List.length_replicate]; omega)
end
end Eh
set_option Elab.async false
set_option linter.all false
set_option maxRecDepth 100000
set_option maxHeartbeats 4000000
namespace Eh
open PySem PySem.Spec PyProof.Rows L2 Evl
section
variable {P : Program} {w : World} {K : PySem.W.Frag} {mg : Str → Option Value} {base : Heap} {os ls qs : List Str}
theorem el_lcT {σ : L2.St} {H : Hp} {t : TT} {te : TE} {a : Addr} {xs : List V} {tl : TE} {j : Nat} {vs : List Nat} (f : Nat → Bool) (v : Nat → V) (h : Ev tl σ H (.ref a)) (hx : SqT K H a xs) (hz : xs.length ≤ 40000) (hw : ∀ x, wipe ((wipe σ vs).set j (some x)) vs = wipe σ vs)
    (ht : ∀ (i : Nat) (x : V) H1, Ex H H1 → xs[i]? = some x → EvT t ((wipe σ vs).set j (some x)) H1 (f i)) (he : ∀ (i : Nat) (x : V) H1, Ex H H1 → xs[i]? = some x → f i = true → Ev te ((wipe σ vs).set j (some x)) H1 (v i)) :
    EvL (tLc (iTup K tl) (gName j) t te vs) σ H (given xs.length f v) := fun H0 e Q q => h H0 e _ fun H1 e1 => ⟨a, rfl, ⟨xs, ex_t (e.trans e1) hx⟩, fun Dl hD =>
  lc_tup (xs := xs) (Cw H1 f v Dl) ⟨hD, Ex.new hD, upd_same⟩ (fun i H' _ p => ex_t ((e.trans e1).trans p.2.1) hx) (fun i x H' hi p => ⟨hw x, cw_turn p (by have := (List.getElem?_eq_some_iff.mp hi).1; omega) (ht i x H1 (e.trans e1) hi) (fun hf => he i x H1 (e.trans e1) hi hf)⟩)
    (fun H' p => q Dl H' (fresh_back e1 p.1) (e1.trans p.2.1) p.2.2)⟩
def spSize (os ls qs : List Str) (n : Nat) : Sp := fun vs H Q _ => ∃ (v : V) (W : List Str), vs = [v] ∧ GAt os ls qs H n v W ∧ n ≤ 20 ∧ RetV (.int (W.length : Int)) H Q
theorem ok_size {f : Addr} {fd : FuncData} (Fsize : Fun K "_law_size" "_law_size" sSize f fd) (bsize : Binds K fd ["great"] []) (gsize : mg "_law_size" = some (.ref f)) (mlen : mg "len" = none) (msum : mg "sum" = none) : ∀ (n k : Nat), FnOk P w K mg base CX0 (k + n + 1) f fd ["great"] (spSize os ls qs n)
  | 0, k => fn_no fun vs H Q E ⟨_, _, _, h, _⟩ => h
  | n + 1, k => by
    have nd := scSize.nd
    have Gsize : FnOk P w K mg base CX0 (k + n + 1) f fd ["great"] (spSize os ls qs n) := ok_size Fsize bsize gsize mlen msum n k
    refine Fsize.ok scSize (fun vs H Q E h => ?_) (fun cdv A outer s H vs Q E hr h => ?_)
    · obtain ⟨v, W, rfl, _⟩ := h
      rfl
    · obtain ⟨v, W, rfl, hG, hn, q⟩ := h
      refine ⟨_, (pss_cons (ps_if (pt_cmpR op_eq (pe_ix ix_tup (pv 0) pe_int (fun _ _ => rfl)) pe_str (nomark _)) (pss_one (ps_ret (pe_callB call_len_seq (by rfl) mlen PySem.boot_len (pa_cons (pe_ix ix_tup (pv 0) pe_int (fun _ _ => rfl)) pa_nil)))) pss_nil)
      (pss_cons (ps_if (pt_cmpR op_eq (pe_ix ix_tup (pv 0) pe_int (fun _ _ => rfl)) pe_str (nomark _)) (pss_one (ps_ret (pe_callB (cr_sum rfl) (by rfl) msum (by decide +kernel) (pa_cons (pe_lc (own := [("part", 1)]) (g := gName 1) (tt := tYes) (te := (tCall (spSize os ls qs n) [] E0 (tCons (tVar 1) tNil))) rfl nd (pi_tup (pe_ix ix_tup (pv 0) pe_int (fun _ _ => rfl))) (blkOk_by (own := [("part", 1)]) (N := nSize) (sc := defScope sSize) (by decide +kernel)) (fun _ _ _ _ _ => pg_name (i := 1) nd rfl (.inl rfl)) (fun _ _ _ _ _ => pts_nil) (fun _ _ _ _ _ => (pe_call Gsize hr (by rfl) gsize Fsize.kp bsize .nil pass0 (pa_cons (pv 1) pa_nil)))) pa_nil)))) pss_nil)
      (pss_cons (ps_if (pt_cmpR op_eq (pe_ix ix_tup (pv 0) pe_int (fun _ _ => rfl)) pe_str (nomark _)) (pss_one (ps_ret (pe_op op_mulW (pe_ix ix_tup (pv 0) pe_int (fun _ _ => rfl)) (pe_call Gsize hr (by rfl) gsize Fsize.kp bsize .nil pass0 (pa_cons (pe_ix ix_tup (pv 0) pe_int (fun _ _ => rfl)) pa_nil))))) pss_nil)
      (pss_one (ps_ret (pe_op op_add (pe_op op_add (pe_ix ix_tup (pv 0) pe_int (fun _ _ => rfl)) (pe_call Gsize hr (by rfl) gsize Fsize.kp bsize .nil pass0 (pa_cons (pe_ix ix_tup (pv 0) pe_int (fun _ _ => rfl)) pa_nil))) (pe_ix ix_tup (pv 0) pe_int (fun _ _ => rfl)))))))), ?_⟩
      obtain ⟨t, xs, ps, Ws, rfl, ht, hg⟩ := hG
      have call : ∀ {σ : L2.St} {te : TE} {x : V} {W' : List Str} (H1 : Hp), Ex H H1 → Ev te σ H1 x → GAt os ls qs H n x W' → Ev (tCall (spSize os ls qs n) [] E0 (tCons te tNil)) σ H1 (.int (W'.length : Int)) := fun {σ te x W'} H1 e1 hx hR => ev_call (ea_cons hx ea_nil) fun H2 e2 Q q E => ⟨x, W', rfl, hR.ex (e1.trans e2), by omega, fun H3 e3 => q H3 e3⟩
      cases hg with
      | word hu hl hm hb =>
        refine q_when (ev_tag rfl ht) (fun _ H1 e1 => ?_) (fun h => absurd h (by decide))
        refine ev_it (i := 1) rfl (e1 _ _ ht) rfl H1 (Ex.refl _) _ fun H2 e2 => ⟨_, _, rfl, .inr (st_of (e2 _ _ (e1 _ _ hu))), ?_⟩
        rw [List.length_map]
        exact q.go (e1.trans e2)
      | @row u ps Ws hu hr hl =>
        refine q_when (ev_tag rfl ht) (fun h => absurd h (by decide)) fun _ H1 e1 => q_when (ev_tag rfl (e1 _ _ ht)) (fun _ H2 e2 => ?_) (fun h => absurd h (by decide))
        have e12 := e1.trans e2
        have hln := All2.len _ _ hr
        have key := el_lcT (K := K) (σ := [some (.ref t), none]) (t := tYes) (te := tCall (spSize os ls qs n) [] E0 (tCons (tVar 1) tNil)) (j := 1) (vs := [1]) (fun _ => true) (fun i => .int ((Ws.getD i []).length : Int)) (ev_it (K := K) (i := 1) rfl (e12 _ _ ht) rfl) (st_of (e12 _ _ hu)) (by omega) (fun x => rfl) (fun i x H1 e1 hi => ev_yes) (fun i x H3 e3 hi _ => by
          obtain ⟨W', hW, hR⟩ := All2.at _ _ hr i x hi
          have e : Ws.getD i [] = W' := by rw [List.getD_eq_getElem?_getD, hW]; rfl
          rw [e]
          exact call H3 (e12.trans e3) (ev_var rfl) hR)
        have k2 := ev_sumN (K := K) (ns := Ws.map fun W => (W.length : Int)) key (by rw [given_true, hln, range_get Ws fun W => V.int (W.length : Int), List.map_map]; rfl)
        rw [sumsI, ← flat_len] at k2
        exact s_ret k2 fun H3 e3 => q.go (e12.trans e3)
      | @again k' p W hk hr =>
        refine q_when (ev_tag rfl ht) (fun h => absurd h (by decide)) fun _ H1 e1 => q_when (ev_tag rfl (e1 _ _ ht)) (fun h => absurd h (by decide)) fun _ H2 e2 => ?_
        have e12 := e1.trans e2
        refine q_when (ev_tag rfl (e12 _ _ ht)) (fun _ H3 e3 => ?_) (fun h => absurd h (by decide))
        have e13 := e12.trans e3
        refine s_ret (ev_is (ev_op (ev_it (i := 1) rfl (e13 _ _ ht) rfl) (call H3 e13 (ev_it (i := 2) rfl (e13 _ _ ht) rfl) hr) (rv_I (mulW_of hk (GAt.bits _ _ _ hr) (show n ≤ 20 by omega)))) ?_) fun H4 e4 => q.go (e13.trans e4)
        rw [rep_len, Int.natCast_mul]
      | @wrap k' a c p W hk ha hc hr =>
        refine q_when (ev_tag rfl ht) (fun h => absurd h (by decide)) fun _ H1 e1 => q_when (ev_tag rfl (e1 _ _ ht)) (fun h => absurd h (by decide)) fun _ H2 e2 => ?_
        have e12 := e1.trans e2
        refine q_when (ev_tag rfl (e12 _ _ ht)) (fun h => absurd h (by decide)) fun _ H3 e3 => ?_
        have e13 := e12.trans e3
        refine s_ret (ev_is (ev_op (ev_op (ev_it (i := 1) rfl (e13 _ _ ht) rfl) (call H3 e13 (ev_it (i := 3) rfl (e13 _ _ ht) rfl) hr) rv_I0) (ev_it (i := 1) rfl (e13 _ _ ht) rfl) rv_I0) ?_) fun H4 e4 => q.go (e13.trans e4)
        rw [List.length_append, List.length_append, List.length_replicate, List.length_replicate, Int.natCast_add, Int.natCast_add]
def spWrite (os ls qs : List Str) (n : Nat) : Sp := fun vs H Q _ => ∃ (v : V) (W : List Str), vs = [v] ∧ GAt os ls qs H n v W ∧ n ≤ 20 ∧ W.length ≤ 400 ∧ RetL (W.map V.str) H Q
theorem ok_write {f fs : Addr} {fd fds : FuncData} (Fwrite : Fun K "_law_write" "_law_write" sLawWrite f fd) (bwrite : Binds K fd ["great"] []) (gwrite : mg "_law_write" = some (.ref f)) (Fsize : Fun K "_law_size" "_law_size" sSize fs fds) (bsize : Binds K fds ["great"] []) (gsize : mg "_law_size" = some (.ref fs)) (mlen : mg "len" = none) (msum : mg "sum" = none) (mlist : mg "list" = none) : ∀ (n k : Nat), FnOk P w K mg base CX0 (k + n + 2) f fd ["great"] (spWrite os ls qs n)
  | 0, k => fn_no fun vs H Q E ⟨_, _, _, h, _⟩ => h
  | n + 1, k => by
    have nd := scLawWrite.nd
    have Gwrite : FnOk P w K mg base CX0 (k + n + 2) f fd ["great"] (spWrite os ls qs n) := ok_write Fwrite bwrite gwrite Fsize bsize gsize mlen msum mlist n k
    have Gsize : FnOk P w K mg base CX0 (k + n + 2) fs fds ["great"] (spSize os ls qs (n + 1)) := ok_size Fsize bsize gsize mlen msum (n + 1) k
    refine Fwrite.ok scLawWrite (fun vs H Q E h => ?_) (fun cdv A outer s H vs Q E hr h => ?_)
    · obtain ⟨v, W, rfl, _⟩ := h
      rfl
    · obtain ⟨v, W, rfl, hG, hn, h400, q⟩ := h
      refine ⟨_, (pss_cons (ps_if (pt_cmpR op_eq (pe_ix ix_tup (pv 0) pe_int (fun _ _ => rfl)) pe_str (nomark _)) (pss_one (ps_ret (pe_callTy call_list_of (by rfl) mlist (by decide +kernel) (pa_cons (pe_ix ix_tup (pv 0) pe_int (fun _ _ => rfl)) pa_nil)))) pss_nil)
      (pss_cons (ps_if (pt_cmpR op_eq (pe_call Gsize hr (by rfl) gsize Fsize.kp bsize .nil pass0 (pa_cons (pv 0) pa_nil)) pe_int (nomark _)) (pss_one (ps_ret (pe_lst pa_nil))) pss_nil)
      (pss_cons (ps_set (i := 1) nd rfl (.inl rfl) (pe_lst pa_nil))
      (pss_cons (ps_if (pt_cmpR op_eq (pe_ix ix_tup (pv 0) pe_int (fun _ _ => rfl)) pe_str (nomark _)) (pss_cons (ps_for PassesOwn.never rfl (pi_tup (pe_ix ix_tup (pv 0) pe_int (fun _ _ => rfl))) (pg_name (i := 2) nd rfl (.inl rfl)) (pss_one (ps_set (i := 1) nd rfl (.inl rfl) (pe_op op_cat (pv 1) (pe_call Gwrite hr (by rfl) gwrite Fwrite.kp bwrite .nil pass0 (pa_cons (pv 2) pa_nil))))))
      (pss_one (ps_ret (pv 1)))) pss_nil)
      (pss_cons (ps_if (pt_cmpR op_eq (pe_ix ix_tup (pv 0) pe_int (fun _ _ => rfl)) pe_str (nomark _)) (pss_one (ps_ret (pe_op op_rep (pe_call Gwrite hr (by rfl) gwrite Fwrite.kp bwrite .nil pass0 (pa_cons (pe_ix ix_tup (pv 0) pe_int (fun _ _ => rfl)) pa_nil)) (pe_ix ix_tup (pv 0) pe_int (fun _ _ => rfl))))) pss_nil)
      (pss_cons (ps_set (i := 3) nd rfl (.inl rfl) (pe_call Gwrite hr (by rfl) gwrite Fwrite.kp bwrite .nil pass0 (pa_cons (pe_ix ix_tup (pv 0) pe_int (fun _ _ => rfl)) pa_nil)))
      (pss_one (ps_ret (pe_op op_cat (pe_op op_cat (pe_op op_rep (pe_lst (pa_cons (pe_ix ix_tup (pv 0) pe_int (fun _ _ => rfl)) pa_nil)) (pe_ix ix_tup (pv 0) pe_int (fun _ _ => rfl))) (pv 3)) (pe_op op_rep (pe_lst (pa_cons (pe_ix ix_tup (pv 0) pe_int (fun _ _ => rfl)) pa_nil)) (pe_ix ix_tup (pv 0) pe_int (fun _ _ => rfl)))))))))))), ?_⟩
      have hG' := hG
      obtain ⟨t, xs, ps, Ws, rfl, ht, hg⟩ := hG
      have szt : ∀ H1, Ex H H1 → EvT (tTest (tOp rEq (tCall (spSize os ls qs (n + 1)) [] E0 (tCons (tVar 0) tNil)) (tC (.int 0)))) [some (.ref t), none, none, none] H1 (decide (W.length = 0)) := fun H1 e1 => et_test (ev_is (ev_op (ev_call (ea_cons (ev_var rfl) ea_nil) fun H2 e2 Q q E => ⟨_, W, rfl, hG'.ex (e1.trans e2), hn, fun H3 e3 => q H3 e3⟩) ev_c (rv_eq rfl)) (congrArg V.bl (decN (s := W.length) (z := 0))))
      have zero : ∀ H1, Ex H H1 → decide (W.length = 0) = true → ∀ D : Ends, D.rt = Q → tRet (tLst tNil) D [some (.ref t), none, none, none] H1 := fun H1 e1 h0 D hD => by
        have h0 := of_decide_eq_true h0
        rw [List.eq_nil_of_length_eq_zero h0] at q
        exact s_retL (el_lst ea_nil (by decide)) fun p H2 hp e2 h2 => by rw [hD]; exact q.go e1 hp e2 h2
      have call : ∀ {σ : L2.St} {te : TE} {x : V} {W' : List Str} (H1 : Hp), Ex H H1 → W'.length ≤ 400 → Ev te σ H1 x → GAt os ls qs H n x W' → EvL (tCall (spWrite os ls qs n) [] E0 (tCons te tNil)) σ H1 (W'.map V.str) := fun {σ te x W'} H1 e1 hl hx hR => el_call (ea_cons hx ea_nil) fun H2 e2 Q q E => ⟨x, W', rfl, hR.ex (e1.trans e2), by omega, hl, fun p H3 hp e3 h3 => q p H3 hp e3 h3⟩
      cases hg with
      | word hu hl hm hb =>
        refine q_when (ev_tag rfl ht) (fun _ H2 e2 => ?_) (fun h => absurd h (by decide))
        exact ev_it (i := 1) rfl (e2 _ _ ht) rfl H2 (Ex.refl _) _ fun H3 e3 => ⟨_, _, rfl, .inr (st_of (e3 _ _ (e2 _ _ hu))), fun l nl => q.go (e2.trans e3) nl (Ex.new nl) upd_same⟩
      | @row u ps Ws hu hr hl =>
        refine q_when (ev_tag rfl ht) (fun h => absurd h (by decide)) fun _ H1 e1 => q_when (szt H1 e1) (fun h0 H2 e2 => zero H2 (e1.trans e2) h0 _ rfl) fun h0 H2 e2 => ?_
        have e12 := e1.trans e2
        refine q_asgL (el_lst ea_nil (by decide)) fun l H3 nl e3 hl3 => ?_
        have e13 := e12.trans e3
        refine q_when (ev_tag rfl (e13 _ _ ht)) (fun _ H4 e4 => ?_) (fun h => absurd h (by decide))
        have e14 := e13.trans e4
        refine q_forT (ev_it (i := 1) rfl (e14 _ _ ht) rfl) (st_of (e14 _ _ hu)) (fun i σ' H' => ∃ l', H l' = none ∧ (∃ y2, σ' = [some (.ref t), some (.ref l'), y2, none]) ∧ Ex H H' ∧ H' l' = some (.lst ((Ws.take i).flatten.map V.str))) (fun H5 e5 => ⟨l, fresh_back e12 nl, ⟨_, rfl⟩, e14.trans e5, e5 _ _ (e4 _ _ hl3)⟩) ?_ ?_ ?_
        · rintro i σ' H' _ ⟨l', _, _, eH, _⟩
          exact st_of (eH _ _ hu)
        · rintro i x σ' H' hi ⟨l', nl', ⟨y2, rfl⟩, eH, hl'⟩
          obtain ⟨W', hW, hR⟩ := All2.at _ _ hr i x hi
          have hle' := flat_le (List.mem_of_getElem? hW)
          have hle2 := tk_le Ws i
          refine s_asgL (xs := (Ws.take i).flatten.map V.str ++ W'.map V.str) (fun H5 e5 Q q => ⟨_, rfl, call H5 (eH.trans e5) (by omega) (ev_var rfl) hR H5 (Ex.refl _) _ fun r H6 nr e6 hr6 => ⟨l', r, _, _, rfl, rfl, e6 _ _ (e5 _ _ hl'), hr6, ?_, fun z nz => q z _ (fresh_back e6 nz) (e6.trans (Ex.new nz)) upd_same⟩⟩) fun p H5 np e5 hp => ⟨p, fresh_back eH np, ⟨_, rfl⟩, eH.trans e5, ?_⟩
          · rw [List.length_map, List.length_map]
            exact sz_of (by omega)
          · rw [tk_succ hW, List.map_append]
            exact hp
        · rintro σ' H' ⟨l', nl', ⟨y2, rfl⟩, eH, hl'⟩
          rw [All2.len _ _ hr, List.take_length] at hl'
          exact s_ret (ev_var rfl) fun H5 e5 => q l' H5 nl' (eH.trans e5) (e5 _ _ hl')
      | @again k' p W hk hr =>
        refine q_when (ev_tag rfl ht) (fun h => absurd h (by decide)) fun _ H1 e1 => q_when (szt H1 e1) (fun h0 H2 e2 => zero H2 (e1.trans e2) h0 _ rfl) fun h0 H2 e2 => ?_
        have h0 := of_decide_eq_false h0
        have e12 := e1.trans e2
        refine q_asgL (el_lst ea_nil (by decide)) fun l H3 nl e3 hl3 => ?_
        have e13 := e12.trans e3
        refine q_when (ev_tag rfl (e13 _ _ ht)) (fun h => absurd h (by decide)) fun _ H4 e4 => ?_
        have e14 := e13.trans e4
        refine q_when (ev_tag rfl (e14 _ _ ht)) (fun _ H5 e5 => ?_) (fun h => absurd h (by decide))
        have e15 := e14.trans e5
        rw [rep_len] at h400 h0
        have w1 : 1 ≤ W.length := by
          rcases Nat.eq_zero_or_pos W.length with z | z
          · exact absurd (by rw [z, Nat.mul_zero]) h0
          · exact z
        have k0 : 1 ≤ k' := by
          rcases Nat.eq_zero_or_pos k' with z | z
          · exact absurd (by rw [z, Nat.zero_mul]) h0
          · exact z
        have k4 : k' ≤ 400 := Nat.le_trans (by have := Nat.mul_le_mul_left k' w1; omega) h400
        have w4 : W.length ≤ 400 := Nat.le_trans (by have := Nat.mul_le_mul_right W.length k0; omega) h400
        refine s_retL (el_rep (call H5 e15 w4 (ev_it (i := 2) rfl (e15 _ _ ht) rfl) hr) (ev_it (i := 1) rfl (e15 _ _ ht) rfl) (by rw [List.length_map, Nat.mul_comm]; omega) (Nat.lt_of_le_of_lt k4 (by decide))) fun p H6 hp e6 h6 => ?_
        rw [rep_V] at h6
        exact q.go e15 hp e6 h6
      | @wrap k' a c p W hk ha hc hr =>
        refine q_when (ev_tag rfl ht) (fun h => absurd h (by decide)) fun _ H1 e1 => q_when (szt H1 e1) (fun h0 H2 e2 => zero H2 (e1.trans e2) h0 _ rfl) fun h0 H2 e2 => ?_
        have e12 := e1.trans e2
        refine q_asgL (el_lst ea_nil (by decide)) fun l H3 nl e3 hl3 => ?_
        have e13 := e12.trans e3
        refine q_when (ev_tag rfl (e13 _ _ ht)) (fun h => absurd h (by decide)) fun _ H4 e4 => ?_
        have e14 := e13.trans e4
        refine q_when (ev_tag rfl (e14 _ _ ht)) (fun h => absurd h (by decide)) fun _ H5 e5 => ?_
        have e15 := e14.trans e5
        have w4 : W.length ≤ 400 := by
          rw [List.length_append, List.length_append] at h400
          omega
        refine q_asgL (call H5 e15 w4 (ev_it (i := 3) rfl (e15 _ _ ht) rfl) hr) fun r H6 nr e6 hr6 => ?_
        exact s_retL (el_wrap (j := 3) rfl rfl ((e15.trans e6) _ _ ht) hr6 h400) fun p H7 hp e7 h7 => q.go (e15.trans e6) hp e7 h7
end
end Eh
set_option Elab.async false
set_option linter.all false
set_option maxRecDepth 100000
set_option maxHeartbeats 4000000
namespace Eh
open PySem PySem.Spec PyProof.Rows L2 Evl
abbrev nLawFound : List Str := ["sheet", "great", "place", "at", "here", "k", "told"]
theorem scLawFound : FnScope nLawFound ["sheet", "great", "place"] (defScope sLawFound) := ⟨rfl, rfl, rfl, by decide +kernel, rfl, by decide +kernel, by decide +kernel⟩
def spFound (os ls qs : List Str) (n : Nat) : Sp := fun vs H Q _ => ∃ (s : Addr) (v : V) (W : List Str) (pl : Nat), vs = [.ref s, v, .int (pl : Int)] ∧ Sht os ls qs ∧ SheetAt H s os ls qs ∧ GAt os ls qs H n v W ∧ n ≤ 20 ∧ pl < W.length ∧
  ∀ (r : Addr) (x : Str) (H' : Hp), Ex H H' → H' r = some (.tup [.str x, oV (tv (ansOf os qs W) pl)]) → W[pl]? = some x → Q (.ref r) H'
theorem ev_tagN {K : PySem.W.Frag} {σ : L2.St} {H : Hp} {t : Addr} {i : Nat} {s z : Str} {r : List V} (h0 : σ[i]? = some (some (.ref t))) (ht : H t = some (.tup (.str s :: r))) : EvT (tTest (tOp rNe (tOp (rIxT K) (tVar i) (tC (.int 0))) (tC (.str z)))) σ H (!decide (V.str s = .str z)) :=
  et_test (ev_op (ev_op (ev_var h0) ev_c (rv_ixT (st_of ht) (show atI (V.str s :: r) ((0 : Nat) : Int) = some (V.str s) from atI_nat rfl))) ev_c (rv_ne rfl))
theorem flat_at {Ws : List (List Str)} {i : Nat} {W' : List Str} (hW : Ws[i]? = some W') : Ws.flatten = (Ws.take i).flatten ++ W' ++ (Ws.drop (i + 1)).flatten ∧ (Ws.take (i + 1)).flatten.length = (Ws.take i).flatten.length + W'.length := by
  have et : Ws.take (i + 1) = Ws.take i ++ [W'] := by rw [List.take_succ, hW]; rfl
  constructor
  · conv => lhs; rw [← List.take_append_drop (i + 1) Ws, et]
    rw [List.flatten_append, List.flatten_append]
    show _ ++ (W' ++ []) ++ _ = _
    rw [List.append_nil]
  · rw [et, List.flatten_append, List.length_append]
    show _ + (W' ++ []).length = _
    rw [List.append_nil]
section
variable {P : Program} {w : World} {K : PySem.W.Frag} {mg : Str → Option Value} {base : Heap} {os ls qs : List Str}
theorem ok_found {f fs fn : Addr} {fd ds dn : FuncData} {n k : Nat} (F : Fun K "_law_found" "_law_found" sLawFound f fd) (Fsize : Fun K "_law_size" "_law_size" sSize fs ds) (Gsize : FnOk P w K mg base CX0 (k + 1) fs ds ["great"] (spSize os ls qs n)) (bsize : Binds K ds ["great"] []) (gsize : mg "_law_size" = some (.ref fs)) (Fanswers : Fun K "_law_answers" "_law_answers" sAns fn dn) (Ganswers : FnOk P w K mg base CX0 (k + 1) fn dn ["sheet", "word"] (spAnswers K)) (banswers : Binds K dn ["sheet", "word"] []) (ganswers : mg "_law_answers" = some (.ref fn)) (mlist : mg "list" = none) : FnOk P w K mg base CX0 (k + 2) f fd ["sheet", "great", "place"] (spFound os ls qs n) := by
  have nd := scLawFound.nd
  refine F.ok scLawFound (fun vs H Q E h => ?_) (fun cdv A outer s H vs Q E hr h => ?_)
  · obtain ⟨s, v, W, pl, rfl, _⟩ := h
    rfl
  · obtain ⟨s, v, W, place, rfl, hS, hs, hG, hn, hplace, q⟩ := h
    refine ⟨_, (pss_cons (ps_set (i := 3) nd rfl (.inl rfl) (pv 2))
      (pss_cons (ps_set (i := 4) nd rfl (.inl rfl) (pv 1))
      (pss_cons (ps_while PassesOwn.never (pt_cmpR op_ne (pe_ix ix_tup (pv 4) pe_int (fun _ _ => rfl)) pe_str (nomark _)) (pss_one (ps_if (pt_cmpR op_eq (pe_ix ix_tup (pv 4) pe_int (fun _ _ => rfl)) pe_str (nomark _)) (pss_cons (ps_set (i := 5) nd rfl (.inl rfl) pe_int)
      (pss_cons (ps_while PassesOwn.never (pt_cmpR op_ge (pv 3) (pe_call Gsize hr (by rfl) gsize Fsize.kp bsize .nil pass0 (pa_cons (pe_ix ix_tup (pe_ix ix_tup (pv 4) pe_int (fun _ _ => rfl)) (pv 5) (fun _ _ => rfl)) pa_nil)) (nomark _)) (pss_cons (ps_set (i := 3) nd rfl (.inl rfl) (pe_op op_sub (pv 3) (pe_call Gsize hr (by rfl) gsize Fsize.kp bsize .nil pass0 (pa_cons (pe_ix ix_tup (pe_ix ix_tup (pv 4) pe_int (fun _ _ => rfl)) (pv 5) (fun _ _ => rfl)) pa_nil))))
      (pss_one (ps_set (i := 5) nd rfl (.inl rfl) (pe_op op_add (pv 5) pe_int)))))
      (pss_one (ps_set (i := 4) nd rfl (.inl rfl) (pe_ix ix_tup (pe_ix ix_tup (pv 4) pe_int (fun _ _ => rfl)) (pv 5) (fun _ _ => rfl)))))) (pss_one (ps_if (pt_cmpR op_eq (pe_ix ix_tup (pv 4) pe_int (fun _ _ => rfl)) pe_str (nomark _)) (pss_cons (ps_set (i := 3) nd rfl (.inl rfl) (pe_op op_mod (pv 3) (pe_call Gsize hr (by rfl) gsize Fsize.kp bsize .nil pass0 (pa_cons (pe_ix ix_tup (pv 4) pe_int (fun _ _ => rfl)) pa_nil))))
      (pss_one (ps_set (i := 4) nd rfl (.inl rfl) (pe_ix ix_tup (pv 4) pe_int (fun _ _ => rfl))))) (pss_one (ps_if (pt_cmpR op_lt (pv 3) (pe_ix ix_tup (pv 4) pe_int (fun _ _ => rfl)) (nomark _)) (pss_one (ps_ret (pe_tup (pa_cons (pe_ix ix_tup (pv 4) pe_int (fun _ _ => rfl)) (pa_cons (pe_op op_sub (pe_op op_add (pe_op op_add (pv 2) (pe_op op_mulW pe_int (pe_op op_sub (pe_ix ix_tup (pv 4) pe_int (fun _ _ => rfl)) (pv 3)))) (pe_call Gsize hr (by rfl) gsize Fsize.kp bsize .nil pass0 (pa_cons (pe_ix ix_tup (pv 4) pe_int (fun _ _ => rfl)) pa_nil))) pe_int) pa_nil))))) (pss_one (ps_if (pt_cmpR op_ge (pv 3) (pe_op op_add (pe_ix ix_tup (pv 4) pe_int (fun _ _ => rfl)) (pe_call Gsize hr (by rfl) gsize Fsize.kp bsize .nil pass0 (pa_cons (pe_ix ix_tup (pv 4) pe_int (fun _ _ => rfl)) pa_nil))) (nomark _)) (pss_one (ps_ret (pe_tup (pa_cons (pe_ix ix_tup (pv 4) pe_int (fun _ _ => rfl)) (pa_cons (pe_op op_sub (pe_op op_add (pe_op op_sub (pv 2) (pe_op op_mulW pe_int (pe_op op_sub (pv 3) (pe_ix ix_tup (pv 4) pe_int (fun _ _ => rfl))))) (pe_call Gsize hr (by rfl) gsize Fsize.kp bsize .nil pass0 (pa_cons (pe_ix ix_tup (pv 4) pe_int (fun _ _ => rfl)) pa_nil))) pe_int) pa_nil))))) (pss_cons (ps_set (i := 3) nd rfl (.inl rfl) (pe_op op_sub (pv 3) (pe_ix ix_tup (pv 4) pe_int (fun _ _ => rfl))))
      (pss_one (ps_set (i := 4) nd rfl (.inl rfl) (pe_ix ix_tup (pv 4) pe_int (fun _ _ => rfl))))))))))))))
      (pss_cons (ps_set (i := 6) nd rfl (.inl rfl) (pe_ix ix_list (pe_call Ganswers hr (by rfl) ganswers Fanswers.kp banswers .nil pass0 (pa_cons (pv 0) (pa_cons (pe_callTy call_list_of (by rfl) mlist (by decide +kernel) (pa_cons (pe_ix ix_tup (pv 4) pe_int (fun _ _ => rfl)) pa_nil)) pa_nil))) (pv 3) (fun _ _ => rfl)))
      (pss_one (ps_ret (pe_tup (pa_cons (pe_ix ix_tup (pe_ix ix_tup (pv 4) pe_int (fun _ _ => rfl)) (pv 3) (fun _ _ => rfl)) (pa_cons (pe_ifExp (pt_cmpR op_isN (pv 6) pe_non (nomark _)) pe_non (pe_op op_add (pe_op op_sub (pv 2) (pv 3)) (pv 6))) pa_nil))))))))), ?_⟩
    refine q_asg (ev_var rfl) fun Ha ea => q_asg (ev_var rfl) fun H0 e0' => ?_
    have e0 := ea.trans e0'
    have call : ∀ {σ : L2.St} {te : TE} {x : V} {W' : List Str} {m : Nat} (H1 : Hp), m ≤ n → Ev te σ H1 x → GAt os ls qs H1 m x W' → Ev (tCall (spSize os ls qs n) [] E0 (tCons te tNil)) σ H1 (.int (W'.length : Int)) := fun {σ te x W' m} H1 hm hx hR => ev_call (ea_cons hx ea_nil) fun H2 e2 Q q E => ⟨x, W', rfl, (hR.le hm).ex e2, hn, fun H3 e3 => q H3 e3⟩
    refine q_while (fun m σ' H' => ∃ (g : V) (pl : Nat) (A Wg B : List Str) (y5 : Option V), σ' = [some (.ref s), some v, some (.int (place : Int)), some (.int (pl : Int)), some g, y5, none] ∧ Ex H H' ∧ GAt os ls qs H' m g Wg ∧ m ≤ n ∧ W = A ++ Wg ++ B ∧ A.length + pl = place ∧ pl < Wg.length) n ⟨v, place, [], W, [], none, rfl, e0, hG.ex e0, Nat.le_refl _, by rw [List.append_nil]; rfl, Nat.zero_add _, hplace⟩ ?_
    rintro m σ' H' ⟨g, pl, A, Wg, B, y5, rfl, eH, hg, hm, hW, hat, hlt⟩
    cases m with
    | zero => exact hg.elim
    | succ m =>
      obtain ⟨t, xs, ps, Ws, rfl, ht, hgs⟩ := hg
      have hsh := hgs.shut hS ht
      have hWp : W[place]? = Wg[pl]? := by
        rw [hW, ← hat]
        exact mid_at hlt
      have hAn : tv (ansOf os qs W) place = (tv (ansOf os qs Wg) pl).map (· + A.length) := by
        rw [hW, ← hat]
        exact ans_mid hsh hlt
      have go : ∀ {σ2 : L2.St} {H2 : Hp} (part : V) (p2 : Nat) (A2 Wp B2 : List Str) (y : Option V), σ2 = [some (.ref s), some v, some (.int (place : Int)), some (.int (p2 : Int)), some part, y, none] → Ex H' H2 → GAt os ls qs H' m part Wp → Wg = A2 ++ Wp ++ B2 → A2.length + p2 = pl → p2 < Wp.length → ∃ m', m' < m + 1 ∧ ∃ (g : V) (pl : Nat) (A Wg B : List Str) (y5 : Option V), σ2 = [some (.ref s), some v, some (.int (place : Int)), some (.int (pl : Int)), some g, y5, none] ∧ Ex H H2 ∧ GAt os ls qs H2 m' g Wg ∧ m' ≤ n ∧ W = A ++ Wg ++ B ∧ A.length + pl = place ∧ pl < Wg.length := fun {σ2 H2} part p2 A2 Wp B2 y hσ e2 hp hW2 h1 h2 => by
        refine ⟨m, by omega, part, p2, A ++ A2, Wp, B2 ++ B, y, hσ, eH.trans e2, hp.ex e2, by omega, ?_, ?_, h2⟩
        · rw [hW, hW2]
          simp only [List.append_assoc]
        · rw [List.length_append]
          omega
      cases hgs with
      | word hu hl hm' hb' =>
        refine ⟨_, ev_tagN rfl ht, fun hb => absurd hb (by decide), fun _ H1 e1 => ?_⟩
        refine ⟨_, rfl, ev_itS (i := 1) rfl (e1 _ _ ht) rfl H1 (Ex.refl _) _ fun H4 e4 => ⟨_, _, rfl, .inr (st_of (e4 _ _ (e1 _ _ hu))), fun l nl => ⟨s, l, os, ls, qs, Wg, rfl, hS, (hs.ex ((eH.trans e1).trans e4)).ex (Ex.new nl), sq_of upd_same, hm', by omega, fun a H5 e5 na ha => ⟨_, rfl, a, _, _, _, rfl, rfl, sq_of ha, t_at (by rw [ansOf_len']; exact hlt), ?_⟩⟩⟩⟩
        have e15 := ((e1.trans e4).trans (Ex.new nl)).trans e5
        have hx : Wg[pl]? = some Wg[pl] := List.getElem?_eq_getElem hlt
        dsimp only [gName]
        show tRet _ _ [some (.ref s), some v, some (.int (place : Int)), some (.int (pl : Int)), some (.ref t), y5, some (oV (tv (ansOf os qs Wg) pl))] H5
        refine s_retU (eu_tup (vs := [.str Wg[pl], oV (tv (ansOf os qs W) place)]) (ea_cons (ev_op (ev_itS (i := 1) rfl (e15 _ _ ht) rfl) (ev_var rfl) (rv_ixT (st_of (e15 _ _ hu)) (atI_nat (by rw [List.getElem?_map, hx]; rfl)))) (ea_cons ?_ ea_nil)) (by show 2 ≤ 100000; decide)) fun r H6 nr e6 hr6 => q r _ H6 ((eH.trans e15).trans e6) hr6 (hWp.trans hx)
        rw [hAn]
        generalize tv (ansOf os qs Wg) pl = z
        cases z with
        | none => exact ev_if (b := true) (et_test (ev_op (ev_var rfl) ev_c (rv_isN (K := K)))) (fun _ => ev_c) (fun h => absurd h (by decide))
        | some j =>
          refine ev_if (b := false) (et_test (ev_op (ev_var rfl) ev_c (rv_isN (K := K)))) (fun h => absurd h (by decide)) (fun _ => ev_is (ev_op (ev_op (ev_var rfl) (ev_var rfl) rv_I0) (ev_var rfl) rv_I0) ?_)
          show V.int ((place : Int) - (pl : Int) + (j : Int)) = V.int ((j + A.length : Nat) : Int)
          congr 1
          omega
      | @row u ps Ws hu hr' hl =>
        refine ⟨_, ev_tagN rfl ht, fun _ H1 e1 => ⟨_, fun _ _ z => z, ?_⟩, fun hb => absurd hb (by decide)⟩
        refine s_if (ev_tagS rfl (e1 _ _ ht)) (fun _ H2 e2 => ?_) (fun h => absurd h (by decide))
        have e12 := e1.trans e2
        have hlW := All2.len _ _ hr'
        have hpos : 0 < Ws.length := by
          cases Ws with
          | nil => exact absurd hlt (Nat.not_lt_zero _)
          | cons x r => exact Nat.succ_pos _
        refine q_asg ev_c fun H3 e3 => q_while (fun m' σ3 H3 => ∃ i, m' = Ws.length - i ∧ i < Ws.length ∧ (Ws.take i).flatten.length ≤ pl ∧ Ex H' H3 ∧ σ3 = [some (.ref s), some v, some (.int (place : Int)), some (.int ((pl - (Ws.take i).flatten.length : Nat) : Int)), some (.ref t), some (.int (i : Int)), none]) Ws.length ⟨0, rfl, hpos, Nat.zero_le _, e12.trans e3, rfl⟩ ?_
        rintro m' σ3 H4 ⟨i, rfl, hi, hle, e4, rfl⟩
        have hWi : Ws[i]? = some Ws[i] := List.getElem?_eq_getElem hi
        obtain ⟨x, hx⟩ : ∃ x, ps[i]? = some x := ⟨ps[i]'(by omega), List.getElem?_eq_getElem (by omega)⟩
        obtain ⟨W2, hW2, hR⟩ := All2.at _ _ hr' i x hx
        obtain ⟨f1, f2⟩ := flat_at hW2
        have evx : ∀ {σ : L2.St} (H5 : Hp), Ex H4 H5 → σ[4]? = some (some (.ref t)) → σ[5]? = some (some (.int (i : Int))) → Ev (tOp (rIxT K) (tOp (rIxT K) (tVar 4) (tC (.int 1))) (tVar 5)) σ H5 x := fun {σ} H5 e5 h4 h5 => ev_op (ev_itS (i := 1) h4 ((e4.trans e5) _ _ ht) rfl) (ev_var h5) (rv_ixT (st_of ((e4.trans e5) _ _ hu)) (atI_nat hx))
        refine ⟨_, et_test (ev_op (ev_var rfl) (call H4 (show m ≤ n by omega) (evx H4 (Ex.refl _) rfl rfl) (hR.ex e4)) rv_I0), fun hb H5 e5 => ⟨_, fun _ _ z => z, ?_⟩, fun hb H5 e5 => ?_⟩
        · replace hb := of_decide_eq_true hb
          have e45 := e4.trans e5
          have hi2 : i + 1 < Ws.length := by
            rcases Nat.lt_or_ge (i + 1) Ws.length with z | z
            · exact z
            · exfalso
              have : Ws.take (i + 1) = Ws := List.take_of_length_le z
              rw [this] at f2
              omega
          refine q_asg (ev_op (ev_var rfl) (call H5 (show m ≤ n by omega) (evx H5 e5 rfl rfl) (hR.ex e45)) rv_I0) fun H6 e6 => s_asg (ev_op (ev_var rfl) ev_c rv_I0) fun H7 e7 => ⟨Ws.length - (i + 1), by omega, i + 1, rfl, hi2, by omega, (e45.trans e6).trans e7, ?_⟩
          rw [f2, show ((pl - ((Ws.take i).flatten.length + W2.length) : Nat) : Int) = ((pl - (Ws.take i).flatten.length : Nat) : Int) - (W2.length : Int) by omega, Int.natCast_add]
          rfl
        · replace hb := of_decide_eq_false hb
          have e45 := e4.trans e5
          refine s_asg (evx H5 e5 rfl rfl) fun H6 e6 => go x (pl - (Ws.take i).flatten.length) (Ws.take i).flatten W2 (Ws.drop (i + 1)).flatten _ rfl (e45.trans e6) hR f1 (by omega) (by omega)
      | @again k' p W' hk hr' =>
        refine ⟨_, ev_tagN rfl ht, fun _ H1 e1 => ⟨_, fun _ _ z => z, ?_⟩, fun hb => absurd hb (by decide)⟩
        refine s_if (ev_tagS rfl (e1 _ _ ht)) (fun h => absurd h (by decide)) (fun _ H2 e2 => s_if (ev_tagS rfl ((e1.trans e2) _ _ ht)) (fun _ H3 e3 => ?_) (fun h => absurd h (by decide)))
        have e13 := (e1.trans e2).trans e3
        rw [rep_len] at hlt
        obtain ⟨d1, d2, d3, d4⟩ := div_in hlt
        refine q_asg (ev_op (ev_var rfl) (call H3 (show m ≤ n by omega) (ev_itS (i := 2) rfl (e13 _ _ ht) rfl) (hr'.ex e13)) (rv_I (by show (0 : Int) < (W'.length : Int); omega))) fun H4 e4 => s_asg (ev_itS (i := 2) rfl ((e13.trans e4) _ _ ht) rfl) fun H5 e5 => ?_
        have hmod := Nat.div_add_mod pl W'.length
        rw [Nat.mul_comm] at hmod
        have hml := Nat.mod_lt pl d1
        have hl2 : (List.replicate (pl / W'.length) W').flatten.length = pl / W'.length * W'.length := rep_len _ _
        refine go p (pl % W'.length) (List.replicate (pl / W'.length) W').flatten W' (List.replicate (k' - pl / W'.length - 1) W').flatten y5 ?_ ((e13.trans e4).trans e5) hr' (rep_split W' d2) (by omega) hml
        rw [Int.natCast_emod]
        rfl
      | @wrap k' a c p W' hk ha hc hr' =>
        refine ⟨_, ev_tagN rfl ht, fun _ H1 e1 => ⟨_, fun _ _ z => z, ?_⟩, fun hb => absurd hb (by decide)⟩
        refine s_if (ev_tagS rfl (e1 _ _ ht)) (fun h => absurd h (by decide)) (fun _ H2 e2 => s_if (ev_tagS rfl ((e1.trans e2) _ _ ht)) (fun h => absurd h (by decide)) (fun _ H3 e3 => ?_))
        have e13 := (e1.trans e2).trans e3
        have hlen : (List.replicate k' a ++ W' ++ List.replicate k' c).length = 2 * k' + W'.length := by
          rw [List.length_append, List.length_append, List.length_replicate, List.length_replicate]
          omega
        have h200 : (2 : Nat) ^ 200 = 1606938044258990275541962092341162602522202993782792835301376 := by decide +kernel
        have hbits := GAt.bits _ _ _ hr'
        have rt : ∀ (H4 : Hp) (z : Int) (x : Str) (r : Addr), (pl < k' ∨ k' + W'.length ≤ pl) → x = (if pl < k' then a else c) → z = ((2 * k' + W'.length - 1 - pl + A.length : Nat) : Int) → Ex H' H4 → H4 r = some (.tup [.str x, .int z]) → Q (.ref r) H4 := fun H4 z x r ho hx hz e4 hr4 => by
          refine q r x H4 (eH.trans e4) ?_ ?_
          · rw [hAn, ans_own hS ha hc (GAt.shut hS _ _ _ hr') ho (by omega), hr4, hz]
            rfl
          · rw [hWp, rep_at ho hlt, hx]
        have hmul : ∀ z : Nat, z < 2 ^ (300 * 11) → CMulW 2 (z : Int) := fun z hz => mulW_of (i := 2) (n := 11) (by decide) hz (by decide)
        have p11 : (2 : Nat) ^ 200 ≤ 2 ^ (300 * 11) := Nat.pow_le_pow_right (by decide) (by decide)
        refine s_if (et_test (ev_op (ev_var rfl) (ev_itS (i := 1) rfl (e13 _ _ ht) rfl) rv_I0)) (fun hb H4 e4 => ?_) (fun hb H4 e4 => ?_)
        · replace hb : (pl : Int) < (k' : Int) := of_decide_eq_true hb
          have e14 := e13.trans e4
          refine s_retU (eu_tup (ea_cons (ev_itS (i := 2) rfl (e14 _ _ ht) rfl) (ea_cons (ev_op (ev_op (ev_op (ev_var rfl) (ev_op ev_c (ev_op (ev_itS (i := 1) rfl (e14 _ _ ht) rfl) (ev_var rfl) rv_I0) (rv_I ?_)) rv_I0) (call H4 (show m ≤ n by omega) (ev_itS (i := 3) rfl (e14 _ _ ht) rfl) (hr'.ex e14)) rv_I0) ev_c rv_I0) ea_nil)) (by show 2 ≤ 100000; decide)) fun r H5 nr e5 hr5 => rt H5 _ a r (.inl (by omega)) (by rw [if_pos (by omega)]) ?_ (e14.trans e5) hr5
          · show CMulW 2 ((k' : Int) - (pl : Int))
            rw [show ((k' : Int) - (pl : Int)) = ((k' - pl : Nat) : Int) by omega]
            exact hmul _ (by omega)
          · omega
        · replace hb : ¬ (pl : Int) < (k' : Int) := of_decide_eq_false hb
          have e14 := e13.trans e4
          refine s_if (et_test (ev_op (ev_var rfl) (ev_op (ev_itS (i := 1) rfl (e14 _ _ ht) rfl) (call H4 (show m ≤ n by omega) (ev_itS (i := 3) rfl (e14 _ _ ht) rfl) (hr'.ex e14)) rv_I0) rv_I0)) (fun hb2 H5 e5 => ?_) (fun hb2 H5 e5 => ?_)
          · replace hb2 : (k' : Int) + (W'.length : Int) ≤ (pl : Int) := of_decide_eq_true hb2
            have e15 := e14.trans e5
            refine s_retU (eu_tup (ea_cons (ev_itS (i := 4) rfl (e15 _ _ ht) rfl) (ea_cons (ev_op (ev_op (ev_op (ev_var rfl) (ev_op ev_c (ev_op (ev_var rfl) (ev_itS (i := 1) rfl (e15 _ _ ht) rfl) rv_I0) (rv_I ?_)) rv_I0) (call H5 (show m ≤ n by omega) (ev_itS (i := 3) rfl (e15 _ _ ht) rfl) (hr'.ex e15)) rv_I0) ev_c rv_I0) ea_nil)) (by show 2 ≤ 100000; decide)) fun r H6 nr e6 hr6 => rt H6 _ c r (.inr (by omega)) (by rw [if_neg (by omega)]) ?_ (e15.trans e6) hr6
            · show CMulW 2 ((pl : Int) - (k' : Int))
              rw [show ((pl : Int) - (k' : Int)) = ((pl - k' : Nat) : Int) by omega]
              have hb3 : W'.length < 2 ^ (300 * m) := hbits
              have hm2 : (2 : Nat) ^ (300 * m) ≤ 2 ^ (300 * 20) := Nat.pow_le_pow_right (by decide) (by omega)
              have h3 : (2 : Nat) ^ 200 ≤ 2 ^ (300 * 20) := Nat.pow_le_pow_right (by decide) (by decide)
              have h4 : (2 : Nat) ^ (300 * 20 + 1) = 2 * 2 ^ (300 * 20) := by rw [Nat.pow_succ, Nat.mul_comm]
              have h5 := log_of (i := pl - k') (a := 300 * 20 + 1) (by generalize (2 : Nat) ^ (300 * 20) = Z at *; generalize (2 : Nat) ^ (300 * m) = Y at *; generalize (2 : Nat) ^ 200 = X at *; omega) (by decide)
              unfold CMulW
              have : (2 : Int).natAbs.log2 = 1 := by decide +kernel
              omega
            · omega
          · replace hb2 : ¬ (k' : Int) + (W'.length : Int) ≤ (pl : Int) := of_decide_eq_false hb2
            have e15 := e14.trans e5
            refine q_asg (ev_op (ev_var rfl) (ev_itS (i := 1) rfl (e15 _ _ ht) rfl) rv_I0) fun H6 e6 => s_asg (ev_itS (i := 3) rfl ((e15.trans e6) _ _ ht) rfl) fun H7 e7 => go p (pl - k') (List.replicate k' a) W' (List.replicate k' c) y5 ?_ ((e15.trans e6).trans e7) hr' rfl (by rw [List.length_replicate]; omega) (by omega)
            rw [show ((pl - k' : Nat) : Int) = (pl : Int) - (k' : Int) by omega]
            rfl
end
end Eh
set_option Elab.async false
set_option linter.all false
set_option maxRecDepth 100000
set_option maxHeartbeats 4000000
namespace Eh
open PySem PySem.Spec PyProof.Rows L2 Evl
abbrev nSame : List Str := ["found", "due", "one", "other"]
theorem scSame : FnScope nSame ["found", "due"] (defScope sSame) := ⟨rfl, rfl, rfl, by decide +kernel, rfl, by decide +kernel, by decide +kernel⟩
def atom : V → Bool
  | .non => true
  | .bl _ => true
  | .int _ => true
  | .str _ => true
  | _ => false
def spSame0 : Sp := fun vs H Q _ => ∃ v : V, vs = [v, v] ∧ atom v = true ∧ Q (.bl true) H
def spSame1 : Sp := fun vs H Q _ => ∃ (a b : Addr) (xs : List V), vs = [.ref a, .ref b] ∧ H a = some (.lst xs) ∧ H b = some (.lst xs) ∧ xs.all atom = true ∧ xs.length ≤ 10000 ∧ ∀ H', Ex H H' → Q (.bl true) H'
structure SameK (mg : Str → Option Value) : Prop where
  isi : mg "isinstance" = none
  bool : mg "bool" = none
  str : mg "str" = none
  int : mg "int" = none
  tuple : mg "tuple" = none
  list : mg "list" = none
  len : mg "len" = none
  all : mg "all" = none
  zip : mg "zip" = none
theorem ev_isi {K : PySem.W.Frag} {σ : L2.St} {H : Hp} {te : TE} {x : V} {a S : String} {b : Bool} (he : Ev te σ H x) (ht : ∀ H1, Ex H H1 → TyX K H1 x (.type a)) (hk : kitB a S = some b) : Ev (tCB (rIsi K) (tCons te (tCons (tC (.ty S)) tNil))) σ H (.bl b) := fun H1 e1 Q q =>
  he H1 e1 _ fun H2 e2 => ⟨x, .ty S, .type a, .type S, b, rfl, .ty S, ht H2 (e1.trans e2), kit_ty hk, q H2 e2⟩
theorem lc_zip {K : PySem.W.Frag} {a b : Addr} {xs ys : List V} {tt : TT} {te : TE} {σ : L2.St} {H1 : Hp} {Dd : Addr} {Qd : Hp → Prop} {i1 i2 : Nat} {vs : List Nat} (hl : xs.length = ys.length) (Pv : Nat → Hp → Prop) (h0 : Pv 0 (upd H1 Dd (.lst []))) (hq : ∀ i H, i ≤ xs.length → Pv i H → SqL K H a xs ∧ SqL K H b ys)
    (hs : ∀ i x y H T, xs[i]? = some x → ys[i]? = some y → Pv i H → H T = none → wipe (((wipe σ vs).set i1 (some x)).set i2 (some y)) vs = wipe σ vs ∧ tt (((wipe σ vs).set i1 (some x)).set i2 (some y)) (upd H T (.tup [x, y])) fun b H3 => if b = true then te (((wipe σ vs).set i1 (some x)).set i2 (some y)) H3 fun z H4 => ∃ acc, H4 Dd = some (.lst acc) ∧ acc.length < sizeLine ∧ Pv (i + 1) (upd H4 Dd (.lst (acc ++ [z]))) else Pv (i + 1) H3)
    (hd : ∀ H, Pv xs.length H → Qd H) :
    ∃ W : Nat → Nat → Hp → Prop, (∃ m, W 0 m (upd H1 Dd (.lst []))) ∧ ∀ i m H, W i m H → ((Itz K a b).stop i H ∧ Qd H) ∨ ((Itz K a b).go i H ∧ ∃ Nx : Hp → Prop, (∀ H', Nx H' → ∃ m', m' < m ∧ W (i + 1) m' H') ∧ ∀ x H', (Itz K a b).yld i H x H' → gTup K 2 (gCons (gName i1) (gCons (gName i2) gNil)) x (wipe σ vs) H' fun σ2 H2 => wipe σ2 vs = wipe σ vs ∧ tt σ2 H2 fun b H3 => if b = true then te σ2 H3 fun z H4 => ∃ acc, H4 Dd = some (.lst acc) ∧ acc.length < sizeLine ∧ Nx (upd H4 Dd (.lst (acc ++ [z]))) else Nx H3) := by
  refine ⟨fun i m H => m = xs.length - i ∧ i ≤ xs.length ∧ Pv i H, ⟨xs.length, by omega, Nat.zero_le _, h0⟩, ?_⟩
  rintro i m H ⟨rfl, hi, pp⟩
  obtain ⟨q1, q2⟩ := hq i H hi pp
  by_cases hlt : i < xs.length
  · have g1 : xs[i]? = some xs[i] := List.getElem?_eq_getElem hlt
    have g2 : ys[i]? = some ys[i] := List.getElem?_eq_getElem (by omega)
    refine .inr ⟨⟨xs, ys, _, _, q1, q2, g1, g2⟩, Pv (i + 1), fun H' p' => ⟨xs.length - (i + 1), by omega, rfl, hlt, p'⟩, fun v H' y => ?_⟩
    obtain ⟨T, x, y, rfl, nT, rfl, f1, f2⟩ := y
    exact ⟨T, [x, y], rfl, st_of upd_same, rfl, _, _, rfl, _, _, rfl, rfl, hs i x y H T (f1 xs q1) (f2 ys q2) pp nT⟩
  · have e : i = xs.length := by omega
    subst e
    exact .inl ⟨⟨xs, ys, q1, q2, .inl (Nat.le_refl _)⟩, hd H pp⟩
section
variable {P : Program} {w : World} {K : PySem.W.Frag} {mg : Str → Option Value} {base : Heap}
theorem ok_same0 {f : Addr} {fd : FuncData} {k : Nat} (F : Fun K "_law_same" "_law_same" sSame f fd) (T : SameK mg) : FnOk P w K mg base CX0 (k + 1) f fd ["found", "due"] spSame0 := by
  have nd := scSame.nd
  refine F.ok scSame (fun vs H Q E h => ?_) (fun cdv A outer s H vs Q E hr h => ?_)
  · obtain ⟨v, rfl, _⟩ := h
    rfl
  · obtain ⟨v, rfl, hv, q⟩ := h
    refine ⟨_, pss_cons (ps_if (PW.pt (pw_or (pt_cmpR op_isN (pv 1) pe_non (nomark _)) (pw_or1 (pt_val (pe_callB call_isi (by rfl) T.isi (by decide +kernel) (pa_cons (pv 1) (pa_cons (pe_bltn (v := .ty "bool") (by rfl) T.bool (by decide +kernel) rfl) pa_nil))))))) (pss_one (ps_ret (pe_and (pe_cmpR op_eq (pe_callB call_isi (by rfl) T.isi (by decide +kernel) (pa_cons (pv 0) (pa_cons (pe_bltn (v := .ty "bool") (by rfl) T.bool (by decide +kernel) rfl) pa_nil))) (pe_callB call_isi (by rfl) T.isi (by decide +kernel) (pa_cons (pv 1) (pa_cons (pe_bltn (v := .ty "bool") (by rfl) T.bool (by decide +kernel) rfl) pa_nil))) (nomark _)) (pe_one (pe_cmpR op_eq (pv 0) (pv 1) (nomark _)))))) pss_nil)
      (pss_cons (ps_if (pt_val (pe_callB call_isi (by rfl) T.isi (by decide +kernel) (pa_cons (pv 1) (pa_cons (pe_bltn (v := .ty "str") (by rfl) T.str (by decide +kernel) rfl) pa_nil)))) (pss_one (ps_ret (pe_and (pe_callB call_isi (by rfl) T.isi (by decide +kernel) (pa_cons (pv 0) (pa_cons (pe_bltn (v := .ty "str") (by rfl) T.str (by decide +kernel) rfl) pa_nil))) (pe_one (pe_cmpR op_eq (pv 0) (pv 1) (nomark _)))))) pss_nil)
      (pss_cons (ps_if (pt_val (pe_callB call_isi (by rfl) T.isi (by decide +kernel) (pa_cons (pv 1) (pa_cons (pe_bltn (v := .ty "int") (by rfl) T.int (by decide +kernel) rfl) pa_nil)))) (pss_one (ps_ret (pe_and (pe_callB call_isi (by rfl) T.isi (by decide +kernel) (pa_cons (pv 0) (pa_cons (pe_bltn (v := .ty "int") (by rfl) T.int (by decide +kernel) rfl) pa_nil))) (pe_and (pe_not (pe_callB call_isi (by rfl) T.isi (by decide +kernel) (pa_cons (pv 0) (pa_cons (pe_bltn (v := .ty "bool") (by rfl) T.bool (by decide +kernel) rfl) pa_nil)))) (pe_one (pe_cmpR op_eq (pv 0) (pv 1) (nomark _))))))) pss_nil)
      (pss_never))), ?_⟩
    cases v with
    | non =>
      exact ⟨_, rfl, rfl, _, rfl, iteT ⟨_, rfl, _, _, _, _, false, rfl, .ty _, .base .non, kit_ty (by decide +kernel), _, rfl, _, _, _, _, false, rfl, .ty _, .base .non, kit_ty (by decide +kernel), rfl, _, rfl, iteT ⟨_, rfl, _, rfl, rfl, q⟩⟩⟩
    | bl b =>
      refine ⟨_, rfl, rfl, _, rfl, iteF ⟨_, rfl, _, _, _, _, true, rfl, .ty _, .base (.bl b), kit_ty (by decide +kernel), _, rfl, iteT ⟨_, rfl, _, _, _, _, true, rfl, .ty _, .base (.bl b), kit_ty (by decide +kernel), _, rfl, _, _, _, _, true, rfl, .ty _, .base (.bl b), kit_ty (by decide +kernel), rfl, _, rfl, iteT ⟨_, rfl, _, rfl, rfl, ?_⟩⟩⟩⟩
      rw [decide_eq_true rfl]
      exact q
    | int i =>
      refine ⟨_, rfl, rfl, _, rfl, iteF ⟨_, rfl, _, _, _, _, false, rfl, .ty _, .base (.int i), kit_ty (by decide +kernel), _, rfl, iteF ?_⟩⟩
      refine ⟨_, rfl, _, _, _, _, false, rfl, .ty _, .base (.int i), kit_ty (by decide +kernel), _, rfl, iteF ?_⟩
      refine ⟨_, rfl, _, _, _, _, true, rfl, .ty _, .base (.int i), kit_ty (by decide +kernel), _, rfl, iteT ?_⟩
      refine ⟨_, rfl, _, _, _, _, true, rfl, .ty _, .base (.int i), kit_ty (by decide +kernel), _, rfl, iteT ⟨_, rfl, _, _, _, _, false, rfl, .ty _, .base (.int i), kit_ty (by decide +kernel), _, rfl, _, rfl, iteT ⟨_, rfl, _, rfl, rfl, ?_⟩⟩⟩
      rw [decide_eq_true rfl]
      exact q
    | str z =>
      refine ⟨_, rfl, rfl, _, rfl, iteF ⟨_, rfl, _, _, _, _, false, rfl, .ty _, .base (.str z), kit_ty (by decide +kernel), _, rfl, iteF ?_⟩⟩
      refine ⟨_, rfl, _, _, _, _, true, rfl, .ty _, .base (.str z), kit_ty (by decide +kernel), _, rfl, iteT ⟨_, rfl, _, _, _, _, true, rfl, .ty _, .base (.str z), kit_ty (by decide +kernel), _, rfl, iteT ⟨_, rfl, _, rfl, rfl, ?_⟩⟩⟩
      rw [decide_eq_true rfl]
      exact q
    | _ => exact absurd hv Bool.false_ne_true
theorem ok_same1 {f : Addr} {fd : FuncData} {k : Nat} (F : Fun K "_law_same" "_law_same" sSame f fd) (T : SameK mg) (bS : Binds K fd ["found", "due"] []) (gS : mg "_law_same" = some (.ref f)) : FnOk P w K mg base CX0 (k + 2) f fd ["found", "due"] spSame1 := by
  have nd := scSame.nd
  have G0 : FnOk P w K mg base CX0 (k + 1) f fd ["found", "due"] spSame0 := ok_same0 F T
  refine F.ok scSame (fun vs H Q E h => ?_) (fun cdv A outer s H vs Q E hr h => ?_)
  · obtain ⟨a, b, xs, rfl, _⟩ := h
    rfl
  · obtain ⟨a, b, xs, rfl, ha, hb, hat, hlen, q⟩ := h
    refine ⟨_, pss_cons (ps_if (PW.pt (pw_or (pt_cmpR op_isN (pv 1) pe_non (nomark _)) (pw_or1 (pt_val (pe_callB call_isi (by rfl) T.isi (by decide +kernel) (pa_cons (pv 1) (pa_cons (pe_bltn (v := .ty "bool") (by rfl) T.bool (by decide +kernel) rfl) pa_nil))))))) (pss_one (ps_ret (pe_and (pe_cmpR op_eq (pe_callB call_isi (by rfl) T.isi (by decide +kernel) (pa_cons (pv 0) (pa_cons (pe_bltn (v := .ty "bool") (by rfl) T.bool (by decide +kernel) rfl) pa_nil))) (pe_callB call_isi (by rfl) T.isi (by decide +kernel) (pa_cons (pv 1) (pa_cons (pe_bltn (v := .ty "bool") (by rfl) T.bool (by decide +kernel) rfl) pa_nil))) (nomark _)) (pe_one (pe_cmpR op_eq (pv 0) (pv 1) (nomark _)))))) pss_nil)
      (pss_cons (ps_if (pt_val (pe_callB call_isi (by rfl) T.isi (by decide +kernel) (pa_cons (pv 1) (pa_cons (pe_bltn (v := .ty "str") (by rfl) T.str (by decide +kernel) rfl) pa_nil)))) (pss_one (ps_ret (pe_and (pe_callB call_isi (by rfl) T.isi (by decide +kernel) (pa_cons (pv 0) (pa_cons (pe_bltn (v := .ty "str") (by rfl) T.str (by decide +kernel) rfl) pa_nil))) (pe_one (pe_cmpR op_eq (pv 0) (pv 1) (nomark _)))))) pss_nil)
      (pss_cons (ps_if (pt_val (pe_callB call_isi (by rfl) T.isi (by decide +kernel) (pa_cons (pv 1) (pa_cons (pe_bltn (v := .ty "int") (by rfl) T.int (by decide +kernel) rfl) pa_nil)))) (pss_one (ps_ret (pe_and (pe_callB call_isi (by rfl) T.isi (by decide +kernel) (pa_cons (pv 0) (pa_cons (pe_bltn (v := .ty "int") (by rfl) T.int (by decide +kernel) rfl) pa_nil))) (pe_and (pe_not (pe_callB call_isi (by rfl) T.isi (by decide +kernel) (pa_cons (pv 0) (pa_cons (pe_bltn (v := .ty "bool") (by rfl) T.bool (by decide +kernel) rfl) pa_nil)))) (pe_one (pe_cmpR op_eq (pv 0) (pv 1) (nomark _))))))) pss_nil)
      (pss_cons (ps_if (PW.pt (pw_or (pt_cmpR op_ne (pe_callB call_isi (by rfl) T.isi (by decide +kernel) (pa_cons (pv 1) (pa_cons (pe_bltn (v := .ty "tuple") (by rfl) T.tuple (by decide +kernel) rfl) pa_nil))) (pe_callB call_isi (by rfl) T.isi (by decide +kernel) (pa_cons (pv 0) (pa_cons (pe_bltn (v := .ty "tuple") (by rfl) T.tuple (by decide +kernel) rfl) pa_nil))) (nomark _)) (pw_or1 (pt_cmpR op_ne (pe_callB call_isi (by rfl) T.isi (by decide +kernel) (pa_cons (pv 1) (pa_cons (pe_bltn (v := .ty "list") (by rfl) T.list (by decide +kernel) rfl) pa_nil))) (pe_callB call_isi (by rfl) T.isi (by decide +kernel) (pa_cons (pv 0) (pa_cons (pe_bltn (v := .ty "list") (by rfl) T.list (by decide +kernel) rfl) pa_nil))) (nomark _))))) (pss_one (ps_ret pe_bl)) pss_nil)
      (pss_one (ps_ret (pe_and (pe_cmpR op_eq (pe_callB call_len_seq (by rfl) T.len PySem.boot_len (pa_cons (pv 0) pa_nil)) (pe_callB call_len_seq (by rfl) T.len PySem.boot_len (pa_cons (pv 1) pa_nil)) (nomark _)) (pe_one (pe_callB (cr_all rfl) (by rfl) T.all (by decide +kernel) (pa_cons (pe_lc (own := [("one", 2), ("other", 3)]) (g := gTup K 2 (gCons (gName 2) (gCons (gName 3) gNil))) (tt := tYes) (te := tCall spSame0 [] E0 (tCons (tVar 2) (tCons (tVar 3) tNil))) rfl nd (pi_zip (by rfl) T.zip (pa_cons (pv 0) (pa_cons (pv 1) pa_nil))) (blkOk_by (own := [("one", 2), ("other", 3)]) (N := nSame) (sc := defScope sSame) (by decide +kernel)) (fun _ _ _ _ _ => pg_tup rfl (pgs_cons (pg_name (i := 2) nd rfl (.inl rfl)) (pgs_cons (pg_name (i := 3) nd rfl (.inl rfl)) pgs_nil))) (fun _ _ _ _ _ => pts_nil) (fun _ _ _ _ _ => pe_call G0 hr (by rfl) gS F.kp bS .nil pass0 (pa_cons (pv 2) (pa_cons (pv 3) pa_nil)))) pa_nil))))))))), ?_⟩
    refine ⟨_, rfl, rfl, _, rfl, iteF ⟨_, rfl, _, _, _, _, false, rfl, .ty _, .base (.lst hb), kit_ty (by decide +kernel), _, rfl, iteF ?_⟩⟩
    refine ⟨_, rfl, _, _, _, _, false, rfl, .ty _, .base (.lst hb), kit_ty (by decide +kernel), _, rfl, iteF ?_⟩
    refine ⟨_, rfl, _, _, _, _, false, rfl, .ty _, .base (.lst hb), kit_ty (by decide +kernel), _, rfl, iteF ?_⟩
    refine ⟨_, rfl, _, _, _, _, false, rfl, .ty _, .base (.lst hb), kit_ty (by decide +kernel), _, rfl, _, _, _, _, false, rfl, .ty _, .base (.lst ha), kit_ty (by decide +kernel), rfl, _, rfl, iteF ?_⟩
    refine ⟨_, rfl, _, _, _, _, true, rfl, .ty _, .base (.lst hb), kit_ty (by decide +kernel), _, rfl, _, _, _, _, true, rfl, .ty _, .base (.lst ha), kit_ty (by decide +kernel), rfl, _, rfl, iteF ?_⟩
    refine ⟨_, rfl, a, _, rfl, .inl (sq_of ha), _, rfl, b, _, rfl, .inl (sq_of hb), rfl, _, rfl, ?_⟩
    rw [decide_eq_true rfl]
    refine iteT ⟨_, rfl, _, rfl, a, b, xs, xs, rfl, sq_of ha, sq_of hb, fun D nD => ?_⟩
    have xD := Ex.new (o := .lst []) nD
    refine lc_zip (xs := xs) (ys := xs) rfl (fun i H' => Ex H H' ∧ H' D = some (.lst ((List.replicate i true).map V.bl))) ⟨xD, upd_same⟩ (fun i H' _ hh => ⟨sq_of (hh.1 _ _ ha), sq_of (hh.1 _ _ hb)⟩) ?_ ?_
    · rintro i x y H' Tp hx hy ⟨eH, hD⟩ nT
      have exy : x = y := Option.some.inj (hx.symm.trans hy)
      subst exy
      have hax : atom x = true := List.all_eq_true.mp hat x (List.mem_of_getElem? hx)
      have hi := (List.getElem?_eq_some_iff.mp hx).1
      have eT : Ex H' (upd H' Tp (.tup [x, x])) := Ex.new nT
      refine ⟨rfl, yesT ⟨_, rfl, _, rfl, x, rfl, hax, _, eT _ _ hD, ?_, (eH.trans eT).mut nD, ?_⟩⟩
      · rw [List.length_map, List.length_replicate]
        exact sz_lt (by omega)
      · rw [upd_same, List.replicate_succ', List.map_append]
        rfl
    · rintro H' ⟨eH, hD⟩
      refine ⟨D, List.replicate xs.length true, rfl, sq_of hD, ?_⟩
      rw [show (List.replicate xs.length true).all id = true by
        rw [List.all_eq_true]
        intro z hz
        exact List.eq_of_mem_replicate hz]
      exact q H' eH
end
end Eh
set_option Elab.async false
set_option linter.all false
set_option maxRecDepth 100000
set_option maxHeartbeats 4000000
namespace Eh
open PySem PySem.Spec PyProof.Rows L2 Evl
abbrev nLawCount : List Str := ["pot", "big", "some"]
theorem scLawCount : FnScope nLawCount ["pot", "big"] (defScope sLawCount) := ⟨rfl, rfl, rfl, by decide +kernel, rfl, by decide +kernel, by decide +kernel⟩
abbrev nLawGreat : List Str := ["pot", "sheet", "deep", "big", "way", "often", "part", "a", "k"]
theorem scLawGreat : FnScope nLawGreat ["pot", "sheet", "deep", "big"] (defScope sLawGreat) := ⟨rfl, rfl, rfl, by decide +kernel, rfl, by decide +kernel, by decide +kernel⟩
theorem ten60 : (10 : Int) ^ (60 : Int).toNat = 1000000000000000000000000000000000000000000000000000000000000 := by decide +kernel
theorem ten30 : (10 : Int) ^ (30 : Int).toNat = 1000000000000000000000000000000 := by decide +kernel
theorem two200 : (2 : Nat) ^ 200 = 1606938044258990275541962092341162602522202993782792835301376 := by decide +kernel
def spCount : Sp := fun vs H Q _ => ∃ (p c : Addr) (ns : List Int) (big : Bool), vs = [.ref p, .bl big] ∧ Pot p c ns H ∧ ∀ (k : Nat) H', k < 2 ^ 200 → (big = false → k ≤ 3) → Keep p H H' → Pot p c ns H' → Q (.int (k : Int)) H'
def spGreat (n : Nat) : Sp := fun vs H Q _ => ∃ (p c s : Addr) (ns : List Int) (os ls qs : List Str) (deep : Nat) (big : Bool), vs = [.ref p, .ref s, .int (deep : Int), .bl big] ∧ deep < n ∧ Pot p c ns H ∧ Sht os ls qs ∧ SheetAt H s os ls qs ∧
  ∀ (v : V) (W : List Str) H', GAt os ls qs H' (deep + 1) v W → (big = false → W.length ≤ 6 * 3 ^ deep) → Keep p H H' → Pot p c ns H' → Q v H'
theorem keep_lst {H : Hp} {a : Addr} {xs : List V} {o : HO} (h : H a = some (.lst xs)) : ∀ b ys, H b = some (.tup ys) → (upd H a o) b = some (.tup ys) := fun b ys e => by
  rw [upd_ne (fun z => by rw [z, h] at e; cases e)]
  exact e
section
variable {P : Program} {w : World} {K : PySem.W.Frag} {mg : Str → Option Value} {base : Heap}
theorem ok_count {f fP : Addr} {fd fdP : FuncData} {k : Nat} (F : Fun K "_law_count" "_law_count" sLawCount f fd) (Fpick : Fun K "_law_pick" "_law_pick" sPick fP fdP) (GP : ∀ k, FnOk P w K mg base CX0 (k + 2) fP fdP ["pot", "many"] spPick) (GW : ∀ k, FnOk P w K mg base CX0 (k + 2) fP fdP ["pot", "many"] spPickW) (bpick : Binds K fdP ["pot", "many"] []) (gpick : mg "_law_pick" = some (.ref fP)) (mlen : mg "len" = none) : FnOk P w K mg base CX0 (k + 3) f fd ["pot", "big"] spCount := by
  have nd := scLawCount.nd
  have Gpick := GP k
  have GpickW := GW k
  refine F.ok scLawCount (fun vs H Q E h => ?_) (fun cdv A outer s H vs Q E hr h => ?_)
  · obtain ⟨p, c, ns, big, rfl, _⟩ := h
    rfl
  · obtain ⟨p, c, ns, big, rfl, hP, q⟩ := h
    refine ⟨_, (pss_cons (ps_set (i := 2) nd rfl (.inl rfl) (pe_lst (pa_cons pe_int (pa_cons pe_int (pa_cons pe_int (pa_cons (pe_call Gpick hr (by rfl) gpick Fpick.kp bpick .nil pass0 (pa_cons (pv 0) (pa_cons pe_int pa_nil))) pa_nil))))))
      (pss_cut (ps_if (pt_val (pv 1)) (pss_one (ps_set (i := 2) nd rfl (.inl rfl) (pe_op op_cat (pv 2) (pe_lst (pa_cons (pe_call Gpick hr (by rfl) gpick Fpick.kp bpick .nil pass0 (pa_cons (pv 0) (pa_cons pe_int pa_nil))) (pa_cons (pe_call GpickW hr (by rfl) gpick Fpick.kp bpick .nil pass0 (pa_cons (pv 0) (pa_cons (pe_op op_pow pe_int pe_int) pa_nil))) (pa_cons (pe_op op_sub (pe_op op_pow pe_int pe_int) (pe_call Gpick hr (by rfl) gpick Fpick.kp bpick .nil pass0 (pa_cons (pv 0) (pa_cons pe_int pa_nil)))) pa_nil))))))) pss_nil)
      (pss_one (ps_ret (pe_ix ix_list (pv 2) (pe_call Gpick hr (by rfl) gpick Fpick.kp bpick .nil pass0 (pa_cons (pv 0) (pa_cons (pe_callB call_len_seq (by rfl) mlen PySem.boot_len (pa_cons (pv 2) pa_nil)) pa_nil))) (fun _ _ => rfl)))))), ?_⟩
    refine ⟨_, rfl, p, c, ns, 4, rfl, by decide, by decide, hP, fun v H1 hv kp1 hP1 => ⟨by show 4 ≤ sizeLine; decide, fun l nl => ?_⟩⟩
    have e1 : Ex H1 _ := Ex.new (o := .lst [.int 0, .int 1, .int 2, .int (v : Int)]) nl
    refine ⟨fun σ' H' => ∃ (l' : Addr) (cs : List Nat), σ' = [some (.ref p), some (.bl big), some (.ref l')] ∧ l' ≠ p ∧ H' l' = some (.lst (cs.map fun k : Nat => V.int (k : Int))) ∧ 4 ≤ cs.length ∧ cs.length ≤ 7 ∧ (∀ x ∈ cs, x < 2 ^ 200 ∧ (big = false → x ≤ 3)) ∧ Keep p H H' ∧ Pot p c ns H', ⟨_, rfl, big, rfl, ?_⟩, ?_⟩
    · have h200 : ∀ x : Nat, x ≤ 3 → x < 2 ^ 200 := fun x h => by rw [two200]; omega
      cases big with
      | false =>
        refine iteF ⟨l, [0, 1, 2, v], rfl, (hP1.ne_new nl).1.symm, upd_same, by show 4 ≤ 4; decide, by show 4 ≤ 7; decide, fun x hx => ?_, kp1.trans (Keep.ofEx e1), hP1.ex e1⟩
        have : x ≤ 3 := by
          simp only [List.mem_cons, List.not_mem_nil, or_false] at hx
          omega
        exact ⟨h200 x this, fun _ => this⟩
      | true =>
        have hP2 := hP1.ex e1
        refine iteT ⟨_, rfl, _, rfl, p, c, ns, 1000, rfl, by decide, by decide, hP2, fun v1 H3 hv1 kp3 hP3 => ⟨_, rfl, 10, 30, rfl, rfl, ⟨by decide, by decide, by decide⟩, p, c, ns, 10 ^ (30 : Int).toNat, rfl, by rw [ten30]; decide, by rw [ten30]; decide +kernel, hP3, fun v2 H4 hv2 kp4 hP4 => ⟨10, 60, rfl, rfl, ⟨by decide, by decide, by decide⟩, _, rfl, p, c, ns, 3, rfl, by decide, by decide, hP4, fun v3 H5 hv3 kp5 hP5 => ⟨_, _, rfl, rfl, by show 3 ≤ sizeLine; decide, fun l2 nl2 => ?_⟩⟩⟩⟩
        have lp := (hP1.ne_new nl).1.symm
        have hl5 : H5 l = _ := kp5 _ _ lp (kp4 _ _ lp (kp3 _ _ lp upd_same))
        have e5 : Ex H5 _ := Ex.new (o := .lst [.int (v1 : Int), .int (v2 : Int), .int ((10 : Int) ^ (60 : Int).toNat - (v3 : Int))]) nl2
        refine ⟨l, l2, _, _, rfl, rfl, e5 _ _ hl5, upd_same, by show 4 + 3 ≤ sizeLine; decide, fun r nr => ?_⟩
        have e6 := e5.trans (Ex.new (o := .lst ([.int 0, .int 1, .int 2, .int (v : Int)] ++ [.int (v1 : Int), .int (v2 : Int), .int ((10 : Int) ^ (60 : Int).toNat - (v3 : Int))])) nr)
        have kp6 := (((kp1.trans (Keep.ofEx e1)).trans kp3).trans kp4).trans (kp5.trans (Keep.ofEx e6))
        rw [ten30] at hv2
        have e60 : (10 : Int) ^ (60 : Int).toNat - (v3 : Int) = ((1000000000000000000000000000000000000000000000000000000000000 - v3 : Nat) : Int) := by
          rw [ten60]
          omega
        refine ⟨r, [0, 1, 2, v, v1, v2, 1000000000000000000000000000000000000000000000000000000000000 - v3], rfl, ((hP5.ex e5).ne_new nr).1.symm, ?_, by show 4 ≤ 7; decide, by show 7 ≤ 7; decide, fun x hx => ⟨?_, fun z => nomatch z⟩, kp6, hP5.ex e6⟩
        · rw [upd_same]
          dsimp only
          rw [e60]
          rfl
        · rw [two200]
          simp only [List.mem_cons, List.not_mem_nil, or_false] at hx
          omega
    · rintro σ' H' ⟨l', cs, rfl, lp, hl', c4, c7, hcs, kp', hP'⟩
      refine ⟨_, rfl, _, rfl, _, rfl, l', _, rfl, .inl (sq_of hl'), p, c, ns, _, rfl, by rw [List.length_map]; omega, by rw [List.length_map]; omega, hP', fun v H3 hv kp3 hP3 => ?_⟩
      rw [List.length_map] at hv
      have hv' : v < cs.length := by omega
      refine ⟨l', _, _, .int (cs[v] : Nat), rfl, rfl, sq_of (kp3 _ _ lp hl'), atI_nat ?_, q _ H3 (hcs _ (List.getElem_mem hv')).1 (hcs _ (List.getElem_mem hv')).2 (kp'.trans kp3) hP3⟩
      rw [List.getElem?_map, List.getElem?_eq_getElem hv']
      rfl
theorem ok_great {f fP fS fC : Addr} {fd fdP fdS fdC : FuncData} (Fgreat : Fun K "_law_great" "_law_great" sLawGreat f fd) (bgreat : Binds K fd ["pot", "sheet", "deep", "big"] []) (ggreat : mg "_law_great" = some (.ref f)) (Fpick : Fun K "_law_pick" "_law_pick" sPick fP fdP) (GP : ∀ k, FnOk P w K mg base CX0 (k + 2) fP fdP ["pot", "many"] spPick) (bpick : Binds K fdP ["pot", "many"] []) (gpick : mg "_law_pick" = some (.ref fP)) (Fshut : Fun K "_law_shut" "_law_shut" sShut fS fdS) (GS : ∀ k, FnOk P w K mg base CX0 (k + 3) fS fdS ["pot", "sheet", "most"] spShut) (bshut : Binds K fdS ["pot", "sheet", "most"] []) (gshut : mg "_law_shut" = some (.ref fS)) (Fcount : Fun K "_law_count" "_law_count" sLawCount fC fdC) (GC : ∀ k, FnOk P w K mg base CX0 (k + 3) fC fdC ["pot", "big"] spCount) (bcount : Binds K fdC ["pot", "big"] []) (gcount : mg "_law_count" = some (.ref fC)) (mint : mg "int" = none) (mlen : mg "len" = none) (mrange : mg "range" = none) (mtuple : mg "tuple" = none) : ∀ (n k : Nat), FnOk P w K mg base CX0 (k + n + 3) f fd ["pot", "sheet", "deep", "big"] (spGreat n)
  | 0, k => fn_no fun vs H Q E ⟨_, _, _, _, _, _, _, _, _, _, h, _⟩ => Nat.not_lt_zero _ h
  | n + 1, k => by
    have nd := scLawGreat.nd
    have Ggreat : FnOk P w K mg base CX0 (k + n + 3) f fd ["pot", "sheet", "deep", "big"] (spGreat n) := ok_great Fgreat bgreat ggreat Fpick GP bpick gpick Fshut GS bshut gshut Fcount GC bcount gcount mint mlen mrange mtuple n k
    have Gpick := GP (k + n + 1)
    have Gshut := GS (k + n)
    have Gcount := GC (k + n)
    refine Fgreat.ok scLawGreat (fun vs H Q E h => ?_) (fun cdv A outer s H vs Q E hr h => ?_)
    · obtain ⟨p, c, s, ns, os, ls, qs, deep, big, rfl, _⟩ := h
      rfl
    · obtain ⟨p, c, s, ns, os, ls, qs, deep, big, rfl, hd, hP, hS, hs, q⟩ := h
      refine ⟨_, (pss_cons (ps_set (i := 4) nd rfl (.inl rfl) (pe_op op_mul (pe_call Gpick hr (by rfl) gpick Fpick.kp bpick .nil pass0 (pa_cons (pv 0) (pa_cons pe_int pa_nil))) (pe_callTy call_int1 (by rfl) mint (by decide +kernel) (pa_cons (pe_cmpR op_gt (pv 2) pe_int (nomark _)) pa_nil))))
      (pss_cons (ps_if (pt_cmpR op_eq (pv 4) pe_int (nomark _)) (pss_one (ps_ret (pe_tup (pa_cons pe_str (pa_cons (pe_callTy call_tuple_of (by rfl) mtuple (by decide +kernel) (pa_cons (pe_call Gshut hr (by rfl) gshut Fshut.kp bshut .nil pass0 (pa_cons (pv 0) (pa_cons (pv 1) (pa_cons pe_int pa_nil)))) pa_nil)) pa_nil))))) pss_nil)
      (pss_cons (ps_if (pt_cmpR op_eq (pv 4) pe_int (nomark _)) (pss_one (ps_ret (pe_tup (pa_cons pe_str (pa_cons (pe_callTy call_tuple_of (by rfl) mtuple (by decide +kernel) (pa_cons (pe_lc (own := [("k", 8)]) (g := gName 8) (tt := tYes) (te := (tCall (spGreat n) [] E0 (tCons (tVar 0) (tCons (tVar 1) (tCons (tOp (rI0 fun i j => .int (i - j)) (tVar 2) (tC (.int 1))) (tCons (tVar 3) tNil)))))) rfl nd (pi_range1 (by rfl) mrange (pa_cons (pe_call Gpick hr (by rfl) gpick Fpick.kp bpick .nil pass0 (pa_cons (pv 0) (pa_cons pe_int pa_nil))) pa_nil)) (blkOk_by (own := [("k", 8)]) (N := nLawGreat) (sc := defScope sLawGreat) (by decide +kernel)) (fun _ _ _ _ _ => pg_name (i := 8) nd rfl (.inl rfl)) (fun _ _ _ _ _ => pts_nil) (fun _ _ _ _ _ => (pe_call Ggreat hr (by rfl) ggreat Fgreat.kp bgreat .nil pass0 (pa_cons (pv 0) (pa_cons (pv 1) (pa_cons (pe_op op_sub (pv 2) pe_int) (pa_cons (pv 3) pa_nil))))))) pa_nil)) pa_nil))))) pss_nil)
      (pss_cons (ps_set (i := 5) nd rfl (.inl rfl) (pe_call Gcount hr (by rfl) gcount Fcount.kp bcount .nil pass0 (pa_cons (pv 0) (pa_cons (pv 3) pa_nil))))
      (pss_cons (ps_set (i := 6) nd rfl (.inl rfl) (pe_call Ggreat hr (by rfl) ggreat Fgreat.kp bgreat .nil pass0 (pa_cons (pv 0) (pa_cons (pv 1) (pa_cons (pe_op op_sub (pv 2) pe_int) (pa_cons (pv 3) pa_nil))))))
      (pss_cons (ps_if (pt_cmpR op_eq (pv 4) pe_int (nomark _)) (pss_one (ps_ret (pe_tup (pa_cons pe_str (pa_cons (pv 5) (pa_cons (pv 6) pa_nil)))))) pss_nil)
      (pss_cons (ps_set (i := 7) nd rfl (.inl rfl) (pe_ix ix_tup (pe_ix ix_tup (pv 1) pe_int (fun _ _ => rfl)) (pe_call Gpick hr (by rfl) gpick Fpick.kp bpick .nil pass0 (pa_cons (pv 0) (pa_cons (pe_callB call_len_seq (by rfl) mlen PySem.boot_len (pa_cons (pe_ix ix_tup (pv 1) pe_int (fun _ _ => rfl)) pa_nil)) pa_nil))) (fun _ _ => rfl)))
      (pss_one (ps_ret (pe_tup (pa_cons pe_str (pa_cons (pv 5) (pa_cons (pv 7) (pa_cons (pv 6) (pa_cons (pe_ix ix_tup (pe_ix ix_tup (pv 1) pe_int (fun _ _ => rfl)) (pe_call Gpick hr (by rfl) gpick Fpick.kp bpick .nil pass0 (pa_cons (pv 0) (pa_cons (pe_callB call_len_seq (by rfl) mlen PySem.boot_len (pa_cons (pe_ix ix_tup (pv 1) pe_int (fun _ _ => rfl)) pa_nil)) pa_nil))) (fun _ _ => rfl)) pa_nil))))))))))))))), ?_⟩
      refine ⟨_, rfl, p, c, ns, 4, rfl, by decide, by decide, hP, fun v H1 hv kp1 hP1 => ⟨_, rfl, _, _, rfl, rfl, .inr ⟨_, rfl, _, _, rfl, rfl, .inr ?_, ?_⟩⟩⟩
      · by_cases h0 : (0 : Int) < (deep : Int)
        · rw [decide_eq_true h0]; exact ⟨by decide, by decide⟩
        · rw [decide_eq_false h0]; exact ⟨by decide, by decide⟩
      have hw : ∃ way : Nat, (v : Int) * (if decide ((0 : Int) < (deep : Int)) = true then 1 else 0) = (way : Int) ∧ way < 4 ∧ (deep = 0 → way = 0) := by
        by_cases h0 : (0 : Int) < (deep : Int)
        · rw [decide_eq_true h0]
          exact ⟨v, by simp, by omega, fun z => by omega⟩
        · rw [decide_eq_false h0]
          exact ⟨0, by simp, by omega, fun _ => rfl⟩
      obtain ⟨way, hway, w4, wd⟩ := hw
      show tSeq _ _ _ [some (.ref p), some (.ref s), some (.int (deep : Int)), some (.bl big), some (.int ((v : Int) * (if decide ((0 : Int) < (deep : Int)) = true then 1 else 0))), none, none, none, none] H1
      rw [hway]
      have hs1 := hs.keep hP kp1
      refine ⟨_, rfl, rfl, _, rfl, ite2 (fun h0 => ?_) (fun h0 => ?_)⟩
      · refine ⟨_, rfl, _, rfl, p, c, s, ns, os, ls, qs, 3, rfl, by decide, hP1, hS, hs1, fun ws l H2 hm hl hb kp2 hP2 nl hl2 => ⟨l, _, rfl, .inl ⟨sq_of hl2, fun u nu => ⟨by show 2 ≤ sizeLine; decide, fun t nt => ?_⟩⟩⟩⟩
        have e2 := Ex.new (o := .tup (ws.map V.str)) nu
        have e3 := e2.trans (Ex.new (o := .tup [.str "word", .ref u]) nt)
        refine q (.ref t) ws _ ⟨t, _, [], [], rfl, upd_same, .word (Ex.new nt _ _ upd_same) (by omega) hm hb⟩ (fun _ => ?_) ((kp1.trans kp2).trans (Keep.ofEx e3)) (hP2.ex e3)
        have := Nat.pow_le_pow_right (n := 3) (by decide) (Nat.zero_le deep)
        omega
      have w0 : way ≠ 0 := fun z => h0 (by rw [z]; exact decide_eq_true rfl)
      obtain ⟨d, rfl⟩ : ∃ d, deep = d + 1 := ⟨deep - 1, by have : deep ≠ 0 := fun z => w0 (wd z); omega⟩
      have ed : ((d + 1 : Nat) : Int) - 1 = (d : Int) := by omega
      have p3 : 3 ^ (d + 1) = 3 * 3 ^ d := by rw [Nat.pow_succ, Nat.mul_comm]
      -- a call of itself
      have call : ∀ {σ : L2.St} {Q : VK} (H' : Hp), σ[0]? = some (some (.ref p)) → σ[1]? = some (some (.ref s)) → σ[2]? = some (some (.int ((d + 1 : Nat) : Int))) → σ[3]? = some (some (.bl big)) → Keep p H H' → Pot p c ns H' → (∀ (v : V) (W : List Str) H2, GAt os ls qs H2 (d + 1) v W → (big = false → W.length ≤ 6 * 3 ^ d) → Keep p H' H2 → Pot p c ns H2 → Q v H2) → tCall (spGreat n) [] E0 (tCons (tVar 0) (tCons (tVar 1) (tCons (tOp (rI0 fun i j => .int (i - j)) (tVar 2) (tC (.int 1))) (tCons (tVar 3) tNil)))) σ H' Q := fun {σ Q} H' h0 h1 h2 h3 kp' hP' kk => by
        refine ⟨_, h0, _, h1, _, h2, _, _, rfl, rfl, _, h3, p, c, s, ns, os, ls, qs, d, big, ?_, by omega, hP', hS, hs.keep hP kp', kk⟩
        dsimp only
        rw [ed]
        rfl
      refine ⟨_, rfl, rfl, _, rfl, ite2 (fun h1 => ?_) (fun h1 => ?_)⟩
      · refine ⟨_, rfl, p, c, ns, 4, rfl, by decide, by decide, hP1, fun v H2 hv kp2 hP2 => ⟨(v : Int), rfl, by omega, by omega, fun D nD => ?_⟩⟩
        have kp02 := kp1.trans kp2
        have pD := hP2.ne_new nD
        refine lc_range (lo := 0) (n := ((v : Int)).toNat) (fun i H' => ∃ (ps : List V) (Ws : List (List Str)), ps.length = i ∧ H' D = some (.lst ps) ∧ All2 (GAt os ls qs H' (d + 1)) ps Ws ∧ (big = false → ∀ W ∈ Ws, W.length ≤ 6 * 3 ^ d) ∧ Keep p H2 H' ∧ Pot p c ns H') ?_ ?_ ?_
        · exact ⟨[], [], rfl, upd_same, trivial, fun _ W h => (List.not_mem_nil h).elim, (Keep.refl p H2).new nD, hP2.new pD.1 pD.2⟩
        · rintro i H' hi ⟨ps, Ws, hl, hD, hA, hW, kp', hP'⟩
          refine ⟨rfl, yesT (call H' rfl rfl rfl rfl (kp02.trans kp') hP' fun x W H3 hx hw kp3 hP3 => ?_)⟩
          have hD3 := kp3 _ _ pD.1.symm hD
          have kt : ∀ b xs, H3 b = some (.tup xs) → (upd H3 D (.lst (ps ++ [x]))) b = some (.tup xs) := keep_lst hD3
          refine ⟨_, hD3, sz_lt (by omega), ps ++ [x], Ws ++ [W], by rw [List.length_append, hl]; rfl, upd_same, All2.snoc (GAt.keep kt _ _ _ hx) _ _ (All2.mono (fun v W h => GAt.keep kt _ _ _ (h.kp hP' kp3)) _ _ hA), fun hb W' hm => ?_, (kp'.trans kp3).new nD, hP3.new pD.1 pD.2⟩
          rcases List.mem_append.mp hm with z | z
          · exact hW hb W' z
          · rw [List.mem_singleton.mp z]
            exact hw hb
        · rintro H3 ⟨ps, Ws, hl, hD, hA, hW, kp3, hP3⟩
          rw [Int.toNat_natCast] at hl
          refine ⟨D, _, rfl, .inl ⟨sq_of hD, fun u nu => ⟨by show 2 ≤ sizeLine; decide, fun t nt => ?_⟩⟩⟩
          have e3 := (Ex.new (o := .tup ps) nu).trans (Ex.new (o := .tup [.str "row", .ref u]) nt)
          refine q (.ref t) Ws.flatten _ ⟨t, _, ps, Ws, rfl, upd_same, .row (Ex.new nt _ _ upd_same) (All2.mono (fun v W h => h.ex e3) _ _ hA) (by omega)⟩ (fun hb => ?_) ((kp02.trans kp3).trans (Keep.ofEx e3)) (hP3.ex e3)
          have h1 := sum_lt Ws (hW hb)
          rw [flat_len, p3]
          rw [← All2.len _ _ hA] at h1
          have h2 := Nat.mul_le_mul_right (6 * 3 ^ d) (show ps.length ≤ 3 by omega)
          omega
      refine ⟨_, rfl, _, rfl, p, c, ns, big, rfl, hP1, fun often H2 ho hob kp2 hP2 => ?_⟩
      refine call H2 rfl rfl rfl rfl (kp1.trans kp2) hP2 fun part W H3 hx hw kp3 hP3 => ?_
      have kp03 := (kp1.trans kp2).trans kp3
      refine ⟨_, rfl, rfl, _, rfl, ite2 (fun h2 => ?_) (fun h2 => ?_)⟩
      · refine ⟨_, rfl, _, rfl, by show 3 ≤ sizeLine; decide, fun t nt => ?_⟩
        have e4 := Ex.new (o := .tup [.str "again", .int (often : Int), part]) nt
        refine q (.ref t) _ _ ⟨t, _, [part], [W], rfl, upd_same, .again ho (hx.ex e4)⟩ (fun hb => ?_) (kp03.trans (Keep.ofEx e4)) (hP3.ex e4)
        rw [rep_len, p3]
        have := Nat.mul_le_mul (hob hb) (hw hb)
        omega
      · obtain ⟨ao, ap, ac, g0, g1, g2, g3⟩ := hs.keep hP kp03
        have o0 : os ≠ [] := fun z => by have := hS.o1; rw [z] at this; exact absurd this (by decide)
        have c0 : qs ≠ [] := fun z => by have := hS.c1; rw [z] at this; exact absurd this (by decide)
        refine draw_rd hP3 rfl rfl g0 (show atI [V.ref ao, .ref ap, .ref ac] 0 = some (.ref ao) from rfl) g1 o0 (by have := hS.o4; omega) fun a H4 ha kp4 hP4 => ?_
        refine ⟨_, rfl, _, rfl, _, rfl, draw_rd hP4 rfl rfl (kp4 _ _ (hP3.ne_tup g0) g0) (show atI [V.ref ao, .ref ap, .ref ac] 2 = some (.ref ac) from rfl) (kp4 _ _ (hP3.ne_tup g3) g3) c0 (by have := hS.c4; omega) fun z H5 hz kp5 hP5 => ⟨by show 5 ≤ sizeLine; decide, fun t nt => ?_⟩⟩
        have e6 := Ex.new (o := .tup [.str "wrap", .int (often : Int), .str a, part, .str z]) nt
        refine q (.ref t) _ _ ⟨t, _, [part], [W], rfl, upd_same, .wrap ho ha hz (((hx.kp hP3 kp4).kp hP4 kp5).ex e6)⟩ (fun hb => ?_) (((kp03.trans kp4).trans kp5).trans (Keep.ofEx e6)) (hP5.ex e6)
        rw [List.length_append, List.length_append, List.length_replicate, List.length_replicate, p3]
        have h1 := hob hb
        have h3 := hw hb
        have h4 : 1 ≤ 3 ^ d := Nat.one_le_pow _ _ (by decide)
        omega
end
end Eh
set_option Elab.async false
set_option linter.all false
set_option maxRecDepth 100000
set_option maxHeartbeats 4000000
namespace Eh
open PySem PySem.Spec PyProof.Rows L2 Evl
abbrev nLawRight : List Str := ["sheet", "great", "place", "letter", "at", "due"]
theorem scLawRight : FnScope nLawRight ["sheet", "great", "place"] (defScope sLawRight) := ⟨rfl, rfl, rfl, by decide +kernel, rfl, by decide +kernel, by decide +kernel⟩
abbrev nLawPlaces : List Str := ["pot", "great", "size", "found", "place", "k"]
theorem scLawPlaces : FnScope nLawPlaces ["pot", "great"] (defScope sLawPlaces) := ⟨rfl, rfl, rfl, by decide +kernel, rfl, by decide +kernel, by decide +kernel⟩
def spRight (os ls qs : List Str) (n : Nat) : Sp := fun vs H Q _ => ∃ (s : Addr) (v : V) (W : List Str) (pl : Nat), vs = [.ref s, v, .int (pl : Int)] ∧ Sht os ls qs ∧ SheetAt H s os ls qs ∧ GAt os ls qs H n v W ∧ n ≤ 20 ∧ RetV (.bl true) H Q
def spPlaces (os ls qs : List Str) (n : Nat) : Sp := fun vs H Q _ => ∃ (p c : Addr) (ns : List Int) (v : V) (W : List Str), vs = [.ref p, v] ∧ Pot p c ns H ∧ Sht os ls qs ∧ GAt os ls qs H n v W ∧ n ≤ 20 ∧
  ∀ (l : Addr) (ps : List Nat) (H' : Hp), ps.length ≤ 22 → H' l = some (.lst (ps.map nV)) → Keep p H H' → Pot p c ns H' → l ≠ p → Q (.ref l) H'
theorem atom_sV (o : Option Str) : atom (sV o) = true := by cases o <;> rfl
theorem atom_oV (o : Option Nat) : atom (oV o) = true := by cases o <;> rfl
theorem GAt.data {K : PySem.W.Frag} {os ls qs : List Str} (hS : Sht os ls qs) {H : Hp} : ∀ (n : Nat) (v : V) (W : List Str), GAt os ls qs H n v W → ∃ d, Dp K H v d ∧ d.canLay0 = true ∧ d.depth ≤ 2 * n
  | 0, _, _, h => h.elim
  | n + 1, v, W, ⟨t, xs, ps, Ws, e, ht, hg⟩ => by
    subst e
    have sub : ∀ (ps : List V) (Ws : List (List Str)), All2 (GAt os ls qs H n) ps Ws → ∃ ds, DpAll K H ps ds ∧ PyData.canLayAll0 ds = true ∧ PyData.depthAll ds ≤ 2 * n := by
      intro ps
      induction ps with
      | nil => exact fun Ws _ => ⟨[], .nil, rfl, Nat.zero_le _⟩
      | cons p r ih =>
        intro Ws hA
        cases Ws with
        | nil => exact hA.elim
        | cons X R =>
          obtain ⟨d, d1, d2, d3⟩ := GAt.data hS n p X hA.1
          obtain ⟨ds, e1, e2, e3⟩ := ih R hA.2
          refine ⟨d :: ds, .cons d1 e1, ?_, ?_⟩
          · show (d.canLay0 && PyData.canLayAll0 ds) = true
            rw [d2, e2]
            rfl
          · show max d.depth (PyData.depthAll ds) ≤ 2 * n
            omega
    have lt1 : ∀ x ∈ os ++ ls ++ qs, ∀ c ∈ cs x, az c := fun x hx => (hS.lt x hx).1
    have ka : ∀ {x : Str}, x ∈ os → PyData.strOk x = true := fun {x} hx => strOk_ltr (lt1 x (List.mem_append.mpr (.inl (List.mem_append.mpr (.inl hx)))))
    have kc : ∀ {x : Str}, x ∈ qs → PyData.strOk x = true := fun {x} hx => strOk_ltr (lt1 x (List.mem_append.mpr (.inr hx)))
    cases hg with
    | word hu hl hm hb =>
      refine ⟨.tuple [.str "word", .tuple (W.map PyData.str)], .tup (st_of ht) (.cons (.str _) (.cons (.tup (st_of hu) (dpStrs W)) .nil)), ?_, ?_⟩
      · show (PyData.strOk "word" && (PyData.canLayAll0 (W.map PyData.str) && true)) = true
        rw [layStrs W fun x hx => lt1 x (hm x hx), show PyData.strOk "word" = true by decide +kernel]
        rfl
      · show max 0 (max (PyData.depthAll (W.map PyData.str) + 1) 0) + 1 ≤ 2 * (n + 1)
        rw [deepStrs]
        omega
    | row hu hr hl =>
      obtain ⟨ds, e1, e2, e3⟩ := sub _ _ hr
      refine ⟨.tuple [.str "row", .tuple ds], .tup (st_of ht) (.cons (.str _) (.cons (.tup (st_of hu) e1) .nil)), ?_, ?_⟩
      · show (PyData.strOk "row" && (PyData.canLayAll0 ds && true)) = true
        rw [e2, show PyData.strOk "row" = true by decide +kernel]
        rfl
      · show max 0 (max (PyData.depthAll ds + 1) 0) + 1 ≤ 2 * (n + 1)
        omega
    | @again k p W' hk hr =>
      obtain ⟨d, d1, d2, d3⟩ := GAt.data hS n p W' hr
      refine ⟨.tuple [.str "again", .int k, d], .tup (st_of ht) (.cons (.str _) (.cons (.int _) (.cons d1 .nil))), ?_, ?_⟩
      · show (PyData.strOk "again" && (true && (d.canLay0 && true))) = true
        rw [d2, show PyData.strOk "again" = true by decide +kernel]
        rfl
      · show max 0 (max 0 (max d.depth 0)) + 1 ≤ 2 * (n + 1)
        omega
    | @wrap k a c p W' hk ha hc hr =>
      obtain ⟨d, d1, d2, d3⟩ := GAt.data hS n p W' hr
      refine ⟨.tuple [.str "wrap", .int k, .str a, d, .str c], .tup (st_of ht) (.cons (.str _) (.cons (.int _) (.cons (.str _) (.cons d1 (.cons (.str _) .nil))))), ?_, ?_⟩
      · show (PyData.strOk "wrap" && (true && (PyData.strOk a && (d.canLay0 && (PyData.strOk c && true))))) = true
        rw [d2, ka ha, kc hc, show PyData.strOk "wrap" = true by decide +kernel]
        rfl
      · show max 0 (max 0 (max 0 (max d.depth (max 0 0)))) + 1 ≤ 2 * (n + 1)
        omega
theorem data_all {K : PySem.W.Frag} {os ls qs : List Str} (hS : Sht os ls qs) {H : Hp} {n : Nat} : ∀ (ps : List V) (Ws : List (List Str)), All2 (GAt os ls qs H n) ps Ws → ∃ ds, DpAll K H ps ds ∧ PyData.canLayAll0 ds = true ∧ PyData.depthAll ds ≤ 2 * n ∧ ds.length = ps.length
  | [], _, _ => ⟨[], .nil, rfl, Nat.zero_le _, rfl⟩
  | p :: r, [], h => h.elim
  | p :: r, X :: R, hA => by
    obtain ⟨d, d1, d2, d3⟩ := GAt.data (K := K) hS n p X hA.1
    obtain ⟨ds, e1, e2, e3, e4⟩ := data_all hS r R hA.2
    refine ⟨d :: ds, .cons d1 e1, ?_, ?_, by rw [List.length_cons, List.length_cons, e4]⟩
    · show (d.canLay0 && PyData.canLayAll0 ds) = true
      rw [d2, e2]
      rfl
    · show max d.depth (PyData.depthAll ds) ≤ 2 * n
      omega
theorem eqv_nilD (ds : List PyData) : PyData.eqv (.tuple ds) (.tuple []) = ds.isEmpty := by cases ds <;> rfl
theorem el_Vcat {σ : L2.St} {H : Hp} {ta tb : TE} {xs ys : List V} {l : Addr} (ha : Ev ta σ H (.ref l)) (hl : H l = some (.lst xs)) (hb : EvL tb σ H ys) (hk : xs.length + ys.length ≤ 100000) : EvL (tOp rCat ta tb) σ H (xs ++ ys) := fun H1 e Q q =>
  ha H1 e _ fun H2 e2 => hb H2 (e.trans e2) _ fun p H3 np e3 hp => ⟨l, p, xs, ys, rfl, rfl, ((e.trans e2).trans e3) _ _ hl, hp, sz_of hk, fun z nz => q z _ (fresh_back (e2.trans e3) nz) ((e2.trans e3).trans (Ex.new nz)) upd_same⟩
theorem given_nat (zs : List Int) : ∃ ps : List Nat, given zs.length (fun i => decide (0 ≤ zs.getD i 0)) (fun i => .int (zs.getD i 0)) = ps.map nV ∧ ps.length ≤ zs.length := by
  refine ⟨((List.range zs.length).filter fun i => decide (0 ≤ zs.getD i 0)).map fun i => (zs.getD i 0).toNat, ?_, ?_⟩
  · unfold given
    rw [List.map_map]
    refine List.map_congr_left fun i hi => ?_
    have := of_decide_eq_true (List.mem_filter.mp hi).2
    show V.int (zs.getD i 0) = V.int (((zs.getD i 0).toNat : Nat) : Int)
    rw [Int.toNat_of_nonneg this]
  · rw [List.length_map]
    have := List.length_filter_le (fun i => decide (0 ≤ zs.getD i 0)) (List.range zs.length)
    rw [List.length_range] at this
    exact this
section
variable {P : Program} {w : World} {K : PySem.W.Frag} {mg : Str → Option Value} {base : Heap} {os ls qs : List Str}
theorem ok_right {f fletter_at fanswer_at fsize ffound fsame : Addr} {fd dletter_at danswer_at dsize dfound dsame : FuncData} {n k : Nat} (F : Fun K "_law_right" "_law_right" sLawRight f fd) (Fletter_at : Fun K "letter_at" "letter_at" sLetterAt fletter_at dletter_at) (Gletter_at : FnOk P w K mg base CX0 (k + 1) fletter_at dletter_at ["great", "place"] (spLetterAt os ls qs n)) (bletter_at : Binds K dletter_at ["great", "place"] []) (gletter_at : mg "letter_at" = some (.ref fletter_at)) (Fanswer_at : Fun K "answer_at" "answer_at" sAnswerAt fanswer_at danswer_at) (Ganswer_at : FnOk P w K mg base CX0 (k + 1) fanswer_at danswer_at ["sheet", "great", "place"] (spAnswerAt os ls qs n)) (banswer_at : Binds K danswer_at ["sheet", "great", "place"] []) (ganswer_at : mg "answer_at" = some (.ref fanswer_at)) (Fsize : Fun K "_law_size" "_law_size" sSize fsize dsize) (Gsize : FnOk P w K mg base CX0 (k + 1) fsize dsize ["great"] (spSize os ls qs n)) (bsize : Binds K dsize ["great"] []) (gsize : mg "_law_size" = some (.ref fsize)) (Ffound : Fun K "_law_found" "_law_found" sLawFound ffound dfound) (Gfound : FnOk P w K mg base CX0 (k + 1) ffound dfound ["sheet", "great", "place"] (spFound os ls qs n)) (bfound : Binds K dfound ["sheet", "great", "place"] []) (gfound : mg "_law_found" = some (.ref ffound)) (Fsame : Fun K "_law_same" "_law_same" sSame fsame dsame) (Gsame : FnOk P w K mg base CX0 (k + 1) fsame dsame ["found", "due"] spSame0) (bsame : Binds K dsame ["found", "due"] []) (gsame : mg "_law_same" = some (.ref fsame)) : FnOk P w K mg base CX0 (k + 2) f fd ["sheet", "great", "place"] (spRight os ls qs n) := by
  have nd := scLawRight.nd
  refine F.ok scLawRight (fun vs H Q E h => ?_) (fun cdv A outer s H vs Q E hr h => ?_)
  · obtain ⟨s, v, W, pl, rfl, _⟩ := h
    rfl
  · obtain ⟨s, v, W, pl, rfl, hS, hs, hG, hn, q⟩ := h
    refine ⟨_, (pss_cons (ps_set (i := 3) nd rfl (.inl rfl) (pe_call Gletter_at hr (by rfl) gletter_at Fletter_at.kp bletter_at .nil pass0 (pa_cons (pv 1) (pa_cons (pv 2) pa_nil))))
      (pss_cons (ps_set (i := 4) nd rfl (.inl rfl) (pe_call Ganswer_at hr (by rfl) ganswer_at Fanswer_at.kp banswer_at .nil pass0 (pa_cons (pv 0) (pa_cons (pv 1) (pa_cons (pv 2) pa_nil)))))
      (pss_cons (ps_if (pt_cmpR op_ge (pv 2) (pe_call Gsize hr (by rfl) gsize Fsize.kp bsize .nil pass0 (pa_cons (pv 1) pa_nil)) (nomark _)) (pss_one (ps_ret (pe_and (pe_cmpR op_isN (pv 3) pe_non (nomark _)) (pe_one (pe_cmpR op_isN (pv 4) pe_non (nomark _)))))) pss_nil)
      (pss_cons (ps_set (i := 5) nd rfl (.inl rfl) (pe_call Gfound hr (by rfl) gfound Ffound.kp bfound .nil pass0 (pa_cons (pv 0) (pa_cons (pv 1) (pa_cons (pv 2) pa_nil)))))
      (pss_cons (ps_if (PW.pt (pw_or (pt_not (pt_val (pe_call Gsame hr (by rfl) gsame Fsame.kp bsame .nil pass0 (pa_cons (pv 3) (pa_cons (pe_ix ix_tup (pv 5) pe_int (fun _ _ => rfl)) pa_nil))))) (pw_or1 (pt_not (pt_val (pe_call Gsame hr (by rfl) gsame Fsame.kp bsame .nil pass0 (pa_cons (pv 4) (pa_cons (pe_ix ix_tup (pv 5) pe_int (fun _ _ => rfl)) pa_nil)))))))) (pss_one (ps_never)) pss_nil)
      (pss_one (ps_ret (pe_or (pe_cmpR op_isN (pv 4) pe_non (nomark _)) (pe_one (pe_call Gsame hr (by rfl) gsame Fsame.kp bsame .nil pass0 (pa_cons (pe_call Ganswer_at hr (by rfl) ganswer_at Fanswer_at.kp banswer_at .nil pass0 (pa_cons (pv 0) (pa_cons (pv 1) (pa_cons (pv 4) pa_nil)))) (pa_cons (pv 2) pa_nil)))))))))))), ?_⟩
    have ans : ∀ {σ : L2.St} {i : Nat} (H1 : Hp) (z : Nat), Ex H H1 → σ[0]? = some (some (.ref s)) → σ[1]? = some (some v) → σ[i]? = some (some (.int (z : Int))) → Ev (tCall (spAnswerAt os ls qs n) [] E0 (tCons (tVar 0) (tCons (tVar 1) (tCons (tVar i) tNil)))) σ H1 (oV (tv (ansOf os qs W) z)) := fun {σ i} H1 z e1 h0 h1 h2 => ev_call (ea_cons (ev_var h0) (ea_cons (ev_var h1) (ea_cons (ev_var h2) ea_nil))) fun H2 e2 Q q E => ⟨s, v, W, z, rfl, hS, hs.ex (e1.trans e2), hG.ex (e1.trans e2), hn, fun H3 e3 => q H3 e3⟩
    refine q_asg (ev_call (ea_cons (ev_var rfl) (ea_cons (ev_var rfl) ea_nil)) fun H2 e2 Q q E => ⟨v, W, pl, rfl, hG.ex e2, hn, fun H3 e3 => q H3 e3⟩) fun H1 e1 => q_asg (ans H1 pl e1 rfl rfl rfl) fun H2 e2 => ?_
    have e12 := e1.trans e2
    refine q_when (et_test (ev_op (ev_var rfl) (ev_call (ea_cons (ev_var rfl) ea_nil) fun H3 e3 Q q E => ⟨v, W, rfl, hG.ex (e12.trans e3), hn, fun H4 e4 => q H4 e4⟩) rv_I0)) (fun hb H3 e3 => ?_) (fun hb H3 e3 => ?_)
    · replace hb := of_decide_eq_true hb
      have hge : W.length ≤ pl := by omega
      refine s_ret (ev_is (ev_andV (a := true) (b := true) (ev_is (ev_op (ev_var rfl) ev_c (rv_isN (K := K))) ?_) fun _ => ev_is (ev_op (ev_var rfl) ev_c (rv_isN (K := K))) ?_) rfl) fun H4 e4 => q.go ((e12.trans e3).trans e4)
      · rw [List.getElem?_eq_none hge]
        rfl
      · rw [ans_out hge]
        rfl
    · replace hb := of_decide_eq_false hb
      have hlt : pl < W.length := by omega
      have e13 := e12.trans e3
      refine ⟨_, rfl, _, rfl, _, rfl, s, v, W, pl, rfl, hS, hs.ex e13, hG.ex e13, hn, hlt, fun r x H4 e4 hr4 hx => ?_⟩
      have e14 := e13.trans e4
      rw [hx]
      dsimp only [gName]
      show tSeq _ _ _ [some (.ref s), some v, some (.int (pl : Int)), some (.str x), some (oV (tv (ansOf os qs W) pl)), some (.ref r)] H4
      refine q_when (b := false) (et_is (et_or (a := false) (b := false) (et_is (et_not (et_B (ev_call (ea_cons (ev_var rfl) (ea_cons (ev_itS (i := 0) rfl hr4 rfl) ea_nil)) fun H5 e5 Q q E => ⟨_, rfl, rfl, q H5 (Ex.refl _)⟩))) rfl) fun _ => et_is (et_not (et_B (ev_call (ea_cons (ev_var rfl) (ea_cons (ev_itS (i := 1) rfl hr4 rfl) ea_nil)) fun H5 e5 Q q E => ⟨_, rfl, atom_oV _, q H5 (Ex.refl _)⟩))) rfl) rfl) (fun h => nomatch h) fun _ H5 e5 => ?_
      have e15 := e14.trans e5
      cases hz : tv (ansOf os qs W) pl with
      | none => exact s_ret (ev_is (ev_orV (a := true) (b := true) (ev_op (ev_var rfl) ev_c (rv_isN (K := K))) fun h => nomatch h) rfl) fun H6 e6 => q.go (e15.trans e6)
      | some j =>
        have hj := (ans_inv hz).2
        refine s_ret (ev_is (ev_orV (a := false) (b := true) (ev_op (ev_var rfl) ev_c (rv_isN (K := K))) fun _ => ev_call (ea_cons (ans H5 j e15 rfl rfl rfl) (ea_cons (ev_var rfl) ea_nil)) fun H6 e6 Q q E => ⟨_, by rw [hj]; rfl, atom_oV _, q H6 (Ex.refl _)⟩) rfl) fun H6 e6 => q.go (e15.trans e6)
end
end Eh
set_option Elab.async false
set_option linter.all false
set_option maxRecDepth 100000
set_option maxHeartbeats 4000000
namespace Eh
open PySem PySem.Spec PyProof.Rows L2 Evl
section
variable {P : Program} {w : World} {K : PySem.W.Frag} {mg : Str → Option Value} {base : Heap} {os ls qs : List Str}
theorem max_pos (z : Nat) : 0 < (if (z : Int) > 1 then (z : Int) else 1) := by split <;> omega
theorem ok_places {f fsize fpick : Addr} {fd dsize dpick : FuncData} {n k : Nat} (F : Fun K "_law_places" "_law_places" sLawPlaces f fd) (Fsize : Fun K "_law_size" "_law_size" sSize fsize dsize) (Gsize : FnOk P w K mg base CX0 (k + 1) fsize dsize ["great"] (spSize os ls qs n)) (bsize : Binds K dsize ["great"] []) (gsize : mg "_law_size" = some (.ref fsize)) (Fpick : Fun K "_law_pick" "_law_pick" sPick fpick dpick) (GpickW : FnOk P w K mg base CX0 (k + 1) fpick dpick ["pot", "many"] spPickW) (bpick : Binds K dpick ["pot", "many"] []) (gpick : mg "_law_pick" = some (.ref fpick)) (mrange : mg "range" = none) (mmax : mg "max" = none) : FnOk P w K mg base CX0 (k + 2) f fd ["pot", "great"] (spPlaces os ls qs n) := by
  have nd := scLawPlaces.nd
  refine F.ok scLawPlaces (fun vs H Q E h => ?_) (fun cdv A outer s H vs Q E hr h => ?_)
  · obtain ⟨p, c, ns, v, W, rfl, _⟩ := h
    rfl
  · obtain ⟨p, c, ns, v, W, rfl, hP, hS, hG, hn, q⟩ := h
    refine ⟨_, (pss_cons (ps_set (i := 2) nd rfl (.inr rfl) (pe_call Gsize hr (by rfl) gsize Fsize.kp bsize .nil pass0 (pa_cons (pv 1) pa_nil)))
      (pss_cons (ps_set (i := 3) nd rfl (.inl rfl) (pe_lst (pa_cons pe_int (pa_cons (pe_op op_fdiv (pv 2) pe_int) (pa_cons (pe_op op_sub (pv 2) pe_int) (pa_cons (pv 2) (pa_cons (pe_op op_add (pv 2) pe_int) (pa_cons (pe_op op_add (pv 2) (pe_call GpickW hr (by rfl) gpick Fpick.kp bpick .nil pass0 (pa_cons (pv 0) (pa_cons (pe_op op_pow pe_int pe_int) pa_nil)))) pa_nil))))))))
      (pss_cut (ps_if (pt_cmpR op_eq (pe_ix ix_tup (pv 1) pe_int (fun _ _ => rfl)) pe_str (nomark _)) (pss_one (ps_set (i := 3) nd rfl (.inl rfl) (pe_op op_cat (pv 3) (pe_lst (pa_cons (pe_op op_sub (pe_ix ix_tup (pv 1) pe_int (fun _ _ => rfl)) pe_int) (pa_cons (pe_ix ix_tup (pv 1) pe_int (fun _ _ => rfl)) (pa_cons (pe_op op_sub (pv 2) (pe_ix ix_tup (pv 1) pe_int (fun _ _ => rfl))) (pa_cons (pe_op op_sub (pe_op op_sub (pv 2) (pe_ix ix_tup (pv 1) pe_int (fun _ _ => rfl))) pe_int) pa_nil)))))))) pss_nil)
      (pss_cut (ps_if (PW.pt (pw_and (pt_cmpR op_eq (pe_ix ix_tup (pv 1) pe_int (fun _ _ => rfl)) pe_str (nomark _)) (pw_and1 (pt_cmpR (op_neD hr.units) (pe_ix ix_tup (pv 1) pe_int (fun _ _ => rfl)) (pe_tup pa_nil) (nomark _))))) (pss_one (ps_set (i := 3) nd rfl (.inl rfl) (pe_op op_cat (pv 3) (pe_lst (pa_cons (pe_op op_sub (pe_call Gsize hr (by rfl) gsize Fsize.kp bsize .nil pass0 (pa_cons (pe_ix ix_tup (pe_ix ix_tup (pv 1) pe_int (fun _ _ => rfl)) pe_int (fun _ _ => rfl)) pa_nil)) pe_int) (pa_cons (pe_call Gsize hr (by rfl) gsize Fsize.kp bsize .nil pass0 (pa_cons (pe_ix ix_tup (pe_ix ix_tup (pv 1) pe_int (fun _ _ => rfl)) pe_int (fun _ _ => rfl)) pa_nil)) pa_nil)))))) pss_nil)
      (pss_cut (ps_if (pt_cmpR op_eq (pe_ix ix_tup (pv 1) pe_int (fun _ _ => rfl)) pe_str (nomark _)) (pss_one (ps_set (i := 3) nd rfl (.inl rfl) (pe_op op_cat (pv 3) (pe_lst (pa_cons (pe_call Gsize hr (by rfl) gsize Fsize.kp bsize .nil pass0 (pa_cons (pe_ix ix_tup (pv 1) pe_int (fun _ _ => rfl)) pa_nil)) (pa_cons (pe_op op_sub (pe_op op_mulW pe_int (pe_call Gsize hr (by rfl) gsize Fsize.kp bsize .nil pass0 (pa_cons (pe_ix ix_tup (pv 1) pe_int (fun _ _ => rfl)) pa_nil))) pe_int) pa_nil)))))) pss_nil)
      (pss_cons (ps_set (i := 3) nd rfl (.inl rfl) (pe_op op_cat (pv 3) (pe_lc (own := [("k", 5)]) (g := gName 5) (tt := tYes) (te := tCall spPickW [] E0 (tCons (tVar 0) (tCons (tCB rMax2 (tCons (tC (.int 1)) (tCons (tVar 2) tNil))) tNil))) rfl nd (pi_range1 (by rfl) mrange (pa_cons pe_int pa_nil)) (blkOk_by (own := [("k", 5)]) (N := nLawPlaces) (sc := defScope sLawPlaces) (by decide +kernel)) (fun _ _ _ _ _ => pg_name (i := 5) nd rfl (.inl rfl)) (fun _ _ _ _ _ => pts_nil) (fun _ _ _ _ _ => (pe_call GpickW hr (by rfl) gpick Fpick.kp bpick .nil pass0 (pa_cons (pv 0) (pa_cons (pe_callB (call_max2 rfl) (by rfl) mmax (by decide +kernel) (pa_cons pe_int (pa_cons (pv 2) pa_nil))) pa_nil)))))))
      (pss_one (ps_ret (pe_lc (own := [("place", 4)]) (g := gName 4) (tt := (tTest (tOp (rI0 fun i j => .bl (decide (j ≤ i))) (tVar 4) (tC (.int 0))))) (te := (tVar 4)) rfl nd (pi_list (pv 3)) (blkOk_by (own := [("place", 4)]) (N := nLawPlaces) (sc := defScope sLawPlaces) (by decide +kernel)) (fun _ _ _ _ _ => pg_name (i := 4) nd rfl (.inl rfl)) (fun _ _ _ _ _ => pts_one (pt_cmpR op_ge (pv 4) pe_int (nomark _))) (fun _ _ _ _ _ => (pv 4))))))))))), ?_⟩
    have call : ∀ {σ : L2.St} {te : TE} {x : V} {W' : List Str} {m : Nat} (H1 : Hp), m ≤ n → Ev te σ H1 x → GAt os ls qs H1 m x W' → Ev (tCall (spSize os ls qs n) [] E0 (tCons te tNil)) σ H1 (.int (W'.length : Int)) := fun {σ te x W' m} H1 hm hx hR => ev_call (ea_cons hx ea_nil) fun H2 e2 Q q E => ⟨x, W', rfl, (hR.le hm).ex e2, hn, fun H3 e3 => q H3 e3⟩
    have hbits := GAt.bits _ _ _ hG
    have hlogW : ∀ z : Nat, z ≤ W.length + 1 → ((z : Int)).natAbs.log2 < 9000 := fun z hz => by
      have h1 : (2 : Nat) ^ (300 * n) ≤ 2 ^ (300 * 20) := Nat.pow_le_pow_right (by decide) (by omega)
      have h4 : (2 : Nat) ^ (300 * 20 + 1) = 2 * 2 ^ (300 * 20) := by rw [Nat.pow_succ, Nat.mul_comm]
      have h6 : 1 ≤ (2 : Nat) ^ (300 * 20) := Nat.one_le_two_pow
      have := log_of (i := z) (a := 300 * 20 + 1) (by generalize (2 : Nat) ^ (300 * 20) = Z at *; generalize (2 : Nat) ^ (300 * n) = Y at *; omega) (by decide)
      omega
    have ten20 : (10 : Int) ^ (20 : Int).toNat = 100000000000000000000 := by decide +kernel
    refine q_asg (call H (Nat.le_refl _) (ev_var rfl) hG) fun H1 e1 => ?_
    refine ⟨_, rfl, _, _, rfl, rfl, ⟨by decide, by decide⟩, _, rfl, _, _, rfl, rfl, _, rfl, _, rfl, _, _, rfl, rfl, _, rfl, _, rfl, 10, 20, rfl, rfl, ⟨by decide, by decide, by decide⟩, p, c, ns, 10 ^ (20 : Int).toNat, rfl, by rw [ten20]; decide, by rw [ten20]; decide +kernel, hP.ex e1, fun z H2 hz kp2 hP2 => ⟨_, _, rfl, rfl, by show 6 ≤ sizeLine; decide, fun l nl => ?_⟩⟩
    have kp12 := (Keep.ofEx (p := p) e1).trans kp2
    have e3 := Ex.new (o := .lst [.int 0, .int ((W.length : Int) / 2), .int ((W.length : Int) - 1), .int (W.length : Int), .int ((W.length : Int) + 1), .int ((W.length : Int) + (z : Int))]) nl
    dsimp only [gName]
    let Mid : Nat → L2.St → Hp → Prop := fun b σ' H' => ∃ (l : Addr) (zs : List Int), σ' = [some (.ref p), some v, some (.int (W.length : Int)), some (.ref l), none, none] ∧ l ≠ p ∧ H' l = some (.lst (zs.map V.int)) ∧ zs.length ≤ b ∧ Keep p H H' ∧ Pot p c ns H'
    have m0 : Mid 6 [some (.ref p), some v, some (.int (W.length : Int)), some (.ref l), none, none] (upd H2 l (.lst [.int 0, .int ((W.length : Int) / 2), .int ((W.length : Int) - 1), .int (W.length : Int), .int ((W.length : Int) + 1), .int ((W.length : Int) + (z : Int))])) := ⟨l, [0, (W.length : Int) / 2, (W.length : Int) - 1, (W.length : Int), (W.length : Int) + 1, (W.length : Int) + (z : Int)], rfl, (hP2.ne_new nl).1.symm, upd_same, by show 6 ≤ 6; decide, kp12.trans (Keep.ofEx e3), hP2.ex e3⟩
    have up : ∀ {b b' : Nat} {σ' H' H''}, b ≤ b' → Mid b σ' H' → Ex H' H'' → Mid b' σ' H'' := fun {b b' σ' H' H''} hb ⟨l, zs, h1, h2, h3, h4, h5, h6⟩ e => ⟨l, zs, h1, h2, e _ _ h3, by omega, h5.trans (Keep.ofEx e), h6.ex e⟩
    -- a list put behind
    have cat : ∀ {b : Nat} {σ' : L2.St} {H' : Hp} {tb : TE} {ys : List Int}, Mid b σ' H' → b ≤ 100 → ys.length ≤ 4 → EvL tb σ' H' (ys.map V.int) → ∀ D : Ends, D.nx = Mid (b + 4) → tAsg (tOp rCat (tVar 3) tb) (gName 3) D σ' H' := fun {b σ' H' tb ys} ⟨l, zs, h1, h2, h3, h4, h5, h6⟩ hb hy hE D hD => by
      subst h1
      refine s_asgL (el_Vcat (ev_var rfl) h3 hE (by rw [List.length_map, List.length_map]; omega)) fun r H'' nr e'' hr => ?_
      rw [hD]
      exact ⟨r, zs ++ ys, rfl, (h6.ne_new nr).1.symm, by rw [List.map_append]; exact hr, by rw [List.length_append]; omega, h5.trans (Keep.ofEx e''), h6.ex e''⟩
    have hGk : ∀ {b σ' H'}, Mid b σ' H' → GAt os ls qs H' n v W := fun {b σ' H'} ⟨_, _, _, _, _, _, h5, _⟩ => hG.kp hP h5
    generalize upd H2 l _ = H3 at m0
    cases n with
    | zero => exact hG.elim
    | succ n =>
    refine q_cut (M := Mid 10) ?_ fun σ4 H4 m4 => q_cut (M := Mid 14) ?_ fun σ5 H5 m5 => q_cut (M := Mid 18) ?_ fun σ6 H6 m6 => ?_
    · obtain ⟨t, xs, ps, Ws, rfl, ht, hgs⟩ := hGk m0
      cases hgs with
      | word hu hl hm hb => exact s_when (ev_tagS rfl ht) (fun h => absurd h (by decide)) fun _ Ha ea => up (by decide) m0 ea
      | row hu hr' hl => exact s_when (ev_tagS rfl ht) (fun h => absurd h (by decide)) fun _ Ha ea => up (by decide) m0 ea
      | again hk hr' => exact s_when (ev_tagS rfl ht) (fun h => absurd h (by decide)) fun _ Ha ea => up (by decide) m0 ea
      | @wrap k' a c' x W' hk ha hc hr' =>
        refine s_when (ev_tagS rfl ht) (fun _ Ha ea => ?_) (fun h => absurd h (by decide))
        have ht' := ea _ _ ht
        exact cat (ys := [(k' : Int) - 1, (k' : Int), ((List.replicate k' a ++ W' ++ List.replicate k' c').length : Int) - (k' : Int), ((List.replicate k' a ++ W' ++ List.replicate k' c').length : Int) - (k' : Int) - 1]) (up (Nat.le_refl _) m0 ea) (by decide) (by show 4 ≤ 4; decide) (el_lst (ea_cons (ev_op (ev_itS (i := 1) rfl ht' rfl) ev_c rv_I0) (ea_cons (ev_itS (i := 1) rfl ht' rfl) (ea_cons (ev_op (ev_var rfl) (ev_itS (i := 1) rfl ht' rfl) rv_I0) (ea_cons (ev_op (ev_op (ev_var rfl) (ev_itS (i := 1) rfl ht' rfl) rv_I0) ev_c rv_I0) ea_nil)))) (by show 4 ≤ 100000; decide)) _ rfl
    · have m4' := m4
      obtain ⟨l4, zs4, rfl, _⟩ := m4'
      obtain ⟨t, xs, ps, Ws, rfl, ht, hgs⟩ := hGk m4
      cases hgs with
      | word hu hl hm hb => exact s_when (et_and (b := false) (ev_tagS rfl ht) (fun h => absurd h (by decide))) (fun h => absurd h (by decide)) fun _ Ha ea => up (by decide) m4 ea
      | again hk hr' => exact s_when (et_and (b := false) (ev_tagS rfl ht) (fun h => absurd h (by decide))) (fun h => absurd h (by decide)) fun _ Ha ea => up (by decide) m4 ea
      | wrap hk ha hc hr' => exact s_when (et_and (b := false) (ev_tagS rfl ht) (fun h => absurd h (by decide))) (fun h => absurd h (by decide)) fun _ Ha ea => up (by decide) m4 ea
      | @row u ps Ws hu hr' hl =>
        have hlW := All2.len _ _ hr'
        have ne : ∀ (σ : L2.St), σ[1]? = some (some (.ref t)) → Ev (tOp (rNeD K) (tOp (rIxT K) (tVar 1) (tC (.int 1))) (tTup tNil)) σ H4 (.bl (!ps.isEmpty)) := fun σ h1 => by
          refine ev_opU (ev_itS (i := 1) h1 ht rfl) (eu_tup ea_nil (by decide)) fun u6 H6 hu6 e6 H7 e7 Q qq => ?_
          obtain ⟨ds, d1, d2, d3, d4⟩ := data_all (K := K) hS ps Ws (All2.mono (fun v W g => g.ex (e6.trans e7)) _ _ hr')
          refine ⟨.tuple ds, .tuple [], .tup (st_of ((e6.trans e7) _ _ hu)) d1, .tup (st_of (e7 _ _ hu6)) .nil, ?_, shapedT0, ?_⟩
          · unfold SeqAt.shaped
            rw [show PyData.canLay0 (.tuple ds) = true from d2, decide_eq_true (show PyData.depth (.tuple ds) ≤ 64 by show PyData.depthAll ds + 1 ≤ 64; omega)]
            rfl
          · rw [eqv_nilD, show ds.isEmpty = ps.isEmpty by cases ds <;> cases ps <;> first | rfl | cases d4]
            exact qq H7 (Ex.refl _)
        refine s_when (et_and (ev_tagS rfl ht) fun _ => et_test (ne _ rfl)) (fun hb Ha ea => ?_) (fun hb Ha ea => up (by decide) m4 ea)
        cases ps with
        | nil => exact absurd hb (by decide)
        | cons x r =>
          cases Ws with
          | nil => exact hr'.elim
          | cons W0 R =>
            have ht' := ea _ _ ht
            have g0 : Ev (tCall (spSize os ls qs (n + 1)) [] E0 (tCons (tOp (rIxT K) (tOp (rIxT K) (tVar 1) (tC (.int 1))) (tC (.int 0))) tNil)) [some (.ref p), some (.ref t), some (.int ((W0 :: R).flatten.length : Int)), some (.ref l4), none, none] Ha (.int (W0.length : Int)) := call Ha (show n ≤ n + 1 by omega) (ev_op (ev_itS (i := 1) rfl ht' rfl) ev_c (rv_ixT (st_of (ea _ _ hu)) (show atI (x :: r) ((0 : Nat) : Int) = some x from atI_nat rfl))) (hr'.1.ex ea)
            exact cat (ys := [(W0.length : Int) - 1, (W0.length : Int)]) (up (Nat.le_refl _) m4 ea) (by decide) (by show 2 ≤ 4; decide) (el_lst (ea_cons (ev_op g0 ev_c rv_I0) (ea_cons g0 ea_nil)) (by show 2 ≤ 100000; decide)) _ rfl
    · have m5' := m5
      obtain ⟨l5, zs5, rfl, _⟩ := m5'
      obtain ⟨t, xs, ps, Ws, rfl, ht, hgs⟩ := hGk m5
      cases hgs with
      | word hu hl hm hb => exact s_when (ev_tagS rfl ht) (fun h => absurd h (by decide)) fun _ Ha ea => up (by decide) m5 ea
      | row hu hr' hl => exact s_when (ev_tagS rfl ht) (fun h => absurd h (by decide)) fun _ Ha ea => up (by decide) m5 ea
      | wrap hk ha hc hr' => exact s_when (ev_tagS rfl ht) (fun h => absurd h (by decide)) fun _ Ha ea => up (by decide) m5 ea
      | @again k' x W' hk hr' =>
        refine s_when (ev_tagS rfl ht) (fun _ Ha ea => ?_) (fun h => absurd h (by decide))
        have ht' := ea _ _ ht
        have g0 : Ev (tCall (spSize os ls qs (n + 1)) [] E0 (tCons (tOp (rIxT K) (tVar 1) (tC (.int 2))) tNil)) [some (.ref p), some (.ref t), some (.int ((List.replicate k' W').flatten.length : Int)), some (.ref l5), none, none] Ha (.int (W'.length : Int)) := call Ha (show n ≤ n + 1 by omega) (ev_itS (i := 2) rfl ht' rfl) (hr'.ex ea)
        exact cat (ys := [(W'.length : Int), 3 * (W'.length : Int) - 1]) (up (Nat.le_refl _) m5 ea) (by decide) (by show 2 ≤ 4; decide) (el_lst (ea_cons g0 (ea_cons (ev_op (ev_op ev_c g0 (rv_I (mulW_of (i := 3) (n := n) (by decide) (GAt.bits _ _ _ hr') (by omega)))) ev_c rv_I0) ea_nil)) (by show 2 ≤ 100000; decide)) _ rfl
    · obtain ⟨l6, zs6, rfl, lp6, hl6, hn6, kp6, hP6⟩ := m6
      refine ⟨_, rfl, 4, rfl, by decide, by decide, fun D nD => ?_⟩
      have pD := hP6.ne_new nD
      refine lc_range (lo := 0) (n := 4) (fun i H' => ∃ zs : List Int, zs.length = i ∧ H' D = some (.lst (zs.map V.int)) ∧ Keep p H6 H' ∧ Pot p c ns H') ?_ ?_ ?_
      · exact ⟨[], rfl, upd_same, (Keep.refl p H6).new nD, hP6.new pD.1 pD.2⟩
      · rintro i H' hi ⟨zs, hz', hD, kp', hP'⟩
        refine ⟨rfl, yesT ⟨_, rfl, _, rfl, 1, (W.length : Int), rfl, p, c, ns, _, rfl, max_pos W.length, ?_, hP', fun z2 H7 hz2 kp7 hP7 => ?_⟩⟩
        · split
          · exact hlogW W.length (by omega)
          · decide +kernel
        · have hD7 := kp7 _ _ pD.1.symm hD
          exact ⟨_, hD7, sz_lt (by rw [List.length_map]; omega), zs ++ [(z2 : Int)], by rw [List.length_append, hz']; rfl, by rw [upd_same, List.map_append]; rfl, (kp'.trans kp7).new nD, hP7.new pD.1 pD.2⟩
      · rintro H7 ⟨zs, hz', hD, kp7, hP7⟩
        have hl7 := kp7 _ _ lp6 hl6
        have hz4 : zs.length = 4 := hz'
        refine ⟨l6, D, _, _, rfl, rfl, hl7, hD, sz_of (by rw [List.length_map, List.length_map]; omega), fun r nr => ?_⟩
        dsimp only [gName]
        have er := Ex.new (o := .lst (zs6.map V.int ++ zs.map V.int)) nr
        have hr7 : (upd H7 r (.lst (zs6.map V.int ++ zs.map V.int))) r = some (.lst ((zs6 ++ zs).map V.int)) := by rw [upd_same, List.map_append]
        generalize upd H7 r (.lst (zs6.map V.int ++ zs.map V.int)) = H8 at er hr7
        have hlen : (zs6 ++ zs).length ≤ 22 := by rw [List.length_append]; omega
        generalize zs6 ++ zs = ys at hr7 hlen
        have hx : ∀ (i : Nat) (x : V), (ys.map V.int)[i]? = some x → x = .int (ys.getD i 0) := fun i x h => by
          rw [List.getElem?_map] at h
          cases e : ys[i]? with
          | none => rw [e] at h; cases h
          | some z => rw [e] at h; rw [List.getD_eq_getElem?_getD, e]; exact (Option.some.inj h).symm
        show tRet _ _ [some (.ref p), some v, some (.int (W.length : Int)), some (.ref r), none, none] H8
        obtain ⟨ps, hps, hpl⟩ := given_nat ys
        refine s_retL (el_lcL (xs := ys.map V.int) (fun i => decide (0 ≤ ys.getD i 0)) (fun i => .int (ys.getD i 0)) (ev_var rfl) (sq_of hr7) (by rw [List.length_map]; omega) (fun x => rfl) (fun i x H1 e1 hi => ?_) (fun i x H1 e1 hi _ => ?_)) fun l' H9 nl' e9 hl' => ?_
        · rw [hx i x hi]
          exact et_test (ev_op (ev_var rfl) ev_c rv_I0)
        · rw [hx i x hi]
          exact ev_var rfl
        · rw [List.length_map, hps] at hl'
          exact q l' ps H9 (by omega) hl' (((kp6.trans kp7).trans (Keep.ofEx er)).trans (Keep.ofEx e9)) ((hP7.ex er).ex e9) (fun z => by subst z; exact ((hP7.ex er).ne_new nl').1 rfl)
end
end Eh
set_option Elab.async false
set_option linter.all false
set_option maxRecDepth 100000
set_option maxHeartbeats 4000000
namespace Eh
open PySem PySem.Spec PyProof.Rows L2 Evl
/-! great words that are made where no letter is drawn -/
def EvG (os ls qs : List Str) (te : TE) (σ : L2.St) (H : Hp) (n : Nat) : Prop := ∀ H1, Ex H H1 → ∀ Q : VK, (∀ v W H2, Ex H1 H2 → GAt os ls qs H2 n v W → Q v H2) → te σ H1 Q
def EvGs (os ls qs : List Str) (ta : TA) (σ : L2.St) (H : Hp) (n m : Nat) : Prop := ∀ H1, Ex H H1 → ∀ Q : List V → Hp → Prop, (∀ vs Ws H2, Ex H1 H2 → All2 (GAt os ls qs H2 n) vs Ws → vs.length = m → Q vs H2) → ta σ H1 Q
section
variable {os ls qs : List Str} {σ : L2.St} {H : Hp} {te ta tc tk : TE} {n m : Nat}
theorem EvG.le (h : EvG os ls qs te σ H n) (hm : n ≤ m) : EvG os ls qs te σ H m := fun H1 e Q q => h H1 e Q fun v W H2 e2 g => q v W H2 e2 (g.le hm)
theorem EvG.mono {H' : Hp} (e : Ex H H') (h : EvG os ls qs te σ H n) : EvG os ls qs te σ H' n := fun H1 e1 Q q => h H1 (e.trans e1) Q q
theorem eg_var {i : Nat} {v : V} {W : List Str} (h : σ[i]? = some (some v)) (g : GAt os ls qs H n v W) : EvG os ls qs (tVar i) σ H n := fun H1 e Q q => ⟨v, h, q v W H1 (Ex.refl _) (g.ex e)⟩
theorem eg_word {tw : TA} {W : List Str} (h : EvA tw σ H (W.map V.str)) (hl : W.length ≤ 60) (hm : ∀ x ∈ W, x ∈ os ++ ls ++ qs) (hb : bal os qs W 0 = some 0) : EvG os ls qs (tTup (tCons (tC (.str "word")) (tCons (tTup tw) tNil))) σ H 1 := fun H1 e Q q =>
  h H1 e _ fun H2 e2 => ⟨by rw [List.length_map]; exact sz_of (by omega), fun u nu => ⟨by show 2 ≤ sizeLine; decide, fun t nt => q (.ref t) W _ (e2.trans ((Ex.new nu).trans (Ex.new nt))) ⟨t, _, [], [], rfl, upd_same, .word (Ex.new nt _ _ upd_same) hl hm hb⟩⟩⟩
theorem eg_nil : EvG os ls qs (tTup (tCons (tC (.str "word")) (tCons (tTup tNil) tNil))) σ H 1 := eg_word (W := []) ea_nil (Nat.zero_le _) (fun x h => (List.not_mem_nil h).elim) rfl
theorem eg_two {a c : Str} (hS : Sht os ls qs) (ha : a ∈ os) (hc : c ∈ qs) (h1 : Ev ta σ H (.str a)) (h2 : Ev tc σ H (.str c)) : EvG os ls qs (tTup (tCons (tC (.str "word")) (tCons (tTup (tCons ta (tCons tc tNil))) tNil))) σ H 1 := eg_word (W := [a, c]) (ea_cons h1 (ea_cons h2 ea_nil)) (by show 2 ≤ 60; decide) (fun x h => by
  rcases List.mem_cons.mp h with e | e
  · rw [e]; exact List.mem_append.mpr (.inl (List.mem_append.mpr (.inl ha)))
  · rw [List.mem_singleton.mp e]; exact List.mem_append.mpr (.inr hc)) (by
  rw [show [a, c] = [a] ++ [c] from rfl, bal_app, bal_one_op ha]
  exact bal_one_cl hS hc 0)
theorem eg_again {k : Nat} (h : EvG os ls qs te σ H n) (h1 : Ev tk σ H (.int (k : Int))) (hk : k < 2 ^ 200) : EvG os ls qs (tTup (tCons (tC (.str "again")) (tCons tk (tCons te tNil)))) σ H (n + 1) := fun H1 e Q q =>
  h1 H1 e _ fun H2 e2 => h H2 (e.trans e2) _ fun v W H3 e3 g => ⟨by show 3 ≤ sizeLine; decide, fun t nt => q (.ref t) _ _ ((e2.trans e3).trans (Ex.new nt)) ⟨t, _, [v], [W], rfl, upd_same, .again hk (g.ex (Ex.new nt))⟩⟩
theorem eg_wrap {k : Nat} {a c : Str} (ha : a ∈ os) (hc : c ∈ qs) (h : EvG os ls qs te σ H n) (h1 : Ev tk σ H (.int (k : Int))) (hk : k < 2 ^ 200) (h2 : Ev ta σ H (.str a)) (h3 : Ev tc σ H (.str c)) : EvG os ls qs (tTup (tCons (tC (.str "wrap")) (tCons tk (tCons ta (tCons te (tCons tc tNil)))))) σ H (n + 1) := fun H1 e Q q =>
  h1 H1 e _ fun H2 e2 => h2 H2 (e.trans e2) _ fun H3 e3 => h H3 ((e.trans e2).trans e3) _ fun v W H4 e4 g => h3 H4 (((e.trans e2).trans e3).trans e4) _ fun H5 e5 => ⟨by show 5 ≤ sizeLine; decide, fun t nt => q (.ref t) _ _ ((((e2.trans e3).trans e4).trans e5).trans (Ex.new nt)) ⟨t, _, [v], [W], rfl, upd_same, .wrap hk ha hc (g.ex (e5.trans (Ex.new nt)))⟩⟩
theorem egs_nil : EvGs os ls qs tNil σ H n 0 := fun H1 e Q q => q [] [] H1 (Ex.refl _) trivial rfl
theorem egs_cons {tr : TA} (h : EvG os ls qs te σ H n) (hr : EvGs os ls qs tr σ H n m) : EvGs os ls qs (tCons te tr) σ H n (m + 1) := fun H1 e Q q =>
  h H1 e _ fun v W H2 e2 g => hr H2 (e.trans e2) _ fun vs Ws H3 e3 gs hl => q (v :: vs) (W :: Ws) H3 (e2.trans e3) ⟨g.ex e3, gs⟩ (by rw [List.length_cons, hl])
theorem eg_row {tr : TA} (h : EvGs os ls qs tr σ H n m) (hm : m ≤ 8) : EvG os ls qs (tTup (tCons (tC (.str "row")) (tCons (tTup tr) tNil))) σ H (n + 1) := fun H1 e Q q =>
  h H1 e _ fun vs Ws H2 e2 gs hl => ⟨sz_of (by omega), fun u nu => ⟨by show 2 ≤ sizeLine; decide, fun t nt => q (.ref t) Ws.flatten _ (e2.trans ((Ex.new nu).trans (Ex.new nt))) ⟨t, _, vs, Ws, rfl, upd_same, .row (Ex.new nt _ _ upd_same) (All2.mono (fun v W g => g.ex ((Ex.new nu).trans (Ex.new nt))) _ _ gs) (by omega)⟩⟩⟩
theorem All2.app {R : V → List Str → Prop} : ∀ (vs us : List V) (Ws Us : List (List Str)), All2 R vs Ws → All2 R us Us → All2 R (vs ++ us) (Ws ++ Us)
  | [], us, [], Us, _, h => h
  | v :: vs, us, W :: Ws, Us, h, h' => ⟨h.1, All2.app vs us Ws Us h.2 h'⟩
  | [], _, _ :: _, _, h, _ => h.elim
  | _ :: _, _, [], _, h, _ => h.elim
end
theorem last_at {xs : List Str} (h : xs ≠ []) : ∃ x ∈ xs, atI (xs.map V.str) (-1) = some (.str x) := by
  obtain ⟨x, hx⟩ : ∃ x, x = xs.getLast h := ⟨_, rfl⟩
  refine ⟨x, hx ▸ List.getLast_mem h, ?_⟩
  rw [← List.dropLast_concat_getLast h, ← hx, List.map_append]
  exact atI_last _ _
section
variable {os ls qs : List Str} {σ : L2.St} {H : Hp} {te tl : TE} {ta tr : TA} {n m i : Nat} {D : Ends} {tz : TS} {Q : VK} {QA : List V → Hp → Prop} {K : PySem.W.Frag}
theorem q_asgG (h : EvG os ls qs te σ H n) (k : ∀ v W H1, Ex H H1 → GAt os ls qs H1 n v W → tz D (σ.set i (some v)) H1) : tSeq (tAsg te (gName i)) tz D σ H := h H (Ex.refl H) _ fun v W H1 e g => k v W H1 e g
theorem g_lst (h : EvGs os ls qs ta σ H n m) (hm : m ≤ 1000) (k : ∀ vs Ws H2 l, Ex H H2 → All2 (GAt os ls qs H2 n) vs Ws → vs.length = m → H2 l = none → Q (.ref l) (upd H2 l (.lst vs))) : tLst ta σ H Q := h H (Ex.refl _) _ fun vs Ws H2 e2 gs hl => ⟨sz_of (by omega), fun l nl => k vs Ws H2 l e2 gs hl nl⟩
theorem q_asgGs (h : EvGs os ls qs ta σ H n m) (hm : m ≤ 1000) (k : ∀ vs Ws H2 l, Ex H H2 → All2 (GAt os ls qs H2 n) vs Ws → vs.length = m → H2 l = none → tz D (σ.set i (some (.ref l))) (upd H2 l (.lst vs))) : tSeq (tAsg (tLst ta) (gName i)) tz D σ H := h H (Ex.refl _) _ fun vs Ws H2 e2 gs hl => ⟨sz_of (by omega), fun l nl => k vs Ws H2 l e2 gs hl nl⟩
theorem q_appG {l : Addr} {xs : List V} (hl : H l = some (.lst xs)) (ha : Ev tl σ H (.ref l)) (h : EvG os ls qs te σ H n) (hz : xs.length < 100000) (k : ∀ v W H1, Ex H H1 → GAt os ls qs H1 n v W → tz D σ (upd H1 l (.lst (xs ++ [v])))) : tSeq (tDrop (tBM K "list" rAppend tl (tCons te tNil))) tz D σ H := ha H (Ex.refl H) _ fun H1 e1 =>
  ⟨Or.inl ⟨rfl, xs, sq_of (e1 l _ hl)⟩, h H1 e1 _ fun v W H2 e2 g => ⟨l, xs, v, rfl, rfl, e2 l _ (e1 l _ hl), sz_lt hz, k v W H2 (e1.trans e2) g⟩⟩
theorem g_cons (h : EvG os ls qs te σ H n) (k : ∀ v W H2, Ex H H2 → GAt os ls qs H2 n v W → tr σ H2 fun xs H3 => QA (v :: xs) H3) : tCons te tr σ H QA := h H (Ex.refl _) _ fun v W H2 e2 g => k v W H2 e2 g
end
theorem k198 {k : Nat} (h : k ≤ 1000) : k < 2 ^ 200 := by rw [two200]; omega
theorem k60 : (1000000000000000000000000000000000000000000000000000000000000 : Nat) < 2 ^ 200 := by rw [two200]; decide
theorem ev_60 {σ : L2.St} {H : Hp} : Ev (tOp (rI CPow fun i j => .int (i ^ j.toNat)) (tC (.int 10)) (tC (.int 60))) σ H (.int ((1000000000000000000000000000000000000000000000000000000000000 : Nat) : Int)) := ev_is (ev_op ev_c ev_c (rv_I ⟨by decide, by decide, by decide⟩)) (by
  show V.int ((10 : Int) ^ (60 : Int).toNat) = _
  rw [ten60]
  rfl)
theorem Sht.o0 {os ls qs : List Str} (hS : Sht os ls qs) : os ≠ [] := fun z => by have := hS.o1; rw [z] at this; exact absurd this (by decide)
theorem Sht.c0 {os ls qs : List Str} (hS : Sht os ls qs) : qs ≠ [] := fun z => by have := hS.c1; rw [z] at this; exact absurd this (by decide)

end Eh
set_option Elab.async false
set_option linter.all false
set_option maxRecDepth 100000
set_option maxHeartbeats 4000000
namespace Eh
open PySem PySem.Spec PyProof.Rows L2 Evl
abbrev nLawWideGreat : List Str := ["pot", "sheet", "a", "c", "long", "some", "k"]
theorem scLawWideGreat : FnScope nLawWideGreat ["pot", "sheet"] (defScope sLawWideGreat) := ⟨rfl, rfl, rfl, by decide +kernel, rfl, by decide +kernel, by decide +kernel⟩
abbrev nLawTenDeep : List Str := ["pot", "sheet", "great", "k", "around"]
theorem scLawTenDeep : FnScope nLawTenDeep ["pot", "sheet"] (defScope sLawTenDeep) := ⟨rfl, rfl, rfl, by decide +kernel, rfl, by decide +kernel, by decide +kernel⟩
def spMade (n : Nat) : Sp := fun vs H Q _ => ∃ (p c s : Addr) (ns : List Int) (os ls qs : List Str), vs = [.ref p, .ref s] ∧ Pot p c ns H ∧ Sht os ls qs ∧ SheetAt H s os ls qs ∧ ∀ (v : V) (W : List Str) H', GAt os ls qs H' n v W → Keep p H H' → Pot p c ns H' → Q v H'
section
variable {os ls qs : List Str} {σ : L2.St} {H : Hp} {te ta tb : TE} {n m : Nat} {K : PySem.W.Frag}
theorem eg_wordU {W : List Str} (h : EvU te σ H (W.map V.str)) (hl : W.length ≤ 60) (hm : ∀ x ∈ W, x ∈ os ++ ls ++ qs) (hb : bal os qs W 0 = some 0) : EvG os ls qs (tTup (tCons (tC (.str "word")) (tCons te tNil))) σ H 1 := fun H1 e Q q =>
  h H1 e _ fun u H2 nu e2 hu => ⟨by show 2 ≤ sizeLine; decide, fun t nt => q (.ref t) W _ (e2.trans (Ex.new nt)) ⟨t, _, [], [], rfl, upd_same, .word (Ex.new nt _ _ hu) hl hm hb⟩⟩
theorem eu_repT {xs : List V} {k : Nat} (h : EvU ta σ H xs) (hx : xs ≠ []) (h2 : 2 ≤ k) (hk : k ≤ 1000) (hl : xs.length ≤ 1000) : EvU (tOp (rRepT K) ta (tC (.int (k : Int)))) σ H (List.replicate k xs).flatten := fun H1 e Q q =>
  h H1 e _ fun u H2 nu e2 hu => ⟨u, (k : Int), xs, rfl, rfl, st_of hu, hx, by omega, by omega, hl, fun p np => by rw [Int.toNat_natCast]; exact q p _ (fresh_back e2 np) (e2.trans (Ex.new np)) upd_same⟩
theorem eu_catT {xs ys : List V} (h : EvU ta σ H xs) (h' : EvU tb σ H ys) (hx : xs ≠ []) (hy : ys ≠ []) (hl : xs.length + ys.length ≤ 100000) : EvU (tOp (rCatT K) ta tb) σ H (xs ++ ys) := fun H1 e Q q =>
  h H1 e _ fun u H2 nu e2 hu => h' H2 (e.trans e2) _ fun w H3 nw e3 hw => ⟨u, w, xs, ys, rfl, rfl, st_of (e3 _ _ hu), st_of hw, hx, sz_of hl, fun z => absurd z hy, fun _ p np => q p _ (fresh_back (e2.trans e3) np) ((e2.trans e3).trans (Ex.new np)) upd_same⟩
theorem eu_is {xs ys : List V} (h : EvU te σ H xs) (e : xs = ys) : EvU te σ H ys := e ▸ h
end
theorem rep_in {k : Nat} {x : V} (h : 0 < k) : (List.replicate k [x]).flatten ≠ [] := by
  rw [flat_rep]
  intro z
  have := congrArg List.length z
  rw [List.length_replicate] at this
  exact absurd this (by show ¬ k = 0; omega)
section
variable {P : Program} {w : World} {K : PySem.W.Frag} {mg : Str → Option Value} {base : Heap}
theorem ok_wide {f fpick fcount : Addr} {fd dpick dcount : FuncData} {k : Nat} (F : Fun K "_law_wide_great" "_law_wide_great" sLawWideGreat f fd) (Fpick : Fun K "_law_pick" "_law_pick" sPick fpick dpick) (Gpick : FnOk P w K mg base CX0 (k + 1) fpick dpick ["pot", "many"] spPick) (bpick : Binds K dpick ["pot", "many"] []) (gpick : mg "_law_pick" = some (.ref fpick)) (Fcount : Fun K "_law_count" "_law_count" sLawCount fcount dcount) (Gcount : FnOk P w K mg base CX0 (k + 1) fcount dcount ["pot", "big"] spCount) (bcount : Binds K dcount ["pot", "big"] []) (gcount : mg "_law_count" = some (.ref fcount)) (mlen : mg "len" = none) (mrange : mg "range" = none) (mtuple : mg "tuple" = none) : FnOk P w K mg base CX0 (k + 2) f fd ["pot", "sheet"] (spMade 3) := by
  have nd := scLawWideGreat.nd
  refine F.ok scLawWideGreat (fun vs H Q E h => ?_) (fun cdv A outer s H vs Q E hr h => ?_)
  · obtain ⟨p, c, s, ns, os, ls, qs, rfl, _⟩ := h
    rfl
  · obtain ⟨p, c, s, ns, os, ls, qs, rfl, hP, hS, hs, q⟩ := h
    refine ⟨_, (pss_cons (ps_set (i := 2) nd rfl (.inl rfl) (pe_ix ix_tup (pe_ix ix_tup (pv 1) pe_int (fun _ _ => rfl)) (pe_call Gpick hr (by rfl) gpick Fpick.kp bpick .nil pass0 (pa_cons (pv 0) (pa_cons (pe_callB call_len_seq (by rfl) mlen PySem.boot_len (pa_cons (pe_ix ix_tup (pv 1) pe_int (fun _ _ => rfl)) pa_nil)) pa_nil))) (fun _ _ => rfl)))
      (pss_cons (ps_set (i := 3) nd rfl (.inl rfl) (pe_ix ix_tup (pe_ix ix_tup (pv 1) pe_int (fun _ _ => rfl)) (pe_call Gpick hr (by rfl) gpick Fpick.kp bpick .nil pass0 (pa_cons (pv 0) (pa_cons (pe_callB call_len_seq (by rfl) mlen PySem.boot_len (pa_cons (pe_ix ix_tup (pv 1) pe_int (fun _ _ => rfl)) pa_nil)) pa_nil))) (fun _ _ => rfl)))
      (pss_cons (ps_set (i := 4) nd rfl (.inl rfl) (pe_tup (pa_cons pe_str (pa_cons (pe_op op_catT (pe_op op_repT (pe_tup (pa_cons (pv 2) pa_nil)) pe_int) (pe_op op_repT (pe_tup (pa_cons (pv 3) pa_nil)) pe_int)) pa_nil))))
      (pss_cons (ps_set (i := 5) nd rfl (.inr rfl) (pe_lst (pa_cons (pv 4) (pa_cons (pe_tup (pa_cons pe_str (pa_cons (pe_op op_repT (pe_tup (pa_cons (pv 2) (pa_cons (pv 3) pa_nil))) pe_int) pa_nil))) (pa_cons (pe_tup (pa_cons pe_str (pa_cons (pe_tup pa_nil) pa_nil))) (pa_cons (pe_tup (pa_cons pe_str (pa_cons (pe_call Gcount hr (by rfl) gcount Fcount.kp bcount .nil pass0 (pa_cons (pv 0) (pa_cons pe_bl pa_nil))) (pa_cons (pv 4) pa_nil)))) pa_nil))))))
      (pss_cons (ps_expr (pe_bm PySem.F.plainAttrs_list PySem.F.slot_list_append PySem.F.type_list_append mt_append (pv 5) (pa_cons (pe_tup (pa_cons pe_str (pa_cons (pe_call Gcount hr (by rfl) gcount Fcount.kp bcount .nil pass0 (pa_cons (pv 0) (pa_cons pe_bl pa_nil))) (pa_cons (pv 2) (pa_cons (pv 4) (pa_cons (pv 3) pa_nil)))))) pa_nil)))
      (pss_one (ps_ret (pe_tup (pa_cons pe_str (pa_cons (pe_callTy call_tuple_of (by rfl) mtuple (by decide +kernel) (pa_cons (pe_lc (own := [("k", 6)]) (g := gName 6) (tt := tYes) (te := (tOp (rIxL K) (tVar 5) (tCall spPick [] E0 (tCons (tVar 0) (tCons (tC (.int 5)) tNil))))) rfl nd (pi_range1 (by rfl) mrange (pa_cons pe_int pa_nil)) (blkOk_by (own := [("k", 6)]) (N := nLawWideGreat) (sc := defScope sLawWideGreat) (by decide +kernel)) (fun _ _ _ _ _ => pg_name (i := 6) nd rfl (.inl rfl)) (fun _ _ _ _ _ => pts_nil) (fun _ _ _ _ _ => (pe_ix ix_list (pv 5) (pe_call Gpick hr (by rfl) gpick Fpick.kp bpick .nil pass0 (pa_cons (pv 0) (pa_cons pe_int pa_nil))) (fun _ _ => rfl)))) pa_nil)) pa_nil)))))))))), ?_⟩
    obtain ⟨ao, ap, ac, g0, g1, g2, g3⟩ := hs
    refine draw_rd hP rfl rfl g0 (show atI [V.ref ao, .ref ap, .ref ac] 0 = some (.ref ao) from rfl) g1 hS.o0 (by have := hS.o4; omega) fun a H1 ha kp1 hP1 => ?_
    have kt1 : ∀ b xs, H b = some (.tup xs) → H1 b = some (.tup xs) := fun b xs z => kp1 _ _ (hP.ne_tup z) z
    refine draw_rd hP1 rfl rfl (kt1 _ _ g0) (show atI [V.ref ao, .ref ap, .ref ac] 2 = some (.ref ac) from rfl) (kt1 _ _ g3) hS.c0 (by have := hS.c4; omega) fun z H2 hz kp2 hP2 => ?_
    have kp02 := kp1.trans kp2
    have ma : a ∈ os ++ ls ++ qs := List.mem_append.mpr (.inl (List.mem_append.mpr (.inl ha)))
    have mz : z ∈ os ++ ls ++ qs := List.mem_append.mpr (.inr hz)
    have long : EvG os ls qs (tTup (tCons (tC (.str "word")) (tCons (tOp (rCatT K) (tOp (rRepT K) (tTup (tCons (tVar 2) tNil)) (tC (.int 30))) (tOp (rRepT K) (tTup (tCons (tVar 3) tNil)) (tC (.int 30)))) tNil))) [some (.ref p), some (.ref s), some (.str a), some (.str z), none, none, none] H2 1 := by
      refine eg_wordU (W := List.replicate 30 a ++ List.replicate 30 z) (eu_is (eu_catT (eu_repT (k := 30) (eu_tup (ea_cons (ev_var rfl) ea_nil) (by show 1 ≤ 100000; decide)) (by simp) (by decide) (by decide) (by show 1 ≤ 1000; decide)) (eu_repT (k := 30) (eu_tup (ea_cons (ev_var rfl) ea_nil) (by show 1 ≤ 100000; decide)) (by simp) (by decide) (by decide) (by show 1 ≤ 1000; decide)) (rep_in (by decide)) (rep_in (by decide)) ?_) ?_) ?_ ?_ ?_
      · rw [flat_rep, flat_rep, List.length_replicate, List.length_replicate]
        decide
      · rw [flat_rep, flat_rep, List.map_append, List.map_replicate, List.map_replicate]
      · rw [List.length_append, List.length_replicate, List.length_replicate]
        decide
      · intro x hx
        rcases List.mem_append.mp hx with h | h
        · rw [List.eq_of_mem_replicate h]
          exact ma
        · rw [List.eq_of_mem_replicate h]
          exact mz
      · have := bal_wrap hS ha hz (G := []) rfl 30
        rw [List.append_nil] at this
        exact this
    refine q_asgG (n := 1) long fun lg W1 H3 e3 hlg => ?_
    have hP3 := hP2.ex e3
    have kp03 := kp02.trans (Keep.ofEx e3)
    have two : ∀ {σ : L2.St} (H4 : Hp), σ[2]? = some (some (.str a)) → σ[3]? = some (some (.str z)) → EvG os ls qs (tTup (tCons (tC (.str "word")) (tCons (tOp (rRepT K) (tTup (tCons (tVar 2) (tCons (tVar 3) tNil))) (tC (.int 30))) tNil))) σ H4 1 := fun {σ} H4 h2 h3 => by
      refine eg_wordU (W := (List.replicate 30 [a, z]).flatten) (eu_is (eu_repT (k := 30) (eu_tup (ea_cons (ev_var h2) (ea_cons (ev_var h3) ea_nil)) (by show 2 ≤ 100000; decide)) (by simp) (by decide) (by decide) (by show 2 ≤ 1000; decide)) (rep_V 30 [a, z])) ?_ ?_ ?_
      · rw [rep_len]
        show 30 * 2 ≤ 60
        decide
      · intro x hx
        obtain ⟨w, hw, hx⟩ := List.mem_flatten.mp hx
        rw [List.eq_of_mem_replicate hw] at hx
        rcases List.mem_cons.mp hx with h | h
        · rw [h]; exact ma
        · rw [List.mem_singleton.mp h]; exact mz
      · refine bal_flat _ fun w hw => ?_
        rw [List.eq_of_mem_replicate hw, show [a, z] = [a] ++ [z] from rfl, bal_app, bal_one_op ha]
        exact bal_one_cl hS hz 0
    refine ⟨_, rfl, two H3 rfl rfl H3 (Ex.refl _) _ fun v2 W2 H4 e4 g4 => eg_nil (os := os) (ls := ls) (qs := qs) H4 (Ex.refl _) _ fun v3 W3 H5 e5 g5 => ?_⟩
    have e45 := e4.trans e5
    refine ⟨_, rfl, p, c, ns, true, rfl, hP3.ex e45, fun k1 H6 hk1 _ kp6 hP6 => ⟨_, rfl, by show 3 ≤ sizeLine; decide, fun t1 nt1 => ⟨by show 4 ≤ sizeLine; decide, fun l nl => ?_⟩⟩⟩
    have e7 := Ex.new (o := .tup [.str "again", .int (k1 : Int), lg]) nt1
    have e8 := Ex.new (o := .lst [lg, v2, v3, .ref t1]) nl
    have kp08 := ((kp03.trans (Keep.ofEx e45)).trans kp6).trans (Keep.ofEx (e7.trans e8))
    have hP8 := hP6.ex (e7.trans e8)
    have lg6 := (hlg.ex e45).kp (hP3.ex e45) kp6
    have lg8 := lg6.ex (e7.trans e8)
    have hA8 : All2 (GAt os ls qs (upd (upd H6 t1 (.tup [.str "again", .int (k1 : Int), lg])) l (.lst [lg, v2, v3, .ref t1])) 2) [lg, v2, v3, .ref t1] [W1, W2, W3, (List.replicate k1 W1).flatten] := ⟨lg8.le (by decide), (((g4.ex e5).kp (hP3.ex e45) kp6).ex (e7.trans e8)).le (by decide), ((g5.kp (hP3.ex e45) kp6).ex (e7.trans e8)).le (by decide), ⟨t1, _, [lg], [W1], rfl, e8 _ _ upd_same, .again hk1 lg8⟩, trivial⟩
    have hl8 : (upd (upd H6 t1 (.tup [.str "again", .int (k1 : Int), lg])) l (.lst [lg, v2, v3, .ref t1])) l = some (.lst [lg, v2, v3, .ref t1]) := upd_same
    have lp := ((hP6.ex e7).ne_new nl).1.symm
    have lc := ((hP6.ex e7).ne_new nl).2
    dsimp only [gName]
    show tSeq _ _ _ [some (.ref p), some (.ref s), some (.str a), some (.str z), some lg, some (.ref l), none] (upd (upd H6 t1 (.tup [.str "again", .int (k1 : Int), lg])) l (.lst [lg, v2, v3, .ref t1]))
    have nlH : H l = none := Keep.fresh ((kp03.trans (Keep.ofEx e45)).trans kp6) lp (fresh_back e7 nl)
    generalize upd (upd H6 t1 (.tup [.str "again", .int (k1 : Int), lg])) l (.lst [lg, v2, v3, .ref t1]) = H8 at kp08 hP8 lg8 hA8 hl8
    refine ⟨_, rfl, .inl ⟨rfl, _, sq_of hl8⟩, _, rfl, p, c, ns, true, rfl, hP8, fun k2 H9 hk2 _ kp9 hP9 => ⟨_, rfl, _, rfl, _, rfl, by show 5 ≤ sizeLine; decide, fun t2 nt2 => ⟨l, _, _, rfl, rfl, Ex.new nt2 _ _ (kp9 _ _ lp hl8), by show 4 < sizeLine; decide, ?_⟩⟩⟩
    have e10 := Ex.new (o := .tup [.str "wrap", .int (k2 : Int), .str a, lg, .str z]) nt2
    have hl10 := e10 _ _ (kp9 _ _ lp hl8)
    have kt : ∀ b xs, (upd H9 t2 (.tup [.str "wrap", .int (k2 : Int), .str a, lg, .str z])) b = some (.tup xs) → (upd (upd H9 t2 (.tup [.str "wrap", .int (k2 : Int), .str a, lg, .str z])) l (.lst ([lg, v2, v3, .ref t1] ++ [.ref t2]))) b = some (.tup xs) := keep_lst hl10
    have hA11 : All2 (GAt os ls qs (upd (upd H9 t2 (.tup [.str "wrap", .int (k2 : Int), .str a, lg, .str z])) l (.lst ([lg, v2, v3, .ref t1] ++ [.ref t2]))) 2) ([lg, v2, v3, .ref t1] ++ [.ref t2]) ([W1, W2, W3, (List.replicate k1 W1).flatten] ++ [List.replicate k2 a ++ W1 ++ List.replicate k2 z]) := All2.mono (fun v W g => GAt.keep kt _ _ _ g) _ _ (All2.snoc ⟨t2, _, [lg], [W1], rfl, upd_same, .wrap hk2 ha hz ((lg8.kp hP8 kp9).ex e10)⟩ _ _ (All2.mono (fun v W g => (g.kp hP8 kp9).ex e10) _ _ hA8))
    have hl11 : (upd (upd H9 t2 (.tup [.str "wrap", .int (k2 : Int), .str a, lg, .str z])) l (.lst ([lg, v2, v3, .ref t1] ++ [.ref t2]))) l = some (.lst ([lg, v2, v3, .ref t1] ++ [.ref t2])) := upd_same
    have kp11 : Keep p H (upd (upd H9 t2 (.tup [.str "wrap", .int (k2 : Int), .str a, lg, .str z])) l (.lst ([lg, v2, v3, .ref t1] ++ [.ref t2]))) := ((kp08.trans kp9).trans (Keep.ofEx e10)).new nlH
    have hP11 : Pot p c ns (upd (upd H9 t2 (.tup [.str "wrap", .int (k2 : Int), .str a, lg, .str z])) l (.lst ([lg, v2, v3, .ref t1] ++ [.ref t2]))) := (hP9.ex e10).new lp.symm lc
    generalize upd (upd H9 t2 (.tup [.str "wrap", .int (k2 : Int), .str a, lg, .str z])) l (.lst ([lg, v2, v3, .ref t1] ++ [.ref t2])) = HB at hA11 hl11 kp11 hP11
    generalize hus : [lg, v2, v3, V.ref t1] ++ [V.ref t2] = us at hA11 hl11
    have hu5 : us.length = 5 := by rw [← hus]; rfl
    generalize [W1, W2, W3, (List.replicate k1 W1).flatten] ++ [List.replicate k2 a ++ W1 ++ List.replicate k2 z] = Us at hA11
    refine ⟨8, rfl, by decide, by decide, fun D nD => ?_⟩
    have pD := hP11.ne_new nD
    refine lc_range (lo := 0) (n := 8) (fun i H' => ∃ (ps : List V) (Ws : List (List Str)), ps.length = i ∧ H' D = some (.lst ps) ∧ All2 (GAt os ls qs H' 2) ps Ws ∧ Keep p HB H' ∧ Pot p c ns H') ?_ ?_ ?_
    · exact ⟨[], [], rfl, upd_same, trivial, (Keep.refl p HB).new nD, hP11.new pD.1 pD.2⟩
    · rintro i H' hi ⟨ps, Ws, hl, hD, hA, kp', hP'⟩
      refine ⟨rfl, yesT ⟨_, rfl, _, rfl, p, c, ns, 5, rfl, by decide, by decide, hP', fun v H6 hv kp6 hP6 => ?_⟩⟩
      have hv5 : v < us.length := by omega
      have hx : us[v]? = some us[v] := List.getElem?_eq_getElem hv5
      obtain ⟨W, hW, hg⟩ := All2.at _ _ hA11 v us[v] hx
      have hD6 := kp6 _ _ pD.1.symm hD
      have kt6 : ∀ b xs, H6 b = some (.tup xs) → (upd H6 D (.lst (ps ++ [us[v]]))) b = some (.tup xs) := keep_lst hD6
      exact ⟨l, _, _, us[v], rfl, rfl, sq_of (kp6 _ _ lp (kp' _ _ lp hl11)), atI_nat hx, _, hD6, sz_lt (by omega), ps ++ [us[v]], Ws ++ [W], by rw [List.length_append, hl]; rfl, upd_same, All2.snoc (GAt.keep kt6 _ _ _ ((hg.kp hP11 kp').kp hP' kp6)) _ _ (All2.mono (fun v W g => GAt.keep kt6 _ _ _ (g.kp hP' kp6)) _ _ hA), (kp'.trans kp6).new nD, hP6.new pD.1 pD.2⟩
    · rintro H6 ⟨ps, Ws, hl, hD, hA, kp6, hP6⟩
      have hl8' : ps.length = 8 := hl
      refine ⟨D, _, rfl, .inl ⟨sq_of hD, fun u nu => ⟨by show 2 ≤ sizeLine; decide, fun t nt => ?_⟩⟩⟩
      have e3 := (Ex.new (o := .tup ps) nu).trans (Ex.new (o := .tup [.str "row", .ref u]) nt)
      exact q (.ref t) Ws.flatten _ ⟨t, _, ps, Ws, rfl, upd_same, .row (Ex.new nt _ _ upd_same) (All2.mono (fun v W h => h.ex e3) _ _ hA) (by omega)⟩ ((kp11.trans kp6).trans (Keep.ofEx e3)) (hP6.ex e3)
theorem ok_ten {f fpick fshut : Addr} {fd dpick dshut : FuncData} {k : Nat} (F : Fun K "_law_ten_deep" "_law_ten_deep" sLawTenDeep f fd) (Fpick : Fun K "_law_pick" "_law_pick" sPick fpick dpick) (Gpick : FnOk P w K mg base CX0 (k + 1) fpick dpick ["pot", "many"] spPick) (bpick : Binds K dpick ["pot", "many"] []) (gpick : mg "_law_pick" = some (.ref fpick)) (Fshut : Fun K "_law_shut" "_law_shut" sShut fshut dshut) (Gshut : FnOk P w K mg base CX0 (k + 1) fshut dshut ["pot", "sheet", "most"] spShut) (bshut : Binds K dshut ["pot", "sheet", "most"] []) (gshut : mg "_law_shut" = some (.ref fshut)) (mrange : mg "range" = none) (mtuple : mg "tuple" = none) : FnOk P w K mg base CX0 (k + 2) f fd ["pot", "sheet"] (spMade 10) := by
  have nd := scLawTenDeep.nd
  refine F.ok scLawTenDeep (fun vs H Q E h => ?_) (fun cdv A outer s H vs Q E hr h => ?_)
  · obtain ⟨p, c, s, ns, os, ls, qs, rfl, _⟩ := h
    rfl
  · obtain ⟨p, c, s, ns, os, ls, qs, rfl, hP, hS, hs, q⟩ := h
    refine ⟨_, (pss_cons (ps_set (i := 2) nd rfl (.inl rfl) (pe_tup (pa_cons pe_str (pa_cons (pe_callTy call_tuple_of (by rfl) mtuple (by decide +kernel) (pa_cons (pe_call Gshut hr (by rfl) gshut Fshut.kp bshut .nil pass0 (pa_cons (pv 0) (pa_cons (pv 1) (pa_cons pe_int pa_nil)))) pa_nil)) pa_nil))))
      (pss_cons (ps_for PassesOwn.never rfl (pi_range1 (by rfl) mrange (pa_cons pe_int pa_nil)) (pg_name (i := 3) nd rfl (.inl rfl)) (pss_cons (ps_set (i := 4) nd rfl (.inl rfl) (pe_lst (pa_cons (pe_tup (pa_cons pe_str (pa_cons (pe_op op_sub (pe_op op_pow pe_int pe_int) (pv 3)) (pa_cons (pv 2) pa_nil)))) (pa_cons (pe_tup (pa_cons pe_str (pa_cons (pe_op op_sub (pe_op op_pow pe_int pe_int) (pv 3)) (pa_cons (pe_ix ix_tup (pe_ix ix_tup (pv 1) pe_int (fun _ _ => rfl)) pe_int (fun _ _ => rfl)) (pa_cons (pv 2) (pa_cons (pe_ix ix_tup (pe_ix ix_tup (pv 1) pe_int (fun _ _ => rfl)) (pe_un un_neg pe_int) (fun _ _ => rfl)) pa_nil)))))) pa_nil))))
      (pss_one (ps_set (i := 2) nd rfl (.inl rfl) (pe_ix ix_list (pe_op op_cat (pv 4) (pe_lst (pa_cons (pe_tup (pa_cons pe_str (pa_cons (pe_tup (pa_cons (pv 2) (pa_cons (pe_tup (pa_cons pe_str (pa_cons (pe_tup pa_nil) pa_nil))) pa_nil))) pa_nil))) pa_nil))) (pe_call Gpick hr (by rfl) gpick Fpick.kp bpick .nil pass0 (pa_cons (pv 0) (pa_cons pe_int pa_nil))) (fun _ _ => rfl))))))
      (pss_one (ps_ret (pv 2))))), ?_⟩
    refine ⟨_, rfl, _, rfl, p, c, s, ns, os, ls, qs, 2, rfl, by decide, hP, hS, hs, fun ws l H2 hm hl hb kp2 hP2 nl hl2 => ⟨l, _, rfl, .inl ⟨sq_of hl2, fun u nu => ⟨by show 2 ≤ sizeLine; decide, fun t nt => ?_⟩⟩⟩⟩
    have e3 := (Ex.new (o := .tup (ws.map V.str)) nu).trans (Ex.new (o := .tup [.str "word", .ref u]) nt)
    refine ⟨9, rfl, by decide, by decide, for_range (lo := 0) (n := 9) (fun i σ H' => (∃ (g : V) (W : List Str) (y3 y4 : Option V), σ = [some (.ref p), some (.ref s), some g, y3, y4] ∧ GAt os ls qs H' (i + 1) g W) ∧ Keep p H H' ∧ Pot p c ns H') ⟨⟨.ref t, ws, _, _, rfl, t, _, [], [], rfl, upd_same, .word (Ex.new nt _ _ upd_same) (by omega) hm hb⟩, kp2.trans (Keep.ofEx e3), hP2.ex e3⟩ ?_ ?_⟩
    · rintro i σ H4 hi ⟨⟨g, W, y3, y4, rfl, hg⟩, kp4, hP4⟩
      obtain ⟨ao, ap, ac, g0, g1, g2, g3⟩ := hs.keep hP kp4
      obtain ⟨z, hz, hzl⟩ := last_at hS.c0
      obtain ⟨a, ha, hal⟩ : ∃ a ∈ os, atI (os.map V.str) 0 = some (.str a) := by
        cases os with
        | nil => exact absurd rfl hS.o0
        | cons x r => exact ⟨x, List.mem_cons_self .., atI_nat (j := 0) rfl⟩
      have e0 : (0 : Int) + (i : Int) = (i : Int) := Int.zero_add _
      rw [e0]
      have kk : ∀ {σ : L2.St} (H5 : Hp), σ[3]? = some (some (.int (i : Int))) → Ev (tOp (rI0 fun i j => .int (i - j)) (tOp (rI CPow fun i j => .int (i ^ j.toNat)) (tC (.int 10)) (tC (.int 60))) (tVar 3)) σ H5 (.int ((1000000000000000000000000000000000000000000000000000000000000 - i : Nat) : Int)) := fun {σ} H5 h3 => ev_is (ev_op ev_60 (ev_var h3) rv_I0) (congrArg V.int (by omega))
      have hk : 1000000000000000000000000000000000000000000000000000000000000 - i < 2 ^ 200 := Nat.lt_of_le_of_lt (Nat.sub_le _ _) k60
      refine q_asgGs (n := i + 2) (m := 2) (egs_cons (eg_again (eg_var rfl hg) (kk H4 rfl) hk) (egs_cons (eg_wrap ha hz (eg_var rfl hg) (kk H4 rfl) hk (ev_op (ev_op (ev_var rfl) ev_c (rv_ixT (st_of g0) (show atI [V.ref ao, .ref ap, .ref ac] 0 = some (.ref ao) from rfl))) ev_c (rv_ixT (st_of g1) hal)) (ev_op (ev_op (ev_var rfl) ev_c (rv_ixT (st_of g0) (show atI [V.ref ao, .ref ap, .ref ac] 2 = some (.ref ac) from rfl))) (ev_un ev_c ru_neg) (rv_ixT (st_of g3) hzl))) egs_nil)) (by decide) fun vs Ws H5 l5 e5 hA5 hm5 nl5 => ?_
      have e6 := Ex.new (o := .lst vs) nl5
      have e56 := e5.trans e6
      have hl6 : (upd H5 l5 (.lst vs)) l5 = some (.lst vs) := upd_same
      show tAsg _ _ _ [some (.ref p), some (.ref s), some g, some (.int (i : Int)), some (.ref l5)] (upd H5 l5 (.lst vs))
      have hA6 : All2 (GAt os ls qs (upd H5 l5 (.lst vs)) (i + 2)) vs Ws := All2.mono (fun v W g => g.ex e6) _ _ hA5
      generalize upd H5 l5 (.lst vs) = H6 at e6 e56 hl6 hA6
      refine ⟨_, rfl, g_lst (n := i + 2) (m := 1) (egs_cons (eg_row (n := i + 1) (m := 2) (egs_cons (eg_var rfl (hg.ex e56)) (egs_cons (eg_nil.le (by omega)) egs_nil)) (by decide)) egs_nil) (by decide) fun us Us H7 l7 e7 hA7 hm7 nl7 => ?_⟩
      have e8 := Ex.new (o := .lst us) nl7
      refine ⟨l5, l7, _, _, rfl, rfl, e8 _ _ (e7 _ _ hl6), upd_same, sz_of (by omega), fun r nr => ?_⟩
      have e9 := Ex.new (o := .lst (vs ++ us)) nr
      have e49 := (e56.trans e7).trans (e8.trans e9)
      have hA9 : All2 (GAt os ls qs (upd (upd H7 l7 (.lst us)) r (.lst (vs ++ us))) (i + 2)) (vs ++ us) (Ws ++ Us) := All2.app _ _ _ _ (All2.mono (fun v W g => g.ex (e7.trans (e8.trans e9))) _ _ hA6) (All2.mono (fun v W g => g.ex (e8.trans e9)) _ _ hA7)
      have hr9 : (upd (upd H7 l7 (.lst us)) r (.lst (vs ++ us))) r = some (.lst (vs ++ us)) := upd_same
      have hlen : (vs ++ us).length = 3 := by rw [List.length_append]; omega
      have hP9 := hP4.ex e49
      have rp : r ≠ p := ((hP4.ex ((e56.trans e7).trans e8)).ne_new nr).1.symm
      refine ⟨_, rfl, p, c, ns, 3, rfl, by decide, by decide, hP9, fun v H10 hv kp10 hP10 => ?_⟩
      have hv3 : v < (vs ++ us).length := by omega
      have hx : (vs ++ us)[v]? = some (vs ++ us)[v] := List.getElem?_eq_getElem hv3
      obtain ⟨W9, hW9, hg9⟩ := All2.at _ _ hA9 v _ hx
      exact ⟨r, _, _, (vs ++ us)[v], rfl, rfl, sq_of (kp10 _ _ rp hr9), atI_nat hx, ⟨(vs ++ us)[v], W9, _, _, rfl, hg9.kp hP9 kp10⟩, (kp4.trans (Keep.ofEx e49)).trans kp10, hP10⟩
    · rintro σ H4 ⟨⟨g, W, y3, y4, rfl, hg⟩, kp4, hP4⟩
      exact ⟨_, rfl, q g W H4 hg kp4 hP4⟩
end
end Eh
set_option Elab.async false
set_option linter.all false
set_option maxRecDepth 100000
set_option maxHeartbeats 4000000
namespace Eh
open PySem PySem.Spec PyProof.Rows L2 Evl
abbrev nLaw : List Str := ["script", "pot", "sheet", "turn", "few", "word", "told", "place", "great"]
theorem scLaw : FnScope nLaw ["script"] (defScope sLaw) := ⟨rfl, rfl, rfl, by decide +kernel, rfl, by decide +kernel, by decide +kernel⟩
def spEx (sp : List Str → List Str → List Str → Sp) : Sp := fun vs H Q E => ∃ os ls qs, sp os ls qs vs H Q E
def spLaw (K : PySem.W.Frag) : Sp := fun vs H Q _ => ∃ (a : Addr) (ns : List Int), vs = [.ref a] ∧ SqL K H a (ns.map V.int) ∧ ns.length ≤ 63 ∧ ∀ H', Q (.bl true) H'
theorem ev_callLL {sp : Sp} {E : XK} {ta tb : TE} {σ : L2.St} {H : Hp} {xs ys : List V} {z : V} (ha : EvL ta σ H xs) (hb : EvL tb σ H ys) (hs : ∀ a b H1, Ex H H1 → H1 a = some (.lst xs) → H1 b = some (.lst ys) → ∀ Q : VK, (∀ H2, Ex H1 H2 → Q z H2) → ∀ E : XK, sp [.ref a, .ref b] H1 Q E) : Ev (tCall sp [] E (tCons ta (tCons tb tNil))) σ H z := fun H1 e Q q =>
  ha H1 e _ fun a H2 na e2 h2 => hb H2 (e.trans e2) _ fun b H3 nb e3 h3 => hs a b H3 ((e.trans e2).trans e3) (e3 _ _ h2) h3 Q (fun H4 e4 => q H4 ((e2.trans e3).trans e4)) E
theorem given2 {f : Nat → V} {xs : List V} (h : ∀ i (hi : i < xs.length), f i = xs[i]) (h1 : f xs.length = .non) (h2 : f (xs.length + 1) = .non) : given (xs.length + 2) (fun _ => true) f = xs ++ [.non, .non] := by
  rw [given_true, List.range_succ, List.range_succ, List.map_append, List.map_append]
  show (List.map f (List.range xs.length) ++ [f xs.length]) ++ [f (xs.length + 1)] = _
  rw [h1, h2, List.append_assoc]
  congr 1
  apply List.ext_getElem
  · rw [List.length_map, List.length_range]
  · intro i a b
    rw [List.getElem_map, List.getElem_range]
    exact h i b
theorem GAt.letters {os ls qs : List Str} {H : Hp} : ∀ (n : Nat) (v : V) (W : List Str), GAt os ls qs H n v W → ∀ x ∈ W, x ∈ os ++ ls ++ qs
  | 0, _, _, h => h.elim
  | n + 1, v, W, ⟨t, xs, ps, Ws, e, ht, hg⟩ => by
    cases hg with
    | word hu hl hm hb => exact hm
    | row hu hr hl =>
      intro x hx
      obtain ⟨w, hw, hx⟩ := List.mem_flatten.mp hx
      obtain ⟨v, hv⟩ := All2.mem _ _ hr w hw
      exact GAt.letters n v w hv x hx
    | again hk hr =>
      intro x hx
      obtain ⟨w, hw, hx⟩ := List.mem_flatten.mp hx
      rw [List.eq_of_mem_replicate hw] at hx
      exact GAt.letters n _ _ hr x hx
    | wrap hk ha hc hr =>
      intro x hx
      rcases List.mem_append.mp hx with hx | hx
      · rcases List.mem_append.mp hx with hx | hx
        · rw [List.eq_of_mem_replicate hx]
          exact List.mem_append.mpr (.inl (List.mem_append.mpr (.inl ha)))
        · exact GAt.letters n _ _ hr x hx
      · rw [List.eq_of_mem_replicate hx]
        exact List.mem_append.mpr (.inr hc)
theorem inV_yes : ∀ n : Nat, inV (.bl false) (List.replicate n (V.bl true)) = false
  | 0 => rfl
  | n + 1 => by
    rw [List.replicate_succ]
    show (eqV (.bl true) (.bl false) || inV (.bl false) (List.replicate n (V.bl true))) = false
    rw [inV_yes n]
    rfl
theorem flat_yes (n : Nat) : (List.replicate n (V.bl true)).all flatV = true := by
  rw [List.all_eq_true]
  intro v hv
  rw [List.eq_of_mem_replicate hv]
  rfl
section
variable {P : Program} {w : World} {K : PySem.W.Frag} {mg : Str → Option Value} {base : Heap}
theorem fn_ex {CX : CXT} {k : Nat} {f : Addr} {fd : FuncData} {ps : List Str} {sp : List Str → List Str → List Str → Sp} (h : ∀ os ls qs, FnOk P w K mg base CX k f fd ps (sp os ls qs)) : FnOk P w K mg base CX k f fd ps (spEx sp) := ⟨fun _ _ _ _ ⟨os, ls, qs, z⟩ => (h os ls qs).1 _ _ _ _ z, fun _ _ _ _ _ _ _ _ a b c d e ⟨os, ls, qs, z⟩ => (h os ls qs).2 _ _ _ _ _ _ _ _ a b c d e z⟩
theorem ok_law {f fpot fsheet fgreat fwrite fanswers fsame fletter_at fanswer_at fplaces fright flength_of fsize fwide_great ften_deep : Addr} {fd dpot dsheet dgreat dwrite danswers dsame dletter_at danswer_at dplaces dright dlength_of dsize dwide_great dten_deep : FuncData} {k : Nat} (F : Fun K "law" "law" sLaw f fd) (Fpot : Fun K "_law_pot" "_law_pot" sPot fpot dpot) (Gpot : FnOk P w K mg base CX0 (k + 1) fpot dpot ["script"] (spPot K)) (bpot : Binds K dpot ["script"] []) (gpot : mg "_law_pot" = some (.ref fpot)) (Fsheet : Fun K "_law_sheet" "_law_sheet" sSheet fsheet dsheet) (Gsheet : FnOk P w K mg base CX0 (k + 1) fsheet dsheet ["pot", "most"] spSheet) (bsheet : Binds K dsheet ["pot", "most"] []) (gsheet : mg "_law_sheet" = some (.ref fsheet)) (Fgreat : Fun K "_law_great" "_law_great" sLawGreat fgreat dgreat) (Ggreat : FnOk P w K mg base CX0 (k + 1) fgreat dgreat ["pot", "sheet", "deep", "big"] (spGreat 4)) (bgreat : Binds K dgreat ["pot", "sheet", "deep", "big"] []) (ggreat : mg "_law_great" = some (.ref fgreat)) (Fwrite : Fun K "_law_write" "_law_write" sLawWrite fwrite dwrite) (Gwrite : FnOk P w K mg base CX0 (k + 1) fwrite dwrite ["great"] (spEx fun os ls qs => spWrite os ls qs 10)) (bwrite : Binds K dwrite ["great"] []) (gwrite : mg "_law_write" = some (.ref fwrite)) (Fanswers : Fun K "_law_answers" "_law_answers" sAns fanswers danswers) (Ganswers : FnOk P w K mg base CX0 (k + 1) fanswers danswers ["sheet", "word"] (spAnswers K)) (banswers : Binds K danswers ["sheet", "word"] []) (ganswers : mg "_law_answers" = some (.ref fanswers)) (Fsame : Fun K "_law_same" "_law_same" sSame fsame dsame) (Gsame : FnOk P w K mg base CX0 (k + 1) fsame dsame ["found", "due"] spSame1) (bsame : Binds K dsame ["found", "due"] []) (gsame : mg "_law_same" = some (.ref fsame)) (Fletter_at : Fun K "letter_at" "letter_at" sLetterAt fletter_at dletter_at) (Gletter_at : FnOk P w K mg base CX0 (k + 1) fletter_at dletter_at ["great", "place"] (spEx fun os ls qs => spLetterAt os ls qs 10)) (bletter_at : Binds K dletter_at ["great", "place"] []) (gletter_at : mg "letter_at" = some (.ref fletter_at)) (Fanswer_at : Fun K "answer_at" "answer_at" sAnswerAt fanswer_at danswer_at) (Ganswer_at : FnOk P w K mg base CX0 (k + 1) fanswer_at danswer_at ["sheet", "great", "place"] (spEx fun os ls qs => spAnswerAt os ls qs 10)) (banswer_at : Binds K danswer_at ["sheet", "great", "place"] []) (ganswer_at : mg "answer_at" = some (.ref fanswer_at)) (Fplaces : Fun K "_law_places" "_law_places" sLawPlaces fplaces dplaces) (Gplaces : FnOk P w K mg base CX0 (k + 1) fplaces dplaces ["pot", "great"] (spEx fun os ls qs => spPlaces os ls qs 10)) (bplaces : Binds K dplaces ["pot", "great"] []) (gplaces : mg "_law_places" = some (.ref fplaces)) (Fright : Fun K "_law_right" "_law_right" sLawRight fright dright) (Gright : FnOk P w K mg base CX0 (k + 1) fright dright ["sheet", "great", "place"] (spEx fun os ls qs => spRight os ls qs 10)) (bright : Binds K dright ["sheet", "great", "place"] []) (gright : mg "_law_right" = some (.ref fright)) (Flength_of : Fun K "length_of" "length_of" sLengthOf flength_of dlength_of) (Glength_of : FnOk P w K mg base CX0 (k + 1) flength_of dlength_of ["great"] (spEx fun os ls qs => spLen os ls qs 10)) (blength_of : Binds K dlength_of ["great"] []) (glength_of : mg "length_of" = some (.ref flength_of)) (Fsize : Fun K "_law_size" "_law_size" sSize fsize dsize) (Gsize : FnOk P w K mg base CX0 (k + 1) fsize dsize ["great"] (spEx fun os ls qs => spSize os ls qs 10)) (bsize : Binds K dsize ["great"] []) (gsize : mg "_law_size" = some (.ref fsize)) (Fwide_great : Fun K "_law_wide_great" "_law_wide_great" sLawWideGreat fwide_great dwide_great) (Gwide_great : FnOk P w K mg base CX0 (k + 1) fwide_great dwide_great ["pot", "sheet"] (spMade 3)) (bwide_great : Binds K dwide_great ["pot", "sheet"] []) (gwide_great : mg "_law_wide_great" = some (.ref fwide_great)) (Ften_deep : Fun K "_law_ten_deep" "_law_ten_deep" sLawTenDeep ften_deep dten_deep) (Gten_deep : FnOk P w K mg base CX0 (k + 1) ften_deep dten_deep ["pot", "sheet"] (spMade 10)) (bten_deep : Binds K dten_deep ["pot", "sheet"] []) (gten_deep : mg "_law_ten_deep" = some (.ref ften_deep)) (mlen : mg "len" = none) (mrange : mg "range" = none) : FnOk P w K mg base CX0 (k + 2) f fd ["script"] (spLaw K) := by
  have nd := scLaw.nd
  refine F.ok scLaw (fun vs H Q E h => ?_) (fun cdv A outer s H vs Q E hr h => ?_)
  · obtain ⟨a, ns, rfl, _⟩ := h
    rfl
  · obtain ⟨a, ns, rfl, hA, hns, q⟩ := h
    refine ⟨_, (pss_cons (ps_set (i := 1) nd rfl (.inl rfl) (pe_call Gpot hr (by rfl) gpot Fpot.kp bpot .nil pass0 (pa_cons (pv 0) pa_nil)))
      (pss_cons (ps_set (i := 2) nd rfl (.inr rfl) (pe_call Gsheet hr (by rfl) gsheet Fsheet.kp bsheet .nil pass0 (pa_cons (pv 1) (pa_cons pe_int pa_nil))))
      (pss_cons (ps_for PassesOwn.never rfl (pi_range1 (by rfl) mrange (pa_cons pe_int pa_nil)) (pg_name (i := 3) nd rfl (.inl rfl)) (pss_cons (ps_set (i := 4) nd rfl (.inr rfl) (pe_call Ggreat hr (by rfl) ggreat Fgreat.kp bgreat .nil pass0 (pa_cons (pv 1) (pa_cons (pv 2) (pa_cons pe_int (pa_cons pe_bl pa_nil))))))
      (pss_cons (ps_set (i := 5) nd rfl (.inl rfl) (pe_call Gwrite hr (by rfl) gwrite Fwrite.kp bwrite .nil pass0 (pa_cons (pv 4) pa_nil)))
      (pss_cons (ps_set (i := 6) nd rfl (.inl rfl) (pe_call Ganswers hr (by rfl) ganswers Fanswers.kp banswers .nil pass0 (pa_cons (pv 2) (pa_cons (pv 5) pa_nil))))
      (pss_cons (ps_if (pt_not (pt_val (pe_call Gsame hr (by rfl) gsame Fsame.kp bsame .nil pass0 (pa_cons (pe_lc (own := [("place", 7)]) (g := gName 7) (tt := tYes) (te := (tCall ((spEx fun os ls qs => spLetterAt os ls qs 10)) [] E0 (tCons (tVar 4) (tCons (tVar 7) tNil)))) rfl nd (pi_range1 (by rfl) mrange (pa_cons (pe_op op_add (pe_callB call_len_seq (by rfl) mlen PySem.boot_len (pa_cons (pv 5) pa_nil)) pe_int) pa_nil)) (blkOk_by (own := [("place", 7)]) (N := nLaw) (sc := defScope sLaw) (by decide +kernel)) (fun _ _ _ _ _ => pg_name (i := 7) nd rfl (.inl rfl)) (fun _ _ _ _ _ => pts_nil) (fun _ _ _ _ _ => (pe_call Gletter_at hr (by rfl) gletter_at Fletter_at.kp bletter_at .nil pass0 (pa_cons (pv 4) (pa_cons (pv 7) pa_nil))))) (pa_cons (pe_op op_cat (pv 5) (pe_lst (pa_cons pe_non (pa_cons pe_non pa_nil)))) pa_nil))))) (pss_one (ps_never)) pss_nil)
      (pss_cons (ps_if (pt_not (pt_val (pe_call Gsame hr (by rfl) gsame Fsame.kp bsame .nil pass0 (pa_cons (pe_lc (own := [("place", 7)]) (g := gName 7) (tt := tYes) (te := (tCall ((spEx fun os ls qs => spAnswerAt os ls qs 10)) [] E0 (tCons (tVar 2) (tCons (tVar 4) (tCons (tVar 7) tNil))))) rfl nd (pi_range1 (by rfl) mrange (pa_cons (pe_op op_add (pe_callB call_len_seq (by rfl) mlen PySem.boot_len (pa_cons (pv 5) pa_nil)) pe_int) pa_nil)) (blkOk_by (own := [("place", 7)]) (N := nLaw) (sc := defScope sLaw) (by decide +kernel)) (fun _ _ _ _ _ => pg_name (i := 7) nd rfl (.inl rfl)) (fun _ _ _ _ _ => pts_nil) (fun _ _ _ _ _ => (pe_call Ganswer_at hr (by rfl) ganswer_at Fanswer_at.kp banswer_at .nil pass0 (pa_cons (pv 2) (pa_cons (pv 4) (pa_cons (pv 7) pa_nil)))))) (pa_cons (pe_op op_cat (pv 6) (pe_lst (pa_cons pe_non (pa_cons pe_non pa_nil)))) pa_nil))))) (pss_one (ps_never)) pss_nil)
      (pss_cons (ps_set (i := 8) nd rfl (.inr rfl) (pe_call Ggreat hr (by rfl) ggreat Fgreat.kp bgreat .nil pass0 (pa_cons (pv 1) (pa_cons (pv 2) (pa_cons pe_int (pa_cons pe_bl pa_nil))))))
      (pss_cons (ps_for PassesOwn.never rfl (pi_list (pe_call Gplaces hr (by rfl) gplaces Fplaces.kp bplaces .nil pass0 (pa_cons (pv 1) (pa_cons (pv 8) pa_nil)))) (pg_name (i := 7) nd rfl (.inl rfl)) (pss_one (ps_if (pt_not (pt_val (pe_call Gright hr (by rfl) gright Fright.kp bright .nil pass0 (pa_cons (pv 2) (pa_cons (pv 8) (pa_cons (pv 7) pa_nil)))))) (pss_one (ps_never)) pss_nil)))
      (pss_one (ps_if (pt_cmpR op_ne (pe_call Glength_of hr (by rfl) glength_of Flength_of.kp blength_of .nil pass0 (pa_cons (pv 8) pa_nil)) (pe_call Gsize hr (by rfl) gsize Fsize.kp bsize .nil pass0 (pa_cons (pv 8) pa_nil)) (nomark _)) (pss_one (ps_never)) pss_nil))))))))))
      (pss_cons (ps_set (i := 2) nd rfl (.inr rfl) (pe_call Gsheet hr (by rfl) gsheet Fsheet.kp bsheet .nil pass0 (pa_cons (pv 1) (pa_cons pe_int pa_nil))))
      (pss_cons (ps_for PassesOwn.never rfl (pi_list (pe_lst (pa_cons (pe_call Gwide_great hr (by rfl) gwide_great Fwide_great.kp bwide_great .nil pass0 (pa_cons (pv 1) (pa_cons (pv 2) pa_nil))) (pa_cons (pe_call Gten_deep hr (by rfl) gten_deep Ften_deep.kp bten_deep .nil pass0 (pa_cons (pv 1) (pa_cons (pv 2) pa_nil))) pa_nil)))) (pg_name (i := 8) nd rfl (.inr rfl)) (pss_one (ps_if (pt_cmpR op_in_seq pe_bl (pe_lc (own := [("place", 7)]) (g := gName 7) (tt := tYes) (te := (tCall ((spEx fun os ls qs => spRight os ls qs 10)) [] E0 (tCons (tVar 2) (tCons (tVar 8) (tCons (tVar 7) tNil))))) rfl nd (pi_list (pe_call Gplaces hr (by rfl) gplaces Fplaces.kp bplaces .nil pass0 (pa_cons (pv 1) (pa_cons (pv 8) pa_nil)))) (blkOk_by (own := [("place", 7)]) (N := nLaw) (sc := defScope sLaw) (by decide +kernel)) (fun _ _ _ _ _ => pg_name (i := 7) nd rfl (.inl rfl)) (fun _ _ _ _ _ => pts_nil) (fun _ _ _ _ _ => (pe_call Gright hr (by rfl) gright Fright.kp bright .nil pass0 (pa_cons (pv 2) (pa_cons (pv 8) (pa_cons (pv 7) pa_nil)))))) (by rfl)) (pss_one (ps_never)) pss_nil)))
      (pss_one (ps_ret pe_bl))))))), ?_⟩
    refine ⟨_, rfl, a, ns, rfl, hA, hns, fun p c ms H1 e1 hP1 np nc => ?_⟩
    refine ⟨_, rfl, p, c, ms, 2, rfl, by decide, by decide, hP1, fun os ls qs sh H2 hS hs2 kp2 hP2 => ?_⟩
    refine ⟨3, rfl, by decide, by decide, for_range (lo := 0) (n := 3) (fun i σ H' => (∃ y3 y4 y5 y6 y7 y8, σ = [some (.ref a), some (.ref p), some (.ref sh), y3, y4, y5, y6, y7, y8]) ∧ SheetAt H' sh os ls qs ∧ Pot p c ms H') ⟨⟨_, _, _, _, _, _, rfl⟩, hs2, hP2⟩ ?_ ?_⟩
    · rintro i σ H3 hi ⟨⟨y3, y4, y5, y6, y7, y8, rfl⟩, hs3, hP3⟩
      refine ⟨_, rfl, _, rfl, p, c, sh, ms, os, ls, qs, 2, false, rfl, by decide, hP3, hS, hs3, fun v W H4 hv hW kp4 hP4 => ?_⟩
      have hs4 := hs3.keep hP3 kp4
      have hW54 : W.length ≤ 54 := hW rfl
      have hv10 : GAt os ls qs H4 10 v W := hv.le (by decide)
      refine ⟨_, rfl, os, ls, qs, v, W, rfl, hv10, by decide, by omega, fun wl H5 nwl e5 hwl => ?_⟩
      refine ⟨_, rfl, _, rfl, sh, wl, os, ls, qs, W, rfl, hS, hs4.ex e5, sq_of hwl, GAt.letters _ _ _ hv10, by omega, fun tl H6 e6 ntl htl => ?_⟩
      have e46 := e5.trans e6
      have hw6 := e6 _ _ hwl
      dsimp only [gName]
      show tSeq _ _ _ [some (.ref a), some (.ref p), some (.ref sh), some (.int ((0 : Int) + (i : Int))), some v, some (.ref wl), some (.ref tl), y7, y8] H6
      have rng : ∀ (H7 : Hp) (z : Option V), Ex H6 H7 → EvA (tCons (tOp (rI0 fun i j => .int (i + j)) (tCB (rLenS K) (tCons (tVar 5) tNil)) (tC (.int 2))) tNil) [some (.ref a), some (.ref p), some (.ref sh), some (.int ((0 : Int) + (i : Int))), some v, some (.ref wl), some (.ref tl), z, y8] H7 [.int ((W.length : Int) + 2)] := fun H7 z e7 => ea_cons (ev_is (ev_op (ev_len (ev_var rfl) (sq_of (e7 _ _ hw6))) ev_c rv_I0) (by rw [List.length_map])) ea_nil
      have tn : ((W.length : Int) + 2).toNat = W.length + 2 := by omega
      have eq1 : given ((W.length : Int) + 2).toNat (fun _ => true) (fun i => sV W[i]?) = W.map V.str ++ [.non, .non] := by
        rw [tn]
        have := given2 (f := fun i => sV W[i]?) (xs := W.map V.str) (fun i hi => by
          rw [List.length_map] at hi
          show sV W[i]? = _
          rw [List.getElem?_eq_getElem hi, List.getElem_map]
          rfl) (by
          show sV W[(W.map V.str).length]? = _
          rw [List.getElem?_eq_none (by rw [List.length_map]; exact Nat.le_refl _)]
          rfl) (by
          show sV W[(W.map V.str).length + 1]? = _
          rw [List.getElem?_eq_none (by rw [List.length_map]; omega)]
          rfl)
        rw [List.length_map] at this
        exact this
      have hal := ansOf_len' os qs W
      have eq2 : given ((W.length : Int) + 2).toNat (fun _ => true) (fun i => oV (tv (ansOf os qs W) i)) = (ansOf os qs W).map oV ++ [.non, .non] := by
        rw [tn]
        have := given2 (f := fun i => oV (tv (ansOf os qs W) i)) (xs := (ansOf os qs W).map oV) (fun i hi => by
          rw [List.length_map] at hi
          rw [List.getElem_map]
          show oV (tv (ansOf os qs W) i) = _
          have := tv_get hi
          rw [List.getElem?_eq_getElem hi] at this
          rw [← Option.some.inj this]) (by
          show oV (tv (ansOf os qs W) ((ansOf os qs W).map oV).length) = _
          rw [ans_out (by rw [List.length_map, hal]; exact Nat.le_refl _)]
          rfl) (by
          show oV (tv (ansOf os qs W) (((ansOf os qs W).map oV).length + 1)) = _
          rw [ans_out (by rw [List.length_map, hal]; omega)]
          rfl)
        rw [List.length_map, hal] at this
        exact this
      have lc1 : EvL (tLc (iRng1 (tCons (tOp (rI0 fun i j => .int (i + j)) (tCB (rLenS K) (tCons (tVar 5) tNil)) (tC (.int 2))) tNil)) (gName 7) tYes (tCall (spEx fun os ls qs => spLetterAt os ls qs 10) [] E0 (tCons (tVar 4) (tCons (tVar 7) tNil))) [7]) [some (.ref a), some (.ref p), some (.ref sh), some (.int ((0 : Int) + (i : Int))), some v, some (.ref wl), some (.ref tl), y7, y8] H6 (given ((W.length : Int) + 2).toNat (fun _ => true) (fun i => sV W[i]?)) := el_lcR1 (fun _ => true) (fun i => sV W[i]?) (rng H6 y7 (Ex.refl _)) ⟨by omega, by omega⟩ (fun x => rfl) (fun i H8 e8 hi => ev_yes) (fun i H8 e8 hi _ => ev_call (ea_cons (ev_var rfl) (ea_cons (ev_var rfl) ea_nil)) fun H9 e9 Q9 q9 E => ⟨os, ls, qs, v, W, i, rfl, hv10.ex ((e46.trans e8).trans e9), by decide, fun H10 e10 => q9 H10 e10⟩)
      have lc2 : EvL (tLc (iRng1 (tCons (tOp (rI0 fun i j => .int (i + j)) (tCB (rLenS K) (tCons (tVar 5) tNil)) (tC (.int 2))) tNil)) (gName 7) tYes (tCall (spEx fun os ls qs => spAnswerAt os ls qs 10) [] E0 (tCons (tVar 2) (tCons (tVar 4) (tCons (tVar 7) tNil)))) [7]) [some (.ref a), some (.ref p), some (.ref sh), some (.int ((0 : Int) + (i : Int))), some v, some (.ref wl), some (.ref tl), y7, y8] H6 (given ((W.length : Int) + 2).toNat (fun _ => true) (fun i => oV (tv (ansOf os qs W) i))) := el_lcR1 (fun _ => true) (fun i => oV (tv (ansOf os qs W) i)) (rng H6 y7 (Ex.refl _)) ⟨by omega, by omega⟩ (fun x => rfl) (fun i H9 e9 hi => ev_yes) (fun i H9 e9 hi _ => ev_call (ea_cons (ev_var rfl) (ea_cons (ev_var rfl) (ea_cons (ev_var rfl) ea_nil))) fun H10 e10 Q10 q10 E => ⟨os, ls, qs, sh, v, W, i, rfl, hS, hs4.ex ((e46.trans e9).trans e10), hv10.ex ((e46.trans e9).trans e10), by decide, fun H11 e11 => q10 H11 e11⟩)
      have ct1 : EvL (tOp rCat (tVar 5) (tLst (tCons (tC .non) (tCons (tC .non) tNil)))) [some (.ref a), some (.ref p), some (.ref sh), some (.int ((0 : Int) + (i : Int))), some v, some (.ref wl), some (.ref tl), y7, y8] H6 (W.map V.str ++ [.non, .non]) := el_Vcat (ev_var rfl) hw6 (el_lst (ea_cons ev_c (ea_cons ev_c ea_nil)) (by show 2 ≤ 100000; decide)) (by rw [List.length_map]; show _ + 2 ≤ _; omega)
      have ct2 : EvL (tOp rCat (tVar 6) (tLst (tCons (tC .non) (tCons (tC .non) tNil)))) [some (.ref a), some (.ref p), some (.ref sh), some (.int ((0 : Int) + (i : Int))), some v, some (.ref wl), some (.ref tl), y7, y8] H6 ((ansOf os qs W).map oV ++ [.non, .non]) := el_Vcat (ev_var rfl) htl (el_lst (ea_cons ev_c (ea_cons ev_c ea_nil)) (by show 2 ≤ 100000; decide)) (by rw [List.length_map, hal]; show _ + 2 ≤ _; omega)
      rw [eq1] at lc1
      rw [eq2] at lc2
      have at1 : (W.map V.str ++ [V.non, V.non]).all atom = true := by
        rw [List.all_append, Bool.and_eq_true]
        refine ⟨?_, rfl⟩
        rw [List.all_eq_true]
        intro y hy
        obtain ⟨w, _, rfl⟩ := List.mem_map.mp hy
        rfl
      have at2 : ((ansOf os qs W).map oV ++ [V.non, V.non]).all atom = true := by
        rw [List.all_append, Bool.and_eq_true]
        refine ⟨?_, rfl⟩
        rw [List.all_eq_true]
        intro y hy
        obtain ⟨w, _, rfl⟩ := List.mem_map.mp hy
        exact atom_oV w
      refine q_when (b := false) (et_is (et_not (et_B (b := true) (ev_callLL lc1 ct1 fun x1 x2 H9 e9 hx1 hx2 Q9 q9 E => ⟨x1, x2, _, rfl, hx1, hx2, at1, by rw [List.length_append, List.length_map]; show _ + 2 ≤ _; omega, fun H10 e10 => q9 H10 e10⟩))) rfl) (fun h => nomatch h) fun _ H7 e7 => ?_
      refine q_when (b := false) (et_is (et_not (et_B (b := true) (ev_callLL (lc2.mono e7) (ct2.mono e7) fun x1 x2 H9 e9 hx1 hx2 Q9 q9 E => ⟨x1, x2, _, rfl, hx1, hx2, at2, by rw [List.length_append, List.length_map, hal]; show _ + 2 ≤ _; omega, fun H10 e10 => q9 H10 e10⟩))) rfl) (fun h => nomatch h) fun _ H8 e8 => ?_
      have e47 := e46.trans e7
      have e48 := e47.trans e8
      have hP8 := hP4.ex e48
      have hs8 := hs4.ex e48
      refine ⟨_, rfl, _, rfl, p, c, sh, ms, os, ls, qs, 3, true, rfl, by decide, hP8, hS, hs8, fun g G H9 hg _ kp9 hP9 => ?_⟩
      have hs9 := hs8.keep hP8 kp9
      have hg10 : GAt os ls qs H9 10 g G := hg.le (by decide)
      dsimp only [gName]
      show tSeq _ _ _ [some (.ref a), some (.ref p), some (.ref sh), some (.int ((0 : Int) + (i : Int))), some v, some (.ref wl), some (.ref tl), y7, some g] H9
      refine ⟨_, rfl, _, rfl, os, ls, qs, p, c, ms, g, G, rfl, hP9, hS, hg10, by decide, fun l pls H10 hlen hl10 kp10 hP10 lp => ⟨l, rfl, ⟨_, sq_of hl10⟩, for_list (xs := pls.map nV) (fun i' σ H' => (∃ y7, σ = [some (.ref a), some (.ref p), some (.ref sh), some (.int ((0 : Int) + (i : Int))), some v, some (.ref wl), some (.ref tl), y7, some g]) ∧ Ex H10 H') ⟨⟨_, rfl⟩, Ex.refl _⟩ (fun i' σ H' _ hh => sq_of (hh.2 _ _ hl10)) ?_ ?_⟩⟩
      · rintro i' x σ H' hi' ⟨⟨z7, rfl⟩, eH⟩
        obtain ⟨pl, rfl⟩ : ∃ pl : Nat, x = nV pl := by
          rw [List.getElem?_map] at hi'
          cases e : pls[i']? with
          | none => rw [e] at hi'; cases hi'
          | some z => rw [e] at hi'; exact ⟨z, (Option.some.inj hi').symm⟩
        have hgH := (hg10.kp hP9 kp10).ex eH
        have hsH := (hs9.keep hP9 kp10).ex eH
        exact s_when (b := false) (et_is (et_not (et_B (b := true) (ev_call (ea_cons (ev_var rfl) (ea_cons (ev_var rfl) (ea_cons (ev_var rfl) ea_nil))) fun H11 e11 Q11 q11 E => ⟨os, ls, qs, sh, g, G, pl, rfl, hS, hsH.ex e11, hgH.ex e11, by decide, fun H12 e12 => q11 H12 e12⟩))) rfl) (fun h => nomatch h) fun _ H11 e11 => ⟨⟨_, rfl⟩, eH.trans e11⟩
      · rintro σ H' ⟨⟨z7, rfl⟩, eH⟩
        have hgH := (hg10.kp hP9 kp10).ex eH
        refine s_when (b := false) (et_is (et_test (ev_op (ev_call (ea_cons (ev_var rfl) ea_nil) fun H11 e11 Q11 q11 E => ⟨os, ls, qs, g, G, rfl, hgH.ex e11, by decide, fun H12 e12 => q11 H12 e12⟩) (ev_call (ea_cons (ev_var rfl) ea_nil) fun H11 e11 Q11 q11 E => ⟨os, ls, qs, g, G, rfl, hgH.ex e11, by decide, fun H12 e12 => q11 H12 e12⟩) (rv_ne rfl))) (by rw [decide_eq_true rfl]; rfl)) (fun h => nomatch h) fun _ H11 e11 => ⟨⟨_, _, _, _, _, _, rfl⟩, ((hs9.keep hP9 kp10).ex eH).ex e11, (hP10.ex eH).ex e11⟩
    · rintro σ H3 ⟨⟨y3, y4, y5, y6, y7, y8, rfl⟩, hs3, hP3⟩
      refine ⟨_, rfl, p, c, ms, 4, rfl, by decide, by decide, hP3, fun os ls qs sh H2 hS hs2 kp2 hP2 => ?_⟩
      refine ⟨_, rfl, _, rfl, p, c, sh, ms, os, ls, qs, rfl, hP2, hS, hs2, fun v1 W1 H4 g1 kp4 hP4 => ⟨_, rfl, _, rfl, p, c, sh, ms, os, ls, qs, rfl, hP4, hS, hs2.keep hP2 kp4, fun v2 W2 H5 g2 kp5 hP5 => ⟨by show 2 ≤ sizeLine; decide, fun l nl => ?_⟩⟩⟩
      have e6 := Ex.new (o := .lst [v1, v2]) nl
      have hl6 : (upd H5 l (.lst [v1, v2])) l = some (.lst [v1, v2]) := upd_same
      have hs6 := ((hs2.keep hP2 kp4).keep hP4 kp5).ex e6
      have hP6 := hP5.ex e6
      have g16 : GAt os ls qs (upd H5 l (.lst [v1, v2])) 10 v1 W1 := ((g1.kp hP4 kp5).ex e6).le (by decide)
      have g26 : GAt os ls qs (upd H5 l (.lst [v1, v2])) 10 v2 W2 := g2.ex e6
      have lp := (hP5.ne_new nl).1.symm
      generalize upd H5 l (.lst [v1, v2]) = H6 at hl6 hs6 hP6 g16 g26
      have gs : ∀ (i : Nat) x, [v1, v2][i]? = some x → ∃ W, GAt os ls qs H6 10 x W := fun i x h => by
        match i with
        | 0 => exact ⟨W1, by rw [← Option.some.inj h]; exact g16⟩
        | 1 => exact ⟨W2, by rw [← Option.some.inj h]; exact g26⟩
        | i + 2 => cases h
      refine ⟨l, rfl, ⟨_, sq_of hl6⟩, for_list (xs := [v1, v2]) (fun i σ H' => (∃ y7 y8, σ = [some (.ref a), some (.ref p), some (.ref sh), y3, y4, y5, y6, y7, y8]) ∧ Keep p H6 H' ∧ Pot p c ms H') ⟨⟨_, _, rfl⟩, Keep.refl _ _, hP6⟩ (fun i σ H' _ hh => sq_of (hh.2.1 _ _ lp hl6)) ?_ ?_⟩
      · rintro i g σ H7 hi ⟨⟨z7, z8, rfl⟩, kp7, hP7⟩
        obtain ⟨G, hg⟩ := gs i g hi
        have hg7 := hg.kp hP6 kp7
        have hs7 := hs6.keep hP6 kp7
        refine ⟨_, rfl, _, rfl, os, ls, qs, p, c, ms, g, G, rfl, hP7, hS, hg7, by decide, fun l8 pls H8 hlen hl8 kp8 hP8 lp8 => ⟨l8, rfl, ⟨_, sq_of hl8⟩, fun D nD => ?_⟩⟩
        have hg8 := hg7.kp hP7 kp8
        have hs8 := hs7.keep hP7 kp8
        refine lc_list (xs := pls.map nV) (fun j H' => Ex H8 H' ∧ H' D = some (.lst (List.replicate j (V.bl true)))) ⟨Ex.new nD, upd_same⟩ (fun j H' _ hh => sq_of (hh.1 _ _ hl8)) ?_ ?_
        · rintro j x H' hj ⟨eH, hD⟩
          have hjl := (List.getElem?_eq_some_iff.mp hj).1
          rw [List.length_map] at hjl
          obtain ⟨pl, rfl⟩ : ∃ pl : Nat, x = nV pl := by
            rw [List.getElem?_map] at hj
            cases e : pls[j]? with
            | none => rw [e] at hj; cases hj
            | some z => rw [e] at hj; exact ⟨z, (Option.some.inj hj).symm⟩
          refine ⟨rfl, yesT ⟨_, rfl, _, rfl, _, rfl, os, ls, qs, sh, g, G, pl, rfl, hS, hs8.ex eH, hg8.ex eH, by decide, fun H9 e9 => ⟨_, e9 _ _ hD, ?_, (eH.trans e9).mut nD, ?_⟩⟩⟩
          · rw [List.length_replicate]
            exact sz_lt (by omega)
          · rw [upd_same, List.replicate_succ']
        · rintro H' ⟨eH, hD⟩
          refine ⟨D, _, rfl, .inl (sq_of hD), rfl, flat_yes _, ?_⟩
          rw [inV_yes]
          exact ⟨_, rfl, iteF ⟨⟨_, _, rfl⟩, kp7.trans (kp8.trans (Keep.ofEx eH)), hP8.ex eH⟩⟩
      · rintro σ H7 ⟨⟨z7, z8, rfl⟩, kp7, hP7⟩
        exact q _
end
end Eh
set_option Elab.async false
set_option linter.all false
set_option maxRecDepth 100000
set_option maxHeartbeats 4000000
namespace Eh
open PySem PySem.Spec PyProof.Rows L2 Evl NdefX
theorem all_mk {l : PySem.W.OpenLaw} {w : World} {K : PySem.W.Frag} {h : Heap} {mg : Str → Option Value} {fa f0 f1 f2 f3 f4 f5 f6 f7 f8 f9 f10 f11 f12 f13 f14 f15 f16 f17 f18 f19 f20 f21 f22 f23 f24 f25 f26 f27 f28 : Addr} (X : K.In h) (G : h.Ns mainGlobals mg) (hfa : mg "law" = some (.ref fa))
    {od0 an0 : Option Addr} {sl0 : Array (Option Value)} {oc0 kV0 dc0 pm0 cd0 ct0 : Value}
    {od1 an1 : Option Addr} {sl1 : Array (Option Value)} {oc1 kV1 dc1 pm1 cd1 ct1 : Value}
    {od2 an2 : Option Addr} {sl2 : Array (Option Value)} {oc2 kV2 dc2 pm2 cd2 ct2 : Value}
    {od3 an3 : Option Addr} {sl3 : Array (Option Value)} {oc3 kV3 dc3 pm3 cd3 ct3 : Value}
    {od4 an4 : Option Addr} {sl4 : Array (Option Value)} {oc4 kV4 dc4 pm4 cd4 ct4 : Value}
    {od5 an5 : Option Addr} {sl5 : Array (Option Value)} {oc5 kV5 dc5 pm5 cd5 ct5 : Value}
    {od6 an6 : Option Addr} {sl6 : Array (Option Value)} {oc6 kV6 dc6 pm6 cd6 ct6 : Value}
    {od7 an7 : Option Addr} {sl7 : Array (Option Value)} {oc7 kV7 dc7 pm7 cd7 ct7 : Value}
    {od8 an8 : Option Addr} {sl8 : Array (Option Value)} {oc8 kV8 dc8 pm8 cd8 ct8 : Value}
    {od9 an9 : Option Addr} {sl9 : Array (Option Value)} {oc9 kV9 dc9 pm9 cd9 ct9 : Value}
    {od10 an10 : Option Addr} {sl10 : Array (Option Value)} {oc10 kV10 dc10 pm10 cd10 ct10 : Value}
    {od11 an11 : Option Addr} {sl11 : Array (Option Value)} {oc11 kV11 dc11 pm11 cd11 ct11 : Value}
    {od12 an12 : Option Addr} {sl12 : Array (Option Value)} {oc12 kV12 dc12 pm12 cd12 ct12 : Value}
    {od13 an13 : Option Addr} {sl13 : Array (Option Value)} {oc13 kV13 dc13 pm13 cd13 ct13 : Value}
    {od14 an14 : Option Addr} {sl14 : Array (Option Value)} {oc14 kV14 dc14 pm14 cd14 ct14 : Value}
    {od15 an15 : Option Addr} {sl15 : Array (Option Value)} {oc15 kV15 dc15 pm15 cd15 ct15 : Value}
    {od16 an16 : Option Addr} {sl16 : Array (Option Value)} {oc16 kV16 dc16 pm16 cd16 ct16 : Value}
    {od17 an17 : Option Addr} {sl17 : Array (Option Value)} {oc17 kV17 dc17 pm17 cd17 ct17 : Value}
    {od18 an18 : Option Addr} {sl18 : Array (Option Value)} {oc18 kV18 dc18 pm18 cd18 ct18 : Value}
    {od19 an19 : Option Addr} {sl19 : Array (Option Value)} {oc19 kV19 dc19 pm19 cd19 ct19 : Value}
    {od20 an20 : Option Addr} {sl20 : Array (Option Value)} {oc20 kV20 dc20 pm20 cd20 ct20 : Value}
    {od21 an21 : Option Addr} {sl21 : Array (Option Value)} {oc21 kV21 dc21 pm21 cd21 ct21 : Value}
    {od22 an22 : Option Addr} {sl22 : Array (Option Value)} {oc22 kV22 dc22 pm22 cd22 ct22 : Value}
    {od23 an23 : Option Addr} {sl23 : Array (Option Value)} {oc23 kV23 dc23 pm23 cd23 ct23 : Value}
    {od24 an24 : Option Addr} {sl24 : Array (Option Value)} {oc24 kV24 dc24 pm24 cd24 ct24 : Value}
    {od25 an25 : Option Addr} {sl25 : Array (Option Value)} {oc25 kV25 dc25 pm25 cd25 ct25 : Value}
    {od26 an26 : Option Addr} {sl26 : Array (Option Value)} {oc26 kV26 dc26 pm26 cd26 ct26 : Value}
    {od27 an27 : Option Addr} {sl27 : Array (Option Value)} {oc27 kV27 dc27 pm27 cd27 ct27 : Value}
    {od28 an28 : Option Addr} {sl28 : Array (Option Value)} {oc28 kV28 dc28 pm28 cd28 ct28 : Value}
    (a0 : PySem.W.nsIn K mainGlobals "order_of" = some (some (.ref f0)))
    (l0 : K.lookup f0 = some ⟨oc0, od0, .func (PySem.W.fnOf "order_of" "order_of" (defArgs sOrderOf) (defBody sOrderOf) (defScope sOrderOf) .none kV0 dc0 pm0 an0 cd0 ct0), sl0⟩)
    (c0 : PySem.W.codeIn K cd0 "order_of" = true)
    (k0 : PySem.W.keepIn K (.ref f0) = true)
    (a1 : PySem.W.nsIn K mainGlobals "need_word" = some (some (.ref f1)))
    (l1 : K.lookup f1 = some ⟨oc1, od1, .func (PySem.W.fnOf "need_word" "need_word" (defArgs sNeedWord) (defBody sNeedWord) (defScope sNeedWord) .none kV1 dc1 pm1 an1 cd1 ct1), sl1⟩)
    (c1 : PySem.W.codeIn K cd1 "need_word" = true)
    (k1 : PySem.W.keepIn K (.ref f1) = true)
    (a2 : PySem.W.nsIn K mainGlobals "answers" = some (some (.ref f2)))
    (l2 : K.lookup f2 = some ⟨oc2, od2, .func (PySem.W.fnOf "answers" "answers" (defArgs sAnswers) (defBody sAnswers) (defScope sAnswers) .none kV2 dc2 pm2 an2 cd2 ct2), sl2⟩)
    (c2 : PySem.W.codeIn K cd2 "answers" = true)
    (k2 : PySem.W.keepIn K (.ref f2) = true)
    (a3 : PySem.W.nsIn K mainGlobals "parts_in" = some (some (.ref f3)))
    (l3 : K.lookup f3 = some ⟨oc3, od3, .func (PySem.W.fnOf "parts_in" "parts_in" (defArgs sPartsIn) (defBody sPartsIn) (defScope sPartsIn) .none kV3 dc3 pm3 an3 cd3 ct3), sl3⟩)
    (c3 : PySem.W.codeIn K cd3 "parts_in" = true)
    (k3 : PySem.W.keepIn K (.ref f3) = true)
    (a4 : PySem.W.nsIn K mainGlobals "length_of" = some (some (.ref f4)))
    (l4 : K.lookup f4 = some ⟨oc4, od4, .func (PySem.W.fnOf "length_of" "length_of" (defArgs sLengthOf) (defBody sLengthOf) (defScope sLengthOf) .none kV4 dc4 pm4 an4 cd4 ct4), sl4⟩)
    (c4 : PySem.W.codeIn K cd4 "length_of" = true)
    (k4 : PySem.W.keepIn K (.ref f4) = true)
    (a5 : PySem.W.nsIn K mainGlobals "part_at" = some (some (.ref f5)))
    (l5 : K.lookup f5 = some ⟨oc5, od5, .func (PySem.W.fnOf "part_at" "part_at" (defArgs sPartAt) (defBody sPartAt) (defScope sPartAt) .none kV5 dc5 pm5 an5 cd5 ct5), sl5⟩)
    (c5 : PySem.W.codeIn K cd5 "part_at" = true)
    (k5 : PySem.W.keepIn K (.ref f5) = true)
    (a6 : PySem.W.nsIn K mainGlobals "is_own" = some (some (.ref f6)))
    (l6 : K.lookup f6 = some ⟨oc6, od6, .func (PySem.W.fnOf "is_own" "is_own" (defArgs sIsOwn) (defBody sIsOwn) (defScope sIsOwn) .none kV6 dc6 pm6 an6 cd6 ct6), sl6⟩)
    (c6 : PySem.W.codeIn K cd6 "is_own" = true)
    (k6 : PySem.W.keepIn K (.ref f6) = true)
    (a7 : PySem.W.nsIn K mainGlobals "stepped_in" = some (some (.ref f7)))
    (l7 : K.lookup f7 = some ⟨oc7, od7, .func (PySem.W.fnOf "stepped_in" "stepped_in" (defArgs sSteppedIn) (defBody sSteppedIn) (defScope sSteppedIn) .none kV7 dc7 pm7 an7 cd7 ct7), sl7⟩)
    (c7 : PySem.W.codeIn K cd7 "stepped_in" = true)
    (k7 : PySem.W.keepIn K (.ref f7) = true)
    (a8 : PySem.W.nsIn K mainGlobals "is_place" = some (some (.ref f8)))
    (l8 : K.lookup f8 = some ⟨oc8, od8, .func (PySem.W.fnOf "is_place" "is_place" (defArgs sIsPlace) (defBody sIsPlace) (defScope sIsPlace) .none kV8 dc8 pm8 an8 cd8 ct8), sl8⟩)
    (c8 : PySem.W.codeIn K cd8 "is_place" = true)
    (k8 : PySem.W.keepIn K (.ref f8) = true)
    (a9 : PySem.W.nsIn K mainGlobals "letter_at" = some (some (.ref f9)))
    (l9 : K.lookup f9 = some ⟨oc9, od9, .func (PySem.W.fnOf "letter_at" "letter_at" (defArgs sLetterAt) (defBody sLetterAt) (defScope sLetterAt) .none kV9 dc9 pm9 an9 cd9 ct9), sl9⟩)
    (c9 : PySem.W.codeIn K cd9 "letter_at" = true)
    (k9 : PySem.W.keepIn K (.ref f9) = true)
    (a10 : PySem.W.nsIn K mainGlobals "answer_at" = some (some (.ref f10)))
    (l10 : K.lookup f10 = some ⟨oc10, od10, .func (PySem.W.fnOf "answer_at" "answer_at" (defArgs sAnswerAt) (defBody sAnswerAt) (defScope sAnswerAt) .none kV10 dc10 pm10 an10 cd10 ct10), sl10⟩)
    (c10 : PySem.W.codeIn K cd10 "answer_at" = true)
    (k10 : PySem.W.keepIn K (.ref f10) = true)
    (a11 : PySem.W.nsIn K mainGlobals "_law_blend" = some (some (.ref f11)))
    (l11 : K.lookup f11 = some ⟨oc11, od11, .func (PySem.W.fnOf "_law_blend" "_law_blend" (defArgs sBlend) (defBody sBlend) (defScope sBlend) .none kV11 dc11 pm11 an11 cd11 ct11), sl11⟩)
    (c11 : PySem.W.codeIn K cd11 "_law_blend" = true)
    (k11 : PySem.W.keepIn K (.ref f11) = true)
    (a12 : PySem.W.nsIn K mainGlobals "_law_pot" = some (some (.ref f12)))
    (l12 : K.lookup f12 = some ⟨oc12, od12, .func (PySem.W.fnOf "_law_pot" "_law_pot" (defArgs sPot) (defBody sPot) (defScope sPot) .none kV12 dc12 pm12 an12 cd12 ct12), sl12⟩)
    (c12 : PySem.W.codeIn K cd12 "_law_pot" = true)
    (k12 : PySem.W.keepIn K (.ref f12) = true)
    (a13 : PySem.W.nsIn K mainGlobals "_law_pick" = some (some (.ref f13)))
    (l13 : K.lookup f13 = some ⟨oc13, od13, .func (PySem.W.fnOf "_law_pick" "_law_pick" (defArgs sPick) (defBody sPick) (defScope sPick) .none kV13 dc13 pm13 an13 cd13 ct13), sl13⟩)
    (c13 : PySem.W.codeIn K cd13 "_law_pick" = true)
    (k13 : PySem.W.keepIn K (.ref f13) = true)
    (a14 : PySem.W.nsIn K mainGlobals "_law_letters" = some (some (.ref f14)))
    (l14 : K.lookup f14 = some ⟨oc14, od14, .func (PySem.W.fnOf "_law_letters" "_law_letters" (defArgs sLetters) (defBody sLetters) (defScope sLetters) .none kV14 dc14 pm14 an14 cd14 ct14), sl14⟩)
    (c14 : PySem.W.codeIn K cd14 "_law_letters" = true)
    (k14 : PySem.W.keepIn K (.ref f14) = true)
    (a15 : PySem.W.nsIn K mainGlobals "_law_sheet" = some (some (.ref f15)))
    (l15 : K.lookup f15 = some ⟨oc15, od15, .func (PySem.W.fnOf "_law_sheet" "_law_sheet" (defArgs sSheet) (defBody sSheet) (defScope sSheet) .none kV15 dc15 pm15 an15 cd15 ct15), sl15⟩)
    (c15 : PySem.W.codeIn K cd15 "_law_sheet" = true)
    (k15 : PySem.W.keepIn K (.ref f15) = true)
    (a16 : PySem.W.nsIn K mainGlobals "_law_shut" = some (some (.ref f16)))
    (l16 : K.lookup f16 = some ⟨oc16, od16, .func (PySem.W.fnOf "_law_shut" "_law_shut" (defArgs sShut) (defBody sShut) (defScope sShut) .none kV16 dc16 pm16 an16 cd16 ct16), sl16⟩)
    (c16 : PySem.W.codeIn K cd16 "_law_shut" = true)
    (k16 : PySem.W.keepIn K (.ref f16) = true)
    (a17 : PySem.W.nsIn K mainGlobals "_law_answers" = some (some (.ref f17)))
    (l17 : K.lookup f17 = some ⟨oc17, od17, .func (PySem.W.fnOf "_law_answers" "_law_answers" (defArgs sAns) (defBody sAns) (defScope sAns) .none kV17 dc17 pm17 an17 cd17 ct17), sl17⟩)
    (c17 : PySem.W.codeIn K cd17 "_law_answers" = true)
    (k17 : PySem.W.keepIn K (.ref f17) = true)
    (a18 : PySem.W.nsIn K mainGlobals "_law_same" = some (some (.ref f18)))
    (l18 : K.lookup f18 = some ⟨oc18, od18, .func (PySem.W.fnOf "_law_same" "_law_same" (defArgs sSame) (defBody sSame) (defScope sSame) .none kV18 dc18 pm18 an18 cd18 ct18), sl18⟩)
    (c18 : PySem.W.codeIn K cd18 "_law_same" = true)
    (k18 : PySem.W.keepIn K (.ref f18) = true)
    (a19 : PySem.W.nsIn K mainGlobals "_law_count" = some (some (.ref f19)))
    (l19 : K.lookup f19 = some ⟨oc19, od19, .func (PySem.W.fnOf "_law_count" "_law_count" (defArgs sLawCount) (defBody sLawCount) (defScope sLawCount) .none kV19 dc19 pm19 an19 cd19 ct19), sl19⟩)
    (c19 : PySem.W.codeIn K cd19 "_law_count" = true)
    (k19 : PySem.W.keepIn K (.ref f19) = true)
    (a20 : PySem.W.nsIn K mainGlobals "_law_great" = some (some (.ref f20)))
    (l20 : K.lookup f20 = some ⟨oc20, od20, .func (PySem.W.fnOf "_law_great" "_law_great" (defArgs sLawGreat) (defBody sLawGreat) (defScope sLawGreat) .none kV20 dc20 pm20 an20 cd20 ct20), sl20⟩)
    (c20 : PySem.W.codeIn K cd20 "_law_great" = true)
    (k20 : PySem.W.keepIn K (.ref f20) = true)
    (a21 : PySem.W.nsIn K mainGlobals "_law_size" = some (some (.ref f21)))
    (l21 : K.lookup f21 = some ⟨oc21, od21, .func (PySem.W.fnOf "_law_size" "_law_size" (defArgs sSize) (defBody sSize) (defScope sSize) .none kV21 dc21 pm21 an21 cd21 ct21), sl21⟩)
    (c21 : PySem.W.codeIn K cd21 "_law_size" = true)
    (k21 : PySem.W.keepIn K (.ref f21) = true)
    (a22 : PySem.W.nsIn K mainGlobals "_law_write" = some (some (.ref f22)))
    (l22 : K.lookup f22 = some ⟨oc22, od22, .func (PySem.W.fnOf "_law_write" "_law_write" (defArgs sLawWrite) (defBody sLawWrite) (defScope sLawWrite) .none kV22 dc22 pm22 an22 cd22 ct22), sl22⟩)
    (c22 : PySem.W.codeIn K cd22 "_law_write" = true)
    (k22 : PySem.W.keepIn K (.ref f22) = true)
    (a23 : PySem.W.nsIn K mainGlobals "_law_wide_great" = some (some (.ref f23)))
    (l23 : K.lookup f23 = some ⟨oc23, od23, .func (PySem.W.fnOf "_law_wide_great" "_law_wide_great" (defArgs sLawWideGreat) (defBody sLawWideGreat) (defScope sLawWideGreat) .none kV23 dc23 pm23 an23 cd23 ct23), sl23⟩)
    (c23 : PySem.W.codeIn K cd23 "_law_wide_great" = true)
    (k23 : PySem.W.keepIn K (.ref f23) = true)
    (a24 : PySem.W.nsIn K mainGlobals "_law_ten_deep" = some (some (.ref f24)))
    (l24 : K.lookup f24 = some ⟨oc24, od24, .func (PySem.W.fnOf "_law_ten_deep" "_law_ten_deep" (defArgs sLawTenDeep) (defBody sLawTenDeep) (defScope sLawTenDeep) .none kV24 dc24 pm24 an24 cd24 ct24), sl24⟩)
    (c24 : PySem.W.codeIn K cd24 "_law_ten_deep" = true)
    (k24 : PySem.W.keepIn K (.ref f24) = true)
    (a25 : PySem.W.nsIn K mainGlobals "_law_found" = some (some (.ref f25)))
    (l25 : K.lookup f25 = some ⟨oc25, od25, .func (PySem.W.fnOf "_law_found" "_law_found" (defArgs sLawFound) (defBody sLawFound) (defScope sLawFound) .none kV25 dc25 pm25 an25 cd25 ct25), sl25⟩)
    (c25 : PySem.W.codeIn K cd25 "_law_found" = true)
    (k25 : PySem.W.keepIn K (.ref f25) = true)
    (a26 : PySem.W.nsIn K mainGlobals "_law_places" = some (some (.ref f26)))
    (l26 : K.lookup f26 = some ⟨oc26, od26, .func (PySem.W.fnOf "_law_places" "_law_places" (defArgs sLawPlaces) (defBody sLawPlaces) (defScope sLawPlaces) .none kV26 dc26 pm26 an26 cd26 ct26), sl26⟩)
    (c26 : PySem.W.codeIn K cd26 "_law_places" = true)
    (k26 : PySem.W.keepIn K (.ref f26) = true)
    (a27 : PySem.W.nsIn K mainGlobals "_law_right" = some (some (.ref f27)))
    (l27 : K.lookup f27 = some ⟨oc27, od27, .func (PySem.W.fnOf "_law_right" "_law_right" (defArgs sLawRight) (defBody sLawRight) (defScope sLawRight) .none kV27 dc27 pm27 an27 cd27 ct27), sl27⟩)
    (c27 : PySem.W.codeIn K cd27 "_law_right" = true)
    (k27 : PySem.W.keepIn K (.ref f27) = true)
    (a28 : PySem.W.nsIn K mainGlobals "law" = some (some (.ref f28)))
    (l28 : K.lookup f28 = some ⟨oc28, od28, .func (PySem.W.fnOf "law" "law" (defArgs sLaw) (defBody sLaw) (defScope sLaw) .none kV28 dc28 pm28 an28 cd28 ct28), sl28⟩)
    (c28 : PySem.W.codeIn K cd28 "law" = true)
    (k28 : PySem.W.keepIn K (.ref f28) = true)
    (z0 : PySem.W.nsIn K mainGlobals "len" = some none)
    (z1 : PySem.W.nsIn K mainGlobals "list" = some none)
    (z2 : PySem.W.nsIn K mainGlobals "enumerate" = some none)
    (z3 : PySem.W.nsIn K mainGlobals "range" = some none)
    (z4 : PySem.W.nsIn K mainGlobals "min" = some none)
    (z5 : PySem.W.nsIn K mainGlobals "max" = some none)
    (z6 : PySem.W.nsIn K mainGlobals "tuple" = some none)
    (z7 : PySem.W.nsIn K mainGlobals "isinstance" = some none)
    (z8 : PySem.W.nsIn K mainGlobals "int" = some none)
    (z9 : PySem.W.nsIn K mainGlobals "bool" = some none)
    (z10 : PySem.W.nsIn K mainGlobals "str" = some none)
    (z11 : PySem.W.nsIn K mainGlobals "all" = some none)
    (z12 : PySem.W.nsIn K mainGlobals "zip" = some none)
    (z13 : PySem.W.nsIn K mainGlobals "sum" = some none)
    : ∃ fd : FuncData, (∀ (s : Shared) (v : Value), BindsTo s fd ⟨[v], []⟩ [("script", v)]) ∧ ∀ base : Heap, K.In base → base.Ns mainGlobals mg → FnOk l.prog w K mg base CX0 31 fa fd ["script"] (spLaw K) := by
  have e := hfa.symm.trans (PySem.W.mg_of X G a28)
  cases e
  have F0 := fun_mk (st := sOrderOf) l0 c0 k0
  have g0 := PySem.W.mg_of X G a0
  have b0 := F0.binds (ps := ["sheet"]) fun _ _ _ _ _ _ us hl => match us, hl with | [_], _ => rfl
  have F1 := fun_mk (st := sNeedWord) l1 c1 k1
  have g1 := PySem.W.mg_of X G a1
  have b1 := F1.binds (ps := ["sheet", "word"]) fun _ _ _ _ _ _ us hl => match us, hl with | [_, _], _ => rfl
  have F2 := fun_mk (st := sAnswers) l2 c2 k2
  have g2 := PySem.W.mg_of X G a2
  have b2 := F2.binds (ps := ["sheet", "word"]) fun _ _ _ _ _ _ us hl => match us, hl with | [_, _], _ => rfl
  have F3 := fun_mk (st := sPartsIn) l3 c3 k3
  have g3 := PySem.W.mg_of X G a3
  have b3 := F3.binds (ps := ["great"]) fun _ _ _ _ _ _ us hl => match us, hl with | [_], _ => rfl
  have F4 := fun_mk (st := sLengthOf) l4 c4 k4
  have g4 := PySem.W.mg_of X G a4
  have b4 := F4.binds (ps := ["great"]) fun _ _ _ _ _ _ us hl => match us, hl with | [_], _ => rfl
  have F5 := fun_mk (st := sPartAt) l5 c5 k5
  have g5 := PySem.W.mg_of X G a5
  have b5 := F5.binds (ps := ["great", "place"]) fun _ _ _ _ _ _ us hl => match us, hl with | [_, _], _ => rfl
  have F6 := fun_mk (st := sIsOwn) l6 c6 k6
  have g6 := PySem.W.mg_of X G a6
  have b6 := F6.binds (ps := ["great", "place"]) fun _ _ _ _ _ _ us hl => match us, hl with | [_, _], _ => rfl
  have F7 := fun_mk (st := sSteppedIn) l7 c7 k7
  have g7 := PySem.W.mg_of X G a7
  have b7 := F7.binds (ps := ["great", "place"]) fun _ _ _ _ _ _ us hl => match us, hl with | [_, _], _ => rfl
  have F8 := fun_mk (st := sIsPlace) l8 c8 k8
  have g8 := PySem.W.mg_of X G a8
  have b8 := F8.binds (ps := ["great", "place"]) fun _ _ _ _ _ _ us hl => match us, hl with | [_, _], _ => rfl
  have F9 := fun_mk (st := sLetterAt) l9 c9 k9
  have g9 := PySem.W.mg_of X G a9
  have b9 := F9.binds (ps := ["great", "place"]) fun _ _ _ _ _ _ us hl => match us, hl with | [_, _], _ => rfl
  have F10 := fun_mk (st := sAnswerAt) l10 c10 k10
  have g10 := PySem.W.mg_of X G a10
  have b10 := F10.binds (ps := ["sheet", "great", "place"]) fun _ _ _ _ _ _ us hl => match us, hl with | [_, _, _], _ => rfl
  have F11 := fun_mk (st := sBlend) l11 c11 k11
  have g11 := PySem.W.mg_of X G a11
  have b11 := F11.binds (ps := ["cell", "at"]) fun _ _ _ _ _ _ us hl => match us, hl with | [_, _], _ => rfl
  have F12 := fun_mk (st := sPot) l12 c12 k12
  have g12 := PySem.W.mg_of X G a12
  have b12 := F12.binds (ps := ["script"]) fun _ _ _ _ _ _ us hl => match us, hl with | [_], _ => rfl
  have F13 := fun_mk (st := sPick) l13 c13 k13
  have g13 := PySem.W.mg_of X G a13
  have b13 := F13.binds (ps := ["pot", "many"]) fun _ _ _ _ _ _ us hl => match us, hl with | [_, _], _ => rfl
  have F14 := fun_mk (st := sLetters) l14 c14 k14
  have g14 := PySem.W.mg_of X G a14
  have b14 := F14.binds (ps := ["pot", "many"]) fun _ _ _ _ _ _ us hl => match us, hl with | [_, _], _ => rfl
  have F15 := fun_mk (st := sSheet) l15 c15 k15
  have g15 := PySem.W.mg_of X G a15
  have b15 := F15.binds (ps := ["pot", "most"]) fun _ _ _ _ _ _ us hl => match us, hl with | [_, _], _ => rfl
  have F16 := fun_mk (st := sShut) l16 c16 k16
  have g16 := PySem.W.mg_of X G a16
  have b16 := F16.binds (ps := ["pot", "sheet", "most"]) fun _ _ _ _ _ _ us hl => match us, hl with | [_, _, _], _ => rfl
  have F17 := fun_mk (st := sAns) l17 c17 k17
  have g17 := PySem.W.mg_of X G a17
  have b17 := F17.binds (ps := ["sheet", "word"]) fun _ _ _ _ _ _ us hl => match us, hl with | [_, _], _ => rfl
  have F18 := fun_mk (st := sSame) l18 c18 k18
  have g18 := PySem.W.mg_of X G a18
  have b18 := F18.binds (ps := ["found", "due"]) fun _ _ _ _ _ _ us hl => match us, hl with | [_, _], _ => rfl
  have F19 := fun_mk (st := sLawCount) l19 c19 k19
  have g19 := PySem.W.mg_of X G a19
  have b19 := F19.binds (ps := ["pot", "big"]) fun _ _ _ _ _ _ us hl => match us, hl with | [_, _], _ => rfl
  have F20 := fun_mk (st := sLawGreat) l20 c20 k20
  have g20 := PySem.W.mg_of X G a20
  have b20 := F20.binds (ps := ["pot", "sheet", "deep", "big"]) fun _ _ _ _ _ _ us hl => match us, hl with | [_, _, _, _], _ => rfl
  have F21 := fun_mk (st := sSize) l21 c21 k21
  have g21 := PySem.W.mg_of X G a21
  have b21 := F21.binds (ps := ["great"]) fun _ _ _ _ _ _ us hl => match us, hl with | [_], _ => rfl
  have F22 := fun_mk (st := sLawWrite) l22 c22 k22
  have g22 := PySem.W.mg_of X G a22
  have b22 := F22.binds (ps := ["great"]) fun _ _ _ _ _ _ us hl => match us, hl with | [_], _ => rfl
  have F23 := fun_mk (st := sLawWideGreat) l23 c23 k23
  have g23 := PySem.W.mg_of X G a23
  have b23 := F23.binds (ps := ["pot", "sheet"]) fun _ _ _ _ _ _ us hl => match us, hl with | [_, _], _ => rfl
  have F24 := fun_mk (st := sLawTenDeep) l24 c24 k24
  have g24 := PySem.W.mg_of X G a24
  have b24 := F24.binds (ps := ["pot", "sheet"]) fun _ _ _ _ _ _ us hl => match us, hl with | [_, _], _ => rfl
  have F25 := fun_mk (st := sLawFound) l25 c25 k25
  have g25 := PySem.W.mg_of X G a25
  have b25 := F25.binds (ps := ["sheet", "great", "place"]) fun _ _ _ _ _ _ us hl => match us, hl with | [_, _, _], _ => rfl
  have F26 := fun_mk (st := sLawPlaces) l26 c26 k26
  have g26 := PySem.W.mg_of X G a26
  have b26 := F26.binds (ps := ["pot", "great"]) fun _ _ _ _ _ _ us hl => match us, hl with | [_, _], _ => rfl
  have F27 := fun_mk (st := sLawRight) l27 c27 k27
  have g27 := PySem.W.mg_of X G a27
  have b27 := F27.binds (ps := ["sheet", "great", "place"]) fun _ _ _ _ _ _ us hl => match us, hl with | [_, _, _], _ => rfl
  have F28 := fun_mk (st := sLaw) l28 c28 k28
  have g28 := PySem.W.mg_of X G a28
  have b28 := F28.binds (ps := ["script"]) fun _ _ _ _ _ _ us hl => match us, hl with | [_], _ => rfl
  have mlen := PySem.W.mg_none_of X G z0
  have mlist := PySem.W.mg_none_of X G z1
  have menumerate := PySem.W.mg_none_of X G z2
  have mrange := PySem.W.mg_none_of X G z3
  have mmin := PySem.W.mg_none_of X G z4
  have mmax := PySem.W.mg_none_of X G z5
  have mtuple := PySem.W.mg_none_of X G z6
  have misinstance := PySem.W.mg_none_of X G z7
  have mint := PySem.W.mg_none_of X G z8
  have mbool := PySem.W.mg_none_of X G z9
  have mstr := PySem.W.mg_none_of X G z10
  have mall := PySem.W.mg_none_of X G z11
  have mzip := PySem.W.mg_none_of X G z12
  have msum := PySem.W.mg_none_of X G z13
  refine ⟨PySem.W.fnOf "law" "law" (defArgs sLaw) (defBody sLaw) (defScope sLaw) .none kV28 dc28 pm28 an28 cd28 ct28, fun s v => .of_eq rfl, fun base _ _ => ?_⟩
  have PK : ∀ k, FnOk l.prog w K mg base CX0 (k + 2) _ _ _ spPick := fun k => ok_pick (k := k) F13 F11 b11 g11 mlen
  have PW : ∀ k, FnOk l.prog w K mg base CX0 (k + 2) _ _ _ spPickW := fun k => ok_pickW (k := k) F13 F11 b11 g11 mlen
  have SHU : ∀ k, FnOk l.prog w K mg base CX0 (k + 3) _ _ _ spShut := fun k => ok_shut (k := k + 1) F16 F13 (PK k) b13 g13 mlen mrange
  have CNT : ∀ k, FnOk l.prog w K mg base CX0 (k + 3) _ _ _ spCount := fun k => ok_count (k := k) F19 F13 PK PW b13 g13 mlen
  have GRE : FnOk l.prog w K mg base CX0 30 _ _ _ (spGreat 4) := ok_great F20 b20 g20 F13 PK b13 g13 F16 SHU b16 g16 F19 CNT b19 g19 mint mlen mrange mtuple 4 23
  have SK : SameK mg := ⟨misinstance, mbool, mstr, mint, mtuple, mlist, mlen, mall, mzip⟩
  have S0 : FnOk l.prog w K mg base CX0 29 _ _ _ spSame0 := ok_same0 (k := 28) F18 SK
  have S1 : FnOk l.prog w K mg base CX0 30 _ _ _ spSame1 := ok_same1 (k := 28) F18 SK b18 g18
  have LEN : ∀ os ls qs n k, FnOk l.prog w K mg base CX0 (k + n + 1) _ _ _ (spLen os ls qs n) := fun os ls qs n k => ok_lengthOf F4 b4 g4 F3 b3 g3 mlist mlen msum n k
  have LENu : ∀ os ls qs n, n ≤ 10 → FnOk l.prog w K mg base CX0 25 _ _ _ (spLen os ls qs n) := fun os ls qs n hn => by
    have := LEN os ls qs n (24 - n)
    rw [show 24 - n + n + 1 = 25 by omega] at this
    exact this
  have OWN : ∀ os ls qs m, m < 10 → FnOk l.prog w K mg base CX0 26 _ _ _ (spOwn os ls qs m) := fun os ls qs m hm => ok_isOwn (k := 24) F6 F4 b4 g4 (LENu os ls qs (m + 1) hm)
  have STP : ∀ os ls qs m, m < 10 → FnOk l.prog w K mg base CX0 26 _ _ _ (spStep os ls qs m) := fun os ls qs m hm => ok_steppedIn (k := 24) F7 F4 b4 g4 (LENu os ls qs m (by omega))
  have PAR : ∀ os ls qs, FnOk l.prog w K mg base CX0 27 _ _ _ (spPart os ls qs 10) := fun os ls qs => ok_partAt (k := 25) F5 F6 (OWN os ls qs) b6 g6 F7 (STP os ls qs) b7 g7
  have PLC : ∀ os ls qs, FnOk l.prog w K mg base CX0 27 _ _ _ (spPlace os ls qs 10) := fun os ls qs => ok_isPlace (k := 25) F8 F4 b4 g4 (LEN os ls qs 10 15)
  have LET : ∀ os ls qs, FnOk l.prog w K mg base CX0 28 _ _ _ (spLetterAt os ls qs 10) := fun os ls qs => ok_letterAt (k := 26) F9 F8 (PLC os ls qs) b8 g8 F5 (PAR os ls qs) b5 g5
  have NW : FnOk l.prog w K mg base CX0 26 _ _ _ (spNeedWord K) := ok_needWord (k := 24) F1 F0 b0 g0 menumerate
  have ANS : FnOk l.prog w K mg base CX0 27 _ _ _ (spAnswers K) := ok_answers (k := 25) F2 F1 NW b1 g1 mlen menumerate
  have ANW : ∀ os ls qs, FnOk l.prog w K mg base CX0 28 _ _ _ (spAnswerAt os ls qs 10) := fun os ls qs => ok_answerAt (k := 26) F10 F8 (PLC os ls qs) b8 g8 F5 (PAR os ls qs) b5 g5 F4 b4 g4 (LEN os ls qs 10 16) F2 ANS b2 g2 mlist
  have SIZ : ∀ os ls qs, FnOk l.prog w K mg base CX0 28 _ _ _ (spSize os ls qs 10) := fun os ls qs => ok_size F21 b21 g21 mlen msum 10 17
  have WRI : ∀ os ls qs, FnOk l.prog w K mg base CX0 30 _ _ _ (spWrite os ls qs 10) := fun os ls qs => ok_write F22 b22 g22 F21 b21 g21 mlen msum mlist 10 18
  have LAN : FnOk l.prog w K mg base CX0 28 _ _ _ (spAnswers K) := ok_ans (k := 27) F17 mlen mrange
  have FND : ∀ os ls qs, FnOk l.prog w K mg base CX0 29 _ _ _ (spFound os ls qs 10) := fun os ls qs => ok_found (k := 27) F25 F21 (SIZ os ls qs) b21 g21 F17 LAN b17 g17 mlist
  have RGT : ∀ os ls qs, FnOk l.prog w K mg base CX0 30 _ _ _ (spRight os ls qs 10) := fun os ls qs => ok_right (k := 28) F27 F9 ((LET os ls qs).mono (by decide)) b9 g9 F10 ((ANW os ls qs).mono (by decide)) b10 g10 F21 ((SIZ os ls qs).mono (by decide)) b21 g21 F25 (FND os ls qs) b25 g25 F18 S0 b18 g18
  have PLS : ∀ os ls qs, FnOk l.prog w K mg base CX0 30 _ _ _ (spPlaces os ls qs 10) := fun os ls qs => ok_places (k := 28) F26 F21 ((SIZ os ls qs).mono (by decide)) b21 g21 F13 (PW 27) b13 g13 mrange mmax
  have WID : FnOk l.prog w K mg base CX0 30 _ _ _ (spMade 3) := ok_wide (k := 28) F23 F13 (PK 27) b13 g13 F19 (CNT 26) b19 g19 mlen mrange mtuple
  have TEN : FnOk l.prog w K mg base CX0 30 _ _ _ (spMade 10) := ok_ten (k := 28) F24 F13 (PK 27) b13 g13 F16 (SHU 26) b16 g16 mrange mtuple
  have G1 : FnOk l.prog w K mg base CX0 30 _ _ _ (spPot K) := ok_pot (k := 29) F12 mlist menumerate
  have GL : FnOk l.prog w K mg base CX0 29 _ _ _ spLetters := ok_letters (k := 27) F14 F13 (PK 26) b13 g13 mlen mrange
  have G2 : FnOk l.prog w K mg base CX0 30 _ _ _ spSheet := ok_sheet (k := 27) F15 F13 (PK 26) b13 g13 F14 GL b14 g14 mmin mtuple
  have E1 : FnOk l.prog w K mg base CX0 30 _ _ _ (spEx fun os ls qs => spLetterAt os ls qs 10) := fn_ex fun os ls qs => (LET os ls qs).mono (by decide)
  have E2 : FnOk l.prog w K mg base CX0 30 _ _ _ (spEx fun os ls qs => spAnswerAt os ls qs 10) := fn_ex fun os ls qs => (ANW os ls qs).mono (by decide)
  have E3 : FnOk l.prog w K mg base CX0 30 _ _ _ (spEx fun os ls qs => spWrite os ls qs 10) := fn_ex WRI
  have E4 : FnOk l.prog w K mg base CX0 30 _ _ _ (spEx fun os ls qs => spPlaces os ls qs 10) := fn_ex PLS
  have E5 : FnOk l.prog w K mg base CX0 30 _ _ _ (spEx fun os ls qs => spRight os ls qs 10) := fn_ex RGT
  have E6 : FnOk l.prog w K mg base CX0 30 _ _ _ (spEx fun os ls qs => spLen os ls qs 10) := fn_ex fun os ls qs => LEN os ls qs 10 19
  have E7 : FnOk l.prog w K mg base CX0 30 _ _ _ (spEx fun os ls qs => spSize os ls qs 10) := fn_ex fun os ls qs => (SIZ os ls qs).mono (by decide)
  exact ok_law (k := 29) F28 F12 G1 b12 g12 F15 G2 b15 g15 F20 GRE b20 g20 F22 E3 b22 g22 F17 (LAN.mono (by decide)) b17 g17 F18 S1 b18 g18 F9 E1 b9 g9 F10 E2 b10 g10 F26 E4 b26 g26 F27 E5 b27 g27 F4 E6 b4 g4 F21 E7 b21 g21 F23 WID b23 g23 F24 TEN b24 g24 mlen mrange
end Eh
open PySem PySem.W PyProof.Rows
set_option maxHeartbeats 0 in
theorem PySem.Challenge.cw_echohall_k48_letters_at_places_holds : PySem.Challenge.rw_echohall_k48_letters_at_places.Holds := by
  w_on; o_law; k_head; (case hw => w_witness2)
  k_fill
  refine L2.walk_of (l := PySem.Challenge.rw_echohall_k48_letters_at_places) (n := 63) (k := 31) (x := "script") (CX := fun _ => L2.CX0) (sp := fun w => Eh.spLaw _) rfl (by decide) rfl ⟨rfl, by decide, by decide⟩ (fun w h Y => PySem.W.kIn_of Y) ?F (fun _ _ a ns hl _ hS => ⟨a, ns, rfl, hS, hl, fun _ => rfl⟩) (fun _ _ _ _ _ h => h)
  case F =>
    intro w mg fa h KX G hmg
    refine' Eh.all_mk KX G hmg ?a0 ?l0 ?c0 ?k0 ?a1 ?l1 ?c1 ?k1 ?a2 ?l2 ?c2 ?k2 ?a3 ?l3 ?c3 ?k3 ?a4 ?l4 ?c4 ?k4 ?a5 ?l5 ?c5 ?k5 ?a6 ?l6 ?c6 ?k6 ?a7 ?l7 ?c7 ?k7 ?a8 ?l8 ?c8 ?k8 ?a9 ?l9 ?c9 ?k9 ?a10 ?l10 ?c10 ?k10 ?a11 ?l11 ?c11 ?k11 ?a12 ?l12 ?c12 ?k12 ?a13 ?l13 ?c13 ?k13 ?a14 ?l14 ?c14 ?k14 ?a15 ?l15 ?c15 ?k15 ?a16 ?l16 ?c16 ?k16 ?a17 ?l17 ?c17 ?k17 ?a18 ?l18 ?c18 ?k18 ?a19 ?l19 ?c19 ?k19 ?a20 ?l20 ?c20 ?k20 ?a21 ?l21 ?c21 ?k21 ?a22 ?l22 ?c22 ?k22 ?a23 ?l23 ?c23 ?k23 ?a24 ?l24 ?c24 ?k24 ?a25 ?l25 ?c25 ?k25 ?a26 ?l26 ?c26 ?k26 ?a27 ?l27 ?c27 ?k27 ?a28 ?l28 ?c28 ?k28 ?z0 ?z1 ?z2 ?z3 ?z4 ?z5 ?z6 ?z7 ?z8 ?z9 ?z10 ?z11 ?z12 ?z13
    (case a0 => k_is)
    (case l0 => k_is)
    (case c0 => k_is)
    (case k0 => k_is)
    (case a1 => k_is)
    (case l1 => k_is)
    (case c1 => k_is)
    (case k1 => k_is)
    (case a2 => k_is)
    (case l2 => k_is)
    (case c2 => k_is)
    (case k2 => k_is)
    (case a3 => k_is)
    (case l3 => k_is)
    (case c3 => k_is)
    (case k3 => k_is)
    (case a4 => k_is)
    (case l4 => k_is)
    (case c4 => k_is)
    (case k4 => k_is)
    (case a5 => k_is)
    (case l5 => k_is)
    (case c5 => k_is)
    (case k5 => k_is)
    (case a6 => k_is)
    (case l6 => k_is)
    (case c6 => k_is)
    (case k6 => k_is)
    (case a7 => k_is)
    (case l7 => k_is)
    (case c7 => k_is)
    (case k7 => k_is)
    (case a8 => k_is)
    (case l8 => k_is)
    (case c8 => k_is)
    (case k8 => k_is)
    (case a9 => k_is)
    (case l9 => k_is)
    (case c9 => k_is)
    (case k9 => k_is)
    (case a10 => k_is)
    (case l10 => k_is)
    (case c10 => k_is)
    (case k10 => k_is)
    (case a11 => k_is)
    (case l11 => k_is)
    (case c11 => k_is)
    (case k11 => k_is)
    (case a12 => k_is)
    (case l12 => k_is)
    (case c12 => k_is)
    (case k12 => k_is)
    (case a13 => k_is)
    (case l13 => k_is)
    (case c13 => k_is)
    (case k13 => k_is)
    (case a14 => k_is)
    (case l14 => k_is)
    (case c14 => k_is)
    (case k14 => k_is)
    (case a15 => k_is)
    (case l15 => k_is)
    (case c15 => k_is)
    (case k15 => k_is)
    (case a16 => k_is)
    (case l16 => k_is)
    (case c16 => k_is)
    (case k16 => k_is)
    (case a17 => k_is)
    (case l17 => k_is)
    (case c17 => k_is)
    (case k17 => k_is)
    (case a18 => k_is)
    (case l18 => k_is)
    (case c18 => k_is)
    (case k18 => k_is)
    (case a19 => k_is)
    (case l19 => k_is)
    (case c19 => k_is)
    (case k19 => k_is)
    (case a20 => k_is)
    (case l20 => k_is)
    (case c20 => k_is)
    (case k20 => k_is)
    (case a21 => k_is)
    (case l21 => k_is)
    (case c21 => k_is)
    (case k21 => k_is)
    (case a22 => k_is)
    (case l22 => k_is)
    (case c22 => k_is)
    (case k22 => k_is)
    (case a23 => k_is)
    (case l23 => k_is)
    (case c23 => k_is)
    (case k23 => k_is)
    (case a24 => k_is)
    (case l24 => k_is)
    (case c24 => k_is)
    (case k24 => k_is)
    (case a25 => k_is)
    (case l25 => k_is)
    (case c25 => k_is)
    (case k25 => k_is)
    (case a26 => k_is)
    (case l26 => k_is)
    (case c26 => k_is)
    (case k26 => k_is)
    (case a27 => k_is)
    (case l27 => k_is)
    (case c27 => k_is)
    (case k27 => k_is)
    (case a28 => k_is)
    (case l28 => k_is)
    (case c28 => k_is)
    (case k28 => k_is)
    (case z0 => k_is)
    (case z1 => k_is)
    (case z2 => k_is)
    (case z3 => k_is)
    (case z4 => k_is)
    (case z5 => k_is)
    (case z6 => k_is)
    (case z7 => k_is)
    (case z8 => k_is)
    (case z9 => k_is)
    (case z10 => k_is)
    (case z11 => k_is)
    (case z12 => k_is)
    (case z13 => k_is)
