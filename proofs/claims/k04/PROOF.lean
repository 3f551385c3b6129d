import PyProof.Rows.All
import Wide.All
import OpenK.AllK
import Wide.FinOn
import HandS.ForMost
import KE.KExcSuper
import HandS.Exc
import HandS.ExcInit
import HandS.FStr
import HandS.Nested
import KE.KIsAll
import KE.KTryMore
import KE.KExcIs
import HandS.ExcIs
import HandS.ExcField
import HandS.ExcValue
import HandS.WordsExc
import HandS.Evl
import KE.GoesEnum
import HandS.DictComp
import HandS.Flow
import HandS.Style
import HandS.IsInst
import HandS.Zip
import PySem.Challenge.RW_echohall_k04_boughs
set_option Elab.async false
set_option linter.all false
set_option maxRecDepth 100000
set_option maxHeartbeats 4000000
namespace Eh
open PySem PySem.Spec PyProof.Rows L2 NdefX
/-! an error class whose __init__ says super().__init__(text), then self.f = f -/
/-- __init__(self, f): the field is there behind it -/
def spInit (K : PySem.W.Frag) (C : Addr) (f : Str) : Sp := fun vs H Q _ => ∃ (a : Addr) (n : Int), vs = [.ref a, .int n] ∧ n.natAbs.log2 < 1900 ∧ H a = some (exo a C none) ∧
  ∀ dx, H dx = none → dx ≠ a → Q .non (upd (upd H dx (exd dx [(f, .int n)])) a (exo a C (some dx)))
theorem upd_self {H : Hp} {a : Addr} {o : HO} (h : H a = some o) : upd H a o = H := by
  funext b
  by_cases e : b = a
  · rw [e, upd_same, h]
  · rw [upd_ne e]
/-- what is written of the class and its __init__ -/
structure InitC (P : Program) (K : PySem.W.Frag) (mg : Str → Option Value) (C fI : Addr) (qual f : Str) (st : Stmt) (J : Expr) (fd : FuncData) : Prop where
  ox : OexC K C
  iC : PySem.W.findIn K (.ref C) "__init__" = some (some (.ref fI))
  tI : PySem.W.typeIn K (.ref fI) = some (.type "function")
  noF : PySem.W.findIn K (.ref C) f = some none
  sup : PySem.W.ks_superIn K C C "__init__" = some (some (.builtin "ValueError.__init__"))
  subV : PySem.W.subIn K (.ref C) (.type "ValueError") = some true
  mro : PySem.W.mroIn K C (.ref C) = some true
  opq : PySem.W.nsIn K cStatics "thirdparty.any" = some none
  msu : mg "super" = none
  top : (P.main.scope.names.lookup ("super" : Str)).isSome = false
  ex : ∃ (oc : Value) (od : Option Addr) (kV doc pm : Value) (an : Option Addr) (cda : Addr) (ct : Value) (osl : Array (Option Value)) (cc : Addr),
    fd = PySem.W.ksFn "__init__" qual (defArgs st) (defBody st) (defScope st) .none kV doc pm an (.ref cda) ct cc ∧ K.lookup fI = some ⟨oc, od, .func fd, osl⟩ ∧ PySem.W.codeIn K (.ref cda) qual = true ∧
    (∃ (cl : Value) (cld : Option Addr) (csl : Array (Option Value)), K.lookup cc = some ⟨cl, cld, .cell (some (.ref C)), csl⟩) ∧
    ∃ (ccl : Value) (cdd : Option Addr) (ccs : Array (Option Value)) (vs : Array Value) (file : Str) (tf : Tok), K.lookup cda = some ⟨ccl, cdd, .fields vs, ccs⟩ ∧ vs[2]? = some (.str file tf) ∧ ((P.main.file : Str) == file) = true
  bi : Binds K fd ["self", f] []
  sc : NScope ["self", f, "__class__"] ["self", f] ["__class__"] (defScope st)
  ksu : (defScope st).names.lookup ("super" : Str) = some .globalImplicit
  kse : (defScope st).names.lookup ("self" : Str) = some .local
  kfd : (defScope st).names.lookup f = some .local
  par : ((defArgs st).posonlyargs ++ (defArgs st).args).head?.map (·.arg) = some "self"
  fdb : (f == ("__debug__" : Str)) = false
  fcd : (f == ("__classdict__" : Str)) = false
  body : ∃ p0 p1 p2 p3 p4 q1 q2 q3 q4 : Pos, defBody st = [.Expr (.Call (.Attribute (.Call (.Name "super" p0) [] [] p1) "__init__" p2) [J] [] p3) p4, .Assign [.Attribute (.Name "self" q1) f q2] (.Name f q3) q4] ∧
    (∀ env : Env, ∃ pl : Sem Bool, eval (.Call (.Attribute (.Call (.Name "super" p0) [] [] p1) "__init__" p2) [J] [] p3) env = (do
      let ov ← attributeBase (.Call (.Name "super" p0) [] [] p1) "__init__" env (eval (.Call (.Name "super" p0) [] [] p1) env)
      standAt p2.atName
      let (f, first) ← holding [ov] (getMethod ov "__init__" pl)
      callWith p3 f first (backTo p3 (starEach [J] env)) [])) ∧ (∀ env : Env, swapsWith (.Call (.Attribute (.Call (.Name "super" p0) [] [] p1) "__init__" p2) [J] [] p3) none p4.line env = pure false) ∧
    (∀ env : Env, starEach [J] env = (false, eval J env) :: starEach [] env) ∧ (∀ env : Env, swapsWith (.Name f q3) (some (.Attribute (.Name "self" q1) f q2)) q4.line env = pure false)
  txt : ∀ X : Cx, X.N = (["self", f, "__class__"] : List Str) → X.env.scope = defScope st → ∃ tJ : TE, PE X J tJ ∧ ∀ (σ : L2.St) (H : Hp) (n : Int) (Q : VK), n.natAbs.log2 < 1900 → σ[1]? = some (some (V.int n)) → (∀ z : Str, Q (.str z) H) → tJ σ H Q
theorem isCell_of {h : Heap} {c : Addr} {cl : Value} {cld : Option Addr} {csl : Array (Option Value)} {v : Option Value} (e : h.get? c = some ⟨cl, cld, .cell v, csl⟩) : h.IsCell c v := ⟨_, e, rfl⟩
/-- the bound ValueError.__init__, called -/
theorem call_mw {X : Cx} {pins : List (Addr × Obj)} {σ : L2.St} {H : Hp} {s : Shared} {a C u : Addr} {us : List Value} {Q : Value → Shared → Prop} {A : Around} {E : Value → Shared → Prop} (T : OexC X.K C) (I : Inv X pins σ H s) (e : H a = some (exo a C none)) (hu : s.heap.get? u = some (PySem.W.kxs_mw "ValueError.__init__" a))
    (hl : us.length ≤ sizeLine) (h : ∀ s', Inv X pins σ H s' → Q .none s') : wpAny (model X.prog X.w) A (call (.ref u) us) Q E s := by
  obtain ⟨nm, q, N, bs, bm, sn, sub, ab, col, dd, k0, k1, k2, k3, k5, hC, hbm⟩ := T.cls
  obtain ⟨t1, ho⟩ := exo_at I.hok e
  obtain ⟨hp, g, d, t, os⟩ := s
  refine wpAny_call (codeAny_of_tree ?_)
  show wpAny _ A.in1 (callAny (.ref u) ⟨us, []⟩) _ _ _
  simp only [callAny]
  refine wpAny_bind (wpAny_load hu ?_)
  simp only [PySem.W.kxs_mw, show (Value.type "method-wrapper" == Value.type "method" || Value.type "method-wrapper" == Value.type "builtin_function_or_method" || Value.type "method-wrapper" == Value.type "method-wrapper") = true by decide, if_true]
  refine PySem.W.KFB.if_so (by decide) ?_
  refine wpAny_bind (PySem.W.check_bound_init F.excBase_ValueError.toExcCallFacts (I.kIn _ _ hC) ho rfl ?_)
  refine wpAny_bind (wpAny_pure (wpAny_pure ?_))
  refine ⟨plainId_quiet F.excBase_ValueError.init.plain _, codeAny_builtin F.excBase_ValueError.initEntry ?_⟩
  refine PySem.W.exc_init_tree (cls := .ref C) (t0 := t1) (dv := none) (c2 := .none) (c3 := .none) (b4 := .bool false) ho hl fun h' k hx _ => ?_
  have J := I.write (t' := t) (x := a) (e := a) (o := exo a C none) (by rw [e]; exact True.intro) (.inl rfl) k ⟨_, hx⟩ (exo_ok hx)
  rw [upd_self e] at J
  exact h _ J
theorem fn_init {P : Program} {w : World} {K : PySem.W.Frag} {mg : Str → Option Value} {base : Heap} {C fI : Addr} {qual f : Str} {st : Stmt} {J : Expr} {fd : FuncData} {k : Nat} (T : InitC P K mg C fI qual f st J fd) : FnOk P w K mg base CX0 (k + 1) fI fd ["self", f] (spInit K C f) := by
  obtain ⟨oc, od, kV, doc, pm, an, cda, ct, osl, cc, rfl, lk, hcd, ⟨ccl', cld, csl, hcell⟩, ccl, cdd, ccs, vsC, file, tf, hcode, hvs, hfile⟩ := T.ex
  obtain ⟨p0, p1, p2, p3, p4, q1, q2, q3, q4, hbody, hev, hsw, hst, hsw2⟩ := T.body
  refine ⟨fun vs H Q E h => ?_, fun A outer s H args us vs Q E hr e0 hb r hsp => ?_⟩
  · obtain ⟨a, n, rfl, _⟩ := h
    rfl
  obtain ⟨a, n, rfl, hn, ha, hq⟩ := hsp
  have KX : K.In s.heap := e0.mod.kin.keeps fun b o e => (e0.bs b o e).1
  have lim : s.heap.NoLimit := e0.mod.nolimit.keeps fun b o e => (e0.bs b o e).1
  have S := T.sc
  have CA : CellsAt [("__class__", cc)] ["__class__"] [some (V.ref C)] s.heap H := by
    have one : ∀ y c, List.lookup y [(("__class__" : Str), cc)] = some c → y = "__class__" ∧ c = cc := fun y c e => by
      have := PySem.mem_of_lookup e
      simp at this
      exact this
    refine ⟨rfl, fun y c e => ?_, fun x y c e1 e2 => (one x c e1).1.trans (one y c e2).1.symm, fun i y e => ?_⟩
    · obtain ⟨_, rfl⟩ := one y c e
      exact ⟨(e0.bs _ _ (e0.mod.kin _ _ hcell)).2, _, isCell_of (KX _ _ hcell)⟩
    · cases i with
      | zero =>
        cases e
        refine ⟨cc, by simp [List.lookup], fun v ev => ?_⟩
        cases ev
        exact ⟨.ref C, rfl, isCell_of (KX _ _ hcell)⟩
      | succ i => simp at e
  refine ks_codeAny_call_defAt (fd := PySem.W.ksFn "__init__" qual (defArgs st) (defBody st) (defScope st) .none kV doc pm an (.ref cda) ct cc) (body := defBody st) (binds := (["self", f] : List Str).zip us) hr.depth (KX _ _ lk) rfl lim (PySem.W.codeRec_of KX hcd) rfl hb S.nocell (fun ⟨n, _⟩ hy => S.par n (List.of_mem_zip hy).1) (fun h₁ hns kp => ?_) S.co S.gen S.kind
  have I : Inv (ncx CX0 P w K mg base ["self", f, "__class__"] ⟨"__init__", qual, defArgs st, defBody st, defScope st, [("__class__", cc)], cda⟩ fI A outer s H E) [] (startF ["self", f, "__class__"] [.ref a, .int n] [some (.ref C)]) H { s with heap := h₁, toks := s.toks + ((["self", f] : List Str).zip us).length } := inv_startN S hr.hd e0 rfl r CA hns kp
  cases r with
  | @cons _ u0 _ ur ra rr =>
  cases rr with
  | @cons _ u1 _ ur' rn rnil =>
  cases rnil
  obtain rfl : u0 = Value.ref a := ra
  generalize hX : ncx CX0 P w K mg base ["self", f, "__class__"] ⟨"__init__", qual, defArgs st, defBody st, defScope st, [("__class__", cc)], cda⟩ fI A outer s H E = X at I
  have eP : X.prog = P := by rw [← hX]; rfl
  have eW : X.w = w := by rw [← hX]; rfl
  have eK : X.K = K := by rw [← hX]; rfl
  have eN : X.N = (["self", f, "__class__"] : List Str) := by rw [← hX]; rfl
  have eE : X.env = PySem.W.ksEnv qual (defScope st) s.heap.objs.size fI (.ref cda) cc := by rw [← hX]; rfl
  have eA : X.A = A.deeper X.env := by rw [← hX]; rfl
  have eM : X.mg = mg := by rw [← hX]; rfl
  have hks : X.env.scope = defScope st := by rw [eE]
  have key : _root_.PySem.wpAt (model X.prog X.w) X.A (.func (defBody st) X.env) (execs (defBody st) X.env) (SP X [] { nx := fun _ H' => Q .non H', rt := Q }) X.xe { s with heap := h₁, toks := s.toks + ((["self", f] : List Str).zip [Value.ref a, u1]).length } := by
    obtain ⟨ar, har, har'⟩ : ∃ ar : Arg, ((defArgs st).posonlyargs ++ (defArgs st).args).head? = some ar ∧ ar.arg = "self" := by
      have := T.par
      cases e : ((defArgs st).posonlyargs ++ (defArgs st).args).head? with
      | none => rw [e] at this; cases this
      | some ar => rw [e] at this; exact ⟨ar, rfl, Option.some.inj this⟩
    have kS : X.env.kindOf "super" = some .globalImplicit := by rw [eE]; exact T.ksu
    have kC : X.env.kindOf "__class__" = some .free := by rw [eE]; exact S.frk _ (List.mem_singleton.mpr rfl)
    have kE : X.env.kindOf "self" = some .local := by rw [eE]; exact T.kse
    have X1 := I.kIn
    rw [eK] at X1
    have ox : OexC X.K C := by rw [eK]; exact T.ox
    obtain ⟨t1, ho⟩ := exo_at I.hok ha
    obtain ⟨nm, q, N', bs, bm, sn, sub, ab, col, dd, k0, k1, k2, k3, k5, hC, hbm⟩ := T.ox.cls
    have hC1 := X1 _ _ hC
    have IA : PySem.W.InstAt h₁ a ({ cls := .ref C, dict := none, data := .fields #[.ref t1, .none, .none, .none, .bool false, .none] } : Obj) C none := ⟨ho, rfl, rfl, trivial⟩
    rw [hbody]
    obtain ⟨pl, hev1⟩ := hev X.env
    refine ks_wpAt_execs_cons (ks_wpAt_Expr_any (ks_wpAt_MethodCall (pl := pl) (ks_wpAt_super_base (f := fI) (cc := cda) kS kC (by decide) (by rw [eE]) (X1 _ _ lk) rfl har (by rw [eE]) (X1 _ _ hcode) rfl hvs (by rw [eP]; exact hfile) (by rw [eP]; exact T.top) ?_) hev1) I.quiet (hsw X.env))
    obtain ⟨mb, hb1, hb2⟩ := I.mod.blt
    refine PySem.W.ks_loadName_global I.ok.kind kS (Calls.loadGlobal_builtin (by rw [I.ok.glob]; exact I.mod.glob.keeps I.bk) (by rw [eM]; exact T.msu) (by rw [I.ok.blt]; exact hb1.keeps I.bk) ((hb2 "super" (by decide)).trans PyProof.Rows.Boot.«super») ⟨rfl, ?_⟩)
    refine wpAny_loadName_free (c := cc) (v := .ref C) I.ok.kind kC (by rw [eE]; simp [List.lookup]) ⟨_, X1 _ _ hcell, rfl⟩ ?_
    rw [har']
    have ndP : (["self", f] : List Str).Nodup := by
      have q := S.nd.sublist (List.take_sublist 2 _)
      exact q
    refine wpAny_loadName_local (v := .ref a) I.ok.kind kE (by rw [eE]; exact hns) (zip_look (i := 0) ndP rfl rfl) ?_
    refine ks_wpAny_isType_cls hC1 rfl ⟨rfl, ?_⟩
    refine ks_wpAny_call_super hC1 rfl ho rfl (fun c e => by cases e) (PySem.W.looks_mroIn X1 T.mro) (fun h2 e2 k2 => ?_)
    have I2 : Inv X [] _ H { s with heap := h2, toks := _ } := I.kept (t' := s.toks + ((["self", f] : List Str).zip [Value.ref a, u1]).length) k2
    have X2 : K.In h2 := X1.keeps k2
    have IA2 : PySem.W.InstAt h2 a ({ cls := .ref C, dict := none, data := .fields #[.ref t1, .none, .none, .none, .bool false, .none] } : Obj) C none := ⟨k2 _ _ ho, rfl, rfl, trivial⟩
    have hcl : PySem.W.clsIn K C = some { name := nm, bases := bs, mro := .ref C :: bm, ns := N', qualname := q, hasDict := true, slotNames := sn, subclasses := sub, abstract := ab, collection := col, hasDel := false } := by unfold PySem.W.clsIn; rw [hC] <;> rfl
    have hsup := T.sup
    unfold PySem.W.ks_superIn at hsup
    rw [hcl] at hsup
    have hI : PySem.W.Looks (model X.prog X.w) h2 (isInstance (.ref a) (.type "ValueError")) true := IA2.type.andThen (PySem.W.looks_subIn X2 T.subV)
    refine PySem.W.kxs_getMethod PySem.W.kxs_ValueError e2 (PySem.W.looks_opaque X2 T.opq) (l₀ := .ref C :: bm) (fun A Q E s k q => wpAny_bind ((PySem.W.looks_clsIn X2 hcl) A _ E s k (wpAny_pure q))) rfl X2 hsup hI (PySem.W.ks_ne X2 IA2 hcl) (by decide) ?_
    have I3 : Inv X [] _ H { s with heap := h2.push (PySem.W.kxs_mw "ValueError.__init__" a), toks := _ } := I2.kept (t' := s.toks + ((["self", f] : List Str).zip [Value.ref a, u1]).length + 1) fun b o e => Heap.get?_push_of_some _ e
    have I4 : Inv X [(h2.objs.size, PySem.W.kxs_mw "ValueError.__init__" a)] _ H _ := I3.pins_of fun p hp => by
      rw [List.mem_singleton.mp hp]
      exact ⟨Heap.get?_push_at rfl rfl, I2.hok.fresh (Nat.le_refl _), Nat.ne_of_gt I2.lt, I2.nofs (Nat.le_refl _), fun v z => by cases z⟩
    obtain ⟨tJ, pJ, rJ⟩ := T.txt X eN hks
    have hu1 : ∃ t, u1 = Value.int n t := rn
    have hσ : (startF (["self", f, "__class__"] : List Str) [V.ref a, V.int n] [some (V.ref C)]) = [some (V.ref a), some (.int n), some (.ref C)] := rfl
    have aft : ∀ s6, Inv X [] [some (V.ref a), some (.int n), some (.ref C)] H s6 → wpAny (model X.prog X.w) X.A (execs [.Assign [.Attribute (.Name "self" q1) f q2] (.Name f q3) q4] X.env) (SP X [] { nx := fun _ H' => Q .non H', rt := Q }) X.xe s6 := fun s6 I6 => by
      refine (pss_one (ps_ost (pe_var (i := 0) (by rw [eN]; rfl) (.inl (by rw [hks]; exact T.kse))) (pe_var (i := 1) (by rw [eN]; rfl) (.inl (by rw [hks]; exact T.kfd)) T.fdb T.fcd) (hsw2 X.env))).run [] s6 _ H _ I6 ?_
      refine ⟨_, rfl, _, rfl, a, C, rfl, ox, by rw [eK]; exact T.noF, .inl ⟨ha, fun dx n1 n2 => hq dx n1 n2⟩⟩
    rw [hst]
    refine PySem.W.kxs_callWith (i := "ValueError.__init__") (x := a) rfl (Calls.evalArgs_plain ?_)
    refine Calls.spliced_cons (thn (pJ.run _ _ _ _ _ I4 (rJ _ H n (fun v H' => (∃ z, v = V.str z) ∧ H' = H) hn rfl fun z => ⟨⟨z, rfl⟩, rfl⟩)) fun u s5 ⟨v, H5, I5, r5, ⟨z, ez⟩, eH⟩ => ?_)
    subst eH
    refine Calls.spliced_nil ⟨(I5.pin (h2.objs.size, PySem.W.kxs_mw "ValueError.__init__" a) (List.mem_append_right _ (List.mem_singleton.mpr rfl))).1, ?_⟩
    refine call_mw ox I5 ha (I5.pin (h2.objs.size, PySem.W.kxs_mw "ValueError.__init__" a) (List.mem_append_right _ (List.mem_singleton.mpr rfl))).1 (by show 1 ≤ sizeLine; rw [sizeLine_eq]; omega) fun s6 I6 => ?_
    have I7 : Inv X [] _ H5 s6 := I6.pins_of fun p hp => (List.not_mem_nil hp).elim
    exact wpAt_of_wpAny (aft s6 I7)
  subst hX
  refine ks_wpAt_mono key (fun fl s' hs => ?_) (fun e s' hs => hs)
  have fin : ∀ {σ' : L2.St} {H' : Hp} {v : V} {u : Value}, Inv (ncx CX0 P w K mg base ["self", f, "__class__"] ⟨"__init__", qual, defArgs st, defBody st, defScope st, [("__class__", cc)], cda⟩ fI A outer s H E) [] σ' H' s' → L2.RelV v u → Q v H' → CE outer P w H s Q u s' :=
    fun {σ' H' v u} J rv q => ⟨v, H', J.os, J.bare, J.base, J.hok, rv, q⟩
  cases fl with
  | ret u =>
    obtain ⟨v, σ', H', J, rv, q⟩ := hs
    exact fin J rv q
  | next =>
    obtain ⟨σ', H', J, q⟩ := hs
    exact fin (v := V.non) (u := Value.none) J rfl q
  | brk =>
    obtain ⟨_, _, _, q⟩ := hs
    exact False.elim q
  | cont =>
    obtain ⟨_, _, _, q⟩ := hs
    exact False.elim q
/-- C(e): a new error -/
theorem pmk_err {X : Cx} {x qual f : Str} {C fI : Addr} {st : Stmt} {J e : Expr} {fd : FuncData} {ta : TA} {p pos : Pos} {k : Nat} (T : InitC X.prog X.K X.mg C fI qual f st J fd) (hr : Room (k + 2) X.A) (hg : Gl X x) (hm : X.mg x = some (.ref C)) (ha : PA X [e] ta)
    (hdb : (x == ("__debug__" : Str)) = false := by decide) (he : starEach [e] X.env = (false, eval e X.env) :: starEach [] X.env := by rfl) : PMk X (.Call (.Name x p) [e] [] pos) (tMkO C (spInit X.K C f) [] ta) := by
  have G : FnOk X.prog X.w X.K X.mg X.base CX0 (k + 1) fI fd ["self", f] (spInit X.K C f) := fn_init T
  exact pmk_oex T.ox T.iC T.tI G hr T.bi .nil pass0 hg hm ha hdb he rfl
/-- .. its own dict at d holds f -/
theorem mk_rd {K : PySem.W.Frag} {C : Addr} {f : Str} {n : Int} {H1 : Hp} {Q : XK} (hn : n.natAbs.log2 < 1900) (q : ∀ d, H1 d = none → Q (.ref C) (some d) (upd H1 d (.xd [(f, .int n)]))) : ([V.int n] : List V).length ≤ 1000 ∧ ∀ a, H1 a = none → spInit K C f (.ref a :: ([V.int n] ++ [])) (upd H1 a (exo a C none))
      (fun v H2 => v = .non ∧ ∃ (d : Addr) (fs : List (Str × V)), H2 a = some (exo a C (some d)) ∧ H2 d = some (exd d fs) ∧ H1 d = none ∧ Q (.ref C) (some d) (upd (del H2 a) d (.xd fs))) (fun _ _ _ => False) := by
  refine ⟨by show 1 ≤ 1000; decide, fun a na => ⟨a, n, rfl, hn, upd_same, fun dx n1 n2 => ⟨rfl, dx, [(f, .int n)], upd_same, ?_, ?_, ?_⟩⟩⟩
  · rw [upd_ne n2, upd_same]
  · rw [upd_ne n2] at n1
    exact n1
  · rw [upd_ne n2] at n1
    have e : upd (del (upd (upd (upd H1 a (exo a C none)) dx (exd dx [(f, .int n)])) a (exo a C (some dx))) a) dx (.xd [(f, .int n)]) = upd H1 dx (.xd [(f, .int n)]) := by
      funext b
      by_cases hb : b = dx
      · rw [hb, upd_same, upd_same]
      · rw [upd_ne hb, upd_ne hb]
        by_cases hba : b = a
        · rw [hba, del_same, na]
        · rw [del_ne hba, upd_ne hba, upd_ne hb, upd_ne hba]
    rw [e]
    exact q dx n1
end Eh
set_option Elab.async false
set_option linter.all false
set_option maxRecDepth 100000
set_option maxHeartbeats 4000000
namespace Eh
open PySem PySem.Spec PyProof.Rows L2 NdefX
/-! a caught error that is kept: except X as n: y = n; behind the suite it is an object of ours -/
/-- at a: an exception that was raised, its class cls, its dict d -/
def exv (a : Addr) (cls : Value) (d : Option Addr) : HO := .ext fun h => ∃ (oe : Obj) (vs : Array Value), h.get? a = some oe ∧ Zc cls d oe ∧ oe.data = .fields vs
theorem exv_ok {P : Program} {w : World} {H : Hp} {h : Heap} {a : Addr} {cls : Value} {d : Option Addr} {oe : Obj} {vs : Array Value} (e : h.get? a = some oe) (z : Zc cls d oe) (hd : oe.data = .fields vs) : ObjOk P w H h a (exv a cls d) :=
  ⟨⟨oe, vs, e, z, hd⟩, ⟨oe, e⟩, fun _ _ ⟨o, v, q, r⟩ k => ⟨o, v, k o q, r⟩⟩
theorem exv_at {P : Program} {w : World} {H : Hp} {h : Heap} {a : Addr} {cls : Value} {d : Option Addr} (hok : HOk P w H h) (e : H a = some (exv a cls d)) : ∃ (oe : Obj) (vs : Array Value), h.get? a = some oe ∧ Zc cls d oe ∧ oe.data = .fields vs := by
  have x : ObjOk P w H h a (.ext fun h => ∃ (oe : Obj) (vs : Array Value), h.get? a = some oe ∧ Zc cls d oe ∧ oe.data = .fields vs) := hok a _ e
  exact x.1
section
variable {X : Cx} {pins : List (Addr × Obj)} {σ : L2.St} {H : Hp} {s : Shared}
/-- an object that was not there at the entry is tracked from now on -/
theorem Inv_track {a : Addr} {o : HO} {oe : Obj} (I : Inv X ((a, oe) :: pins) σ H s) (n0 : X.s_0.heap.get? a = none) (np : ∀ p ∈ X.pn ++ pins, p.1 ≠ a) (nc : ∀ x c, X.env.cells.lookup x = some c → c ≠ a) (new : ObjOk X.prog X.w (upd H a o) s.heap a o) : Inv X pins σ (upd H a o) s := by
  obtain ⟨ha, hn, nL, nF, _⟩ := I.pin (a, oe) (List.mem_append_right _ List.mem_cons_self)
  have ne0 : ∀ b u, X.s_0.heap.get? b = some u → b ≠ a := fun b u e z => by
    rw [z, n0] at e
    cases e
  refine ⟨I.ok, I.os, I.bare, ⟨I.base.keep, I.base.slot, fun b u e n hx => ?_, I.base.there, fun b xs e => ?_, fun b u v e => ?_, fun b ps e => ?_⟩, I.loc, I.cell, ?_, fun x c e => ?_, fun p hp => ?_, fun b u e => ?_, I.len⟩
  · rw [upd_ne (ne0 b u e)]
    exact I.base.free b u e n hx
  · have q := I.base.tups b xs e
    rw [upd_ne (ne_of_none q hn)]
    exact q
  · have q := I.base.frzs b u v e
    rw [upd_ne (ne_of_none q hn)]
    exact q
  · obtain ⟨m, q⟩ := I.base.tbls b ps e
    exact ⟨m, by rw [upd_ne (ne_of_none q hn)]; exact q⟩
  · rw [upd_ne (Ne.symm nL)]
    exact I.free
  · rw [upd_ne (nc x c e)]
    exact I.freeC x c e
  · have hp' : p ∈ X.pn ++ (a, oe) :: pins := by
      rcases List.mem_append.mp hp with z | z
      · exact List.mem_append_left _ z
      · exact List.mem_append_right _ (List.mem_cons_of_mem _ z)
    obtain ⟨e, n, ne, nf, d⟩ := I.pin p hp'
    exact ⟨e, by rw [upd_ne (np p hp)]; exact n, ne, nf, d⟩
  · by_cases hb : b = a
    · subst hb
      rw [upd_same] at e
      cases e
      exact new
    · rw [upd_ne hb] at e
      exact (I.hok b u e).stay (fun c v _ q => q) (fun c q => by rw [upd_ne (ne_of_none q hn)]; exact q) fun c xs q => by rw [upd_ne (ne_of_none q hn)]; exact q
theorem Inv_unsuite {a : Addr} {q : Addr × Obj} {pn' : List (Addr × Obj)} (I : Inv (X.suite a (q :: (X.pn ++ pins))) pn' σ H s) (ok : X.Ok) : Inv X (q :: pins) σ H s :=
  ⟨ok, I.os, I.bare, I.base, I.loc, I.cell, I.free, I.freeC, fun p hp => by
    refine I.pin p (List.mem_append_left _ ?_)
    rcases List.mem_append.mp hp with z | z
    · exact List.mem_cons_of_mem _ (List.mem_append_left _ z)
    · rcases List.mem_cons.mp z with z | z
      · rw [z]; exact List.mem_cons_self
      · exact List.mem_cons_of_mem _ (List.mem_append_right _ z), I.hok, I.len⟩
end
section
variable {X : Cx} {pins : List (Addr × Obj)}
/-- an error at a that is about to be looked at by X's except clause; I0: the state without it, at i0 -/
structure Air (X : Cx) (pins : List (Addr × Obj)) (B : Heap) (a : Addr) (cls : Value) (d : Option Addr) (σ : L2.St) (H : Hp) (i0 s1 : Shared) : Prop where
  inv : Inv X pins σ H i0
  gnd : ∀ b o, i0.heap.get? b = some o → b ∉ frs X.stack → B.get? b = some o
  ups : i0.heap.UpToSlots s1.heap
  non : H a = none
  sos : s1.os = i0.os
  gen : AllBare s1.gens
/-- .. when it is down: h1 the heap -/
structure Down (X : Cx) (pins : List (Addr × Obj)) (a : Addr) (cls : Value) (d : Option Addr) (σ : L2.St) (H : Hp) (i0 : Shared) (oe : Obj) (s1 : Shared) : Prop where
  inv : Inv X pins σ H s1
  obj : s1.heap.get? a = some oe
  zc : Zc cls d oe
  rcd : ∃ vs, oe.data = .fields vs
  loc : a ≠ X.env.locals
  frm : a ∉ X.fs
  no0 : X.s_0.heap.get? a = none
  noP : ∀ p ∈ X.pn ++ pins, p.1 ≠ a
  noC : ∀ y c, X.env.cells.lookup y = some c → c ≠ a
theorem Air.down {B h1 : Heap} {a : Addr} {cls : Value} {d : Option Addr} {σ : L2.St} {H : Hp} {i0 s1 : Shared} (A : Air X pins B a cls d σ H i0 s1) (hs : X.stack = X.env :: X.outer) (hex : X.ex = []) (hf : X.env.frame = some X.env.locals)
    (fl : HandSPX.FlyingZ B (X.env :: X.outer) a (Zc cls d) h1) (up : s1.heap.UpToSlots h1) : ∃ oe, Down X pins a cls d σ H i0 oe { s1 with heap := h1 } := by
  obtain ⟨oe, vs, eo, zo, dat⟩ := fl.there
  have out : a ∉ frs (X.env :: X.outer) := fun m => by
    obtain ⟨_, o, q, ng⟩ := fl.2.2.1.mem m
    rw [eo] at q
    cases q
    exact ng _ dat
  have gone : i0.heap.get? a = none := by
    cases q : i0.heap.get? a with
    | none => rfl
    | some o =>
      have z := A.gnd a o q (by rw [hs]; exact out)
      rw [fl.2.1] at z
      cases z
  have off : ∀ {b : Addr} {o : Obj}, i0.heap.get? b = some o → b ≠ a := fun {b o} q z => by
    rw [z, gone] at q
    cases q
  refine ⟨oe, A.inv.landed A.gnd fl.1 (A.ups.trans up) A.sos A.gen, eo, zo, ⟨vs, dat⟩, fun z => ?_, fun m => ?_, ?_, fun p m => off (A.inv.pin p m).1, fun y c q => ?_⟩
  · exact out (List.mem_filterMap.mpr ⟨X.env, .head _, by rw [hf, z]⟩)
  · obtain ⟨v, m1, m2⟩ := List.mem_filterMap.mp m
    exact out (List.mem_filterMap.mpr ⟨v, .tail _ m1, m2⟩)
  · cases q : X.s_0.heap.get? a with
    | none => rfl
    | some o =>
      obtain ⟨o', z⟩ := A.inv.base.there a o q (by rw [hex]; exact fun z => nomatch z)
      exact absurd rfl (off z)
  · obtain ⟨_, o, q2, _⟩ := A.inv.cell y c q
    exact off q2
variable {x n : Str} {c : Value} {i : Nat} {body suite : List Stmt} {b₀ : Stmt} {np pos pos' : Pos} {tb : WX → TS} {ts : Addr → Value → Option Addr → TS} {σ : L2.St} {H : Hp} {i0 s1 : Shared} {a : Addr} {cls : Value} {d : Option Addr} {oe : Obj} {D : Ends}
/-- the clause's class is read, its suite run, its name goes, the error is kept -/
theorem Down.runs {B : Heap} (U : Down X pins a cls d σ H i0 oe s1) (fl : HandSPX.FlyingZ B (X.env :: X.outer) a (Zc cls d) s1.heap) (A : Air X pins B a cls d σ H i0 s1) (hs : X.stack = X.env :: X.outer) (hex : X.ex = []) (hf : X.env.frame = some X.env.locals)
    (hN : X.N.Nodup) (hi : X.N[i]? = some n) (hln : X.env.kindOf n = some .local) (hc : Names X x c) (ht : PySem.W.exmOne X.K cls c = some true)
    (hsu : ∀ (a : Addr) (oe : Obj) (cls : Value) (d : Option Addr) (pn : List (Addr × Obj)), Zc cls d oe → (∃ vs, oe.data = .fields vs) → PSs (X.suite a ((a, oe) :: pn)) (b₀ :: suite) (ts a cls d))
    (q : ts a cls d { nx := fun σ' H' => D.nx (σ'.set i none) (upd H' a (exv a cls d)), rt := fun _ _ => False, bk := fun _ _ => False, ct := fun _ _ => False } (σ.set i (some (.ref a))) H) :
    wpAny (model X.prog X.w) X.A (handleBy (.ref a) X.env [.ExceptHandler (some (.Name x np)) (some n) (b₀ :: suite) pos']) (SP X pins D) X.xe s1 := by
  obtain ⟨vs, dat⟩ := U.rcd
  have V := U.inv.suite U.obj dat A.non U.loc U.frm
  refine wpAny_handleBy_cons (codeAny_handlers_test ?_) (fun z => by cases z)
  have ty : PySem.W.Looks (model X.prog X.w) s1.heap (typeOf (.ref a)) cls := fun _ _ _ _ kk qq => wpAny_typeOf_ref (kk _ _ U.obj) (by rw [U.zc.1]; exact qq)
  have mt := PySem.W.exm_one (M := model X.prog X.w) U.inv.kIn ty ht
  have nm : ∀ {Q1 : Value → Shared → Prop} {E1 : Value → Shared → Prop}, Q1 c s1 → wpAny (model X.prog X.w) (X.A.mark (some (.ref a))) (eval (.Name x np) X.env) Q1 E1 s1 := fun {Q1 E1} qq => by
    rcases hc with ⟨g1, g2, g3 | ⟨g3, g4, g5⟩⟩
    · exact ld_glob (X := X.suite a ((a, oe) :: (X.pn ++ pins))) V g1 g3 qq g2
    · exact ld_blt (X := X.suite a ((a, oe) :: (X.pn ++ pins))) V g1 g3 g4 qq g5 g2
  refine nm (mt.here (codeAny_handlers_suite_as ?_))
  refine HandSPX.lands_againZ fl fun h2 fl2 up2 => ?_
  obtain ⟨oe2, U2⟩ := A.down hs hex hf fl2 up2
  obtain ⟨vs2, dat2⟩ := U2.rcd
  refine store_ok (X := X.suite a ((a, oe2) :: (X.pn ++ pins))) (v := .ref a) (U2.inv.suite U2.obj dat2 A.non U2.loc U2.frm) hN hi (.inl hln) rfl (fun s3 V3 => ?_) (.inr hln)
  refine wpAny_mono ((hsu a oe2 cls d (X.pn ++ pins) U2.zc ⟨vs2, dat2⟩).run [] s3 _ H _ V3 q) (fun fl s4 e => ?_) (fun _ _ z => z.elim)
  cases fl with
  | next =>
    obtain ⟨σ4, H4, V4, q4⟩ := e
    exact gone_ok (Inv_unsuite V4 U.inv.ok) hN hi hln fun s5 V5 => ⟨_, _, Inv_track V5 U.no0 U.noP U.noC (exv_ok (V5.pin (a, oe2) (List.mem_append_right _ (.head _))).1 U2.zc dat2), q4⟩
  | brk => obtain ⟨_, _, _, z⟩ := e; exact z.elim
  | cont => obtain ⟨_, _, _, z⟩ := e; exact z.elim
  | ret v => obtain ⟨_, _, _, _, _, z⟩ := e; exact z.elim
/-- try: body / except x as n: suite, every error of the body being one of x -/
def wKeep (K : PySem.W.Frag) (c : Value) (i : Nat) (ts : Addr → Value → Option Addr → TS) (D : Ends) : WX := fun cls d σ H =>
  PySem.W.exmOne K cls c = some true ∧ ∀ a, H a = none → ts a cls d { nx := fun σ' H' => D.nx (σ'.set i none) (upd H' a (exv a cls d)), rt := fun _ _ => False, bk := fun _ _ => False, ct := fun _ _ => False } (σ.set i (some (.ref a))) H
theorem ps_try_keep (hs : X.stack = X.env :: X.outer) (hex : X.ex = []) (hf : X.env.frame = some X.env.locals) (hN : X.N.Nodup) (hi : X.N[i]? = some n) (hln : X.env.kindOf n = some .local) (hc : Names X x c)
    (hb : ∀ (W : WX) (pn : List (Addr × Obj)) (xe : Value → Shared → Prop), Takes (X.tr pn xe) W → PassesOwn (model X.prog X.w) X.A X.env xe → PSs (X.tr pn xe) body (tb W))
    (hsu : ∀ (a : Addr) (oe : Obj) (cls : Value) (d : Option Addr) (pn : List (Addr × Obj)), Zc cls d oe → (∃ vs, oe.data = .fields vs) → PSs (X.suite a ((a, oe) :: pn)) (b₀ :: suite) (ts a cls d)) :
    PS X (.Try body [.ExceptHandler (some (.Name x np)) (some n) (b₀ :: suite) pos'] [] [] pos) (fun D σ H => tb (wKeep X.K c i ts D) D σ H) := by
  refine ⟨fun pins s σ H D I h => wpAny_Try_except ?_⟩
  have frm : X.A.frames = some (X.env :: X.outer) := by rw [I.ok.frames, hs]
  have up0 : ∀ (h : Heap), h.UpToSlots h := fun h => Heap.UpToSlots.of_keeps fun _ _ e => e
  have body0 := (hb (wKeep X.K c i ts D) (X.pn ++ pins) (fun e t1 => wpAny (model X.prog X.w) X.A (noteFrame e X.env) (fun _ t2 => wpAny (model X.prog X.w) X.A (setFlight e none) (fun _ t3 => wpAny (model X.prog X.w) X.A (handleBy e X.env [.ExceptHandler (some (.Name x np)) (some n) (b₀ :: suite) pos']) (SP X pins D) X.xe t3) X.xe t2) X.xe t1)
    (fun u t1 air => by
      obtain ⟨a, B, i0, _, σ0, H0, cls, d, rfl, J, gnd, ups, sky, na, so, ag, hm, hy⟩ := air
      have A : Air X pins B a cls d σ0 H0 i0 t1 := ⟨J.ofTry I.ok, gnd, ups, na, so, ag⟩
      refine Sky.land Zc.steady frm hf (show Sky B (X.env :: X.outer) a (Zc cls d) X.env.locals t1.heap from hs ▸ sky) fun h1 fl1 up1 => ?_
      obtain ⟨oe, U⟩ := A.down hs hex hf fl1 up1
      exact U.runs fl1 ⟨A.inv, gnd, ups.trans up1, na, so, ag⟩ hs hex hf hN hi hln hc hm hsu (hy a na)) PassesOwn.looking).run [] s σ H D (I.toTry _) h
  refine wpAny_mono body0 (fun fl t1 e => ?_) (fun _ _ e => e)
  cases fl with
  | next => obtain ⟨σ1, H1, J, q⟩ := e; exact wpAny_execs_nil ⟨σ1, H1, J.ofTry I.ok, q⟩
  | brk => obtain ⟨σ1, H1, J, q⟩ := e; exact ⟨σ1, H1, J.ofTry I.ok, q⟩
  | cont => obtain ⟨σ1, H1, J, q⟩ := e; exact ⟨σ1, H1, J.ofTry I.ok, q⟩
  | ret u => obtain ⟨v, σ1, H1, J, r, q⟩ := e; exact ⟨v, σ1, H1, J.ofTry I.ok, r, q⟩
end
end Eh
set_option Elab.async false
set_option linter.all false
set_option maxRecDepth 100000
set_option maxHeartbeats 4000000
namespace Eh
open PySem PySem.Spec PyProof.Rows L2 NdefX
/-! isinstance and the field of a caught error that was kept -/
/-- its own dict, if it has one, is ours -/
def DctOk (H : Hp) (d : Option Addr) : Prop := match d with
  | none => True
  | some dd => ∃ fs, H dd = some (.xd fs)
/-- what is told of an error's class -/
structure ErrC (K : PySem.W.Frag) (C : Addr) : Prop where
  ec : ExcC K C
  xf : XfC K C
theorem inst_exv {P : Program} {w : World} {H : Hp} {h : Heap} {a C : Addr} {d : Option Addr} (hok : HOk P w H h) (e : H a = some (exv a (.ref C) d)) (hd : DctOk H d) : ∃ (oe : Obj) (od : Option Obj), PySem.W.InstAt h a oe C od := by
  obtain ⟨oe, vs, e1, z, dat⟩ := exv_at hok e
  have nc : PySem.W.notCls oe = true := by
    unfold PySem.W.notCls
    rw [dat] <;> rfl
  cases d with
  | none => exact ⟨oe, none, e1, z.1, nc, by rw [z.2]; trivial⟩
  | some dd =>
    obtain ⟨fs, e2⟩ := hd
    have x : ObjOk P w H h dd (.xd fs) := hok dd _ e2
    obtain ⟨mA, hns, _⟩ := x
    obtain ⟨od, ho, _⟩ := lookIn_ns hns
    exact ⟨oe, some od, e1, z.1, nc, by rw [z.2]; exact ho⟩
/-- isinstance(x, c), x such an error -/
def rIsX (K : PySem.W.Frag) : List V → Hp → VK → Prop := fun xs H Q => ∃ (a C : Addr) (d : Option Addr) (c : V) (cv : Value) (b : Bool), xs = [.ref a, c] ∧ H a = some (exv a (.ref C) d) ∧ DctOk H d ∧ ErrC K C ∧ (∀ u, L2.RelV c u → u = cv) ∧ PySem.W.kitOne K (.ref C) cv = some b ∧ Q (.bl b) H
theorem call_isX {X : Cx} : CallR X (.builtin "isinstance") (rIsX X.K) := by
  intro pins s σ H xs us Q I r h
  obtain ⟨a, C, d, c, cv, b, rfl, ea, hd, T, hcv, e, q⟩ := h
  cases r with
  | cons rx rr =>
  cases rr with
  | cons rt rr =>
  cases rr
  cases rx
  have ec := hcv _ rt
  subst ec
  obtain ⟨oe, od, J⟩ := inst_exv I.hok ea hd
  have hcl : (PySem.W.clsIn X.K C).isSome = true := by
    obtain ⟨cd, hc, _⟩ := PySem.W.any_some T.ec.hd
    rw [hc] <;> rfl
  exact PySem.W.kia_one (PySem.W.kitx_exc hcl T.ec.hg T.ec.hk T.ec.hs T.ec.ha T.ec.hn T.ec.ht T.ec.hm) I.kIn J e (fun z => nomatch z) fun tk => ⟨.bl b, H, I.tok tk, rfl, q⟩
/-- x.n, x such an error -/
def tXg (K : PySem.W.Frag) (n : Str) (te : TE) : TE := fun σ H Q => te σ H fun x H1 => ∃ (a C dd : Addr) (fs : List (Str × V)) (v : V), x = .ref a ∧ ErrC K C ∧ PySem.W.findIn K (.ref C) n = some none ∧ H1 a = some (exv a (.ref C) (some dd)) ∧ H1 dd = some (.xd fs) ∧ fs.lookup n = some v ∧ Q v H1
theorem pe_xg {X : Cx} {e : Expr} {te : TE} {pos : Pos} {n : Str} (he : PE X e te) (hb : attributeBase e n X.env (eval e X.env) = eval e X.env := by rfl) : PE X (.Attribute e n pos) (tXg X.K n te) := by
  refine ⟨fun pins s σ H Q I h => ?_⟩
  refine attr_of hb (thn (he.run pins s σ H _ I h) fun u s1 ⟨x, H1, I1, rx, a, C, dd, fs, v, ex, T, hno, ea, ed, l, q⟩ => ?_)
  subst ex
  obtain rfl : u = Value.ref a := rx
  obtain ⟨oe, vs, e1, z, dat⟩ := exv_at I1.hok ea
  have x : ObjOk X.prog X.w H1 s1.heap dd (.xd fs) := I1.hok dd _ ed
  obtain ⟨mA, hns, hr⟩ := x
  obtain ⟨od, ho, hl⟩ := lookIn_ns hns
  obtain ⟨u, hu, ru⟩ := RelO.some_of (v := v) (o := mA n) (by rw [← l]; exact hr n)
  exact HandSPX.exc_get I1.kIn (⟨e1, z.1, by unfold PySem.W.notCls; rw [dat] <;> rfl, by rw [z.2]; exact ho⟩ : PySem.W.InstAt s1.heap a oe C (some od)) T.xf.ga T.xf.gg T.xf.exC (PySem.W.findObj_own T.xf.hdC hno rfl (by rw [hl, hu])) (handed_of ru) ⟨v, H1, I1.tok _, ru, q⟩
end Eh
set_option Elab.async false
set_option linter.all false
set_option maxRecDepth 100000
set_option maxHeartbeats 4000000
namespace Eh
open PySem PySem.Spec PyProof.Rows L2 Evl
def topS (i : Nat) : Stmt := PySem.Challenge.pw_echohall_k04_boughs.main.body.getD i (.Pass ⟨0, 0, 0, 0⟩)
abbrev sOrderOf : Stmt := topS 14
abbrev sNeedWord : Stmt := topS 15
abbrev sAnswers : Stmt := topS 17
abbrev sAlone : Stmt := topS 18
abbrev sNeedShut : Stmt := topS 19
abbrev sBoughs : Stmt := topS 20
abbrev sWordBy : Stmt := topS 21
abbrev sBlend : Stmt := topS 23
abbrev sPot : Stmt := topS 24
abbrev sPick : Stmt := topS 25
abbrev sLetters : Stmt := topS 26
abbrev sSheet : Stmt := topS 27
abbrev sOrder : Stmt := topS 28
abbrev sShut : Stmt := topS 29
abbrev sAns : Stmt := topS 30
abbrev sSame : Stmt := topS 31
abbrev sKind : Stmt := topS 32
abbrev sLawB : Stmt := topS 33
abbrev sFault : Stmt := topS 34
abbrev sTold : Stmt := topS 35
abbrev sRight : Stmt := topS 36
abbrev sLaw : Stmt := topS 37
theorem scBlend : FnScope ["cell", "at", "one", "two", "three"] ["cell", "at"] (defScope sBlend) := ⟨rfl, rfl, rfl, by decide +kernel, rfl, by decide +kernel, by decide +kernel⟩
theorem scPot : FnScope ["script", "cells", "k", "cell"] ["script"] (defScope sPot) := ⟨rfl, rfl, rfl, by decide +kernel, rfl, by decide +kernel, by decide +kernel⟩
theorem scPick : FnScope ["pot", "many", "at", "cell", "found"] ["pot", "many"] (defScope sPick) := ⟨rfl, rfl, rfl, by decide +kernel, rfl, by decide +kernel, by decide +kernel⟩
theorem scLetters : FnScope ["pot", "many", "small", "k", "rest", "spot", "turn", "size", "found", "part", "at"] ["pot", "many"] (defScope sLetters) := ⟨rfl, rfl, rfl, by decide +kernel, rfl, by decide +kernel, by decide +kernel⟩
theorem scSheet : FnScope ["pot", "most", "letters", "turn", "opens", "plains", "closes"] ["pot", "most"] (defScope sSheet) := ⟨rfl, rfl, rfl, by decide +kernel, rfl, by decide +kernel, by decide +kernel⟩
theorem scOrder : FnScope ["sheet"] ["sheet"] (defScope sOrder) := ⟨rfl, rfl, rfl, by decide +kernel, rfl, by decide +kernel, by decide +kernel⟩
end Eh
set_option Elab.async false
set_option linter.all false
set_option maxRecDepth 100000
set_option maxHeartbeats 4000000
namespace Eh
open PySem PySem.Spec PyProof.Rows L2 Evl
/-! heaps -/
def Keep (p : Addr) (H H' : Hp) : Prop := ∀ b o, b ≠ p → H b = some o → H' b = some o
theorem Keep.refl (p : Addr) (H : Hp) : Keep p H H := fun _ _ _ h => h
theorem Keep.trans {p : Addr} {H H1 H2 : Hp} (a : Keep p H H1) (b : Keep p H1 H2) : Keep p H H2 := fun x o n h => b x o n (a x o n h)
theorem Keep.ofEx {p : Addr} {H H' : Hp} (e : Ex H H') : Keep p H H' := fun b o _ h => e b o h
theorem Keep.new {p q : Addr} {H H' : Hp} {o : HO} (k : Keep p H H') (h : H q = none) : Keep p H (upd H' q o) := fun b u n e => by
  rw [upd_ne (ne_of_none e h)]
  exact k b u n e
theorem Keep.at {p : Addr} {H H' : Hp} {o : HO} (k : Keep p H H') : Keep p H (upd H' p o) := fun b u n e => by
  rw [upd_ne n]
  exact k b u n e
/-- the drawing pot: its cells stand still, how many were drawn and the rest change -/
def Pot (p c : Addr) (ns : List Int) (H : Hp) : Prop := ∃ a r : Int, 0 ≤ a ∧ H p = some (.lst [.ref c, .int a, .int r]) ∧ H c = some (.lst (ns.map V.int))
theorem Pot.ne {p c : Addr} {ns : List Int} {H : Hp} (h : Pot p c ns H) : c ≠ p := by
  obtain ⟨a, r, _, h1, h2⟩ := h
  intro e
  subst e
  have q : [V.ref c, .int a, .int r] = ns.map V.int := by
    have := h1.symm.trans h2
    injection this with this
    injection this
  cases ns with
  | nil => cases q
  | cons x t => cases q
theorem Pot.ex {p c : Addr} {ns : List Int} {H H' : Hp} (h : Pot p c ns H) (e : Ex H H') : Pot p c ns H' := by
  obtain ⟨a, r, h0, h1, h2⟩ := h
  exact ⟨a, r, h0, e _ _ h1, e _ _ h2⟩
theorem Pot.new {p c q : Addr} {ns : List Int} {H : Hp} {o : HO} (h : Pot p c ns H) (hp : p ≠ q) (hc : c ≠ q) : Pot p c ns (upd H q o) := by
  obtain ⟨a, r, h0, h1, h2⟩ := h
  exact ⟨a, r, h0, by rw [upd_ne hp]; exact h1, by rw [upd_ne hc]; exact h2⟩
section
variable {P : Program} {w : World} {K : PySem.W.Frag} {mg : Str → Option Value} {base : Heap}
def spBlend : Sp := fun vs H Q _ => ∃ x a : Int, vs = [.int x, .int a] ∧ ∀ v : Int, Q (.int v) H
theorem ok_blend {f : Addr} {fd : FuncData} {k : Nat} (F : Fun K "_law_blend" "_law_blend" sBlend f fd) : FnOk P w K mg base CX0 (k + 1) f fd ["cell", "at"] spBlend := by
  refine F.ok scBlend (fun vs H Q E h => ?_) (fun cdv A outer s H vs Q E hr h => ?_)
  · obtain ⟨x, a, rfl, _⟩ := h
    rfl
  · obtain ⟨x, a, rfl, q⟩ := h
    refine ⟨_, pss_cons (ps_if (pt_cmpR op_ge (pv 0) (pe_op op_pow pe_int pe_int) (nomark _)) (pss_one (ps_ret (pv 0))) pss_nil)
      (pss_cons (ps_set (i := 2) scBlend.nd rfl (.inl rfl) (pe_op op_mod (pe_op op_add (pe_op op_add (pe_op op_mul (pe_op op_mod (pv 0) pe_int) pe_int) (pe_op op_mul (pv 1) pe_int)) pe_int) pe_int))
      (pss_cons (ps_set (i := 3) scBlend.nd rfl (.inl rfl) (pe_op op_mod (pe_op op_add (pe_op op_add (pe_op op_mul (pv 2) (pv 2)) (pe_op op_mul (pv 1) pe_int)) (pe_op op_mod (pv 0) pe_int)) pe_int))
      (pss_cons (ps_set (i := 4) scBlend.nd rfl (.inl rfl) (pe_op op_mod (pe_op op_add (pe_op op_add (pe_op op_mul (pv 3) (pv 3)) (pe_op op_mul (pv 2) pe_int)) pe_int) pe_int))
      (pss_one (ps_ret (pe_op op_add (pe_op op_mul (pe_op op_add (pe_op op_mul (pv 2) pe_int) (pv 3)) pe_int) (pv 4))))))), ?_⟩
    refine ⟨_, rfl, 10, 18, rfl, rfl, ⟨by decide, by decide, by decide⟩, _, _, rfl, rfl, _, rfl, ite2 (fun e => ?_) (fun e => ?_)⟩
    · exact ⟨_, rfl, q _⟩
    · have big : ∀ j : Int, 0 < j → j < 4294967296 → ∀ y : Int, CMul (y % j) (y % j) := fun j h0 h1 y => .inl ⟨by have := Int.emod_nonneg y (show j ≠ 0 by omega); omega, by have := Int.emod_lt_of_pos y h0; omega⟩
      refine ⟨_, rfl, _, _, rfl, rfl, (by show (0 : Int) < _; decide), _, _, rfl, rfl, .inr ⟨by decide, by decide⟩, _, rfl, _, _, rfl, rfl, .inr ⟨by decide, by decide⟩, _, _, rfl, rfl, _, _, rfl, rfl, _, _, rfl, rfl, (by show (0 : Int) < _; decide), ?_⟩
      refine ⟨_, rfl, _, rfl, _, _, rfl, rfl, big _ (by decide) (by decide) _, _, rfl, _, _, rfl, rfl, .inr ⟨by decide, by decide⟩, _, _, rfl, rfl, _, rfl, _, _, rfl, rfl, (by show (0 : Int) < _; decide), _, _, rfl, rfl, _, _, rfl, rfl, (by show (0 : Int) < _; decide), ?_⟩
      refine ⟨_, rfl, _, rfl, _, _, rfl, rfl, big _ (by decide) (by decide) _, _, rfl, _, _, rfl, rfl, .inr ⟨by decide, by decide⟩, _, _, rfl, rfl, _, _, rfl, rfl, _, _, rfl, rfl, (by show (0 : Int) < _; decide), ?_⟩
      exact ⟨_, rfl, _, _, rfl, rfl, .inr ⟨by decide, by decide⟩, _, rfl, _, _, rfl, rfl, _, _, rfl, rfl, .inr ⟨by decide, by decide⟩, _, rfl, _, _, rfl, rfl, q _⟩
end
end Eh
set_option Elab.async false
set_option linter.all false
set_option maxRecDepth 100000
set_option maxHeartbeats 4000000
namespace Eh
open PySem PySem.Spec PyProof.Rows L2 Evl
theorem dpInts {K : PySem.W.Frag} {H : Hp} : ∀ ns : List Int, DpAll K H (ns.map V.int) (ns.map PyData.int)
  | [] => .nil
  | n :: r => .cons (.int n) (dpInts r)
theorem layInts : ∀ ns : List Int, PyData.canLayAll0 (ns.map PyData.int) = true
  | [] => rfl
  | n :: r => by
    show (true && PyData.canLayAll0 (r.map PyData.int)) = true
    rw [layInts r]
    rfl
theorem deepInts : ∀ ns : List Int, PyData.depthAll (ns.map PyData.int) = 0
  | [] => rfl
  | n :: r => by
    show max 0 (PyData.depthAll (r.map PyData.int)) = 0
    rw [deepInts r]
    rfl
theorem shapedInts (ns : List Int) : SeqAt.shaped (.list (ns.map PyData.int)) = true := by
  unfold SeqAt.shaped
  have h1 : PyData.canLay0 (.list (ns.map PyData.int)) = true := layInts ns
  have h2 : PyData.depth (.list (ns.map PyData.int)) = 1 := by
    show PyData.depthAll (ns.map PyData.int) + 1 = 1
    rw [deepInts]
  rw [h1, h2]
  rfl
theorem shapedNil : SeqAt.shaped (.list []) = true := by decide +kernel
section
variable {P : Program} {w : World} {K : PySem.W.Frag} {mg : Str → Option Value} {base : Heap}
def spPick : Sp := fun vs H Q _ => ∃ (p c : Addr) (ns : List Int) (m : Int), vs = [.ref p, .int m] ∧ 0 < m ∧ m < 1073741824 ∧ Pot p c ns H ∧ ∀ (v : Nat) H', (v : Int) < m → Keep p H H' → Pot p c ns H' → Q (.int v) H'
theorem ok_pick {f fB : Addr} {fd fdB : FuncData} {k : Nat} (F : Fun K "_law_pick" "_law_pick" sPick f fd) (FB : Fun K "_law_blend" "_law_blend" sBlend fB fdB) (bB : Binds K fdB ["cell", "at"] []) (gB : mg "_law_blend" = some (.ref fB)) (ml : mg "len" = none) :
    FnOk P w K mg base CX0 (k + 2) f fd ["pot", "many"] spPick := by
  have GB : FnOk P w K mg base CX0 (k + 1) fB fdB ["cell", "at"] spBlend := ok_blend FB
  have nd := scPick.nd
  refine F.ok scPick (fun vs H Q E h => ?_) (fun cdv A outer s H vs Q E hr h => ?_)
  · obtain ⟨p, c, ns, m, rfl, _⟩ := h
    rfl
  · obtain ⟨p, c, ns, m, rfl, m0, m1, hP, q⟩ := h
    refine ⟨_, pss_cut (ps_if (pt_cmpR op_lt (pe_ix ix_list (pv 0) pe_int (fun _ _ => rfl)) (pv 1) (nomark _))
       (pss_cons (ps_set (i := 2) nd rfl (.inl rfl) (pe_ix ix_list (pv 0) pe_int (fun _ _ => rfl)))
       (pss_cons (ps_set (i := 3) nd rfl (.inl rfl) (pe_op op_mul pe_int (pv 2)))
       (pss_cut (ps_if (pt_cmpR op_lt (pv 2) (pe_callB call_len_seq (by rfl) ml PySem.boot_len (pa_cons (pe_ix ix_list (pv 0) pe_int (fun _ _ => rfl)) pa_nil)) (nomark _))
            (pss_one (ps_set (i := 3) nd rfl (.inl rfl) (pe_ix ix_list (pe_ix ix_list (pv 0) pe_int (fun _ _ => rfl)) (pv 2) (fun _ _ => rfl))))
            (pss_one (ps_if (pt_cmpR (op_neD hr.units) (pe_ix ix_list (pv 0) pe_int (fun _ _ => rfl)) (pe_lst pa_nil) (nomark _))
              (pss_one (ps_set (i := 3) nd rfl (.inl rfl) (pe_op op_mod (pe_ix ix_list (pe_ix ix_list (pv 0) pe_int (fun _ _ => rfl)) (pe_op op_mod (pe_op op_add (pe_op op_mul (pv 2) pe_int) pe_int) (pe_callB call_len_seq (by rfl) ml PySem.boot_len (pa_cons (pe_ix ix_list (pv 0) pe_int (fun _ _ => rfl)) pa_nil))) (fun _ _ => rfl)) (pe_op op_add (pe_op op_pow pe_int pe_int) (pe_op op_mul pe_int (pv 2)))))) pss_nil)))
       (pss_cons (ps_asg (pe_op op_add (pv 2) pe_int) (pg_sub (pv 0) pe_int set_list))
       (pss_one (ps_asg (pe_call GB hr (by rfl) gB FB.kp bB .nil pass0 (pa_cons (pv 3) (pa_cons (pv 2) pa_nil))) (pg_sub (pv 0) pe_int set_list)))))))
       pss_nil)
      (pss_cons (ps_set (i := 4) nd rfl (.inl rfl) (pe_op op_mod (pe_ix ix_list (pv 0) pe_int (fun _ _ => rfl)) (pv 1)))
      (pss_cons (ps_asg (pe_op op_fdiv (pe_ix ix_list (pv 0) pe_int (fun _ _ => rfl)) (pv 1)) (pg_sub (pv 0) pe_int set_list))
      (pss_one (ps_ret (pv 4))))), ?_⟩
    have hne := hP.ne
    obtain ⟨a, r, a0, hp, hc⟩ := hP
    refine ⟨fun σ' H' => (∃ y2 y3, σ' = [some (.ref p), some (.int m), y2, y3, none]) ∧ Keep p H H' ∧ Pot p c ns H', ?_, ?_⟩
    · refine ⟨_, rfl, p, _, 2, .int r, rfl, rfl, sq_of hp, rfl, _, rfl, _, _, rfl, rfl, _, rfl, ite2 (fun e => ?_) (fun e => ?_)⟩
      · refine ⟨_, rfl, p, _, 1, .int a, rfl, rfl, sq_of hp, rfl, ?_⟩
        refine ⟨_, rfl, _, _, rfl, rfl, .inl ⟨by decide, by decide⟩, ?_⟩
        refine ⟨fun σ' H' => ∃ y3 : Int, σ' = [some (.ref p), some (.int m), some (.int a), some (.int y3), none] ∧ Ex H H', ?_, ?_⟩
        · refine ⟨_, rfl, _, rfl, p, _, 0, .ref c, rfl, rfl, sq_of hp, rfl, c, _, rfl, .inl (sq_of hc), _, _, rfl, rfl, _, rfl, ite2 (fun e => ?_) (fun e => ?_)⟩
          · have ha : a < (ns.map V.int).length := of_decide_eq_true e
            have hb : a.toNat < ns.length := by
              rw [List.length_map] at ha
              omega
            refine ⟨_, rfl, p, _, 0, .ref c, rfl, rfl, sq_of hp, rfl, _, rfl, c, _, a, .int ns[a.toNat], rfl, rfl, sq_of hc, at_of (j := a.toNat) (by omega) ?_, _, rfl, Ex.refl _⟩
            rw [List.getElem?_map, List.getElem?_eq_getElem hb]
            rfl
          · refine ⟨_, rfl, p, _, 0, .ref c, rfl, rfl, sq_of hp, rfl, Nat.zero_le _, fun u hu => ?_⟩
            have e1 : Ex H (upd H u (.lst [])) := Ex.new hu
            refine ⟨.list (ns.map PyData.int), .list [], .lst (sq_of (e1 _ _ hc)) (dpInts ns), .lst (sq_of upd_same) .nil, shapedInts ns, shapedNil, _, rfl, ite2 (fun e => ?_) (fun e => ?_)⟩
            · have h0 : 0 < ns.length := by
                cases ns with
                | nil => exact absurd e (by decide)
                | cons x t => exact Nat.succ_pos _
              have hl : (0 : Int) < ((ns.map V.int).length : Int) := by
                rw [List.length_map]
                omega
              have g0 := Int.emod_nonneg (a * 7 + 1) (show ((ns.map V.int).length : Int) ≠ 0 by omega)
              have g1 := Int.emod_lt_of_pos (a * 7 + 1) hl
              have hb : ((a * 7 + 1) % ((ns.map V.int).length : Int)).toNat < ns.length := by
                rw [List.length_map] at g0 g1 ⊢
                omega
              refine ⟨_, rfl, p, _, 0, .ref c, rfl, rfl, sq_of (e1 _ _ hp), rfl, _, rfl, _, _, rfl, rfl, .inr ⟨by decide, by decide⟩, _, _, rfl, rfl, _, rfl, p, _, 0, .ref c, rfl, rfl, sq_of (e1 _ _ hp), rfl, c, _, rfl, .inl (sq_of (e1 _ _ hc)), _, _, rfl, rfl, hl, c, _, _, .int ns[((a * 7 + 1) % ((ns.map V.int).length : Int)).toNat], rfl, rfl, sq_of (e1 _ _ hc), at_of (j := ((a * 7 + 1) % ((ns.map V.int).length : Int)).toNat) (by omega) ?_, _, _, rfl, rfl, ⟨by decide, by decide, by decide⟩, _, rfl, _, _, rfl, rfl, .inl ⟨by decide, by decide⟩, _, _, rfl, rfl, _, _, rfl, rfl, ?_, _, rfl, e1⟩
              · rw [List.getElem?_map, List.getElem?_eq_getElem hb]
                rfl
              · show (0 : Int) < 10 ^ (17 : Int).toNat + 3 * a
                have : (10 : Int) ^ (17 : Int).toNat = 100000000000000000 := by decide
                omega
            · exact ⟨_, rfl, e1⟩
        · rintro σ' H' ⟨y3, rfl, e1⟩
          refine ⟨_, rfl, _, _, rfl, rfl, _, rfl, p, _, 1, 1, rfl, rfl, e1 _ _ hp, rfl, ?_⟩
          refine ⟨_, rfl, _, rfl, _, _, rfl, fun v => ⟨_, rfl, p, _, 2, 2, rfl, rfl, upd_same, rfl, ⟨_, _, rfl⟩, ?_, a + 1, v, by omega, upd_same, ?_⟩⟩
          · exact ((Keep.ofEx e1).at).at
          · rw [upd_ne hne, upd_ne hne]
            exact e1 _ _ hc
      · exact ⟨⟨_, _, rfl⟩, Keep.refl _ _, a, r, a0, hp, hc⟩
    · rintro σ' H' ⟨⟨y2, y3, rfl⟩, kp, a', r', a0', hp', hc'⟩
      have g0 := Int.emod_nonneg r' (show m ≠ 0 by omega)
      have g1 := Int.emod_lt_of_pos r' m0
      refine ⟨_, rfl, p, _, 2, .int r', rfl, rfl, sq_of hp', rfl, _, rfl, _, _, rfl, rfl, m0, ?_⟩
      refine ⟨_, rfl, p, _, 2, .int r', rfl, rfl, sq_of hp', rfl, _, rfl, _, _, rfl, rfl, ⟨m0, m1⟩, _, rfl, p, _, 2, 2, rfl, rfl, hp', rfl, ?_⟩
      refine ⟨_, rfl, ?_⟩
      have e : r' % m = ((r' % m).toNat : Int) := by omega
      show Q (.int (r' % m)) _
      rw [e]
      refine q _ _ (by omega) kp.at ⟨a', r' / m, a0', upd_same, ?_⟩
      rw [upd_ne hne]
      exact hc'
end
end Eh
set_option Elab.async false
set_option linter.all false
set_option maxRecDepth 100000
set_option maxHeartbeats 4000000
namespace Eh
open PySem PySem.Spec PyProof.Rows L2 Evl
/-- for i, x in enumerate(list) -/
theorem for_enum {K : PySem.W.Frag} {a : Addr} {xs : List V} {tb : TS} {D : Ends} {σ : L2.St} {H : Hp} {i1 i2 : Nat} (Pv : Nat → L2.St → Hp → Prop) (h0 : Pv 0 σ H) (hl : ∀ i σ H, i ≤ xs.length → Pv i σ H → SqL K H a xs)
    (hs : ∀ i x σ H T, xs[i]? = some x → Pv i σ H → H T = none → tb { D with nx := Pv (i + 1), ct := Pv (i + 1), bk := D.nx } ((σ.set i1 (some (.int (i : Nat)))).set i2 (some x)) (upd H T (.tup [.int (i : Nat), x])))
    (hd : ∀ σ H, Pv xs.length σ H → D.nx σ H) :
    ∃ W : Nat → Nat → L2.St → Hp → Prop, (∃ m, W 0 m σ H) ∧ ∀ i m σ H, W i m σ H →
      ((Ite K a).stop i H ∧ D.nx σ H) ∨ ((Ite K a).go i H ∧ ∃ N : L2.St → Hp → Prop, (∀ σ' H', N σ' H' → ∃ m', m' < m ∧ W (i + 1) m' σ' H') ∧ ∀ x H', (Ite K a).yld i H x H' → gTup K 2 (gCons (gName i1) (gCons (gName i2) gNil)) x σ H' fun σ2 H2 => tb { D with nx := N, ct := N, bk := D.nx } σ2 H2) := by
  refine ⟨fun i m σ H => m = xs.length - i ∧ i ≤ xs.length ∧ Pv i σ H, ⟨xs.length, by omega, Nat.zero_le _, h0⟩, ?_⟩
  rintro i m σ H ⟨rfl, hi, p⟩
  have q := hl i σ H hi p
  by_cases hlt : i < xs.length
  · refine .inr ⟨⟨xs, xs[i], q, List.getElem?_eq_getElem hlt⟩, Pv (i + 1), fun σ' H' p' => ⟨xs.length - (i + 1), by omega, rfl, hlt, p'⟩, fun v H' y => ?_⟩
    obtain ⟨T, x, rfl, nT, rfl, f⟩ := y
    exact ⟨T, [.int (i : Nat), x], rfl, st_of upd_same, rfl, _, _, rfl, _, _, rfl, rfl, hs i x σ H T (f xs q) p nT⟩
  · have e : i = xs.length := by omega
    subst e
    exact .inl ⟨⟨xs, q, Nat.le_refl _⟩, hd σ H p⟩
theorem cut0 (xs : List V) (n : Nat) : cutV xs none (some (n : Int)) = xs.take n := by
  unfold cutV
  rw [HT.sIx_none, HT.sIx_nat, List.drop_zero, Nat.sub_zero]
  rw [List.take_eq_take_iff]
  omega
theorem cutF (xs : List V) (n : Nat) : cutV xs (some (n : Int)) none = xs.drop n := by
  unfold cutV
  rw [HT.sIx_none, HT.sIx_nat]
  by_cases h : n ≤ xs.length
  · rw [Nat.min_eq_left h]
    exact List.take_of_length_le (by rw [List.length_drop]; exact Nat.le_refl _)
  · rw [Nat.min_eq_right (by omega), List.drop_of_length_le (Nat.le_refl _), List.drop_of_length_le (by omega)]
    exact List.take_nil
theorem cutLH (xs : List V) (n m : Nat) : cutV xs (some (n : Int)) (some (m : Int)) = (xs.take m).drop n := by
  unfold cutV
  rw [HT.sIx_nat, HT.sIx_nat, List.drop_take]
  by_cases h : n ≤ xs.length
  · rw [Nat.min_eq_left h, List.take_eq_take_iff, List.length_drop]
    omega
  · rw [Nat.min_eq_right (show xs.length ≤ n by omega), List.drop_of_length_le (Nat.le_refl _), List.drop_of_length_le (show xs.length ≤ n by omega), List.take_nil, List.take_nil]
section
variable {P : Program} {w : World} {K : PySem.W.Frag} {mg : Str → Option Value} {base : Heap}
def spPot (K : PySem.W.Frag) : Sp := fun vs H Q _ => ∃ (a : Addr) (ns : List Int), vs = [.ref a] ∧ SqL K H a (ns.map V.int) ∧ ns.length ≤ 63 ∧ ∀ (p c : Addr) (ms : List Int) H', Ex H H' → Pot p c ms H' → H p = none → H c = none → Q (.ref p) H'
theorem ok_pot {f : Addr} {fd : FuncData} {k : Nat} (F : Fun K "_law_pot" "_law_pot" sPot f fd) (ml : mg "list" = none) (me : mg "enumerate" = none) :
    FnOk P w K mg base CX0 (k + 1) f fd ["script"] (spPot K) := by
  have nd := scPot.nd
  refine F.ok scPot (fun vs H Q E h => ?_) (fun cdv A outer s H vs Q E hr h => ?_)
  · obtain ⟨a, ns, rfl, _⟩ := h
    rfl
  · obtain ⟨a, ns, rfl, hS, hl, q⟩ := h
    refine ⟨_, pss_cons (ps_set (i := 1) nd rfl (.inl rfl) (pe_callTy call_list_of (by rfl) ml (by decide +kernel) (pa_cons (pe_slice sl_list (pv 0) po_none (po_some pe_int)) pa_nil)))
      (pss_cons (ps_for PassesOwn.never rfl (pi_enum (by rfl) me (pa_cons (pe_slice sl_list (pv 0) (po_some pe_int) (po_some pe_int)) pa_nil)) (pg_tup rfl (pgs_cons (pg_name (i := 2) nd rfl (.inl rfl)) (pgs_cons (pg_name (i := 3) nd rfl (.inl rfl)) pgs_nil)))
         (pss_one (ps_asg (pe_op op_add (pe_ix ix_list (pv 1) (pe_op op_mod (pv 2) pe_int) (fun _ _ => rfl)) (pv 3)) (pg_sub (pv 1) (pe_op op_mod (pv 2) pe_int) set_list))))
      (pss_one (ps_ret (pe_lst (pa_cons (pv 1) (pa_cons pe_int (pa_cons pe_int pa_nil))))))), ?_⟩
    refine ⟨_, rfl, 12, rfl, a, _, rfl, hS, fun u hu => ⟨u, _, rfl, .inl (sq_of upd_same), fun c hc => ?_⟩⟩
    have hcu : c ≠ u := fun e => by
      rw [e, upd_same] at hc
      cases hc
    have hcH : H c = none := by rw [← hc, upd_ne hcu]
    have e1 : Ex H (upd (upd H u (.lst (cutV (ns.map V.int) none (some 12)))) c (.lst (cutV (ns.map V.int) none (some 12)))) := (Ex.new hu).trans (Ex.new hc)
    have ec : cutV (ns.map V.int) none (some 12) = (ns.take 12).map V.int := by
      rw [show (some 12 : Option Int) = some ((12 : Nat) : Int) from rfl, cut0, List.map_take]
    rw [ec] at e1
    rw [ec]
    generalize hH1 : upd (upd H u (.lst ((ns.take 12).map V.int))) c (.lst ((ns.take 12).map V.int)) = H1 at e1 ⊢
    have hc1 : H1 c = some (.lst ((ns.take 12).map V.int)) := by
      rw [← hH1]
      exact upd_same
    refine ⟨_, rfl, 12, rfl, 63, rfl, a, _, rfl, ex_l e1 hS, fun l nl => ?_⟩
    have es : cutV (ns.map V.int) (some 12) (some 63) = ((ns.take 63).drop 12).map V.int := by
      rw [show (some 12 : Option Int) = some ((12 : Nat) : Int) from rfl, show (some 63 : Option Int) = some ((63 : Nat) : Int) from rfl, cutLH, List.map_drop, List.map_take]
    rw [es]
    have nlc : l ≠ c := fun e => by
      rw [e, hc1] at nl
      cases nl
    refine ⟨l, _, rfl, sq_of upd_same, for_enum (xs := ((ns.take 63).drop 12).map V.int) (fun i σ H' => (∃ y2 y3, σ = [some (.ref a), some (.ref c), y2, y3]) ∧ Ex H H' ∧ H' l = some (.lst (((ns.take 63).drop 12).map V.int)) ∧ ∃ ms : List Int, ms.length = min 12 ns.length ∧ H' c = some (.lst (ms.map V.int))) ?_ ?_ ?_ ?_⟩
    · refine ⟨⟨_, _, rfl⟩, e1.trans (Ex.new nl), upd_same, ns.take 12, ?_, ?_⟩
      · rw [List.length_take]
      · rw [upd_ne nlc.symm]
        exact hc1
    · rintro i σ H' _ ⟨_, _, h, _⟩
      exact sq_of h
    · rintro i x σ H' T hx ⟨⟨y2, y3, rfl⟩, eH, hl', ms, hms, hc'⟩ nT
      have ex : ∃ z : Int, x = .int z := by
        rw [List.getElem?_map] at hx
        obtain ⟨z, _, e⟩ := Option.map_eq_some_iff.mp hx
        exact ⟨z, e.symm⟩
      obtain ⟨z, rfl⟩ := ex
      have hi : 12 < ns.length := by
        have := (List.getElem?_eq_some_iff.mp hx).1
        rw [List.length_map, List.length_drop, List.length_take] at this
        omega
      have g0 : ((i : Int) % 12) = ((i % 12 : Nat) : Int) := by omega
      have hj : i % 12 < ms.length := by
        rw [hms]
        have := Nat.mod_lt i (show 0 < 12 by decide)
        omega
      have eT : Ex H' (upd H' T (.tup [.int (i : Nat), .int z])) := Ex.new nT
      have ix : (ms.map V.int)[i % 12]? = some (.int ms[i % 12]) := by
        rw [List.getElem?_map, List.getElem?_eq_getElem hj]
        rfl
      refine ⟨_, rfl, _, rfl, _, _, rfl, rfl, (by show (0 : Int) < _; decide), c, _, _, _, rfl, rfl, sq_of (eT _ _ hc'), at_of (j := i % 12) g0 ix, _, rfl, _, _, rfl, rfl, _, rfl, _, rfl, _, _, rfl, rfl, (by show (0 : Int) < _; decide), c, _, _, i % 12, rfl, rfl, eT _ _ hc', ?_, ⟨_, _, rfl⟩, ?_, ?_, ms.set (i % 12) (ms[i % 12] + z), ?_, ?_⟩
      · show ixN _ ((i : Int) % 12) = _
        rw [g0]
        exact ixN_nat (by rw [List.length_map]; exact hj)
      · exact Ex.mut (eH.trans eT) hcH
      · rw [upd_ne nlc]
        exact eT _ _ hl'
      · rw [List.length_set]
        exact hms
      · rw [upd_same, List.map_set]
    · rintro σ H' ⟨⟨y2, y3, rfl⟩, eH, hl', ms, hms, hc'⟩
      refine ⟨_, rfl, (by show 3 ≤ sizeLine; decide), fun p np => q p c ms _ (eH.trans (Ex.new np)) ⟨0, 0, by decide, upd_same, ?_⟩ (fresh_back eH np) hcH⟩
      have : c ≠ p := fun e => by
        rw [← e, hc'] at np
        cases np
      rw [upd_ne this]
      exact hc'
end
end Eh
set_option Elab.async false
set_option linter.all false
set_option maxRecDepth 100000
set_option maxHeartbeats 4000000
namespace Eh
open PySem PySem.Spec PyProof.Rows L2 Evl TL
/-! texts as lists of codes -/
abbrev cs (w : Str) : List Nat := w.cps.toList
theorem cs_ext {x y : Str} (h : cs x = cs y) : x = y := by
  cases x with | mk a => cases y with | mk b =>
  have : a = b := by
    apply Array.ext'
    exact h
  rw [this]
def az (c : Nat) : Prop := 97 ≤ c ∧ c < 123
/-- what is drawn as a letter -/
def Ltr (w : Str) : Prop := (∀ c ∈ cs w, az c) ∧ 1 ≤ (cs w).length ∧ (cs w).length ≤ 8
def spotAt (spot n : Nat) : Nat := if spot = 0 then 0 else if spot = 1 then n else n / 2
def mkL (rest : List Nat) (spot turn size k : Nat) : List Nat :=
  (rest.take ((size + k * (spot % 2)) % 8)).take (spotAt spot (rest.take ((size + k * (spot % 2)) % 8)).length) ++ ([97 + (turn + 5 * k) % 26] ++ (rest.take ((size + k * (spot % 2)) % 8)).drop (spotAt spot (rest.take ((size + k * (spot % 2)) % 8)).length))
theorem mkL_inj {rest : List Nat} {spot turn size k1 k2 : Nat} (hs : spot < 3) (h1 : k1 < 26) (h2 : k2 < 26) (h : mkL rest spot turn size k1 = mkL rest spot turn size k2) : k1 = k2 := by
  have key : 97 + (turn + 5 * k1) % 26 = 97 + (turn + 5 * k2) % 26 → k1 = k2 := fun e => by omega
  apply key
  unfold mkL at h
  have cases3 : spot = 0 ∨ spot = 1 ∨ spot = 2 := by omega
  rcases cases3 with rfl | rfl | rfl
  · simp only [spotAt, if_true, List.take_zero, List.nil_append, List.cons_append] at h
    exact (List.cons.inj h).1
  · have n1 : ∀ l : List Nat, spotAt 1 l.length = l.length := fun l => rfl
    rw [n1, n1, List.take_length, List.take_length, List.drop_length, List.drop_length, List.append_nil, List.append_nil] at h
    exact (List.cons.inj (List.append_inj' h rfl).2).1
  · rw [show k1 * (2 % 2) = 0 from Nat.mul_zero _, show k2 * (2 % 2) = 0 from Nat.mul_zero _] at h
    have := List.append_cancel_left h
    exact (List.cons.inj this).1
theorem mkL_len {rest : List Nat} {spot turn size k : Nat} : (mkL rest spot turn size k).length = (rest.take ((size + k * (spot % 2)) % 8)).length + 1 := by
  unfold mkL
  generalize rest.take ((size + k * (spot % 2)) % 8) = l
  rw [List.length_append, List.length_append, List.length_take, List.length_drop, List.length_singleton]
  omega
theorem mkL_az {rest : List Nat} {spot turn size k : Nat} (h : ∀ c ∈ rest, az c) : ∀ c ∈ mkL rest spot turn size k, az c := by
  intro c hc
  unfold mkL at hc
  rcases List.mem_append.mp hc with q | q
  · exact h c (List.mem_of_mem_take (List.mem_of_mem_take q))
  · rcases List.mem_append.mp q with q | q
    · rw [List.mem_singleton.mp q]
      unfold az
      omega
    · exact h c (List.mem_of_mem_take (List.mem_of_mem_drop q))
def mkS (rest : List Nat) (spot turn size k : Nat) : Str := ⟨(mkL rest spot turn size k).toArray⟩
theorem cs_mkS {rest : List Nat} {spot turn size k : Nat} : cs (mkS rest spot turn size k) = mkL rest spot turn size k := rfl
def mkAll (rest : List Nat) (spot turn size n : Nat) : List Str := (List.range n).map (mkS rest spot turn size)
theorem mkAll_nodup {rest : List Nat} {spot turn size n : Nat} (hs : spot < 3) (hn : n ≤ 26) : (mkAll rest spot turn size n).Nodup := by
  unfold mkAll
  rw [List.Nodup, List.pairwise_map]
  refine List.Pairwise.imp_of_mem (fun {a b} ha hb hab e => hab ?_) (List.nodup_range (n := n))
  have ha' := List.mem_range.mp ha
  have hb' := List.mem_range.mp hb
  exact mkL_inj hs (by omega) (by omega) (by
    have := congrArg cs e
    exact this)
theorem mkAll_ltr {rest : List Nat} {spot turn size n : Nat} (h : ∀ c ∈ rest, az c) : ∀ w ∈ mkAll rest spot turn size n, Ltr w := by
  intro w hw
  obtain ⟨k, _, rfl⟩ := List.mem_map.mp hw
  refine ⟨fun c hc => mkL_az h c hc, ?_, ?_⟩
  · rw [cs_mkS, mkL_len]
    omega
  · rw [cs_mkS, mkL_len, List.length_take]
    omega
theorem joinL_nil : ∀ ls : List (List Nat), joinL [] ls = ls.flatten
  | [] => rfl
  | [p] => by simp [joinL]
  | p :: q :: r => by
    show p ++ ([] ++ joinL [] (q :: r)) = (p :: q :: r).flatten
    rw [joinL_nil (q :: r), List.nil_append]
    rfl
theorem flat_one : ∀ ds : List Nat, (ds.map fun c => [c]).flatten = ds
  | [] => rfl
  | d :: r => by
    show [d] ++ (r.map fun c => [c]).flatten = d :: r
    rw [flat_one r]
    rfl
theorem cs_join (ds : List Nat) : cs (Txt.join (Str.ofString "") (ds.map fun c => (⟨#[c]⟩ : Str))) = ds := by
  have h := tl_join (Str.ofString "") (ds.map fun c => (⟨#[c]⟩ : Str))
  rw [← join_eq, show tl (Str.ofString "") = [] from rfl, joinL_nil, List.map_map] at h
  exact h.trans (flat_one ds)
abbrev alpha : Str := Str.ofString "abcdefghijklmnopqrstuvwxyz"
theorem cs_alpha : cs alpha = (List.range 26).map (97 + ·) := by decide +kernel
theorem alpha_at {v : Nat} (h : v < 26) : atI (cs alpha) (v : Int) = some (97 + v) := by
  refine atI_nat ?_
  rw [cs_alpha, List.getElem?_map, List.getElem?_range h]
  rfl
theorem cs_app (x y : Str) : cs (x ++ y) = cs x ++ cs y := tl_append x y
theorem len_cs (x : Str) : x.length = (cs x).length := by simp [Str.length]
theorem cs_cut0 (x : Str) (n : Nat) : cs (cutS x none (some (n : Int))) = (cs x).take n := by
  unfold cutS
  rw [HT.sIx_none, HT.sIx_nat]
  show ((cs x).drop 0).take _ = _
  rw [List.drop_zero, Nat.sub_zero, List.take_eq_take_iff, len_cs]
  omega
theorem cs_cutF (x : Str) (n : Nat) : cs (cutS x (some (n : Int)) none) = (cs x).drop n := by
  unfold cutS
  rw [HT.sIx_none, HT.sIx_nat, len_cs]
  show ((cs x).drop _).take _ = _
  by_cases h : n ≤ (cs x).length
  · rw [Nat.min_eq_left h]
    exact List.take_of_length_le (by rw [List.length_drop]; exact Nat.le_refl _)
  · rw [Nat.min_eq_right (show (cs x).length ≤ n by omega), List.drop_of_length_le (Nat.le_refl _), List.drop_of_length_le (show (cs x).length ≤ n by omega), List.take_nil]
end Eh
set_option Elab.async false
set_option linter.all false
set_option maxRecDepth 100000
set_option maxHeartbeats 4000000
namespace Eh
open PySem PySem.Spec PyProof.Rows L2 Evl
abbrev lS (ws : List Str) : HO := .lst (ws.map V.str)
abbrev nLetters : List Str := ["pot", "many", "small", "k", "rest", "spot", "turn", "size", "found", "part", "at"]
theorem yesT {σ : L2.St} {H : Hp} {A B : Hp → Prop} (h : A H) : tYes σ H (fun b H3 => if b = true then A H3 else B H3) := by
  show if true = true then A H else B H
  exact iteT h
theorem Pot.ne_new {p c q : Addr} {ns : List Int} {H : Hp} (h : Pot p c ns H) (hq : H q = none) : p ≠ q ∧ c ≠ q := by
  obtain ⟨a, r, h0, h1, h2⟩ := h
  exact ⟨ne_of_none h1 hq, ne_of_none h2 hq⟩
section
variable {P : Program} {w : World} {K : PySem.W.Frag} {mg : Str → Option Value} {base : Heap}
def spLetters : Sp := fun vs H Q _ => ∃ (p c : Addr) (ns : List Int) (m : Nat), vs = [.ref p, .int (m : Int)] ∧ m ≤ 26 ∧ Pot p c ns H ∧
  ∀ (ws : List Str) l H', ws.length = m → ws.Nodup → (∀ x ∈ ws, Ltr x) → Keep p H H' → Pot p c ns H' → H l = none → H' l = some (lS ws) → Q (.ref l) H'
theorem ok_letters {f fP : Addr} {fd fdP : FuncData} {k : Nat} (F : Fun K "_law_letters" "_law_letters" sLetters f fd) (FP : Fun K "_law_pick" "_law_pick" sPick fP fdP) (GP : FnOk P w K mg base CX0 (k + 1) fP fdP ["pot", "many"] spPick) (bP : Binds K fdP ["pot", "many"] []) (gP : mg "_law_pick" = some (.ref fP)) (ml : mg "len" = none) (mr : mg "range" = none) :
    FnOk P w K mg base CX0 (k + 2) f fd ["pot", "many"] spLetters := by
  have nd := scLetters.nd
  refine F.ok scLetters (fun vs H Q E h => ?_) (fun cdv A outer s H vs Q E hr h => ?_)
  · obtain ⟨p, c, ns, m, rfl, _⟩ := h
    rfl
  · obtain ⟨p, c, ns, m, rfl, m1, hP, q⟩ := h
    refine ⟨_, pss_cons (ps_set (i := 2) nd rfl (.inr rfl) pe_str)
      (pss_cons (ps_set (i := 4) nd rfl (.inl rfl) (pe_join pe_str (pe_lc (own := [("k", 3)]) (g := gName 3) (tt := tYes) (by rfl) nd (pi_range1 (by rfl) mr (pa_cons pe_int pa_nil)) (blkOk_by (own := [("k", 3)]) (N := nLetters) (sc := defScope sLetters) (by decide +kernel)) (fun _ _ _ _ _ => pg_name (i := 3) nd rfl (Or.inl rfl)) (fun _ _ _ _ _ => pts_nil)
          (fun _ _ _ _ _ => pe_ix ix_str (pv 2) (pe_call GP hr (by rfl) gP FP.kp bP .nil pass0 (pa_cons (pv 0) (pa_cons pe_int pa_nil))) (fun _ _ => rfl)))))
      (pss_cons (ps_set (i := 5) nd rfl (.inl rfl) (pe_call GP hr (by rfl) gP FP.kp bP .nil pass0 (pa_cons (pv 0) (pa_cons pe_int pa_nil))))
      (pss_cons (ps_set (i := 6) nd rfl (.inl rfl) (pe_call GP hr (by rfl) gP FP.kp bP .nil pass0 (pa_cons (pv 0) (pa_cons pe_int pa_nil))))
      (pss_cons (ps_set (i := 7) nd rfl (.inl rfl) (pe_call GP hr (by rfl) gP FP.kp bP .nil pass0 (pa_cons (pv 0) (pa_cons pe_int pa_nil))))
      (pss_cons (ps_set (i := 8) nd rfl (.inl rfl) (pe_lst pa_nil))
      (pss_cons (ps_for PassesOwn.never rfl (pi_range1 (by rfl) mr (pa_cons (pv 1) pa_nil)) (pg_name (i := 3) nd rfl (.inl rfl))
        (pss_cons (ps_set (i := 9) nd rfl (.inl rfl) (pe_slice sl_str (pv 4) po_none (po_some (pe_op op_mod (pe_op op_add (pv 7) (pe_op op_mul (pv 3) (pe_op op_mod (pv 5) pe_int))) pe_int))))
        (pss_cons (ps_set (i := 10) nd rfl (.inl rfl) (pe_ix ix_list (pe_lst (pa_cons pe_int (pa_cons (pe_callB call_len_str (by rfl) ml PySem.boot_len (pa_cons (pv 9) pa_nil)) (pa_cons (pe_op op_fdiv (pe_callB call_len_str (by rfl) ml PySem.boot_len (pa_cons (pv 9) pa_nil)) pe_int) pa_nil)))) (pv 5) (fun _ _ => rfl)))
        (pss_one (ps_expr (pe_bm PySem.F.plainAttrs_list PySem.F.slot_list_append PySem.F.type_list_append mt_append (pv 8) (pa_cons (pe_op op_add_str (pe_op op_add_str (pe_slice sl_str (pv 9) po_none (po_some (pv 10))) (pe_ix ix_str (pv 2) (pe_op op_mod (pe_op op_add (pv 6) (pe_op op_mul pe_int (pv 3))) pe_int) (fun _ _ => rfl))) (pe_slice sl_str (pv 9) (po_some (pv 10)) po_none)) pa_nil)))))))
      (pss_one (ps_ret (pv 8))))))))), ?_⟩
    -- rest
    refine ⟨⟨_, rfl⟩, 7, rfl, by decide, by decide, fun D nD => ?_⟩
    refine lc_range (lo := 0) (n := 7) (fun i H' => ∃ ds : List Nat, ds.length = i ∧ (∀ d ∈ ds, az d) ∧ H' D = some (.lst (ds.map fun d => .str ⟨#[d]⟩)) ∧ Keep p H H' ∧ Pot p c ns H') ?_ ?_ ?_
    · exact ⟨[], rfl, fun d hd => (List.not_mem_nil hd).elim, upd_same, (Keep.refl p H).new nD, hP.new (hP.ne_new nD).1 (hP.ne_new nD).2⟩
    · rintro i H' hi ⟨ds, hds, haz, hD, kp, hP'⟩
      refine ⟨rfl, ?_⟩
      refine yesT ?_
      refine ⟨_, rfl, _, rfl, p, c, ns, 26, rfl, by decide, by decide, hP', fun v H2 hv kp2 hP2 => ?_⟩
      have hv' : v < 26 := by omega
      have hpD := (hP.ne_new nD).1
      have hD2 : H2 D = some (.lst (ds.map fun d => .str ⟨#[d]⟩)) := kp2 _ _ hpD.symm hD
      refine ⟨_, _, 97 + v, rfl, rfl, by decide, alpha_at hv', _, hD2, ?_, ds ++ [97 + v], ?_, ?_, ?_, ?_, ?_⟩
      · rw [List.length_map]
        exact sz_lt (by omega)
      · rw [List.length_append, hds]
        rfl
      · intro d hd
        rcases List.mem_append.mp hd with z | z
        · exact haz d z
        · rw [List.mem_singleton.mp z]
          unfold az
          omega
      · rw [upd_same, List.map_append]
        rfl
      · exact (kp.trans kp2).new nD
      · exact hP2.new hpD (hP.ne_new nD).2
    · rintro H1 ⟨ds, hds, haz, hD, kp, hP1⟩
      have hlen : ((ds.map fun d => (⟨#[d]⟩ : Str)).map (·.length)).sum ≤ 100 := by
        have : ∀ l : List Nat, ((l.map fun d => (⟨#[d]⟩ : Str)).map (·.length)).sum = l.length := fun l => by
          induction l with
          | nil => rfl
          | cons x r ih =>
            rw [List.map_cons, List.map_cons, List.sum_cons, ih, List.length_cons, show (⟨#[x]⟩ : Str).length = 1 from rfl]
            omega
        rw [this]
        omega
      refine ⟨_, D, ds.map fun d => (⟨#[d]⟩ : Str), rfl, rfl, .inl (sq_of (by rw [List.map_map]; exact hD)), ?_, ?_⟩
      · rw [List.length_map, show (Str.ofString "").length = 0 from rfl]
        omega
      · generalize hR : Txt.join (Str.ofString "") (ds.map fun d => (⟨#[d]⟩ : Str)) = rest
        have cR : cs rest = ds := by
          rw [← hR]
          exact cs_join ds
        -- spot, turn, size
        refine ⟨_, rfl, p, c, ns, 3, rfl, by decide, by decide, hP1, fun spot H2 hspot kp2 hP2 => ?_⟩
        refine ⟨_, rfl, p, c, ns, 26, rfl, by decide, by decide, hP2, fun turn H3 hturn kp3 hP3 => ?_⟩
        refine ⟨_, rfl, p, c, ns, 8, rfl, by decide, by decide, hP3, fun size H4 hsize kp4 hP4 => ?_⟩
        have kp04 : Keep p H H4 := ((kp.trans kp2).trans kp3).trans kp4
        refine ⟨Nat.zero_le _, fun l nl => ?_⟩
        have hpl := hP4.ne_new nl
        have nlH : H l = none := by
          cases e : H l with
          | none => rfl
          | some o =>
            by_cases z : l = p
            · exact absurd z.symm hpl.1
            · rw [kp04 l o z e] at nl
              cases nl
        refine ⟨_, rfl, m, rfl, by omega, by omega, for_range (lo := 0) (n := ((m : Int)).toNat) (fun i σ H' => (∃ y3 y9 y10, σ = [some (.ref p), some (.int (m : Int)), some (.str alpha), y3, some (.str rest), some (.int (spot : Int)), some (.int (turn : Int)), some (.int (size : Int)), some (.ref l), y9, y10]) ∧ Keep p H H' ∧ Pot p c ns H' ∧ H' l = some (lS (mkAll (cs rest) spot turn size i))) ?_ ?_ ?_⟩
        · exact ⟨⟨_, _, _, rfl⟩, kp04.new nlH, hP4.new hpl.1 hpl.2, upd_same⟩
        · rintro i σ H' hi ⟨⟨y3, y9, y10, rfl⟩, kp', hP', hl'⟩
          have hi' : i < m := by omega
          have e0 : (0 : Int) + (i : Int) = (i : Int) := Int.zero_add _
          rw [e0]
          have e1 : ((size : Int) + (i : Int) * ((spot : Int) % 2)) % 8 = (((size + i * (spot % 2)) % 8 : Nat) : Int) := by
            rw [show ((spot : Int) % 2) = ((spot % 2 : Nat) : Int) by omega, ← Int.natCast_mul]
            generalize i * (spot % 2) = z
            omega
          have lenR : rest.length ≤ sizeLine := sz_of (by rw [len_cs, cR]; omega)
          refine ⟨_, rfl, _, rfl, _, rfl, _, rfl, _, _, rfl, rfl, (by show (0 : Int) < _; decide), _, _, rfl, rfl, .inr (by rcases (show spot % 2 = 0 ∨ spot % 2 = 1 by omega) with z | z <;> exact ⟨by show -(2 ^ 64) < (spot : Int) % 2; omega, by show (spot : Int) % 2 < 2 ^ 64; omega⟩), _, _, rfl, rfl, _, _, rfl, rfl, (by show (0 : Int) < _; decide), _, rfl, rest, rfl, lenR, ?_⟩
          show tSeq _ _ _ [some (.ref p), some (.int (m : Int)), some (.str alpha), some (.int (i : Int)), some (.str rest), some (.int (spot : Int)), some (.int (turn : Int)), some (.int (size : Int)), some (.ref l), some (.str (cutS rest none (some (((size : Int) + (i : Int) * ((spot : Int) % 2)) % 8)))), y10] H'
          rw [e1]
          have cP := cs_cut0 rest ((size + i * (spot % 2)) % 8)
          generalize cutS rest none (some (((size + i * (spot % 2)) % 8 : Nat) : Int)) = part at cP
          have lp : part.length ≤ 8 := by
            rw [len_cs, cP, List.length_take, cR]
            omega
          have lpS : part.length ≤ sizeLine := sz_of (by omega)
          -- at
          refine ⟨_, rfl, part, rfl, lpS, _, rfl, part, rfl, lpS, _, _, rfl, rfl, ⟨by decide, by decide⟩, (by show 3 ≤ sizeLine; decide), fun t nt => ?_⟩
          have eT : Ex H' (upd H' t (.lst [.int 0, .int (part.length : Int), .int ((part.length : Int) / 2)])) := Ex.new nt
          refine ⟨_, rfl, t, _, _, .int (spotAt spot part.length : Nat), rfl, rfl, sq_of upd_same, at_of (j := spot) rfl ?_, ?_⟩
          · rcases (show spot = 0 ∨ spot = 1 ∨ spot = 2 by omega) with rfl | rfl | rfl
            · rfl
            · rfl
            · show some (V.int ((part.length : Int) / 2)) = some (V.int ((part.length / 2 : Nat) : Int))
              rw [show ((part.length / 2 : Nat) : Int) = (part.length : Int) / 2 by omega]
          -- append
          · have e2 : ((turn : Int) + 5 * (i : Int)) % 26 = (((turn + 5 * i) % 26 : Nat) : Int) := by omega
            have hlt : (turn + 5 * i) % 26 < 26 := Nat.mod_lt _ (by decide)
            have hat : atI (cs alpha) (((turn : Int) + 5 * (i : Int)) % 26) = some (97 + (turn + 5 * i) % 26) := by
              rw [e2]
              exact alpha_at hlt
            have hl2 := eT _ _ hl'
            have c1 := cs_cut0 part (spotAt spot part.length)
            have c2 := cs_cutF part (spotAt spot part.length)
            have k1 : (cutS part none (some ((spotAt spot part.length : Nat) : Int))).length ≤ 8 := by
              rw [len_cs, c1, List.length_take, ← len_cs]
              omega
            have k2 : (cutS part (some ((spotAt spot part.length : Nat) : Int)) none).length ≤ 8 := by
              rw [len_cs, c2, List.length_drop, ← len_cs]
              omega
            refine ⟨_, rfl, .inl ⟨rfl, _, sq_of hl2⟩, _, rfl, _, rfl, _, rfl, part, rfl, lpS, _, rfl, _, rfl, _, rfl, _, _, rfl, rfl, .inl ⟨by decide, by decide⟩, _, _, rfl, rfl, _, _, rfl, rfl, (by show (0 : Int) < _; decide), _, _, _, rfl, rfl, by decide, hat, _, _, rfl, rfl, ?_, _, rfl, _, rfl, _, rfl, part, rfl, lpS, _, _, rfl, rfl, ?_, l, _, _, rfl, rfl, hl2, ?_, ⟨_, _, _, rfl⟩, ?_, ?_, ?_⟩
            · exact sz_of (by
                have : (⟨#[97 + (turn + 5 * i) % 26]⟩ : Str).length = 1 := rfl
                omega)
            · exact sz_of (by
                rw [len_cs, cs_app, List.length_append, ← len_cs, ← len_cs]
                have : (⟨#[97 + (turn + 5 * i) % 26]⟩ : Str).length = 1 := rfl
                omega)
            · rw [List.length_map]
              exact sz_lt (by unfold mkAll; rw [List.length_map, List.length_range]; omega)
            · exact (kp'.trans (Keep.ofEx eT)).new nlH
            · exact (hP'.ex eT).new hpl.1 hpl.2
            · rw [upd_same]
              have e3 : cutS part none (some ((spotAt spot part.length : Nat) : Int)) ++ (⟨#[97 + (turn + 5 * i) % 26]⟩ : Str) ++ cutS part (some ((spotAt spot part.length : Nat) : Int)) none = mkS (cs rest) spot turn size i := by
                apply cs_ext
                rw [cs_app, cs_app, c1, c2, cs_mkS, len_cs, cP, List.append_assoc]
                rfl
              rw [e3]
              unfold lS mkAll
              rw [List.range_succ, List.map_append, List.map_append]
              rfl
        · rintro σ H' ⟨⟨y3, y9, y10, rfl⟩, kp', hP', hl'⟩
          refine ⟨_, rfl, q (mkAll (cs rest) spot turn size m) l H' ?_ (mkAll_nodup (by omega) m1) (mkAll_ltr (by rw [cR]; exact haz)) kp' hP' nlH ?_⟩
          · unfold mkAll
            rw [List.length_map, List.length_range]
          · rw [Int.toNat_natCast] at hl'
            exact hl'
end
end Eh
set_option Elab.async false
set_option linter.all false
set_option maxRecDepth 100000
set_option maxHeartbeats 4000000
namespace Eh
open PySem PySem.Spec PyProof.Rows L2 Evl
/-- a sheet: its opens, plains, closes -/
structure Sht (os ps qs : List Str) : Prop where
  nd : (os ++ ps ++ qs).Nodup
  lt : ∀ x ∈ os ++ ps ++ qs, Ltr x
  o1 : 1 ≤ os.length
  o4 : os.length ≤ 4
  p4 : ps.length ≤ 4
  c1 : 1 ≤ qs.length
  c4 : qs.length ≤ 4
def SheetAt (H : Hp) (s : Addr) (os ps qs : List Str) : Prop := ∃ ao ap ac, H s = some (.tup [.ref ao, .ref ap, .ref ac]) ∧ H ao = some (.tup (os.map V.str)) ∧ H ap = some (.tup (ps.map V.str)) ∧ H ac = some (.tup (qs.map V.str))
theorem Pot.ne_tup {p c a : Addr} {ns : List Int} {H : Hp} {xs : List V} (h : Pot p c ns H) (ha : H a = some (.tup xs)) : a ≠ p := fun e => by
  obtain ⟨_, _, _, h1, _⟩ := h
  rw [e, h1] at ha
  cases ha
theorem SheetAt.ex {H H' : Hp} {s : Addr} {os ps qs : List Str} (h : SheetAt H s os ps qs) (e : Ex H H') : SheetAt H' s os ps qs := by
  obtain ⟨ao, ap, ac, h0, h1, h2, h3⟩ := h
  exact ⟨ao, ap, ac, e _ _ h0, e _ _ h1, e _ _ h2, e _ _ h3⟩
theorem SheetAt.keep {H H' : Hp} {s p c : Addr} {ns : List Int} {os ps qs : List Str} (h : SheetAt H s os ps qs) (hP : Pot p c ns H) (k : Keep p H H') : SheetAt H' s os ps qs := by
  obtain ⟨ao, ap, ac, h0, h1, h2, h3⟩ := h
  exact ⟨ao, ap, ac, k _ _ (hP.ne_tup h0) h0, k _ _ (hP.ne_tup h1) h1, k _ _ (hP.ne_tup h2) h2, k _ _ (hP.ne_tup h3) h3⟩
theorem rot_nodup {L : List Str} (t : Nat) (h : L.Nodup) : (L.drop t ++ L.take t).Nodup := by
  refine (List.perm_append_comm.nodup_iff).mp ?_
  rw [List.take_append_drop]
  exact h
theorem rot_mem {L : List Str} {t : Nat} {x : Str} (h : x ∈ L.drop t ++ L.take t) : x ∈ L := by
  rcases List.mem_append.mp h with q | q
  · exact List.mem_of_mem_drop q
  · exact List.mem_of_mem_take q
theorem sub12 {L : List Str} {a b d : Nat} (ha : a ≤ 4) (hb : b ≤ 4) : ((L.take a) ++ (L.take (4 + b)).drop 4 ++ (L.take (8 + d)).drop 8).Sublist L := by
  have e : L = L.take 4 ++ (L.take 8).drop 4 ++ L.drop 8 := by
    have e1 : L.take 4 ++ (L.take 8).drop 4 = L.take 8 := by
      have := List.take_append_drop 4 (L.take 8)
      rw [List.take_take] at this
      exact this
    rw [e1, List.take_append_drop]
  have s1 : (L.take a).Sublist (L.take 4) := by
    have : L.take a = (L.take 4).take a := by rw [List.take_take, Nat.min_eq_left ha]
    rw [this]
    exact List.take_sublist _ _
  have s2 : ((L.take (4 + b)).drop 4).Sublist ((L.take 8).drop 4) := by
    refine List.Sublist.drop ?_ 4
    have : L.take (4 + b) = (L.take 8).take (4 + b) := by rw [List.take_take, Nat.min_eq_left (by omega)]
    rw [this]
    exact List.take_sublist _ _
  have s3 : ((L.take (8 + d)).drop 8).Sublist (L.drop 8) := List.Sublist.drop (List.take_sublist _ _) 8
  have := (s1.append s2).append s3
  rw [← e] at this
  exact this
theorem sht_of {L : List Str} (hn : L.Nodup) (hl : ∀ x ∈ L, Ltr x) (h12 : L.length = 12) {a b d : Nat} (a1 : 1 ≤ a) (a4 : a ≤ 4) (b4 : b ≤ 4) (d1 : 1 ≤ d) (d4 : d ≤ 4) : Sht (L.take a) ((L.take (4 + b)).drop 4) ((L.take (8 + d)).drop 8) := by
  refine ⟨(sub12 a4 b4).nodup hn, fun x hx => hl x ((sub12 a4 b4).subset hx), ?_, ?_, ?_, ?_, ?_⟩ <;> simp only [List.length_take, List.length_drop, h12] <;> omega
theorem menu1 {v : Nat} (h : v < 5) : ∃ x : Nat, ([.int 1, .int 1, .int 2, .int 2, .int 4] : List V)[v]? = some (.int (x : Int)) ∧ 1 ≤ x ∧ x ≤ 4 := by
  rcases (show v = 0 ∨ v = 1 ∨ v = 2 ∨ v = 3 ∨ v = 4 by omega) with rfl | rfl | rfl | rfl | rfl
  · exact ⟨1, rfl, by omega⟩
  · exact ⟨1, rfl, by omega⟩
  · exact ⟨2, rfl, by omega⟩
  · exact ⟨2, rfl, by omega⟩
  · exact ⟨4, rfl, by omega⟩
theorem menu0 {v : Nat} (h : v < 5) : ∃ x : Nat, ([.int 0, .int 1, .int 1, .int 2, .int 4] : List V)[v]? = some (.int (x : Int)) ∧ x ≤ 4 := by
  rcases (show v = 0 ∨ v = 1 ∨ v = 2 ∨ v = 3 ∨ v = 4 by omega) with rfl | rfl | rfl | rfl | rfl
  · exact ⟨0, rfl, by omega⟩
  · exact ⟨1, rfl, by omega⟩
  · exact ⟨1, rfl, by omega⟩
  · exact ⟨2, rfl, by omega⟩
  · exact ⟨4, rfl, by omega⟩
theorem minI (m x : Nat) : (if (x : Int) < (m : Int) then (x : Int) else (m : Int)) = ((min m x : Nat) : Int) := by
  split <;> omega
theorem map_cut0 (L : List Str) (n : Nat) : cutV (L.map V.str) none (some (n : Int)) = (L.take n).map V.str := by rw [cut0, List.map_take]
theorem map_cutF (L : List Str) (n : Nat) : cutV (L.map V.str) (some (n : Int)) none = (L.drop n).map V.str := by rw [cutF, List.map_drop]
theorem map_cutLH (L : List Str) (n m : Nat) : cutV (L.map V.str) (some (n : Int)) (some (m : Int)) = ((L.take m).drop n).map V.str := by rw [cutLH, List.map_drop, List.map_take]
theorem lS_ne {p c l : Addr} {ns : List Int} {H : Hp} {ws : List Str} (h : Pot p c ns H) (hl : H l = some (lS ws)) : l ≠ p := fun e => by
  obtain ⟨_, _, _, h1, _⟩ := h
  rw [e, h1] at hl
  injection hl with hl
  injection hl with hl
  cases ws <;> cases hl
theorem menu_rd {K : PySem.W.Frag} {p c : Addr} {ns : List Int} {H : Hp} {σ : L2.St} {xs : List V} {Q : VK} {ta : TA} {n : Int} (hP : Pot p c ns H) (hσ : σ[0]? = some (some (.ref p))) (n0 : 0 < n) (n1 : n < 1073741824) (hta : ∀ Q : List V → Hp → Prop, Q xs H → ta σ H Q) (hxs : xs.length ≤ 1000)
    (k : ∀ (v : Nat) H', (v : Int) < n → Keep p H H' → Pot p c ns H' → ∃ z, xs[v]? = some z ∧ Q z H') : tOp (rIxL K) (tLst ta) (tCall spPick [] E0 (tCons (tVar 0) (tCons (tC (.int n)) tNil))) σ H Q := by
  refine hta _ ⟨sz_of (by omega), fun t nt => ⟨_, hσ, p, c, ns, n, rfl, n0, n1, hP.ex (Ex.new nt), fun v H5 hv kp5 hP5 => ?_⟩⟩
  obtain ⟨z, hz, q⟩ := k v H5 hv ((Keep.ofEx (Ex.new nt)).trans kp5) hP5
  exact ⟨t, xs, (v : Int), z, rfl, rfl, sq_of (kp5 _ _ (hP.ne_new nt).1.symm upd_same), atI_nat hz, q⟩
section
variable {P : Program} {w : World} {K : PySem.W.Frag} {mg : Str → Option Value} {base : Heap}
def spSheet : Sp := fun vs H Q _ => ∃ (p c : Addr) (ns : List Int) (m : Nat), vs = [.ref p, .int (m : Int)] ∧ 1 ≤ m ∧ m ≤ 4 ∧ Pot p c ns H ∧
  ∀ (os ps qs : List Str) s H', Sht os ps qs → SheetAt H' s os ps qs → Keep p H H' → Pot p c ns H' → Q (.ref s) H'
theorem ok_sheet {f fP fL : Addr} {fd fdP fdL : FuncData} {k : Nat} (F : Fun K "_law_sheet" "_law_sheet" sSheet f fd) (FP : Fun K "_law_pick" "_law_pick" sPick fP fdP) (GP : FnOk P w K mg base CX0 (k + 1) fP fdP ["pot", "many"] spPick) (bP : Binds K fdP ["pot", "many"] []) (gP : mg "_law_pick" = some (.ref fP))
    (FL : Fun K "_law_letters" "_law_letters" sLetters fL fdL) (GL : FnOk P w K mg base CX0 (k + 2) fL fdL ["pot", "many"] spLetters) (bL : Binds K fdL ["pot", "many"] []) (gL : mg "_law_letters" = some (.ref fL)) (mm : mg "min" = none) (mt : mg "tuple" = none) :
    FnOk P w K mg base CX0 (k + 3) f fd ["pot", "most"] spSheet := by
  have nd := scSheet.nd
  refine F.ok scSheet (fun vs H Q E h => ?_) (fun cdv A outer s H vs Q E hr h => ?_)
  · obtain ⟨p, c, ns, m, rfl, _⟩ := h
    rfl
  · obtain ⟨p, c, ns, m, rfl, m1, m4, hP, q⟩ := h
    have hr1 : Room (k + 1) _ := hr.mono (Nat.le_succ _)
    refine ⟨_, pss_cons (ps_set (i := 2) nd rfl (.inl rfl) (pe_call GL hr (by rfl) gL FL.kp bL .nil pass0 (pa_cons (pv 0) (pa_cons pe_int pa_nil))))
      (pss_cons (ps_set (i := 3) nd rfl (.inl rfl) (pe_call GP hr1 (by rfl) gP FP.kp bP .nil pass0 (pa_cons (pv 0) (pa_cons pe_int pa_nil))))
      (pss_cons (ps_set (i := 2) nd rfl (.inl rfl) (pe_op op_cat (pe_slice sl_list (pv 2) (po_some (pv 3)) po_none) (pe_slice sl_list (pv 2) po_none (po_some (pv 3)))))
      (pss_cons (ps_set (i := 4) nd rfl (.inl rfl) (pe_slice sl_list (pv 2) po_none (po_some (pe_callB (call_min2 rfl) (by rfl) mm (by decide +kernel) (pa_cons (pv 1) (pa_cons (pe_ix ix_list (pe_lst (pa_cons pe_int (pa_cons pe_int (pa_cons pe_int (pa_cons pe_int (pa_cons pe_int pa_nil)))))) (pe_call GP hr1 (by rfl) gP FP.kp bP .nil pass0 (pa_cons (pv 0) (pa_cons pe_int pa_nil))) (fun _ _ => rfl)) pa_nil))))))
      (pss_cons (ps_set (i := 5) nd rfl (.inl rfl) (pe_slice sl_list (pv 2) (po_some pe_int) (po_some (pe_op op_add pe_int (pe_callB (call_min2 rfl) (by rfl) mm (by decide +kernel) (pa_cons (pv 1) (pa_cons (pe_ix ix_list (pe_lst (pa_cons pe_int (pa_cons pe_int (pa_cons pe_int (pa_cons pe_int (pa_cons pe_int pa_nil)))))) (pe_call GP hr1 (by rfl) gP FP.kp bP .nil pass0 (pa_cons (pv 0) (pa_cons pe_int pa_nil))) (fun _ _ => rfl)) pa_nil)))))))
      (pss_cons (ps_set (i := 6) nd rfl (.inl rfl) (pe_slice sl_list (pv 2) (po_some pe_int) (po_some (pe_op op_add pe_int (pe_callB (call_min2 rfl) (by rfl) mm (by decide +kernel) (pa_cons (pv 1) (pa_cons (pe_ix ix_list (pe_lst (pa_cons pe_int (pa_cons pe_int (pa_cons pe_int (pa_cons pe_int (pa_cons pe_int pa_nil)))))) (pe_call GP hr1 (by rfl) gP FP.kp bP .nil pass0 (pa_cons (pv 0) (pa_cons pe_int pa_nil))) (fun _ _ => rfl)) pa_nil)))))))
      (pss_one (ps_ret (pe_tup (pa_cons (pe_callTy call_tuple_of (by rfl) mt (by decide +kernel) (pa_cons (pv 4) pa_nil)) (pa_cons (pe_callTy call_tuple_of (by rfl) mt (by decide +kernel) (pa_cons (pv 5) pa_nil)) (pa_cons (pe_callTy call_tuple_of (by rfl) mt (by decide +kernel) (pa_cons (pv 6) pa_nil)) pa_nil)))))))))))  , ?_⟩
    refine ⟨_, rfl, p, c, ns, 12, rfl, by decide, hP, fun ws l H1 hlen hnd hlt kp1 hP1 nl hl => ?_⟩
    refine ⟨_, rfl, p, c, ns, 12, rfl, by decide, by decide, hP1, fun turn H2 hturn kp2 hP2 => ?_⟩
    have hl2 : H2 l = some (lS ws) := kp2 _ _ (lS_ne hP1 hl) hl
    refine ⟨_, rfl, _, rfl, _, rfl, l, _, rfl, sq_of hl2, fun u nu => ?_⟩
    have e2 : Ex H2 (upd H2 u (.lst (cutV (ws.map V.str) (some (turn : Int)) none))) := Ex.new nu
    refine ⟨_, rfl, _, rfl, _, rfl, l, _, rfl, sq_of (e2 _ _ hl2), fun u' nu' => ?_⟩
    have e3 : Ex H2 (upd (upd H2 u (.lst (cutV (ws.map V.str) (some (turn : Int)) none))) u' (.lst (cutV (ws.map V.str) none (some (turn : Int))))) := e2.trans (Ex.new nu')
    have nuu : u ≠ u' := ne_of_none upd_same nu'
    have hu3 : (upd (upd H2 u (.lst (cutV (ws.map V.str) (some (turn : Int)) none))) u' (.lst (cutV (ws.map V.str) none (some (turn : Int))))) u = some (.lst ((ws.drop turn).map V.str)) := by
      rw [upd_ne nuu, upd_same, map_cutF]
    have hu3' : (upd (upd H2 u (.lst (cutV (ws.map V.str) (some (turn : Int)) none))) u' (.lst (cutV (ws.map V.str) none (some (turn : Int))))) u' = some (.lst ((ws.take turn).map V.str)) := by
      rw [upd_same, map_cut0]
    generalize (upd (upd H2 u (.lst (cutV (ws.map V.str) (some (turn : Int)) none))) u' (.lst (cutV (ws.map V.str) none (some (turn : Int))))) = H3 at e3 hu3 hu3' ⊢
    have hLn : (ws.drop turn ++ ws.take turn).length = 12 := by
      rw [List.length_append, List.length_drop, List.length_take]
      omega
    refine ⟨u, u', _, _, rfl, rfl, hu3, hu3', ?_, fun r nr => ?_⟩
    · rw [← List.length_append, ← List.map_append, List.length_map]
      exact sz_of (by omega)
    rw [← List.map_append]
    have hLd := rot_nodup turn hnd
    have hLt : ∀ x ∈ ws.drop turn ++ ws.take turn, Ltr x := fun x hx => hlt x (rot_mem hx)
    generalize ws.drop turn ++ ws.take turn = L at hLn hLd hLt ⊢
    have hP3 := hP2.ex e3
    have e4 : Ex H3 (upd H3 r (lS L)) := Ex.new nr
    have hP4 := hP3.ex e4
    have kp4 : Keep p H (upd H3 r (lS L)) := ((kp1.trans kp2).trans (Keep.ofEx e3)).trans (Keep.ofEx e4)
    have hr4 : (upd H3 r (lS L)) r = some (lS L) := upd_same
    show tSeq _ _ _ [some (.ref p), some (.int (m : Int)), some (.ref r), some (.int (turn : Int)), none, none, none] (upd H3 r (lS L))
    generalize upd H3 r (lS L) = H4 at e4 hP4 kp4 hr4 ⊢
    -- opens
    refine ⟨_, rfl, _, rfl, menu_rd (xs := [.int 1, .int 1, .int 2, .int 2, .int 4]) hP4 rfl (by decide) (by decide) (fun Q z => z) (by decide) fun v H5 hv kp5 hP5 => ?_⟩
    obtain ⟨x, hx, x1, x4⟩ := menu1 (show v < 5 by omega)
    refine ⟨_, hx, _, _, rfl, _, rfl, r, _, rfl, sq_of (kp5 _ _ (lS_ne hP4 hr4) hr4), fun o no => ?_⟩
    rw [minI, map_cut0]
    have hr5 : H5 r = some (lS L) := kp5 _ _ (lS_ne hP4 hr4) hr4
    have e6 : Ex H5 (upd H5 o (lS (L.take (min m x)))) := Ex.new no
    have hP6 := hP5.ex e6
    have hr6 := e6 _ _ hr5
    have ho6 : (upd H5 o (lS (L.take (min m x)))) o = some (lS (L.take (min m x))) := upd_same
    have kp6 : Keep p H (upd H5 o (lS (L.take (min m x)))) := (kp4.trans kp5).trans (Keep.ofEx e6)
    show tSeq _ _ _ [some (.ref p), some (.int (m : Int)), some (.ref r), some (.int (turn : Int)), some (.ref o), none, none] (upd H5 o (lS (L.take (min m x))))
    generalize upd H5 o (lS (L.take (min m x))) = H6 at hP6 hr6 ho6 kp6 ⊢
    -- plains
    refine ⟨_, rfl, _, rfl, _, rfl, menu_rd (xs := [.int 0, .int 1, .int 1, .int 2, .int 4]) hP6 rfl (by decide) (by decide) (fun Q z => z) (by decide) fun v H7 hv kp7 hP7 => ?_⟩
    obtain ⟨y, hy, y4⟩ := menu0 (show v < 5 by omega)
    have hr7 : H7 r = some (lS L) := kp7 _ _ (lS_ne hP6 hr6) hr6
    have ho7 : H7 o = some (lS (L.take (min m x))) := kp7 _ _ (lS_ne hP6 ho6) ho6
    refine ⟨_, hy, _, _, rfl, _, _, rfl, rfl, _, rfl, r, _, rfl, sq_of hr7, fun u1 nu1 => ?_⟩
    have ey : (4 : Int) + (if (y : Int) < (m : Int) then (y : Int) else (m : Int)) = ((4 + min m y : Nat) : Int) := by
      rw [minI]
      omega
    rw [ey, show (some 4 : Option Int) = some ((4 : Nat) : Int) from rfl, map_cutLH]
    have e8 : Ex H7 (upd H7 u1 (lS ((L.take (4 + min m y)).drop 4))) := Ex.new nu1
    have hP8 := hP7.ex e8
    have hr8 := e8 _ _ hr7
    have ho8 := e8 _ _ ho7
    have hu8 : (upd H7 u1 (lS ((L.take (4 + min m y)).drop 4))) u1 = some (lS ((L.take (4 + min m y)).drop 4)) := upd_same
    have kp8 : Keep p H (upd H7 u1 (lS ((L.take (4 + min m y)).drop 4))) := (kp6.trans kp7).trans (Keep.ofEx e8)
    show tSeq _ _ _ [some (.ref p), some (.int (m : Int)), some (.ref r), some (.int (turn : Int)), some (.ref o), some (.ref u1), none] (upd H7 u1 (lS ((L.take (4 + min m y)).drop 4)))
    generalize upd H7 u1 (lS ((L.take (4 + min m y)).drop 4)) = H8 at hP8 hr8 ho8 hu8 kp8 ⊢
    -- closes
    refine ⟨_, rfl, _, rfl, _, rfl, menu_rd (xs := [.int 1, .int 1, .int 2, .int 2, .int 4]) hP8 rfl (by decide) (by decide) (fun Q z => z) (by decide) fun v H9 hv kp9 hP9 => ?_⟩
    obtain ⟨z, hz, z1, z4⟩ := menu1 (show v < 5 by omega)
    have hr9 : H9 r = some (lS L) := kp9 _ _ (lS_ne hP8 hr8) hr8
    have ho9 : H9 o = some (lS (L.take (min m x))) := kp9 _ _ (lS_ne hP8 ho8) ho8
    have hu9 := kp9 _ _ (lS_ne hP8 hu8) hu8
    refine ⟨_, hz, _, _, rfl, _, _, rfl, rfl, _, rfl, r, _, rfl, sq_of hr9, fun u2 nu2 => ?_⟩
    have ez : (8 : Int) + (if (z : Int) < (m : Int) then (z : Int) else (m : Int)) = ((8 + min m z : Nat) : Int) := by
      rw [minI]
      omega
    rw [ez, show (some 8 : Option Int) = some ((8 : Nat) : Int) from rfl, map_cutLH]
    have e10 : Ex H9 (upd H9 u2 (lS ((L.take (8 + min m z)).drop 8))) := Ex.new nu2
    have hP10 := hP9.ex e10
    have ho10 := e10 _ _ ho9
    have hu10 := e10 _ _ hu9
    have hv10 : (upd H9 u2 (lS ((L.take (8 + min m z)).drop 8))) u2 = some (lS ((L.take (8 + min m z)).drop 8)) := upd_same
    have kp10 : Keep p H (upd H9 u2 (lS ((L.take (8 + min m z)).drop 8))) := (kp8.trans kp9).trans (Keep.ofEx e10)
    refine ⟨_, rfl, o, _, rfl, .inl ⟨sq_of ho10, fun ao nao => ?_⟩⟩
    have f1 : Ex _ _ := Ex.new (o := .tup ((L.take (min m x)).map V.str)) nao
    refine ⟨_, rfl, u1, _, rfl, .inl ⟨sq_of (f1 _ _ hu10), fun ap nap => ?_⟩⟩
    have f2 : Ex _ _ := Ex.new (o := .tup (((L.take (4 + min m y)).drop 4).map V.str)) nap
    refine ⟨_, rfl, u2, _, rfl, .inl ⟨sq_of (f2 _ _ (f1 _ _ hv10)), fun ac nac => ?_⟩⟩
    have f3 : Ex _ _ := Ex.new (o := .tup (((L.take (8 + min m z)).drop 8).map V.str)) nac
    refine ⟨(by show 3 ≤ sizeLine; decide), fun sh nsh => ?_⟩
    have f4 : Ex _ _ := Ex.new (o := .tup [.ref ao, .ref ap, .ref ac]) nsh
    exact q _ _ _ sh _ (sht_of hLd hLt hLn (by omega) (by omega) (by omega) (by omega) (by omega)) ⟨ao, ap, ac, upd_same, f4 _ _ (f3 _ _ (f2 _ _ upd_same)), f4 _ _ (f3 _ _ upd_same), f4 _ _ upd_same⟩ (kp10.trans (Keep.ofEx (((f1.trans f2).trans f3).trans f4))) (hP10.ex (((f1.trans f2).trans f3).trans f4))
end
end Eh
set_option Elab.async false
set_option linter.all false
set_option maxRecDepth 100000
set_option maxHeartbeats 4000000
namespace Eh
open PySem PySem.Spec PyProof.Rows L2 Evl
open Sem (wp)
open AutoSeq1 (wpAny_loadPart')
/-! enumerate of a tuple -/
theorem enumT_meets {v : Value} {ob : Obj} {G : Heap → Prop} (B : Begins v ob G) : Meets (Builtin.«enumerate.__new__» ⟨[.type "enumerate", v], []⟩) (fun _ R s1 => G s1.heap ∧ R (.ok (.ret (.ref (s1.heap.push ob).objs.size))) { s1 with heap := (s1.heap.push ob).push { cls := .type "enumerate", data := .fields #[.none, .bool false, .ref s1.heap.objs.size, rawInt 0, .none, .none] } }) :=
  .of_wp fun pr wo ar R s1 hyp => by
    obtain ⟨hp, gg, dd, tt, oo⟩ := s1; obtain ⟨hg, hyp⟩ := hyp
    have hsb := sub_enumerate
    have hit : ∀ {A' : Around} {E : Value → Shared → Prop} {Q : Value → Shared → Prop}, Q (.ref hp.objs.size) ⟨hp.push ob, gg, dd, tt, oo⟩ → wpAny (model pr wo) A' (pyIter v) Q E ⟨hp, gg, dd, tt, oo⟩ := fun q => B.iter pr wo _ _ ⟨hp, gg, dd, tt, oo⟩ _ hg q
    wp_walk using hit
    refine wpAny_stack_any fun stk => wpAny_pure ?_
    split
    · rename_i cl _ _ _ _ _; cases (cl == Value.type "enumerate") <;> (wp_walk using hit; exact ⟨_, rfl, hyp⟩)
    · wp_walk using hit; exact ⟨_, rfl, hyp⟩
theorem enumT_call {prog : Program} {w : World} {A : Around} {E : Value → Shared → Prop} {s : Shared} {v : Value} {ob : Obj} {G : Heap → Prop} {Q : Value → Shared → Prop} (B : Begins v ob G) (hg : G s.heap)
    (hyp : ∀ h', IsEnum h' (s.heap.objs.size + 1) s.heap.objs.size 0 .none → h'.get? s.heap.objs.size = some ob → h'.objs.size = s.heap.objs.size + 2 → (∀ b o, s.heap.get? b = some o → h'.get? b = some o) → Q (.ref (s.heap.objs.size + 1)) { s with heap := h' }) : wpAny (model prog w) A (call (.type "enumerate") [v]) Q E s := by
  refine callType_new F.called_enumerate (by decide) (F.typeCall_enumerate_1 _) (F.newCall_enumerate_1 _) (fun x => F.args_object_init_2 x _) F.entry_enumerate_new (enumT_meets B) ⟨hg, ?_⟩
  have sz : (s.heap.push ob).objs.size = s.heap.objs.size + 1 := Heap.size_push ..
  show _ ∧ _
  rw [sz]
  have en : IsEnum ((s.heap.push ob).push { cls := .type "enumerate", data := .fields #[.none, .bool false, .ref s.heap.objs.size, rawInt 0, .none, .none] }) (s.heap.objs.size + 1) s.heap.objs.size 0 .none := by
    have z := Heap.get?_push_size (s.heap.push ob) (o := { cls := .type "enumerate", data := .fields #[.none, .bool false, .ref s.heap.objs.size, rawInt 0, .none, .none] }) rfl
    rw [sz] at z; exact z
  exact ⟨⟨_, en, rfl⟩, hyp _ en (Heap.get?_push_of_some _ (Heap.get?_push_size _ B.free)) (by rw [Heap.size_push, sz]) fun b o x => Heap.get?_push_of_some _ (Heap.get?_push_of_some _ x)⟩
def IteT (K : PySem.W.Frag) (a : Addr) : It :=
  ⟨fun i H => ∃ (xs : List V) (x : V), SqT K H a xs ∧ xs[i]? = some x, fun i H v H' => ∃ T x, v = .ref T ∧ H T = none ∧ H' = upd H T (.tup [.int (i : Nat), x]) ∧ ∀ xs, SqT K H a xs → xs[i]? = some x, fun i H => ∃ xs : List V, SqT K H a xs ∧ xs.length = i⟩
theorem apart_cls {h : Heap} {a b : Addr} {o1 o2 : Obj} {x y : String} (h1 : h.get? a = some o1) (c1 : o1.cls = .type x) (h2 : h.get? b = some o2) (c2 : o2.cls = .type y) (n : x ≠ y) : a ≠ b := fun z => by
  subst z
  rw [h1] at h2
  have e : o1 = o2 := Option.some.inj h2
  rw [e, c2] at c1
  injection c1 with c1
  exact n c1.symm
theorem turn_enumT {P : Program} {w : World} {K : PySem.W.Frag} {elts : List Expr} {kk : Nat} {tpos : Pos} (a e it : Addr) :
    Turn P w K (.Tuple elts kk tpos) (IteT K a) [e, it] e (fun i h => (∃ old, IsEnum h e it ((i : Nat) : Int) old) ∧ h.IsTupleIter it a i ∧ e ≠ it) where
  mem := by simp
  obj := fun i h tn b hb => by
    obtain ⟨⟨old, en⟩, ⟨ob, h1, h2, h3⟩, _⟩ := tn
    rcases (show b = e ∨ b = it by simpa using hb) with z | z
    · subst z; exact ⟨_, en, fun v q => nomatch q⟩
    · subst z; exact ⟨ob, h1, fun v q => by rw [h3] at q; cases q⟩
  keep := fun i h h' tn kk => let ⟨⟨old, en⟩, ti, ne⟩ := tn; ⟨⟨old, kk e (by simp) _ en⟩, ti.at fun o q => kk it (by simp) o q, ne⟩
  item := by
    intro X eP ew eK hc i pins s σ H E I fpo tn go
    subst eP ew eK
    obtain ⟨⟨old, en⟩, ti, ne⟩ := tn
    obtain ⟨xs, x, sq, hx⟩ := go
    obtain ⟨its, rv, pt, _⟩ := I.tuple sq
    obtain ⟨u, hu, ru⟩ := rv.get hx
    have le : e < s.heap.objs.size := Heap.lt_size en
    have li : it < s.heap.objs.size := by obtain ⟨_, q, _⟩ := ti; exact Heap.lt_size q
    have nai : a ≠ it := by
      obtain ⟨o1, g1, c1, _⟩ := id ti
      obtain ⟨o2, g2, c2, _⟩ := id pt
      exact apart_cls g2 c2 g1 c1 (by decide)
    have nea : e ≠ a := by
      obtain ⟨o2, g2, c2, _⟩ := id pt
      exact apart_cls en rfl g2 c2 (by decide)
    have DD := Draws.tuple (prog := X.prog) (w := X.w) (A := X.A.in1) (I.ok.hd hc) it a nai its.toArray
    refine wpAny_pyNext_enum_itemC DD en ⟨ti, pt⟩ (by have h1 := (List.getElem?_eq_some_iff.mp hu).1; rw [List.size_toArray]; exact h1) ne (by simp [ne, nea]) fun y h' tk hy out st' hT hsz kp => ?_
    have ey : y = u := by
      have hy' : its.toArray[i]? = some y := hy
      rw [List.getElem?_toArray, hu] at hy'
      exact (Option.some.inj hy').symm
    subst ey
    refine ⟨_, rfl, wpAny_letOwnedTupleGo_enum (s := { s with heap := h', toks := tk + 1 }) out fun h'' en' sb => ?_⟩
    have hT' : h''.get? s.heap.objs.size = some { cls := .type "tuple", data := .seq #[.int i tk, y] } := (sb.2 _ (Nat.ne_of_gt le)).trans hT
    have nw : ObjOk X.prog X.w (upd H s.heap.objs.size (.tup [.int (i : Nat), x])) h'' s.heap.objs.size (.tup [.int (i : Nat), x]) := ⟨by show 2 ≤ sizeLine; decide, [.int i tk, y], .cons ⟨_, rfl⟩ (.cons ru .nil), ⟨_, hT', rfl, _, rfl⟩⟩
    have J1 : Inv X pins σ (upd H s.heap.objs.size (.tup [.int (i : Nat), x])) { s with heap := h'', toks := tk + 1 } := I.turnedNew (ch := [e, it]) (fun b o hb q => (sb.2 b (fun z => hb (by simp [z]))).trans (kp b o (fun z => hb (by simp [z])) (fun z => hb (by simp [z])) q)) fpo (Nat.le_refl _) nw
    refine ⟨.ref s.heap.objs.size, _, J1, rfl, ⟨_, x, rfl, I.hok.fresh (Nat.le_refl _), rfl, fun ys hs => by rw [I.tuple_inj hs sq]; exact hx⟩, ⟨⟨y, ?_⟩, st'.1.at fun o q => (sb.2 it (Ne.symm ne)).trans q, ne⟩, fun b hb => ?_⟩
    · rw [show ((i + 1 : Nat) : Int) = (i : Int) + 1 by omega]
      exact en'
    · have lb : b < s.heap.objs.size := by
        rcases (show b = e ∨ b = it by simpa using hb) with z | z
        · subst z; exact le
        · subst z; exact li
      rw [upd_ne (Nat.ne_of_lt lb)]
      exact (fpo b hb).1
  done := by
    intro X eP ew eK hc i pins s σ H E I fpo tn stp
    subst eP ew eK
    obtain ⟨⟨old, en⟩, ti, ne⟩ := tn
    obtain ⟨xs, sq, hx⟩ := stp
    obtain ⟨its, rv, pt, _⟩ := I.tuple sq
    obtain ⟨f0, f1, _, f3, f4, f5⟩ := fpo it (by simp)
    have nai : a ≠ it := by
      obtain ⟨o1, g1, c1, _⟩ := id ti
      obtain ⟨o2, g2, c2, _⟩ := id pt
      exact apart_cls g2 c2 g1 c1 (by decide)
    have DD := Draws.tuple (prog := X.prog) (w := X.w) (A := X.A.in1) (I.ok.hd hc) it a nai its.toArray
    have en' : its.toArray.size = i := by rw [List.size_toArray, ← rv.length, hx]
    exact wpAny_pyNext_enum_endD DD en (by rw [en']; exact ⟨ti, pt⟩) fun h' eb => ⟨rfl, I.turned (t' := s.toks) (fun b o hb q => eb b o hb q) f0 f1 f3 f4 f5⟩
  self := fun A i s Q E tn hq => let ⟨⟨_, en⟩, _⟩ := tn; wpAny_pyIter_enum en hq
def iEnumT (K : PySem.W.Frag) (ta : TA) : TI := fun σ H R => ta σ H fun vs H1 => ∃ a xs, vs = [.ref a] ∧ SqT K H1 a xs ∧ R (IteT K a) H1
theorem pi_enumT {X : Cx} {e : Expr} {ta : TA} {p pos tpos : Pos} {elts : List Expr} {kk : Nat} (hg : Gl X "enumerate") (hm : X.mg "enumerate" = none) (ha : PA X [e] ta) (hs : starEach [e] X.env = [(false, eval e X.env)] := by rfl) : PI X (.Tuple elts kk tpos) (.Call (.Name "enumerate" p) [e] [] pos) (iEnumT X.K ta) := by
  refine ⟨fun pins s σ H R I hyp => Call_ (ld_blt I hg hm boot_enumerate (PyProof.Rows.callWith_type1 (thn (ha.run pos pins s σ H _ I hyp) fun us s1 ⟨vs, H1, I1, r1, q1⟩ => ?_) hs rfl))⟩
  obtain ⟨a, xs, ev, sq, q⟩ := q1
  subst ev
  obtain ⟨u, rfl, ru⟩ := vals1 r1
  cases ru
  obtain ⟨its, rv, pt, _⟩ := I1.tuple sq
  refine enumT_call (begins_tuple a its.toArray) pt fun h' en hit hsz kp => wpAny_pyIter_enum en ?_
  have I2 : Inv X pins σ H1 { s1 with heap := h' } := I1.kept (t' := s1.toks) kp
  refine ⟨s1.heap.objs.size + 1, [s1.heap.objs.size + 1, s1.heap.objs.size], _, _, H1, rfl, I2, turn_enumT a (s1.heap.objs.size + 1) s1.heap.objs.size, ⟨⟨.none, en⟩, ⟨_, hit, rfl, rfl⟩, Nat.succ_ne_self _⟩, fun b hb => ?_, q⟩
  have lb : s1.heap.objs.size ≤ b := by
    rcases (show b = s1.heap.objs.size + 1 ∨ b = s1.heap.objs.size by simpa using hb) with z | z
    · rw [z]; exact Nat.le_add_right ..
    · rw [z]; exact Nat.le_refl ..
  exact I1.fpOk lb (I1.hok.fresh lb)
end Eh
set_option Elab.async false
set_option linter.all false
set_option maxRecDepth 100000
set_option maxHeartbeats 4000000
namespace Eh
open PySem PySem.Spec PyProof.Rows L2 Evl
def ordKV : List Str → Nat → List (Key × V)
  | [], _ => []
  | x :: r, n => (.inr x, .int (n : Int)) :: ordKV r (n + 1)
theorem ordKV_app : ∀ (a b : List Str) (n : Nat), ordKV (a ++ b) n = ordKV a n ++ ordKV b (n + a.length)
  | [], b, n => rfl
  | x :: r, b, n => by
    show (.inr x, .int (n : Int)) :: ordKV (r ++ b) (n + 1) = (.inr x, .int (n : Int)) :: (ordKV r (n + 1) ++ ordKV b (n + (r.length + 1)))
    rw [ordKV_app r b (n + 1), show n + 1 + r.length = n + (r.length + 1) by omega]
theorem ordKV_len : ∀ (a : List Str) (n : Nat), (ordKV a n).length = a.length
  | [], n => rfl
  | x :: r, n => by
    show (ordKV r (n + 1)).length + 1 = r.length + 1
    rw [ordKV_len r (n + 1)]
theorem ordKV_none : ∀ (a : List Str) (n : Nat) (x : Str), ¬ x ∈ a → valV (ordKV a n) (.inr x) = none
  | [], n, x, _ => rfl
  | y :: r, n, x, h => by
    have h1 : ¬ y = x := fun e => h (by rw [e]; exact List.mem_cons_self ..)
    have h2 : ¬ x ∈ r := fun e => h (List.mem_cons_of_mem _ e)
    show valV ((Sum.inr y, V.int (n : Int)) :: ordKV r (n + 1)) (.inr x) = none
    rw [valV_neg (fun e => h1 (Sum.inr.inj e))]
    exact ordKV_none r (n + 1) x h2
theorem ordKV_some : ∀ (a : List Str) (n : Nat) (x : Str), x ∈ a → valV (ordKV a n) (.inr x) = some (.int ((n + a.idxOf x : Nat) : Int))
  | [], n, x, h => (List.not_mem_nil h).elim
  | y :: r, n, x, h => by
    show valV ((Sum.inr y, V.int (n : Int)) :: ordKV r (n + 1)) (.inr x) = _
    by_cases e : y = x
    · subst e
      rw [valV_pos (by rfl), List.idxOf_cons_self]
      rfl
    · rw [valV_neg (fun z => e (Sum.inr.inj z)), ordKV_some r (n + 1) x ((List.mem_cons.mp h).resolve_left fun z => e z.symm), List.idxOf_cons, show (y == x) = false from beq_false_of_ne e]
      show some (V.int ((n + 1 + r.idxOf x : Nat) : Int)) = some (V.int ((n + (r.idxOf x + 1) : Nat) : Int))
      rw [show n + 1 + r.idxOf x = n + (r.idxOf x + 1) by omega]
/-- one tuple behind the other, the first with something in it -/
theorem cat_rd {K : PySem.W.Frag} {a b : Addr} {xs ys : List V} {H : Hp} {Q : VK} (h1 : SqT K H a xs) (h2 : SqT K H b ys) (n0 : xs ≠ []) (hz : xs.length + ys.length ≤ 1000) (q : ∀ p H', Ex H H' → SqT K H' p (xs ++ ys) → Q (.ref p) H') : rCatT K (.ref a) (.ref b) H Q :=
  ⟨a, b, xs, ys, rfl, rfl, h1, h2, n0, sz_of (by omega), fun e => q a H (Ex.refl H) (by rw [e, List.append_nil]; exact h1), fun _ p np => q p _ (Ex.new np) (st_of upd_same)⟩
/-- {.. for i, x in enumerate(tuple)} -/
theorem dc_enumT {K : PySem.W.Frag} {a : Addr} {xs : List V} {tt : TT} {tk tv : TE} {σ : L2.St} {H1 : Hp} {Dd : Addr} {Qd : Hp → Prop} {i1 i2 : Nat} {vs : List Nat} (Pv : Nat → Hp → Prop) (h0 : Pv 0 (upd H1 Dd (.dK []))) (hl : ∀ i H, i ≤ xs.length → Pv i H → SqT K H a xs)
    (hs : ∀ i x H T, xs[i]? = some x → Pv i H → H T = none → wipe (((wipe σ vs).set i1 (some (.int (i : Nat)))).set i2 (some x)) vs = wipe σ vs ∧ tt (((wipe σ vs).set i1 (some (.int (i : Nat)))).set i2 (some x)) (upd H T (.tup [.int (i : Nat), x])) fun b H3 => if b = true then tk (((wipe σ vs).set i1 (some (.int (i : Nat)))).set i2 (some x)) H3 fun y H4 => tv (((wipe σ vs).set i1 (some (.int (i : Nat)))).set i2 (some x)) H4 fun z H5 => ∃ kvs k, y = kV k ∧ H5 Dd = some (.dK kvs) ∧ kvs.length < sizeLine ∧ Pv (i + 1) (upd H5 Dd (.dK (putK kvs k z))) else Pv (i + 1) H3)
    (hd : ∀ H, Pv xs.length H → Qd H) :
    ∃ W : Nat → Nat → Hp → Prop, (∃ m, W 0 m (upd H1 Dd (.dK []))) ∧ ∀ i m H, W i m H → ((IteT K a).stop i H ∧ Qd H) ∨ ((IteT K a).go i H ∧ ∃ Nx : Hp → Prop, (∀ H', Nx H' → ∃ m', m' < m ∧ W (i + 1) m' H') ∧ ∀ x H', (IteT K a).yld i H x H' → gTup K 2 (gCons (gName i1) (gCons (gName i2) gNil)) x (wipe σ vs) H' fun σ2 H2 => wipe σ2 vs = wipe σ vs ∧ tt σ2 H2 fun b H3 => if b = true then tk σ2 H3 fun y H4 => tv σ2 H4 fun z H5 => ∃ kvs k, y = kV k ∧ H5 Dd = some (.dK kvs) ∧ kvs.length < sizeLine ∧ Nx (upd H5 Dd (.dK (putK kvs k z))) else Nx H3) := by
  refine ⟨fun i m H => m = xs.length - i ∧ i ≤ xs.length ∧ Pv i H, ⟨xs.length, by omega, Nat.zero_le _, h0⟩, ?_⟩
  rintro i m H ⟨rfl, hi, pp⟩
  have sq := hl i H hi pp
  by_cases hlt : i < xs.length
  · refine .inr ⟨⟨xs, xs[i], sq, List.getElem?_eq_getElem hlt⟩, Pv (i + 1), fun H' p' => ⟨xs.length - (i + 1), by omega, rfl, hlt, p'⟩, fun v H' y => ?_⟩
    obtain ⟨T, x, rfl, nT, rfl, f⟩ := y
    exact ⟨T, [.int (i : Nat), x], rfl, st_of upd_same, rfl, _, _, rfl, _, _, rfl, rfl, hs i x H T (f xs sq) pp nT⟩
  · have e : i = xs.length := by omega
    subst e
    exact .inl ⟨⟨xs, sq, rfl⟩, hd H pp⟩
abbrev nOrderOf : List Str := ["sheet", "opens", "plains", "closes", "number", "letter"]
theorem scOrderOf : FnScope nOrderOf ["sheet"] (defScope sOrderOf) := ⟨rfl, rfl, rfl, by decide +kernel, rfl, by decide +kernel, by decide +kernel⟩
theorem scNeedWord : FnScope ["sheet", "word", "order", "place", "letter"] ["sheet", "word"] (defScope sNeedWord) := ⟨rfl, rfl, rfl, by decide +kernel, rfl, by decide +kernel, by decide +kernel⟩
section
variable {P : Program} {w : World} {K : PySem.W.Frag} {mg : Str → Option Value} {base : Heap}
def spOrderOf : Sp := fun vs H Q _ => ∃ (s : Addr) (os ps qs : List Str), vs = [.ref s] ∧ Sht os ps qs ∧ SheetAt H s os ps qs ∧ ∀ d H', Ex H H' → H d = none → H' d = some (.dK (ordKV (os ++ ps ++ qs) 0)) → Q (.ref d) H'
theorem ok_orderOf {f : Addr} {fd : FuncData} {k : Nat} (F : Fun K "order_of" "order_of" sOrderOf f fd) (me : mg "enumerate" = none) : FnOk P w K mg base CX0 (k + 1) f fd ["sheet"] spOrderOf := by
  have nd := scOrderOf.nd
  refine F.ok scOrderOf (fun vs H Q E h => ?_) (fun cdv A outer s H vs Q E hr h => ?_)
  · obtain ⟨s, os, ps, qs, rfl, _⟩ := h
    rfl
  · obtain ⟨s, os, ps, qs, rfl, hS, ⟨ao, ap, ac, h0, h1, h2, h3⟩, q⟩ := h
    refine ⟨_, pss_cons (ps_asg (pv 0) (pg_tup rfl (pgs_cons (pg_name (i := 1) nd rfl (.inl rfl)) (pgs_cons (pg_name (i := 2) nd rfl (.inl rfl)) (pgs_cons (pg_name (i := 3) nd rfl (.inl rfl)) pgs_nil)))))
      (pss_one (ps_ret (pe_dc (own := [("number", 4), ("letter", 5)]) (g := gTup K 2 (gCons (gName 4) (gCons (gName 5) gNil))) (tt := tYes) rfl nd (pi_enumT (by rfl) me (pa_cons (pe_op op_catT (pe_op op_catT (pv 1) (pv 2)) (pv 3)) pa_nil)) (blkOk_by (own := [("number", 4), ("letter", 5)]) (N := nOrderOf) (sc := defScope sOrderOf) (by decide +kernel))
        (fun _ _ _ _ _ => pg_tup rfl (pgs_cons (pg_name (i := 4) nd rfl (.inl rfl)) (pgs_cons (pg_name (i := 5) nd rfl (.inl rfl)) pgs_nil))) (fun _ _ _ _ _ => pts_nil) (fun _ _ _ _ _ => pv 5) (fun _ _ _ _ _ => pv 4)))), ?_⟩
    refine ⟨_, rfl, s, _, rfl, st_of h0, rfl, _, _, rfl, _, _, rfl, _, _, rfl, rfl, ?_⟩
    have on : os.map V.str ≠ [] := fun e => by
      have := hS.o1
      rw [← List.length_map (f := V.str), e] at this
      exact absurd this (by decide)
    have l1 : (os.map V.str).length + (ps.map V.str).length ≤ 1000 := by
      rw [List.length_map, List.length_map]
      have := hS.o4
      have := hS.p4
      omega
    refine ⟨_, rfl, _, rfl, cat_rd (st_of h1) (st_of h2) on l1 fun p1 H1 e1 g1 => ⟨_, rfl, cat_rd g1 (st_of (e1 _ _ h3)) (fun z => on (List.append_eq_nil_iff.mp z).1) ?_ fun p2 H2 e2 g2 => ?_⟩⟩
    · rw [List.length_append, List.length_map, List.length_map, List.length_map]
      have := hS.o4
      have := hS.p4
      have := hS.c4
      omega
    rw [← List.map_append, ← List.map_append] at g2
    generalize hL : os ++ ps ++ qs = L at *
    have hLl : L.length ≤ 12 := by
      rw [← hL, List.length_append, List.length_append]
      have := hS.o4
      have := hS.p4
      have := hS.c4
      omega
    have hLd : L.Nodup := by
      have := hS.nd
      rw [hL] at this
      exact this
    refine ⟨p2, _, rfl, g2, fun Dd nD => dc_enumT (xs := L.map V.str) (fun i H' => Ex H2 H' ∧ H' Dd = some (.dK (ordKV (L.take i) 0))) ⟨Ex.new nD, upd_same⟩ (fun i H' _ hh => ex_t hh.1 g2) ?_ ?_⟩
    · rintro i x H' T hx ⟨eH, hD⟩ nT
      refine ⟨rfl, yesT ?_⟩
      rw [List.getElem?_map] at hx
      obtain ⟨y, hy, rfl⟩ := Option.map_eq_some_iff.mp hx
      have eT : Ex H' (upd H' T (.tup [.int (i : Nat), .str y])) := Ex.new nT
      refine ⟨_, rfl, _, rfl, _, .inr y, rfl, eT _ _ hD, ?_, (eH.trans eT).mut nD, ?_⟩
      · rw [ordKV_len]
        exact sz_lt (by rw [List.length_take]; omega)
      · have hi := (List.getElem?_eq_some_iff.mp hy).1
        rw [upd_same, putK_new _ (ordKV_none _ _ _ ?_), List.take_add_one, hy, ordKV_app, List.length_take, Nat.min_eq_left (by omega), Nat.zero_add]
        · rfl
        · intro hm
          obtain ⟨j, hj, e⟩ := List.mem_take_iff_getElem.mp hm
          have : j = i := (List.getElem_inj hLd).mp (e.trans (List.getElem?_eq_some_iff.mp hy).2.symm)
          omega
    · rintro H' ⟨eH, hD⟩
      rw [List.length_map, List.take_length] at hD
      exact q Dd H' ((e1.trans e2).trans eH) (fresh_back (e1.trans e2) nD) hD
def spNeedWord (K : PySem.W.Frag) : Sp := fun vs H Q _ => ∃ (s l : Addr) (os ps qs ws : List Str), vs = [.ref s, .ref l] ∧ Sht os ps qs ∧ SheetAt H s os ps qs ∧ SqL K H l (ws.map V.str) ∧ (∀ x ∈ ws, x ∈ os ++ ps ++ qs) ∧ ∀ H', Ex H H' → Q .non H'
theorem ok_needWord {f fO : Addr} {fd fdO : FuncData} {k : Nat} (F : Fun K "need_word" "need_word" sNeedWord f fd) (FO : Fun K "order_of" "order_of" sOrderOf fO fdO) (bO : Binds K fdO ["sheet"] []) (gO : mg "order_of" = some (.ref fO)) (me : mg "enumerate" = none) : FnOk P w K mg base CX0 (k + 2) f fd ["sheet", "word"] (spNeedWord K) := by
  have GO : FnOk P w K mg base CX0 (k + 1) fO fdO ["sheet"] spOrderOf := ok_orderOf FO me
  have nd := scNeedWord.nd
  refine F.ok scNeedWord (fun vs H Q E h => ?_) (fun cdv A outer s H vs Q E hr h => ?_)
  · obtain ⟨s, l, os, ps, qs, ws, rfl, _⟩ := h
    rfl
  · obtain ⟨s, l, os, ps, qs, ws, rfl, hS, hs, hl, hw, q⟩ := h
    have hu := hu_of hr
    refine ⟨_, pss_cons (ps_set (i := 2) nd rfl (.inl rfl) (pe_call GO hr (by rfl) gO FO.kp bO .nil pass0 (pa_cons (pv 0) pa_nil)))
      (pss_one (ps_for PassesOwn.never rfl (pi_enum (by rfl) me (pa_cons (pv 1) pa_nil)) (pg_tup rfl (pgs_cons (pg_name (i := 3) nd rfl (.inl rfl)) (pgs_cons (pg_name (i := 4) nd rfl (.inl rfl)) pgs_nil)))
        (pss_one (ps_if (pt_cmp (pc_dnotin hu (pv 4) (pv 2))) (pss_one ps_never) pss_nil)))), ?_⟩
    refine ⟨_, rfl, s, os, ps, qs, rfl, hS, hs, fun d H1 e1 nd1 hd => ?_⟩
    refine ⟨_, rfl, l, _, rfl, ex_l e1 hl, for_enum (xs := ws.map V.str) (fun i σ H' => (∃ y3 y4, σ = [some (.ref s), some (.ref l), some (.ref d), y3, y4]) ∧ Ex H1 H') ⟨⟨_, _, rfl⟩, Ex.refl _⟩ (fun i σ H' _ hh => ex_l (e1.trans hh.2) hl) ?_ ?_⟩
    · rintro i x σ H' T hx ⟨⟨y3, y4, rfl⟩, eH⟩ nT
      rw [List.getElem?_map] at hx
      obtain ⟨y, hy, rfl⟩ := Option.map_eq_some_iff.mp hx
      have eT : Ex H' (upd H' T (.tup [.int (i : Nat), .str y])) := Ex.new nT
      have hin : y ∈ os ++ ps ++ qs := hw y (List.mem_of_getElem? hy)
      refine ⟨_, rfl, _, rfl, d, _, rfl, DGet.k (k := Sum.inr y) (eT _ _ (eH _ _ hd)), ?_⟩
      rw [ordKV_some _ _ _ hin]
      exact ⟨_, rfl, iteF ⟨⟨_, _, rfl⟩, eH.trans eT⟩⟩
    · rintro σ H' ⟨_, eH⟩
      exact q H' (e1.trans eH)
def spOrder : Sp := fun vs H Q _ => ∃ (s : Addr) (os ps qs : List Str), vs = [.ref s] ∧ Sht os ps qs ∧ SheetAt H s os ps qs ∧ ∀ l H', Ex H H' → H l = none → H' l = some (lS (os ++ ps ++ qs)) → Q (.ref l) H'
theorem ok_order {f : Addr} {fd : FuncData} {k : Nat} (F : Fun K "_law_order" "_law_order" sOrder f fd) (ml : mg "list" = none) : FnOk P w K mg base CX0 (k + 1) f fd ["sheet"] spOrder := by
  refine F.ok scOrder (fun vs H Q E h => ?_) (fun cdv A outer s H vs Q E hr h => ?_)
  · obtain ⟨s, os, ps, qs, rfl, _⟩ := h
    rfl
  · obtain ⟨s, os, ps, qs, rfl, hS, ⟨ao, ap, ac, h0, h1, h2, h3⟩, q⟩ := h
    refine ⟨_, pss_one (ps_ret (pe_op op_cat (pe_op op_cat (pe_callTy call_list_of (by rfl) ml (by decide +kernel) (pa_cons (pe_ix ix_tup (pv 0) pe_int (fun _ _ => rfl)) pa_nil)) (pe_callTy call_list_of (by rfl) ml (by decide +kernel) (pa_cons (pe_ix ix_tup (pv 0) pe_int (fun _ _ => rfl)) pa_nil))) (pe_callTy call_list_of (by rfl) ml (by decide +kernel) (pa_cons (pe_ix ix_tup (pv 0) pe_int (fun _ _ => rfl)) pa_nil)))), ?_⟩
    have := hS.o4
    have := hS.p4
    have := hS.c4
    refine ⟨_, rfl, s, _, 0, .ref ao, rfl, rfl, st_of h0, rfl, ao, _, rfl, .inr (st_of h1), fun l1 n1 => ?_⟩
    have e1 : Ex H _ := Ex.new (o := lS os) n1
    refine ⟨_, rfl, s, _, 1, .ref ap, rfl, rfl, st_of (e1 _ _ h0), rfl, ap, _, rfl, .inr (st_of (e1 _ _ h2)), fun l2 n2 => ?_⟩
    have e2 : Ex _ _ := Ex.new (o := lS ps) n2
    refine ⟨l1, l2, _, _, rfl, rfl, e2 _ _ upd_same, upd_same, ?_, fun l3 n3 => ?_⟩
    · rw [List.length_map, List.length_map]
      exact sz_of (by omega)
    have e3 : Ex _ _ := Ex.new (o := .lst (os.map V.str ++ ps.map V.str)) n3
    refine ⟨_, rfl, s, _, 2, .ref ac, rfl, rfl, st_of (e3 _ _ (e2 _ _ (e1 _ _ h0))), rfl, ac, _, rfl, .inr (st_of (e3 _ _ (e2 _ _ (e1 _ _ h3)))), fun l4 n4 => ?_⟩
    have e4 : Ex _ _ := Ex.new (o := lS qs) n4
    refine ⟨l3, l4, _, _, rfl, rfl, e4 _ _ upd_same, upd_same, ?_, fun l5 n5 => ?_⟩
    · rw [List.length_append, List.length_map, List.length_map, List.length_map]
      exact sz_of (by omega)
    have ee := ((e1.trans e2).trans e3).trans e4
    refine q l5 _ (ee.trans (Ex.new n5)) (fresh_back ee n5) ?_
    rw [upd_same, ← List.map_append, ← List.map_append]
end
end Eh
set_option linter.all false
namespace Eh
/-! what answers what: the mathematics -/
inductive Kd | op | pl | cl
deriving DecidableEq
def tv (t : List (Option Nat)) (j : Nat) : Option Nat := t.getD j none
theorem tv_set {t : List (Option Nat)} {a : Nat} {v : Option Nat} (h : a < t.length) (j : Nat) : tv (t.set a v) j = if j = a then v else tv t j := by
  unfold tv
  rw [List.getD_eq_getElem?_getD, List.getD_eq_getElem?_getD, List.getElem?_set]
  by_cases e : j = a
  · subst e
    simp [h]
  · rw [if_neg (fun z => e z.symm), if_neg e]
theorem tv_rep (n j : Nat) : tv (List.replicate n none) j = none := by
  unfold tv
  rw [List.getD_eq_getElem?_getD, List.getElem?_replicate]
  split <;> rfl
theorem tv_get {t : List (Option Nat)} {j : Nat} (h : j < t.length) : t[j]? = some (tv t j) := by
  unfold tv
  rw [List.getD_eq_getElem?_getD, List.getElem?_eq_getElem h]
  rfl
def step (kf : Nat → Kd) (i : Nat) (S : List (Option Nat) × List Nat) : List (Option Nat) × List Nat :=
  match kf i with
  | .op => (S.1, i :: S.2)
  | .pl => S
  | .cl => match S.2 with
    | [] => S
    | b :: r => ((S.1.set b (some i)).set i (some b), r)
def run (kf : Nat → Kd) (n : Nat) : Nat → List (Option Nat) × List Nat
  | 0 => (List.replicate n none, [])
  | i + 1 => step kf i (run kf n i)
structure Good (kf : Nat → Kd) (n i : Nat) (t : List (Option Nat)) (st : List Nat) : Prop where
  len : t.length = n
  srt : st.Pairwise (· > ·)
  bd : ∀ b ∈ st, b < i ∧ kf b = .op ∧ tv t b = none
  opn : ∀ j, j < i → kf j = .op → tv t j = none → j ∈ st
  hi : ∀ j, i ≤ j → tv t j = none
  pr : ∀ j m, tv t j = some m → j < i ∧ m < i ∧ tv t m = some j ∧ ((kf j = .op ∧ kf m = .cl ∧ j < m ∧ ∀ b ∈ st, ¬ (j ≤ b ∧ b ≤ m)) ∨ (kf j = .cl ∧ kf m = .op ∧ m < j ∧ ∀ b ∈ st, ¬ (m ≤ b ∧ b ≤ j)))
theorem good_run (kf : Nat → Kd) (n : Nat) : ∀ i, i ≤ n → Good kf n i (run kf n i).1 (run kf n i).2
  | 0, _ => by
    refine ⟨List.length_replicate, List.Pairwise.nil, fun b hb => (List.not_mem_nil hb).elim, fun j hj => absurd hj (Nat.not_lt_zero j), fun j _ => tv_rep n j, fun j m h => ?_⟩
    have := tv_rep n j
    rw [show (run kf n 0).1 = List.replicate n none from rfl, this] at h
    cases h
  | i + 1, hi => by
    have G := good_run kf n i (by omega)
    show Good kf n (i + 1) (step kf i (run kf n i)).1 (step kf i (run kf n i)).2
    generalize run kf n i = S at G ⊢
    obtain ⟨t, st⟩ := S
    replace G : Good kf n i t st := G
    unfold step
    cases hk : kf i with
    | pl =>
      refine ⟨G.len, G.srt, fun b hb => ⟨by have := (G.bd b hb).1; omega, (G.bd b hb).2⟩, fun j hj ho hn => ?_, fun j hj => G.hi j (by omega), fun j m h => ?_⟩
      · rcases Nat.lt_succ_iff_lt_or_eq.mp hj with z | z
        · exact G.opn j z ho hn
        · subst z
          rw [hk] at ho
          cases ho
      · obtain ⟨a, b, c, d⟩ := G.pr j m h
        exact ⟨by omega, by omega, c, d⟩
    | op =>
      have hn := G.hi i (Nat.le_refl i)
      refine ⟨G.len, List.Pairwise.cons (fun b hb => (G.bd b hb).1) G.srt, fun b hb => ?_, fun j hj ho hn => ?_, fun j hj => G.hi j (by omega), fun j m h => ?_⟩
      · rcases List.mem_cons.mp hb with z | z
        · subst z
          exact ⟨by omega, hk, hn⟩
        · exact ⟨by have := (G.bd b z).1; omega, (G.bd b z).2⟩
      · rcases Nat.lt_succ_iff_lt_or_eq.mp hj with z | z
        · exact List.mem_cons_of_mem _ (G.opn j z ho hn)
        · subst z
          exact List.mem_cons_self ..
      · obtain ⟨a, b, c, d⟩ := G.pr j m h
        refine ⟨by omega, by omega, c, ?_⟩
        rcases d with ⟨d1, d2, d3, d4⟩ | ⟨d1, d2, d3, d4⟩
        · refine .inl ⟨d1, d2, d3, fun x hx => ?_⟩
          rcases List.mem_cons.mp hx with z | z
          · omega
          · exact d4 x z
        · refine .inr ⟨d1, d2, d3, fun x hx => ?_⟩
          rcases List.mem_cons.mp hx with z | z
          · omega
          · exact d4 x z
    | cl =>
      cases st with
      | nil =>
        refine ⟨G.len, G.srt, fun b hb => (List.not_mem_nil hb).elim, fun j hj ho hn => ?_, fun j hj => G.hi j (by omega), fun j m h => ?_⟩
        · rcases Nat.lt_succ_iff_lt_or_eq.mp hj with z | z
          · exact G.opn j z ho hn
          · subst z
            rw [hk] at ho
            cases ho
        · obtain ⟨a, b, c, d⟩ := G.pr j m h
          exact ⟨by omega, by omega, c, d⟩
      | cons b r =>
        obtain ⟨hb1, hb2, hb3⟩ := G.bd b (List.mem_cons_self ..)
        have hlen := G.len
        obtain ⟨hs1, hs2⟩ := List.pairwise_cons.mp G.srt
        have T : ∀ j, tv ((t.set b (some i)).set i (some b)) j = if j = i then some b else if j = b then some i else tv t j := fun j => by
          rw [tv_set (by rw [List.length_set]; omega), tv_set (by omega)]
        refine ⟨by simp [G.len], hs2, fun c hc => ?_, fun j hj ho hn => ?_, fun j hj => ?_, fun j m h => ?_⟩
        · obtain ⟨c1, c2, c3⟩ := G.bd c (List.mem_cons_of_mem _ hc)
          have := hs1 c hc
          refine ⟨by omega, c2, ?_⟩
          rw [T, if_neg (by omega), if_neg (by omega)]
          exact c3
        · rw [T] at hn
          by_cases e1 : j = i
          · rw [if_pos e1] at hn
            cases hn
          · rw [if_neg e1] at hn
            by_cases e2 : j = b
            · rw [if_pos e2] at hn
              cases hn
            · rw [if_neg e2] at hn
              exact (List.mem_cons.mp (G.opn j (by omega) ho hn)).resolve_left e2
        · rw [T, if_neg (by omega), if_neg (by omega)]
          exact G.hi j (by omega)
        · rw [T] at h
          by_cases e1 : j = i
          · rw [if_pos e1] at h
            have em : b = m := Option.some.inj h
            subst em
            subst e1
            refine ⟨by omega, by omega, ?_, .inr ⟨hk, hb2, hb1, fun c hc => by have := hs1 c hc; omega⟩⟩
            rw [T, if_neg (by omega), if_pos rfl]
          · rw [if_neg e1] at h
            by_cases e2 : j = b
            · rw [if_pos e2] at h
              have em : i = m := Option.some.inj h
              subst em
              subst e2
              refine ⟨by omega, by omega, ?_, .inl ⟨hb2, hk, hb1, fun c hc => by have := hs1 c hc; omega⟩⟩
              rw [T, if_pos rfl]
            · rw [if_neg e2] at h
              obtain ⟨g1, g2, g3, g4⟩ := G.pr j m h
              refine ⟨by omega, by omega, ?_, ?_⟩
              · rw [T, if_neg (by omega), if_neg (fun z => by
                  rw [z, hb3] at g3
                  cases g3)]
                exact g3
              · rcases g4 with ⟨d1, d2, d3, d4⟩ | ⟨d1, d2, d3, d4⟩
                · exact .inl ⟨d1, d2, d3, fun c hc => d4 c (List.mem_cons_of_mem _ hc)⟩
                · exact .inr ⟨d1, d2, d3, fun c hc => d4 c (List.mem_cons_of_mem _ hc)⟩
/-- what was told stays; what is told later is of later places -/
theorem run_later (kf : Nat → Kd) (n i j : Nat) : ∀ d, i + d ≤ n → (∀ m, tv (run kf n i).1 j = some m → tv (run kf n (i + d)).1 j = some m) ∧ (j < i → tv (run kf n i).1 j = none → tv (run kf n (i + d)).1 j = none ∨ ∃ m, i ≤ m ∧ tv (run kf n (i + d)).1 j = some m)
  | 0, _ => ⟨fun m h => h, fun _ h => .inl h⟩
  | d + 1, hd => by
    obtain ⟨ih1, ih2⟩ := run_later kf n i j d (by omega)
    have G := good_run kf n (i + d) (by omega)
    show (∀ m, tv (run kf n i).1 j = some m → tv (step kf (i + d) (run kf n (i + d))).1 j = some m) ∧ (j < i → tv (run kf n i).1 j = none → tv (step kf (i + d) (run kf n (i + d))).1 j = none ∨ ∃ m, i ≤ m ∧ tv (step kf (i + d) (run kf n (i + d))).1 j = some m)
    generalize run kf n (i + d) = S at G ih1 ih2 ⊢
    obtain ⟨t, st⟩ := S
    replace G : Good kf n (i + d) t st := G
    replace ih1 : ∀ m, tv (run kf n i).1 j = some m → tv t j = some m := ih1
    replace ih2 : j < i → tv (run kf n i).1 j = none → tv t j = none ∨ ∃ m, i ≤ m ∧ tv t j = some m := ih2
    unfold step
    cases hk : kf (i + d) with
    | pl => exact ⟨ih1, ih2⟩
    | op => exact ⟨ih1, ih2⟩
    | cl =>
      cases st with
      | nil => exact ⟨ih1, ih2⟩
      | cons b r =>
        obtain ⟨hb1, hb2, hb3⟩ := G.bd b (List.mem_cons_self ..)
        have hlen := G.len
        have T : tv ((t.set b (some (i + d))).set (i + d) (some b)) j = if j = i + d then some b else if j = b then some (i + d) else tv t j := by
          rw [tv_set (by rw [List.length_set]; omega), tv_set (by omega)]
        constructor
        · intro m h
          have h' := ih1 m h
          have := (G.pr j m h').1
          show tv ((t.set b (some (i + d))).set (i + d) (some b)) j = some m
          rw [T, if_neg (by omega), if_neg (fun z => by rw [z, hb3] at h'; cases h')]
          exact h'
        · intro hj h
          show tv ((t.set b (some (i + d))).set (i + d) (some b)) j = none ∨ ∃ m, i ≤ m ∧ tv ((t.set b (some (i + d))).set (i + d) (some b)) j = some m
          rw [T, if_neg (by omega)]
          by_cases e : j = b
          · rw [if_pos e]
            exact .inr ⟨i + d, by omega, rfl⟩
          · rw [if_neg e]
            exact ih2 hj h
/-- a falling row as the places that are in it -/
theorem filter_desc : ∀ (i : Nat) (st : List Nat), st.Pairwise (· > ·) → (∀ b ∈ st, b < i) → (List.range i).filter (fun a => decide (a ∈ st)) = st.reverse
  | 0, st, _, h => by
    cases st with
    | nil => rfl
    | cons b r => exact absurd (h b (List.mem_cons_self ..)) (Nat.not_lt_zero b)
  | i + 1, st, hs, h => by
    rw [List.range_succ, List.filter_append]
    by_cases hm : i ∈ st
    · cases st with
      | nil => exact (List.not_mem_nil hm).elim
      | cons b r =>
        obtain ⟨h1, h2⟩ := List.pairwise_cons.mp hs
        have hb : b = i := by
          rcases List.mem_cons.mp hm with z | z
          · exact z.symm
          · have := h1 i z
            have := h b (List.mem_cons_self ..)
            omega
        subst hb
        have ih := filter_desc b r h2 (fun c hc => h1 c hc)
        have e : (List.range b).filter (fun a => decide (a ∈ b :: r)) = (List.range b).filter (fun a => decide (a ∈ r)) := by
          refine List.filter_congr fun a ha => ?_
          have := List.mem_range.mp ha
          have : (a ∈ b :: r) ↔ a ∈ r := ⟨fun z => (List.mem_cons.mp z).resolve_left (by omega), fun z => List.mem_cons_of_mem _ z⟩
          simp only [this]
        rw [e, ih, List.reverse_cons, List.filter_cons, if_pos (decide_eq_true hm)]
        rfl
    · have ih := filter_desc i st hs (fun b hb => by
        have := h b hb
        have : b ≠ i := fun z => hm (z ▸ hb)
        omega)
      rw [ih, List.filter_cons, if_neg (by rw [decide_eq_false hm]; exact Bool.false_ne_true)]
      exact List.append_nil _
/-- the opens ahead of a place that are answered behind it, or never, are those that wait -/
theorem waits (kf : Nat → Kd) (n i : Nat) (hi : i ≤ n) : (List.range i).filter (fun a => decide (kf a = .op) && (decide (tv (run kf n n).1 a = none) || decide (∃ m, tv (run kf n n).1 a = some m ∧ i ≤ m))) = (run kf n i).2.reverse := by
  have G := good_run kf n i hi
  rw [← filter_desc i _ G.srt fun b hb => (G.bd b hb).1]
  refine List.filter_congr fun a ha => ?_
  have ha := List.mem_range.mp ha
  obtain ⟨l1, l2⟩ := run_later kf n i a (n - i) (by omega)
  rw [show i + (n - i) = n by omega] at l1 l2
  rw [Bool.eq_iff_iff]
  simp only [Bool.and_eq_true, Bool.or_eq_true, decide_eq_true_eq]
  constructor
  · rintro ⟨ho, hn⟩
    refine G.opn a ha ho ?_
    cases e : tv (run kf n i).1 a with
    | none => rfl
    | some m =>
      have e' := l1 m e
      have := (G.pr a m e).2.1
      rcases hn with z | ⟨m', z, hm⟩
      · rw [e'] at z
        cases z
      · rw [e'] at z
        have := Option.some.inj z
        omega
  · intro hm
    obtain ⟨_, h2, h3⟩ := G.bd a hm
    refine ⟨h2, ?_⟩
    rcases l2 ha h3 with z | ⟨m, hm, z⟩
    · exact .inl z
    · exact .inr ⟨m, z, hm⟩
def dep (kf : Nat → Kd) (n : Nat) : Nat → Nat
  | 0 => 0
  | i + 1 => max (dep kf n i) (run kf n (i + 1)).2.length
theorem dep_ge (kf : Nat → Kd) (n : Nat) : ∀ i, (run kf n i).2.length ≤ dep kf n i
  | 0 => Nat.le_refl _
  | i + 1 => Nat.le_max_right _ _
end Eh
set_option Elab.async false
set_option linter.all false
set_option maxRecDepth 100000
set_option maxHeartbeats 4000000
namespace Eh
open PySem PySem.Spec PyProof.Rows L2 Evl
def kdOf (os qs : List Str) (x : Str) : Kd := if x ∈ os then .op else if x ∈ qs then .cl else .pl
def kfOf (os qs ws : List Str) (i : Nat) : Kd := match ws[i]? with
  | some x => kdOf os qs x
  | none => .pl
theorem kfOf_at {os qs ws : List Str} {i : Nat} {x : Str} (h : ws[i]? = some x) : kfOf os qs ws i = kdOf os qs x := by
  unfold kfOf
  rw [h]
theorem inV_str (x : Str) : ∀ os : List Str, inV (.str x) (os.map V.str) = decide (x ∈ os)
  | [] => rfl
  | y :: r => by
    show (eqV (.str y) (.str x) || inV (.str x) (r.map V.str)) = _
    rw [inV_str x r, show eqV (.str y) (.str x) = (y == x) from rfl]
    by_cases e : y = x
    · subst e
      simp
    · have e' : ¬ x = y := fun z => e z.symm
      simp [e, e']
theorem flat_str (os : List Str) : (os.map V.str).all flatV = true := by
  rw [List.all_eq_true]
  intro v hv
  obtain ⟨x, _, rfl⟩ := List.mem_map.mp hv
  rfl
def oV : Option Nat → V
  | none => .non
  | some j => .int (j : Int)
def nV (j : Nat) : V := .int (j : Int)
abbrev tO (t : List (Option Nat)) : HO := .lst (t.map oV)
abbrev tN (st : List Nat) : HO := .lst (st.map nV)
def ansOf (os qs ws : List Str) : List (Option Nat) := (run (kfOf os qs ws) ws.length ws.length).1
theorem scAnswers : FnScope ["sheet", "word", "told", "waiting", "place", "letter", "begun"] ["sheet", "word"] (defScope sAnswers) := ⟨rfl, rfl, rfl, by decide +kernel, rfl, by decide +kernel, by decide +kernel⟩
theorem flat_rep {α : Type} (x : α) : ∀ n, (List.replicate n [x]).flatten = List.replicate n x
  | 0 => rfl
  | n + 1 => by
    rw [List.replicate_succ, List.flatten_cons, flat_rep x n, List.replicate_succ]
    rfl
section
variable {P : Program} {w : World} {K : PySem.W.Frag} {mg : Str → Option Value} {base : Heap}
def spAnswers (K : PySem.W.Frag) : Sp := fun vs H Q _ => ∃ (s l : Addr) (os ps qs ws : List Str), vs = [.ref s, .ref l] ∧ Sht os ps qs ∧ SheetAt H s os ps qs ∧ SqL K H l (ws.map V.str) ∧ (∀ x ∈ ws, x ∈ os ++ ps ++ qs) ∧ ws.length ≤ 10000 ∧ ∀ a H', Ex H H' → H a = none → H' a = some (tO (ansOf os qs ws)) → Q (.ref a) H'
theorem ok_answers {f fN : Addr} {fd fdN : FuncData} {k : Nat} (F : Fun K "answers" "answers" sAnswers f fd) (FN : Fun K "need_word" "need_word" sNeedWord fN fdN) (GN : FnOk P w K mg base CX0 (k + 1) fN fdN ["sheet", "word"] (spNeedWord K)) (bN : Binds K fdN ["sheet", "word"] []) (gN : mg "need_word" = some (.ref fN)) (ml : mg "len" = none) (me : mg "enumerate" = none) : FnOk P w K mg base CX0 (k + 2) f fd ["sheet", "word"] (spAnswers K) := by
  have nd := scAnswers.nd
  refine F.ok scAnswers (fun vs H Q E h => ?_) (fun cdv A outer s H vs Q E hr h => ?_)
  · obtain ⟨s, l, os, ps, qs, ws, rfl, _⟩ := h
    rfl
  · obtain ⟨s, l, os, ps, qs, ws, rfl, hS, hs, hl, hw, hlen, q⟩ := h
    refine ⟨_, pss_cons (ps_expr (pe_call GN hr (by rfl) gN FN.kp bN .nil pass0 (pa_cons (pv 0) (pa_cons (pv 1) pa_nil))))
      (pss_cons (ps_set (i := 2) nd rfl (.inl rfl) (pe_op op_rep (pe_lst (pa_cons pe_non pa_nil)) (pe_callB call_len_seq (by rfl) ml PySem.boot_len (pa_cons (pv 1) pa_nil))))
      (pss_cons (ps_set (i := 3) nd rfl (.inl rfl) (pe_lst pa_nil))
      (pss_cons (ps_for PassesOwn.never rfl (pi_enum (by rfl) me (pa_cons (pv 1) pa_nil)) (pg_tup rfl (pgs_cons (pg_name (i := 4) nd rfl (.inl rfl)) (pgs_cons (pg_name (i := 5) nd rfl (.inl rfl)) pgs_nil)))
        (pss_one (ps_if (pt_cmpR op_in_seq (pv 5) (pe_ix ix_tup (pv 0) pe_int (fun _ _ => rfl)) (by rfl))
          (pss_one (ps_expr (pe_bm PySem.F.plainAttrs_list PySem.F.slot_list_append PySem.F.type_list_append mt_append (pv 3) (pa_cons (pv 4) pa_nil))))
          (pss_one (ps_if (PW.pt (pw_and (pt_cmpR op_in_seq (pv 5) (pe_ix ix_tup (pv 0) pe_int (fun _ _ => rfl)) (by rfl)) (pw_and1 (pt_truth (pv 3) (by intro _; rfl)))))
            (pss_cons (ps_set (i := 6) nd rfl (.inl rfl) (pe_bm0 PySem.F.plainAttrs_list PySem.F.slot_list_pop PySem.F.type_list_pop mt_pop (pv 3)))
            (pss_cons (ps_asg (pv 4) (pg_sub (pv 2) (pv 6) set_list))
            (pss_one (ps_asg (pv 6) (pg_sub (pv 2) (pv 4) set_list)))))
            pss_nil)))))
      (pss_one (ps_ret (pv 2)))))), ?_⟩
    refine ⟨_, rfl, _, rfl, s, l, os, ps, qs, ws, rfl, hS, hs, hl, hw, fun H1 e1 => ?_⟩
    -- told
    refine ⟨(by show 1 ≤ sizeLine; decide), fun u nu => ?_⟩
    have e2 : Ex H1 (upd H1 u (.lst [.non])) := Ex.new nu
    refine ⟨_, rfl, l, _, rfl, .inl (ex_l (e1.trans e2) hl), u, _, _, rfl, rfl, upd_same, by omega, ?_, ?_, fun T nT => ?_⟩
    · rw [List.length_map]
      omega
    · rw [List.length_map, Int.toNat_natCast]
      exact sz_of (by simp only [List.length_singleton]; omega)
    rw [List.length_map, Int.toNat_natCast, flat_rep, show List.replicate ws.length V.non = (List.replicate ws.length (none : Option Nat)).map oV by rw [List.map_replicate]; rfl]
    have e3 : Ex H (upd (upd H1 u (.lst [.non])) T (tO (List.replicate ws.length none))) := (e1.trans e2).trans (Ex.new nT)
    have nTH : H T = none := fresh_back (e1.trans e2) nT
    have hT3 : (upd (upd H1 u (.lst [.non])) T (tO (List.replicate ws.length none))) T = some (tO (List.replicate ws.length none)) := upd_same
    show tSeq _ _ _ [some (.ref s), some (.ref l), some (.ref T), none, none, none, none] (upd (upd H1 u (.lst [.non])) T (tO (List.replicate ws.length none)))
    generalize upd (upd H1 u (.lst [.non])) T (tO (List.replicate ws.length none)) = H3 at e3 hT3 ⊢
    -- waiting
    refine ⟨Nat.zero_le _, fun W nW => ?_⟩
    have nWH : H W = none := fresh_back e3 nW
    have nTW : T ≠ W := ne_of_none hT3 nW
    have e4 : Ex H (upd H3 W (tN [])) := e3.trans (Ex.new nW)
    obtain ⟨ao, ap, ac, g0, g1, g2, g3⟩ := hs
    refine ⟨_, rfl, l, _, rfl, ex_l e4 hl, for_enum (xs := ws.map V.str) (fun i σ H' => (∃ y4 y5 y6, σ = [some (.ref s), some (.ref l), some (.ref T), some (.ref W), y4, y5, y6]) ∧ Ex H H' ∧ H' T = some (tO (run (kfOf os qs ws) ws.length i).1) ∧ H' W = some (tN (run (kfOf os qs ws) ws.length i).2.reverse)) ⟨⟨_, _, _, rfl⟩, e4, by rw [upd_ne nTW]; exact hT3, upd_same⟩ (fun i σ H' _ hh => ex_l hh.2.1 hl) ?_ ?_⟩
    · rintro i x σ H' Tp hx ⟨⟨y4, y5, y6, rfl⟩, eH, hT, hW⟩ nTp
      rw [List.getElem?_map] at hx
      obtain ⟨y, hy, rfl⟩ := Option.map_eq_some_iff.mp hx
      have hi := (List.getElem?_eq_some_iff.mp hy).1
      have GR := good_run (kfOf os qs ws) ws.length i (by omega)
      have hrun : run (kfOf os qs ws) ws.length (i + 1) = step (kfOf os qs ws) i (run (kfOf os qs ws) ws.length i) := rfl
      have hk : kfOf os qs ws i = kdOf os qs y := kfOf_at hy
      have eT : Ex H' (upd H' Tp (.tup [.int (i : Nat), .str y])) := Ex.new nTp
      have eHT := eH.trans eT
      replace hT := eT _ _ hT
      replace hW := eT _ _ hW
      generalize upd H' Tp (.tup [.int (i : Nat), .str y]) = H'' at eHT hT hW ⊢
      generalize run (kfOf os qs ws) ws.length i = S at GR hrun hT hW ⊢
      obtain ⟨t, st⟩ := S
      replace GR : Good _ _ i t st := GR
      replace hT : H'' T = some (tO t) := hT
      replace hW : H'' W = some (tN st.reverse) := hW
      have hlt := GR.len
      have hst : st.length ≤ i := by
        have := congrArg List.length (filter_desc i st GR.srt fun b hb => (GR.bd b hb).1)
        rw [List.length_reverse] at this
        rw [← this]
        have h2 := List.length_filter_le (fun a => decide (a ∈ st)) (List.range i)
        rw [List.length_range] at h2
        exact h2
      refine ⟨_, rfl, _, rfl, s, _, 0, .ref ao, rfl, rfl, st_of (eHT _ _ g0), rfl, ao, _, rfl, .inr (st_of (eHT _ _ g1)), rfl, flat_str os, _, rfl, ?_⟩
      show if inV (.str y) (os.map V.str) = true then _ else _
      rw [inV_str]
      refine ite2 (fun ho => ?_) (fun ho => ?_)
      · have hko : kfOf os qs ws i = .op := by
          rw [hk]
          unfold kdOf
          rw [if_pos (of_decide_eq_true ho)]
        refine ⟨_, rfl, .inl ⟨rfl, _, sq_of hW⟩, _, rfl, W, _, _, rfl, rfl, hW, ?_, ⟨_, _, _, rfl⟩, eHT.mut nWH, ?_, ?_⟩
        · rw [List.length_map, List.length_reverse]
          exact sz_lt (by omega)
        · rw [upd_ne nTW, hT, hrun]
          unfold step
          rw [hko]
        · rw [upd_same, hrun]
          unfold step
          rw [hko]
          show some (HO.lst (st.reverse.map nV ++ [nV i])) = some (HO.lst ((i :: st).reverse.map nV))
          rw [List.reverse_cons, List.map_append]
          rfl
      · have hno : ¬ y ∈ os := fun z => ho (decide_eq_true z)
        refine ⟨_, rfl, _, rfl, s, _, 2, .ref ac, rfl, rfl, st_of (eHT _ _ g0), rfl, ac, _, rfl, .inr (st_of (eHT _ _ g3)), rfl, flat_str qs, _, rfl, ?_⟩
        show if inV (.str y) (qs.map V.str) = true then _ else _
        rw [inV_str]
        refine ite2 (fun hc => ?_) (fun hc => ?_)
        · have hkc : kfOf os qs ws i = .cl := by
            rw [hk]
            unfold kdOf
            rw [if_neg hno, if_pos (of_decide_eq_true hc)]
          refine ⟨_, rfl, _, .inl ⟨_, sq_of hW, rfl⟩, ?_⟩
          cases st with
          | nil =>
            refine iteF ?_
            refine ⟨⟨_, _, _, rfl⟩, eHT, ?_, ?_⟩
            · rw [hT, hrun]
              unfold step
              rw [hkc]
            · rw [hW, hrun]
              unfold step
              rw [hkc]
          | cons b r =>
            obtain ⟨hb1, hb2, hb3⟩ := GR.bd b (List.mem_cons_self ..)
            have er : ((b :: r).reverse.map nV) = r.reverse.map nV ++ [nV b] := by
              rw [List.reverse_cons, List.map_append]
              rfl
            rw [er]
            have hemp : (!(r.reverse.map nV ++ [nV b]).isEmpty) = true := by
              rw [Bool.not_eq_true']
              cases r.reverse.map nV <;> rfl
            rw [hemp]
            refine iteT ?_
            have hW' : H'' W = some (.lst (r.reverse.map nV ++ [nV b])) := by
              rw [hW]
              unfold tN
              rw [er]
            refine ⟨_, rfl, .inl ⟨rfl, _, sq_of hW'⟩, W, _, nV b, rfl, rfl, hW', ?_, ?_⟩
            · rw [List.length_append, List.length_singleton, Nat.add_sub_cancel, List.getElem?_append_right (Nat.le_refl _), Nat.sub_self]
              rfl
            · rw [List.dropLast_concat]
              have hT1 : (upd H'' W (.lst (r.reverse.map nV))) T = some (tO t) := by
                rw [upd_ne nTW]
                exact hT
              refine ⟨_, rfl, _, rfl, _, rfl, T, _, _, b, rfl, rfl, hT1, ixN_nat (by rw [List.length_map]; omega), ?_⟩
              refine ⟨_, rfl, _, rfl, _, rfl, T, _, _, i, rfl, rfl, upd_same, ixN_nat (by rw [List.length_set, List.length_map]; omega), ⟨_, _, _, rfl⟩, ((eHT.mut nWH).mut nTH).mut nTH, ?_, ?_⟩
              · rw [upd_same, hrun]
                unfold step
                rw [hkc]
                show some (HO.lst (((t.map oV).set b (oV (some i))).set i (oV (some b)))) = some (tO ((t.set b (some i)).set i (some b)))
                rw [← List.map_set, ← List.map_set]
              · rw [upd_ne nTW.symm, upd_ne nTW.symm, upd_same, hrun]
                unfold step
                rw [hkc]
        · have hkp : kfOf os qs ws i = .pl := by
            rw [hk]
            unfold kdOf
            rw [if_neg hno, if_neg (fun z => hc (decide_eq_true z))]
          refine iteF ?_
          refine ⟨⟨_, _, _, rfl⟩, eHT, ?_, ?_⟩
          · rw [hT, hrun]
            unfold step
            rw [hkp]
          · rw [hW, hrun]
            unfold step
            rw [hkp]
    · rintro σ H' ⟨⟨y4, y5, y6, rfl⟩, eH, hT, hW⟩
      rw [List.length_map] at hT
      exact ⟨_, rfl, q T H' eH nTH hT⟩
end
end Eh
set_option Elab.async false
set_option linter.all false
set_option maxRecDepth 100000
set_option maxHeartbeats 4000000
namespace Eh
open PySem PySem.Spec PyProof.Rows L2 Evl
theorem Sht.apart {os ps qs : List Str} (h : Sht os ps qs) {x : Str} (h1 : x ∈ os) (h2 : x ∈ qs) : False := by
  have := List.nodup_append.mp h.nd
  exact this.2.2 x (List.mem_append.mpr (.inl h1)) x h2 rfl
theorem kd_op {os qs : List Str} {x : Str} : kdOf os qs x = .op ↔ x ∈ os := by
  unfold kdOf
  by_cases h : x ∈ os
  · rw [if_pos h]
    exact ⟨fun _ => h, fun _ => rfl⟩
  · rw [if_neg h]
    refine ⟨fun e => ?_, fun z => absurd z h⟩
    split at e <;> cases e
theorem kd_cl {os ps qs : List Str} (hS : Sht os ps qs) {x : Str} : kdOf os qs x = .cl ↔ x ∈ qs := by
  unfold kdOf
  by_cases h : x ∈ os
  · rw [if_pos h]
    exact ⟨fun e => (nomatch e), fun z => (hS.apart h z).elim⟩
  · rw [if_neg h]
    by_cases h2 : x ∈ qs
    · rw [if_pos h2]
      exact ⟨fun _ => h2, fun _ => rfl⟩
    · rw [if_neg h2]
      exact ⟨fun e => (nomatch e), fun z => absurd z h2⟩
theorem Sht.plain {os ps qs : List Str} (hS : Sht os ps qs) {x : Str} (h : x ∈ ps) : kdOf os qs x = .pl := by
  have h1 := List.nodup_append.mp hS.nd
  have h2 := List.nodup_append.mp h1.1
  unfold kdOf
  rw [if_neg (fun z => h2.2.2 x z x h rfl), if_neg (fun z => h1.2.2 x (List.mem_append.mpr (.inr h)) x z rfl)]
theorem given_map (xs : List Nat) (f : Nat → Bool) (g : Nat → V) : given xs.length (fun i => f (xs.getD i 0)) (fun i => g (xs.getD i 0)) = (xs.filter f).map g := by
  have e : (List.range xs.length).map (fun i => xs.getD i 0) = xs := by
    apply List.ext_getElem
    · rw [List.length_map, List.length_range]
    · intro i h1 h2
      rw [List.getElem_map, List.getElem_range, List.getD_eq_getElem?_getD, List.getElem?_eq_getElem h2]
      rfl
  unfold given
  conv => rhs; rw [← e]
  rw [List.filter_map, List.map_map]
  rfl
def aloneOf (os qs ws : List Str) (t : List (Option Nat)) : List Nat :=
  ((List.range ws.length).filter fun i => decide (tv t i = none)).filter (fun i => decide (kfOf os qs ws i = .cl)) ++ ((List.range ws.length).filter fun i => decide (tv t i = none)).filter (fun i => decide (kfOf os qs ws i = .op))
theorem aloneOf_nil {os qs ws : List Str} {t : List (Option Nat)} : aloneOf os qs ws t = [] ↔ ∀ i, i < ws.length → tv t i = none → kfOf os qs ws i = .pl := by
  unfold aloneOf
  rw [List.append_eq_nil_iff, List.filter_eq_nil_iff, List.filter_eq_nil_iff]
  constructor
  · rintro ⟨h1, h2⟩ i hi hn
    have hm : i ∈ (List.range ws.length).filter fun i => decide (tv t i = none) := List.mem_filter.mpr ⟨List.mem_range.mpr hi, decide_eq_true hn⟩
    cases hk : kfOf os qs ws i with
    | pl => rfl
    | op => exact absurd (decide_eq_true hk) (h2 i hm)
    | cl => exact absurd (decide_eq_true hk) (h1 i hm)
  · intro h
    constructor
    · intro i hm
      obtain ⟨a, b⟩ := List.mem_filter.mp hm
      rw [h i (List.mem_range.mp a) (of_decide_eq_true b)]
      decide
    · intro i hm
      obtain ⟨a, b⟩ := List.mem_filter.mp hm
      rw [h i (List.mem_range.mp a) (of_decide_eq_true b)]
      decide
abbrev nAlone : List Str := ["sheet", "word", "told", "places", "bare", "place"]
theorem scAlone : FnScope nAlone ["sheet", "word", "told"] (defScope sAlone) := ⟨rfl, rfl, rfl, by decide +kernel, rfl, by decide +kernel, by decide +kernel⟩
theorem rv_isN {K : PySem.W.Frag} {x : V} {H : Hp} : RV (fun x y H Q => y = V.non ∧ Q (.bl (decide (x = .non))) H) x .non H (.bl (decide (x = .non))) := fun H1 _ _ q => ⟨rfl, q H1 (Ex.refl H1)⟩
theorem oV_non (o : Option Nat) : decide (oV o = .non) = decide (o = none) := by
  cases o with
  | none => rfl
  | some j => exact (decide_eq_false (fun z => nomatch z)).trans (decide_eq_false (fun z => nomatch z)).symm
section
variable {P : Program} {w : World} {K : PySem.W.Frag} {mg : Str → Option Value} {base : Heap}
def spAlone (K : PySem.W.Frag) : Sp := fun vs H Q _ => ∃ (s l a : Addr) (os ps qs ws : List Str) (t : List (Option Nat)), vs = [.ref s, .ref l, .ref a] ∧ Sht os ps qs ∧ SheetAt H s os ps qs ∧ SqL K H l (ws.map V.str) ∧ SqL K H a (t.map oV) ∧ t.length = ws.length ∧ ws.length ≤ 10000 ∧ ∀ r H', Ex H H' → H r = none → H' r = some (tN (aloneOf os qs ws t)) → Q (.ref r) H'
theorem ok_alone {f : Addr} {fd : FuncData} {k : Nat} (F : Fun K "alone" "alone" sAlone f fd) (ml : mg "len" = none) (mr : mg "range" = none) : FnOk P w K mg base CX0 (k + 1) f fd ["sheet", "word", "told"] (spAlone K) := by
  have nd := scAlone.nd
  refine F.ok scAlone (fun vs H Q E h => ?_) (fun cdv A outer s H vs Q E hr h => ?_)
  · obtain ⟨s, l, a, os, ps, qs, ws, t, rfl, _⟩ := h
    rfl
  · obtain ⟨s, l, a, os, ps, qs, ws, t, rfl, hS, ⟨ao, ap, ac, g0, g1, g2, g3⟩, hl, ha, htl, hlen, q⟩ := h
    have bk := fun (scope : Scope) (h : blkC nAlone (defScope sAlone) scope [("place", 5)] = true) => blkOk_by (own := [("place", 5)]) h
    refine ⟨_, pss_cons (ps_setLc (i := 3) (own := [("place", 5)]) (g := gName 5) (tt := tTest (tOp (fun x y H Q => y = V.non ∧ Q (.bl (decide (x = .non))) H) (tOp (rIxL K) (tVar 2) (tVar 5)) (tC .non))) rfl nd rfl rfl (sw_true rfl rfl rfl (by decide +kernel)) (pi_range1 (by rfl) mr (pa_cons (pe_callB call_len_seq (by rfl) ml PySem.boot_len (pa_cons (pv 1) pa_nil)) pa_nil)) (bk _ (by decide +kernel)) (fun _ _ _ _ _ => pg_name (i := 5) nd rfl (Or.inl rfl)) (fun _ _ _ _ _ => pts_one (pt_cmpR op_isN (pe_ix ix_list (pv 2) (pv 5) (fun _ _ => rfl)) pe_non (nomark _))) (fun _ _ _ _ _ => pv 5))
      (pss_cons (ps_setLc (i := 4) (own := [("place", 5)]) (g := gName 5) (tt := tTest (tOp (rIn K false) (tOp (rIxL K) (tVar 1) (tVar 5)) (tOp (rIxT K) (tVar 0) (tC (.int 2))))) rfl nd rfl rfl (sw_true rfl rfl rfl (by decide +kernel)) (pi_list (pv 3)) (bk _ (by decide +kernel)) (fun _ _ _ _ _ => pg_name (i := 5) nd rfl (Or.inl rfl)) (fun _ _ _ _ _ => pts_one (pt_cmpR op_in_seq (pe_ix ix_list (pv 1) (pv 5) (fun _ _ => rfl)) (pe_ix ix_tup (pv 0) pe_int (fun _ _ => rfl)) (by rfl))) (fun _ _ _ _ _ => pv 5))
      (pss_one (ps_ret (pe_op op_cat (pv 4) (pe_lc (own := [("place", 5)]) (g := gName 5) (tt := tTest (tOp (rIn K false) (tOp (rIxL K) (tVar 1) (tVar 5)) (tOp (rIxT K) (tVar 0) (tC (.int 0))))) rfl nd (pi_list (pv 3)) (bk _ (by decide +kernel)) (fun _ _ _ _ _ => pg_name (i := 5) nd rfl (Or.inl rfl)) (fun _ _ _ _ _ => pts_one (pt_cmpR op_in_seq (pe_ix ix_list (pv 1) (pv 5) (fun _ _ => rfl)) (pe_ix ix_tup (pv 0) pe_int (fun _ _ => rfl)) (by rfl))) (fun _ _ _ _ _ => pv 5)))))), ?_⟩
    have n0 : (ws.map V.str).length = ws.length := List.length_map _
    refine q_asgL (el_lcR1 (fun i => decide (tv t i = none)) nV (ea_cons (ev_len (ev_var rfl) hl) ea_nil) (by rw [n0]; omega) (fun x => rfl) (fun i H1 e1 hi => ?_) (fun i H1 e1 hi _ => ev_var rfl)) fun p1 H1 np1 e1 hp1 => ?_
    · have hi' : i < t.length := by omega
      refine et_is (et_test (ev_op (ev_op (ev_var rfl) (ev_var rfl) (rv_ixL (ex_l e1 ha) (atI_nat (v := oV (tv t i)) ?_))) ev_c (rv_isN (K := K)))) (oV_non _)
      rw [List.getElem?_map, tv_get hi']
      rfl
    rw [n0, Int.toNat_natCast] at hp1
    generalize hpl : ((List.range ws.length).filter fun i => decide (tv t i = none)) = pl
    have epl : given ws.length (fun i => decide (tv t i = none)) nV = pl.map nV := by
      unfold given
      rw [hpl]
    rw [epl] at hp1
    have hplm : ∀ i x, (pl.map nV)[i]? = some x → ∃ j, x = nV j ∧ pl.getD i 0 = j ∧ j < ws.length := fun i x hx => by
      rw [List.getElem?_map] at hx
      obtain ⟨j, hj, rfl⟩ := Option.map_eq_some_iff.mp hx
      refine ⟨j, rfl, ?_, ?_⟩
      · rw [List.getD_eq_getElem?_getD, hj]
        rfl
      · have := List.mem_of_getElem? hj
        rw [← hpl] at this
        exact List.mem_range.mp (List.mem_filter.mp this).1
    have pll : (pl.map nV).length ≤ 40000 := by
      rw [List.length_map, ← hpl]
      have h2 := List.length_filter_le (fun i => decide (tv t i = none)) (List.range ws.length)
      rw [List.length_range] at h2
      omega
    have rd : ∀ (H2 : Hp), Ex H H2 → ∀ (j : Nat), j < ws.length → ∀ (σ' : L2.St) (y : List Str) (ad : Addr) (z : Int) (kd : Kd), σ'[0]? = some (some (.ref s)) → σ'[1]? = some (some (.ref l)) → σ'[5]? = some (some (nV j)) → atI [V.ref ao, .ref ap, .ref ac] z = some (.ref ad) → SqT K H2 ad (y.map V.str) → (∀ x, kdOf os qs x = kd ↔ x ∈ y) →
        EvT (tTest (tOp (rIn K false) (tOp (rIxL K) (tVar 1) (tVar 5)) (tOp (rIxT K) (tVar 0) (tC (.int z))))) σ' H2 (decide (kfOf os qs ws j = kd)) := fun H2 e2 j hj σ' y ad z kd h0 h1 h5 hat hsq hkd => by
      have hwj : ws[j]? = some ws[j] := List.getElem?_eq_getElem hj
      refine et_is (et_test (ev_op (ev_op (ev_var h1) (ev_var h5) (rv_ixL (ex_l e2 hl) (atI_nat (v := .str ws[j]) (by rw [List.getElem?_map, hwj]; rfl)))) (ev_op (ev_var h0) ev_c (rv_ixT (st_of (e2 _ _ g0)) hat)) (rv_isT hsq rfl (flat_str y)))) ?_
      rw [inV_str, kfOf_at hwj]
      exact decide_eq_decide.mpr (hkd _).symm
    have hc := fun x => kd_cl hS (x := x)
    refine q_asgL (el_lcL (fun i => decide (kfOf os qs ws (pl.getD i 0) = .cl)) (fun i => nV (pl.getD i 0)) (ev_var rfl) (sq_of hp1) pll (fun x => rfl) (fun i x H2 e2 hx => ?_) (fun i x H2 e2 hx _ => ?_)) fun p2 H2 np2 e2 hp2 => ?_
    · obtain ⟨j, rfl, hj, hj2⟩ := hplm i x hx
      rw [hj]
      exact rd H2 (e1.trans e2) j hj2 _ qs ac 2 .cl rfl rfl rfl rfl (st_of ((e1.trans e2) _ _ g3)) hc
    · obtain ⟨j, rfl, hj, hj2⟩ := hplm i x hx
      rw [hj]
      exact ev_var rfl
    rw [List.length_map, given_map pl (fun j => decide (kfOf os qs ws j = .cl)) nV] at hp2
    refine ⟨_, rfl, ?_⟩
    refine (el_lcL (fun i => decide (kfOf os qs ws (pl.getD i 0) = .op)) (fun i => nV (pl.getD i 0)) (ev_var rfl) (sq_of (e2 _ _ hp1)) pll (fun x => rfl) (fun i x H4 e4 hx => ?_) (fun i x H4 e4 hx _ => ?_)) H2 (Ex.refl _) _ fun p3 H4 np3 e4 hp3 => ?_
    · obtain ⟨j, rfl, hj, hj2⟩ := hplm i x hx
      rw [hj]
      exact rd H4 ((e1.trans e2).trans e4) j hj2 _ os ao 0 .op rfl rfl rfl rfl (st_of (((e1.trans e2).trans e4) _ _ g1)) (fun x => kd_op)
    · obtain ⟨j, rfl, hj, hj2⟩ := hplm i x hx
      rw [hj]
      exact ev_var rfl
    rw [List.length_map, given_map pl (fun j => decide (kfOf os qs ws j = .op)) nV] at hp3
    have ee := ((e1.trans e2).trans e4)
    refine ⟨p2, p3, _, _, rfl, rfl, e4 _ _ hp2, hp3, ?_, fun p4 np4 => q p4 _ (ee.trans (Ex.new np4)) (fresh_back ee np4) ?_⟩
    · rw [List.length_map, List.length_map]
      have a1 := List.length_filter_le (fun j => decide (kfOf os qs ws j = .cl)) pl
      have a2 := List.length_filter_le (fun j => decide (kfOf os qs ws j = .op)) pl
      rw [List.length_map] at pll
      exact sz_of (by omega)
    · rw [upd_same]
      unfold aloneOf tN
      rw [hpl, List.map_append]
def spWordV (K : PySem.W.Frag) (v : List Str → List Str → List Str → V) : Sp := fun vs H Q _ => ∃ (s l : Addr) (os ps qs ws : List Str), vs = [.ref s, .ref l] ∧ Sht os ps qs ∧ SheetAt H s os ps qs ∧ SqL K H l (ws.map V.str) ∧ (∀ x ∈ ws, x ∈ os ++ ps ++ qs) ∧ ws.length ≤ 10000 ∧ ∀ H', Ex H H' → Q (v os qs ws) H'
theorem ansOf_len (os qs ws : List Str) : (ansOf os qs ws).length = ws.length := (good_run (kfOf os qs ws) ws.length ws.length (Nat.le_refl _)).len
theorem run_st_len {kf : Nat → Kd} {n i : Nat} (h : i ≤ n) : (run kf n i).2.length ≤ i := by
  have GR := good_run kf n i h
  have := congrArg List.length (filter_desc i _ GR.srt fun b hb => (GR.bd b hb).1)
  rw [List.length_reverse] at this
  rw [← this]
  have h2 := List.length_filter_le (fun a => decide (a ∈ (run kf n i).2)) (List.range i)
  rw [List.length_range] at h2
  exact h2
end
end Eh
set_option Elab.async false
set_option linter.all false
set_option maxRecDepth 100000
set_option maxHeartbeats 4000000
namespace Eh
open PySem PySem.Spec PyProof.Rows L2 Evl
/-! texts compared at depth -/
theorem strOk_ltr {x : Str} (h : ∀ c ∈ cs x, az c) : PyData.strOk x = true := by
  unfold PyData.strOk
  rw [Array.all_eq_true_iff_forall_mem]
  intro c hc
  have := (h c (by simpa using hc)).2
  simp
  omega
theorem dpStrs {K : PySem.W.Frag} {H : Hp} : ∀ ws : List Str, DpAll K H (ws.map V.str) (ws.map PyData.str)
  | [] => .nil
  | x :: r => .cons (.str x) (dpStrs r)
theorem layStrs : ∀ ws : List Str, (∀ x ∈ ws, ∀ c ∈ cs x, az c) → PyData.canLayAll0 (ws.map PyData.str) = true
  | [], _ => rfl
  | x :: r, h => by
    show (PyData.strOk x && PyData.canLayAll0 (r.map PyData.str)) = true
    rw [layStrs r fun y hy => h y (List.mem_cons_of_mem _ hy), strOk_ltr (h x (List.mem_cons_self ..))]
    rfl
theorem deepStrs : ∀ ws : List Str, PyData.depthAll (ws.map PyData.str) = 0
  | [] => rfl
  | x :: r => by
    show max 0 (PyData.depthAll (r.map PyData.str)) = 0
    rw [deepStrs r]
    rfl
theorem shapedT {ws : List Str} (h : ∀ x ∈ ws, ∀ c ∈ cs x, az c) : SeqAt.shaped (.tuple (ws.map PyData.str)) = true := by
  unfold SeqAt.shaped
  rw [show PyData.canLay0 (.tuple (ws.map PyData.str)) = true from layStrs ws h, show PyData.depth (.tuple (ws.map PyData.str)) = 1 by
    show PyData.depthAll (ws.map PyData.str) + 1 = 1
    rw [deepStrs]]
  rfl
theorem shapedL {ws : List Str} (h : ∀ x ∈ ws, ∀ c ∈ cs x, az c) : SeqAt.shaped (.list (ws.map PyData.str)) = true := by
  unfold SeqAt.shaped
  rw [show PyData.canLay0 (.list (ws.map PyData.str)) = true from layStrs ws h, show PyData.depth (.list (ws.map PyData.str)) = 1 by
    show PyData.depthAll (ws.map PyData.str) + 1 = 1
    rw [deepStrs]]
  rfl
theorem shapedT0 : SeqAt.shaped (.tuple []) = true := by decide +kernel
theorem eqv_nilT (ws : List Str) : PyData.eqv (.tuple (ws.map PyData.str)) (.tuple []) = decide (ws = []) := by
  cases ws with
  | nil => rfl
  | cons x r => exact (decide_eq_false (fun z => nomatch z)).symm
/-! a letter of one part drawn -/
theorem draw_rd {K : PySem.W.Frag} {p c s ad : Addr} {ns : List Int} {H : Hp} {σ : L2.St} {xs : List V} {ys : List Str} {Q : VK} {j : Nat} {z : Int} (hP : Pot p c ns H) (h0 : σ[0]? = some (some (.ref p))) (hj : σ[j]? = some (some (.ref s))) (hs : H s = some (.tup xs)) (ha : atI xs z = some (.ref ad)) (hy : H ad = some (.tup (ys.map V.str))) (y0 : ys ≠ []) (y1 : ys.length ≤ 1000)
    (k : ∀ x H', x ∈ ys → Keep p H H' → Pot p c ns H' → Q (.str x) H') : tOp (rIxT K) (tOp (rIxT K) (tVar j) (tC (.int z))) (tCall spPick [] E0 (tCons (tVar 0) (tCons (tCB (rLenS K) (tCons (tOp (rIxT K) (tVar j) (tC (.int z))) tNil)) tNil))) σ H Q := by
  have hl : 0 < ys.length := by
    cases ys with
    | nil => exact absurd rfl y0
    | cons _ _ => exact Nat.succ_pos _
  refine ⟨_, hj, s, xs, z, _, rfl, rfl, st_of hs, ha, _, h0, _, hj, s, xs, z, _, rfl, rfl, st_of hs, ha, ad, _, rfl, .inr (st_of hy), p, c, ns, _, rfl, ?_, ?_, hP, fun v H' hv kp hP' => ?_⟩
  · rw [List.length_map]
    omega
  · rw [List.length_map]
    omega
  · rw [List.length_map] at hv
    have hv' : v < ys.length := by omega
    refine ⟨ad, _, _, .str ys[v], rfl, rfl, st_of (kp _ _ (hP.ne_tup hy) hy), atI_nat ?_, k _ H' (List.getElem_mem hv') kp hP'⟩
    rw [List.getElem?_map, List.getElem?_eq_getElem hv']
    rfl
theorem app_rd {K : PySem.W.Frag} {p c s l ad : Addr} {ns : List Int} {H : Hp} {σ : L2.St} {xs : List V} {ys ws : List Str} {D : Ends} {z : Int} (hP : Pot p c ns H) (h0 : σ[0]? = some (some (.ref p))) (h1 : σ[1]? = some (some (.ref s))) (h3 : σ[3]? = some (some (.ref l))) (hs : H s = some (.tup xs)) (ha : atI xs z = some (.ref ad)) (hy : H ad = some (.tup (ys.map V.str))) (y0 : ys ≠ []) (y1 : ys.length ≤ 1000) (hl : H l = some (lS ws)) (hlp : l ≠ p) (hz : ws.length < 100000)
    (k : ∀ x H', x ∈ ys → Keep p H H' → Pot p c ns H' → D.nx σ (upd H' l (.lst (ws.map V.str ++ [.str x])))) : tDrop (tBM K "list" rAppend (tVar 3) (tCons (tOp (rIxT K) (tOp (rIxT K) (tVar 1) (tC (.int z))) (tCall spPick [] E0 (tCons (tVar 0) (tCons (tCB (rLenS K) (tCons (tOp (rIxT K) (tVar 1) (tC (.int z))) tNil)) tNil)))) tNil)) D σ H :=
  ⟨_, h3, .inl ⟨rfl, _, sq_of hl⟩, draw_rd hP h0 h1 hs ha hy y0 y1 fun x H6 hx kp6 hP6 => ⟨l, _, _, rfl, rfl, kp6 _ _ hlp hl, by rw [List.length_map]; exact sz_lt hz, k x H6 hx kp6 hP6⟩⟩
/-- how many opens wait behind letters; none where a close is bare -/
def bal (os qs : List Str) : List Str → Nat → Option Nat
  | [], n => some n
  | x :: r, n => match kdOf os qs x with
    | .op => bal os qs r (n + 1)
    | .pl => bal os qs r n
    | .cl => match n with
      | 0 => none
      | m + 1 => bal os qs r m
theorem bal_app (os qs : List Str) : ∀ (a b : List Str) (n : Nat), bal os qs (a ++ b) n = (bal os qs a n).bind (bal os qs b)
  | [], b, n => rfl
  | x :: r, b, n => by
    show bal os qs (x :: (r ++ b)) n = (bal os qs (x :: r) n).bind (bal os qs b)
    unfold bal
    cases kdOf os qs x with
    | op => exact bal_app os qs r b (n + 1)
    | pl => exact bal_app os qs r b n
    | cl =>
      cases n with
      | zero => rfl
      | succ m => exact bal_app os qs r b m
theorem bal_one_op {os qs : List Str} {x : Str} (h : x ∈ os) (n : Nat) : bal os qs [x] n = some (n + 1) := by
  unfold bal
  rw [kd_op.mpr h]
  rfl
theorem bal_one_cl {os ps qs : List Str} (hS : Sht os ps qs) {x : Str} (h : x ∈ qs) (n : Nat) : bal os qs [x] (n + 1) = some n := by
  unfold bal
  rw [(kd_cl hS).mpr h]
  rfl
theorem bal_one_pl {os ps qs : List Str} (hS : Sht os ps qs) {x : Str} (h : x ∈ ps) (n : Nat) : bal os qs [x] n = some n := by
  unfold bal
  rw [hS.plain h]
  rfl
abbrev nShut : List Str := ["pot", "sheet", "most", "word", "waiting", "turn", "way"]
theorem scShut : FnScope nShut ["pot", "sheet", "most"] (defScope sShut) := ⟨rfl, rfl, rfl, by decide +kernel, rfl, by decide +kernel, by decide +kernel⟩
theorem lS_add (ws : List Str) (x : Str) : HO.lst (ws.map V.str ++ [.str x]) = lS (ws ++ [x]) := by
  unfold lS
  rw [List.map_append]
  rfl
theorem Keep.fresh {p q : Addr} {H H' : Hp} (k : Keep p H H') (hq : q ≠ p) (h : H' q = none) : H q = none := by
  cases e : H q with
  | none => rfl
  | some o =>
    rw [k q o hq e] at h
    cases h
section
variable {P : Program} {w : World} {K : PySem.W.Frag} {mg : Str → Option Value} {base : Heap}
def spShut : Sp := fun vs H Q _ => ∃ (p c s : Addr) (ns : List Int) (os ps qs : List Str) (m : Nat), vs = [.ref p, .ref s, .int (m : Int)] ∧ m ≤ 1000 ∧ Pot p c ns H ∧ Sht os ps qs ∧ SheetAt H s os ps qs ∧
  ∀ (ws : List Str) l H', (∀ x ∈ ws, x ∈ os ++ ps ++ qs) → ws.length ≤ 2 * m → bal os qs ws 0 = some 0 → Keep p H H' → Pot p c ns H' → H l = none → H' l = some (lS ws) → Q (.ref l) H'
theorem ok_shut {f fP : Addr} {fd fdP : FuncData} {k : Nat} (F : Fun K "_law_shut" "_law_shut" sShut f fd) (FP : Fun K "_law_pick" "_law_pick" sPick fP fdP) (GP : FnOk P w K mg base CX0 (k + 1) fP fdP ["pot", "many"] spPick) (bP : Binds K fdP ["pot", "many"] []) (gP : mg "_law_pick" = some (.ref fP)) (ml : mg "len" = none) (mr : mg "range" = none) :
    FnOk P w K mg base CX0 (k + 2) f fd ["pot", "sheet", "most"] spShut := by
  have nd := scShut.nd
  refine F.ok scShut (fun vs H Q E h => ?_) (fun cdv A outer s H vs Q E hr h => ?_)
  · obtain ⟨p, c, s, ns, os, ps, qs, m, rfl, _⟩ := h
    rfl
  · obtain ⟨p, c, s, ns, os, ps, qs, m, rfl, m1, hP, hS, hs, q⟩ := h
    refine ⟨_, pss_cons (ps_set (i := 3) nd rfl (.inl rfl) (pe_lst pa_nil))
      (pss_cons (ps_set (i := 4) nd rfl (.inl rfl) pe_int)
      (pss_cons (ps_for PassesOwn.never rfl (pi_range1 (by rfl) mr (pa_cons (pe_call GP hr (by rfl) gP FP.kp bP .nil pass0 (pa_cons (pv 0) (pa_cons (pe_op op_add (pv 2) pe_int) pa_nil))) pa_nil)) (pg_name (i := 5) nd rfl (.inl rfl))
        (pss_cons (ps_set (i := 6) nd rfl (.inl rfl) (pe_call GP hr (by rfl) gP FP.kp bP .nil pass0 (pa_cons (pv 0) (pa_cons pe_int pa_nil))))
        (pss_one (ps_if (PW.pt (pw_or (pt_cmpR op_lt (pv 6) pe_int (nomark _)) (pw_or1 (PW.pt (pw_and (pt_cmpR (op_eqD hr.units) (pe_ix ix_tup (pv 1) pe_int (fun _ _ => rfl)) (pe_tup pa_nil) (nomark _)) (pw_and1 (pt_cmpR op_eq (pv 4) pe_int (nomark _))))))))
          (pss_cons (ps_expr (pe_bm PySem.F.plainAttrs_list PySem.F.slot_list_append PySem.F.type_list_append mt_append (pv 3) (pa_cons (pe_ix ix_tup (pe_ix ix_tup (pv 1) pe_int (fun _ _ => rfl)) (pe_call GP hr (by rfl) gP FP.kp bP .nil pass0 (pa_cons (pv 0) (pa_cons (pe_callB call_len_seq (by rfl) ml PySem.boot_len (pa_cons (pe_ix ix_tup (pv 1) pe_int (fun _ _ => rfl)) pa_nil)) pa_nil))) (fun _ _ => rfl)) pa_nil)))
          (pss_one (ps_set (i := 4) nd rfl (.inl rfl) (pe_op op_add (pv 4) pe_int))))
          (pss_one (ps_if (PW.pt (pw_or (PW.pt (pw_and (pt_cmpR op_eq (pv 6) pe_int (nomark _)) (pw_and1 (pt_cmpR (op_neD hr.units) (pe_ix ix_tup (pv 1) pe_int (fun _ _ => rfl)) (pe_tup pa_nil) (nomark _))))) (pw_or1 (pt_cmpR op_eq (pv 4) pe_int (nomark _)))))
            (pss_one (ps_expr (pe_bm PySem.F.plainAttrs_list PySem.F.slot_list_append PySem.F.type_list_append mt_append (pv 3) (pa_cons (pe_ix ix_tup (pe_ix ix_tup (pv 1) pe_int (fun _ _ => rfl)) (pe_call GP hr (by rfl) gP FP.kp bP .nil pass0 (pa_cons (pv 0) (pa_cons (pe_callB call_len_seq (by rfl) ml PySem.boot_len (pa_cons (pe_ix ix_tup (pv 1) pe_int (fun _ _ => rfl)) pa_nil)) pa_nil))) (fun _ _ => rfl)) pa_nil))))
            (pss_cons (ps_expr (pe_bm PySem.F.plainAttrs_list PySem.F.slot_list_append PySem.F.type_list_append mt_append (pv 3) (pa_cons (pe_ix ix_tup (pe_ix ix_tup (pv 1) pe_int (fun _ _ => rfl)) (pe_call GP hr (by rfl) gP FP.kp bP .nil pass0 (pa_cons (pv 0) (pa_cons (pe_callB call_len_seq (by rfl) ml PySem.boot_len (pa_cons (pe_ix ix_tup (pv 1) pe_int (fun _ _ => rfl)) pa_nil)) pa_nil))) (fun _ _ => rfl)) pa_nil)))
            (pss_one (ps_set (i := 4) nd rfl (.inl rfl) (pe_op op_sub (pv 4) pe_int))))))))))
      (pss_one (ps_ret (pe_op op_cat (pv 3) (pe_lc (own := [("turn", 5)]) (g := gName 5) (tt := tYes) (te := tOp (rIxT K) (tOp (rIxT K) (tVar 1) (tC (.int 2))) (tCall spPick [] E0 (tCons (tVar 0) (tCons (tCB (rLenS K) (tCons (tOp (rIxT K) (tVar 1) (tC (.int 2))) tNil)) tNil)))) rfl nd (pi_range1 (by rfl) mr (pa_cons (pv 4) pa_nil)) (blkOk_by (own := [("turn", 5)]) (N := nShut) (sc := defScope sShut) (by decide +kernel)) (fun _ _ _ _ _ => pg_name (i := 5) nd rfl (Or.inl rfl)) (fun _ _ _ _ _ => pts_nil)
        (fun _ _ _ _ _ => pe_ix ix_tup (pe_ix ix_tup (pv 1) pe_int (fun _ _ => rfl)) (pe_call GP hr (by rfl) gP FP.kp bP .nil pass0 (pa_cons (pv 0) (pa_cons (pe_callB call_len_seq (by rfl) ml PySem.boot_len (pa_cons (pe_ix ix_tup (pv 1) pe_int (fun _ _ => rfl)) pa_nil)) pa_nil))) (fun _ _ => rfl)))))))), ?_⟩
    refine ⟨Nat.zero_le _, fun l nl => ?_⟩
    have e1 : Ex H (upd H l (lS [])) := Ex.new nl
    have hpl := hP.ne_new nl
    refine ⟨_, rfl, _, rfl, _, _, rfl, rfl, p, c, ns, _, rfl, by omega, by omega, hP.ex e1, fun n H2 hn kp2 hP2 => ?_⟩
    have kH2 : Keep p H H2 := (Keep.ofEx e1).trans kp2
    refine ⟨_, rfl, by omega, by omega, for_range (lo := 0) (n := ((n : Int)).toNat) (fun i σ H' => ∃ (wt : Nat) (ws : List Str), (∃ y5 y6, σ = [some (.ref p), some (.ref s), some (.int (m : Int)), some (.ref l), some (nV wt), y5, y6]) ∧ wt ≤ i ∧ ws.length = i ∧ (∀ x ∈ ws, x ∈ os ++ ps ++ qs) ∧ bal os qs ws 0 = some wt ∧ Keep p H H' ∧ Pot p c ns H' ∧ H' l = some (lS ws)) ?_ ?_ ?_⟩
    · exact ⟨0, [], ⟨_, _, rfl⟩, Nat.le_refl _, rfl, fun x hx => (List.not_mem_nil hx).elim, rfl, kH2, hP2, kp2 _ _ hpl.1.symm upd_same⟩
    · rintro i σ H3 hi ⟨wt, ws, ⟨y5, y6, rfl⟩, hwt, hwl, hwm, hb, kp3, hP3, hl3⟩
      have hi' : i < 1001 := by omega
      refine ⟨_, rfl, p, c, ns, 5, rfl, by decide, by decide, hP3, fun way H4 hway kp4 hP4 => ?_⟩
      have kp04 := kp3.trans kp4
      have hl4 : H4 l = some (lS ws) := kp4 _ _ hpl.1.symm hl3
      obtain ⟨ao, ap, ac, g0, g1, g2, g3⟩ := (hs.keep hP kp3).keep hP3 kp4
      have hps : ∀ x ∈ ps, ∀ d ∈ cs x, az d := fun x hx => (hS.lt x (List.mem_append.mpr (.inl (List.mem_append.mpr (.inr hx))))).1
      -- what each way adds
      have fin : ∀ (z : Str) (wt' : Nat) (H5 : Hp), z ∈ os ++ ps ++ qs → bal os qs [z] wt = some wt' → wt' ≤ i + 1 → Keep p H4 H5 → Pot p c ns H5 → ∀ y5 y6, ∃ (wt2 : Nat) (ws2 : List Str), (∃ y5' y6', [some (V.ref p), some (.ref s), some (.int (m : Int)), some (.ref l), some (nV wt'), y5, y6] = [some (.ref p), some (.ref s), some (.int (m : Int)), some (.ref l), some (nV wt2), y5', y6']) ∧ wt2 ≤ i + 1 ∧ ws2.length = i + 1 ∧ (∀ x ∈ ws2, x ∈ os ++ ps ++ qs) ∧ bal os qs ws2 0 = some wt2 ∧ Keep p H (upd H5 l (.lst (ws.map V.str ++ [.str z]))) ∧ Pot p c ns (upd H5 l (.lst (ws.map V.str ++ [.str z]))) ∧ (upd H5 l (.lst (ws.map V.str ++ [.str z]))) l = some (lS ws2) := by
        intro z wt' H5 hz hbz hw' kp5 hP5 y5 y6
        refine ⟨wt', ws ++ [z], ⟨_, _, rfl⟩, hw', by rw [List.length_append, hwl]; rfl, fun x hx => ?_, ?_, (kp04.trans kp5).new nl, hP5.new hpl.1 hpl.2, ?_⟩
        · rcases List.mem_append.mp hx with a | a
          · exact hwm x a
          · rw [List.mem_singleton.mp a]
            exact hz
        · rw [bal_app, hb]
          exact hbz
        · rw [upd_same, lS_add]
      have wsz : ws.length < 100000 := by omega
      have o0 : os ≠ [] := fun z => by have := hS.o1; rw [z] at this; exact absurd this (by decide)
      have c0 : qs ≠ [] := fun z => by have := hS.c1; rw [z] at this; exact absurd this (by decide)
      have o4 := hS.o4
      have p4 := hS.p4
      have c4 := hS.c4
      have mo : ∀ x, x ∈ os → x ∈ os ++ ps ++ qs := fun x hx => List.mem_append.mpr (.inl (List.mem_append.mpr (.inl hx)))
      have mp : ∀ x, x ∈ ps → x ∈ os ++ ps ++ qs := fun x hx => List.mem_append.mpr (.inl (List.mem_append.mpr (.inr hx)))
      have mc : ∀ x, x ∈ qs → x ∈ os ++ ps ++ qs := fun x hx => List.mem_append.mpr (.inr hx)
      have tst : ∀ (H5 : Hp), Ex H4 H5 → ∀ (σ' : L2.St), σ'[1]? = some (some (.ref s)) → Ev (tOp (rEqD K) (tOp (rIxT K) (tVar 1) (tC (.int 1))) (tTup tNil)) σ' H5 (.bl (decide (ps = []))) ∧ Ev (tOp (rNeD K) (tOp (rIxT K) (tVar 1) (tC (.int 1))) (tTup tNil)) σ' H5 (.bl (!decide (ps = []))) := fun H5 e5 σ' h1 => by
        constructor
        · refine ev_opU (ev_op (ev_var h1) ev_c (rv_ixT (st_of (e5 _ _ g0)) (show atI [V.ref ao, .ref ap, .ref ac] 1 = some (.ref ap) from rfl))) (eu_tup ea_nil (by decide)) fun u H6 hu e6 => ?_
          refine fun H7 e7 Q qq => ⟨.tuple (ps.map PyData.str), .tuple [], .tup (st_of (e7 _ _ (e6 _ _ (e5 _ _ g2)))) (dpStrs ps), .tup (st_of (e7 _ _ hu)) .nil, shapedT hps, shapedT0, ?_⟩
          rw [eqv_nilT]
          exact qq H7 (Ex.refl _)
        · refine ev_opU (ev_op (ev_var h1) ev_c (rv_ixT (st_of (e5 _ _ g0)) (show atI [V.ref ao, .ref ap, .ref ac] 1 = some (.ref ap) from rfl))) (eu_tup ea_nil (by decide)) fun u H6 hu e6 => ?_
          refine fun H7 e7 Q qq => ⟨.tuple (ps.map PyData.str), .tuple [], .tup (st_of (e7 _ _ (e6 _ _ (e5 _ _ g2)))) (dpStrs ps), .tup (st_of (e7 _ _ hu)) .nil, shapedT hps, shapedT0, ?_⟩
          rw [eqv_nilT]
          exact qq H7 (Ex.refl _)
      have wz : decide (nV wt = .int 0) = decide (wt = 0) := by
        by_cases z : wt = 0
        · subst z
          rfl
        · rw [decide_eq_false z, decide_eq_false (fun e => z (by have := V.int.inj e; omega))]
      refine s_if (b := decide ((way : Int) < 2) || (decide (ps = []) && decide (nV wt = .int 0))) (et_or (et_test (ev_op (ev_var rfl) ev_c rv_I0)) (fun _ => et_and (et_test (tst H4 (Ex.refl _) _ rfl).1) (fun _ => et_test (ev_op (ev_var rfl) ev_c (rv_eq rfl))))) (fun hb1 H5 e5 => ?_) (fun hb1 H5 e5 => ?_)
      · refine app_rd (hP4.ex e5) rfl rfl rfl (e5 _ _ g0) (show atI [V.ref ao, .ref ap, .ref ac] 0 = some (.ref ao) from rfl) (e5 _ _ g1) o0 (by omega) (e5 _ _ hl4) hpl.1.symm wsz fun x H6 hx kp6 hP6 => ?_
        exact ⟨_, rfl, _, _, rfl, rfl, fin x (wt + 1) H6 (mo x hx) (bal_one_op hx _) (by omega) ((Keep.ofEx e5).trans kp6) hP6 _ _⟩
      · rw [wz, Bool.or_eq_false_iff, Bool.and_eq_false_iff] at hb1
        refine s_if (b := (decide (V.int (way : Int) = .int 2) && !decide (ps = [])) || decide (nV wt = .int 0)) (et_or (et_and (et_test (ev_op (ev_var rfl) ev_c (rv_eq rfl))) (fun _ => et_test (tst H5 e5 _ rfl).2)) (fun _ => et_test (ev_op (ev_var rfl) ev_c (rv_eq rfl)))) (fun hb2 H6 e6 => ?_) (fun hb2 H6 e6 => ?_)
        · have p0 : ps ≠ [] := fun z => by
            rw [wz, Bool.or_eq_true, Bool.and_eq_true] at hb2
            rcases hb2 with ⟨_, h2⟩ | h2
            · rw [decide_eq_true z] at h2
              exact absurd h2 (by decide)
            · rcases hb1.2 with h3 | h3
              · rw [decide_eq_true z] at h3
                exact absurd h3 (by decide)
              · rw [h2] at h3
                cases h3
          have e56 := e5.trans e6
          exact app_rd (hP4.ex e56) rfl rfl rfl (e56 _ _ g0) (show atI [V.ref ao, .ref ap, .ref ac] 1 = some (.ref ap) from rfl) (e56 _ _ g2) p0 (by omega) (e56 _ _ hl4) hpl.1.symm wsz fun x H7 hx kp7 hP7 => fin x wt H7 (mp x hx) (bal_one_pl hS hx _) (by omega) ((Keep.ofEx e56).trans kp7) hP7 _ _
        · rw [wz, Bool.or_eq_false_iff] at hb2
          have w0 : wt ≠ 0 := of_decide_eq_false hb2.2
          obtain ⟨w', rfl⟩ : ∃ w', wt = w' + 1 := ⟨wt - 1, by omega⟩
          have e56 := e5.trans e6
          refine app_rd (hP4.ex e56) rfl rfl rfl (e56 _ _ g0) (show atI [V.ref ao, .ref ap, .ref ac] 2 = some (.ref ac) from rfl) (e56 _ _ g3) c0 (by omega) (e56 _ _ hl4) hpl.1.symm wsz fun x H7 hx kp7 hP7 => ?_
          have ew : ((w' + 1 : Nat) : Int) - 1 = (w' : Int) := by omega
          refine ⟨_, rfl, _, _, rfl, rfl, ?_⟩
          show ∃ (wt : Nat) (ws : List Str), (∃ y5 y6, [some (V.ref p), some (.ref s), some (.int (m : Int)), some (.ref l), some (.int (((w' + 1 : Nat) : Int) - 1)), _, _] = _) ∧ _
          rw [ew]
          exact fin x w' H7 (mc x hx) (bal_one_cl hS hx _) (by omega) ((Keep.ofEx e56).trans kp7) hP7 _ _
    · rintro σ H3 ⟨wt, ws, ⟨y5, y6, rfl⟩, hwt, hwl, hwm, hb, kp3, hP3, hl3⟩
      obtain ⟨ao, ap, ac, g0, g1, g2, g3⟩ := hs.keep hP kp3
      have c0 : qs ≠ [] := fun z => by have := hS.c1; rw [z] at this; exact absurd this (by decide)
      have c4 := hS.c4
      have hwn : wt ≤ n := by
        rw [Int.toNat_natCast] at hwt
        exact hwt
      have hln : ws.length = n := by
        rw [Int.toNat_natCast] at hwl
        exact hwl
      refine ⟨_, rfl, _, rfl, (wt : Int), rfl, by omega, by omega, fun D nD => ?_⟩
      have hpD := hP3.ne_new nD
      have nDH : H D = none := kp3.fresh hpD.1.symm nD
      have nlD : l ≠ D := ne_of_none hl3 nD
      refine lc_range (lo := 0) (n := ((wt : Int)).toNat) (fun i H' => ∃ ds : List Str, ds.length = i ∧ (∀ d ∈ ds, d ∈ qs) ∧ H' D = some (lS ds) ∧ Keep p H3 H' ∧ Pot p c ns H') ?_ ?_ ?_
      · exact ⟨[], rfl, fun d hd => (List.not_mem_nil hd).elim, upd_same, (Keep.refl p H3).new nD, hP3.new hpD.1 hpD.2⟩
      · rintro i H' hi ⟨ds, hds, hdm, hD, kp, hP'⟩
        refine ⟨rfl, yesT (draw_rd hP' rfl rfl (kp _ _ (hP3.ne_tup g0) g0) (show atI [V.ref ao, .ref ap, .ref ac] 2 = some (.ref ac) from rfl) (kp _ _ (hP3.ne_tup g3) g3) c0 (by omega) fun x H2' hx kp2' hP2' => ?_)⟩
        refine ⟨_, kp2' _ _ hpD.1.symm hD, ?_, ds ++ [x], ?_, ?_, ?_, (kp.trans kp2').new nD, hP2'.new hpD.1 hpD.2⟩
        · rw [List.length_map]
          exact sz_lt (by omega)
        · rw [List.length_append, hds]
          rfl
        · intro d hd
          rcases List.mem_append.mp hd with a | a
          · exact hdm d a
          · rw [List.mem_singleton.mp a]
            exact hx
        · rw [upd_same, lS_add]
      · rintro H5 ⟨ds, hds, hdm, hD, kp5, hP5⟩
        rw [Int.toNat_natCast] at hds
        have hl5 : H5 l = some (lS ws) := kp5 _ _ hpl.1.symm hl3
        refine ⟨l, D, _, _, rfl, rfl, hl5, hD, ?_, fun r nr => ?_⟩
        · rw [List.length_map, List.length_map]
          exact sz_of (by omega)
        · have kp05 := kp3.trans kp5
          have hpr := hP5.ne_new nr
          refine q (ws ++ ds) r _ (fun x hx => ?_) ?_ ?_ (kp05.new (kp05.fresh hpr.1.symm nr)) (hP5.new hpr.1 hpr.2) (kp05.fresh hpr.1.symm nr) ?_
          · rcases List.mem_append.mp hx with a | a
            · exact hwm x a
            · exact List.mem_append.mpr (.inr (hdm x a))
          · rw [List.length_append]
            omega
          · rw [bal_app, hb]
            show bal os qs ds wt = some 0
            rw [← hds]
            clear hD hds hpD nDH nlD kp5 hP5 hl5 kp05 nr hpr
            induction ds with
            | nil => rfl
            | cons d r ih =>
              have h1 := bal_app os qs [d] r (d :: r).length
              rw [List.singleton_append, List.length_cons, bal_one_cl hS (hdm d (List.mem_cons_self ..))] at h1
              rw [List.length_cons, h1]
              exact ih fun x hx => hdm x (List.mem_cons_of_mem _ hx)
          · rw [upd_same, ← List.map_append]
end
end Eh
set_option Elab.async false
set_option linter.all false
set_option maxRecDepth 100000
set_option maxHeartbeats 4000000
namespace Eh
open PySem PySem.Spec PyProof.Rows L2 Evl
abbrev rIsN : R2 := fun x y H Q => y = V.non ∧ Q (.bl (decide (x = .non))) H
abbrev rNotN : R2 := fun x y H Q => y = V.non ∧ Q (.bl (!decide (x = .non))) H
theorem rv_notN {x : V} {H : Hp} : RV rNotN x .non H (.bl (!decide (x = .non))) := fun H1 _ _ q => ⟨rfl, q H1 (Ex.refl H1)⟩
theorem et_yes {σ : L2.St} {H : Hp} : EvT tYes σ H true := fun H1 _ _ q => q H1 (Ex.refl H1)
theorem kd_rd {K : PySem.W.Frag} {os qs ws y : List Str} {s l ad : Addr} {xs : List V} {H : Hp} {σ : L2.St} {iz a : Nat} {z : Int} {kd : Kd} (hl : SqL K H l (ws.map V.str)) (hs : H s = some (.tup xs)) (hz : atI xs z = some (.ref ad)) (hy : H ad = some (.tup (y.map V.str))) (hkd : ∀ x, kdOf os qs x = kd ↔ x ∈ y) (h0 : σ[0]? = some (some (.ref s))) (h1 : σ[1]? = some (some (.ref l))) (hi : σ[iz]? = some (some (nV a))) (ha : a < ws.length) :
    EvT (tTest (tOp (rIn K false) (tOp (rIxL K) (tVar 1) (tVar iz)) (tOp (rIxT K) (tVar 0) (tC (.int z))))) σ H (decide (kfOf os qs ws a = kd)) := by
  have hwj : ws[a]? = some ws[a] := List.getElem?_eq_getElem ha
  refine et_is (et_test (ev_op (ev_op (ev_var h1) (ev_var hi) (rv_ixL hl (atI_nat (v := .str ws[a]) (by rw [List.getElem?_map, hwj]; rfl)))) (ev_op (ev_var h0) ev_c (rv_ixT (st_of hs) hz)) (rv_isT (st_of hy) rfl (flat_str y)))) ?_
  rw [inV_str, kfOf_at hwj]
  exact decide_eq_decide.mpr (hkd _).symm
theorem t_at {t : List (Option Nat)} {a : Nat} (ha : a < t.length) : atI (t.map oV) (a : Int) = some (oV (tv t a)) := by
  refine atI_nat ?_
  rw [List.getElem?_map, tv_get ha]
  rfl
theorem none_rd {K : PySem.W.Frag} {t : List (Option Nat)} {F : Addr} {H : Hp} {σ : L2.St} {f iz a : Nat} (hF : SqL K H F (t.map oV)) (h2 : σ[f]? = some (some (.ref F))) (hi : σ[iz]? = some (some (nV a))) (ha : a < t.length) : EvT (tTest (tOp rIsN (tOp (rIxL K) (tVar f) (tVar iz)) (tC .non))) σ H (decide (tv t a = none)) :=
  et_is (et_test (ev_op (ev_op (ev_var h2) (ev_var hi) (rv_ixL hF (t_at ha))) ev_c (rv_isN (K := K)))) (oV_non _)
theorem some_rd {K : PySem.W.Frag} {t : List (Option Nat)} {F : Addr} {H : Hp} {σ : L2.St} {f iz a : Nat} (hF : SqL K H F (t.map oV)) (h2 : σ[f]? = some (some (.ref F))) (hi : σ[iz]? = some (some (nV a))) (ha : a < t.length) : EvT (tTest (tOp rNotN (tOp (rIxL K) (tVar f) (tVar iz)) (tC .non))) σ H (!decide (tv t a = none)) :=
  et_is (et_test (ev_op (ev_op (ev_var h2) (ev_var hi) (rv_ixL hF (t_at ha))) ev_c rv_notN)) (by rw [oV_non])
abbrev nAns : List Str := ["sheet", "word", "found", "place", "at", "letter"]
theorem scAns : FnScope nAns ["sheet", "word"] (defScope sAns) := ⟨rfl, rfl, rfl, by decide +kernel, rfl, by decide +kernel, by decide +kernel⟩
theorem given_non (n : Nat) : given n (fun _ => true) (fun _ => V.non) = (List.replicate n (none : Option Nat)).map oV := by
  unfold given
  rw [List.filter_eq_self.mpr (fun _ _ => rfl), List.map_replicate]
  apply List.ext_getElem
  · rw [List.length_map, List.length_range, List.length_replicate]
  · intro i h1 h2
    rw [List.getElem_map, List.getElem_replicate]
    rfl
section
variable {P : Program} {w : World} {K : PySem.W.Frag} {mg : Str → Option Value} {base : Heap}
theorem ok_ans {f : Addr} {fd : FuncData} {k : Nat} (F : Fun K "_law_answers" "_law_answers" sAns f fd) (ml : mg "len" = none) (mr : mg "range" = none) : FnOk P w K mg base CX0 (k + 1) f fd ["sheet", "word"] (spAnswers K) := by
  have nd := scAns.nd
  refine F.ok scAns (fun vs H Q E h => ?_) (fun cdv A outer s H vs Q E hr h => ?_)
  · obtain ⟨s, l, os, ps, qs, ws, rfl, _⟩ := h
    rfl
  · obtain ⟨s, l, os, ps, qs, ws, rfl, hS, ⟨ao, ap, ac, g0, g1, g2, g3⟩, hl, hw, hlen, q⟩ := h
    refine ⟨_, pss_cons (ps_setLc (i := 2) (own := [("letter", 5)]) (g := gName 5) (tt := tYes) (te := tC .non) rfl nd rfl rfl (sw_true rfl rfl rfl (by decide +kernel)) (pi_list (pv 1)) (blkOk_by (own := [("letter", 5)]) (N := nAns) (sc := defScope sAns) (by decide +kernel)) (fun _ _ _ _ _ => pg_name (i := 5) nd rfl (Or.inl rfl)) (fun _ _ _ _ _ => pts_nil) (fun _ _ _ _ _ => pe_non))
      (pss_cons (ps_for PassesOwn.never rfl (pi_range1 (by rfl) mr (pa_cons (pe_callB call_len_seq (by rfl) ml PySem.boot_len (pa_cons (pv 1) pa_nil)) pa_nil)) (pg_name (i := 3) nd rfl (.inl rfl))
        (pss_one (ps_if (pt_cmpR op_in_seq (pe_ix ix_list (pv 1) (pv 3) (fun _ _ => rfl)) (pe_ix ix_tup (pv 0) pe_int (fun _ _ => rfl)) (by rfl))
          (pss_cons (ps_set (i := 4) nd rfl (.inl rfl) (pe_op op_sub (pv 3) pe_int))
          (pss_one (ps_while PassesOwn.never (PW.pt (pw_and (pt_cmpR op_ge (pv 4) pe_int (nomark _)) (pw_and1 (pt_cmpR op_isN (pe_ix ix_list (pv 2) (pv 3) (fun _ _ => rfl)) pe_non (nomark _)))))
            (pss_cons (ps_if (PW.pt (pw_and (pt_cmpR op_in_seq (pe_ix ix_list (pv 1) (pv 4) (fun _ _ => rfl)) (pe_ix ix_tup (pv 0) pe_int (fun _ _ => rfl)) (by rfl)) (pw_and1 (pt_cmpR op_notN (pe_ix ix_list (pv 2) (pv 4) (fun _ _ => rfl)) pe_non (nomark _)))))
              (pss_one (ps_set (i := 4) nd rfl (.inl rfl) (pe_ix ix_list (pv 2) (pv 4) (fun _ _ => rfl))))
              (pss_one (ps_if (PW.pt (pw_and (pt_cmpR op_in_seq (pe_ix ix_list (pv 1) (pv 4) (fun _ _ => rfl)) (pe_ix ix_tup (pv 0) pe_int (fun _ _ => rfl)) (by rfl)) (pw_and1 (pt_cmpR op_isN (pe_ix ix_list (pv 2) (pv 4) (fun _ _ => rfl)) pe_non (nomark _)))))
                (pss_cons (ps_asg (pv 3) (pg_sub (pv 2) (pv 4) set_list)) (pss_one (ps_asg (pv 4) (pg_sub (pv 2) (pv 3) set_list)))) pss_nil)))
            (pss_one (ps_set (i := 4) nd rfl (.inl rfl) (pe_op op_sub (pv 4) pe_int)))))))
          pss_nil)))
      (pss_one (ps_ret (pv 2)))), ?_⟩
    have n0 : (ws.map V.str).length = ws.length := List.length_map _
    refine q_asgL (el_lcL (fun _ => true) (fun _ => V.non) (ev_var rfl) hl (by rw [n0]; omega) (fun x => rfl) (fun i x H1 e1 hx => et_yes) (fun i x H1 e1 hx _ => ev_c)) fun T H1 nT e1 hT => ?_
    rw [n0, given_non] at hT
    generalize hkf : kfOf os qs ws = kf
    refine q_forR1 (ea_cons (ev_len (ev_var rfl) (ex_l e1 hl)) ea_nil) (by rw [n0]; omega) (fun i σ H' => (∃ y3 y4, σ = [some (.ref s), some (.ref l), some (.ref T), y3, y4, none]) ∧ Ex H H' ∧ H' T = some (tO (run kf ws.length i).1)) (fun H2 e2 => ⟨⟨_, _, rfl⟩, e1.trans e2, e2 _ _ hT⟩) ?_ ?_
    · rintro i σ H2 hi ⟨⟨y3, y4, rfl⟩, e2, hT2⟩
      rw [n0] at hi
      have hi' : i < ws.length := by omega
      have G := good_run kf ws.length i (by omega)
      have hrun : run kf ws.length (i + 1) = step kf i (run kf ws.length i) := rfl
      generalize run kf ws.length i = S at G hrun hT2
      obtain ⟨t, st⟩ := S
      replace G : Good kf ws.length i t st := G
      replace hT2 : H2 T = some (tO t) := hT2
      rw [hrun]
      have hcl : ∀ x, kdOf os qs x = .cl ↔ x ∈ qs := fun x => kd_cl hS
      have hop : ∀ x, kdOf os qs x = .op ↔ x ∈ os := fun x => kd_op
      have tl := G.len
      refine s_when (b := decide (kf i = .cl)) (by rw [← hkf]; exact kd_rd (ex_l e2 hl) (e2 _ _ g0) (show atI [V.ref ao, .ref ap, .ref ac] 2 = some (.ref ac) from rfl) (e2 _ _ g3) hcl rfl rfl rfl hi') (fun hb H3 e3 => ?_) (fun hb H3 e3 => ?_)
      · have hk : kf i = .cl := of_decide_eq_true hb
        have nTH : H T = none := nT
        -- behind the search what is found is as behind the step
        refine ⟨_, rfl, _, _, rfl, rfl, ?_⟩
        refine s_while (fun m σ' H' => (∃ z : Int, σ' = [some (.ref s), some (.ref l), some (.ref T), some (nV i), some (.int z), none] ∧ -1 ≤ z ∧ z < (i : Int) ∧ (∀ b ∈ st, (b : Int) ≤ z) ∧ m = (z + 1).toNat + 1 ∧ Ex H H' ∧ H' T = some (tO t)) ∨ (∃ z : Int, σ' = [some (.ref s), some (.ref l), some (.ref T), some (nV i), some (.int z), none] ∧ m = 0 ∧ Ex H H' ∧ H' T = some (tO (step kf i (t, st)).1) ∧ ∃ b, tv (step kf i (t, st)).1 i = some b)) (((i : Int) - 1 + 1).toNat + 1) (.inl ⟨(i : Int) - 1, rfl, by omega, by omega, fun b hb' => by have := (G.bd b hb').1; omega, rfl, e2.trans e3, e3 _ _ hT2⟩) ?_
        rintro m σ' H4 (⟨z, rfl, z1, z2, hz, hm, e4, hT4⟩ | ⟨z, rfl, hm, e4, hT4, b, hb'⟩)
        · -- still seeking
          have tvi : tv t i = none := G.hi i (Nat.le_refl _)
          refine ⟨decide (0 ≤ z), ?_, fun hb' H5 e5 => ?_, fun hb' H5 e5 => ?_⟩
          · refine et_is (et_and (et_test (ev_op (ev_var rfl) ev_c rv_I0)) (fun _ => none_rd (K := K) (a := i) (sq_of hT4) rfl rfl (by omega))) ?_
            rw [tvi]
            simp
          · have z0 : 0 ≤ z := of_decide_eq_true hb'
            obtain ⟨a, rfl⟩ : ∃ a : Nat, z = (a : Int) := ⟨z.toNat, by omega⟩
            have ha : a < i := by omega
            have hT5 := e5 _ _ hT4
            have e45 := e4.trans e5
            refine ⟨fun σ2 H6 => (∃ z' : Int, σ2 = [some (.ref s), some (.ref l), some (.ref T), some (nV i), some (.int z'), none] ∧ -1 ≤ z' ∧ z' < (a : Int) ∧ (∀ b ∈ st, (b : Int) ≤ z') ∧ Ex H H6 ∧ H6 T = some (tO t)) ∨ (∃ z' : Int, σ2 = [some (.ref s), some (.ref l), some (.ref T), some (nV i), some (.int z'), none] ∧ Ex H H6 ∧ H6 T = some (tO (step kf i (t, st)).1) ∧ ∃ b, tv (step kf i (t, st)).1 i = some b), ?_, ?_⟩
            · rintro σ2 H6 (⟨z', rfl, q1, q2, q3, q4, q5⟩ | ⟨z', rfl, q4, q5, q6⟩)
              · exact ⟨(z' + 1).toNat + 1, by omega, .inl ⟨z', rfl, q1, by omega, q3, rfl, q4, q5⟩⟩
              · exact ⟨0, by omega, .inr ⟨z', rfl, rfl, q4, q5, q6⟩⟩
            · refine q_if (b := decide (kf a = .cl) && !decide (tv t a = none)) (et_and (by rw [← hkf]; exact kd_rd (ex_l e45 hl) (e45 _ _ g0) (show atI [V.ref ao, .ref ap, .ref ac] 2 = some (.ref ac) from rfl) (e45 _ _ g3) hcl rfl rfl rfl (by omega)) (fun _ => some_rd (K := K) (a := a) (sq_of hT5) rfl rfl (by omega))) (fun h1 H6 e6 => ?_) (fun h1 H6 e6 => ?_)
              · -- over an answered close
                rw [Bool.and_eq_true] at h1
                have hka : kf a = .cl := of_decide_eq_true h1.1
                cases hta : tv t a with
                | none =>
                  rw [hta] at h1
                  exact absurd h1.2 (by decide)
                | some j =>
                  obtain ⟨p1, p2, p3, p4⟩ := G.pr a j hta
                  rcases p4 with ⟨c1, _⟩ | ⟨_, c2, c3, c4⟩
                  · rw [hka] at c1
                    cases c1
                  · refine ⟨_, rfl, _, rfl, T, _, _, nV j, rfl, rfl, sq_of (e6 _ _ hT5), by rw [show nV j = oV (tv t a) by rw [hta]; rfl]; exact t_at (by omega), _, rfl, _, _, rfl, rfl, ?_⟩
                    refine .inl ⟨(j : Int) - 1, rfl, by omega, by omega, fun b hb2 => ?_, e45.trans e6, e6 _ _ hT5⟩
                    have := hz b hb2
                    have := c4 b hb2
                    omega
              · refine s_if (b := decide (kf a = .op) && decide (tv t a = none)) (et_and (by rw [← hkf]; exact kd_rd (ex_l (e45.trans e6) hl) ((e45.trans e6) _ _ g0) (show atI [V.ref ao, .ref ap, .ref ac] 0 = some (.ref ao) from rfl) ((e45.trans e6) _ _ g1) hop rfl rfl rfl (by omega)) (fun _ => none_rd (K := K) (a := a) (sq_of (e6 _ _ hT5)) rfl rfl (by omega))) (fun h2 H7 e7 => ?_) (fun h2 H7 e7 => ?_)
                · -- the open that waits
                  rw [Bool.and_eq_true] at h2
                  have hka : kf a = .op := of_decide_eq_true h2.1
                  have hta : tv t a = none := of_decide_eq_true h2.2
                  have hm' := G.opn a ha hka hta
                  cases st with
                  | nil => exact (List.not_mem_nil hm').elim
                  | cons b r =>
                    have hba : b = a := by
                      obtain ⟨s1, s2⟩ := List.pairwise_cons.mp G.srt
                      have h3 := hz b (List.mem_cons_self ..)
                      rcases List.mem_cons.mp hm' with x | x
                      · exact x.symm
                      · have := s1 a x
                        omega
                    subst hba
                    have hst : step kf i (t, b :: r) = ((t.set b (some i)).set i (some b), r) := by
                      unfold step
                      rw [hk]
                    have hT7 := e7 _ _ (e6 _ _ hT5)
                    have e47 := (e45.trans e6).trans e7
                    refine ⟨_, rfl, _, rfl, _, rfl, T, _, _, b, rfl, rfl, hT7, ixN_nat (by rw [List.length_map]; omega), ?_⟩
                    refine ⟨_, rfl, _, rfl, _, rfl, T, _, _, i, rfl, rfl, upd_same, ixN_nat (by rw [List.length_set, List.length_map]; omega), _, rfl, _, _, rfl, rfl, ?_⟩
                    refine .inr ⟨(b : Int) - 1, rfl, (e47.mut nTH).mut nTH, ?_, ?_⟩
                    · rw [upd_same, hst]
                      show some (HO.lst (((t.map oV).set b (oV (some i))).set i (oV (some b)))) = some (tO ((t.set b (some i)).set i (some b)))
                      rw [← List.map_set, ← List.map_set]
                    · rw [hst]
                      refine ⟨b, ?_⟩
                      show tv ((t.set b (some i)).set i (some b)) i = some b
                      rw [tv_set (by rw [List.length_set]; omega), if_pos rfl]
                · -- neither
                  refine ⟨_, rfl, _, _, rfl, rfl, .inl ⟨(a : Int) - 1, rfl, by omega, by omega, fun b hb2 => ?_, (e45.trans e6).trans e7, e7 _ _ (e6 _ _ hT5)⟩⟩
                  have h3 := hz b hb2
                  have h4 : b ≠ a := fun x => by
                    subst x
                    obtain ⟨_, c2, c3⟩ := G.bd b hb2
                    rw [decide_eq_true c2, decide_eq_true c3] at h2
                    cases h2
                  omega
          · -- none waits
            have z0 : ¬ 0 ≤ z := of_decide_eq_false hb'
            have hst : st = [] := by
              cases st with
              | nil => rfl
              | cons b r =>
                have := hz b (List.mem_cons_self ..)
                omega
            refine ⟨⟨_, _, rfl⟩, e4.trans e5, ?_⟩
            rw [e5 _ _ hT4]
            unfold step
            rw [hk, hst]
        · -- found
          have hl2 : i < (step kf i (t, st)).1.length := by
            have := (good_run kf ws.length (i + 1) (by omega)).len
            rw [hrun] at this
            omega
          refine ⟨false, ?_, (fun hf => by cases hf), fun _ H5 e5 => ⟨⟨_, _, rfl⟩, e4.trans e5, e5 _ _ hT4⟩⟩
          refine et_is (et_and (et_test (ev_op (ev_var rfl) ev_c rv_I0)) (fun _ => none_rd (K := K) (a := i) (sq_of hT4) rfl rfl hl2)) ?_
          rw [hb', show decide ((some b : Option Nat) = none) = false from rfl, Bool.and_false]
      · refine ⟨⟨_, _, rfl⟩, e2.trans e3, ?_⟩
        rw [e3 _ _ hT2]
        unfold step
        cases hk : kf i with
        | pl => rfl
        | op => rfl
        | cl =>
          rw [decide_eq_true hk] at hb
          cases hb
    · rintro σ H2 ⟨⟨y3, y4, rfl⟩, e2, hT2⟩
      rw [n0, Int.toNat_natCast] at hT2
      refine ⟨_, rfl, q T H2 e2 nT ?_⟩
      unfold ansOf
      rw [hkf]
      exact hT2
end
end Eh
set_option linter.all false
set_option maxRecDepth 100000
namespace Eh
open PySem
/-! boughs: the mathematics (first child, next one) -/
inductive Fo
  | nil
  | pl (x : Str) (r : Fo)
  | pr (a : Str) (i : Fo) (c : Str) (r : Fo)
namespace Fo
def wr : Fo → List Str
  | nil => []
  | pl x r => x :: wr r
  | pr a i c r => a :: (wr i ++ c :: wr r)
def deep : Fo → Nat
  | nil => 0
  | pl _ r => deep r
  | pr _ i _ r => max (1 + deep i) (deep r)
def app : Fo → Fo → Fo
  | nil, g => g
  | pl x r, g => pl x (app r g)
  | pr a i c r, g => pr a i c (app r g)
def Ok (os ps qs : List Str) : Fo → Prop
  | nil => True
  | pl x r => x ∈ ps ∧ Ok os ps qs r
  | pr a i c r => a ∈ os ∧ Ok os ps qs i ∧ c ∈ qs ∧ Ok os ps qs r
theorem app_nil : ∀ f : Fo, app f nil = f
  | nil => rfl
  | pl x r => by
    show pl x (app r nil) = pl x r
    rw [app_nil r]
  | pr a i c r => by
    show pr a i c (app r nil) = pr a i c r
    rw [app_nil r]
theorem app_assoc : ∀ f g h : Fo, app (app f g) h = app f (app g h)
  | nil, g, h => rfl
  | pl x r, g, h => by
    show pl x (app (app r g) h) = pl x (app r (app g h))
    rw [app_assoc r g h]
  | pr a i c r, g, h => by
    show pr a i c (app (app r g) h) = pr a i c (app r (app g h))
    rw [app_assoc r g h]
theorem wr_app : ∀ f g : Fo, wr (app f g) = wr f ++ wr g
  | nil, g => rfl
  | pl x r, g => by
    show x :: wr (app r g) = x :: (wr r ++ wr g)
    rw [wr_app r g]
  | pr a i c r, g => by
    show a :: (wr i ++ c :: wr (app r g)) = a :: (wr i ++ c :: wr r) ++ wr g
    rw [wr_app r g, List.cons_append, List.append_assoc]
    rfl
theorem ok_mem {os ps qs : List Str} : ∀ (f : Fo), Ok os ps qs f → ∀ x ∈ wr f, x ∈ os ++ ps ++ qs
  | nil, _, x, h => (List.not_mem_nil h).elim
  | pl y r, ⟨h1, h2⟩, x, h => by
    rcases List.mem_cons.mp h with e | e
    · rw [e]
      exact List.mem_append.mpr (.inl (List.mem_append.mpr (.inr h1)))
    · exact ok_mem r h2 x e
  | pr a i c r, ⟨h1, h2, h3, h4⟩, x, h => by
    rcases List.mem_cons.mp h with e | e
    · rw [e]
      exact List.mem_append.mpr (.inl (List.mem_append.mpr (.inl h1)))
    · rcases List.mem_append.mp e with e | e
      · exact ok_mem i h2 x e
      · rcases List.mem_cons.mp e with e | e
        · rw [e]
          exact List.mem_append.mpr (.inr h3)
        · exact ok_mem r h4 x e
/-- which places answer one another -/
def St (t : Nat → Option Nat) : Fo → Nat → Prop
  | nil, _ => True
  | pl _ r, p => t p = none ∧ St t r (p + 1)
  | pr _ i _ r, p => t p = some (p + 1 + (wr i).length) ∧ t (p + 1 + (wr i).length) = some p ∧ St t i (p + 1) ∧ St t r (p + 1 + (wr i).length + 1)
theorem st_congr {t t' : Nat → Option Nat} : ∀ (f : Fo) (p : Nat), (∀ j, p ≤ j → j < p + (wr f).length → t j = t' j) → St t f p → St t' f p
  | nil, p, _, _ => trivial
  | pl x r, p, h, ⟨h1, h2⟩ => by
    have hl : (wr (pl x r)).length = (wr r).length + 1 := rfl
    exact ⟨(h p (Nat.le_refl _) (by omega)).symm.trans h1, st_congr r (p + 1) (fun j a b => h j (by omega) (by omega)) h2⟩
  | pr a i c r, p, h, ⟨h1, h2, h3, h4⟩ => by
    have hl : (wr (pr a i c r)).length = (wr i).length + 1 + (wr r).length + 1 := by
      show (a :: (wr i ++ c :: wr r)).length = _
      rw [List.length_cons, List.length_append, List.length_cons]
      omega
    exact ⟨(h p (Nat.le_refl _) (by omega)).symm.trans h1, (h _ (by omega) (by omega)).symm.trans h2, st_congr i (p + 1) (fun j a b => h j (by omega) (by omega)) h3, st_congr r _ (fun j a b => h j (by omega) (by omega)) h4⟩
theorem st_plain {os ps qs : List Str} (hS : Sht os ps qs) {t : Nat → Option Nat} : ∀ (f : Fo) (p : Nat), Ok os ps qs f → St t f p → ∀ j x, (wr f)[j]? = some x → t (p + j) = none → kdOf os qs x = .pl
  | nil, p, _, _, j, x, hx, _ => by simp [wr] at hx
  | pl y r, p, ⟨o1, o2⟩, ⟨h1, h2⟩, j, x, hx, hn => by
    cases j with
    | zero =>
      have e : y = x := Option.some.inj hx
      rw [← e]
      exact hS.plain o1
    | succ j => exact st_plain hS r (p + 1) o2 h2 j x hx (by rw [show p + 1 + j = p + (j + 1) by omega]; exact hn)
  | pr a i c r, p, ⟨o1, o2, o3, o4⟩, ⟨h1, h2, h3, h4⟩, j, x, hx, hn => by
    cases j with
    | zero =>
      rw [Nat.add_zero, h1] at hn
      cases hn
    | succ j =>
      have hx : (wr i ++ c :: wr r)[j]? = some x := hx
      by_cases hj : j < (wr i).length
      · rw [List.getElem?_append_left hj] at hx
        exact st_plain hS i (p + 1) o2 h3 j x hx (by rw [show p + 1 + j = p + (j + 1) by omega]; exact hn)
      · rw [List.getElem?_append_right (by omega)] at hx
        cases hk : j - (wr i).length with
        | zero =>
          rw [show p + (j + 1) = p + 1 + (wr i).length by omega, h2] at hn
          cases hn
        | succ q =>
          rw [hk] at hx
          exact st_plain hS r _ o4 h4 q x hx (by rw [show p + 1 + (wr i).length + 1 + q = p + (j + 1) by omega]; exact hn)
def Agree (os qs : List Str) (kf : Nat → Kd) (p : Nat) (l : List Str) : Prop := ∀ j x, l[j]? = some x → kf (p + j) = kdOf os qs x
theorem Agree.tail {os qs : List Str} {kf : Nat → Kd} {p : Nat} {x : Str} {l : List Str} (h : Agree os qs kf p (x :: l)) : Agree os qs kf (p + 1) l := fun j y e => by
  rw [show p + 1 + j = p + (j + 1) by omega]
  exact h (j + 1) y e
theorem Agree.left {os qs : List Str} {kf : Nat → Kd} {p : Nat} {a b : List Str} (h : Agree os qs kf p (a ++ b)) : Agree os qs kf p a := fun j y e => h j y (by
  rw [List.getElem?_append_left (List.getElem?_eq_some_iff.mp e).1]
  exact e)
theorem Agree.right {os qs : List Str} {kf : Nat → Kd} {p : Nat} {a b : List Str} (h : Agree os qs kf p (a ++ b)) : Agree os qs kf (p + a.length) b := fun j y e => by
  rw [show p + a.length + j = p + (a.length + j) by omega]
  refine h (a.length + j) y ?_
  rw [List.getElem?_append_right (by omega), show a.length + j - a.length = j by omega]
  exact e
theorem run_fo {os ps qs : List Str} (hS : Sht os ps qs) (kf : Nat → Kd) (n : Nat) : ∀ (f : Fo) (p : Nat), Ok os ps qs f → Agree os qs kf p (wr f) → p + (wr f).length ≤ n →
    (run kf n (p + (wr f).length)).2 = (run kf n p).2 ∧ (∀ j, j < p → tv (run kf n (p + (wr f).length)).1 j = tv (run kf n p).1 j) ∧ St (tv (run kf n (p + (wr f).length)).1) f p ∧ dep kf n (p + (wr f).length) = max (dep kf n p) ((run kf n p).2.length + deep f)
  | nil, p, _, _, _ => ⟨rfl, fun _ _ => rfl, trivial, by
    show dep kf n p = max (dep kf n p) ((run kf n p).2.length + 0)
    have := dep_ge kf n p
    omega⟩
  | pl x r, p, ⟨o1, o2⟩, ag, hn => by
    have hl : (wr (pl x r)).length = (wr r).length + 1 := rfl
    have hk : kf p = .pl := (ag 0 x rfl).trans (hS.plain o1)
    have hs : run kf n (p + 1) = run kf n p := by
      show step kf p (run kf n p) = run kf n p
      unfold step
      rw [hk]
    have hd : dep kf n (p + 1) = dep kf n p := by
      show max (dep kf n p) (run kf n (p + 1)).2.length = dep kf n p
      rw [hs]
      have := dep_ge kf n p
      omega
    obtain ⟨i1, i2, i3, i4⟩ := run_fo hS kf n r (p + 1) o2 ag.tail (by omega)
    rw [hl, show p + ((wr r).length + 1) = p + 1 + (wr r).length by omega]
    rw [hs] at i1 i2 i4
    refine ⟨i1, fun j hj => i2 j (by omega), ⟨?_, i3⟩, ?_⟩
    · rw [i2 p (by omega)]
      exact (good_run kf n p (by omega)).hi p (Nat.le_refl _)
    · rw [i4, hd]
      rfl
  | pr a i c r, p, ⟨o1, o2, o3, o4⟩, ag, hn => by
    have hw : wr (pr a i c r) = a :: (wr i ++ c :: wr r) := rfl
    have hl : (wr (pr a i c r)).length = (wr i).length + 1 + (wr r).length + 1 := by
      rw [hw, List.length_cons, List.length_append, List.length_cons]
      omega
    have hk : kf p = .op := (ag 0 a rfl).trans (kd_op.mpr o1)
    have hs : run kf n (p + 1) = ((run kf n p).1, p :: (run kf n p).2) := by
      show step kf p (run kf n p) = _
      unfold step
      rw [hk]
    have ag1 : Agree os qs kf (p + 1) (wr i ++ c :: wr r) := ag.tail
    obtain ⟨i1, i2, i3, i4⟩ := run_fo hS kf n i (p + 1) o2 ag1.left (by omega)
    have ag2 := ag1.right
    generalize he : p + 1 + (wr i).length = e at i1 i2 i3 i4 ag2
    have hke : kf e = .cl := (ag2 0 c rfl).trans ((kd_cl hS).mpr o3)
    have Ge := good_run kf n e (by omega)
    have hre : run kf n (e + 1) = (((run kf n e).1.set p (some e)).set e (some p), (run kf n p).2) := by
      show step kf e (run kf n e) = _
      unfold step
      rw [hke]
      have h2 : (run kf n e).2 = p :: (run kf n p).2 := by
        rw [i1, hs]
      simp only [h2]
    have hlen : (run kf n e).1.length = n := Ge.len
    have T : ∀ j, tv (run kf n (e + 1)).1 j = if j = e then some p else if j = p then some e else tv (run kf n e).1 j := fun j => by
      rw [hre]
      show tv (((run kf n e).1.set p (some e)).set e (some p)) j = _
      rw [tv_set (by rw [List.length_set]; omega), tv_set (by omega)]
    obtain ⟨r1, r2, r3, r4⟩ := run_fo hS kf n r (e + 1) o4 ag2.tail (by omega)
    have hend : p + (wr (pr a i c r)).length = e + 1 + (wr r).length := by omega
    rw [hend]
    refine ⟨by rw [r1, hre], fun j hj => ?_, ⟨?_, ?_, ?_, ?_⟩, ?_⟩
    · rw [r2 j (by omega), T, if_neg (by omega), if_neg (by omega), i2 j (by omega), hs]
    · rw [he, r2 p (by omega), T, if_neg (by omega), if_pos rfl]
    · rw [he, r2 e (by omega), T, if_pos rfl]
    · refine st_congr i (p + 1) (fun j a1 a2 => ?_) i3
      rw [r2 j (by omega), T, if_neg (by omega), if_neg (by omega)]
    · rw [he]
      exact r3
    · rw [r4]
      have d1 : dep kf n (e + 1) = max (dep kf n e) (run kf n p).2.length := by
        show max (dep kf n e) (run kf n (e + 1)).2.length = _
        rw [hre]
      have d2 : dep kf n (p + 1) = max (dep kf n p) ((run kf n p).2.length + 1) := by
        show max (dep kf n p) (run kf n (p + 1)).2.length = _
        rw [hs]
        rfl
      rw [d1, i4, d2, hre, hs]
      show max (max (max (max (dep kf n p) ((run kf n p).2.length + 1)) ((run kf n p).2.length + 1 + deep i)) (run kf n p).2.length) ((run kf n p).2.length + deep r) = max (dep kf n p) ((run kf n p).2.length + max (1 + deep i) (deep r))
      omega
theorem agree_word (os qs ws : List Str) : Agree os qs (kfOf os qs ws) 0 ws := fun j x e => by
  rw [Nat.zero_add]
  exact kfOf_at e
/-- all of a word that boughs write -/
theorem word_fo {os ps qs : List Str} (hS : Sht os ps qs) (f : Fo) (ho : Ok os ps qs f) : St (tv (ansOf os qs (wr f))) f 0 ∧ dep (kfOf os qs (wr f)) (wr f).length (wr f).length = deep f ∧ aloneOf os qs (wr f) (ansOf os qs (wr f)) = [] := by
  obtain ⟨h1, h2, h3, h4⟩ := run_fo hS (kfOf os qs (wr f)) (wr f).length f 0 ho (agree_word os qs (wr f)) (by omega)
  rw [Nat.zero_add] at h1 h2 h3 h4
  refine ⟨h3, ?_, ?_⟩
  · rw [h4]
    show max 0 (0 + deep f) = deep f
    omega
  · rw [aloneOf_nil]
    intro i hi hn
    have hx : (wr f)[i]? = some (wr f)[i] := List.getElem?_eq_getElem hi
    rw [kfOf_at hx]
    exact st_plain hS f 0 ho h3 i _ hx (by rw [Nat.zero_add]; exact hn)
end Fo
/-- what stands on each level, the innermost first, and the opens that wait -/
def stepB (os qs : List Str) (S : List Fo × List Str) (x : Str) : List Fo × List Str :=
  match kdOf os qs x, S with
  | .op, (ls, bs) => (.nil :: ls, x :: bs)
  | .cl, (i :: o :: ls, a :: bs) => (o.app (.pr a i x .nil) :: ls, bs)
  | .pl, (o :: ls, bs) => (o.app (.pl x .nil) :: ls, bs)
  | _, S => S
theorem foldB {os ps qs : List Str} (hS : Sht os ps qs) : ∀ (f g : Fo) (ls : List Fo) (bs : List Str), f.Ok os ps qs → f.wr.foldl (stepB os qs) (g :: ls, bs) = (g.app f :: ls, bs)
  | .nil, g, ls, bs, _ => by
    show (g :: ls, bs) = _
    rw [Fo.app_nil]
  | .pl x r, g, ls, bs, ⟨o1, o2⟩ => by
    show (r.wr).foldl (stepB os qs) (stepB os qs (g :: ls, bs) x) = _
    have : stepB os qs (g :: ls, bs) x = (g.app (.pl x .nil) :: ls, bs) := by
      unfold stepB
      rw [hS.plain o1]
    rw [this, foldB hS r _ ls bs o2, Fo.app_assoc]
    rfl
  | .pr a i c r, g, ls, bs, ⟨o1, o2, o3, o4⟩ => by
    show (i.wr ++ c :: r.wr).foldl (stepB os qs) (stepB os qs (g :: ls, bs) a) = _
    have h1 : stepB os qs (g :: ls, bs) a = (.nil :: g :: ls, a :: bs) := by
      unfold stepB
      rw [kd_op.mpr o1]
    rw [h1, List.foldl_append, foldB hS i .nil (g :: ls) (a :: bs) o2]
    show (r.wr).foldl (stepB os qs) (stepB os qs (i :: g :: ls, a :: bs) c) = _
    have h2 : stepB os qs (i :: g :: ls, a :: bs) c = (g.app (.pr a i c .nil) :: ls, bs) := by
      unfold stepB
      rw [(kd_cl hS).mpr o3]
    rw [h2, foldB hS r _ ls bs o4, Fo.app_assoc]
    rfl
end Eh
set_option Elab.async false
set_option linter.all false
set_option maxRecDepth 100000
set_option maxHeartbeats 4000000
namespace Eh
open PySem PySem.Spec PyProof.Rows L2 Evl
open Sem (wp)
/-! t[::-1] of a tuple, xs.extend(t) -/
section
variable {prog : Program} {w : World} {A : Around} {E : Value → Shared → Prop} {s : Shared}
theorem applied_back {sl : Addr} {vl vu vs : Value} {n : Nat} {Q : Int × Int × Nat → Shared → Prop} (hs : s.heap.IsSliceOf sl vl vu vs) (pl : IsPart vl none) (pu : IsPart vu none) (pp : IsPart vs (some (-1))) (h : Q ((n : Int) - 1, -1, n) s) : wpAny (model prog w) A (Builtin.Slice.sliceApplied (.ref sl) (pure (n : Int))) Q E s := by
  obtain ⟨ob, h1, h2, h3⟩ := id hs
  unfold Builtin.Slice.sliceApplied Builtin.Slice.sliceFields
  refine wpAny_bind (wpAny_bind (wpAny_field h1 h3 (x := vl) rfl (wpAny_bind (wpAny_field h1 h3 (x := vu) rfl (wpAny_bind (wpAny_field h1 h3 (x := vs) rfl (wpAny_pure ?_))))))); refine wpAny_bind (HT.slicePart_ pp ?_)
  show wpAny _ _ (if ((-1 : Int) == 0) = true then _ else _) _ _ s
  rw [if_neg (by decide)]; refine wpAny_bind (HT.slicePart_ pl (wpAny_bind (HT.slicePart_ pu (wpAny_bind (wpAny_pure ?_)))))
  have e1 : Builtin.Slice.sliceAdjust none none (-1) (n : Int) = ((n : Int) - 1, -1) := rfl
  have e2 : Builtin.Slice.slicePlaces ((n : Int) - 1) (-1) (-1) = n := by
    unfold Builtin.Slice.slicePlaces
    rw [if_neg (by decide)]
    split
    · have : (-(-1 : Int)) = 1 := rfl
      rw [this, Int.ediv_one]
      omega
    · omega
  show wpAny _ _ (match Builtin.Slice.sliceAdjust none none (-1) (n : Int) with | (lo, hi) => pure (lo, (-1 : Int), Builtin.Slice.slicePlaces lo hi (-1))) _ _ s
  rw [e1]
  show wpAny _ _ (pure ((n : Int) - 1, (-1 : Int), Builtin.Slice.slicePlaces ((n : Int) - 1) (-1) (-1))) _ _ s
  rw [e2]; exact wpAny_pure h
theorem fm_congr {α β : Type} {f g : α → Option β} : ∀ l : List α, (∀ m ∈ l, f m = g m) → l.filterMap f = l.filterMap g
  | [], _ => rfl
  | x :: r, h => by
    rw [List.filterMap_cons, List.filterMap_cons, h x (List.mem_cons_self ..), fm_congr r fun m hm => h m (List.mem_cons_of_mem _ hm)]
theorem pick_back (xs : List Value) : ((List.range xs.toArray.size).filterMap fun (m : Nat) => xs.toArray[(((xs.toArray.size : Int) - 1) + (m : Int) * (-1)).toNat]?).toArray = xs.reverse.toArray := by
  congr 1
  rw [List.size_toArray]
  have e : ∀ m ∈ List.range xs.length, xs.toArray[(((xs.length : Int) - 1) + (m : Int) * (-1)).toNat]? = xs.reverse[m]? := fun m hm => by
    have hm := List.mem_range.mp hm
    rw [List.getElem?_toArray, List.getElem?_reverse hm, show (((xs.length : Int) - 1) + (m : Int) * (-1)).toNat = xs.length - 1 - m by omega]
  rw [fm_congr _ e]
  have : ∀ l : List Value, (List.range l.length).filterMap (fun m => l[m]?) = l := fun l => by
    apply List.ext_getElem?
    intro i
    have h1 : (List.range l.length).filterMap (fun m => l[m]?) = (List.range l.length).map (fun m => l.getD m .none) := by
      rw [← List.filterMap_eq_map]
      refine fm_congr _ fun m hm => ?_
      have hm := List.mem_range.mp hm
      rw [List.getElem?_eq_getElem hm]
      show some l[m] = some (l.getD m .none)
      rw [List.getD_eq_getElem?_getD, List.getElem?_eq_getElem hm]
      rfl
    rw [h1, List.getElem?_map]
    by_cases hi : i < l.length
    · rw [List.getElem?_range hi, List.getElem?_eq_getElem hi]
      show some (l.getD i .none) = some l[i]
      rw [List.getD_eq_getElem?_getD, List.getElem?_eq_getElem hi]
      rfl
    · rw [List.getElem?_eq_none (by rw [List.length_range]; omega), List.getElem?_eq_none (by omega)]
      rfl
  have h := this xs.reverse
  rw [List.length_reverse] at h
  exact h
theorem item_back {t sl : Addr} {xs : List Value} {vl vu vs : Value} {Q : Value → Shared → Prop} (ht : IsTup s.heap t xs.toArray) (hs : s.heap.IsSliceOf sl vl vu vs) (pl : IsPart vl none) (pu : IsPart vu none) (pp : IsPart vs (some (-1)))
    (h : Q (.ref s.heap.objs.size) { s with heap := s.heap.push { cls := .type "tuple", data := .seq xs.reverse.toArray } }) (hsz : xs.length ≤ sizeLine) : wpAny (model prog w) A (getItem (.ref t) (.ref sl)) Q E s := by
  have hk : sizeOk (.seq xs.reverse.toArray) := by
    show xs.reverse.toArray.size ≤ sizeLine
    rw [List.size_toArray, List.length_reverse]
    exact hsz
  obtain ⟨ob, h1, h2, h3⟩ := id hs
  have hTy : s.TypeIs (.ref sl) "slice" := ⟨ob, h1, h2⟩
  unfold getItem; try with_reducible refine wpAny_holding ?_
  first | refine wpAny_bind (wpAny_pure ?_) | skip
  refine wpAny_bind (wpAny_sequenceKey ht.typeIs (by decide) (wpAny_bind (wpAny_callSpecial?_slot (name := Str.ofString "__getitem__") ht.typeIs PyProof.Rows.slot_tuple_getitem (wpAny_call_entry PyProof.Rows.slot_tuple_getitem ht.typeIs entry_tuple_getitem ?_ (args_tuple_getitem _ _)))))
  show wpAny _ _ (Builtin.Tuple.tupleItemsOf (.ref t) >>= _) _ _ s; refine wpAny_bind (tupleItemsOf_ ht (wpAny_bind (wpAny_typeOf hTy ?_)))
  rw [if_pos (by decide)]; refine wpAny_bind (applied_back hs pl pu pp ?_)
  show wpAny _ _ (if (((xs.toArray.size : Int) - 1) == 0 && (-1 : Int) == 1 && xs.toArray.size == xs.toArray.size) = true then _ else _) _ _ s
  rw [if_neg (by rw [show ((-1 : Int) == 1) = false from rfl, Bool.and_false, Bool.false_and]; exact Bool.false_ne_true), pick_back]
  first
    | exact wpAny_bind (m := Builtin.Tuple.tupleExact _) (wpAny_newObj_type (wpAny_pure ⟨_, rfl, wpAny_pure h⟩) hk)
    | exact wpAny_bind (m := Builtin.Tuple.tupleExact _) (wpAny_newObj_type (wpAny_bind (wpAny_pure (wpAny_pure ⟨_, rfl, wpAny_pure h⟩))) hk)
    | exact wpAny_bind (wpAny_bind (m := Builtin.Tuple.tupleExact _) (wpAny_newObj_type (wpAny_pure (wpAny_pure ⟨_, rfl, wpAny_pure h⟩)) hk))
    | exact wpAny_bind (wpAny_bind (m := Builtin.Tuple.tupleExact _) (wpAny_newObj_type (wpAny_pure ⟨_, rfl, wpAny_pure h⟩) hk))
end
section
variable {X : Cx}
def tRevT (K : PySem.W.Frag) (te : TE) : TE := fun σ H Q => te σ H fun x H1 => ∃ a xs, x = .ref a ∧ SqT K H1 a xs ∧ ∀ p, H1 p = none → Q (.ref p) (upd H1 p (.tup xs.reverse))
theorem pe_revT {e : Expr} {te : TE} {k : Nat} {p1 p2 p3 pos : Pos} (he : PE X e te) : PE X (.Subscript e (.Slice none none (some (.UnaryOp .USub (.Constant (.int 1) k p1) p2)) p3) pos) (tRevT X.K te) := by
  refine ⟨fun pins s σ H Q I hyp => Subscript_ (thn (he.run pins s σ H _ I hyp) fun v s1 ⟨x, H1, I1, r1, q1⟩ => ?_)⟩
  obtain ⟨a, xs, ex, hx, q⟩ := q1
  subst ex
  cases r1
  have st1 : PO X (some (.UnaryOp .USub (.Constant (.int 1) k p1) p2)) (tPart (tUn (rU fun i => .int (-i)) (tC (.int 1)))) := po_some (pe_un un_neg pe_int)
  refine wpAny_Slice (thn (po_none.run pins s1 σ H1 (fun o H2 => o = none ∧ H2 = H1) I1 ⟨rfl, rfl⟩) fun vl s2 ⟨l, H2, I2, pl, el, e2⟩ => ?_); subst el e2
  refine thn (po_none.run pins s2 σ H2 (fun o H3 => o = none ∧ H3 = H2) I2 ⟨rfl, rfl⟩) fun vu s3 ⟨u, H3, I3, pu, eu, e3⟩ => ?_; subst eu e3
  refine thn (st1.run pins s3 σ H3 (fun o H4 => o = some (-1) ∧ H4 = H3) I3 ⟨1, rfl, -1, rfl, rfl, rfl⟩) fun vs s4 ⟨o, H4, I4, pp, eo, e4⟩ => ?_; subst eo e4
  have J : Inv X pins σ H4 { s4 with heap := s4.heap.push { cls := .type "slice", data := .fields #[vl, vu, vs] } } := I4.kept (t' := s4.toks) fun b ob z => Heap.get?_push_of_some _ z
  obtain ⟨its, rr, ht, hz⟩ := J.tuple hx
  have hlen := rr.length
  show wpAny (model X.prog X.w) X.A (subscriptTail e (.Slice none none (some (.UnaryOp .USub (.Constant (.int 1) k p1) p2)) p3) (.ref a) (.ref s4.heap.objs.size)) (EP X pins σ Q) X.xe { s4 with heap := s4.heap.push { cls := .type "slice", data := .fields #[vl, vu, vs] } }
  refine tail_any (ops := [.ref a, .ref s4.heap.objs.size]) ht.typeIs (PyProof.Rows.slot_tuple_getitem.lookup) (item_back ht (Heap.IsSliceOf.new _ vl vu vs) pl pu pp ?_ (by omega)) (by with_unfolding_all rfl)
  exact ⟨.ref _, _, J.laid (t' := s4.toks) (o := .tup xs.reverse) (fun b ob z => Heap.get?_push_of_some _ z) (Nat.le_refl _) ⟨by rw [List.length_reverse]; exact hz, _, rr.reverse, IsTup.new _ _⟩, rfl, q _ (J.hok.fresh (Nat.le_refl _))⟩
open AutoSeq1 in
theorem ext_tup (l : Addr) (i1 : Array Value) (n : Nat) (b : Addr) (i2 : Array Value) (n2 : Nat) (dc : Option Addr) (sl : Array (Option Value)) (h0 : ¬(!i1.isEmpty && Builtin.List.listTooLong (i1.size + i2.size)) = true) (h1 : i1.size ≤ sizeLine) (h2 : i1.size + i2.size ≤ sizeLine + 1) :
    Meets (Builtin.«list.extend» ⟨[.ref l, .ref b], []⟩) (fun _ R s => s.heap.get? l = some { cls := .type "list", dict := none, data := .seq i1 n, slots := #[] } ∧ s.heap.get? b = some { cls := .type "tuple", dict := dc, data := .seq i2 n2, slots := sl } ∧ R (.ok (.ret Value.none)) { s with heap := s.heap.update l (Obj.mapSeq fun x => x ++ i2), toks := s.toks }) :=
  .of_wp fun pr wo ar R s hyp => by
    obtain ⟨hp, gg, dd, tt, oo⟩ := s; obtain ⟨g1, g2, hyp⟩ := hyp; have k1 := idx_int; have k2 := AutoSeq1.sub_tuple_tuple; have k3 := AutoSeq1.sub_list_list; have k4 := AutoSeq1.sub_tuple_list; have k5 := AutoSeq1.sub_list_tuple
    have hz : (i1 ++ i2).size ≤ sizeLine + 1 := by rw [Array.size_append]; exact h2
    wp_walk using (wpAny_updateSeq g1 rfl (hz := h1) (_hz' := hz)), wpAny_loadPart' g1, wpAny_loadPart' g2; exact ⟨_, rfl, hyp⟩
def rExtT : V → List V → Hp → VK → Prop := fun x vs H Q => ∃ l b xs zs, x = .ref l ∧ vs = [.ref b] ∧ H l = some (.lst xs) ∧ H b = some (.tup zs) ∧ xs.length + zs.length ≤ sizeLine ∧ Q .non (upd H l (.lst (xs ++ zs)))
theorem mt_extT : MtM X "list.extend" rExtT := by
  intro pins s σ H x vs v us Q I rx rv hyp
  obtain ⟨l, b, xs, zs, rfl, rfl, hH, hB, hz, q⟩ := hyp
  cases rx
  obtain ⟨u, rfl, ru⟩ := rv.one
  cases ru
  obtain ⟨z1, its, n, r, hl, e⟩ := I.lstM hH
  obtain ⟨its2, r2, ⟨⟨c2, dc, dt, sl⟩, g2, hc2, n2, d2⟩, z2⟩ := I.tuple (st_of hB : SqT X.K H b zs)
  replace hc2 : c2 = .type "tuple" := hc2
  replace d2 : dt = .seq its2.toArray n2 := d2
  subst hc2 d2
  have hl2 := r2.length
  have hs : its.toArray.size + its2.toArray.size ≤ sizeLine := by rw [List.size_toArray, List.size_toArray]; omega
  have hnl : ¬ (!its.toArray.isEmpty && Builtin.List.listTooLong (its.toArray.size + its2.toArray.size)) = true := by rw [notLongL hs, Bool.and_false]; exact Bool.false_ne_true
  refine call_meets F.slot_list_extend ⟨_, e, rfl⟩ F.entry_list_extend (F.args_list_extend_2 _ _) (ext_tup l its.toArray n b its2.toArray n2 dc sl hnl (by rw [List.size_toArray]; omega) (by omega)) ⟨e, g2, ?_⟩
  exact ⟨.non, _, I.lset (its' := its ++ its2) hH e (by simp) (r.append r2) (by rw [List.length_append]; omega), rfl, q⟩
end
end Eh
set_option Elab.async false
set_option linter.all false
set_option maxRecDepth 100000
set_option maxHeartbeats 4000000
namespace Eh
open PySem PySem.Spec PyProof.Rows L2 Evl
theorem bal_fo {os ps qs : List Str} (hS : Sht os ps qs) : ∀ (f : Fo) (n : Nat), f.Ok os ps qs → bal os qs f.wr n = some n
  | .nil, n, _ => rfl
  | .pl x r, n, ⟨o1, o2⟩ => by
    show bal os qs ([x] ++ r.wr) n = some n
    rw [bal_app, bal_one_pl hS o1]
    exact bal_fo hS r n o2
  | .pr a i c r, n, ⟨o1, o2, o3, o4⟩ => by
    show bal os qs ([a] ++ (i.wr ++ ([c] ++ r.wr))) n = some n
    rw [bal_app, bal_one_op o1]
    show bal os qs (i.wr ++ ([c] ++ r.wr)) (n + 1) = some n
    rw [bal_app, bal_fo hS i (n + 1) o2]
    show bal os qs ([c] ++ r.wr) (n + 1) = some n
    rw [bal_app, bal_one_cl hS o3]
    exact bal_fo hS r n o4
/-! boughs as they stand on the heap -/
def FoAt (H : Hp) : Fo → List V → Prop
  | .nil, vs => vs = []
  | .pl x r, vs => ∃ t us, vs = .ref t :: us ∧ H t = some (.tup [.str x]) ∧ FoAt H r us
  | .pr a i c r, vs => ∃ t u ws us, vs = .ref t :: us ∧ H t = some (.tup [.str a, .ref u, .str c]) ∧ H u = some (.tup ws) ∧ FoAt H i ws ∧ FoAt H r us
theorem FoAt.keep {H H' : Hp} (k : ∀ b xs, H b = some (.tup xs) → H' b = some (.tup xs)) : ∀ (f : Fo) (vs : List V), FoAt H f vs → FoAt H' f vs
  | .nil, vs, h => h
  | .pl x r, vs, ⟨t, us, e, h1, h2⟩ => ⟨t, us, e, k _ _ h1, FoAt.keep k r us h2⟩
  | .pr a i c r, vs, ⟨t, u, ws, us, e, h1, h2, h3, h4⟩ => ⟨t, u, ws, us, e, k _ _ h1, k _ _ h2, FoAt.keep k i ws h3, FoAt.keep k r us h4⟩
theorem FoAt.ex {H H' : Hp} (e : Ex H H') {f : Fo} {vs : List V} (h : FoAt H f vs) : FoAt H' f vs := FoAt.keep (fun b xs z => e b _ z) f vs h
theorem FoAt.app {H : Hp} : ∀ (f g : Fo) (vs us : List V), FoAt H f vs → FoAt H g us → FoAt H (f.app g) (vs ++ us)
  | .nil, g, vs, us, h, h' => by
    rw [show vs = [] from h]
    exact h'
  | .pl x r, g, vs, us, ⟨t, ws, e, h1, h2⟩, h' => ⟨t, ws ++ us, by rw [e]; rfl, h1, FoAt.app r g ws us h2 h'⟩
  | .pr a i c r, g, vs, us, ⟨t, u, ws, xs, e, h1, h2, h3, h4⟩, h' => ⟨t, u, ws, xs ++ us, by rw [e]; rfl, h1, h2, h3, FoAt.app r g xs us h4 h'⟩
theorem FoAt.len {H : Hp} : ∀ (f : Fo) (vs : List V), FoAt H f vs → vs.length ≤ f.wr.length
  | .nil, vs, h => by
    rw [show vs = [] from h]
    exact Nat.le_refl _
  | .pl x r, vs, ⟨t, us, e, h1, h2⟩ => by
    rw [e]
    show us.length + 1 ≤ r.wr.length + 1
    have := FoAt.len r us h2
    omega
  | .pr a i c r, vs, ⟨t, u, ws, us, e, h1, h2, h3, h4⟩ => by
    rw [e]
    show us.length + 1 ≤ (i.wr ++ c :: r.wr).length + 1
    have := FoAt.len r us h4
    rw [List.length_append, List.length_cons]
    omega
theorem keep_upd {H : Hp} {a : Addr} {xs : List V} {o : HO} (h : H a = some (.lst xs)) : ∀ b ys, H b = some (.tup ys) → (upd H a o) b = some (.tup ys) := fun b ys e => by
  rw [upd_ne (fun z => by rw [z, h] at e; cases e)]
  exact e
def LevAt (H : Hp) (n : Nat) : List Fo → List Addr → Prop
  | [], [] => True
  | f :: fs, a :: as => (∃ vs, H a = some (.lst vs) ∧ FoAt H f vs ∧ vs.length ≤ n) ∧ LevAt H n fs as
  | _, _ => False
theorem LevAt.keep {H H' : Hp} {n n' : Nat} (hn : n ≤ n') (k : ∀ b xs, H b = some (.tup xs) → H' b = some (.tup xs)) : ∀ (fs : List Fo) (as : List Addr), (∀ a ∈ as, ∀ xs, H a = some (.lst xs) → H' a = some (.lst xs)) → LevAt H n fs as → LevAt H' n' fs as
  | [], [], _, _ => trivial
  | f :: fs, a :: as, ka, ⟨⟨vs, h1, h2, hl⟩, h3⟩ => ⟨⟨vs, ka a (List.mem_cons_self ..) _ h1, FoAt.keep k f vs h2, Nat.le_trans hl hn⟩, LevAt.keep hn k fs as (fun b hb => ka b (List.mem_cons_of_mem _ hb)) h3⟩
  | [], _ :: _, _, h => h.elim
  | _ :: _, [], _, h => h.elim
theorem LevAt.len {H : Hp} {n : Nat} : ∀ (fs : List Fo) (as : List Addr), LevAt H n fs as → fs.length = as.length
  | [], [], _ => rfl
  | f :: fs, a :: as, ⟨_, h⟩ => congrArg Nat.succ (LevAt.len fs as h)
  | [], _ :: _, h => h.elim
  | _ :: _, [], h => h.elim
theorem scNeedShut : FnScope ["sheet", "word", "told", "wrong"] ["sheet", "word"] (defScope sNeedShut) := ⟨rfl, rfl, rfl, by decide +kernel, rfl, by decide +kernel, by decide +kernel⟩
theorem scBoughs : FnScope ["sheet", "word", "levels", "begun", "letter", "within"] ["sheet", "word"] (defScope sBoughs) := ⟨rfl, rfl, rfl, by decide +kernel, rfl, by decide +kernel, by decide +kernel⟩
section
variable {P : Program} {w : World} {K : PySem.W.Frag} {mg : Str → Option Value} {base : Heap}
abbrev JText (t : Str) (f : Str) (p1 p2 p3 p4 : Pos) : Expr := .JoinedStr [.Constant (.str t) 0 p1, .FormattedValue (.Name f p2) (-1) none p3] p4
/-- what is written of the error NotShut -/
abbrev ShutC (P : Program) (K : PySem.W.Frag) (mg : Str → Option Value) (CN fI : Addr) (fdI : FuncData) : Prop := mg "NotShut" = some (.ref CN) ∧ ∃ J, InitC P K mg CN fI "NotShut.__init__" "place" (inClass (topS 3) 0) J fdI
theorem log2_small {n : Nat} (h : n ≤ 10000) : ((n : Int)).natAbs.log2 < 1900 := by
  have e : ((n : Int)).natAbs = n := Int.natAbs_natCast n
  rw [e]
  have h1 : n.log2 < 14 := by
    by_cases z : n = 0
    · subst z
      decide
    · exact (Nat.log2_lt z).mpr (Nat.lt_of_le_of_lt h (by decide))
  omega
theorem aloneOf_lt {os qs ws : List Str} {t : List (Option Nat)} {p : Nat} (h : p ∈ aloneOf os qs ws t) : p < ws.length := by
  unfold aloneOf at h
  rcases List.mem_append.mp h with z | z
  · exact List.mem_range.mp (List.mem_filter.mp (List.mem_filter.mp z).1).1
  · exact List.mem_range.mp (List.mem_filter.mp (List.mem_filter.mp z).1).1
def spNeedShut (K : PySem.W.Frag) (CN : Addr) : Sp := fun vs H Q E => ∃ (s l : Addr) (os ps qs ws : List Str), vs = [.ref s, .ref l] ∧ Sht os ps qs ∧ SheetAt H s os ps qs ∧ SqL K H l (ws.map V.str) ∧ (∀ x ∈ ws, x ∈ os ++ ps ++ qs) ∧ ws.length ≤ 10000 ∧ (aloneOf os qs ws (ansOf os qs ws) = [] → ∀ a H', Ex H H' → H a = none → H' a = some (tO (ansOf os qs ws)) → Q (.ref a) H') ∧
  ∀ p r, aloneOf os qs ws (ansOf os qs ws) = p :: r → ∀ d H', Ex H H' → H' d = some (.xd [("place", nV p)]) → E (.ref CN) (some d) H'
theorem ok_needShut {f fA fL CN fI : Addr} {fd fdA fdL fdI : FuncData} {k : Nat} (F : Fun K "need_shut" "need_shut" sNeedShut f fd) (FA : Fun K "answers" "answers" sAnswers fA fdA) (GA : FnOk P w K mg base CX0 (k + 2) fA fdA ["sheet", "word"] (spAnswers K)) (bA : Binds K fdA ["sheet", "word"] []) (gA : mg "answers" = some (.ref fA))
    (FL : Fun K "alone" "alone" sAlone fL fdL) (GL : FnOk P w K mg base CX0 (k + 2) fL fdL ["sheet", "word", "told"] (spAlone K)) (bL : Binds K fdL ["sheet", "word", "told"] []) (gL : mg "alone" = some (.ref fL)) (T : ShutC P K mg CN fI fdI) : FnOk P w K mg base (L2.CX P w) (k + 3) f fd ["sheet", "word"] (spNeedShut K CN) := by
  have nd := scNeedShut.nd
  obtain ⟨gC, JJ, TI⟩ := T
  refine F.okX scNeedShut (fun vs H Q E h => ?_) (fun cdv A outer s H vs Q E hr h => ?_)
  · obtain ⟨s, l, os, ps, qs, ws, rfl, _⟩ := h
    rfl
  · obtain ⟨s, l, os, ps, qs, ws, rfl, hS, hs, hl, hw, hlen, q, qx⟩ := h
    refine ⟨_, (pss_cons (ps_set (i := 2) nd rfl (.inl rfl) (pe_call GA hr (by rfl) gA FA.kp bA .nil pass0 (pa_cons (pv 0) (pa_cons (pv 1) pa_nil))))
        (pss_cons (ps_set (i := 3) nd rfl (.inl rfl) (pe_call GL hr (by rfl) gL FL.kp bL .nil pass0 (pa_cons (pv 0) (pa_cons (pv 1) (pa_cons (pv 2) pa_nil)))))
        (pss_cons (ps_if (pt_truth (pv 3) (by intro _; rfl)) (pss_one (ps_raise rfl (takes_of rfl rfl rfl rfl) (pmk_err TI hr rfl gC (pa_cons (pe_ix ix_list (pv 3) pe_int (fun _ _ => rfl)) pa_nil)))) pss_nil)
        (pss_one (ps_ret (pv 2)))))), ?_⟩
    refine ⟨_, rfl, _, rfl, s, l, os, ps, qs, ws, rfl, hS, hs, hl, hw, hlen, fun a H1 e1 na ha => ?_⟩
    refine ⟨_, rfl, _, rfl, _, rfl, s, l, a, os, ps, qs, ws, ansOf os qs ws, rfl, hS, hs.ex e1, ex_l e1 hl, sq_of ha, ansOf_len _ _ _, hlen, fun r H2 e2 nr hr2 => ?_⟩
    cases hal : aloneOf os qs ws (ansOf os qs ws) with
    | nil =>
      rw [hal] at hr2
      exact ⟨_, rfl, _, .inl ⟨_, sq_of hr2, rfl⟩, iteF ⟨_, rfl, q hal a H2 (e1.trans e2) na (e2 _ _ ha)⟩⟩
    | cons p0 rr =>
      rw [hal] at hr2
      have hp : p0 < ws.length := aloneOf_lt (t := ansOf os qs ws) (by rw [hal]; exact List.mem_cons_self ..)
      refine ⟨_, rfl, _, .inl ⟨_, sq_of hr2, rfl⟩, iteT ?_⟩
      refine ⟨_, rfl, r, _, 0, nV p0, rfl, rfl, sq_of hr2, (show atI _ ((0 : Nat) : Int) = _ from atI_nat rfl), ?_⟩
      refine mk_rd (log2_small (by omega)) fun d nd => qx p0 rr hal d _ ((e1.trans e2).trans (Ex.new nd)) upd_same
end
end Eh
set_option linter.all false
set_option maxRecDepth 100000
namespace Eh
open PySem
/-! a word that is shut is written by boughs -/
theorem parse {os ps qs : List Str} (hS : Sht os ps qs) : ∀ (m : Nat) (ws : List Str) (n : Nat), ws.length ≤ m → (∀ x ∈ ws, x ∈ os ++ ps ++ qs) → bal os qs ws n = some 0 → ∃ (f : Fo) (rest : List Str), ws = f.wr ++ rest ∧ f.Ok os ps qs ∧ ((n = 0 ∧ rest = []) ∨ ∃ n' c r', n = n' + 1 ∧ rest = c :: r' ∧ c ∈ qs ∧ bal os qs r' n' = some 0)
  | _, [], n, _, _, h => by
    have e : n = 0 := Option.some.inj h
    exact ⟨.nil, [], rfl, trivial, .inl ⟨e, rfl⟩⟩
  | 0, x :: r, n, hm, _, _ => by simp at hm
  | m + 1, x :: r, n, hm, hw, h => by
    have hmr : r.length ≤ m := by simpa using hm
    have hwr : ∀ y ∈ r, y ∈ os ++ ps ++ qs := fun y hy => hw y (List.mem_cons_of_mem _ hy)
    unfold bal at h
    cases hk : kdOf os qs x with
    | pl =>
      rw [hk] at h
      obtain ⟨f, rest, e, ho, hr⟩ := parse hS m r n hmr hwr h
      have hx : x ∈ ps := by
        rcases List.mem_append.mp (hw x (List.mem_cons_self ..)) with z | z
        · rcases List.mem_append.mp z with z | z
          · rw [kd_op.mpr z] at hk
            cases hk
          · exact z
        · rw [(kd_cl hS).mpr z] at hk
          cases hk
      exact ⟨.pl x f, rest, by rw [e]; rfl, ⟨hx, ho⟩, hr⟩
    | cl =>
      rw [hk] at h
      cases n with
      | zero => cases h
      | succ n' => exact ⟨.nil, x :: r, rfl, trivial, .inr ⟨n', x, r, rfl, rfl, (kd_cl hS).mp hk, h⟩⟩
    | op =>
      rw [hk] at h
      obtain ⟨f1, rest1, e1, o1, hr1⟩ := parse hS m r (n + 1) hmr hwr h
      rcases hr1 with ⟨z, _⟩ | ⟨n', c, r', en, er, hc, hb⟩
      · cases z
      · have : n' = n := by omega
        subst this
        subst er
        have hl : r'.length ≤ m := by
          have := congrArg List.length e1
          rw [List.length_append, List.length_cons] at this
          omega
        obtain ⟨f2, rest2, e2, o2, hr2⟩ := parse hS m r' n' hl (fun y hy => hwr y (by rw [e1]; exact List.mem_append_right _ (List.mem_cons_of_mem _ hy))) hb
        refine ⟨.pr x f1 c f2, rest2, ?_, ⟨kd_op.mp hk, o1, hc, o2⟩, hr2⟩
        rw [e1, e2]
        show _ = (x :: (f1.wr ++ c :: f2.wr)) ++ rest2
        rw [List.cons_append, List.append_assoc]
        rfl
/-- so long as no close is bare, as many opens wait as the run keeps -/
theorem bal_run {os qs ws : List Str} (hall : ∀ i, i < ws.length → tv (ansOf os qs ws) i = none → kfOf os qs ws i = .pl) : ∀ i, i ≤ ws.length → bal os qs (ws.take i) 0 = some (run (kfOf os qs ws) ws.length i).2.length
  | 0, _ => rfl
  | i + 1, hi => by
    have ih := bal_run hall i (by omega)
    have hlt : i < ws.length := by omega
    have hx : ws[i]? = some ws[i] := List.getElem?_eq_getElem hlt
    rw [List.take_add_one, hx, bal_app, ih]
    show bal os qs [ws[i]] (run (kfOf os qs ws) ws.length i).2.length = some (step (kfOf os qs ws) i (run (kfOf os qs ws) ws.length i)).2.length
    have hk : kfOf os qs ws i = kdOf os qs ws[i] := kfOf_at hx
    have G := good_run (kfOf os qs ws) ws.length i (by omega)
    have later := run_later (kfOf os qs ws) ws.length (i + 1) i (ws.length - (i + 1)) (by omega)
    rw [show i + 1 + (ws.length - (i + 1)) = ws.length by omega] at later
    have Gn := good_run (kfOf os qs ws) ws.length ws.length (Nat.le_refl _)
    have hrun : run (kfOf os qs ws) ws.length (i + 1) = step (kfOf os qs ws) i (run (kfOf os qs ws) ws.length i) := rfl
    rw [hrun] at later
    generalize run (kfOf os qs ws) ws.length i = S at G later ⊢
    obtain ⟨t, st⟩ := S
    replace G : Good (kfOf os qs ws) ws.length i t st := G
    unfold bal step at *
    rw [hk] at later ⊢
    cases hkd : kdOf os qs ws[i] with
    | op => rfl
    | pl => rfl
    | cl =>
      cases st with
      | cons b r => rfl
      | nil =>
        exfalso
        rw [hkd] at later
        have h0 : tv t i = none := G.hi i (Nat.le_refl _)
        have hkc : kfOf os qs ws i = .cl := hk.trans hkd
        rcases later.2 (by omega) h0 with z | ⟨m, hm, z⟩
        · have := hall i hlt z
          rw [hkc] at this
          cases this
        · obtain ⟨_, _, _, p4⟩ := Gn.pr i m z
          rcases p4 with ⟨q, _⟩ | ⟨_, _, q, _⟩
          · rw [hkc] at q
            cases q
          · omega
theorem shut_fo {os ps qs ws : List Str} (hS : Sht os ps qs) (hw : ∀ x ∈ ws, x ∈ os ++ ps ++ qs) (h : aloneOf os qs ws (ansOf os qs ws) = []) : ∃ f : Fo, f.Ok os ps qs ∧ f.wr = ws := by
  have hall := aloneOf_nil.mp h
  have hb := bal_run hall ws.length (Nat.le_refl _)
  rw [List.take_length] at hb
  have G := good_run (kfOf os qs ws) ws.length ws.length (Nat.le_refl _)
  have e0 : (run (kfOf os qs ws) ws.length ws.length).2 = [] := by
    cases e : (run (kfOf os qs ws) ws.length ws.length).2 with
    | nil => rfl
    | cons b r =>
      exfalso
      obtain ⟨b1, b2, b3⟩ := G.bd b (by rw [e]; exact List.mem_cons_self ..)
      have := hall b b1 b3
      rw [b2] at this
      cases this
  rw [e0] at hb
  obtain ⟨f, rest, e, ho, hr⟩ := parse hS ws.length ws 0 (Nat.le_refl _) hw hb
  rcases hr with ⟨_, z⟩ | ⟨n', c, r', z, _⟩
  · subst z
    rw [List.append_nil] at e
    exact ⟨f, ho, e.symm⟩
  · cases z
theorem Fo.deep_half : ∀ f : Fo, 2 * f.deep ≤ f.wr.length
  | .nil => Nat.le_refl _
  | .pl x r => by
    show 2 * r.deep ≤ r.wr.length + 1
    have := Fo.deep_half r
    omega
  | .pr a i c r => by
    show 2 * max (1 + i.deep) r.deep ≤ (a :: (i.wr ++ c :: r.wr)).length
    rw [List.length_cons, List.length_append, List.length_cons]
    have := Fo.deep_half i
    have := Fo.deep_half r
    omega
end Eh
set_option Elab.async false
set_option linter.all false
set_option maxRecDepth 100000
set_option maxHeartbeats 4000000
namespace Eh
open PySem PySem.Spec PyProof.Rows L2 Evl
section
variable {P : Program} {w : World} {K : PySem.W.Frag} {mg : Str → Option Value} {base : Heap}
def spBoughs (K : PySem.W.Frag) (CN : Addr) : Sp := fun vs H Q E => ∃ (s l : Addr) (os ps qs ws : List Str), vs = [.ref s, .ref l] ∧ Sht os ps qs ∧ SheetAt H s os ps qs ∧ SqL K H l (ws.map V.str) ∧ (∀ x ∈ ws, x ∈ os ++ ps ++ qs) ∧ ws.length ≤ 10000 ∧ (∀ f : Fo, f.Ok os ps qs → f.wr = ws → ∀ u us H', Ex H H' → H' u = some (.tup us) → FoAt H' f us → Q (.ref u) H') ∧
  ∀ p r, aloneOf os qs ws (ansOf os qs ws) = p :: r → ∀ d H', Ex H H' → H' d = some (.xd [("place", nV p)]) → E (.ref CN) (some d) H'
theorem ok_boughs {f fN CN : Addr} {fd fdN : FuncData} {k : Nat} (F : Fun K "boughs" "boughs" sBoughs f fd) (FN : Fun K "need_shut" "need_shut" sNeedShut fN fdN) (GN : FnOk P w K mg base (L2.CX P w) (k + 1) fN fdN ["sheet", "word"] (spNeedShut K CN)) (bN : Binds K fdN ["sheet", "word"] []) (gN : mg "need_shut" = some (.ref fN)) (mt : mg "tuple" = none) : FnOk P w K mg base (L2.CX P w) (k + 2) f fd ["sheet", "word"] (spBoughs K CN) := by
  have nd := scBoughs.nd
  refine F.okX scBoughs (fun vs H Q E h => ?_) (fun cdv A outer s H vs Q E hr h => ?_)
  · obtain ⟨s, l, os, ps, qs, ws, rfl, _⟩ := h
    rfl
  · obtain ⟨s, l, os, ps, qs, ws, rfl, hS, hs, hl, hw, hlen, q, qx⟩ := h
    refine ⟨_, (pss_cons (ps_expr (pe_call (E := E) GN hr (by rfl) gN FN.kp bN .nil (passes_call (takes_of rfl rfl rfl rfl) fun _ _ _ _ z => z) (pa_cons (pv 0) (pa_cons (pv 1) pa_nil))))
        (PSs.nox (pss_cons (ps_set (i := 2) nd rfl (.inl rfl) (pe_lst (pa_cons (pe_lst pa_nil) pa_nil)))
        (pss_cons (ps_set (i := 3) nd rfl (.inl rfl) (pe_lst pa_nil))
        (pss_cons (ps_for PassesOwn.never rfl (pi_list (pv 1)) (pg_name (i := 4) nd rfl (.inl rfl)) (pss_one (ps_if (pt_cmpR op_in_seq (pv 4) (pe_ix ix_tup (pv 0) pe_int (fun _ _ => rfl)) (by rfl)) (pss_cons (ps_expr (pe_bm PySem.F.plainAttrs_list PySem.F.slot_list_append PySem.F.type_list_append mt_append (pv 3) (pa_cons (pv 4) pa_nil)))
        (pss_one (ps_expr (pe_bm PySem.F.plainAttrs_list PySem.F.slot_list_append PySem.F.type_list_append mt_append (pv 2) (pa_cons (pe_lst pa_nil) pa_nil))))) (pss_one (ps_if (pt_cmpR op_in_seq (pv 4) (pe_ix ix_tup (pv 0) pe_int (fun _ _ => rfl)) (by rfl)) (pss_cons (ps_set (i := 5) nd rfl (.inl rfl) (pe_callTy call_tuple_of (by rfl) mt (by decide +kernel) (pa_cons (pe_bm0 PySem.F.plainAttrs_list PySem.F.slot_list_pop PySem.F.type_list_pop mt_pop (pv 2)) pa_nil)))
        (pss_one (ps_expr (pe_bm PySem.F.plainAttrs_list PySem.F.slot_list_append PySem.F.type_list_append mt_append (pe_ix ix_list (pv 2) (pe_un un_neg pe_int) (fun _ _ => rfl)) (pa_cons (pe_tup (pa_cons (pe_bm0 PySem.F.plainAttrs_list PySem.F.slot_list_pop PySem.F.type_list_pop mt_pop (pv 3)) (pa_cons (pv 5) (pa_cons (pv 4) pa_nil)))) pa_nil))))) (pss_one (ps_expr (pe_bm PySem.F.plainAttrs_list PySem.F.slot_list_append PySem.F.type_list_append mt_append (pe_ix ix_list (pv 2) (pe_un un_neg pe_int) (fun _ _ => rfl)) (pa_cons (pe_tup (pa_cons (pv 4) pa_nil)) pa_nil)))))))))
        (pss_one (ps_ret (pe_callTy call_tuple_of (by rfl) mt (by decide +kernel) (pa_cons (pe_ix ix_list (pv 2) pe_int (fun _ _ => rfl)) pa_nil))))))))), ?_⟩
    refine ⟨_, rfl, _, rfl, s, l, os, ps, qs, ws, rfl, hS, hs, hl, hw, hlen, fun hal T H1 e1 nT hT => ?_, qx⟩
    obtain ⟨f, ho, rfl⟩ := shut_fo hS hw hal
    replace q := q f ho rfl
    -- levels = [[]], begun = []
    refine ⟨Nat.zero_le _, fun a0 na0 => ⟨(by show 1 ≤ sizeLine; decide), fun L nL => ?_⟩⟩
    have x1 : Ex H1 (upd H1 a0 (.lst [])) := Ex.new na0
    have x2 : Ex H1 (upd (upd H1 a0 (.lst [])) L (.lst [.ref a0])) := x1.trans (Ex.new nL)
    have nLa : a0 ≠ L := ne_of_none upd_same nL
    refine ⟨Nat.zero_le _, fun B nB => ?_⟩
    have x3 := x2.trans (Ex.new (o := .lst []) nB)
    have nBL : L ≠ B := ne_of_none upd_same nB
    have nBa : a0 ≠ B := ne_of_none (show (upd (upd H1 a0 (.lst [])) L (.lst [.ref a0])) a0 = some (.lst []) by rw [upd_ne nLa]; exact upd_same) nB
    have n1L : H1 L = none := fresh_back x1 nL
    have n1B : H1 B = none := fresh_back x2 nB
    refine ⟨_, rfl, l, rfl, ⟨_, ex_l (e1.trans x3) hl⟩, for_list (xs := f.wr.map V.str) (fun i σ H' => ∃ (fs : List Fo) (bs : List Str) (as : List Addr), (∃ y4 y5, σ = [some (.ref s), some (.ref l), some (.ref L), some (.ref B), y4, y5]) ∧ (f.wr.take i).foldl (stepB os qs) ([.nil], []) = (fs, bs) ∧ bal os qs (f.wr.take i) 0 = some bs.length ∧ fs.length = bs.length + 1 ∧ Ex H1 H' ∧ H' L = some (.lst (as.reverse.map V.ref)) ∧ H' B = some (lS bs.reverse) ∧ LevAt H' i fs as ∧ as.Nodup ∧ ∀ a ∈ as, H1 a = none ∧ a ≠ L ∧ a ≠ B) ?_ ?_ ?_ ?_⟩
    · refine ⟨[.nil], [], [a0], ⟨_, _, rfl⟩, rfl, rfl, rfl, x3, ?_, upd_same, ⟨⟨[], ?_, rfl, Nat.le_refl _⟩, trivial⟩, by simp, fun a ha => ?_⟩
      · rw [upd_ne nBL, upd_same]
        rfl
      · rw [upd_ne nBa, upd_ne nLa, upd_same]
      · rw [List.mem_singleton.mp ha]
        exact ⟨na0, nLa, nBa⟩
    · rintro i σ H' _ ⟨fs, bs, as, _, _, _, _, eH, _⟩
      exact ex_l (e1.trans eH) hl
    · rintro i x σ H' hx ⟨fs, bs, as, ⟨y4, y5, rfl⟩, hf, hb, hfl, eH, hL, hB, hLev, hnd, hfr⟩
      rw [List.getElem?_map] at hx
      obtain ⟨y, hy, rfl⟩ := Option.map_eq_some_iff.mp hx
      have hi := (List.getElem?_eq_some_iff.mp hy).1
      have htk : f.wr.take (i + 1) = f.wr.take i ++ [y] := by rw [List.take_add_one, hy]; rfl
      have hf' : (f.wr.take (i + 1)).foldl (stepB os qs) ([.nil], []) = stepB os qs (fs, bs) y := by rw [htk, List.foldl_append, hf]; rfl
      have hb' : bal os qs (f.wr.take (i + 1)) 0 = bal os qs [y] bs.length := by rw [htk, bal_app, hb]; rfl
      have hbs : bal os qs (f.wr.take (i + 1)) 0 ≠ none := fun z => by
        have h1 := bal_fo hS f 0 ho
        rw [← List.take_append_drop (i + 1) f.wr, bal_app, z] at h1
        cases h1
      have hbl : bs.length ≤ i := by
        have h1 : ∀ (l : List Str) (n m : Nat), bal os qs l n = some m → m ≤ n + l.length := fun l => by
          induction l with
          | nil => intro n m h; cases h; simp
          | cons x r ih =>
            intro n m h
            unfold bal at h
            rw [List.length_cons]
            cases hk : kdOf os qs x with
            | op => rw [hk] at h; have := ih _ _ h; omega
            | pl => rw [hk] at h; have := ih _ _ h; omega
            | cl =>
              rw [hk] at h
              cases n with
              | zero => cases h
              | succ n => have := ih _ _ h; omega
        have h2 := h1 _ _ _ hb
        rw [List.length_take] at h2
        omega
      have hasl := LevAt.len _ _ hLev
      obtain ⟨ao, ap, ac, g0, g1, g2, g3⟩ := hs.ex (e1.trans eH)
      have sz9 : ∀ n : Nat, n ≤ 20001 → n < sizeLine := fun n h => sz_lt (by omega)
      refine ⟨_, rfl, _, rfl, s, _, 0, .ref ao, rfl, rfl, st_of g0, rfl, ao, _, rfl, .inr (st_of g1), rfl, flat_str os, _, rfl, ?_⟩
      show if inV (.str y) (os.map V.str) = true then _ else _
      rw [inV_str]
      refine ite2 (fun hop => ?_) (fun hop => ?_)
      · have hyo : y ∈ os := of_decide_eq_true hop
        have hst : stepB os qs (fs, bs) y = (.nil :: fs, y :: bs) := by
          unfold stepB
          rw [kd_op.mpr hyo]
        refine ⟨_, rfl, .inl ⟨rfl, _, sq_of hB⟩, _, rfl, B, _, _, rfl, rfl, hB, by rw [List.length_map, List.length_reverse]; exact sz9 _ (by omega), ?_⟩
        have hL2 : (upd H' B (.lst (bs.reverse.map V.str ++ [.str y]))) L = some (.lst (as.reverse.map V.ref)) := by rw [upd_ne nBL]; exact hL
        refine ⟨_, rfl, .inl ⟨rfl, _, sq_of hL2⟩, Nat.zero_le _, fun n nn => ?_⟩
        have nLn : L ≠ n := ne_of_none hL2 nn
        have nBn : B ≠ n := ne_of_none upd_same nn
        have nn' : H' n = none := by rw [← nn, upd_ne nBn.symm]
        refine ⟨L, _, _, rfl, rfl, by rw [upd_ne nLn]; exact hL2, by rw [List.length_map, List.length_reverse]; exact sz9 _ (by omega), ?_⟩
        have hval : ∀ b, b ≠ L → b ≠ B → b ≠ n → (upd (upd (upd H' B (.lst (bs.reverse.map V.str ++ [.str y]))) n (.lst [])) L (.lst (as.reverse.map V.ref ++ [.ref n]))) b = H' b := fun b h1 h2 h3 => by rw [upd_ne h1, upd_ne h3, upd_ne h2]
        refine ⟨.nil :: fs, y :: bs, n :: as, ⟨_, _, rfl⟩, by rw [hf', hst], by rw [hb', bal_one_op hyo]; rfl, by rw [List.length_cons, List.length_cons, hfl], ?_, ?_, ?_, ⟨⟨[], ?_, rfl, Nat.zero_le _⟩, ?_⟩, ?_, ?_⟩
        · exact ((eH.mut n1B).trans (Ex.new nn)).mut n1L
        · rw [upd_same, List.reverse_cons, List.map_append]
          rfl
        · rw [upd_ne nBL.symm, upd_ne nBn, upd_same, lS_add, List.reverse_cons]
        · rw [upd_ne nLn.symm, upd_same]
        · refine LevAt.keep (Nat.le_succ _) (fun b xs hb2 => ?_) fs as (fun a ha xs hxs => ?_) hLev
          · rw [hval b (fun z => by rw [z, hL] at hb2; cases hb2) (fun z => by rw [z, hB] at hb2; cases hb2) (fun z => by rw [z, nn'] at hb2; cases hb2)]
            exact hb2
          · rw [hval a (hfr a ha).2.1 (hfr a ha).2.2 (fun z => by rw [z, nn'] at hxs; cases hxs)]
            exact hxs
        · refine List.nodup_cons.mpr ⟨fun hm => ?_, hnd⟩
          have : ∀ (fs : List Fo) (as : List Addr), LevAt H' i fs as → ∀ a ∈ as, ∃ vs, H' a = some (.lst vs) := fun fs => by
            induction fs with
            | nil => intro as h a ha; cases as with | nil => exact (List.not_mem_nil ha).elim | cons _ _ => exact h.elim
            | cons g gs ih =>
              intro as h a ha
              cases as with
              | nil => exact h.elim
              | cons c cs' =>
                rcases List.mem_cons.mp ha with z | z
                · obtain ⟨⟨vs, h1, _⟩, _⟩ := h
                  exact ⟨vs, by rw [z]; exact h1⟩
                · exact ih cs' h.2 a z
          obtain ⟨vs, hvs⟩ := this fs as hLev n hm
          rw [nn'] at hvs
          cases hvs
        · intro a ha
          rcases List.mem_cons.mp ha with z | z
          · rw [z]
            exact ⟨fresh_back eH nn', nLn.symm, nBn.symm⟩
          · exact hfr a z
      · have hno : ¬ y ∈ os := fun z => hop (decide_eq_true z)
        refine ⟨_, rfl, _, rfl, s, _, 2, .ref ac, rfl, rfl, st_of g0, rfl, ac, _, rfl, .inr (st_of g3), rfl, flat_str qs, _, rfl, ?_⟩
        show if inV (.str y) (qs.map V.str) = true then _ else _
        rw [inV_str]
        refine ite2 (fun hcl => ?_) (fun hcl => ?_)
        · have hyc : y ∈ qs := of_decide_eq_true hcl
          cases bs with
          | nil =>
            exfalso
            rw [hb'] at hbs
            apply hbs
            show bal os qs [y] 0 = none
            unfold bal
            rw [(kd_cl hS).mpr hyc]
          | cons a bs' =>
            cases fs with
            | nil => cases hfl
            | cons i0 fs' =>
              cases fs' with
              | nil =>
                rw [List.length_cons, List.length_cons] at hfl
                simp at hfl
              | cons o ls =>
                cases as with
                | nil => exact hLev.elim
                | cons a0' as1 =>
                  cases as1 with
                  | nil => exact hLev.2.elim
                  | cons a1 as' =>
                    obtain ⟨⟨v0, hv0, hF0, _⟩, ⟨v1, hv1, hF1, hv1l⟩, hLev'⟩ := hLev
                    have f0 := hfr a0' (List.mem_cons_self ..)
                    have f1 := hfr a1 (List.mem_cons_of_mem _ (List.mem_cons_self ..))
                    obtain ⟨hn0, hnd1⟩ := List.nodup_cons.mp hnd
                    obtain ⟨hn1, hnd2⟩ := List.nodup_cons.mp hnd1
                    have hst : stepB os qs (i0 :: o :: ls, a :: bs') y = (o.app (.pr a i0 y .nil) :: ls, bs') := by
                      unfold stepB
                      rw [(kd_cl hS).mpr hyc]
                    have er : ((a0' :: a1 :: as').reverse.map V.ref) = (a1 :: as').reverse.map V.ref ++ [.ref a0'] := by
                      rw [List.reverse_cons, List.map_append]
                      rfl
                    have er2 : (a1 :: as').reverse.map V.ref = as'.reverse.map V.ref ++ [.ref a1] := by
                      rw [List.reverse_cons, List.map_append]
                      rfl
                    have eb : (a :: bs').reverse.map V.str = bs'.reverse.map V.str ++ [.str a] := by
                      rw [List.reverse_cons, List.map_append]
                      rfl
                    rw [er] at hL
                    rw [show lS (a :: bs').reverse = HO.lst (bs'.reverse.map V.str ++ [.str a]) by rw [← eb]] at hB
                    -- within = tuple(levels.pop())
                    refine ⟨_, rfl, .inl ⟨rfl, _, sq_of hL⟩, L, _, .ref a0', rfl, rfl, hL, ?_, a0', v0, rfl, .inl ⟨sq_of (by rw [upd_ne f0.2.1]; exact hv0), fun u nu => ?_⟩⟩
                    · rw [List.length_append, List.length_singleton, Nat.add_sub_cancel, List.getElem?_append_right (Nat.le_refl _), Nat.sub_self]
                      rfl
                    rw [List.dropLast_concat] at nu
                    have nLu : L ≠ u := ne_of_none upd_same nu
                    have nu' : H' u = none := by rw [← nu, upd_ne nLu.symm]
                    have n1u : a1 ≠ u := ne_of_none hv1 nu'
                    have nBu : B ≠ u := ne_of_none hB nu'
                    -- levels[-1].append((begun.pop(), within, letter))
                    rw [List.dropLast_concat]
                    refine ⟨_, rfl, 1, rfl, L, _, -1, .ref a1, rfl, rfl, sq_of (by rw [upd_ne nLu, upd_same]), by rw [er2]; exact atI_last _ _, ?_⟩
                    have hv1' : (upd (upd H' L (.lst ((a1 :: as').reverse.map V.ref))) u (.tup v0)) a1 = some (.lst v1) := by rw [upd_ne n1u, upd_ne f1.2.1]; exact hv1
                    have hB' : (upd (upd H' L (.lst ((a1 :: as').reverse.map V.ref))) u (.tup v0)) B = some (.lst (bs'.reverse.map V.str ++ [.str a])) := by rw [upd_ne nBu, upd_ne nBL.symm]; exact hB
                    refine ⟨.inl ⟨rfl, _, sq_of hv1'⟩, _, rfl, .inl ⟨rfl, _, sq_of hB'⟩, B, _, .str a, rfl, rfl, hB', ?_, _, rfl, _, rfl, (by show 3 ≤ sizeLine; decide), fun t nt => ?_⟩
                    · rw [List.length_append, List.length_singleton, Nat.add_sub_cancel, List.getElem?_append_right (Nat.le_refl _), Nat.sub_self]
                      rfl
                    rw [List.dropLast_concat] at nt ⊢
                    have n1B' : a1 ≠ B := f1.2.2
                    have n1t : a1 ≠ t := ne_of_none (by rw [upd_ne n1B']; exact hv1') nt
                    have nBt : B ≠ t := ne_of_none upd_same nt
                    have nut : u ≠ t := ne_of_none (by rw [upd_ne nBu.symm, upd_same]) nt
                    have nLt : L ≠ t := ne_of_none (by rw [upd_ne nBL, upd_ne nLu, upd_same]) nt
                    have nt' : H' t = none := by rw [← nt, upd_ne nBt.symm, upd_ne nut.symm, upd_ne nLt.symm]
                    refine ⟨a1, _, _, rfl, rfl, by rw [upd_ne n1t, upd_ne n1B']; exact hv1', sz9 _ (by omega), ?_⟩
                    have hval : ∀ b, b ≠ L → b ≠ B → b ≠ a1 → b ≠ u → b ≠ t → (upd (upd (upd (upd (upd H' L (.lst ((a1 :: as').reverse.map V.ref))) u (.tup v0)) B (.lst (bs'.reverse.map V.str))) t (.tup [.str a, .ref u, .str y])) a1 (.lst (v1 ++ [.ref t]))) b = H' b := fun b k1 k2 k3 k4 k5 => by rw [upd_ne k3, upd_ne k5, upd_ne k2, upd_ne k4, upd_ne k1]
                    have hkt : ∀ b xs, H' b = some (.tup xs) → (upd (upd (upd (upd (upd H' L (.lst ((a1 :: as').reverse.map V.ref))) u (.tup v0)) B (.lst (bs'.reverse.map V.str))) t (.tup [.str a, .ref u, .str y])) a1 (.lst (v1 ++ [.ref t]))) b = some (.tup xs) := fun b xs hb2 => by
                      rw [hval b (fun z => by rw [z, hL] at hb2; cases hb2) (fun z => by rw [z, hB] at hb2; cases hb2) (fun z => by rw [z, hv1] at hb2; cases hb2) (fun z => by rw [z, nu'] at hb2; cases hb2) (fun z => by rw [z, nt'] at hb2; cases hb2)]
                      exact hb2
                    refine ⟨o.app (.pr a i0 y .nil) :: ls, bs', a1 :: as', ⟨_, _, rfl⟩, by rw [hf', hst], by rw [hb', List.length_cons, bal_one_cl hS hyc], by simpa using hfl, ?_, ?_, ?_, ⟨⟨v1 ++ [.ref t], upd_same, ?_, by rw [List.length_append, List.length_singleton]; omega⟩, ?_⟩, hnd1, fun b hb2 => hfr b (List.mem_cons_of_mem _ hb2)⟩
                    · exact ((((eH.mut n1L).mut (fresh_back eH nu')).mut n1B).mut (fresh_back eH nt')).mut f1.1
                    · rw [upd_ne f1.2.1.symm, upd_ne nLt, upd_ne nBL, upd_ne nLu, upd_same]
                    · rw [upd_ne n1B'.symm, upd_ne nBt, upd_same]
                    · exact FoAt.app o (.pr a i0 y .nil) v1 [.ref t] (FoAt.keep hkt o v1 hF1) ⟨t, u, v0, [], rfl, by rw [upd_ne n1t.symm, upd_same], by rw [upd_ne n1u.symm, upd_ne nut, upd_ne nBu.symm, upd_same], FoAt.keep hkt i0 v0 hF0, rfl⟩
                    · refine LevAt.keep (Nat.le_succ _) hkt ls as' (fun b hb2 xs hxs => ?_) hLev'
                      have fb := hfr b (List.mem_cons_of_mem _ (List.mem_cons_of_mem _ hb2))
                      rw [hval b fb.2.1 fb.2.2 (fun z => hn1 (z ▸ hb2)) (fun z => by rw [z, nu'] at hxs; cases hxs) (fun z => by rw [z, nt'] at hxs; cases hxs)]
                      exact hxs
        · have hpl : kdOf os qs y = .pl := by
            unfold kdOf
            rw [if_neg hno, if_neg (fun z => hcl (decide_eq_true z))]
          cases fs with
          | nil => cases hfl
          | cons o ls =>
            cases as with
            | nil => exact hLev.elim
            | cons a1 as' =>
              obtain ⟨⟨v1, hv1, hF1, hv1l⟩, hLev'⟩ := hLev
              have f1 := hfr a1 (List.mem_cons_self ..)
              obtain ⟨hn1, hnd2⟩ := List.nodup_cons.mp hnd
              have hst : stepB os qs (o :: ls, bs) y = (o.app (.pl y .nil) :: ls, bs) := by
                unfold stepB
                rw [hpl]
              have er2 : (a1 :: as').reverse.map V.ref = as'.reverse.map V.ref ++ [.ref a1] := by
                rw [List.reverse_cons, List.map_append]
                rfl
              refine ⟨_, rfl, 1, rfl, L, _, -1, .ref a1, rfl, rfl, sq_of hL, by rw [er2]; exact atI_last _ _, .inl ⟨rfl, _, sq_of hv1⟩, _, rfl, (by show 1 ≤ sizeLine; decide), fun t nt => ?_⟩
              have n1t : a1 ≠ t := ne_of_none hv1 nt
              have nBt : B ≠ t := ne_of_none hB nt
              have nLt : L ≠ t := ne_of_none hL nt
              refine ⟨a1, _, _, rfl, rfl, by rw [upd_ne n1t]; exact hv1, sz9 _ (by omega), ?_⟩
              have hval : ∀ b, b ≠ a1 → b ≠ t → (upd (upd H' t (.tup [.str y])) a1 (.lst (v1 ++ [.ref t]))) b = H' b := fun b k3 k5 => by rw [upd_ne k3, upd_ne k5]
              have hkt : ∀ b xs, H' b = some (.tup xs) → (upd (upd H' t (.tup [.str y])) a1 (.lst (v1 ++ [.ref t]))) b = some (.tup xs) := fun b xs hb2 => by
                rw [hval b (fun z => by rw [z, hv1] at hb2; cases hb2) (fun z => by rw [z, nt] at hb2; cases hb2)]
                exact hb2
              refine ⟨o.app (.pl y .nil) :: ls, bs, a1 :: as', ⟨_, _, rfl⟩, by rw [hf', hst], ?_, hfl, (eH.trans (Ex.new nt)).mut f1.1, ?_, ?_, ⟨⟨v1 ++ [.ref t], upd_same, ?_, by rw [List.length_append, List.length_singleton]; omega⟩, ?_⟩, hnd, hfr⟩
              · rw [hb']
                unfold bal
                rw [hpl]
                rfl
              · rw [hval L f1.2.1.symm nLt]
                exact hL
              · rw [hval B f1.2.2.symm nBt]
                exact hB
              · exact FoAt.app o (.pl y .nil) v1 [.ref t] (FoAt.keep hkt o v1 hF1) ⟨t, [], rfl, by rw [upd_ne n1t.symm, upd_same], rfl⟩
              · refine LevAt.keep (Nat.le_succ _) hkt ls as' (fun b hb2 xs hxs => ?_) hLev'
                rw [hval b (fun z => hn1 (z ▸ hb2)) (fun z => by rw [z, nt] at hxs; cases hxs)]
                exact hxs
    · rintro σ H' ⟨fs, bs, as, ⟨y4, y5, rfl⟩, hf, hb, hfl, eH, hL, hB, hLev, hnd, hfr⟩
      rw [List.length_map, List.take_length] at hf hb
      rw [bal_fo hS f 0 ho] at hb
      rw [foldB hS f .nil [] [] ho] at hf
      cases hf
      cases as with
      | nil => exact hLev.elim
      | cons a r =>
        cases r with
        | cons _ _ => exact hLev.2.elim
        | nil =>
          obtain ⟨⟨vs, h1, h2, _⟩, _⟩ := hLev
          refine ⟨_, rfl, L, _, 0, .ref a, rfl, rfl, sq_of hL, rfl, a, _, rfl, .inl ⟨sq_of h1, fun u nu => ?_⟩⟩
          exact q u vs _ ((e1.trans eH).trans (Ex.new nu)) upd_same (FoAt.ex (Ex.new nu) h2)
end
end Eh
set_option Elab.async false
set_option linter.all false
set_option maxRecDepth 100000
set_option maxHeartbeats 4000000
namespace Eh
open PySem PySem.Spec PyProof.Rows L2 Evl
theorem scWordBy : FnScope ["boughs", "word", "waiting", "part"] ["boughs"] (defScope sWordBy) := ⟨rfl, rfl, rfl, by decide +kernel, rfl, by decide +kernel, by decide +kernel⟩
/-! what is still to be written -/
def OneAt (H : Hp) (v : V) (a : List Str) : Prop := (∃ c, v = .str c ∧ a = [c]) ∨ (∃ t x, v = .ref t ∧ H t = some (.tup [.str x]) ∧ a = [x]) ∨ ∃ t u c0 i c ws, v = .ref t ∧ H t = some (.tup [.str c0, .ref u, .str c]) ∧ H u = some (.tup ws) ∧ FoAt H i ws ∧ a = c0 :: (i.wr ++ [c])
def TaskAt (H : Hp) : List V → List Str → Prop
  | [], ws => ws = []
  | v :: r, ws => ∃ a b, ws = a ++ b ∧ OneAt H v a ∧ TaskAt H r b
theorem OneAt.keep {H H' : Hp} (k : ∀ b xs, H b = some (.tup xs) → H' b = some (.tup xs)) {v : V} {a : List Str} (h : OneAt H v a) : OneAt H' v a := by
  rcases h with h | ⟨t, x, e, h1, h2⟩ | ⟨t, u, c0, i, c, ws, e, h1, h2, h3, h4⟩
  · exact .inl h
  · exact .inr (.inl ⟨t, x, e, k _ _ h1, h2⟩)
  · exact .inr (.inr ⟨t, u, c0, i, c, ws, e, k _ _ h1, k _ _ h2, FoAt.keep k i ws h3, h4⟩)
theorem TaskAt.keep {H H' : Hp} (k : ∀ b xs, H b = some (.tup xs) → H' b = some (.tup xs)) : ∀ (vs : List V) (ws : List Str), TaskAt H vs ws → TaskAt H' vs ws
  | [], ws, h => h
  | v :: r, ws, ⟨a, b, e, h1, h2⟩ => ⟨a, b, e, h1.keep k, TaskAt.keep k r b h2⟩
theorem TaskAt.len {H : Hp} : ∀ (vs : List V) (ws : List Str), TaskAt H vs ws → vs.length ≤ ws.length
  | [], ws, h => Nat.zero_le _
  | v :: r, ws, ⟨a, b, e, h1, h2⟩ => by
    have := TaskAt.len r b h2
    have ha : 1 ≤ a.length := by
      rcases h1 with ⟨c, _, h⟩ | ⟨t, x, _, _, h⟩ | ⟨t, u, c0, i, c, ws, _, _, _, _, h⟩ <;> rw [h] <;> simp
    rw [e, List.length_cons, List.length_append]
    omega
theorem TaskAt.fo {H : Hp} : ∀ (f : Fo) (us r : List V) (ws : List Str), FoAt H f us → TaskAt H r ws → TaskAt H (us ++ r) (f.wr ++ ws)
  | .nil, us, r, ws, h, h' => by
    rw [show us = [] from h]
    exact h'
  | .pl x q, us, r, ws, ⟨t, vs, e, h1, h2⟩, h' => by
    rw [e]
    exact ⟨[x], q.wr ++ ws, rfl, .inr (.inl ⟨t, x, rfl, h1, rfl⟩), TaskAt.fo q vs r ws h2 h'⟩
  | .pr a i c q, us, r, ws, ⟨t, u, is, vs, e, h1, h2, h3, h4⟩, h' => by
    rw [e]
    refine ⟨a :: (i.wr ++ [c]), q.wr ++ ws, ?_, .inr (.inr ⟨t, u, a, i, c, is, rfl, h1, h2, h3, rfl⟩), TaskAt.fo q vs r ws h4 h'⟩
    show a :: (i.wr ++ c :: q.wr) ++ ws = a :: (i.wr ++ [c]) ++ (q.wr ++ ws)
    simp
section
variable {P : Program} {w : World} {K : PySem.W.Frag} {mg : Str → Option Value} {base : Heap}
def spWordBy : Sp := fun vs H Q _ => ∃ (u : Addr) (us : List V) (f : Fo), vs = [.ref u] ∧ H u = some (.tup us) ∧ FoAt H f us ∧ f.wr.length ≤ 10000 ∧ ∀ l H', Ex H H' → H l = none → H' l = some (lS f.wr) → Q (.ref l) H'
theorem ok_wordBy {f : Addr} {fd : FuncData} {k : Nat} (F : Fun K "word_by" "word_by" sWordBy f fd) (ml : mg "list" = none) (mi : mg "isinstance" = none) (ms : mg "str" = none) (mln : mg "len" = none) : FnOk P w K mg base CX0 (k + 1) f fd ["boughs"] spWordBy := by
  have nd := scWordBy.nd
  refine F.ok scWordBy (fun vs H Q E h => ?_) (fun cdv A outer s H vs Q E hr h => ?_)
  · obtain ⟨u, us, f, rfl, _⟩ := h
    rfl
  · obtain ⟨u, us, f, rfl, hu, hF, hlen, q⟩ := h
    refine ⟨_, (pss_cons (ps_set (i := 1) nd rfl (.inl rfl) (pe_lst pa_nil))
        (pss_cons (ps_set (i := 2) nd rfl (.inl rfl) (pe_callTy call_list_of (by rfl) ml (by decide +kernel) (pa_cons (pe_revT (pv 0)) pa_nil)))
        (pss_cons (ps_while PassesOwn.never (pt_truth (pv 2) (by intro _; rfl)) (pss_cons (ps_set (i := 3) nd rfl (.inl rfl) (pe_bm0 PySem.F.plainAttrs_list PySem.F.slot_list_pop PySem.F.type_list_pop mt_pop (pv 2)))
        (pss_one (ps_if (pt_val (pe_callB call_isi (by rfl) mi (by decide +kernel) (pa_cons (pv 3) (pa_cons (pe_bltn (v := .ty "str") (by rfl) ms (by decide +kernel) rfl) pa_nil)))) (pss_one (ps_expr (pe_bm PySem.F.plainAttrs_list PySem.F.slot_list_append PySem.F.type_list_append mt_append (pv 1) (pa_cons (pv 3) pa_nil)))) (pss_one (ps_if (pt_cmpR op_eq (pe_callB call_len_seq (by rfl) mln PySem.boot_len (pa_cons (pv 3) pa_nil)) pe_int (nomark _)) (pss_one (ps_expr (pe_bm PySem.F.plainAttrs_list PySem.F.slot_list_append PySem.F.type_list_append mt_append (pv 1) (pa_cons (pe_ix ix_tup (pv 3) pe_int (fun _ _ => rfl)) pa_nil)))) (pss_cons (ps_expr (pe_bm PySem.F.plainAttrs_list PySem.F.slot_list_append PySem.F.type_list_append mt_append (pv 1) (pa_cons (pe_ix ix_tup (pv 3) pe_int (fun _ _ => rfl)) pa_nil)))
        (pss_cons (ps_expr (pe_bm PySem.F.plainAttrs_list PySem.F.slot_list_append PySem.F.type_list_append mt_append (pv 2) (pa_cons (pe_ix ix_tup (pv 3) pe_int (fun _ _ => rfl)) pa_nil)))
        (pss_one (ps_expr (pe_bm PySem.F.plainAttrs_list PySem.F.slot_list_extend PySem.F.type_list_extend mt_extT (pv 2) (pa_cons (pe_revT (pe_ix ix_tup (pv 3) pe_int (fun _ _ => rfl))) pa_nil))))))))))))
        (pss_one (ps_ret (pv 1)))))), ?_⟩
    refine ⟨Nat.zero_le _, fun wd nw => ?_⟩
    have x1 : Ex H (upd H wd (.lst [])) := Ex.new nw
    refine ⟨_, rfl, u, us, rfl, st_of (x1 _ _ hu), fun r nr => ?_⟩
    have x2 := x1.trans (Ex.new (o := .tup us.reverse) nr)
    refine ⟨r, _, rfl, .inr (st_of upd_same), fun qu nq => ?_⟩
    have x3 := x2.trans (Ex.new (o := .lst us.reverse) nq)
    have nwr : wd ≠ r := ne_of_none upd_same nr
    have nwq : wd ≠ qu := ne_of_none (by rw [upd_ne nwr, upd_same]) nq
    have nqH : H qu = none := fresh_back x2 nq
    refine ⟨fun m σ' H' => ∃ (dn td : List Str) (ts : List V), (∃ y3, σ' = [some (.ref u), some (.ref wd), some (.ref qu), y3]) ∧ H' wd = some (lS dn) ∧ H' qu = some (.lst ts.reverse) ∧ TaskAt H' ts td ∧ dn ++ td = f.wr ∧ m = td.length ∧ Ex H H', ⟨f.wr.length, [], f.wr, us, ⟨_, rfl⟩, ?_, upd_same, ?_, rfl, rfl, x3⟩, fun m σ' H' hW => ?_⟩
    · rw [upd_ne nwq, upd_ne nwr, upd_same]
      rfl
    · have := TaskAt.fo f us [] [] (FoAt.ex x3 hF) rfl
      rw [List.append_nil, List.append_nil] at this
      exact this
    obtain ⟨dn, td, ts, ⟨y3, rfl⟩, hw, hq, hT, hdt, hm, eH⟩ := hW
    have tl := TaskAt.len ts td hT
    have dl : dn.length + td.length = f.wr.length := by rw [← List.length_append, hdt]
    refine ⟨_, rfl, _, .inl ⟨_, sq_of hq, rfl⟩, ?_⟩
    cases ts with
    | nil =>
      have e : td = [] := hT
      rw [e, List.append_nil] at hdt
      exact ⟨_, rfl, q wd H' eH nw (by rw [hw, hdt])⟩
    | cons v ts' =>
      rw [show (v :: ts').reverse = ts'.reverse ++ [v] from List.reverse_cons ..] at hq ⊢
      rw [show (!(ts'.reverse ++ [v]).isEmpty) = true by cases ts'.reverse <;> rfl]
      obtain ⟨a, b, e, h1, h2⟩ := hT
      have tl' := TaskAt.len ts' b h2
      have bl : a.length + b.length = td.length := by rw [e, List.length_append]
      -- what is kept when a list of ours changes
      refine iteT ⟨fun σ2 H2 => ∃ m', m' < m ∧ ∃ (dn td : List Str) (ts : List V), (∃ y3, σ2 = [some (.ref u), some (.ref wd), some (.ref qu), y3]) ∧ H2 wd = some (lS dn) ∧ H2 qu = some (.lst ts.reverse) ∧ TaskAt H2 ts td ∧ dn ++ td = f.wr ∧ m' = td.length ∧ Ex H H2, fun σ2 H2 h => h, ?_⟩
      refine ⟨_, rfl, .inl ⟨rfl, _, sq_of hq⟩, qu, _, v, rfl, rfl, hq, ?_, ?_⟩
      · rw [List.length_append, List.length_singleton, Nat.add_sub_cancel, List.getElem?_append_right (Nat.le_refl _), Nat.sub_self]
        rfl
      rw [List.dropLast_concat]
      have k1 : ∀ b xs, H' b = some (.tup xs) → (upd H' qu (.lst ts'.reverse)) b = some (.tup xs) := keep_upd hq
      have hw1 : (upd H' qu (.lst ts'.reverse)) wd = some (lS dn) := by rw [upd_ne nwq]; exact hw
      have hq1 : (upd H' qu (.lst ts'.reverse)) qu = some (.lst ts'.reverse) := upd_same
      have h1' := h1.keep k1
      have h2' := TaskAt.keep k1 ts' b h2
      have e1 : Ex H (upd H' qu (.lst ts'.reverse)) := eH.mut nqH
      clear k1 h1 h2 hq hw
      generalize upd H' qu (.lst ts'.reverse) = H1 at hw1 hq1 h1' h2' e1 ⊢
      have sz9 : ∀ n : Nat, n ≤ 20001 → n < sizeLine := fun n h => sz_lt (by omega)
      rcases h1' with ⟨c, rfl, rfl⟩ | ⟨t, x, rfl, ht, rfl⟩ | ⟨t, v', c0, i, c, ws, rfl, ht, hv, hFi, rfl⟩
      · refine ⟨_, rfl, _, _, _, _, true, rfl, .ty _, .base (.str c), kit_ty (by decide +kernel), _, rfl, iteT ⟨_, rfl, .inl ⟨rfl, _, sq_of hw1⟩, _, rfl, wd, _, _, rfl, rfl, hw1, by rw [List.length_map]; exact sz9 _ (by omega), ?_⟩⟩
        refine ⟨b.length, by rw [hm, e]; simp, dn ++ [c], b, ts', ⟨_, rfl⟩, by rw [upd_same, lS_add], by rw [upd_ne nwq.symm]; exact hq1, TaskAt.keep (keep_upd hw1) ts' b h2', by rw [← hdt, e]; simp, rfl, e1.mut nw⟩
      · refine ⟨_, rfl, _, _, _, _, false, rfl, .ty _, .base (.tup ht), kit_ty (by decide +kernel), _, rfl, iteF ⟨_, rfl, t, _, rfl, .inr (st_of ht), rfl, _, rfl, ite2 (fun _ => ?_) (fun hn => absurd (decide_eq_true rfl) hn)⟩⟩
        refine ⟨_, rfl, .inl ⟨rfl, _, sq_of hw1⟩, _, rfl, t, _, 0, .str x, rfl, rfl, st_of ht, rfl, wd, _, _, rfl, rfl, hw1, by rw [List.length_map]; exact sz9 _ (by omega), ?_⟩
        refine ⟨b.length, by rw [hm, e]; simp, dn ++ [x], b, ts', ⟨_, rfl⟩, by rw [upd_same, lS_add], by rw [upd_ne nwq.symm]; exact hq1, TaskAt.keep (keep_upd hw1) ts' b h2', by rw [← hdt, e]; simp, rfl, e1.mut nw⟩
      · refine ⟨_, rfl, _, _, _, _, false, rfl, .ty _, .base (.tup ht), kit_ty (by decide +kernel), _, rfl, iteF ⟨_, rfl, t, _, rfl, .inr (st_of ht), rfl, _, rfl, ite2 (fun hp => absurd (of_decide_eq_true hp) (fun z => by injection z with z; exact absurd z (show ¬ ((3 : Nat) : Int) = 1 by decide))) (fun _ => ?_)⟩⟩
        refine ⟨_, rfl, .inl ⟨rfl, _, sq_of hw1⟩, _, rfl, t, _, 0, .str c0, rfl, rfl, st_of ht, rfl, wd, _, _, rfl, rfl, hw1, by rw [List.length_map]; exact sz9 _ (by omega), ?_⟩
        have k2 : ∀ b xs, H1 b = some (.tup xs) → (upd H1 wd (.lst (dn.map V.str ++ [.str c0]))) b = some (.tup xs) := keep_upd hw1
        have hw2 : (upd H1 wd (.lst (dn.map V.str ++ [.str c0]))) wd = some (lS (dn ++ [c0])) := by rw [upd_same, lS_add]
        have hq2 : (upd H1 wd (.lst (dn.map V.str ++ [.str c0]))) qu = some (.lst ts'.reverse) := by rw [upd_ne nwq.symm]; exact hq1
        have e2 : Ex H (upd H1 wd (.lst (dn.map V.str ++ [.str c0]))) := e1.mut nw
        have ht2 := k2 _ _ ht
        have hv2 := k2 _ _ hv
        have hF2 := FoAt.keep k2 i ws hFi
        have hT2 := TaskAt.keep k2 ts' b h2'
        generalize upd H1 wd (.lst (dn.map V.str ++ [.str c0])) = H2 at hw2 hq2 e2 ht2 hv2 hF2 hT2 ⊢
        have wl := FoAt.len i ws hF2
        have il : i.wr.length + 2 + b.length = td.length := by
          have := bl
          rw [List.length_cons, List.length_append, List.length_singleton] at this
          omega
        refine ⟨_, rfl, .inl ⟨rfl, _, sq_of hq2⟩, _, rfl, t, _, 2, .str c, rfl, rfl, st_of ht2, rfl, qu, _, _, rfl, rfl, hq2, by rw [List.length_reverse]; exact sz9 _ (by omega), ?_⟩
        have k3 : ∀ b xs, H2 b = some (.tup xs) → (upd H2 qu (.lst (ts'.reverse ++ [.str c]))) b = some (.tup xs) := keep_upd hq2
        have hw3 : (upd H2 qu (.lst (ts'.reverse ++ [.str c]))) wd = some (lS (dn ++ [c0])) := by rw [upd_ne nwq]; exact hw2
        have hq3 : (upd H2 qu (.lst (ts'.reverse ++ [.str c]))) qu = some (.lst (ts'.reverse ++ [.str c])) := upd_same
        have e3 : Ex H (upd H2 qu (.lst (ts'.reverse ++ [.str c]))) := e2.mut nqH
        have ht3 := k3 _ _ ht2
        have hv3 := k3 _ _ hv2
        have hF3 := FoAt.keep k3 i ws hF2
        have hT3 := TaskAt.keep k3 ts' b hT2
        generalize upd H2 qu (.lst (ts'.reverse ++ [.str c])) = H3 at hw3 hq3 e3 ht3 hv3 hF3 hT3 ⊢
        refine ⟨_, rfl, .inl ⟨rfl, _, sq_of hq3⟩, _, rfl, t, _, 1, .ref v', rfl, rfl, st_of ht3, rfl, v', ws, rfl, st_of hv3, fun r2 nr2 => ?_⟩
        have x4 : Ex H3 (upd H3 r2 (.tup ws.reverse)) := Ex.new nr2
        have hq4 := x4 _ _ hq3
        refine ⟨qu, r2, _, _, rfl, rfl, hq4, upd_same, ?_, ?_⟩
        · rw [List.length_append, List.length_reverse, List.length_singleton, List.length_reverse]
          exact sz_of (by omega)
        have k5 : ∀ b xs, (upd H3 r2 (.tup ws.reverse)) b = some (.tup xs) → (upd (upd H3 r2 (.tup ws.reverse)) qu (.lst (ts'.reverse ++ [.str c] ++ ws.reverse))) b = some (.tup xs) := keep_upd hq4
        have hT5 : TaskAt (upd (upd H3 r2 (.tup ws.reverse)) qu (.lst (ts'.reverse ++ [.str c] ++ ws.reverse))) (ws ++ (.str c :: ts')) (i.wr ++ ([c] ++ b)) := TaskAt.fo i ws _ _ (FoAt.keep k5 i ws (FoAt.ex x4 hF3)) ⟨[c], b, rfl, .inl ⟨c, rfl, rfl⟩, TaskAt.keep (fun b xs z => k5 b xs (x4 _ _ z)) ts' b hT3⟩
        refine ⟨(i.wr ++ ([c] ++ b)).length, by rw [hm, List.length_append, List.length_append, List.length_singleton]; omega, dn ++ [c0], i.wr ++ ([c] ++ b), ws ++ (.str c :: ts'), ⟨_, rfl⟩, by rw [upd_ne nwq]; exact x4 _ _ hw3, ?_, hT5, ?_, rfl, (e3.trans x4).mut nqH⟩
        · rw [upd_same]
          simp
        · rw [← hdt, e]
          simp
end
end Eh
set_option Elab.async false
set_option linter.all false
set_option maxRecDepth 100000
set_option maxHeartbeats 4000000
namespace Eh
open PySem PySem.Spec PyProof.Rows L2 Evl
/-! boughs one by one -/
inductive It
  | p (x : Str)
  | q (a : Str) (i : Fo) (c : Str)
namespace It
def wr : It → List Str
  | p x => [x]
  | q a i c => a :: (i.wr ++ [c])
def size (t : It) : Nat := t.wr.length
def dp : It → Option Nat
  | p _ => none
  | q _ i _ => some (1 + i.deep)
def At (H : Hp) (v : V) : It → Prop
  | p x => ∃ t, v = .ref t ∧ H t = some (.tup [.str x])
  | q a i c => ∃ t u ws, v = .ref t ∧ H t = some (.tup [.str a, .ref u, .str c]) ∧ H u = some (.tup ws) ∧ FoAt H i ws
def Le (n m : Nat) : It → Prop
  | p _ => True
  | q _ i _ => i.deep + 1 ≤ n ∧ i.wr.length + 2 ≤ m
def St (t : Nat → Option Nat) (at_ : Nat) : It → Prop
  | p _ => t at_ = none
  | q _ i _ => t at_ = some (at_ + 1 + i.wr.length) ∧ t (at_ + 1 + i.wr.length) = some at_ ∧ i.St t (at_ + 1)
end It
namespace Fo
def its : Fo → List It
  | nil => []
  | pl x r => .p x :: its r
  | pr a i c r => .q a i c :: its r
theorem its_wr : ∀ f : Fo, (f.its.map It.wr).flatten = f.wr
  | nil => rfl
  | pl x r => by
    show [x] ++ (r.its.map It.wr).flatten = x :: r.wr
    rw [its_wr r]
    rfl
  | pr a i c r => by
    show (a :: (i.wr ++ [c])) ++ (r.its.map It.wr).flatten = a :: (i.wr ++ c :: r.wr)
    rw [its_wr r]
    simp
theorem its_size (f : Fo) : (f.its.map It.size).sum = f.wr.length := by
  rw [← its_wr f, List.length_flatten, List.map_map]
  rfl
theorem its_le : ∀ (f : Fo) (t : It), t ∈ f.its → t.Le f.deep f.wr.length
  | nil, t, h => (List.not_mem_nil h).elim
  | pl x r, t, h => by
    rcases List.mem_cons.mp h with e | e
    · rw [e]
      trivial
    · have := its_le r t e
      cases t with
      | p _ => trivial
      | q a i c => exact ⟨this.1, Nat.le_trans this.2 (Nat.le_succ _)⟩
  | pr a i c r, t, h => by
    have hl : (pr a i c r).wr.length = i.wr.length + 1 + r.wr.length + 1 := by
      show (a :: (i.wr ++ c :: r.wr)).length = _
      rw [List.length_cons, List.length_append, List.length_cons]
      omega
    have hd : (pr a i c r).deep = max (1 + i.deep) r.deep := rfl
    rcases List.mem_cons.mp h with e | e
    · rw [e]
      exact ⟨by omega, by omega⟩
    · have := its_le r t e
      cases t with
      | p _ => trivial
      | q a' i' c' =>
        obtain ⟨h1, h2⟩ := this
        exact ⟨by omega, by omega⟩
theorem its_deep : ∀ f : Fo, (f.its.filterMap It.dp).foldr max 0 = f.deep
  | nil => rfl
  | pl x r => its_deep r
  | pr a i c r => by
    show max (1 + i.deep) ((r.its.filterMap It.dp).foldr max 0) = max (1 + i.deep) r.deep
    rw [its_deep r]
/-- where the k-th begins -/
def pos (f : Fo) (k : Nat) : Nat := ((f.its.take k).map It.size).sum
theorem pos_succ {f : Fo} {k : Nat} {t : It} (h : f.its[k]? = some t) : f.pos (k + 1) = f.pos k + t.size := by
  unfold pos
  rw [List.take_add_one, h, List.map_append, List.sum_append]
  rfl
theorem pos_all (f : Fo) : f.pos f.its.length = f.wr.length := by
  unfold pos
  rw [List.take_length, its_size]
theorem st_at {t : Nat → Option Nat} : ∀ (f : Fo) (p k : Nat) (it : It), f.St t p → f.its[k]? = some it → it.St t (p + f.pos k)
  | nil, p, k, it, _, h => by simp [its] at h
  | pl x r, p, 0, it, ⟨h1, h2⟩, h => by
    have e : It.p x = it := Option.some.inj h
    rw [← e]
    exact h1
  | pl x r, p, k + 1, it, ⟨h1, h2⟩, h => by
    have := st_at r (p + 1) k it h2 h
    rw [show p + (pl x r).pos (k + 1) = p + 1 + r.pos k by
      show p + (1 + r.pos k) = _
      omega]
    exact this
  | pr a i c r, p, 0, it, ⟨h1, h2, h3, h4⟩, h => by
    have e : It.q a i c = it := Option.some.inj h
    rw [← e]
    exact ⟨h1, h2, h3⟩
  | pr a i c r, p, k + 1, it, ⟨h1, h2, h3, h4⟩, h => by
    have := st_at r _ k it h4 h
    rw [show p + (pr a i c r).pos (k + 1) = p + 1 + i.wr.length + 1 + r.pos k by
      show p + ((a :: (i.wr ++ [c])).length + r.pos k) = _
      rw [List.length_cons, List.length_append, List.length_singleton]
      omega]
    exact this
theorem wr_at : ∀ (f : Fo) (k : Nat) (it : It), f.its[k]? = some it → ∀ j x, it.wr[j]? = some x → f.wr[f.pos k + j]? = some x
  | nil, k, it, h => by simp [its] at h
  | pl y r, 0, it, h => by
    have e : It.p y = it := Option.some.inj h
    rw [← e]
    intro j x hx
    cases j with
    | zero => exact hx
    | succ j => simp [It.wr] at hx
  | pl y r, k + 1, it, h => by
    intro j x hx
    rw [show (pl y r).pos (k + 1) + j = (r.pos k + j) + 1 by
      show (1 + r.pos k) + j = _
      omega]
    exact wr_at r k it h j x hx
  | pr a i c r, 0, it, h => by
    have e : It.q a i c = it := Option.some.inj h
    rw [← e]
    intro j x hx
    show (a :: (i.wr ++ c :: r.wr))[0 + j]? = some x
    have hw : a :: (i.wr ++ c :: r.wr) = (a :: (i.wr ++ [c])) ++ r.wr := by simp
    have hx : (a :: (i.wr ++ [c]))[j]? = some x := hx
    rw [hw, Nat.zero_add, List.getElem?_append_left (List.getElem?_eq_some_iff.mp hx).1]
    exact hx
  | pr a i c r, k + 1, it, h => by
    intro j x hx
    have hw : (pr a i c r).wr = (a :: (i.wr ++ [c])) ++ r.wr := by
      show a :: (i.wr ++ c :: r.wr) = _
      simp
    rw [hw, show (pr a i c r).pos (k + 1) + j = (a :: (i.wr ++ [c])).length + (r.pos k + j) by
      show ((a :: (i.wr ++ [c])).length + r.pos k) + j = _
      omega, List.getElem?_append_right (by omega), show (a :: (i.wr ++ [c])).length + (r.pos k + j) - (a :: (i.wr ++ [c])).length = r.pos k + j by omega]
    exact wr_at r k it h j x hx
end Fo
theorem FoAt.its {H : Hp} : ∀ (f : Fo) (us : List V), FoAt H f us → us.length = f.its.length ∧ ∀ (k : Nat) (v : V), us[k]? = some v → ∃ it : It, f.its[k]? = some it ∧ it.At H v
  | .nil, us, h => by
    rw [show us = [] from h]
    exact ⟨rfl, fun k v e => by simp at e⟩
  | .pl x r, us, ⟨t, vs, e, h1, h2⟩ => by
    obtain ⟨l, g⟩ := FoAt.its r vs h2
    rw [e]
    refine ⟨by show vs.length + 1 = r.its.length + 1; rw [l], fun k v hv => ?_⟩
    cases k with
    | zero => exact ⟨.p x, rfl, t, (Option.some.inj hv).symm, h1⟩
    | succ k => exact g k v hv
  | .pr a i c r, us, ⟨t, u, ws, vs, e, h1, h2, h3, h4⟩ => by
    obtain ⟨l, g⟩ := FoAt.its r vs h4
    rw [e]
    refine ⟨by show vs.length + 1 = r.its.length + 1; rw [l], fun k v hv => ?_⟩
    cases k with
    | zero => exact ⟨.q a i c, rfl, t, u, ws, (Option.some.inj hv).symm, h1, h2, h3⟩
    | succ k => exact g k v hv
theorem It.At.keep {H H' : Hp} (k : ∀ b xs, H b = some (.tup xs) → H' b = some (.tup xs)) {v : V} {it : It} (h : it.At H v) : it.At H' v := by
  cases it with
  | p x =>
    obtain ⟨t, e, h1⟩ := h
    exact ⟨t, e, k _ _ h1⟩
  | q a i c =>
    obtain ⟨t, u, ws, e, h1, h2, h3⟩ := h
    exact ⟨t, u, ws, e, k _ _ h1, k _ _ h2, FoAt.keep k i ws h3⟩
theorem pe_never {X : Cx} {e : Expr} : PE X e (fun _ _ _ => False) := ⟨fun _ _ _ _ _ _ h => h.elim⟩
end Eh
set_option Elab.async false
set_option linter.all false
set_option maxRecDepth 100000
set_option maxHeartbeats 4000000
namespace Eh
open PySem PySem.Spec PyProof.Rows L2 Evl RZ
abbrev nSame : List Str := ["found", "due", "one", "other"]
theorem scSame : FnScope nSame ["found", "due"] (defScope sSame) := ⟨rfl, rfl, rfl, by decide +kernel, rfl, by decide +kernel, by decide +kernel⟩
/-- alike to so many levels -/
def Eqn : Nat → Hp → V → V → Prop
  | 0, _, x, y => ∃ z, x = .str z ∧ y = .str z
  | n + 1, H, x, y => (∃ z, x = .str z ∧ y = .str z) ∨ ∃ a b xs ys, x = .ref a ∧ y = .ref b ∧ H a = some (.tup xs) ∧ H b = some (.tup ys) ∧ xs.length = ys.length ∧ xs.length ≤ 10000 ∧ ∀ (i : Nat) v w, xs[i]? = some v → ys[i]? = some w → Eqn n H v w
theorem Eqn.ex {H H' : Hp} (e : Ex H H') : ∀ (n : Nat) (x y : V), Eqn n H x y → Eqn n H' x y
  | 0, x, y, h => h
  | n + 1, x, y, h => by
    rcases h with h | ⟨a, b, xs, ys, e1, e2, h1, h2, h3, h4, h5⟩
    · exact .inl h
    · exact .inr ⟨a, b, xs, ys, e1, e2, e _ _ h1, e _ _ h2, h3, h4, fun i v w hv hw => Eqn.ex e n v w (h5 i v w hv hw)⟩
theorem Eqn.up {H : Hp} : ∀ (n : Nat) (x y : V), Eqn n H x y → Eqn (n + 1) H x y
  | 0, x, y, h => .inl h
  | n + 1, x, y, h => by
    rcases h with h | ⟨a, b, xs, ys, e1, e2, h1, h2, h3, h4, h5⟩
    · exact .inl h
    · exact .inr ⟨a, b, xs, ys, e1, e2, h1, h2, h3, h4, fun i v w hv hw => Eqn.up n v w (h5 i v w hv hw)⟩
theorem Eqn.le {H : Hp} {n m : Nat} (h : n ≤ m) {x y : V} (e : Eqn n H x y) : Eqn m H x y := by
  induction h with
  | refl => exact e
  | step _ ih => exact Eqn.up _ _ _ ih
theorem FoAt.eqn {H : Hp} : ∀ (f : Fo) (us vs : List V), f.wr.length ≤ 10000 → FoAt H f us → FoAt H f vs → us.length = vs.length ∧ ∀ (i : Nat) v w, us[i]? = some v → vs[i]? = some w → Eqn (2 * f.deep + 1) H v w
  | .nil, us, vs, _, h, h' => by
    rw [show us = [] from h, show vs = [] from h']
    exact ⟨rfl, fun i v w e => by simp at e⟩
  | .pl x r, us, vs, hl, ⟨t, us', e, h1, h2⟩, ⟨t', vs', e', h1', h2'⟩ => by
    have hl : r.wr.length + 1 ≤ 10000 := hl
    obtain ⟨l, g⟩ := FoAt.eqn r us' vs' (by omega) h2 h2'
    rw [e, e']
    refine ⟨congrArg Nat.succ l, fun i v w hv hw => ?_⟩
    cases i with
    | zero =>
      have ev : V.ref t = v := Option.some.inj hv
      have ew : V.ref t' = w := Option.some.inj hw
      rw [← ev, ← ew]
      refine .inr ⟨t, t', _, _, rfl, rfl, h1, h1', rfl, by show 1 ≤ 10000; decide, fun j v w a b => ?_⟩
      cases j with
      | zero =>
        rw [← Option.some.inj a, ← Option.some.inj b]
        exact Eqn.le (Nat.zero_le _) (show Eqn 0 H (.str x) (.str x) from ⟨x, rfl, rfl⟩)
      | succ j => simp at a
    | succ i => exact g i v w hv hw
  | .pr a i c r, us, vs, hl, ⟨t, u, ws, us', e, h1, h2, h3, h4⟩, ⟨t', u', ws', vs', e', h1', h2', h3', h4'⟩ => by
    have hl2 : i.wr.length + 1 + r.wr.length + 1 ≤ 10000 := by
      have : (a :: (i.wr ++ c :: r.wr)).length ≤ 10000 := hl
      rw [List.length_cons, List.length_append, List.length_cons] at this
      omega
    obtain ⟨l, g⟩ := FoAt.eqn r us' vs' (by omega) h4 h4'
    obtain ⟨li, gi⟩ := FoAt.eqn i ws ws' (by omega) h3 h3'
    have hd : (Fo.pr a i c r).deep = max (1 + i.deep) r.deep := rfl
    have wl := FoAt.len i ws h3
    rw [e, e']
    refine ⟨congrArg Nat.succ l, fun k v w hv hw => ?_⟩
    cases k with
    | zero =>
      have ev : V.ref t = v := Option.some.inj hv
      have ew : V.ref t' = w := Option.some.inj hw
      rw [← ev, ← ew]
      refine Eqn.le (n := 2 * i.deep + 3) (by omega) (.inr ⟨t, t', _, _, rfl, rfl, h1, h1', rfl, by show 3 ≤ 10000; decide, fun j v w p q => ?_⟩)
      rcases (show j = 0 ∨ j = 1 ∨ j = 2 ∨ 3 ≤ j by omega) with rfl | rfl | rfl | hj
      · rw [← Option.some.inj p, ← Option.some.inj q]
        exact .inl ⟨a, rfl, rfl⟩
      · rw [← Option.some.inj p, ← Option.some.inj q]
        exact .inr ⟨u, u', ws, ws', rfl, rfl, h2, h2', li, by omega, gi⟩
      · rw [← Option.some.inj p, ← Option.some.inj q]
        exact .inl ⟨c, rfl, rfl⟩
      · rw [List.getElem?_eq_none (by show 3 ≤ j; exact hj)] at p
        cases p
    | succ k => exact Eqn.le (by omega) (g k v w hv hw)
structure SameK (mg : Str → Option Value) : Prop where
  isi : mg "isinstance" = none
  bool : mg "bool" = none
  str : mg "str" = none
  int : mg "int" = none
  tuple : mg "tuple" = none
  list : mg "list" = none
  len : mg "len" = none
  all : mg "all" = none
  zip : mg "zip" = none
theorem lc_zipT {K : PySem.W.Frag} {a b : Addr} {xs ys : List V} {tt : TT} {te : TE} {σ : L2.St} {H1 : Hp} {Dd : Addr} {Qd : Hp → Prop} {i1 i2 : Nat} {vs : List Nat} (hl : xs.length = ys.length) (Pv : Nat → Hp → Prop) (h0 : Pv 0 (upd H1 Dd (.lst []))) (hq : ∀ i H, i ≤ xs.length → Pv i H → SqT K H a xs ∧ SqT K H b ys)
    (hs : ∀ i x y H T, xs[i]? = some x → ys[i]? = some y → Pv i H → H T = none → wipe (((wipe σ vs).set i1 (some x)).set i2 (some y)) vs = wipe σ vs ∧ tt (((wipe σ vs).set i1 (some x)).set i2 (some y)) (upd H T (.tup [x, y])) fun b H3 => if b = true then te (((wipe σ vs).set i1 (some x)).set i2 (some y)) H3 fun z H4 => ∃ acc, H4 Dd = some (.lst acc) ∧ acc.length < sizeLine ∧ Pv (i + 1) (upd H4 Dd (.lst (acc ++ [z]))) else Pv (i + 1) H3)
    (hd : ∀ H, Pv xs.length H → Qd H) :
    ∃ W : Nat → Nat → Hp → Prop, (∃ m, W 0 m (upd H1 Dd (.lst []))) ∧ ∀ i m H, W i m H → ((ItzT K a b).stop i H ∧ Qd H) ∨ ((ItzT K a b).go i H ∧ ∃ Nx : Hp → Prop, (∀ H', Nx H' → ∃ m', m' < m ∧ W (i + 1) m' H') ∧ ∀ x H', (ItzT K a b).yld i H x H' → gTup K 2 (gCons (gName i1) (gCons (gName i2) gNil)) x (wipe σ vs) H' fun σ2 H2 => wipe σ2 vs = wipe σ vs ∧ tt σ2 H2 fun b H3 => if b = true then te σ2 H3 fun z H4 => ∃ acc, H4 Dd = some (.lst acc) ∧ acc.length < sizeLine ∧ Nx (upd H4 Dd (.lst (acc ++ [z]))) else Nx H3) := by
  refine ⟨fun i m H => m = xs.length - i ∧ i ≤ xs.length ∧ Pv i H, ⟨xs.length, by omega, Nat.zero_le _, h0⟩, ?_⟩
  rintro i m H ⟨rfl, hi, pp⟩
  obtain ⟨q1, q2⟩ := hq i H hi pp
  by_cases hlt : i < xs.length
  · have g1 : xs[i]? = some xs[i] := List.getElem?_eq_getElem hlt
    have g2 : ys[i]? = some ys[i] := List.getElem?_eq_getElem (by omega)
    refine .inr ⟨⟨xs, ys, _, _, q1, q2, g1, g2⟩, Pv (i + 1), fun H' p' => ⟨xs.length - (i + 1), by omega, rfl, hlt, p'⟩, fun v H' y => ?_⟩
    obtain ⟨T, x, y, rfl, nT, rfl, f1, f2⟩ := y
    exact ⟨T, [x, y], rfl, st_of upd_same, rfl, _, _, rfl, _, _, rfl, rfl, hs i x y H T (f1 xs q1) (f2 ys q2) pp nT⟩
  · have e : i = xs.length := by omega
    subst e
    exact .inl ⟨⟨xs, ys, q1, q2, .inl (Nat.le_refl _)⟩, hd H pp⟩
section
variable {P : Program} {w : World} {K : PySem.W.Frag} {mg : Str → Option Value} {base : Heap}
def spSame (n : Nat) : Sp := fun vs H Q _ => ∃ x y, vs = [x, y] ∧ Eqn n H x y ∧ ∀ H', Ex H H' → Q (.bl true) H'
theorem ok_same {f : Addr} {fd : FuncData} (F : Fun K "_law_same" "_law_same" sSame f fd) (T : SameK mg) (bS : Binds K fd ["found", "due"] []) (gS : mg "_law_same" = some (.ref f)) : ∀ (n k : Nat), FnOk P w K mg base CX0 (k + 1 + n) f fd ["found", "due"] (spSame n)
  | 0, k => by
    have nd := scSame.nd
    refine F.ok scSame (fun vs H Q E h => ?_) (fun cdv A outer s H vs Q E hr h => ?_)
    · obtain ⟨x, y, rfl, _⟩ := h
      rfl
    · obtain ⟨x, y, rfl, ⟨z, rfl, rfl⟩, q⟩ := h
      refine ⟨_, pss_cons (ps_if (PW.pt (pw_or (pt_cmpR op_isN (pv 1) pe_non (nomark _)) (pw_or1 (pt_val (pe_callB call_isi (by rfl) T.isi (by decide +kernel) (pa_cons (pv 1) (pa_cons (pe_bltn (v := .ty "bool") (by rfl) T.bool (by decide +kernel) rfl) pa_nil))))))) (pss_one (ps_never)) pss_nil) (pss_cons (ps_if (pt_val (pe_callB call_isi (by rfl) T.isi (by decide +kernel) (pa_cons (pv 1) (pa_cons (pe_bltn (v := .ty "str") (by rfl) T.str (by decide +kernel) rfl) pa_nil)))) (pss_one (ps_ret (pe_and (pe_callB call_isi (by rfl) T.isi (by decide +kernel) (pa_cons (pv 0) (pa_cons (pe_bltn (v := .ty "str") (by rfl) T.str (by decide +kernel) rfl) pa_nil))) (pe_one (pe_cmpR op_eq (pv 0) (pv 1) (nomark _)))))) pss_nil) pss_never), ?_⟩
      refine ⟨_, rfl, rfl, _, rfl, iteF ⟨_, rfl, _, _, _, _, false, rfl, .ty _, .base (.str z), kit_ty (by decide +kernel), _, rfl, iteF ?_⟩⟩
      refine ⟨_, rfl, _, _, _, _, true, rfl, .ty _, .base (.str z), kit_ty (by decide +kernel), _, rfl, iteT ⟨_, rfl, _, _, _, _, true, rfl, .ty _, .base (.str z), kit_ty (by decide +kernel), _, rfl, iteT ⟨_, rfl, _, rfl, rfl, ?_⟩⟩⟩
      rw [decide_eq_true rfl]
      exact q _ (Ex.refl _)
  | n + 1, k => by
    have nd := scSame.nd
    have G0 : FnOk P w K mg base CX0 (k + 1 + n) f fd ["found", "due"] (spSame n) := ok_same F T bS gS n k
    refine F.ok scSame (fun vs H Q E h => ?_) (fun cdv A outer s H vs Q E hr h => ?_)
    · obtain ⟨x, y, rfl, _⟩ := h
      rfl
    · obtain ⟨x, y, rfl, hE, q⟩ := h
      refine ⟨_, pss_cons (ps_if (PW.pt (pw_or (pt_cmpR op_isN (pv 1) pe_non (nomark _)) (pw_or1 (pt_val (pe_callB call_isi (by rfl) T.isi (by decide +kernel) (pa_cons (pv 1) (pa_cons (pe_bltn (v := .ty "bool") (by rfl) T.bool (by decide +kernel) rfl) pa_nil))))))) (pss_one (ps_never)) pss_nil) (pss_cons (ps_if (pt_val (pe_callB call_isi (by rfl) T.isi (by decide +kernel) (pa_cons (pv 1) (pa_cons (pe_bltn (v := .ty "str") (by rfl) T.str (by decide +kernel) rfl) pa_nil)))) (pss_one (ps_ret (pe_and (pe_callB call_isi (by rfl) T.isi (by decide +kernel) (pa_cons (pv 0) (pa_cons (pe_bltn (v := .ty "str") (by rfl) T.str (by decide +kernel) rfl) pa_nil))) (pe_one (pe_cmpR op_eq (pv 0) (pv 1) (nomark _)))))) pss_nil) (pss_cons (ps_if (pt_val (pe_callB call_isi (by rfl) T.isi (by decide +kernel) (pa_cons (pv 1) (pa_cons (pe_bltn (v := .ty "int") (by rfl) T.int (by decide +kernel) rfl) pa_nil)))) (pss_one (ps_never)) pss_nil) (pss_cons (ps_if (PW.pt (pw_or (pt_cmpR op_ne (pe_callB call_isi (by rfl) T.isi (by decide +kernel) (pa_cons (pv 1) (pa_cons (pe_bltn (v := .ty "tuple") (by rfl) T.tuple (by decide +kernel) rfl) pa_nil))) (pe_callB call_isi (by rfl) T.isi (by decide +kernel) (pa_cons (pv 0) (pa_cons (pe_bltn (v := .ty "tuple") (by rfl) T.tuple (by decide +kernel) rfl) pa_nil))) (nomark _)) (pw_or1 (pt_cmpR op_ne (pe_callB call_isi (by rfl) T.isi (by decide +kernel) (pa_cons (pv 1) (pa_cons (pe_bltn (v := .ty "list") (by rfl) T.list (by decide +kernel) rfl) pa_nil))) (pe_callB call_isi (by rfl) T.isi (by decide +kernel) (pa_cons (pv 0) (pa_cons (pe_bltn (v := .ty "list") (by rfl) T.list (by decide +kernel) rfl) pa_nil))) (nomark _))))) (pss_one (ps_never)) pss_nil) (pss_one (ps_ret (pe_and (pe_cmpR op_eq (pe_callB call_len_seq (by rfl) T.len PySem.boot_len (pa_cons (pv 0) pa_nil)) (pe_callB call_len_seq (by rfl) T.len PySem.boot_len (pa_cons (pv 1) pa_nil)) (nomark _)) (pe_one (pe_callB (cr_all rfl) (by rfl) T.all (by decide +kernel) (pa_cons (pe_lc (own := [("one", 2), ("other", 3)]) (g := gTup K 2 (gCons (gName 2) (gCons (gName 3) gNil))) (tt := tYes) (te := tCall (spSame n) [] E0 (tCons (tVar 2) (tCons (tVar 3) tNil))) rfl nd (pi_zipA (by rfl) T.zip (pa_cons (pv 0) (pa_cons (pv 1) pa_nil))) (blkOk_by (own := [("one", 2), ("other", 3)]) (N := nSame) (sc := defScope sSame) (by decide +kernel)) (fun _ _ _ _ _ => pg_tup rfl (pgs_cons (pg_name (i := 2) nd rfl (.inl rfl)) (pgs_cons (pg_name (i := 3) nd rfl (.inl rfl)) pgs_nil))) (fun _ _ _ _ _ => pts_nil) (fun _ _ _ _ _ => pe_call G0 hr (by rfl) gS F.kp bS .nil pass0 (pa_cons (pv 2) (pa_cons (pv 3) pa_nil)))) pa_nil))))))))), ?_⟩
      rcases hE with ⟨z, rfl, rfl⟩ | ⟨a, b, xs, ys, rfl, rfl, ha, hb, hl, hlen, hall⟩
      · refine ⟨_, rfl, rfl, _, rfl, iteF ⟨_, rfl, _, _, _, _, false, rfl, .ty _, .base (.str z), kit_ty (by decide +kernel), _, rfl, iteF ?_⟩⟩
        refine ⟨_, rfl, _, _, _, _, true, rfl, .ty _, .base (.str z), kit_ty (by decide +kernel), _, rfl, iteT ⟨_, rfl, _, _, _, _, true, rfl, .ty _, .base (.str z), kit_ty (by decide +kernel), _, rfl, iteT ⟨_, rfl, _, rfl, rfl, ?_⟩⟩⟩
        rw [decide_eq_true rfl]
        exact q _ (Ex.refl _)
      · refine ⟨_, rfl, rfl, _, rfl, iteF ⟨_, rfl, _, _, _, _, false, rfl, .ty _, .base (.tup hb), kit_ty (by decide +kernel), _, rfl, iteF ?_⟩⟩
        refine ⟨_, rfl, _, _, _, _, false, rfl, .ty _, .base (.tup hb), kit_ty (by decide +kernel), _, rfl, iteF ?_⟩
        refine ⟨_, rfl, _, _, _, _, false, rfl, .ty _, .base (.tup hb), kit_ty (by decide +kernel), _, rfl, iteF ?_⟩
        refine ⟨_, rfl, _, _, _, _, true, rfl, .ty _, .base (.tup hb), kit_ty (by decide +kernel), _, rfl, _, _, _, _, true, rfl, .ty _, .base (.tup ha), kit_ty (by decide +kernel), rfl, _, rfl, iteF ?_⟩
        refine ⟨_, rfl, _, _, _, _, false, rfl, .ty _, .base (.tup hb), kit_ty (by decide +kernel), _, rfl, _, _, _, _, false, rfl, .ty _, .base (.tup ha), kit_ty (by decide +kernel), rfl, _, rfl, iteF ?_⟩
        refine ⟨_, rfl, a, _, rfl, .inr (st_of ha), _, rfl, b, _, rfl, .inr (st_of hb), rfl, _, rfl, ?_⟩
        rw [hl, decide_eq_true rfl]
        refine iteT ⟨_, rfl, _, rfl, a, b, xs, ys, rfl, .inr ⟨st_of ha, st_of hb, fun D nD => ?_⟩⟩
        have xD := Ex.new (o := .lst []) nD
        refine lc_zipT (xs := xs) (ys := ys) hl (fun i H' => Ex H H' ∧ H' D = some (.lst ((List.replicate i true).map V.bl))) ⟨xD, upd_same⟩ (fun i H' _ hh => ⟨st_of (hh.1 _ _ ha), st_of (hh.1 _ _ hb)⟩) ?_ ?_
        · rintro i x y H' Tp hx hy ⟨eH, hD⟩ nT
          have hi := (List.getElem?_eq_some_iff.mp hx).1
          have eT : Ex H' (upd H' Tp (.tup [x, y])) := Ex.new nT
          refine ⟨rfl, yesT ⟨_, rfl, _, rfl, x, y, rfl, Eqn.ex (eH.trans eT) n x y (hall i x y hx hy), fun H2 e2 => ⟨_, e2 _ _ (eT _ _ hD), ?_, ((eH.trans eT).trans e2).mut nD, ?_⟩⟩⟩
          · rw [List.length_map, List.length_replicate]
            exact sz_lt (by omega)
          · rw [upd_same, List.replicate_succ', List.map_append]
            rfl
        · rintro H' ⟨eH, hD⟩
          refine ⟨D, List.replicate xs.length true, rfl, sq_of hD, ?_⟩
          rw [show (List.replicate xs.length true).all id = true by
            rw [List.all_eq_true]
            intro z hz
            exact List.eq_of_mem_replicate hz]
          exact q H' eH
theorem str_at {W : List Str} {p : Nat} {x : Str} (h : W[p]? = some x) : atI (W.map V.str) (p : Int) = some (.str x) := by
  refine atI_nat ?_
  rw [List.getElem?_map, h]
  rfl
end
end Eh
set_option Elab.async false
set_option linter.all false
set_option maxRecDepth 100000
set_option maxHeartbeats 4000000
namespace Eh
open PySem PySem.Spec PyProof.Rows L2 Evl RZ
theorem lc_zip {K : PySem.W.Frag} {a b : Addr} {xs ys : List V} {tt : TT} {te : TE} {σ : L2.St} {H1 : Hp} {Dd : Addr} {Qd : Hp → Prop} {i1 i2 : Nat} {vs : List Nat} (hl : xs.length = ys.length) (Pv : Nat → Hp → Prop) (h0 : Pv 0 (upd H1 Dd (.lst []))) (hq : ∀ i H, i ≤ xs.length → Pv i H → SqL K H a xs ∧ SqL K H b ys)
    (hs : ∀ i x y H T, xs[i]? = some x → ys[i]? = some y → Pv i H → H T = none → wipe (((wipe σ vs).set i1 (some x)).set i2 (some y)) vs = wipe σ vs ∧ tt (((wipe σ vs).set i1 (some x)).set i2 (some y)) (upd H T (.tup [x, y])) fun b H3 => if b = true then te (((wipe σ vs).set i1 (some x)).set i2 (some y)) H3 fun z H4 => ∃ acc, H4 Dd = some (.lst acc) ∧ acc.length < sizeLine ∧ Pv (i + 1) (upd H4 Dd (.lst (acc ++ [z]))) else Pv (i + 1) H3)
    (hd : ∀ H, Pv xs.length H → Qd H) :
    ∃ W : Nat → Nat → Hp → Prop, (∃ m, W 0 m (upd H1 Dd (.lst []))) ∧ ∀ i m H, W i m H → ((Itz K a b).stop i H ∧ Qd H) ∨ ((Itz K a b).go i H ∧ ∃ Nx : Hp → Prop, (∀ H', Nx H' → ∃ m', m' < m ∧ W (i + 1) m' H') ∧ ∀ x H', (Itz K a b).yld i H x H' → gTup K 2 (gCons (gName i1) (gCons (gName i2) gNil)) x (wipe σ vs) H' fun σ2 H2 => wipe σ2 vs = wipe σ vs ∧ tt σ2 H2 fun b H3 => if b = true then te σ2 H3 fun z H4 => ∃ acc, H4 Dd = some (.lst acc) ∧ acc.length < sizeLine ∧ Nx (upd H4 Dd (.lst (acc ++ [z]))) else Nx H3) := by
  refine ⟨fun i m H => m = xs.length - i ∧ i ≤ xs.length ∧ Pv i H, ⟨xs.length, by omega, Nat.zero_le _, h0⟩, ?_⟩
  rintro i m H ⟨rfl, hi, pp⟩
  obtain ⟨q1, q2⟩ := hq i H hi pp
  by_cases hlt : i < xs.length
  · have g1 : xs[i]? = some xs[i] := List.getElem?_eq_getElem hlt
    have g2 : ys[i]? = some ys[i] := List.getElem?_eq_getElem (by omega)
    refine .inr ⟨⟨xs, ys, _, _, q1, q2, g1, g2⟩, Pv (i + 1), fun H' p' => ⟨xs.length - (i + 1), by omega, rfl, hlt, p'⟩, fun v H' y => ?_⟩
    obtain ⟨T, x, y, rfl, nT, rfl, f1, f2⟩ := y
    exact ⟨T, [x, y], rfl, st_of upd_same, rfl, _, _, rfl, _, _, rfl, rfl, hs i x y H T (f1 xs q1) (f2 ys q2) pp nT⟩
  · have e : i = xs.length := by omega
    subst e
    exact .inl ⟨⟨xs, ys, q1, q2, .inl (Nat.le_refl _)⟩, hd H pp⟩
section
variable {P : Program} {w : World} {K : PySem.W.Frag} {mg : Str → Option Value} {base : Heap}
def spSameL : Sp := fun vs H Q _ => ∃ (a b : Addr) (ws : List Str), vs = [.ref a, .ref b] ∧ H a = some (lS ws) ∧ H b = some (lS ws) ∧ ws.length ≤ 10000 ∧ ∀ H', Ex H H' → Q (.bl true) H'
theorem ok_sameL {f : Addr} {fd : FuncData} {k : Nat} (F : Fun K "_law_same" "_law_same" sSame f fd) (T : SameK mg) (bS : Binds K fd ["found", "due"] []) (gS : mg "_law_same" = some (.ref f)) : FnOk P w K mg base CX0 (k + 2) f fd ["found", "due"] spSameL := by
  have nd := scSame.nd
  have G0 : FnOk P w K mg base CX0 (k + 1 + 0) f fd ["found", "due"] (spSame 0) := ok_same F T bS gS 0 k
  refine F.ok scSame (fun vs H Q E h => ?_) (fun cdv A outer s H vs Q E hr h => ?_)
  · obtain ⟨a, b, ws, rfl, _⟩ := h
    rfl
  · obtain ⟨a, b, ws, rfl, ha, hb, hlen, q⟩ := h
    refine ⟨_, pss_cons (ps_if (PW.pt (pw_or (pt_cmpR op_isN (pv 1) pe_non (nomark _)) (pw_or1 (pt_val (pe_callB call_isi (by rfl) T.isi (by decide +kernel) (pa_cons (pv 1) (pa_cons (pe_bltn (v := .ty "bool") (by rfl) T.bool (by decide +kernel) rfl) pa_nil))))))) (pss_one (ps_never)) pss_nil) (pss_cons (ps_if (pt_val (pe_callB call_isi (by rfl) T.isi (by decide +kernel) (pa_cons (pv 1) (pa_cons (pe_bltn (v := .ty "str") (by rfl) T.str (by decide +kernel) rfl) pa_nil)))) (pss_one (ps_ret (pe_and (pe_callB call_isi (by rfl) T.isi (by decide +kernel) (pa_cons (pv 0) (pa_cons (pe_bltn (v := .ty "str") (by rfl) T.str (by decide +kernel) rfl) pa_nil))) (pe_one (pe_cmpR op_eq (pv 0) (pv 1) (nomark _)))))) pss_nil) (pss_cons (ps_if (pt_val (pe_callB call_isi (by rfl) T.isi (by decide +kernel) (pa_cons (pv 1) (pa_cons (pe_bltn (v := .ty "int") (by rfl) T.int (by decide +kernel) rfl) pa_nil)))) (pss_one (ps_never)) pss_nil) (pss_cons (ps_if (PW.pt (pw_or (pt_cmpR op_ne (pe_callB call_isi (by rfl) T.isi (by decide +kernel) (pa_cons (pv 1) (pa_cons (pe_bltn (v := .ty "tuple") (by rfl) T.tuple (by decide +kernel) rfl) pa_nil))) (pe_callB call_isi (by rfl) T.isi (by decide +kernel) (pa_cons (pv 0) (pa_cons (pe_bltn (v := .ty "tuple") (by rfl) T.tuple (by decide +kernel) rfl) pa_nil))) (nomark _)) (pw_or1 (pt_cmpR op_ne (pe_callB call_isi (by rfl) T.isi (by decide +kernel) (pa_cons (pv 1) (pa_cons (pe_bltn (v := .ty "list") (by rfl) T.list (by decide +kernel) rfl) pa_nil))) (pe_callB call_isi (by rfl) T.isi (by decide +kernel) (pa_cons (pv 0) (pa_cons (pe_bltn (v := .ty "list") (by rfl) T.list (by decide +kernel) rfl) pa_nil))) (nomark _))))) (pss_one (ps_never)) pss_nil) (pss_one (ps_ret (pe_and (pe_cmpR op_eq (pe_callB call_len_seq (by rfl) T.len PySem.boot_len (pa_cons (pv 0) pa_nil)) (pe_callB call_len_seq (by rfl) T.len PySem.boot_len (pa_cons (pv 1) pa_nil)) (nomark _)) (pe_one (pe_callB (cr_all rfl) (by rfl) T.all (by decide +kernel) (pa_cons (pe_lc (own := [("one", 2), ("other", 3)]) (g := gTup K 2 (gCons (gName 2) (gCons (gName 3) gNil))) (tt := tYes) (te := tCall (spSame 0) [] E0 (tCons (tVar 2) (tCons (tVar 3) tNil))) rfl nd (pi_zipA (by rfl) T.zip (pa_cons (pv 0) (pa_cons (pv 1) pa_nil))) (blkOk_by (own := [("one", 2), ("other", 3)]) (N := nSame) (sc := defScope sSame) (by decide +kernel)) (fun _ _ _ _ _ => pg_tup rfl (pgs_cons (pg_name (i := 2) nd rfl (.inl rfl)) (pgs_cons (pg_name (i := 3) nd rfl (.inl rfl)) pgs_nil))) (fun _ _ _ _ _ => pts_nil) (fun _ _ _ _ _ => pe_call G0 hr (by rfl) gS F.kp bS .nil pass0 (pa_cons (pv 2) (pa_cons (pv 3) pa_nil)))) pa_nil))))))))), ?_⟩
    refine ⟨_, rfl, rfl, _, rfl, iteF ⟨_, rfl, _, _, _, _, false, rfl, .ty _, .base (.lst hb), kit_ty (by decide +kernel), _, rfl, iteF ?_⟩⟩
    refine ⟨_, rfl, _, _, _, _, false, rfl, .ty _, .base (.lst hb), kit_ty (by decide +kernel), _, rfl, iteF ?_⟩
    refine ⟨_, rfl, _, _, _, _, false, rfl, .ty _, .base (.lst hb), kit_ty (by decide +kernel), _, rfl, iteF ?_⟩
    refine ⟨_, rfl, _, _, _, _, false, rfl, .ty _, .base (.lst hb), kit_ty (by decide +kernel), _, rfl, _, _, _, _, false, rfl, .ty _, .base (.lst ha), kit_ty (by decide +kernel), rfl, _, rfl, iteF ?_⟩
    refine ⟨_, rfl, _, _, _, _, true, rfl, .ty _, .base (.lst hb), kit_ty (by decide +kernel), _, rfl, _, _, _, _, true, rfl, .ty _, .base (.lst ha), kit_ty (by decide +kernel), rfl, _, rfl, iteF ?_⟩
    refine ⟨_, rfl, a, _, rfl, .inl (sq_of ha), _, rfl, b, _, rfl, .inl (sq_of hb), rfl, _, rfl, ?_⟩
    rw [decide_eq_true rfl]
    refine iteT ⟨_, rfl, _, rfl, a, b, ws.map V.str, ws.map V.str, rfl, .inl ⟨sq_of ha, sq_of hb, fun D nD => ?_⟩⟩
    have xD := Ex.new (o := .lst []) nD
    refine lc_zip (xs := ws.map V.str) (ys := ws.map V.str) rfl (fun i H' => Ex H H' ∧ H' D = some (.lst ((List.replicate i true).map V.bl))) ⟨xD, upd_same⟩ (fun i H' _ hh => ⟨sq_of (hh.1 _ _ ha), sq_of (hh.1 _ _ hb)⟩) ?_ ?_
    · rintro i x y H' Tp hx hy ⟨eH, hD⟩ nT
      have hi := (List.getElem?_eq_some_iff.mp hx).1
      have eT : Ex H' (upd H' Tp (.tup [x, y])) := Ex.new nT
      rw [List.length_map] at hi
      rw [List.getElem?_map] at hx hy
      obtain ⟨z, hz, rfl⟩ := Option.map_eq_some_iff.mp hx
      rw [hz] at hy
      cases hy
      refine ⟨rfl, yesT ⟨_, rfl, _, rfl, _, _, rfl, ⟨z, rfl, rfl⟩, fun H2 e2 => ⟨_, e2 _ _ (eT _ _ hD), ?_, ((eH.trans eT).trans e2).mut nD, ?_⟩⟩⟩
      · rw [List.length_map, List.length_replicate]
        exact sz_lt (by omega)
      · rw [upd_same, List.replicate_succ', List.map_append]
        rfl
    · rintro H' ⟨eH, hD⟩
      refine ⟨D, List.replicate (ws.map V.str).length true, rfl, sq_of hD, ?_⟩
      rw [show (List.replicate (ws.map V.str).length true).all id = true by
        rw [List.all_eq_true]
        intro z hz
        exact List.eq_of_mem_replicate hz]
      exact q H' eH
end
end Eh
set_option Elab.async false
set_option linter.all false
set_option maxRecDepth 100000
set_option maxHeartbeats 4000000
namespace Eh
open PySem PySem.Spec PyProof.Rows L2 Evl
/-! xs.count(y) of flat things -/
theorem countP_eqU {y : V} : ∀ {ys : List V} {us : List Value}, Vals ys us → ys.all flatV = true → us.countP (eqU y) = ys.countP (fun z => eqV z y)
  | _, _, .nil, _ => rfl
  | _, _, .cons r rs, h => by
    rw [List.all_cons, Bool.and_eq_true] at h
    rw [List.countP_cons, List.countP_cons, countP_eqU rs h.2, eqU_of r h.1]
def rCntV (K : PySem.W.Frag) : V → List V → Hp → VK → Prop := fun x xs H Q => ∃ (a : Addr) (ys : List V) (y : V), x = .ref a ∧ xs = [y] ∧ SqL K H a ys ∧ flatV y = true ∧ ys.all flatV = true ∧ Q (.int (ys.countP (fun z => eqV z y) : Nat)) H
theorem mt_cntV {X : Cx} : MtR X "list.count" (rCntV X.K) := by
  intro pins s σ H x xs v us Q I rx rxs h
  obtain ⟨a, ys, y, rfl, rfl, hs, fy, fys, q⟩ := h
  cases rx
  obtain ⟨uy, rfl, ry⟩ := rxs.one
  obtain ⟨its, rv, ⟨⟨cls, dd, data, sl⟩, n, ho, hc, hdn, hd⟩, hlen⟩ := I.list hs
  simp only at hc hd
  subst hc hd
  refine call_meets PySem.F.slot_list_count ⟨_, ho, rfl⟩ PySem.F.entry_list_count (PySem.F.args_list_count_2 _ _) (SeqAt.list_countAt a its.toArray n dd sl uy (eqU y)) ⟨ho, fun u' hu' => mem_eqAt ry fy rv fys u' (by simpa using hu'), ?_⟩
  refine ⟨.int (ys.countP (fun z => eqV z y) : Nat), H, I.tok _, ⟨s.toks, ?_⟩, q⟩
  rw [← countP_eqU rv fys]
/-! which error it is -/
def kWords : List Str := ["letter", "shut", "long", "choice", "text", "sheet", "way", "many", "step", "name", "row"]
/-- what the written part tells of the i-th error's class; cs: all of them, CH: HallError -/
structure KindC (K : PySem.W.Frag) (CH : Addr) (cs : List Addr) (i : Nat) : Prop where
  lt : i < 11
  ec : ErrC K (cs.getD i 0)
  kit : ∀ j, j < 11 → PySem.W.kitOne K (.ref (cs.getD i 0)) (.ref (cs.getD j 0)) = some (decide (i = j))
  hall : PySem.W.kitOne K (.ref (cs.getD i 0)) (.ref CH) = some true
  val : PySem.W.kitOne K (.ref (cs.getD i 0)) (.type "ValueError") = some true
  noP : PySem.W.findIn K (.ref (cs.getD i 0)) "place" = some none
  noS : PySem.W.findIn K (.ref (cs.getD i 0)) "size" = some none
/-- the names -/
structure KindM (mg : Str → Option Value) (CH : Addr) (cs : List Addr) : Prop where
  isi : mg "isinstance" = none
  ve : mg "ValueError" = none
  gH : mg "HallError" = some (.ref CH)
  g0 : mg "NoLetter" = some (.ref (cs.getD 0 0))
  g1 : mg "NotShut" = some (.ref (cs.getD 1 0))
  g2 : mg "TooLong" = some (.ref (cs.getD 2 0))
  g3 : mg "NoChoice" = some (.ref (cs.getD 3 0))
  g4 : mg "NoText" = some (.ref (cs.getD 4 0))
  g5 : mg "NoSheet" = some (.ref (cs.getD 5 0))
  g6 : mg "NoOneWay" = some (.ref (cs.getD 6 0))
  g7 : mg "TooMany" = some (.ref (cs.getD 7 0))
  g8 : mg "NoStep" = some (.ref (cs.getD 8 0))
  g9 : mg "NoName" = some (.ref (cs.getD 9 0))
  g10 : mg "NoRow" = some (.ref (cs.getD 10 0))
abbrev nKind : List Str := ["caught", "some", "word"]
theorem scKind : FnScope nKind ["caught"] (defScope sKind) := ⟨rfl, rfl, rfl, by decide +kernel, rfl, by decide +kernel, by decide +kernel⟩
theorem isx {K : PySem.W.Frag} {a ci : Addr} {d : Option Addr} {c : V} {cv : Value} {b : Bool} {σ : L2.St} {H : Hp} {Q : VK} (h0 : σ[0]? = some (some (.ref a))) (ha : H a = some (exv a (.ref ci) d)) (hd : DctOk H d) (ec : ErrC K ci) (hc : ∀ u, L2.RelV c u → u = cv) (kit : PySem.W.kitOne K (.ref ci) cv = some b) (q : Q (.bl b) H) :
    tCB (rIsX K) (tCons (tVar 0) (tCons (tC c) tNil)) σ H Q := ⟨_, h0, a, ci, d, c, cv, b, rfl, ha, hd, ec, hc, kit, q⟩
def somes (i : Nat) : List Bool := (List.range 11).map fun j => decide (i = j)
theorem somes_cnt : ∀ i, i < 11 → ((somes i).map V.bl).countP (fun z => eqV z (.bl true)) = 1 := by decide
theorem somes_at : ∀ i, i < 11 → ((somes i).map V.bl)[i]? = some (.bl true) := fun i h => by
  unfold somes
  rw [List.getElem?_map, List.getElem?_map, List.getElem?_range h]
  simp
theorem somes_ne {i m : Nat} {z : V} (hm : m < i) (hi : i < 11) (h : ((somes i).map V.bl)[m]? = some z) : eqV z (.bl true) = false := by
  unfold somes at h
  rw [List.getElem?_map, List.getElem?_map, List.getElem?_range (by omega)] at h
  have e : V.bl (decide (i = m)) = z := Option.some.inj h
  rw [← e, decide_eq_false (by omega)]
  rfl
theorem somes_flat (i : Nat) : ((somes i).map V.bl).all flatV = true := by
  rw [List.all_eq_true]
  intro z hz
  obtain ⟨b, _, rfl⟩ := List.mem_map.mp hz
  rfl
section
variable {P : Program} {w : World} {K : PySem.W.Frag} {mg : Str → Option Value} {base : Heap}
def KFld (H : Hp) (d : Option Addr) (i : Nat) (v : V) : Prop := ((i = 0 ∨ i = 1 ∨ i = 3 ∨ i = 4) ∧ ∃ dd, d = some dd ∧ H dd = some (.xd [("place", v)])) ∨ (i = 2 ∧ ∃ dd, d = some dd ∧ H dd = some (.xd [("size", v)])) ∨ (5 ≤ i ∧ v = .int 0)
def spKind (K : PySem.W.Frag) (CH : Addr) (cs : List Addr) : Sp := fun vs H Q _ => ∃ (a : Addr) (d : Option Addr) (i : Nat) (v : V), vs = [.ref a] ∧ KindC K CH cs i ∧ H a = some (exv a (.ref (cs.getD i 0)) d) ∧ DctOk H d ∧ KFld H d i v ∧
  ∀ p H', Ex H H' → H p = none → H' p = some (.tup [.str (kWords.getD i ""), v]) → Q (.ref p) H'
theorem ok_kind {f CH : Addr} {cs : List Addr} {fd : FuncData} {k : Nat} (F : Fun K "_law_kind" "_law_kind" sKind f fd) (M : KindM mg CH cs) : FnOk P w K mg base CX0 (k + 1) f fd ["caught"] (spKind K CH cs) := by
  have nd := scKind.nd
  refine F.ok scKind (fun vs H Q E h => ?_) (fun cdv A outer s H vs Q E hr h => ?_)
  · obtain ⟨a, d, i, v, rfl, _⟩ := h
    rfl
  · obtain ⟨a, d, i, v, rfl, C, ha, hd, hf, q⟩ := h
    refine ⟨_, pss_cons (ps_set (i := 1) nd rfl (.inl rfl) (pe_lst (pa_cons (pe_callB call_isX (by rfl) M.isi (by decide +kernel) (pa_cons (pv 0) (pa_cons (pe_glob (v := .ref (cs.getD 0 0)) rfl M.g0 rfl) pa_nil))) (pa_cons (pe_callB call_isX (by rfl) M.isi (by decide +kernel) (pa_cons (pv 0) (pa_cons (pe_glob (v := .ref (cs.getD 1 0)) rfl M.g1 rfl) pa_nil))) (pa_cons (pe_callB call_isX (by rfl) M.isi (by decide +kernel) (pa_cons (pv 0) (pa_cons (pe_glob (v := .ref (cs.getD 2 0)) rfl M.g2 rfl) pa_nil))) pa_nil)))))
      (pss_cons (ps_set (i := 1) nd rfl (.inl rfl) (pe_op op_cat (pv 1) (pe_lst (pa_cons (pe_callB call_isX (by rfl) M.isi (by decide +kernel) (pa_cons (pv 0) (pa_cons (pe_glob (v := .ref (cs.getD 3 0)) rfl M.g3 rfl) pa_nil))) (pa_cons (pe_callB call_isX (by rfl) M.isi (by decide +kernel) (pa_cons (pv 0) (pa_cons (pe_glob (v := .ref (cs.getD 4 0)) rfl M.g4 rfl) pa_nil))) (pa_cons (pe_callB call_isX (by rfl) M.isi (by decide +kernel) (pa_cons (pv 0) (pa_cons (pe_glob (v := .ref (cs.getD 5 0)) rfl M.g5 rfl) pa_nil))) pa_nil))))))
      (pss_cons (ps_set (i := 1) nd rfl (.inl rfl) (pe_op op_cat (pv 1) (pe_lst (pa_cons (pe_callB call_isX (by rfl) M.isi (by decide +kernel) (pa_cons (pv 0) (pa_cons (pe_glob (v := .ref (cs.getD 6 0)) rfl M.g6 rfl) pa_nil))) (pa_cons (pe_callB call_isX (by rfl) M.isi (by decide +kernel) (pa_cons (pv 0) (pa_cons (pe_glob (v := .ref (cs.getD 7 0)) rfl M.g7 rfl) pa_nil))) (pa_cons (pe_callB call_isX (by rfl) M.isi (by decide +kernel) (pa_cons (pv 0) (pa_cons (pe_glob (v := .ref (cs.getD 8 0)) rfl M.g8 rfl) pa_nil))) pa_nil))))))
      (pss_cons (ps_set (i := 1) nd rfl (.inl rfl) (pe_op op_cat (pv 1) (pe_lst (pa_cons (pe_callB call_isX (by rfl) M.isi (by decide +kernel) (pa_cons (pv 0) (pa_cons (pe_glob (v := .ref (cs.getD 9 0)) rfl M.g9 rfl) pa_nil))) (pa_cons (pe_callB call_isX (by rfl) M.isi (by decide +kernel) (pa_cons (pv 0) (pa_cons (pe_glob (v := .ref (cs.getD 10 0)) rfl M.g10 rfl) pa_nil))) pa_nil)))))
      (pss_cons (ps_if (PW.pt (pw_or (pt_cmpR op_ne (pe_bm PySem.F.plainAttrs_list PySem.F.slot_list_count PySem.F.type_list_count mt_cntV (pv 1) (pa_cons pe_bl pa_nil)) pe_int (nomark _)) (pw_or (pt_not (pt_val (pe_callB call_isX (by rfl) M.isi (by decide +kernel) (pa_cons (pv 0) (pa_cons (pe_glob (v := .ref CH) rfl M.gH rfl) pa_nil))))) (pw_or1 (pt_not (pt_val (pe_callB call_isX (by rfl) M.isi (by decide +kernel) (pa_cons (pv 0) (pa_cons (pe_bltn (v := .ty "ValueError") (by rfl) M.ve (by decide +kernel) rfl) pa_nil))))))))) (pss_one ps_never) pss_nil)
      (pss_cons (ps_set (i := 2) nd rfl (.inl rfl) (pe_ix ix_list (pe_lst (pa_cons pe_str (pa_cons pe_str (pa_cons pe_str (pa_cons pe_str (pa_cons pe_str (pa_cons pe_str (pa_cons pe_str (pa_cons pe_str (pa_cons pe_str (pa_cons pe_str (pa_cons pe_str pa_nil)))))))))))) (pe_bm PySem.F.plainAttrs_list PySem.F.slot_list_index PySem.F.type_list_index mt_index (pv 1) (pa_cons pe_bl pa_nil)) (fun _ _ => rfl)))
      (pss_cons (ps_if (pt_cmpR op_in_seq (pv 2) (pe_tup (pa_cons pe_str (pa_cons pe_str (pa_cons pe_str (pa_cons pe_str pa_nil))))) (by rfl)) (pss_one (ps_ret (pe_tup (pa_cons (pv 2) (pa_cons (pe_xg (pv 0)) pa_nil))))) pss_nil)
      (pss_one (ps_ret (pe_tup (pa_cons (pv 2) (pa_cons (pe_ifExp (pt_cmpR op_eq (pv 2) pe_str (nomark _)) (pe_xg (pv 0)) pe_int) pa_nil))))))))))), ?_⟩
    have dx : ∀ {H' : Hp}, Ex H H' → DctOk H' d := fun {H'} e => by
      cases d with
      | none => trivial
      | some dd =>
        obtain ⟨fs, z⟩ := hd
        exact ⟨fs, e _ _ z⟩
    have sz : ∀ n : Nat, n ≤ 100 → n ≤ sizeLine := fun n h => Nat.le_trans h (by decide)
    refine isx rfl ha hd C.ec (fun u r => r) (C.kit 0 (by decide)) (isx rfl ha hd C.ec (fun u r => r) (C.kit 1 (by decide)) (isx rfl ha hd C.ec (fun u r => r) (C.kit 2 (by decide)) ⟨sz 3 (by decide), fun l1 n1 => ?_⟩))
    have e1 : Ex H _ := Ex.new (o := .lst [.bl (decide (i = 0)), .bl (decide (i = 1)), .bl (decide (i = 2))]) n1
    have ha1 := e1 _ _ ha
    refine ⟨_, rfl, isx rfl ha1 (dx e1) C.ec (fun u r => r) (C.kit 3 (by decide)) (isx rfl ha1 (dx e1) C.ec (fun u r => r) (C.kit 4 (by decide)) (isx rfl ha1 (dx e1) C.ec (fun u r => r) (C.kit 5 (by decide)) ⟨sz 3 (by decide), fun l2 n2 => ⟨l1, l2, _, _, rfl, rfl, Ex.new n2 _ _ upd_same, upd_same, sz 6 (by decide), fun l3 n3 => ?_⟩⟩))⟩
    have e3 : Ex H _ := (e1.trans (Ex.new n2)).trans (Ex.new (o := .lst ([.bl (decide (i = 0)), .bl (decide (i = 1)), .bl (decide (i = 2))] ++ [.bl (decide (i = 3)), .bl (decide (i = 4)), .bl (decide (i = 5))])) n3)
    have ha3 := e3 _ _ ha
    refine ⟨_, rfl, isx rfl ha3 (dx e3) C.ec (fun u r => r) (C.kit 6 (by decide)) (isx rfl ha3 (dx e3) C.ec (fun u r => r) (C.kit 7 (by decide)) (isx rfl ha3 (dx e3) C.ec (fun u r => r) (C.kit 8 (by decide)) ⟨sz 3 (by decide), fun l4 n4 => ⟨l3, l4, _, _, rfl, rfl, Ex.new n4 _ _ upd_same, upd_same, sz 9 (by decide), fun l5 n5 => ?_⟩⟩))⟩
    have e5 : Ex H _ := (e3.trans (Ex.new n4)).trans (Ex.new (o := .lst ([.bl (decide (i = 0)), .bl (decide (i = 1)), .bl (decide (i = 2))] ++ [.bl (decide (i = 3)), .bl (decide (i = 4)), .bl (decide (i = 5))] ++ [.bl (decide (i = 6)), .bl (decide (i = 7)), .bl (decide (i = 8))])) n5)
    have ha5 := e5 _ _ ha
    refine ⟨_, rfl, isx rfl ha5 (dx e5) C.ec (fun u r => r) (C.kit 9 (by decide)) (isx rfl ha5 (dx e5) C.ec (fun u r => r) (C.kit 10 (by decide)) ⟨sz 2 (by decide), fun l6 n6 => ⟨l5, l6, _, _, rfl, rfl, Ex.new n6 _ _ upd_same, upd_same, sz 11 (by decide), fun l7 n7 => ?_⟩⟩)⟩
    have e7 : Ex H _ := (e5.trans (Ex.new n6)).trans (Ex.new (o := .lst ((somes i).map V.bl)) n7)
    have hL : ∀ {H0 : Hp}, (upd H0 l7 (.lst ((somes i).map V.bl))) l7 = some (.lst ((somes i).map V.bl)) := upd_same
    show tSeq _ _ _ _ (upd _ l7 (.lst ((somes i).map V.bl)))
    have ha7 := e7 _ _ ha
    refine ⟨_, rfl, .inl ⟨rfl, _, sq_of hL⟩, l7, _, .bl true, rfl, rfl, sq_of hL, rfl, somes_flat i, rfl, _, rfl, ?_⟩
    rw [somes_cnt i C.lt, decide_eq_true (show V.int ((1 : Nat) : Int) = V.int 1 from rfl)]
    refine iteF (isx rfl ha7 (dx e7) C.ec (fun u r => r) C.hall ⟨_, rfl, iteF (isx rfl ha7 (dx e7) C.ec (fun u r => r) C.val ⟨_, rfl, iteF ?_⟩)⟩)
    have hw : ∀ j : Nat, kWords.getD j "" = kWords.getD j "" := fun _ => rfl
    refine ⟨sz 11 (by decide), fun l8 n8 => ?_⟩
    have e8 := e7.trans (Ex.new (o := .lst (kWords.map V.str)) n8)
    have hL8 := Ex.new (o := .lst (kWords.map V.str)) n8 _ _ hL
    refine ⟨_, rfl, .inl ⟨rfl, _, sq_of hL8⟩, l7, _, .bl true, i, _, rfl, rfl, sq_of hL8, rfl, somes_flat i, somes_at i C.lt, rfl, fun m z hm hz => somes_ne hm C.lt hz, l8, _, _, .str (kWords.getD i ""), rfl, rfl, sq_of upd_same, ?_, ?_⟩
    · refine atI_nat ?_
      show (kWords.map V.str)[i]? = _
      rw [List.getElem?_map, List.getD_eq_getElem?_getD, List.getElem?_eq_getElem (show i < kWords.length from C.lt)]
      rfl
    refine ⟨_, rfl, sz 4 (by decide), fun t1 m1 => ?_⟩
    have e9 := e8.trans (Ex.new (o := .tup [.str "letter", .str "shut", .str "choice", .str "text"]) m1)
    have ha9 := e9 _ _ ha
    have six : 5 ≤ i → i = 5 ∨ i = 6 ∨ i = 7 ∨ i = 8 ∨ i = 9 ∨ i = 10 := fun h => by
      have := C.lt
      omega
    refine ⟨t1, _, rfl, .inr (st_of upd_same), rfl, rfl, _, rfl, ?_⟩
    refine ite2 (fun hin => ?_) (fun hno => ?_)
    · rcases hf with ⟨_, dd, rfl, hdd⟩ | ⟨rfl, _⟩ | ⟨h5, _⟩
      · exact ⟨_, rfl, _, rfl, a, _, dd, _, v, rfl, C.ec, C.noP, ha9, e9 _ _ hdd, rfl, sz 2 (by decide), fun p np => q p _ (e9.trans (Ex.new np)) (fresh_back e9 np) upd_same⟩
      · exact absurd hin (by decide)
      · rcases six h5 with rfl | rfl | rfl | rfl | rfl | rfl <;> exact absurd hin (by decide)
    · rcases hf with ⟨hi, _⟩ | ⟨rfl, dd, rfl, hdd⟩ | ⟨h5, rfl⟩
      · rcases hi with rfl | rfl | rfl | rfl <;> exact absurd (by decide) hno
      · exact ⟨_, rfl, _, rfl, rfl, _, rfl, iteT ⟨_, rfl, a, _, dd, _, v, rfl, C.ec, C.noS, ha9, e9 _ _ hdd, rfl, sz 2 (by decide), fun p np => q p _ (e9.trans (Ex.new np)) (fresh_back e9 np) upd_same⟩⟩
      · refine ⟨_, rfl, _, rfl, rfl, _, rfl, ite2 (fun z => ?_) (fun _ => ⟨sz 2 (by decide), fun p np => q p _ (e9.trans (Ex.new np)) (fresh_back e9 np) upd_same⟩)⟩
        have z' := V.str.inj (of_decide_eq_true z)
        rcases six h5 with rfl | rfl | rfl | rfl | rfl | rfl <;> exact absurd z' (by decide)
end
end Eh
set_option Elab.async false
set_option linter.all false
set_option maxRecDepth 100000
set_option maxHeartbeats 4000000
namespace Eh
open PySem PySem.Spec PyProof.Rows L2 Evl
abbrev nTold : List Str := ["sheet", "word", "found", "caught", "e"]
theorem scTold : FnScope nTold ["sheet", "word"] (defScope sTold) := ⟨rfl, rfl, rfl, by decide +kernel, rfl, by decide +kernel, by decide +kernel⟩
section
variable {P : Program} {w : World} {K : PySem.W.Frag} {mg : Str → Option Value} {base : Heap}
def spTold (K : PySem.W.Frag) : Sp := fun vs H Q _ => ∃ (s l : Addr) (os ps qs ws : List Str), vs = [.ref s, .ref l] ∧ Sht os ps qs ∧ SheetAt H s os ps qs ∧ SqL K H l (ws.map V.str) ∧ (∀ x ∈ ws, x ∈ os ++ ps ++ qs) ∧ ws.length ≤ 10000 ∧ (∀ f : Fo, f.Ok os ps qs → f.wr = ws → ∀ u us H', Ex H H' → H' u = some (.tup us) → FoAt H' f us → Q (.ref u) H') ∧
  ∀ p r, aloneOf os qs ws (ansOf os qs ws) = p :: r → ∀ t H', Ex H H' → H' t = some (.tup [.str "shut", nV p]) → Q (.ref t) H'
theorem ok_told {f fB fK CH : Addr} {cs : List Addr} {fd fdB fdK : FuncData} {k : Nat} (F : Fun K "_law_told" "_law_told" sTold f fd) (FB : Fun K "boughs" "boughs" sBoughs fB fdB) (GB : FnOk P w K mg base (L2.CX P w) (k + 1) fB fdB ["sheet", "word"] (spBoughs K (cs.getD 1 0))) (bB : Binds K fdB ["sheet", "word"] []) (gB : mg "boughs" = some (.ref fB))
    (FK : Fun K "_law_kind" "_law_kind" sKind fK fdK) (bK : Binds K fdK ["caught"] []) (gK : mg "_law_kind" = some (.ref fK)) (M : KindM mg CH cs) (C1 : KindC K CH cs 1) (hx : PySem.W.exmOne K (.ref (cs.getD 1 0)) (.ref CH) = some true) : FnOk P w K mg base CX0 (k + 2) f fd ["sheet", "word"] (spTold K) := by
  have nd := scTold.nd
  have GK : FnOk P w K mg base CX0 (k + 1) fK fdK ["caught"] (spKind K CH cs) := ok_kind FK M
  refine F.ok scTold (fun vs H Q E h => ?_) (fun cdv A outer s H vs Q E hr h => ?_)
  · obtain ⟨s, l, os, ps, qs, ws, rfl, _⟩ := h
    rfl
  · obtain ⟨s, l, os, ps, qs, ws, rfl, hS, hs, hl, hw, hlen, q1, q2⟩ := h
    refine ⟨_, pss_cons (ps_set (i := 2) nd rfl (.inl rfl) pe_non) (pss_cons (ps_set (i := 3) nd rfl (.inl rfl) pe_non)
      (pss_cons (ps_try_keep (i := 4) rfl rfl rfl nd rfl rfl ⟨rfl, by decide, .inl M.gH⟩ (fun W pn xe tk _ => pss_one (ps_set (i := 2) nd rfl (.inl rfl) (pe_callS GB hr (by rfl) gB FB.kp bB (fun σ => passAt tk σ) (pa_cons (pv 0) (pa_cons (pv 1) pa_nil))))) (fun a oe cls d pn hz hf => pss_one (ps_set (i := 3) nd rfl (.inl rfl) (pv 4))))
      (pss_cons (ps_if (pt_cmpR op_isN (pv 3) pe_non (nomark _)) (pss_one (ps_ret (pv 2))) pss_nil)
      (pss_one (ps_ret (pe_call GK hr (by rfl) gK FK.kp bK .nil pass0 (pa_cons (pv 3) pa_nil))))))), ?_⟩
    refine ⟨_, rfl, _, rfl, s, l, os, ps, qs, ws, rfl, hS, hs, hl, hw, hlen, fun fo ho e u us H' eH hu hF => ?_, fun p r hal d H' eH hd => ?_⟩
    · exact ⟨_, rfl, rfl, _, rfl, iteT ⟨_, rfl, q1 fo ho e u us H' eH hu hF⟩⟩
    · refine ⟨hx, fun a na => ⟨_, rfl, _, rfl, rfl, _, rfl, iteF ⟨_, rfl, a, some d, 1, nV p, rfl, C1, upd_same, ?_, ?_, fun t H2 e2 nt ht => q2 p r hal t H2 ((eH.trans (Ex.new na)).trans e2) ht⟩⟩⟩
      · exact ⟨_, Ex.new na _ _ hd⟩
      · exact .inl ⟨.inr (.inl rfl), d, rfl, Ex.new na _ _ hd⟩
end
end Eh
set_option Elab.async false
set_option linter.all false
set_option maxRecDepth 100000
set_option maxHeartbeats 4000000
namespace Eh
open PySem PySem.Spec PyProof.Rows L2 Evl
abbrev nFault : List Str := ["sheet", "word", "told", "bare", "left", "at"]
theorem scFault : FnScope nFault ["sheet", "word", "told"] (defScope sFault) := ⟨rfl, rfl, rfl, by decide +kernel, rfl, by decide +kernel, by decide +kernel⟩
def headV : List Nat → V
  | [] => .non
  | p :: _ => nV p
theorem aloneOf_eq (os qs ws : List Str) (t : List (Option Nat)) : (List.range ws.length).filter (fun i => decide (kfOf os qs ws i = .cl) && decide (tv t i = none)) ++ (List.range ws.length).filter (fun i => decide (kfOf os qs ws i = .op) && decide (tv t i = none)) = aloneOf os qs ws t := by
  unfold aloneOf
  rw [List.filter_filter, List.filter_filter]
section
variable {P : Program} {w : World} {K : PySem.W.Frag} {mg : Str → Option Value} {base : Heap}
def spFault (K : PySem.W.Frag) : Sp := fun vs H Q _ => ∃ (s l a : Addr) (os ps qs ws : List Str) (t : List (Option Nat)), vs = [.ref s, .ref l, .ref a] ∧ Sht os ps qs ∧ SheetAt H s os ps qs ∧ SqL K H l (ws.map V.str) ∧ SqL K H a (t.map oV) ∧ t.length = ws.length ∧ ws.length ≤ 10000 ∧ ∀ H', Ex H H' → Q (headV (aloneOf os qs ws t)) H'
theorem ok_fault {f : Addr} {fd : FuncData} {k : Nat} (F : Fun K "_law_fault" "_law_fault" sFault f fd) (ml : mg "len" = none) (mr : mg "range" = none) : FnOk P w K mg base CX0 (k + 1) f fd ["sheet", "word", "told"] (spFault K) := by
  have nd := scFault.nd
  refine F.ok scFault (fun vs H Q E h => ?_) (fun cdv A outer s H vs Q E hr h => ?_)
  · obtain ⟨s, l, a, os, ps, qs, ws, t, rfl, _⟩ := h
    rfl
  · obtain ⟨s, l, a, os, ps, qs, ws, t, rfl, hS, ⟨ao, ap, ac, g0, g1, g2, g3⟩, hl, ha, htl, hlen, q⟩ := h
    have bk := fun (scope : Scope) (h : blkC nFault (defScope sFault) scope [("at", 5)] = true) => blkOk_by (own := [("at", 5)]) h
    refine ⟨_, pss_cons (ps_setLc (i := 3) (own := [("at", 5)]) (g := gName 5) (tt := tAnd (tTest (tOp (rIn K false) (tOp (rIxL K) (tVar 1) (tVar 5)) (tOp (rIxT K) (tVar 0) (tC (.int 2))))) (tTest (tOp rIsN (tOp (rIxL K) (tVar 2) (tVar 5)) (tC .non)))) rfl nd rfl rfl (sw_true rfl rfl rfl (by decide +kernel)) (pi_range1 (by rfl) mr (pa_cons (pe_callB call_len_seq (by rfl) ml PySem.boot_len (pa_cons (pv 1) pa_nil)) pa_nil)) (bk _ (by decide +kernel)) (fun _ _ _ _ _ => pg_name (i := 5) nd rfl (Or.inl rfl)) (fun _ _ _ _ _ => pts_one (PW.pt (pw_and (pt_cmpR op_in_seq (pe_ix ix_list (pv 1) (pv 5) (fun _ _ => rfl)) (pe_ix ix_tup (pv 0) pe_int (fun _ _ => rfl)) (by rfl)) (pw_and1 (pt_cmpR op_isN (pe_ix ix_list (pv 2) (pv 5) (fun _ _ => rfl)) pe_non (nomark _)))))) (fun _ _ _ _ _ => pv 5))
      (pss_cons (ps_setLc (i := 4) (own := [("at", 5)]) (g := gName 5) (tt := tAnd (tTest (tOp (rIn K false) (tOp (rIxL K) (tVar 1) (tVar 5)) (tOp (rIxT K) (tVar 0) (tC (.int 0))))) (tTest (tOp rIsN (tOp (rIxL K) (tVar 2) (tVar 5)) (tC .non)))) rfl nd rfl rfl (sw_true rfl rfl rfl (by decide +kernel)) (pi_range1 (by rfl) mr (pa_cons (pe_callB call_len_seq (by rfl) ml PySem.boot_len (pa_cons (pv 1) pa_nil)) pa_nil)) (bk _ (by decide +kernel)) (fun _ _ _ _ _ => pg_name (i := 5) nd rfl (Or.inl rfl)) (fun _ _ _ _ _ => pts_one (PW.pt (pw_and (pt_cmpR op_in_seq (pe_ix ix_list (pv 1) (pv 5) (fun _ _ => rfl)) (pe_ix ix_tup (pv 0) pe_int (fun _ _ => rfl)) (by rfl)) (pw_and1 (pt_cmpR op_isN (pe_ix ix_list (pv 2) (pv 5) (fun _ _ => rfl)) pe_non (nomark _)))))) (fun _ _ _ _ _ => pv 5))
      (pss_one (ps_ret (pe_ix ix_list (pe_op op_cat (pe_op op_cat (pv 3) (pv 4)) (pe_lst (pa_cons pe_non pa_nil))) pe_int (fun _ _ => rfl))))), ?_⟩
    have n0 : (ws.map V.str).length = ws.length := List.length_map _
    have gv : ∀ g : Nat → Bool, given ws.length g nV = ((List.range ws.length).filter g).map nV := fun g => rfl
    refine q_asgL (el_lcR1 (fun i => decide (kfOf os qs ws i = .cl) && decide (tv t i = none)) nV (ea_cons (ev_len (ev_var rfl) hl) ea_nil) (by rw [n0]; omega) (fun x => rfl) (fun i H1 e1 hi => ?_) (fun i H1 e1 hi _ => ev_var rfl)) fun p1 H1 np1 e1 hp1 => ?_
    · exact et_and (kd_rd (ex_l e1 hl) (e1 _ _ g0) rfl (e1 _ _ g3) (fun x => kd_cl hS) rfl rfl rfl (by rw [n0] at hi; omega)) fun _ => none_rd (ex_l e1 ha) rfl rfl (by rw [n0] at hi; omega)
    refine q_asgL (el_lcR1 (fun i => decide (kfOf os qs ws i = .op) && decide (tv t i = none)) nV (ea_cons (ev_len (ev_var rfl) (ex_l e1 hl)) ea_nil) (by rw [n0]; omega) (fun x => rfl) (fun i H2 e2 hi => ?_) (fun i H2 e2 hi _ => ev_var rfl)) fun p2 H2 np2 e2 hp2 => ?_
    · exact et_and (kd_rd (ex_l (e1.trans e2) hl) ((e1.trans e2) _ _ g0) rfl ((e1.trans e2) _ _ g1) (fun x => kd_op) rfl rfl rfl (by rw [n0] at hi; omega)) fun _ => none_rd (ex_l (e1.trans e2) ha) rfl rfl (by rw [n0] at hi; omega)
    rw [n0, Int.toNat_natCast, gv] at hp1 hp2
    have l1 := List.length_filter_le (fun i => decide (kfOf os qs ws i = .cl) && decide (tv t i = none)) (List.range ws.length)
    have l2 := List.length_filter_le (fun i => decide (kfOf os qs ws i = .op) && decide (tv t i = none)) (List.range ws.length)
    rw [List.length_range] at l1 l2
    refine ⟨_, rfl, _, rfl, p1, p2, _, _, rfl, rfl, e2 _ _ hp1, hp2, sz_of (by rw [List.length_map, List.length_map]; omega), fun p3 n3 => ⟨(by show 1 ≤ sizeLine; decide), fun p4 n4 => ⟨p3, p4, _, _, rfl, rfl, Ex.new n4 _ _ upd_same, upd_same, sz_of (by rw [List.length_append, List.length_map, List.length_map, List.length_singleton]; omega), fun p5 n5 => ⟨p5, _, 0, headV (aloneOf os qs ws t), rfl, rfl, sq_of upd_same, ?_, q _ ((((e1.trans e2).trans (Ex.new n3)).trans (Ex.new n4)).trans (Ex.new n5))⟩⟩⟩⟩
    rw [← List.map_append, aloneOf_eq]
    refine (show atI _ ((0 : Nat) : Int) = _ from atI_nat ?_)
    cases aloneOf os qs ws t with
    | nil => rfl
    | cons p r => rfl
end
end Eh
set_option Elab.async false
set_option linter.all false
set_option maxRecDepth 100000
set_option maxHeartbeats 4000000
namespace Eh
open PySem PySem.Spec PyProof.Rows L2 Evl
abbrev nLawB : List Str := ["sheet", "word", "told", "low", "high", "found", "at"]
theorem scLawB : FnScope nLawB ["sheet", "word", "told", "low", "high"] (defScope sLawB) := ⟨rfl, rfl, rfl, by decide +kernel, rfl, by decide +kernel, by decide +kernel⟩
theorem Sht.op_pl {os ps qs : List Str} (hS : Sht os ps qs) {x : Str} (h : x ∈ os) : ¬ x ∈ ps := fun z => by
  have h1 := List.nodup_append.mp (List.nodup_append.mp hS.nd).1
  exact h1.2.2 x h x z rfl
/-- so far: g is found, h is still to come -/
structure BGo (K : PySem.W.Frag) (H : Hp) (n : Nat) (os ps qs W : List Str) (t : List (Option Nat)) (f : Fo) (p : Nat) (D : Addr) (g h : Fo) (at_ : Nat) (H' : Hp) : Prop where
  app : g.app h = f
  ex : Ex H H'
  lst : ∃ vs, H' D = some (.lst vs) ∧ FoAt H' g vs
  ok : h.Ok os ps qs
  deep : h.deep ≤ n
  pos : at_ + h.wr.length = p + f.wr.length
  wd : ∀ j x, h.wr[j]? = some x → W[at_ + j]? = some x
  st : h.St (tv t) at_
theorem BGo.exx {K : PySem.W.Frag} {H H' H1 : Hp} {n p at_ : Nat} {os ps qs W : List Str} {t : List (Option Nat)} {f g h : Fo} {D : Addr} (B : BGo K H n os ps qs W t f p D g h at_ H') (e : Ex H' H1) : BGo K H n os ps qs W t f p D g h at_ H1 := by
  obtain ⟨vs, h1, h2⟩ := B.lst
  exact ⟨B.app, B.ex.trans e, ⟨vs, e _ _ h1, FoAt.ex e h2⟩, B.ok, B.deep, B.pos, B.wd, B.st⟩
section
variable {P : Program} {w : World} {K : PySem.W.Frag} {mg : Str → Option Value} {base : Heap}
def spLawB (K : PySem.W.Frag) (n : Nat) : Sp := fun vs H Q _ => ∃ (s l a : Addr) (os ps qs W : List Str) (t : List (Option Nat)) (f : Fo) (p : Nat), vs = [.ref s, .ref l, .ref a, nV p, nV (p + f.wr.length)] ∧ Sht os ps qs ∧ SheetAt H s os ps qs ∧ SqL K H l (W.map V.str) ∧ SqL K H a (t.map oV) ∧ t.length = W.length ∧ f.Ok os ps qs ∧ f.deep ≤ n ∧ f.wr.length ≤ 10000 ∧
  (∀ j x, f.wr[j]? = some x → W[p + j]? = some x) ∧ f.St (tv t) p ∧ ∀ u us H', Ex H H' → H' u = some (.tup us) → FoAt H' f us → Q (.ref u) H'
theorem ok_lawB {f : Addr} {fd : FuncData} (F : Fun K "_law_boughs" "_law_boughs" sLawB f fd) (b : Binds K fd ["sheet", "word", "told", "low", "high"] []) (g : mg "_law_boughs" = some (.ref f)) (mt : mg "tuple" = none) : ∀ (n k : Nat), FnOk P w K mg base CX0 (k + 1 + n) f fd ["sheet", "word", "told", "low", "high"] (spLawB K n)
  | 0, k => by
    have nd := scLawB.nd
    refine F.ok scLawB (fun vs H Q E h => ?_) (fun cdv A outer s H vs Q E hr h => ?_)
    · obtain ⟨s, l, a, os, ps, qs, W, t, f, p, rfl, _⟩ := h
      rfl
    · obtain ⟨s, l, a, os, ps, qs, W, t, f, p, rfl, hS, ⟨ao, ap, ac, g0, g1, g2, g3⟩, hl, ha, htl, ho, hdp, hlen, hwd, hst, q⟩ := h
      refine ⟨_, pss_cons (ps_set (i := 5) nd rfl (.inl rfl) (pe_lst pa_nil)) (pss_cons (ps_set (i := 6) nd rfl (.inl rfl) (pv 3))
        (pss_cons (ps_while PassesOwn.never (pt_cmpR op_lt (pv 6) (pv 4) (nomark _))
          (pss_one (ps_if (pt_cmpR op_in_seq (pe_ix ix_list (pv 1) (pv 6) (fun _ _ => rfl)) (pe_ix ix_tup (pv 0) pe_int (fun _ _ => rfl)) (by rfl))
            (pss_cons (ps_expr (pe_bm PySem.F.plainAttrs_list PySem.F.slot_list_append PySem.F.type_list_append mt_append (pv 5) (pa_cons (pe_tup (pa_cons (pe_ix ix_list (pv 1) (pv 6) (fun _ _ => rfl)) pa_nil)) pa_nil))) (pss_one (ps_set (i := 6) nd rfl (.inl rfl) (pe_op op_add (pv 6) pe_int))))
            (pss_cons (ps_expr (pe_bm PySem.F.plainAttrs_list PySem.F.slot_list_append PySem.F.type_list_append mt_append (pv 5) (pa_cons (pe_tup (pa_cons (pe_ix ix_list (pv 1) (pv 6) (fun _ _ => rfl)) (pa_cons pe_never (pa_cons (pe_ix ix_list (pv 1) (pe_ix ix_list (pv 2) (pv 6) (fun _ _ => rfl)) (fun _ _ => rfl)) pa_nil)))) pa_nil))) (pss_one (ps_set (i := 6) nd rfl (.inl rfl) (pe_op op_add (pe_ix ix_list (pv 2) (pv 6) (fun _ _ => rfl)) pe_int)))))))
        (pss_one (ps_ret (pe_callTy call_tuple_of (by rfl) mt (by decide +kernel) (pa_cons (pv 5) pa_nil)))))), ?_⟩
      refine ⟨Nat.zero_le _, fun D nD => ⟨_, rfl, ?_⟩⟩
      refine q_while (fun m σ' H' => ∃ (g h : Fo) (at_ : Nat), m = h.wr.length ∧ σ' = [some (.ref s), some (.ref l), some (.ref a), some (nV p), some (nV (p + f.wr.length)), some (.ref D), some (nV at_)] ∧ BGo K H 0 os ps qs W t f p D g h at_ H') f.wr.length
        ⟨.nil, f, p, rfl, rfl, ⟨rfl, Ex.new nD, ⟨[], upd_same, rfl⟩, ho, hdp, rfl, hwd, hst⟩⟩ ?_
      rintro m σ' H' ⟨g, h, at_, rfl, rfl, B⟩
      refine ⟨decide ((at_ : Int) < ((p + f.wr.length : Nat) : Int)), et_test (ev_op (ev_var rfl) (ev_var rfl) rv_I0), fun hb H1 e1 => ?_, fun hb H1 e1 => ?_⟩
      · have hlt := of_decide_eq_true hb
        have B1 := B.exx e1
        obtain ⟨vs, hD, hF⟩ := B1.lst
        have hgl : g.wr.length + h.wr.length = f.wr.length := by
          rw [← B.app, Fo.wr_app, List.length_append]
        have hvl := FoAt.len g vs hF
        have ex1 := B1.ex
        have szv : vs.length < sizeLine := sz_lt (by omega)
        refine ⟨fun σ2 H2 => ∃ m', m' < h.wr.length ∧ ∃ (g h : Fo) (at_ : Nat), m' = h.wr.length ∧ σ2 = [some (.ref s), some (.ref l), some (.ref a), some (nV p), some (nV (p + f.wr.length)), some (.ref D), some (nV at_)] ∧ BGo K H 0 os ps qs W t f p D g h at_ H2, fun σ2 H2 hh => hh, ?_⟩
        have hpos := B.pos
        cases h with
        | nil =>
          exfalso
          have : (Fo.wr .nil).length = 0 := rfl
          omega
        | pl x r =>
          obtain ⟨o1, o2⟩ := B.ok
          obtain ⟨s1, s2⟩ := B.st
          have hlr : (Fo.wr (.pl x r)).length = r.wr.length + 1 := rfl
          have hW0 : W[at_]? = some x := B.wd 0 x rfl
          refine ⟨_, rfl, _, rfl, l, _, _, .str x, rfl, rfl, ex_l ex1 hl, str_at hW0, _, rfl, s, _, 1, .ref ap, rfl, rfl, st_of (ex1 _ _ g0), rfl, ap, _, rfl, .inr (st_of (ex1 _ _ g2)), rfl, flat_str ps, _, rfl, ?_⟩
          show if inV (.str x) (ps.map V.str) = true then _ else _
          rw [inV_str, decide_eq_true o1]
          refine iteT ⟨_, rfl, .inl ⟨rfl, _, sq_of hD⟩, _, rfl, _, rfl, l, _, _, .str x, rfl, rfl, ex_l ex1 hl, str_at hW0, (by show 1 ≤ sizeLine; decide), fun t1 n1 => ?_⟩
          have nDt : D ≠ t1 := ne_of_none hD n1
          have kp : ∀ b xs, H1 b = some (.tup xs) → (upd (upd H1 t1 (.tup [.str x])) D (.lst (vs ++ [.ref t1]))) b = some (.tup xs) := fun b xs z => by
            rw [upd_ne (fun y => by rw [y, hD] at z; cases z), upd_ne (ne_of_none z n1)]
            exact z
          refine ⟨D, _, _, rfl, rfl, by rw [upd_ne nDt]; exact hD, szv, _, rfl, _, _, rfl, rfl, r.wr.length, by omega, g.app (.pl x .nil), r, at_ + 1, rfl, rfl, ⟨?_, (ex1.trans (Ex.new n1)).mut nD, ⟨vs ++ [.ref t1], upd_same, ?_⟩, o2, B.deep, by omega, fun j y hj => ?_, s2⟩⟩
          · rw [Fo.app_assoc]
            exact B.app
          · exact FoAt.app g (.pl x .nil) vs [.ref t1] (FoAt.keep kp g vs hF) ⟨t1, [], rfl, by rw [upd_ne nDt.symm, upd_same], rfl⟩
          · rw [show at_ + 1 + j = at_ + (j + 1) by omega]
            exact B.wd (j + 1) y hj
        | pr a' i c r =>
          exfalso
          have h1 : max (1 + i.deep) r.deep ≤ 0 := B.deep
          omega
      · have hge : ¬ ((at_ : Int) < ((p + f.wr.length : Nat) : Int)) := of_decide_eq_false hb
        have B1 := B.exx e1
        obtain ⟨vs, hD, hF⟩ := B1.lst
        have hpos := B.pos
        have hn : h = .nil := by
          cases h with
          | nil => rfl
          | pl x r =>
            exfalso
            have : (Fo.wr (.pl x r)).length = r.wr.length + 1 := rfl
            omega
          | pr a' i c r =>
            exfalso
            have : (Fo.wr (.pr a' i c r)).length = (i.wr ++ c :: r.wr).length + 1 := rfl
            omega
        have hg : g = f := by
          rw [← B.app, hn, Fo.app_nil]
        rw [hg] at hF
        exact ⟨_, rfl, D, _, rfl, .inl ⟨sq_of hD, fun u nu => q u vs _ (B1.ex.trans (Ex.new nu)) upd_same (FoAt.ex (Ex.new nu) hF)⟩⟩
  | n + 1, k => by
    have nd := scLawB.nd
    have G : FnOk P w K mg base CX0 (k + 1 + n) f fd ["sheet", "word", "told", "low", "high"] (spLawB K n) := ok_lawB F b g mt n k
    refine F.ok scLawB (fun vs H Q E h => ?_) (fun cdv A outer s H vs Q E hr h => ?_)
    · obtain ⟨s, l, a, os, ps, qs, W, t, f, p, rfl, _⟩ := h
      rfl
    · obtain ⟨s, l, a, os, ps, qs, W, t, f, p, rfl, hS, ⟨ao, ap, ac, g0, g1, g2, g3⟩, hl, ha, htl, ho, hdp, hlen, hwd, hst, q⟩ := h
      refine ⟨_, pss_cons (ps_set (i := 5) nd rfl (.inl rfl) (pe_lst pa_nil)) (pss_cons (ps_set (i := 6) nd rfl (.inl rfl) (pv 3))
        (pss_cons (ps_while PassesOwn.never (pt_cmpR op_lt (pv 6) (pv 4) (nomark _))
          (pss_one (ps_if (pt_cmpR op_in_seq (pe_ix ix_list (pv 1) (pv 6) (fun _ _ => rfl)) (pe_ix ix_tup (pv 0) pe_int (fun _ _ => rfl)) (by rfl))
            (pss_cons (ps_expr (pe_bm PySem.F.plainAttrs_list PySem.F.slot_list_append PySem.F.type_list_append mt_append (pv 5) (pa_cons (pe_tup (pa_cons (pe_ix ix_list (pv 1) (pv 6) (fun _ _ => rfl)) pa_nil)) pa_nil))) (pss_one (ps_set (i := 6) nd rfl (.inl rfl) (pe_op op_add (pv 6) pe_int))))
            (pss_cons (ps_expr (pe_bm PySem.F.plainAttrs_list PySem.F.slot_list_append PySem.F.type_list_append mt_append (pv 5) (pa_cons (pe_tup (pa_cons (pe_ix ix_list (pv 1) (pv 6) (fun _ _ => rfl)) (pa_cons (pe_call G hr (by rfl) g F.kp b .nil pass0 (pa_cons (pv 0) (pa_cons (pv 1) (pa_cons (pv 2) (pa_cons (pe_op op_add (pv 6) pe_int) (pa_cons (pe_ix ix_list (pv 2) (pv 6) (fun _ _ => rfl)) pa_nil)))))) (pa_cons (pe_ix ix_list (pv 1) (pe_ix ix_list (pv 2) (pv 6) (fun _ _ => rfl)) (fun _ _ => rfl)) pa_nil)))) pa_nil))) (pss_one (ps_set (i := 6) nd rfl (.inl rfl) (pe_op op_add (pe_ix ix_list (pv 2) (pv 6) (fun _ _ => rfl)) pe_int)))))))
        (pss_one (ps_ret (pe_callTy call_tuple_of (by rfl) mt (by decide +kernel) (pa_cons (pv 5) pa_nil)))))), ?_⟩
      refine ⟨Nat.zero_le _, fun D nD => ⟨_, rfl, ?_⟩⟩
      refine q_while (fun m σ' H' => ∃ (g h : Fo) (at_ : Nat), m = h.wr.length ∧ σ' = [some (.ref s), some (.ref l), some (.ref a), some (nV p), some (nV (p + f.wr.length)), some (.ref D), some (nV at_)] ∧ BGo K H (n + 1) os ps qs W t f p D g h at_ H') f.wr.length
        ⟨.nil, f, p, rfl, rfl, ⟨rfl, Ex.new nD, ⟨[], upd_same, rfl⟩, ho, hdp, rfl, hwd, hst⟩⟩ ?_
      rintro m σ' H' ⟨g, h, at_, rfl, rfl, B⟩
      refine ⟨decide ((at_ : Int) < ((p + f.wr.length : Nat) : Int)), et_test (ev_op (ev_var rfl) (ev_var rfl) rv_I0), fun hb H1 e1 => ?_, fun hb H1 e1 => ?_⟩
      · have hlt := of_decide_eq_true hb
        have B1 := B.exx e1
        obtain ⟨vs, hD, hF⟩ := B1.lst
        have hgl : g.wr.length + h.wr.length = f.wr.length := by
          rw [← B.app, Fo.wr_app, List.length_append]
        have hvl := FoAt.len g vs hF
        have ex1 := B1.ex
        have szv : vs.length < sizeLine := sz_lt (by omega)
        refine ⟨fun σ2 H2 => ∃ m', m' < h.wr.length ∧ ∃ (g h : Fo) (at_ : Nat), m' = h.wr.length ∧ σ2 = [some (.ref s), some (.ref l), some (.ref a), some (nV p), some (nV (p + f.wr.length)), some (.ref D), some (nV at_)] ∧ BGo K H (n + 1) os ps qs W t f p D g h at_ H2, fun σ2 H2 hh => hh, ?_⟩
        have hpos := B.pos
        cases h with
        | nil =>
          exfalso
          have : (Fo.wr .nil).length = 0 := rfl
          omega
        | pl x r =>
          obtain ⟨o1, o2⟩ := B.ok
          obtain ⟨s1, s2⟩ := B.st
          have hlr : (Fo.wr (.pl x r)).length = r.wr.length + 1 := rfl
          have hW0 : W[at_]? = some x := B.wd 0 x rfl
          refine ⟨_, rfl, _, rfl, l, _, _, .str x, rfl, rfl, ex_l ex1 hl, str_at hW0, _, rfl, s, _, 1, .ref ap, rfl, rfl, st_of (ex1 _ _ g0), rfl, ap, _, rfl, .inr (st_of (ex1 _ _ g2)), rfl, flat_str ps, _, rfl, ?_⟩
          show if inV (.str x) (ps.map V.str) = true then _ else _
          rw [inV_str, decide_eq_true o1]
          refine iteT ⟨_, rfl, .inl ⟨rfl, _, sq_of hD⟩, _, rfl, _, rfl, l, _, _, .str x, rfl, rfl, ex_l ex1 hl, str_at hW0, (by show 1 ≤ sizeLine; decide), fun t1 n1 => ?_⟩
          have nDt : D ≠ t1 := ne_of_none hD n1
          have kp : ∀ b xs, H1 b = some (.tup xs) → (upd (upd H1 t1 (.tup [.str x])) D (.lst (vs ++ [.ref t1]))) b = some (.tup xs) := fun b xs z => by
            rw [upd_ne (fun y => by rw [y, hD] at z; cases z), upd_ne (ne_of_none z n1)]
            exact z
          refine ⟨D, _, _, rfl, rfl, by rw [upd_ne nDt]; exact hD, szv, _, rfl, _, _, rfl, rfl, r.wr.length, by omega, g.app (.pl x .nil), r, at_ + 1, rfl, rfl, ⟨?_, (ex1.trans (Ex.new n1)).mut nD, ⟨vs ++ [.ref t1], upd_same, ?_⟩, o2, B.deep, by omega, fun j y hj => ?_, s2⟩⟩
          · rw [Fo.app_assoc]
            exact B.app
          · exact FoAt.app g (.pl x .nil) vs [.ref t1] (FoAt.keep kp g vs hF) ⟨t1, [], rfl, by rw [upd_ne nDt.symm, upd_same], rfl⟩
          · rw [show at_ + 1 + j = at_ + (j + 1) by omega]
            exact B.wd (j + 1) y hj
        | pr a' i c r =>
          obtain ⟨o1, o2, o3, o4⟩ := B.ok
          obtain ⟨s1, s2, s3, s4⟩ := B.st
          have hdd : max (1 + i.deep) r.deep ≤ n + 1 := B.deep
          have hwe : Fo.wr (.pr a' i c r) = a' :: (i.wr ++ c :: r.wr) := rfl
          have hlr : (Fo.wr (.pr a' i c r)).length = i.wr.length + r.wr.length + 2 := by
            rw [hwe, List.length_cons, List.length_append, List.length_cons]
            omega
          have hW0 : W[at_]? = some a' := B.wd 0 a' rfl
          have hWi : ∀ j y, i.wr[j]? = some y → W[at_ + 1 + j]? = some y := fun j y hj => by
            rw [show at_ + 1 + j = at_ + (j + 1) by omega]
            refine B.wd (j + 1) y ?_
            show (i.wr ++ c :: r.wr)[j]? = some y
            rw [List.getElem?_append_left (List.getElem?_eq_some_iff.mp hj).1]
            exact hj
          have hWr : ∀ j y, (c :: r.wr)[j]? = some y → W[at_ + 1 + i.wr.length + j]? = some y := fun j y hj => by
            rw [show at_ + 1 + i.wr.length + j = at_ + (i.wr.length + j + 1) by omega]
            refine B.wd (i.wr.length + j + 1) y ?_
            show (i.wr ++ c :: r.wr)[i.wr.length + j]? = some y
            rw [List.getElem?_append_right (by omega), show i.wr.length + j - i.wr.length = j by omega]
            exact hj
          have hW1 : W[at_ + 1 + i.wr.length]? = some c := hWr 0 c rfl
          have hlt0 := (List.getElem?_eq_some_iff.mp hW0).1
          have ta : atI (t.map oV) (at_ : Int) = some (nV (at_ + 1 + i.wr.length)) := by
            have := t_at (t := t) (a := at_) (by omega)
            rw [s1] at this
            exact this
          refine ⟨_, rfl, _, rfl, l, _, _, .str a', rfl, rfl, ex_l ex1 hl, str_at hW0, _, rfl, s, _, 1, .ref ap, rfl, rfl, st_of (ex1 _ _ g0), rfl, ap, _, rfl, .inr (st_of (ex1 _ _ g2)), rfl, flat_str ps, _, rfl, ?_⟩
          show if inV (.str a') (ps.map V.str) = true then _ else _
          rw [inV_str, decide_eq_false (hS.op_pl o1)]
          refine iteF ⟨_, rfl, .inl ⟨rfl, _, sq_of hD⟩, _, rfl, _, rfl, l, _, _, .str a', rfl, rfl, ex_l ex1 hl, str_at hW0, ?_⟩
          refine ⟨_, rfl, _, rfl, _, rfl, _, rfl, _, _, rfl, rfl, _, rfl, _, rfl, a, _, _, nV (at_ + 1 + i.wr.length), rfl, rfl, ex_l ex1 ha, ta, s, l, a, os, ps, qs, W, t, i, at_ + 1, rfl, hS, ⟨ao, ap, ac, ex1 _ _ g0, ex1 _ _ g1, ex1 _ _ g2, ex1 _ _ g3⟩, ex_l ex1 hl, ex_l ex1 ha, htl, o2, by omega, by omega, hWi, s3, fun u us H2 e2 hu hFi => ?_⟩
          have ex2 := ex1.trans e2
          have hD2 := e2 _ _ hD
          refine ⟨_, rfl, _, rfl, _, rfl, a, _, _, nV (at_ + 1 + i.wr.length), rfl, rfl, ex_l ex2 ha, ta, l, _, _, .str c, rfl, rfl, ex_l ex2 hl, str_at hW1, (by show 3 ≤ sizeLine; decide), fun t1 n1 => ?_⟩
          have nDt : D ≠ t1 := ne_of_none hD2 n1
          have kp : ∀ b xs, H2 b = some (.tup xs) → (upd (upd H2 t1 (.tup [.str a', .ref u, .str c])) D (.lst (vs ++ [.ref t1]))) b = some (.tup xs) := fun b xs z => by
            rw [upd_ne (fun y => by rw [y, hD2] at z; cases z), upd_ne (ne_of_none z n1)]
            exact z
          have ex3 := (ex2.trans (Ex.new (o := .tup [.str a', .ref u, .str c]) n1)).mut (o := .lst (vs ++ [.ref t1])) nD
          refine ⟨D, _, _, rfl, rfl, by rw [upd_ne nDt]; exact hD2, szv, _, rfl, _, rfl, a, _, _, nV (at_ + 1 + i.wr.length), rfl, rfl, ex_l ex3 ha, ta, _, _, rfl, rfl, r.wr.length, by omega, g.app (.pr a' i c .nil), r, at_ + 1 + i.wr.length + 1, rfl, rfl, ⟨?_, ex3, ⟨vs ++ [.ref t1], upd_same, ?_⟩, o4, by omega, by omega, fun j y hj => ?_, s4⟩⟩
          · rw [Fo.app_assoc]
            exact B.app
          · exact FoAt.app g (.pr a' i c .nil) vs [.ref t1] (FoAt.keep kp g vs (FoAt.ex e2 hF)) ⟨t1, u, us, [], rfl, by rw [upd_ne nDt.symm, upd_same], kp _ _ hu, FoAt.keep kp i us hFi, rfl⟩
          · rw [show at_ + 1 + i.wr.length + 1 + j = at_ + 1 + i.wr.length + (j + 1) by omega]
            exact hWr (j + 1) y hj
      · have hge : ¬ ((at_ : Int) < ((p + f.wr.length : Nat) : Int)) := of_decide_eq_false hb
        have B1 := B.exx e1
        obtain ⟨vs, hD, hF⟩ := B1.lst
        have hpos := B.pos
        have hn : h = .nil := by
          cases h with
          | nil => rfl
          | pl x r =>
            exfalso
            have : (Fo.wr (.pl x r)).length = r.wr.length + 1 := rfl
            omega
          | pr a' i c r =>
            exfalso
            have : (Fo.wr (.pr a' i c r)).length = (i.wr ++ c :: r.wr).length + 1 := rfl
            omega
        have hg : g = f := by
          rw [← B.app, hn, Fo.app_nil]
        rw [hg] at hF
        exact ⟨_, rfl, D, _, rfl, .inl ⟨sq_of hD, fun u nu => q u vs _ (B1.ex.trans (Ex.new nu)) upd_same (FoAt.ex (Ex.new nu) hF)⟩⟩
end
end Eh
set_option Elab.async false
set_option linter.all false
set_option maxRecDepth 100000
set_option maxHeartbeats 4000000
namespace Eh
open PySem PySem.Spec PyProof.Rows L2 Evl
abbrev nRight : List Str := ["sheet", "word", "told", "fault", "handed", "found", "told_word"]
theorem scRight : FnScope nRight ["sheet", "word"] (defScope sRight) := ⟨rfl, rfl, rfl, by decide +kernel, rfl, by decide +kernel, by decide +kernel⟩
theorem lay_two {x : Str} (h : PyData.strOk x = true) (p : Int) : PyData.canLay0 (.tuple [.str x, .int p]) = true := by
  show (PyData.strOk x && (true && true)) = true
  rw [h]
  rfl
theorem shaped_two {x : Str} (h : PyData.strOk x = true) (p : Int) : SeqAt.shaped (.tuple [.str x, .int p]) = true := by
  unfold SeqAt.shaped
  rw [lay_two h]
  rfl
abbrev LW : Nat := 212
section
variable {P : Program} {w : World} {K : PySem.W.Frag} {mg : Str → Option Value} {base : Heap}
def spRight : Sp := fun vs H Q _ => ∃ (s l : Addr) (os ps qs ws : List Str), vs = [.ref s, .ref l] ∧ Sht os ps qs ∧ SheetAt H s os ps qs ∧ H l = some (lS ws) ∧ (∀ x ∈ ws, x ∈ os ++ ps ++ qs) ∧ ws.length ≤ 201 ∧ ∀ H', Ex H H' → Q (.bl true) H'
theorem ok_right {f f1 f2 f3 f4 f5 f6 : Addr} {fd d1 d2 d3 d4 d5 d6 : FuncData} (F : Fun K "_law_right" "_law_right" sRight f fd)
    (F1 : Fun K "_law_answers" "_law_answers" sAns f1 d1) (G1 : FnOk P w K mg base CX0 LW f1 d1 ["sheet", "word"] (spAnswers K)) (b1 : Binds K d1 ["sheet", "word"] []) (g1 : mg "_law_answers" = some (.ref f1))
    (F2 : Fun K "_law_fault" "_law_fault" sFault f2 d2) (G2 : FnOk P w K mg base CX0 LW f2 d2 ["sheet", "word", "told"] (spFault K)) (b2 : Binds K d2 ["sheet", "word", "told"] []) (g2 : mg "_law_fault" = some (.ref f2))
    (F3 : Fun K "_law_told" "_law_told" sTold f3 d3) (G3 : FnOk P w K mg base CX0 LW f3 d3 ["sheet", "word"] (spTold K)) (b3 : Binds K d3 ["sheet", "word"] []) (g3 : mg "_law_told" = some (.ref f3))
    (F4 : Fun K "_law_same" "_law_same" sSame f4 d4) (G4 : FnOk P w K mg base CX0 LW f4 d4 ["found", "due"] (spSame 202)) (G4L : FnOk P w K mg base CX0 LW f4 d4 ["found", "due"] spSameL) (b4 : Binds K d4 ["found", "due"] []) (g4 : mg "_law_same" = some (.ref f4))
    (F5 : Fun K "_law_boughs" "_law_boughs" sLawB f5 d5) (G5 : FnOk P w K mg base CX0 LW f5 d5 ["sheet", "word", "told", "low", "high"] (spLawB K 100)) (b5 : Binds K d5 ["sheet", "word", "told", "low", "high"] []) (g5 : mg "_law_boughs" = some (.ref f5))
    (F6 : Fun K "word_by" "word_by" sWordBy f6 d6) (G6 : FnOk P w K mg base CX0 LW f6 d6 ["boughs"] spWordBy) (b6 : Binds K d6 ["boughs"] []) (g6 : mg "word_by" = some (.ref f6))
    (ml : mg "len" = none) (mli : mg "list" = none) : FnOk P w K mg base CX0 (LW + 1) f fd ["sheet", "word"] spRight := by
  have nd := scRight.nd
  refine F.ok scRight (fun vs H Q E h => ?_) (fun cdv A outer s H vs Q E hr h => ?_)
  · obtain ⟨s, l, os, ps, qs, ws, rfl, _⟩ := h
    rfl
  · obtain ⟨s, l, os, ps, qs, ws, rfl, hS, hs, hl, hw, hlen, q⟩ := h
    refine ⟨_, pss_cons (ps_set (i := 2) nd rfl (.inl rfl) (pe_call G1 hr (by rfl) g1 F1.kp b1 .nil pass0 (pa_cons (pv 0) (pa_cons (pv 1) pa_nil))))
      (pss_cons (ps_set (i := 3) nd rfl (.inl rfl) (pe_call G2 hr (by rfl) g2 F2.kp b2 .nil pass0 (pa_cons (pv 0) (pa_cons (pv 1) (pa_cons (pv 2) pa_nil)))))
      (pss_cons (ps_set (i := 4) nd rfl (.inl rfl) (pe_callTy call_list_of (by rfl) mli (by decide +kernel) (pa_cons (pv 1) pa_nil)))
      (pss_cons (ps_set (i := 5) nd rfl (.inl rfl) (pe_call G3 hr (by rfl) g3 F3.kp b3 .nil pass0 (pa_cons (pv 0) (pa_cons (pv 4) pa_nil))))
      (pss_cons (ps_if (pt_cmpR (op_neD hr.units) (pv 4) (pv 1) (nomark _)) (pss_one ps_never) pss_nil)
      (pss_cons (ps_if (pt_cmpR op_notN (pv 3) pe_non (nomark _)) (pss_one (ps_ret (pe_cmpR (op_eqD hr.units) (pv 5) (pe_tup (pa_cons pe_str (pa_cons (pv 3) pa_nil))) (nomark _)))) pss_nil)
      (pss_cons (ps_if (pt_not (pt_val (pe_call G4 hr (by rfl) g4 F4.kp b4 .nil pass0 (pa_cons (pv 5) (pa_cons (pe_call G5 hr (by rfl) g5 F5.kp b5 .nil pass0 (pa_cons (pv 0) (pa_cons (pv 1) (pa_cons (pv 2) (pa_cons pe_int (pa_cons (pe_callB call_len_seq (by rfl) ml PySem.boot_len (pa_cons (pv 1) pa_nil)) pa_nil)))))) pa_nil))))) (pss_one ps_never) pss_nil)
      (pss_cons (ps_set (i := 6) nd rfl (.inl rfl) (pe_call G6 hr (by rfl) g6 F6.kp b6 .nil pass0 (pa_cons (pv 5) pa_nil)))
      (pss_cons (ps_expr (pe_bm PySem.F.plainAttrs_list PySem.F.slot_list_append PySem.F.type_list_append mt_append (pv 6) (pa_cons pe_str pa_nil)))
      (pss_one (ps_ret (pe_call G4L hr (by rfl) g4 F4.kp b4 .nil pass0 (pa_cons (pe_call G6 hr (by rfl) g6 F6.kp b6 .nil pass0 (pa_cons (pv 5) pa_nil)) (pa_cons (pv 1) pa_nil))))))))))))), ?_⟩
    have haz : ∀ x ∈ ws, ∀ c ∈ cs x, az c := fun x hx => (hS.lt x (hw x hx)).1
    refine ⟨_, rfl, _, rfl, s, l, os, ps, qs, ws, rfl, hS, hs, sq_of hl, hw, by omega, fun T H1 e1 nT hT => ?_⟩
    refine ⟨_, rfl, _, rfl, _, rfl, s, l, T, os, ps, qs, ws, ansOf os qs ws, rfl, hS, hs.ex e1, sq_of (e1 _ _ hl), sq_of hT, ansOf_len _ _ _, by omega, fun H2 e2 => ?_⟩
    have e12 := e1.trans e2
    refine ⟨_, rfl, l, _, rfl, .inl (sq_of (e12 _ _ hl)), fun hd nh => ?_⟩
    have e3 := e12.trans (Ex.new (o := lS ws) nh)
    refine ⟨_, rfl, _, rfl, s, hd, os, ps, qs, ws, rfl, hS, hs.ex e3, sq_of upd_same, hw, by omega, fun fo ho ef u us H4 e4 hu hF => ?_, fun p r hal t H4 e4 ht => ?_⟩
    · have ex4 := e3.trans e4
      have hh4 := e4 _ _ (show (upd H2 hd (lS ws)) hd = some (lS ws) from upd_same)
      refine ⟨_, rfl, _, rfl, .list (ws.map PyData.str), .list (ws.map PyData.str), .lst (sq_of hh4) (dpStrs ws), .lst (sq_of (ex4 _ _ hl)) (dpStrs ws), shapedL haz, shapedL haz, _, rfl, ?_⟩
      rw [show PyData.eqv (.list (ws.map PyData.str)) (.list (ws.map PyData.str)) = true from SeqAt.eqv_refl _ (layStrs ws haz)]
      refine iteF ?_
      have hal : aloneOf os qs ws (ansOf os qs ws) = [] := by
        have := (Fo.word_fo hS fo ho).2.2
        rw [ef] at this
        exact this
      have hst := (Fo.word_fo hS fo ho).1
      rw [ef] at hst
      rw [hal]
      refine ⟨_, rfl, rfl, _, rfl, iteF ?_⟩
      have hdp := Fo.deep_half fo
      have hfl : fo.wr.length = ws.length := by rw [ef]
      have hz : (ws.map V.str).length = fo.wr.length := by rw [List.length_map, ef]
      have hT4 := (((e2.trans (Ex.new nh)).trans e4) _ _ hT)
      refine ⟨_, rfl, _, rfl, _, rfl, _, rfl, _, rfl, l, _, rfl, .inl (sq_of (ex4 _ _ hl)), s, l, T, os, ps, qs, ws, ansOf os qs ws, fo, 0, ?_, hS, hs.ex ex4, sq_of (ex4 _ _ hl), sq_of hT4, ansOf_len _ _ _, ho, by omega, by omega, fun j x hj => ?_, hst, fun v vs' H5 e5 hv hFv => ?_⟩
      · rw [hz, Nat.zero_add]
        rfl
      · rw [ef] at hj
        rw [Nat.zero_add]
        exact hj
      have hFu := FoAt.ex e5 hF
      obtain ⟨q1, q2⟩ := FoAt.eqn fo us vs' (by omega) hFu hFv
      have hul := FoAt.len fo us hFu
      have hE : Eqn (2 * fo.deep + 1 + 1) H5 (.ref u) (.ref v) := .inr ⟨u, v, us, vs', rfl, rfl, e5 _ _ hu, hv, q1, by omega, q2⟩
      refine ⟨_, _, rfl, Eqn.le (by omega) hE, fun H6 e6 => ⟨_, rfl, iteF ?_⟩⟩
      have ex6 := (ex4.trans e5).trans e6
      have e46 := e5.trans e6
      refine ⟨_, rfl, u, us, fo, rfl, e46 _ _ hu, FoAt.ex e46 hF, by omega, fun lw H7 e7 nl hlw => ?_⟩
      refine ⟨_, rfl, .inl ⟨rfl, _, sq_of hlw⟩, lw, _, _, rfl, rfl, hlw, sz_lt (by rw [List.length_map]; omega), ?_⟩
      have e68 := e7.mut (o := .lst (fo.wr.map V.str ++ [.str ""])) nl
      have e48 := e46.trans e68
      refine ⟨_, rfl, u, us, fo, rfl, e48 _ _ hu, FoAt.ex e48 hF, by omega, fun l2 H9 e9 n2 hl2 => ?_⟩
      have ex9 := (ex6.trans e68).trans e9
      rw [ef] at hl2
      exact ⟨_, rfl, l2, l, ws, rfl, hl2, ex9 _ _ hl, by omega, fun H10 e10 => q H10 (ex9.trans e10)⟩
    · have ex4 := e3.trans e4
      have hh4 := e4 _ _ (show (upd H2 hd (lS ws)) hd = some (lS ws) from upd_same)
      refine ⟨_, rfl, _, rfl, .list (ws.map PyData.str), .list (ws.map PyData.str), .lst (sq_of hh4) (dpStrs ws), .lst (sq_of (ex4 _ _ hl)) (dpStrs ws), shapedL haz, shapedL haz, _, rfl, ?_⟩
      rw [show PyData.eqv (.list (ws.map PyData.str)) (.list (ws.map PyData.str)) = true from SeqAt.eqv_refl _ (layStrs ws haz)]
      refine iteF ?_
      rw [hal]
      refine ⟨_, rfl, rfl, _, rfl, iteT ?_⟩
      refine ⟨_, rfl, _, rfl, (by show 2 ≤ sizeLine; decide), fun t2 n2 => ⟨.tuple [.str "shut", .int (p : Int)], .tuple [.str "shut", .int (p : Int)], .tup (st_of (Ex.new n2 _ _ ht)) (.cons (.str _) (.cons (.int _) .nil)), .tup (st_of upd_same) (.cons (.str _) (.cons (.int _) .nil)), ?_, ?_, ?_⟩⟩
      · exact shaped_two (by decide +kernel) _
      · exact shaped_two (by decide +kernel) _
      · rw [show PyData.eqv (.tuple [.str "shut", .int (p : Int)]) (.tuple [.str "shut", .int (p : Int)]) = true from SeqAt.eqv_refl _ (lay_two (by decide +kernel) _)]
        exact q _ (ex4.trans (Ex.new n2))
end
end Eh
set_option Elab.async false
set_option linter.all false
set_option maxRecDepth 100000
set_option maxHeartbeats 4000000
namespace Eh
open PySem PySem.Spec PyProof.Rows L2 Evl
abbrev nLaw : List Str := ["script", "pot", "turn", "sheet", "word", "order", "at", "put", "other", "k"]
theorem scLaw : FnScope nLaw ["script"] (defScope sLaw) := ⟨rfl, rfl, rfl, by decide +kernel, rfl, by decide +kernel, by decide +kernel⟩
theorem draw_ordJ {K : PySem.W.Frag} {p c r : Addr} {ns : List Int} {H : Hp} {σ : L2.St} {ys : List Str} {Q : VK} {j jp : Nat} (hP : Pot p c ns H) (h0 : σ[jp]? = some (some (.ref p))) (hj : σ[j]? = some (some (.ref r))) (hy : H r = some (lS ys)) (y0 : ys ≠ []) (y1 : ys.length ≤ 1000)
    (k : ∀ x H', x ∈ ys → Keep p H H' → Pot p c ns H' → Q (.str x) H') : tOp (rIxL K) (tVar j) (tCall spPick [] E0 (tCons (tVar jp) (tCons (tCB (rLenS K) (tCons (tVar j) tNil)) tNil))) σ H Q := by
  have hl : 0 < ys.length := by
    cases ys with
    | nil => exact absurd rfl y0
    | cons _ _ => exact Nat.succ_pos _
  refine ⟨_, hj, _, h0, _, hj, r, _, rfl, .inl (sq_of hy), p, c, ns, _, rfl, ?_, ?_, hP, fun v H' hv kp hP' => ?_⟩
  · rw [List.length_map]
    omega
  · rw [List.length_map]
    omega
  · rw [List.length_map] at hv
    have hv' : v < ys.length := by omega
    refine ⟨r, _, _, .str ys[v], rfl, rfl, sq_of (kp _ _ (lS_ne hP hy) hy), atI_nat ?_, k _ H' (List.getElem_mem hv') kp hP'⟩
    rw [List.getElem?_map, List.getElem?_eq_getElem hv']
    rfl
theorem menuM {v : Nat} (h : v < 4) (k : Bool) : ∃ m : Nat, m ≤ 100 ∧ atI [V.int 30, .int 30, .int 30, .int 100] ((v : Int) * (if k then 1 else 0)) = some (.int (m : Int)) := by
  rcases (show v = 0 ∨ v = 1 ∨ v = 2 ∨ v = 3 by omega) with rfl | rfl | rfl | rfl <;> cases k
  · exact ⟨30, by omega, rfl⟩
  · exact ⟨30, by omega, rfl⟩
  · exact ⟨30, by omega, rfl⟩
  · exact ⟨30, by omega, rfl⟩
  · exact ⟨30, by omega, rfl⟩
  · exact ⟨30, by omega, rfl⟩
  · exact ⟨30, by omega, rfl⟩
  · exact ⟨100, by omega, rfl⟩
section
variable {P : Program} {w : World} {K : PySem.W.Frag} {mg : Str → Option Value} {base : Heap}
abbrev LV : Nat := LW + 1
def spLaw (K : PySem.W.Frag) : Sp := fun vs H Q _ => ∃ (a : Addr) (ns : List Int), vs = [.ref a] ∧ SqL K H a (ns.map V.int) ∧ ns.length ≤ 63 ∧ ∀ H', Q (.bl true) H'
theorem ok_law {f f1 f2 f3 f4 f5 f6 : Addr} {fd d1 d2 d3 d4 d5 d6 : FuncData} (F : Fun K "law" "law" sLaw f fd)
    (F1 : Fun K "_law_pot" "_law_pot" sPot f1 d1) (G1 : FnOk P w K mg base CX0 LV f1 d1 ["script"] (spPot K)) (b1 : Binds K d1 ["script"] []) (g1 : mg "_law_pot" = some (.ref f1))
    (F2 : Fun K "_law_sheet" "_law_sheet" sSheet f2 d2) (G2 : FnOk P w K mg base CX0 LV f2 d2 ["pot", "most"] spSheet) (b2 : Binds K d2 ["pot", "most"] []) (g2 : mg "_law_sheet" = some (.ref f2))
    (F3 : Fun K "_law_shut" "_law_shut" sShut f3 d3) (G3 : FnOk P w K mg base CX0 LV f3 d3 ["pot", "sheet", "most"] spShut) (b3 : Binds K d3 ["pot", "sheet", "most"] []) (g3 : mg "_law_shut" = some (.ref f3))
    (F4 : Fun K "_law_pick" "_law_pick" sPick f4 d4) (G4 : FnOk P w K mg base CX0 LV f4 d4 ["pot", "many"] spPick) (b4 : Binds K d4 ["pot", "many"] []) (g4 : mg "_law_pick" = some (.ref f4))
    (F5 : Fun K "_law_order" "_law_order" sOrder f5 d5) (G5 : FnOk P w K mg base CX0 LV f5 d5 ["sheet"] spOrder) (b5 : Binds K d5 ["sheet"] []) (g5 : mg "_law_order" = some (.ref f5))
    (F6 : Fun K "_law_right" "_law_right" sRight f6 d6) (G6 : FnOk P w K mg base CX0 LV f6 d6 ["sheet", "word"] spRight) (b6 : Binds K d6 ["sheet", "word"] []) (g6 : mg "_law_right" = some (.ref f6))
    (ml : mg "len" = none) (mr : mg "range" = none) (mint : mg "int" = none) : FnOk P w K mg base CX0 (LV + 1) f fd ["script"] (spLaw K) := by
  have nd := scLaw.nd
  refine F.ok scLaw (fun vs H Q E h => ?_) (fun cdv A outer s H vs Q E hr h => ?_)
  · obtain ⟨a, ns, rfl, _⟩ := h
    rfl
  · obtain ⟨a, ns, rfl, hA, hns, q⟩ := h
    refine ⟨_, pss_cons (ps_set (i := 1) nd rfl (.inr rfl) (pe_call G1 hr (by rfl) g1 F1.kp b1 .nil pass0 (pa_cons (pv 0) pa_nil)))
      (pss_cons (ps_for PassesOwn.never rfl (pi_range1 (by rfl) mr (pa_cons pe_int pa_nil)) (pg_name (i := 2) nd rfl (.inl rfl))
        (pss_cons (ps_set (i := 3) nd rfl (.inl rfl) (pe_call G2 hr (by rfl) g2 F2.kp b2 .nil pass0 (pa_cons (pv 1) (pa_cons pe_int pa_nil))))
        (pss_cons (ps_set (i := 4) nd rfl (.inl rfl) (pe_call G3 hr (by rfl) g3 F3.kp b3 .nil pass0 (pa_cons (pv 1) (pa_cons (pv 3) (pa_cons (pe_ix ix_list (pe_lst (pa_cons pe_int (pa_cons pe_int (pa_cons pe_int (pa_cons pe_int pa_nil))))) (pe_op op_mul (pe_call G4 hr (by rfl) g4 F4.kp b4 .nil pass0 (pa_cons (pv 1) (pa_cons pe_int pa_nil))) (pe_callTy call_int1 (by rfl) mint (by decide +kernel) (pa_cons (pe_cmpR op_eq (pv 2) pe_int (nomark _)) pa_nil))) (fun _ _ => rfl)) pa_nil)))))
        (pss_cons (ps_set (i := 5) nd rfl (.inr rfl) (pe_call G5 hr (by rfl) g5 F5.kp b5 .nil pass0 (pa_cons (pv 3) pa_nil)))
        (pss_cons (ps_set (i := 6) nd rfl (.inl rfl) (pe_call G4 hr (by rfl) g4 F4.kp b4 .nil pass0 (pa_cons (pv 1) (pa_cons (pe_op op_add (pe_callB call_len_seq (by rfl) ml PySem.boot_len (pa_cons (pv 4) pa_nil)) pe_int) pa_nil))))
        (pss_cons (ps_set (i := 7) nd rfl (.inl rfl) (pe_slice sl_list (pe_lst (pa_cons (pe_ix ix_list (pv 5) (pe_call G4 hr (by rfl) g4 F4.kp b4 .nil pass0 (pa_cons (pv 1) (pa_cons (pe_callB call_len_seq (by rfl) ml PySem.boot_len (pa_cons (pv 5) pa_nil)) pa_nil))) (fun _ _ => rfl)) pa_nil)) po_none (po_some (pe_call G4 hr (by rfl) g4 F4.kp b4 .nil pass0 (pa_cons (pv 1) (pa_cons pe_int pa_nil))))))
        (pss_cons (ps_set (i := 8) nd rfl (.inl rfl) (pe_op op_cat (pe_op op_cat (pe_slice sl_list (pv 4) po_none (po_some (pv 6))) (pv 7)) (pe_slice sl_list (pv 4) (po_some (pe_op op_add (pv 6) (pe_call G4 hr (by rfl) g4 F4.kp b4 .nil pass0 (pa_cons (pv 1) (pa_cons pe_int pa_nil))))) po_none)))
        (pss_cons (ps_if (PW.pt (pw_or (pt_not (pt_val (pe_call G6 hr (by rfl) g6 F6.kp b6 .nil pass0 (pa_cons (pv 3) (pa_cons (pv 4) pa_nil))))) (pw_or1 (pt_not (pt_val (pe_call G6 hr (by rfl) g6 F6.kp b6 .nil pass0 (pa_cons (pv 3) (pa_cons (pv 8) pa_nil)))))))) (pss_one ps_never) pss_nil)
        (pss_one (ps_if (pt_not (pt_val (pe_call G6 hr (by rfl) g6 F6.kp b6 .nil pass0 (pa_cons (pv 3) (pa_cons (pe_lc (own := [("k", 9)]) (g := gName 9) (tt := tYes) (te := tOp (rIxL K) (tVar 5) (tCall spPick [] E0 (tCons (tVar 1) (tCons (tCB (rLenS K) (tCons (tVar 5) tNil)) tNil)))) rfl nd (pi_range1 (by rfl) mr (pa_cons (pe_call G4 hr (by rfl) g4 F4.kp b4 .nil pass0 (pa_cons (pv 1) (pa_cons pe_int pa_nil))) pa_nil)) (blkOk_by (own := [("k", 9)]) (N := nLaw) (sc := defScope sLaw) (by decide +kernel)) (fun _ _ _ _ _ => pg_name (i := 9) nd rfl (Or.inl rfl)) (fun _ _ _ _ _ => pts_nil)
          (fun _ _ _ _ _ => pe_ix ix_list (pv 5) (pe_call G4 hr (by rfl) g4 F4.kp b4 .nil pass0 (pa_cons (pv 1) (pa_cons (pe_callB call_len_seq (by rfl) ml PySem.boot_len (pa_cons (pv 5) pa_nil)) pa_nil))) (fun _ _ => rfl))) pa_nil))))) (pss_one ps_never) pss_nil))))))))))
      (pss_one (ps_ret pe_bl))), ?_⟩
    refine ⟨_, rfl, a, ns, rfl, hA, hns, fun p c ms H1 e1 hP1 np nc => ?_⟩
    refine ⟨6, rfl, by decide, by decide, for_range (lo := 0) (n := 6) (fun i σ H' => (∃ y2 y3 y4 y5 y6 y7 y8, σ = [some (.ref a), some (.ref p), y2, y3, y4, y5, y6, y7, y8, none]) ∧ Pot p c ms H') ⟨⟨_, _, _, _, _, _, _, rfl⟩, hP1⟩ ?_ ?_⟩
    · rintro i σ H2 hi ⟨⟨y2, y3, y4, y5, y6, y7, y8, rfl⟩, hP2⟩
      refine ⟨_, rfl, p, c, ms, 4, rfl, by decide, by decide, hP2, fun os ps qs sh H3 hS hs3 kp3 hP3 => ?_⟩
      refine ⟨_, rfl, _, rfl, (by show 4 ≤ sizeLine; decide), fun L4 n4 => ?_⟩
      have x4 : Ex H3 _ := Ex.new (o := .lst [.int 30, .int 30, .int 30, .int 100]) n4
      refine ⟨_, rfl, p, c, ms, 4, rfl, by decide, by decide, hP3.ex x4, fun v H5 hv kp5 hP5 => ?_⟩
      have hL5 := kp5 _ _ (hP3.ne_new n4).1.symm (upd_same (a := L4))
      obtain ⟨m, hm, hat⟩ := menuM (v := v) (by omega) (decide (V.int (0 + (i : Int)) = V.int 0))
      refine ⟨_, rfl, rfl, .inr ⟨_, rfl, _, _, rfl, rfl, .inl ⟨by omega, by omega⟩, L4, _, _, _, rfl, rfl, sq_of hL5, hat, ?_⟩⟩
      have kp35 : Keep p H3 H5 := (Keep.ofEx x4).trans kp5
      have hs5 := hs3.keep hP3 kp35
      refine ⟨p, c, sh, ms, os, ps, qs, m, rfl, by omega, hP5, hS, hs5, fun ws l H6 hwm hwl _ kp6 hP6 nl hl6 => ?_⟩
      have hs6 := hs5.keep hP5 kp6
      refine ⟨_, rfl, sh, os, ps, qs, rfl, hS, hs6, fun r H7 e7 nr hr7 => ?_⟩
      have hP7 := hP6.ex e7
      have hs7 := hs6.ex e7
      have hl7 := e7 _ _ hl6
      have y0 : os ++ ps ++ qs ≠ [] := fun z => by
        have h1 := hS.o1
        have := congrArg List.length z
        rw [List.length_append, List.length_append] at this
        simp only [List.length_nil] at this
        omega
      have y1 : (os ++ ps ++ qs).length ≤ 1000 := by
        rw [List.length_append, List.length_append]
        have := hS.o4
        have := hS.p4
        have := hS.c4
        omega
      -- at
      refine ⟨_, rfl, _, rfl, l, _, rfl, .inl (sq_of hl7), _, _, rfl, rfl, p, c, ms, _, rfl, by rw [List.length_map]; omega, by rw [List.length_map]; omega, hP7, fun at_ H8 hat8 kp8 hP8 => ?_⟩
      have hl8 := kp8 _ _ (lS_ne hP7 hl7) hl7
      have hr8 := kp8 _ _ (lS_ne hP7 hr7) hr7
      have hs8 := hs7.keep hP7 kp8
      -- put
      refine draw_ordJ hP8 rfl rfl hr8 y0 y1 fun z H9 hz kp9 hP9 => ⟨(by show 1 ≤ sizeLine; decide), fun q1 n1 => ?_⟩
      have x9 : Ex H9 _ := Ex.new (o := lS [z]) n1
      refine ⟨_, rfl, p, c, ms, 2, rfl, by decide, by decide, hP9.ex x9, fun v1 H10 hv1 kp10 hP10 => ?_⟩
      have hb10 : H10 q1 = some (lS [z]) := kp10 _ _ (hP9.ne_new n1).1.symm upd_same
      have kp8x : Keep p H8 H10 := (kp9.trans (Keep.ofEx x9)).trans kp10
      have hl10 := kp8x _ _ (lS_ne hP8 hl8) hl8
      have hr10 := kp8x _ _ (lS_ne hP8 hr8) hr8
      have hs10 := hs8.keep hP8 kp8x
      refine ⟨_, rfl, q1, _, rfl, sq_of hb10, fun q2 n2 => ?_⟩
      rw [map_cut0]
      have x11 : Ex H10 _ := Ex.new (o := lS ([z].take v1)) n2
      -- other
      refine ⟨_, rfl, _, rfl, _, rfl, l, _, rfl, sq_of (x11 _ _ hl10), fun a1 na1 => ?_⟩
      rw [map_cut0]
      have x12 := x11.trans (Ex.new (o := lS (ws.take at_)) na1)
      refine ⟨_, rfl, a1, q2, _, _, rfl, rfl, upd_same, Ex.new na1 _ _ upd_same, ?_, fun c1 nc1 => ?_⟩
      · rw [List.length_map, List.length_map, List.length_take, List.length_take]
        exact sz_of (by simp only [List.length_singleton]; omega)
      rw [← List.map_append]
      have x13 := x12.trans (Ex.new (o := lS (ws.take at_ ++ [z].take v1)) nc1)
      refine ⟨_, rfl, _, rfl, _, rfl, p, c, ms, 2, rfl, by decide, by decide, hP10.ex x13, fun v2 H14 hv2 kp14 hP14 => ?_⟩
      have hc14 := kp14 _ _ (lS_ne (hP10.ex x13) upd_same) (upd_same (a := c1))
      have hl14 := kp14 _ _ (lS_ne (hP10.ex x13) (x13 _ _ hl10)) (x13 _ _ hl10)
      have hr14 := kp14 _ _ (lS_ne (hP10.ex x13) (x13 _ _ hr10)) (x13 _ _ hr10)
      have hs14 := (hs10.ex x13).keep (hP10.ex x13) kp14
      refine ⟨_, _, rfl, rfl, _, rfl, l, _, rfl, sq_of hl14, fun d1 nd1 => ?_⟩
      rw [show (at_ : Int) + (v2 : Int) = ((at_ + v2 : Nat) : Int) from rfl, map_cutF]
      have x15 : Ex H14 _ := Ex.new (o := lS (ws.drop (at_ + v2))) nd1
      refine ⟨c1, d1, _, _, rfl, rfl, x15 _ _ hc14, upd_same, ?_, fun o1 no1 => ?_⟩
      · rw [List.length_map, List.length_map, List.length_append, List.length_take, List.length_take, List.length_drop]
        exact sz_of (by simp only [List.length_singleton]; omega)
      rw [← List.map_append]
      have x16 := x15.trans (Ex.new (o := lS (ws.take at_ ++ [z].take v1 ++ ws.drop (at_ + v2))) no1)
      -- right
      refine ⟨_, rfl, _, rfl, sh, l, os, ps, qs, ws, rfl, hS, hs14.ex x16, x16 _ _ hl14, hwm, by omega, fun H17 e17 => ⟨_, rfl, iteF ?_⟩⟩
      refine ⟨_, rfl, _, rfl, sh, o1, os, ps, qs, ws.take at_ ++ [z].take v1 ++ ws.drop (at_ + v2), rfl, hS, hs14.ex (x16.trans e17), e17 _ _ upd_same, fun x hx => ?_, ?_, fun H18 e18 => ⟨_, rfl, iteF ?_⟩⟩
      · rcases List.mem_append.mp hx with a | a
        · rcases List.mem_append.mp a with a | a
          · exact hwm x (List.mem_of_mem_take a)
          · rw [List.mem_singleton.mp (List.mem_of_mem_take a)]
            exact hz
        · exact hwm x (List.mem_of_mem_drop a)
      · rw [List.length_append, List.length_append, List.length_take, List.length_take, List.length_drop]
        simp only [List.length_singleton]
        omega
      have x18 := (x16.trans e17).trans e18
      have hP18 := hP14.ex x18
      have hr18 := x18 _ _ hr14
      have hs18 := hs14.ex x18
      refine ⟨_, rfl, _, rfl, p, c, ms, 9, rfl, by decide, by decide, hP18, fun n H19 hn kp19 hP19 => ⟨_, rfl, by omega, by omega, fun D nD => ?_⟩⟩
      have hr19 := kp19 _ _ (lS_ne hP18 hr18) hr18
      have hpD := hP19.ne_new nD
      refine lc_range (lo := 0) (n := ((n : Int)).toNat) (fun i H' => ∃ ds : List Str, ds.length = i ∧ (∀ d ∈ ds, d ∈ os ++ ps ++ qs) ∧ H' D = some (lS ds) ∧ Keep p H19 H' ∧ Pot p c ms H') ?_ ?_ ?_
      · exact ⟨[], rfl, fun d hd => (List.not_mem_nil hd).elim, upd_same, (Keep.refl p H19).new nD, hP19.new hpD.1 hpD.2⟩
      · rintro i H' hi ⟨ds, hds, hdm, hD, kp, hP'⟩
        refine ⟨rfl, yesT (draw_ordJ hP' rfl rfl (kp _ _ (lS_ne hP19 hr19) hr19) y0 y1 fun x H2' hx kp2' hP2' => ?_)⟩
        refine ⟨_, kp2' _ _ hpD.1.symm hD, ?_, ds ++ [x], ?_, ?_, ?_, (kp.trans kp2').new nD, hP2'.new hpD.1 hpD.2⟩
        · rw [List.length_map]
          exact sz_lt (by omega)
        · rw [List.length_append, hds]
          rfl
        · intro d hd
          rcases List.mem_append.mp hd with a | a
          · exact hdm d a
          · rw [List.mem_singleton.mp a]
            exact hx
        · rw [upd_same, lS_add]
      · rintro H20 ⟨ds, hds, hdm, hD, kp20, hP20⟩
        rw [Int.toNat_natCast] at hds
        refine ⟨sh, D, os, ps, qs, ds, rfl, hS, (hs18.keep hP18 kp19).keep hP19 kp20, hD, hdm, by omega, fun H21 e21 => ⟨_, rfl, iteF ⟨⟨_, _, _, _, _, _, _, rfl⟩, hP20.ex e21⟩⟩⟩
    · rintro σ H' _
      exact q H'
end
end Eh
set_option Elab.async false
set_option linter.all false
set_option maxRecDepth 100000
set_option maxHeartbeats 4000000
namespace Eh
open PySem PySem.Spec PyProof.Rows L2 NdefX
section
variable {K : PySem.W.Frag} {C D : Addr}
theorem kit_yes (ty : PySem.W.typeIn K (.ref D) = some (.type "type")) (is : PySem.W.isClsIn K D = true) (sub : PySem.W.subIn K (.ref C) (.ref D) = some true) : PySem.W.kitOne K (.ref C) (.ref D) = some true := by
  unfold PySem.W.kitOne
  split
  · rfl
  · unfold PySem.W.kitCls
    have e : ((PySem.W.clsIn K D).isSome && PySem.W.typeIn K (.ref D) == some (.type "type")) = true := by
      rw [ty, show (PySem.W.clsIn K D).isSome = true from is]
      rfl
    simp only [e, if_true]
    exact sub
theorem kit_no (ty : PySem.W.typeIn K (.ref D) = some (.type "type")) (is : PySem.W.isClsIn K D = true) (sub : PySem.W.subIn K (.ref C) (.ref D) = some false) (me : PySem.W.subIn K (.ref C) (.ref C) = some true) : PySem.W.kitOne K (.ref C) (.ref D) = some false := by
  unfold PySem.W.kitOne
  split
  · rename_i h
    have z : C = D := Value.ref.inj (beq_iff_eq.mp h)
    rw [← z, me] at sub
    cases sub
  · unfold PySem.W.kitCls
    have e : ((PySem.W.clsIn K D).isSome && PySem.W.typeIn K (.ref D) == some (.type "type")) = true := by
      rw [ty, show (PySem.W.clsIn K D).isSome = true from is]
      rfl
    simp only [e, if_true]
    exact sub
theorem kit_val (sub : PySem.W.subIn K (.ref C) (.type "ValueError") = some true) : PySem.W.kitOne K (.ref C) (.type "ValueError") = some true := by
  unfold PySem.W.kitOne
  rw [if_neg (by simp)]
  unfold PySem.W.kitCls
  have e : PySem.W.kitMeta "ValueError" = true := by decide +kernel
  simp only [e, if_true]
  exact sub
end
/-- f'..{f}' of two parts -/
theorem txt_two {st : Stmt} {f t : Str} {p1 p2 p3 p4 : Pos} (kf : (defScope st).names.lookup f = some .local) (f1 : (f == ("__debug__" : Str)) = false) (f2 : (f == ("__classdict__" : Str)) = false) (ht : t.length ≤ 1000) : ∀ X : Cx, X.N = (["self", f, "__class__"] : List Str) → X.env.scope = defScope st → ∃ tJ : TE, PE X (.JoinedStr [.Constant (.str t) 0 p1, .FormattedValue (.Name f p2) (-1) none p3] p4) tJ ∧ ∀ (σ : L2.St) (H : Hp) (n : Int) (Q : VK), n.natAbs.log2 < 1900 → σ[1]? = some (some (V.int n)) → (∀ z : Str, Q (.str z) H) → tJ σ H Q := by
  intro X eN eS
  refine ⟨_, pe_joined (.cons pe_str (.cons (pe_fmt (pe_var (i := 1) (by rw [eN]; rfl) (.inl (by rw [eS]; exact kf)) f1 f2)) .nil)), fun σ H n Q hn h1 q => ?_⟩
  have l1 : (Str.ofString (toString n)).length ≤ 2000 := by
    have e := int_text_length_le (k := 1920) (by decide) (show n.natAbs.log2 < 1920 by omega)
    rw [PySem.ofString_length]
    omega
  have la : ∀ a b : Str, (a ++ b).length = a.length + b.length := fun a b => by
    show (a.cps ++ b.cps).size = _
    rw [Array.size_append]
    rfl
  have l0 : Str.empty.length = 0 := rfl
  refine ⟨t, rfl, ?_, _, h1, .inr ⟨n, rfl, by omega, _, rfl, ?_, q _⟩⟩
  · rw [la, sizeLine_eq]
    omega
  · rw [la, la, sizeLine_eq]
    omega
end Eh
set_option Elab.async false
set_option linter.all false
set_option maxRecDepth 100000
set_option maxHeartbeats 4000000
namespace Eh
open PySem PySem.Spec PyProof.Rows L2 Evl NdefX
theorem all_mk {l : PySem.W.OpenLaw} {w : World} {K : PySem.W.Frag} {h : Heap} {mg : Str → Option Value} {fa f0 f1 f2 f3 f4 f5 f6 f7 f8 f9 f10 f11 f12 f13 f14 f15 f16 f17 f18 f19 f20 f21 : Addr} (X : K.In h) (G : h.Ns mainGlobals mg) (hfa : mg "law" = some (.ref fa))
    {od0 an0 : Option Addr} {sl0 : Array (Option Value)} {oc0 kV0 dc0 pm0 cd0 ct0 : Value}
    {od1 an1 : Option Addr} {sl1 : Array (Option Value)} {oc1 kV1 dc1 pm1 cd1 ct1 : Value}
    {od2 an2 : Option Addr} {sl2 : Array (Option Value)} {oc2 kV2 dc2 pm2 cd2 ct2 : Value}
    {od3 an3 : Option Addr} {sl3 : Array (Option Value)} {oc3 kV3 dc3 pm3 cd3 ct3 : Value}
    {od4 an4 : Option Addr} {sl4 : Array (Option Value)} {oc4 kV4 dc4 pm4 cd4 ct4 : Value}
    {od5 an5 : Option Addr} {sl5 : Array (Option Value)} {oc5 kV5 dc5 pm5 cd5 ct5 : Value}
    {od6 an6 : Option Addr} {sl6 : Array (Option Value)} {oc6 kV6 dc6 pm6 cd6 ct6 : Value}
    {od7 an7 : Option Addr} {sl7 : Array (Option Value)} {oc7 kV7 dc7 pm7 cd7 ct7 : Value}
    {od8 an8 : Option Addr} {sl8 : Array (Option Value)} {oc8 kV8 dc8 pm8 cd8 ct8 : Value}
    {od9 an9 : Option Addr} {sl9 : Array (Option Value)} {oc9 kV9 dc9 pm9 cd9 ct9 : Value}
    {od10 an10 : Option Addr} {sl10 : Array (Option Value)} {oc10 kV10 dc10 pm10 cd10 ct10 : Value}
    {od11 an11 : Option Addr} {sl11 : Array (Option Value)} {oc11 kV11 dc11 pm11 cd11 ct11 : Value}
    {od12 an12 : Option Addr} {sl12 : Array (Option Value)} {oc12 kV12 dc12 pm12 cd12 ct12 : Value}
    {od13 an13 : Option Addr} {sl13 : Array (Option Value)} {oc13 kV13 dc13 pm13 cd13 ct13 : Value}
    {od14 an14 : Option Addr} {sl14 : Array (Option Value)} {oc14 kV14 dc14 pm14 cd14 ct14 : Value}
    {od15 an15 : Option Addr} {sl15 : Array (Option Value)} {oc15 kV15 dc15 pm15 cd15 ct15 : Value}
    {od16 an16 : Option Addr} {sl16 : Array (Option Value)} {oc16 kV16 dc16 pm16 cd16 ct16 : Value}
    {od17 an17 : Option Addr} {sl17 : Array (Option Value)} {oc17 kV17 dc17 pm17 cd17 ct17 : Value}
    {od18 an18 : Option Addr} {sl18 : Array (Option Value)} {oc18 kV18 dc18 pm18 cd18 ct18 : Value}
    {od19 an19 : Option Addr} {sl19 : Array (Option Value)} {oc19 kV19 dc19 pm19 cd19 ct19 : Value}
    {od20 an20 : Option Addr} {sl20 : Array (Option Value)} {oc20 kV20 dc20 pm20 cd20 ct20 : Value}
    {od21 an21 : Option Addr} {sl21 : Array (Option Value)} {oc21 kV21 dc21 pm21 cd21 ct21 : Value}
    {CH C0 C1 C2 C3 C4 C5 C6 C7 C8 C9 C10 : Addr}
    {nm1 qn1 : Str} {N1 : Addr} {bs1 : List Value} {sn1 : List Str} {su1 : List Value} {ab1 : Bool} {co1 : Option Bool} {dd1 : Option Addr} {m01 m11 m21 m31 m51 : Option Value}
    {fI1 cda1 cel1 : Addr} {ocI1 kVI1 dcI1 pmI1 ctI1 cl1 ccl1 : Value} {odI1 anI1 cld1 cdd1 : Option Addr} {slI1 csl1 ccs1 : Array (Option Value)} {vsC1 : Array Value} {fil1 : Str} {tf1 : Tok}
    (a0 : PySem.W.nsIn K mainGlobals "order_of" = some (some (.ref f0)))
    (l0 : K.lookup f0 = some ⟨oc0, od0, .func (PySem.W.fnOf "order_of" "order_of" (defArgs sOrderOf) (defBody sOrderOf) (defScope sOrderOf) .none kV0 dc0 pm0 an0 cd0 ct0), sl0⟩)
    (c0 : PySem.W.codeIn K cd0 "order_of" = true)
    (k0 : PySem.W.keepIn K (.ref f0) = true)
    (a1 : PySem.W.nsIn K mainGlobals "need_word" = some (some (.ref f1)))
    (l1 : K.lookup f1 = some ⟨oc1, od1, .func (PySem.W.fnOf "need_word" "need_word" (defArgs sNeedWord) (defBody sNeedWord) (defScope sNeedWord) .none kV1 dc1 pm1 an1 cd1 ct1), sl1⟩)
    (c1 : PySem.W.codeIn K cd1 "need_word" = true)
    (k1 : PySem.W.keepIn K (.ref f1) = true)
    (a2 : PySem.W.nsIn K mainGlobals "answers" = some (some (.ref f2)))
    (l2 : K.lookup f2 = some ⟨oc2, od2, .func (PySem.W.fnOf "answers" "answers" (defArgs sAnswers) (defBody sAnswers) (defScope sAnswers) .none kV2 dc2 pm2 an2 cd2 ct2), sl2⟩)
    (c2 : PySem.W.codeIn K cd2 "answers" = true)
    (k2 : PySem.W.keepIn K (.ref f2) = true)
    (a3 : PySem.W.nsIn K mainGlobals "alone" = some (some (.ref f3)))
    (l3 : K.lookup f3 = some ⟨oc3, od3, .func (PySem.W.fnOf "alone" "alone" (defArgs sAlone) (defBody sAlone) (defScope sAlone) .none kV3 dc3 pm3 an3 cd3 ct3), sl3⟩)
    (c3 : PySem.W.codeIn K cd3 "alone" = true)
    (k3 : PySem.W.keepIn K (.ref f3) = true)
    (a4 : PySem.W.nsIn K mainGlobals "need_shut" = some (some (.ref f4)))
    (l4 : K.lookup f4 = some ⟨oc4, od4, .func (PySem.W.fnOf "need_shut" "need_shut" (defArgs sNeedShut) (defBody sNeedShut) (defScope sNeedShut) .none kV4 dc4 pm4 an4 cd4 ct4), sl4⟩)
    (c4 : PySem.W.codeIn K cd4 "need_shut" = true)
    (k4 : PySem.W.keepIn K (.ref f4) = true)
    (a5 : PySem.W.nsIn K mainGlobals "boughs" = some (some (.ref f5)))
    (l5 : K.lookup f5 = some ⟨oc5, od5, .func (PySem.W.fnOf "boughs" "boughs" (defArgs sBoughs) (defBody sBoughs) (defScope sBoughs) .none kV5 dc5 pm5 an5 cd5 ct5), sl5⟩)
    (c5 : PySem.W.codeIn K cd5 "boughs" = true)
    (k5 : PySem.W.keepIn K (.ref f5) = true)
    (a6 : PySem.W.nsIn K mainGlobals "word_by" = some (some (.ref f6)))
    (l6 : K.lookup f6 = some ⟨oc6, od6, .func (PySem.W.fnOf "word_by" "word_by" (defArgs sWordBy) (defBody sWordBy) (defScope sWordBy) .none kV6 dc6 pm6 an6 cd6 ct6), sl6⟩)
    (c6 : PySem.W.codeIn K cd6 "word_by" = true)
    (k6 : PySem.W.keepIn K (.ref f6) = true)
    (a7 : PySem.W.nsIn K mainGlobals "_law_blend" = some (some (.ref f7)))
    (l7 : K.lookup f7 = some ⟨oc7, od7, .func (PySem.W.fnOf "_law_blend" "_law_blend" (defArgs sBlend) (defBody sBlend) (defScope sBlend) .none kV7 dc7 pm7 an7 cd7 ct7), sl7⟩)
    (c7 : PySem.W.codeIn K cd7 "_law_blend" = true)
    (k7 : PySem.W.keepIn K (.ref f7) = true)
    (a8 : PySem.W.nsIn K mainGlobals "_law_pot" = some (some (.ref f8)))
    (l8 : K.lookup f8 = some ⟨oc8, od8, .func (PySem.W.fnOf "_law_pot" "_law_pot" (defArgs sPot) (defBody sPot) (defScope sPot) .none kV8 dc8 pm8 an8 cd8 ct8), sl8⟩)
    (c8 : PySem.W.codeIn K cd8 "_law_pot" = true)
    (k8 : PySem.W.keepIn K (.ref f8) = true)
    (a9 : PySem.W.nsIn K mainGlobals "_law_pick" = some (some (.ref f9)))
    (l9 : K.lookup f9 = some ⟨oc9, od9, .func (PySem.W.fnOf "_law_pick" "_law_pick" (defArgs sPick) (defBody sPick) (defScope sPick) .none kV9 dc9 pm9 an9 cd9 ct9), sl9⟩)
    (c9 : PySem.W.codeIn K cd9 "_law_pick" = true)
    (k9 : PySem.W.keepIn K (.ref f9) = true)
    (a10 : PySem.W.nsIn K mainGlobals "_law_letters" = some (some (.ref f10)))
    (l10 : K.lookup f10 = some ⟨oc10, od10, .func (PySem.W.fnOf "_law_letters" "_law_letters" (defArgs sLetters) (defBody sLetters) (defScope sLetters) .none kV10 dc10 pm10 an10 cd10 ct10), sl10⟩)
    (c10 : PySem.W.codeIn K cd10 "_law_letters" = true)
    (k10 : PySem.W.keepIn K (.ref f10) = true)
    (a11 : PySem.W.nsIn K mainGlobals "_law_sheet" = some (some (.ref f11)))
    (l11 : K.lookup f11 = some ⟨oc11, od11, .func (PySem.W.fnOf "_law_sheet" "_law_sheet" (defArgs sSheet) (defBody sSheet) (defScope sSheet) .none kV11 dc11 pm11 an11 cd11 ct11), sl11⟩)
    (c11 : PySem.W.codeIn K cd11 "_law_sheet" = true)
    (k11 : PySem.W.keepIn K (.ref f11) = true)
    (a12 : PySem.W.nsIn K mainGlobals "_law_order" = some (some (.ref f12)))
    (l12 : K.lookup f12 = some ⟨oc12, od12, .func (PySem.W.fnOf "_law_order" "_law_order" (defArgs sOrder) (defBody sOrder) (defScope sOrder) .none kV12 dc12 pm12 an12 cd12 ct12), sl12⟩)
    (c12 : PySem.W.codeIn K cd12 "_law_order" = true)
    (k12 : PySem.W.keepIn K (.ref f12) = true)
    (a13 : PySem.W.nsIn K mainGlobals "_law_shut" = some (some (.ref f13)))
    (l13 : K.lookup f13 = some ⟨oc13, od13, .func (PySem.W.fnOf "_law_shut" "_law_shut" (defArgs sShut) (defBody sShut) (defScope sShut) .none kV13 dc13 pm13 an13 cd13 ct13), sl13⟩)
    (c13 : PySem.W.codeIn K cd13 "_law_shut" = true)
    (k13 : PySem.W.keepIn K (.ref f13) = true)
    (a14 : PySem.W.nsIn K mainGlobals "_law_answers" = some (some (.ref f14)))
    (l14 : K.lookup f14 = some ⟨oc14, od14, .func (PySem.W.fnOf "_law_answers" "_law_answers" (defArgs sAns) (defBody sAns) (defScope sAns) .none kV14 dc14 pm14 an14 cd14 ct14), sl14⟩)
    (c14 : PySem.W.codeIn K cd14 "_law_answers" = true)
    (k14 : PySem.W.keepIn K (.ref f14) = true)
    (a15 : PySem.W.nsIn K mainGlobals "_law_same" = some (some (.ref f15)))
    (l15 : K.lookup f15 = some ⟨oc15, od15, .func (PySem.W.fnOf "_law_same" "_law_same" (defArgs sSame) (defBody sSame) (defScope sSame) .none kV15 dc15 pm15 an15 cd15 ct15), sl15⟩)
    (c15 : PySem.W.codeIn K cd15 "_law_same" = true)
    (k15 : PySem.W.keepIn K (.ref f15) = true)
    (a16 : PySem.W.nsIn K mainGlobals "_law_kind" = some (some (.ref f16)))
    (l16 : K.lookup f16 = some ⟨oc16, od16, .func (PySem.W.fnOf "_law_kind" "_law_kind" (defArgs sKind) (defBody sKind) (defScope sKind) .none kV16 dc16 pm16 an16 cd16 ct16), sl16⟩)
    (c16 : PySem.W.codeIn K cd16 "_law_kind" = true)
    (k16 : PySem.W.keepIn K (.ref f16) = true)
    (a17 : PySem.W.nsIn K mainGlobals "_law_boughs" = some (some (.ref f17)))
    (l17 : K.lookup f17 = some ⟨oc17, od17, .func (PySem.W.fnOf "_law_boughs" "_law_boughs" (defArgs sLawB) (defBody sLawB) (defScope sLawB) .none kV17 dc17 pm17 an17 cd17 ct17), sl17⟩)
    (c17 : PySem.W.codeIn K cd17 "_law_boughs" = true)
    (k17 : PySem.W.keepIn K (.ref f17) = true)
    (a18 : PySem.W.nsIn K mainGlobals "_law_fault" = some (some (.ref f18)))
    (l18 : K.lookup f18 = some ⟨oc18, od18, .func (PySem.W.fnOf "_law_fault" "_law_fault" (defArgs sFault) (defBody sFault) (defScope sFault) .none kV18 dc18 pm18 an18 cd18 ct18), sl18⟩)
    (c18 : PySem.W.codeIn K cd18 "_law_fault" = true)
    (k18 : PySem.W.keepIn K (.ref f18) = true)
    (a19 : PySem.W.nsIn K mainGlobals "_law_told" = some (some (.ref f19)))
    (l19 : K.lookup f19 = some ⟨oc19, od19, .func (PySem.W.fnOf "_law_told" "_law_told" (defArgs sTold) (defBody sTold) (defScope sTold) .none kV19 dc19 pm19 an19 cd19 ct19), sl19⟩)
    (c19 : PySem.W.codeIn K cd19 "_law_told" = true)
    (k19 : PySem.W.keepIn K (.ref f19) = true)
    (a20 : PySem.W.nsIn K mainGlobals "_law_right" = some (some (.ref f20)))
    (l20 : K.lookup f20 = some ⟨oc20, od20, .func (PySem.W.fnOf "_law_right" "_law_right" (defArgs sRight) (defBody sRight) (defScope sRight) .none kV20 dc20 pm20 an20 cd20 ct20), sl20⟩)
    (c20 : PySem.W.codeIn K cd20 "_law_right" = true)
    (k20 : PySem.W.keepIn K (.ref f20) = true)
    (a21 : PySem.W.nsIn K mainGlobals "law" = some (some (.ref f21)))
    (l21 : K.lookup f21 = some ⟨oc21, od21, .func (PySem.W.fnOf "law" "law" (defArgs sLaw) (defBody sLaw) (defScope sLaw) .none kV21 dc21 pm21 an21 cd21 ct21), sl21⟩)
    (c21 : PySem.W.codeIn K cd21 "law" = true)
    (k21 : PySem.W.keepIn K (.ref f21) = true)
    (z0 : PySem.W.nsIn K mainGlobals "len" = some none)
    (z1 : PySem.W.nsIn K mainGlobals "list" = some none)
    (z2 : PySem.W.nsIn K mainGlobals "enumerate" = some none)
    (z3 : PySem.W.nsIn K mainGlobals "range" = some none)
    (z4 : PySem.W.nsIn K mainGlobals "min" = some none)
    (z5 : PySem.W.nsIn K mainGlobals "tuple" = some none)
    (z6 : PySem.W.nsIn K mainGlobals "isinstance" = some none)
    (z7 : PySem.W.nsIn K mainGlobals "bool" = some none)
    (z8 : PySem.W.nsIn K mainGlobals "str" = some none)
    (z9 : PySem.W.nsIn K mainGlobals "int" = some none)
    (z10 : PySem.W.nsIn K mainGlobals "all" = some none)
    (z11 : PySem.W.nsIn K mainGlobals "zip" = some none)
    (z12 : PySem.W.nsIn K mainGlobals "ValueError" = some none)
    (aH : PySem.W.nsIn K mainGlobals "HallError" = some (some (.ref CH)))
    (aC0 : PySem.W.nsIn K mainGlobals "NoLetter" = some (some (.ref C0)))
    (aC1 : PySem.W.nsIn K mainGlobals "NotShut" = some (some (.ref C1)))
    (aC2 : PySem.W.nsIn K mainGlobals "TooLong" = some (some (.ref C2)))
    (aC3 : PySem.W.nsIn K mainGlobals "NoChoice" = some (some (.ref C3)))
    (aC4 : PySem.W.nsIn K mainGlobals "NoText" = some (some (.ref C4)))
    (aC5 : PySem.W.nsIn K mainGlobals "NoSheet" = some (some (.ref C5)))
    (aC6 : PySem.W.nsIn K mainGlobals "NoOneWay" = some (some (.ref C6)))
    (aC7 : PySem.W.nsIn K mainGlobals "TooMany" = some (some (.ref C7)))
    (aC8 : PySem.W.nsIn K mainGlobals "NoStep" = some (some (.ref C8)))
    (aC9 : PySem.W.nsIn K mainGlobals "NoName" = some (some (.ref C9)))
    (aC10 : PySem.W.nsIn K mainGlobals "NoRow" = some (some (.ref C10)))
    (ty0 : PySem.W.typeIn K (.ref C0) = some (.type "type"))
    (is0 : PySem.W.isClsIn K C0 = true)
    (ty1 : PySem.W.typeIn K (.ref C1) = some (.type "type"))
    (is1 : PySem.W.isClsIn K C1 = true)
    (ty2 : PySem.W.typeIn K (.ref C2) = some (.type "type"))
    (is2 : PySem.W.isClsIn K C2 = true)
    (ty3 : PySem.W.typeIn K (.ref C3) = some (.type "type"))
    (is3 : PySem.W.isClsIn K C3 = true)
    (ty4 : PySem.W.typeIn K (.ref C4) = some (.type "type"))
    (is4 : PySem.W.isClsIn K C4 = true)
    (ty5 : PySem.W.typeIn K (.ref C5) = some (.type "type"))
    (is5 : PySem.W.isClsIn K C5 = true)
    (ty6 : PySem.W.typeIn K (.ref C6) = some (.type "type"))
    (is6 : PySem.W.isClsIn K C6 = true)
    (ty7 : PySem.W.typeIn K (.ref C7) = some (.type "type"))
    (is7 : PySem.W.isClsIn K C7 = true)
    (ty8 : PySem.W.typeIn K (.ref C8) = some (.type "type"))
    (is8 : PySem.W.isClsIn K C8 = true)
    (ty9 : PySem.W.typeIn K (.ref C9) = some (.type "type"))
    (is9 : PySem.W.isClsIn K C9 = true)
    (ty10 : PySem.W.typeIn K (.ref C10) = some (.type "type"))
    (is10 : PySem.W.isClsIn K C10 = true)
    (tyH : PySem.W.typeIn K (.ref CH) = some (.type "type"))
    (isH : PySem.W.isClsIn K CH = true)
    (exH : PySem.W.subIn K (.ref CH) (.type "BaseException") = some true)
    (hdH : PySem.W.hasDictIn K CH = true)
    (spc : PySem.W.specialIn K (.builtin "object.__class__") "__get__" = some (some (.builtin "getset_descriptor.__get__")))
    (tkc : PySem.W.takesIn K (.builtin "object.__class__") = some true)
    (sb1_0 : PySem.W.subIn K (.ref C1) (.ref C0) = some false)
    (sb1_1 : PySem.W.subIn K (.ref C1) (.ref C1) = some true)
    (sb1_2 : PySem.W.subIn K (.ref C1) (.ref C2) = some false)
    (sb1_3 : PySem.W.subIn K (.ref C1) (.ref C3) = some false)
    (sb1_4 : PySem.W.subIn K (.ref C1) (.ref C4) = some false)
    (sb1_5 : PySem.W.subIn K (.ref C1) (.ref C5) = some false)
    (sb1_6 : PySem.W.subIn K (.ref C1) (.ref C6) = some false)
    (sb1_7 : PySem.W.subIn K (.ref C1) (.ref C7) = some false)
    (sb1_8 : PySem.W.subIn K (.ref C1) (.ref C8) = some false)
    (sb1_9 : PySem.W.subIn K (.ref C1) (.ref C9) = some false)
    (sb1_10 : PySem.W.subIn K (.ref C1) (.ref C10) = some false)
    (sb1_H : PySem.W.subIn K (.ref C1) (.ref CH) = some true)
    (sv1 : PySem.W.subIn K (.ref C1) (.type "ValueError") = some true)
    (ex1 : PySem.W.subIn K (.ref C1) (.type "BaseException") = some true)
    (hd1 : PySem.W.hasDictIn K C1 = true)
    (ga1 : PySem.W.findIn K (.ref C1) "__getattribute__" = some (some (.builtin "BaseException.__getattribute__")))
    (gg1 : PySem.W.findIn K (.ref C1) "__getattr__" = some none)
    (cc1 : PySem.W.findIn K (.ref C1) "__class__" = some (some (.builtin "object.__class__")))
    (mo1 : PySem.W.mroIn K C1 (.type "object") = some true)
    (nP1 : PySem.W.findIn K (.ref C1) "place" = some none)
    (nS1 : PySem.W.findIn K (.ref C1) "size" = some none)
    (zsu : PySem.W.nsIn K mainGlobals "super" = some none)
    (opq : PySem.W.nsIn K cStatics "thirdparty.any" = some none)
    (htop : (l.prog.main.scope.names.lookup ("super" : Str)).isSome = false)
    (xL1 : K.lookup C1 = some (excClassObj nm1 qn1 C1 N1 bs1 [.ref CH, .type "ValueError", .type "Exception", .type "BaseException", .type "object"] true sn1 su1 ab1 co1 dd1 m01 m11 m21 m31 m51 "ValueError.__new__"))
    (sa1 : PySem.W.findIn K (.ref C1) "__setattr__" = some (some (.builtin "object.__setattr__")))
    (kC1 : PySem.W.keepIn K (.ref C1) = true)
    (iC1 : PySem.W.findIn K (.ref C1) "__init__" = some (some (.ref fI1)))
    (tI1 : PySem.W.typeIn K (.ref fI1) = some (.type "function"))
    (mm1 : PySem.W.mroIn K C1 (.ref C1) = some true)
    (lI1 : K.lookup fI1 = some ⟨ocI1, odI1, .func (PySem.W.ksFn "__init__" "NotShut.__init__" (defArgs (inClass (topS 3) 0)) (defBody (inClass (topS 3) 0)) (defScope (inClass (topS 3) 0)) .none kVI1 dcI1 pmI1 anI1 (.ref cda1) ctI1 cel1), slI1⟩)
    (cI1 : PySem.W.codeIn K (.ref cda1) "NotShut.__init__" = true)
    (ce1 : K.lookup cel1 = some ⟨cl1, cld1, .cell (some (.ref C1)), csl1⟩)
    (co_1 : K.lookup cda1 = some ⟨ccl1, cdd1, .fields vsC1, ccs1⟩)
    (hv1 : vsC1[2]? = some (.str fil1 tf1))
    (hf1 : ((l.prog.main.file : Str) == fil1) = true)
    (su_1 : PySem.W.ks_superIn K C1 C1 "__init__" = some (some (.builtin "ValueError.__init__")))
    : ∃ fd : FuncData, (∀ (s : Shared) (v : Value), BindsTo s fd ⟨[v], []⟩ [("script", v)]) ∧ ∀ base : Heap, K.In base → base.Ns mainGlobals mg → FnOk l.prog w K mg base CX0 214 fa fd ["script"] (spLaw K) := by
  have e := hfa.symm.trans (PySem.W.mg_of X G a21)
  cases e
  have F0 := fun_mk (st := sOrderOf) l0 c0 k0
  have g0 := PySem.W.mg_of X G a0
  have b0 := F0.binds (ps := ["sheet"]) fun _ _ _ _ _ _ us hl => match us, hl with | [_], _ => rfl
  have F1 := fun_mk (st := sNeedWord) l1 c1 k1
  have g1 := PySem.W.mg_of X G a1
  have b1 := F1.binds (ps := ["sheet", "word"]) fun _ _ _ _ _ _ us hl => match us, hl with | [_, _], _ => rfl
  have F2 := fun_mk (st := sAnswers) l2 c2 k2
  have g2 := PySem.W.mg_of X G a2
  have b2 := F2.binds (ps := ["sheet", "word"]) fun _ _ _ _ _ _ us hl => match us, hl with | [_, _], _ => rfl
  have F3 := fun_mk (st := sAlone) l3 c3 k3
  have g3 := PySem.W.mg_of X G a3
  have b3 := F3.binds (ps := ["sheet", "word", "told"]) fun _ _ _ _ _ _ us hl => match us, hl with | [_, _, _], _ => rfl
  have F4 := fun_mk (st := sNeedShut) l4 c4 k4
  have g4 := PySem.W.mg_of X G a4
  have b4 := F4.binds (ps := ["sheet", "word"]) fun _ _ _ _ _ _ us hl => match us, hl with | [_, _], _ => rfl
  have F5 := fun_mk (st := sBoughs) l5 c5 k5
  have g5 := PySem.W.mg_of X G a5
  have b5 := F5.binds (ps := ["sheet", "word"]) fun _ _ _ _ _ _ us hl => match us, hl with | [_, _], _ => rfl
  have F6 := fun_mk (st := sWordBy) l6 c6 k6
  have g6 := PySem.W.mg_of X G a6
  have b6 := F6.binds (ps := ["boughs"]) fun _ _ _ _ _ _ us hl => match us, hl with | [_], _ => rfl
  have F7 := fun_mk (st := sBlend) l7 c7 k7
  have g7 := PySem.W.mg_of X G a7
  have b7 := F7.binds (ps := ["cell", "at"]) fun _ _ _ _ _ _ us hl => match us, hl with | [_, _], _ => rfl
  have F8 := fun_mk (st := sPot) l8 c8 k8
  have g8 := PySem.W.mg_of X G a8
  have b8 := F8.binds (ps := ["script"]) fun _ _ _ _ _ _ us hl => match us, hl with | [_], _ => rfl
  have F9 := fun_mk (st := sPick) l9 c9 k9
  have g9 := PySem.W.mg_of X G a9
  have b9 := F9.binds (ps := ["pot", "many"]) fun _ _ _ _ _ _ us hl => match us, hl with | [_, _], _ => rfl
  have F10 := fun_mk (st := sLetters) l10 c10 k10
  have g10 := PySem.W.mg_of X G a10
  have b10 := F10.binds (ps := ["pot", "many"]) fun _ _ _ _ _ _ us hl => match us, hl with | [_, _], _ => rfl
  have F11 := fun_mk (st := sSheet) l11 c11 k11
  have g11 := PySem.W.mg_of X G a11
  have b11 := F11.binds (ps := ["pot", "most"]) fun _ _ _ _ _ _ us hl => match us, hl with | [_, _], _ => rfl
  have F12 := fun_mk (st := sOrder) l12 c12 k12
  have g12 := PySem.W.mg_of X G a12
  have b12 := F12.binds (ps := ["sheet"]) fun _ _ _ _ _ _ us hl => match us, hl with | [_], _ => rfl
  have F13 := fun_mk (st := sShut) l13 c13 k13
  have g13 := PySem.W.mg_of X G a13
  have b13 := F13.binds (ps := ["pot", "sheet", "most"]) fun _ _ _ _ _ _ us hl => match us, hl with | [_, _, _], _ => rfl
  have F14 := fun_mk (st := sAns) l14 c14 k14
  have g14 := PySem.W.mg_of X G a14
  have b14 := F14.binds (ps := ["sheet", "word"]) fun _ _ _ _ _ _ us hl => match us, hl with | [_, _], _ => rfl
  have F15 := fun_mk (st := sSame) l15 c15 k15
  have g15 := PySem.W.mg_of X G a15
  have b15 := F15.binds (ps := ["found", "due"]) fun _ _ _ _ _ _ us hl => match us, hl with | [_, _], _ => rfl
  have F16 := fun_mk (st := sKind) l16 c16 k16
  have g16 := PySem.W.mg_of X G a16
  have b16 := F16.binds (ps := ["caught"]) fun _ _ _ _ _ _ us hl => match us, hl with | [_], _ => rfl
  have F17 := fun_mk (st := sLawB) l17 c17 k17
  have g17 := PySem.W.mg_of X G a17
  have b17 := F17.binds (ps := ["sheet", "word", "told", "low", "high"]) fun _ _ _ _ _ _ us hl => match us, hl with | [_, _, _, _, _], _ => rfl
  have F18 := fun_mk (st := sFault) l18 c18 k18
  have g18 := PySem.W.mg_of X G a18
  have b18 := F18.binds (ps := ["sheet", "word", "told"]) fun _ _ _ _ _ _ us hl => match us, hl with | [_, _, _], _ => rfl
  have F19 := fun_mk (st := sTold) l19 c19 k19
  have g19 := PySem.W.mg_of X G a19
  have b19 := F19.binds (ps := ["sheet", "word"]) fun _ _ _ _ _ _ us hl => match us, hl with | [_, _], _ => rfl
  have F20 := fun_mk (st := sRight) l20 c20 k20
  have g20 := PySem.W.mg_of X G a20
  have b20 := F20.binds (ps := ["sheet", "word"]) fun _ _ _ _ _ _ us hl => match us, hl with | [_, _], _ => rfl
  have F21 := fun_mk (st := sLaw) l21 c21 k21
  have g21 := PySem.W.mg_of X G a21
  have b21 := F21.binds (ps := ["script"]) fun _ _ _ _ _ _ us hl => match us, hl with | [_], _ => rfl
  have mlen := PySem.W.mg_none_of X G z0
  have mlist := PySem.W.mg_none_of X G z1
  have menumerate := PySem.W.mg_none_of X G z2
  have mrange := PySem.W.mg_none_of X G z3
  have mmin := PySem.W.mg_none_of X G z4
  have mtuple := PySem.W.mg_none_of X G z5
  have misinstance := PySem.W.mg_none_of X G z6
  have mbool := PySem.W.mg_none_of X G z7
  have mstr := PySem.W.mg_none_of X G z8
  have mint := PySem.W.mg_none_of X G z9
  have mall := PySem.W.mg_none_of X G z10
  have mzip := PySem.W.mg_none_of X G z11
  have mValueError := PySem.W.mg_none_of X G z12
  have KM : KindM mg CH [C0, C1, C2, C3, C4, C5, C6, C7, C8, C9, C10] := ⟨misinstance, mValueError, PySem.W.mg_of X G aH, PySem.W.mg_of X G aC0, PySem.W.mg_of X G aC1, PySem.W.mg_of X G aC2, PySem.W.mg_of X G aC3, PySem.W.mg_of X G aC4, PySem.W.mg_of X G aC5, PySem.W.mg_of X G aC6, PySem.W.mg_of X G aC7, PySem.W.mg_of X G aC8, PySem.W.mg_of X G aC9, PySem.W.mg_of X G aC10⟩
  have EC1 : ErrC K C1 := ⟨⟨ga1, gg1, ex1, hd1, cc1, spc, tkc, mo1⟩, ⟨ga1, gg1, ex1, hd1⟩⟩
  have KC1 : KindC K CH [C0, C1, C2, C3, C4, C5, C6, C7, C8, C9, C10] 1 := by
    refine ⟨by decide, EC1, fun j hj => ?_, kit_yes tyH isH sb1_H, kit_val sv1, nP1, nS1⟩
    rcases (show j = 0 ∨ j = 1 ∨ j = 2 ∨ j = 3 ∨ j = 4 ∨ j = 5 ∨ j = 6 ∨ j = 7 ∨ j = 8 ∨ j = 9 ∨ j = 10 by omega) with rfl | rfl | rfl | rfl | rfl | rfl | rfl | rfl | rfl | rfl | rfl
    · exact kit_no ty0 is0 sb1_0 sb1_1
    · exact kit_yes ty1 is1 sb1_1
    · exact kit_no ty2 is2 sb1_2 sb1_1
    · exact kit_no ty3 is3 sb1_3 sb1_1
    · exact kit_no ty4 is4 sb1_4 sb1_1
    · exact kit_no ty5 is5 sb1_5 sb1_1
    · exact kit_no ty6 is6 sb1_6 sb1_1
    · exact kit_no ty7 is7 sb1_7 sb1_1
    · exact kit_no ty8 is8 sb1_8 sb1_1
    · exact kit_no ty9 is9 sb1_9 sb1_1
    · exact kit_no ty10 is10 sb1_10 sb1_1
  have XM1 : PySem.W.exmOne K (.ref C1) (.ref CH) = some true := PySem.W.exm_ref exH hdH tyH sb1_H
  have OX1 : OexC K C1 := ⟨⟨nm1, qn1, N1, bs1, _, sn1, su1, ab1, co1, dd1, m01, m11, m21, m31, m51, xL1, (show PySem.HandSPX.refsVE [.type "ValueError", .type "Exception", .type "BaseException", .type "object"] = true by decide +kernel)⟩, sa1, ex1, ty1, kC1⟩
  have IC1 : ∃ J, InitC l.prog K mg C1 fI1 "NotShut.__init__" "place" ((inClass (topS 3) 0)) J (PySem.W.ksFn "__init__" "NotShut.__init__" (defArgs (inClass (topS 3) 0)) (defBody (inClass (topS 3) 0)) (defScope (inClass (topS 3) 0)) .none kVI1 dcI1 pmI1 anI1 (.ref cda1) ctI1 cel1) := by
    refine ⟨_, ⟨OX1, iC1, tI1, nP1, su_1, sv1, mm1, opq, PySem.W.mg_none_of X G zsu, htop, ⟨_, _, _, _, _, _, _, _, _, _, rfl, lI1, cI1, ⟨_, _, _, ce1⟩, _, _, _, _, _, _, co_1, hv1, hf1⟩, .all fun us hl => match us, hl with | [_, _], _ => rfl, nscope_by (by decide +kernel), rfl, rfl, rfl, rfl, by decide, by decide, ⟨_, _, _, _, _, _, _, _, _, rfl, fun env => ⟨_, rfl⟩, fun env => rfl, fun env => rfl, fun env => rfl⟩, ?_⟩⟩
    exact txt_two rfl (by decide) (by decide) (by decide +kernel)
  refine ⟨PySem.W.fnOf "law" "law" (defArgs sLaw) (defBody sLaw) (defScope sLaw) .none kV21 dc21 pm21 an21 cd21 ct21, fun s v => .of_eq rfl, fun base _ _ => ?_⟩
  have NW : ∀ k, FnOk l.prog w K mg base CX0 (k + 2) _ _ _ (spNeedWord K) := fun k => ok_needWord (k := k) F1 F0 b0 g0 menumerate
  have PK : ∀ k, FnOk l.prog w K mg base CX0 (k + 2) _ _ _ spPick := fun k => ok_pick (k := k) F9 F7 b7 g7 mlen
  have AN : ∀ k, FnOk l.prog w K mg base CX0 (k + 3) _ _ _ (spAnswers K) := fun k => ok_answers (k := k + 1) F2 F1 (NW k) b1 g1 mlen menumerate
  have AL : ∀ k, FnOk l.prog w K mg base CX0 (k + 1) _ _ _ (spAlone K) := fun k => ok_alone (k := k) F3 mlen mrange
  have TS : ShutC l.prog K mg C1 fI1 _ := ⟨PySem.W.mg_of X G aC1, IC1⟩
  have NS : FnOk l.prog w K mg base (L2.CX l.prog w) (LW - 2) _ _ _ (spNeedShut K C1) := ok_needShut (k := LW - 5) F4 F2 (AN (LW - 6)) b2 g2 F3 (AL (LW - 4)) b3 g3 TS
  have BO : FnOk l.prog w K mg base (L2.CX l.prog w) (LW - 1) _ _ _ (spBoughs K C1) := ok_boughs (k := LW - 3) F5 F4 NS b4 g4 mtuple
  have SK : SameK mg := ⟨misinstance, mbool, mstr, mint, mtuple, mlist, mlen, mall, mzip⟩
  have R1 : FnOk l.prog w K mg base CX0 LW _ _ _ (spAnswers K) := ok_ans (k := LW - 1) F14 mlen mrange
  have R2 : FnOk l.prog w K mg base CX0 LW _ _ _ (spFault K) := ok_fault (k := LW - 1) F18 mlen mrange
  have R3 : FnOk l.prog w K mg base CX0 LW _ _ _ (spTold K) := ok_told (k := LW - 2) (cs := [C0, C1, C2, C3, C4, C5, C6, C7, C8, C9, C10]) F19 F5 BO b5 g5 F16 b16 g16 KM KC1 XM1
  have R4 : FnOk l.prog w K mg base CX0 LW _ _ _ (spSame 202) := ok_same F15 SK b15 g15 202 9
  have R4L : FnOk l.prog w K mg base CX0 LW _ _ _ spSameL := ok_sameL (k := LW - 2) F15 SK b15 g15
  have R5 : FnOk l.prog w K mg base CX0 LW _ _ _ (spLawB K 100) := ok_lawB F17 b17 g17 mtuple 100 111
  have R6 : FnOk l.prog w K mg base CX0 LW _ _ _ spWordBy := ok_wordBy (k := LW - 1) F6 mlist misinstance mstr mlen
  have RR : FnOk l.prog w K mg base CX0 LV _ _ _ spRight := ok_right F20 F14 R1 b14 g14 F18 R2 b18 g18 F19 R3 b19 g19 F15 R4 R4L b15 g15 F17 R5 b17 g17 F6 R6 b6 g6 mlen mlist
  have G1 : FnOk l.prog w K mg base CX0 LV _ _ _ (spPot K) := ok_pot (k := LV - 1) F8 mlist menumerate
  have GL : FnOk l.prog w K mg base CX0 (LV - 1) _ _ _ spLetters := ok_letters (k := LV - 3) F10 F9 (PK (LV - 4)) b9 g9 mlen mrange
  have G2 : FnOk l.prog w K mg base CX0 LV _ _ _ spSheet := ok_sheet (k := LV - 3) F11 F9 (PK (LV - 4)) b9 g9 F10 GL b10 g10 mmin mtuple
  have G3 : FnOk l.prog w K mg base CX0 LV _ _ _ spShut := ok_shut (k := LV - 2) F13 F9 (PK (LV - 3)) b9 g9 mlen mrange
  have G5 : FnOk l.prog w K mg base CX0 LV _ _ _ spOrder := ok_order (k := LV - 1) F12 mlist
  exact ok_law F21 F8 G1 b8 g8 F11 G2 b11 g11 F13 G3 b13 g13 F9 (PK (LV - 2)) b9 g9 F12 G5 b12 g12 F20 RR b20 g20 mlen mrange mint
end Eh
open PySem PySem.W PyProof.Rows
set_option maxHeartbeats 0 in
theorem PySem.Challenge.cw_echohall_k04_boughs_holds : PySem.Challenge.rw_echohall_k04_boughs.Holds := by
  w_on; o_law; k_head; (case hw => w_witness2)
  k_fill
  refine L2.walk_of (l := PySem.Challenge.rw_echohall_k04_boughs) (n := 63) (k := 214) (x := "script") (CX := fun _ => L2.CX0) (sp := fun w => Eh.spLaw _) rfl (by decide) rfl ⟨rfl, by decide, by decide⟩ (fun w h Y => PySem.W.kIn_of Y) ?F (fun _ _ a ns hl _ hS => ⟨a, ns, rfl, hS, hl, fun _ => rfl⟩) (fun _ _ _ _ _ h => h)
  case F =>
    intro w mg fa h KX G hmg
    refine' Eh.all_mk KX G hmg ?a0 ?l0 ?c0 ?k0 ?a1 ?l1 ?c1 ?k1 ?a2 ?l2 ?c2 ?k2 ?a3 ?l3 ?c3 ?k3 ?a4 ?l4 ?c4 ?k4 ?a5 ?l5 ?c5 ?k5 ?a6 ?l6 ?c6 ?k6 ?a7 ?l7 ?c7 ?k7 ?a8 ?l8 ?c8 ?k8 ?a9 ?l9 ?c9 ?k9 ?a10 ?l10 ?c10 ?k10 ?a11 ?l11 ?c11 ?k11 ?a12 ?l12 ?c12 ?k12 ?a13 ?l13 ?c13 ?k13 ?a14 ?l14 ?c14 ?k14 ?a15 ?l15 ?c15 ?k15 ?a16 ?l16 ?c16 ?k16 ?a17 ?l17 ?c17 ?k17 ?a18 ?l18 ?c18 ?k18 ?a19 ?l19 ?c19 ?k19 ?a20 ?l20 ?c20 ?k20 ?a21 ?l21 ?c21 ?k21 ?z0 ?z1 ?z2 ?z3 ?z4 ?z5 ?z6 ?z7 ?z8 ?z9 ?z10 ?z11 ?z12 ?aH ?aC0 ?aC1 ?aC2 ?aC3 ?aC4 ?aC5 ?aC6 ?aC7 ?aC8 ?aC9 ?aC10 ?ty0 ?is0 ?ty1 ?is1 ?ty2 ?is2 ?ty3 ?is3 ?ty4 ?is4 ?ty5 ?is5 ?ty6 ?is6 ?ty7 ?is7 ?ty8 ?is8 ?ty9 ?is9 ?ty10 ?is10 ?tyH ?isH ?exH ?hdH ?spc ?tkc ?sb1_0 ?sb1_1 ?sb1_2 ?sb1_3 ?sb1_4 ?sb1_5 ?sb1_6 ?sb1_7 ?sb1_8 ?sb1_9 ?sb1_10 ?sb1_H ?sv1 ?ex1 ?hd1 ?ga1 ?gg1 ?cc1 ?mo1 ?nP1 ?nS1 ?zsu ?opq ?htop ?xL1 ?sa1 ?kC1 ?iC1 ?tI1 ?mm1 ?lI1 ?cI1 ?ce1 ?co_1 ?hv1 ?hf1 ?su_1
    (case a0 => k_is)
    (case l0 => k_is)
    (case c0 => k_is)
    (case k0 => k_is)
    (case a1 => k_is)
    (case l1 => k_is)
    (case c1 => k_is)
    (case k1 => k_is)
    (case a2 => k_is)
    (case l2 => k_is)
    (case c2 => k_is)
    (case k2 => k_is)
    (case a3 => k_is)
    (case l3 => k_is)
    (case c3 => k_is)
    (case k3 => k_is)
    (case a4 => k_is)
    (case l4 => k_is)
    (case c4 => k_is)
    (case k4 => k_is)
    (case a5 => k_is)
    (case l5 => k_is)
    (case c5 => k_is)
    (case k5 => k_is)
    (case a6 => k_is)
    (case l6 => k_is)
    (case c6 => k_is)
    (case k6 => k_is)
    (case a7 => k_is)
    (case l7 => k_is)
    (case c7 => k_is)
    (case k7 => k_is)
    (case a8 => k_is)
    (case l8 => k_is)
    (case c8 => k_is)
    (case k8 => k_is)
    (case a9 => k_is)
    (case l9 => k_is)
    (case c9 => k_is)
    (case k9 => k_is)
    (case a10 => k_is)
    (case l10 => k_is)
    (case c10 => k_is)
    (case k10 => k_is)
    (case a11 => k_is)
    (case l11 => k_is)
    (case c11 => k_is)
    (case k11 => k_is)
    (case a12 => k_is)
    (case l12 => k_is)
    (case c12 => k_is)
    (case k12 => k_is)
    (case a13 => k_is)
    (case l13 => k_is)
    (case c13 => k_is)
    (case k13 => k_is)
    (case a14 => k_is)
    (case l14 => k_is)
    (case c14 => k_is)
    (case k14 => k_is)
    (case a15 => k_is)
    (case l15 => k_is)
    (case c15 => k_is)
    (case k15 => k_is)
    (case a16 => k_is)
    (case l16 => k_is)
    (case c16 => k_is)
    (case k16 => k_is)
    (case a17 => k_is)
    (case l17 => k_is)
    (case c17 => k_is)
    (case k17 => k_is)
    (case a18 => k_is)
    (case l18 => k_is)
    (case c18 => k_is)
    (case k18 => k_is)
    (case a19 => k_is)
    (case l19 => k_is)
    (case c19 => k_is)
    (case k19 => k_is)
    (case a20 => k_is)
    (case l20 => k_is)
    (case c20 => k_is)
    (case k20 => k_is)
    (case a21 => k_is)
    (case l21 => k_is)
    (case c21 => k_is)
    (case k21 => k_is)
    (case z0 => k_is)
    (case z1 => k_is)
    (case z2 => k_is)
    (case z3 => k_is)
    (case z4 => k_is)
    (case z5 => k_is)
    (case z6 => k_is)
    (case z7 => k_is)
    (case z8 => k_is)
    (case z9 => k_is)
    (case z10 => k_is)
    (case z11 => k_is)
    (case z12 => k_is)
    (case aH => k_is)
    (case aC0 => k_is)
    (case aC1 => k_is)
    (case aC2 => k_is)
    (case aC3 => k_is)
    (case aC4 => k_is)
    (case aC5 => k_is)
    (case aC6 => k_is)
    (case aC7 => k_is)
    (case aC8 => k_is)
    (case aC9 => k_is)
    (case aC10 => k_is)
    (case ty0 => k_is)
    (case is0 => k_is)
    (case ty1 => k_is)
    (case is1 => k_is)
    (case ty2 => k_is)
    (case is2 => k_is)
    (case ty3 => k_is)
    (case is3 => k_is)
    (case ty4 => k_is)
    (case is4 => k_is)
    (case ty5 => k_is)
    (case is5 => k_is)
    (case ty6 => k_is)
    (case is6 => k_is)
    (case ty7 => k_is)
    (case is7 => k_is)
    (case ty8 => k_is)
    (case is8 => k_is)
    (case ty9 => k_is)
    (case is9 => k_is)
    (case ty10 => k_is)
    (case is10 => k_is)
    (case tyH => k_is)
    (case isH => k_is)
    (case exH => k_is)
    (case hdH => k_is)
    (case spc => k_is)
    (case tkc => k_is)
    (case sb1_0 => k_is)
    (case sb1_1 => first | rfl | k_is)
    (case sb1_2 => k_is)
    (case sb1_3 => k_is)
    (case sb1_4 => k_is)
    (case sb1_5 => k_is)
    (case sb1_6 => k_is)
    (case sb1_7 => k_is)
    (case sb1_8 => k_is)
    (case sb1_9 => k_is)
    (case sb1_10 => k_is)
    (case sb1_H => k_is)
    (case sv1 => k_is)
    (case ex1 => k_is)
    (case hd1 => k_is)
    (case ga1 => k_is)
    (case gg1 => k_is)
    (case cc1 => k_is)
    (case mo1 => k_is)
    (case nP1 => k_is)
    (case nS1 => k_is)
    (case zsu => k_is)
    (case opq => k_is)
    (case htop => decide +kernel)
    (case xL1 => k_is)
    (case sa1 => k_is)
    (case kC1 => k_is)
    (case iC1 => k_is)
    (case tI1 => k_is)
    (case mm1 => first | rfl | k_is)
    (case lI1 => k_is)
    (case cI1 => k_is)
    (case ce1 => k_is)
    (case co_1 => k_is)
    (case hv1 => rfl)
    (case hf1 => decide +kernel)
    (case su_1 => ks_is)
