import PyProof.Rows.All
import Wide.All
import OpenK.AllK
import Wide.FinOn
import HandS.ForMost
import HandS.Evl
import KE.LtSeq
import HandS.RaiseMore
import KE.GoesEnum
import HandS.DictComp
import KE.KExcSuper
import HandS.Exc
import HandS.ExcInit
import HandS.FStr
import HandS.Nested
import KE.KIsAll
import KE.KTryMore
import KE.KExcIs
import HandS.ExcIs
import HandS.ExcField
import HandS.ExcValue
import HandS.WordsExc
import HandS.Codes
import HandS.More
import HandS.IsInst
import PySem.Challenge.RW_echohall_k02_order_of_words
set_option Elab.async false
set_option linter.all false
set_option maxRecDepth 100000
set_option maxHeartbeats 4000000
namespace Eh
open PySem PySem.Spec PyProof.Rows L2 Evl
def topS (i : Nat) : Stmt := PySem.Challenge.pw_echohall_k02_order_of_words.main.body.getD i (.Pass ⟨0, 0, 0, 0⟩)
abbrev sOrderOf : Stmt := topS 14
abbrev sNeedWord : Stmt := topS 15
abbrev sIsLess : Stmt := topS 16
abbrev sBlend : Stmt := topS 18
abbrev sPot : Stmt := topS 19
abbrev sPick : Stmt := topS 20
abbrev sLetters : Stmt := topS 21
abbrev sSheet : Stmt := topS 22
abbrev sOrder : Stmt := topS 23
abbrev sKind : Stmt := topS 24
abbrev sWord : Stmt := topS 25
abbrev sTwo : Stmt := topS 26
abbrev sLess : Stmt := topS 27
abbrev sTold : Stmt := topS 28
abbrev sStrange : Stmt := topS 29
abbrev sOdd : Stmt := topS 30
abbrev sLaw : Stmt := topS 31
theorem scBlend : FnScope ["cell", "at", "one", "two", "three"] ["cell", "at"] (defScope sBlend) := ⟨rfl, rfl, rfl, by decide +kernel, rfl, by decide +kernel, by decide +kernel⟩
theorem scPot : FnScope ["script", "cells", "k", "cell"] ["script"] (defScope sPot) := ⟨rfl, rfl, rfl, by decide +kernel, rfl, by decide +kernel, by decide +kernel⟩
theorem scPick : FnScope ["pot", "many", "at", "cell", "found"] ["pot", "many"] (defScope sPick) := ⟨rfl, rfl, rfl, by decide +kernel, rfl, by decide +kernel, by decide +kernel⟩
theorem scLetters : FnScope ["pot", "many", "small", "k", "rest", "spot", "turn", "size", "found", "part", "at"] ["pot", "many"] (defScope sLetters) := ⟨rfl, rfl, rfl, by decide +kernel, rfl, by decide +kernel, by decide +kernel⟩
theorem scSheet : FnScope ["pot", "most", "letters", "turn", "opens", "plains", "closes"] ["pot", "most"] (defScope sSheet) := ⟨rfl, rfl, rfl, by decide +kernel, rfl, by decide +kernel, by decide +kernel⟩
theorem scOrder : FnScope ["sheet"] ["sheet"] (defScope sOrder) := ⟨rfl, rfl, rfl, by decide +kernel, rfl, by decide +kernel, by decide +kernel⟩
end Eh
set_option Elab.async false
set_option linter.all false
set_option maxRecDepth 100000
set_option maxHeartbeats 4000000
namespace Eh
open PySem PySem.Spec PyProof.Rows L2 Evl
/-! heaps -/
def Keep (p : Addr) (H H' : Hp) : Prop := ∀ b o, b ≠ p → H b = some o → H' b = some o
theorem Keep.refl (p : Addr) (H : Hp) : Keep p H H := fun _ _ _ h => h
theorem Keep.trans {p : Addr} {H H1 H2 : Hp} (a : Keep p H H1) (b : Keep p H1 H2) : Keep p H H2 := fun x o n h => b x o n (a x o n h)
theorem Keep.ofEx {p : Addr} {H H' : Hp} (e : Ex H H') : Keep p H H' := fun b o _ h => e b o h
theorem Keep.new {p q : Addr} {H H' : Hp} {o : HO} (k : Keep p H H') (h : H q = none) : Keep p H (upd H' q o) := fun b u n e => by
  rw [upd_ne (ne_of_none e h)]
  exact k b u n e
theorem Keep.at {p : Addr} {H H' : Hp} {o : HO} (k : Keep p H H') : Keep p H (upd H' p o) := fun b u n e => by
  rw [upd_ne n]
  exact k b u n e
/-- the drawing pot: its cells stand still, how many were drawn and the rest change -/
def Pot (p c : Addr) (ns : List Int) (H : Hp) : Prop := ∃ a r : Int, 0 ≤ a ∧ H p = some (.lst [.ref c, .int a, .int r]) ∧ H c = some (.lst (ns.map V.int))
theorem Pot.ne {p c : Addr} {ns : List Int} {H : Hp} (h : Pot p c ns H) : c ≠ p := by
  obtain ⟨a, r, _, h1, h2⟩ := h
  intro e
  subst e
  have q : [V.ref c, .int a, .int r] = ns.map V.int := by
    have := h1.symm.trans h2
    injection this with this
    injection this
  cases ns with
  | nil => cases q
  | cons x t => cases q
theorem Pot.ex {p c : Addr} {ns : List Int} {H H' : Hp} (h : Pot p c ns H) (e : Ex H H') : Pot p c ns H' := by
  obtain ⟨a, r, h0, h1, h2⟩ := h
  exact ⟨a, r, h0, e _ _ h1, e _ _ h2⟩
theorem Pot.new {p c q : Addr} {ns : List Int} {H : Hp} {o : HO} (h : Pot p c ns H) (hp : p ≠ q) (hc : c ≠ q) : Pot p c ns (upd H q o) := by
  obtain ⟨a, r, h0, h1, h2⟩ := h
  exact ⟨a, r, h0, by rw [upd_ne hp]; exact h1, by rw [upd_ne hc]; exact h2⟩
section
variable {P : Program} {w : World} {K : PySem.W.Frag} {mg : Str → Option Value} {base : Heap}
def spBlend : Sp := fun vs H Q _ => ∃ x a : Int, vs = [.int x, .int a] ∧ ∀ v : Int, Q (.int v) H
theorem ok_blend {f : Addr} {fd : FuncData} {k : Nat} (F : Fun K "_law_blend" "_law_blend" sBlend f fd) : FnOk P w K mg base CX0 (k + 1) f fd ["cell", "at"] spBlend := by
  refine F.ok scBlend (fun vs H Q E h => ?_) (fun cdv A outer s H vs Q E hr h => ?_)
  · obtain ⟨x, a, rfl, _⟩ := h
    rfl
  · obtain ⟨x, a, rfl, q⟩ := h
    refine ⟨_, pss_cons (ps_if (pt_cmpR op_ge (pv 0) (pe_op op_pow pe_int pe_int) (nomark _)) (pss_one (ps_ret (pv 0))) pss_nil)
      (pss_cons (ps_set (i := 2) scBlend.nd rfl (.inl rfl) (pe_op op_mod (pe_op op_add (pe_op op_add (pe_op op_mul (pe_op op_mod (pv 0) pe_int) pe_int) (pe_op op_mul (pv 1) pe_int)) pe_int) pe_int))
      (pss_cons (ps_set (i := 3) scBlend.nd rfl (.inl rfl) (pe_op op_mod (pe_op op_add (pe_op op_add (pe_op op_mul (pv 2) (pv 2)) (pe_op op_mul (pv 1) pe_int)) (pe_op op_mod (pv 0) pe_int)) pe_int))
      (pss_cons (ps_set (i := 4) scBlend.nd rfl (.inl rfl) (pe_op op_mod (pe_op op_add (pe_op op_add (pe_op op_mul (pv 3) (pv 3)) (pe_op op_mul (pv 2) pe_int)) pe_int) pe_int))
      (pss_one (ps_ret (pe_op op_add (pe_op op_mul (pe_op op_add (pe_op op_mul (pv 2) pe_int) (pv 3)) pe_int) (pv 4))))))), ?_⟩
    refine ⟨_, rfl, 10, 18, rfl, rfl, ⟨by decide, by decide, by decide⟩, _, _, rfl, rfl, _, rfl, ite2 (fun e => ?_) (fun e => ?_)⟩
    · exact ⟨_, rfl, q _⟩
    · have big : ∀ j : Int, 0 < j → j < 4294967296 → ∀ y : Int, CMul (y % j) (y % j) := fun j h0 h1 y => .inl ⟨by have := Int.emod_nonneg y (show j ≠ 0 by omega); omega, by have := Int.emod_lt_of_pos y h0; omega⟩
      refine ⟨_, rfl, _, _, rfl, rfl, (by show (0 : Int) < _; decide), _, _, rfl, rfl, .inr ⟨by decide, by decide⟩, _, rfl, _, _, rfl, rfl, .inr ⟨by decide, by decide⟩, _, _, rfl, rfl, _, _, rfl, rfl, _, _, rfl, rfl, (by show (0 : Int) < _; decide), ?_⟩
      refine ⟨_, rfl, _, rfl, _, _, rfl, rfl, big _ (by decide) (by decide) _, _, rfl, _, _, rfl, rfl, .inr ⟨by decide, by decide⟩, _, _, rfl, rfl, _, rfl, _, _, rfl, rfl, (by show (0 : Int) < _; decide), _, _, rfl, rfl, _, _, rfl, rfl, (by show (0 : Int) < _; decide), ?_⟩
      refine ⟨_, rfl, _, rfl, _, _, rfl, rfl, big _ (by decide) (by decide) _, _, rfl, _, _, rfl, rfl, .inr ⟨by decide, by decide⟩, _, _, rfl, rfl, _, _, rfl, rfl, _, _, rfl, rfl, (by show (0 : Int) < _; decide), ?_⟩
      exact ⟨_, rfl, _, _, rfl, rfl, .inr ⟨by decide, by decide⟩, _, rfl, _, _, rfl, rfl, _, _, rfl, rfl, .inr ⟨by decide, by decide⟩, _, rfl, _, _, rfl, rfl, q _⟩
end
end Eh
set_option Elab.async false
set_option linter.all false
set_option maxRecDepth 100000
set_option maxHeartbeats 4000000
namespace Eh
open PySem PySem.Spec PyProof.Rows L2 Evl
theorem dpInts {K : PySem.W.Frag} {H : Hp} : ∀ ns : List Int, DpAll K H (ns.map V.int) (ns.map PyData.int)
  | [] => .nil
  | n :: r => .cons (.int n) (dpInts r)
theorem layInts : ∀ ns : List Int, PyData.canLayAll0 (ns.map PyData.int) = true
  | [] => rfl
  | n :: r => by
    show (true && PyData.canLayAll0 (r.map PyData.int)) = true
    rw [layInts r]
    rfl
theorem deepInts : ∀ ns : List Int, PyData.depthAll (ns.map PyData.int) = 0
  | [] => rfl
  | n :: r => by
    show max 0 (PyData.depthAll (r.map PyData.int)) = 0
    rw [deepInts r]
    rfl
theorem shapedInts (ns : List Int) : SeqAt.shaped (.list (ns.map PyData.int)) = true := by
  unfold SeqAt.shaped
  have h1 : PyData.canLay0 (.list (ns.map PyData.int)) = true := layInts ns
  have h2 : PyData.depth (.list (ns.map PyData.int)) = 1 := by
    show PyData.depthAll (ns.map PyData.int) + 1 = 1
    rw [deepInts]
  rw [h1, h2]
  rfl
theorem shapedNil : SeqAt.shaped (.list []) = true := by decide +kernel
section
variable {P : Program} {w : World} {K : PySem.W.Frag} {mg : Str → Option Value} {base : Heap}
def spPick : Sp := fun vs H Q _ => ∃ (p c : Addr) (ns : List Int) (m : Int), vs = [.ref p, .int m] ∧ 0 < m ∧ m < 1073741824 ∧ Pot p c ns H ∧ ∀ (v : Nat) H', (v : Int) < m → Keep p H H' → Pot p c ns H' → Q (.int v) H'
theorem ok_pick {f fB : Addr} {fd fdB : FuncData} {k : Nat} (F : Fun K "_law_pick" "_law_pick" sPick f fd) (FB : Fun K "_law_blend" "_law_blend" sBlend fB fdB) (bB : Binds K fdB ["cell", "at"] []) (gB : mg "_law_blend" = some (.ref fB)) (ml : mg "len" = none) :
    FnOk P w K mg base CX0 (k + 2) f fd ["pot", "many"] spPick := by
  have GB : FnOk P w K mg base CX0 (k + 1) fB fdB ["cell", "at"] spBlend := ok_blend FB
  have nd := scPick.nd
  refine F.ok scPick (fun vs H Q E h => ?_) (fun cdv A outer s H vs Q E hr h => ?_)
  · obtain ⟨p, c, ns, m, rfl, _⟩ := h
    rfl
  · obtain ⟨p, c, ns, m, rfl, m0, m1, hP, q⟩ := h
    refine ⟨_, pss_cut (ps_if (pt_cmpR op_lt (pe_ix ix_list (pv 0) pe_int (fun _ _ => rfl)) (pv 1) (nomark _))
       (pss_cons (ps_set (i := 2) nd rfl (.inl rfl) (pe_ix ix_list (pv 0) pe_int (fun _ _ => rfl)))
       (pss_cons (ps_set (i := 3) nd rfl (.inl rfl) (pe_op op_mul pe_int (pv 2)))
       (pss_cut (ps_if (pt_cmpR op_lt (pv 2) (pe_callB call_len_seq (by rfl) ml PySem.boot_len (pa_cons (pe_ix ix_list (pv 0) pe_int (fun _ _ => rfl)) pa_nil)) (nomark _))
            (pss_one (ps_set (i := 3) nd rfl (.inl rfl) (pe_ix ix_list (pe_ix ix_list (pv 0) pe_int (fun _ _ => rfl)) (pv 2) (fun _ _ => rfl))))
            (pss_one (ps_if (pt_cmpR (op_neD hr.units) (pe_ix ix_list (pv 0) pe_int (fun _ _ => rfl)) (pe_lst pa_nil) (nomark _))
              (pss_one (ps_set (i := 3) nd rfl (.inl rfl) (pe_op op_mod (pe_ix ix_list (pe_ix ix_list (pv 0) pe_int (fun _ _ => rfl)) (pe_op op_mod (pe_op op_add (pe_op op_mul (pv 2) pe_int) pe_int) (pe_callB call_len_seq (by rfl) ml PySem.boot_len (pa_cons (pe_ix ix_list (pv 0) pe_int (fun _ _ => rfl)) pa_nil))) (fun _ _ => rfl)) (pe_op op_add (pe_op op_pow pe_int pe_int) (pe_op op_mul pe_int (pv 2)))))) pss_nil)))
       (pss_cons (ps_asg (pe_op op_add (pv 2) pe_int) (pg_sub (pv 0) pe_int set_list))
       (pss_one (ps_asg (pe_call GB hr (by rfl) gB FB.kp bB .nil pass0 (pa_cons (pv 3) (pa_cons (pv 2) pa_nil))) (pg_sub (pv 0) pe_int set_list)))))))
       pss_nil)
      (pss_cons (ps_set (i := 4) nd rfl (.inl rfl) (pe_op op_mod (pe_ix ix_list (pv 0) pe_int (fun _ _ => rfl)) (pv 1)))
      (pss_cons (ps_asg (pe_op op_fdiv (pe_ix ix_list (pv 0) pe_int (fun _ _ => rfl)) (pv 1)) (pg_sub (pv 0) pe_int set_list))
      (pss_one (ps_ret (pv 4))))), ?_⟩
    have hne := hP.ne
    obtain ⟨a, r, a0, hp, hc⟩ := hP
    refine ⟨fun σ' H' => (∃ y2 y3, σ' = [some (.ref p), some (.int m), y2, y3, none]) ∧ Keep p H H' ∧ Pot p c ns H', ?_, ?_⟩
    · refine ⟨_, rfl, p, _, 2, .int r, rfl, rfl, sq_of hp, rfl, _, rfl, _, _, rfl, rfl, _, rfl, ite2 (fun e => ?_) (fun e => ?_)⟩
      · refine ⟨_, rfl, p, _, 1, .int a, rfl, rfl, sq_of hp, rfl, ?_⟩
        refine ⟨_, rfl, _, _, rfl, rfl, .inl ⟨by decide, by decide⟩, ?_⟩
        refine ⟨fun σ' H' => ∃ y3 : Int, σ' = [some (.ref p), some (.int m), some (.int a), some (.int y3), none] ∧ Ex H H', ?_, ?_⟩
        · refine ⟨_, rfl, _, rfl, p, _, 0, .ref c, rfl, rfl, sq_of hp, rfl, c, _, rfl, .inl (sq_of hc), _, _, rfl, rfl, _, rfl, ite2 (fun e => ?_) (fun e => ?_)⟩
          · have ha : a < (ns.map V.int).length := of_decide_eq_true e
            have hb : a.toNat < ns.length := by
              rw [List.length_map] at ha
              omega
            refine ⟨_, rfl, p, _, 0, .ref c, rfl, rfl, sq_of hp, rfl, _, rfl, c, _, a, .int ns[a.toNat], rfl, rfl, sq_of hc, at_of (j := a.toNat) (by omega) ?_, _, rfl, Ex.refl _⟩
            rw [List.getElem?_map, List.getElem?_eq_getElem hb]
            rfl
          · refine ⟨_, rfl, p, _, 0, .ref c, rfl, rfl, sq_of hp, rfl, Nat.zero_le _, fun u hu => ?_⟩
            have e1 : Ex H (upd H u (.lst [])) := Ex.new hu
            refine ⟨.list (ns.map PyData.int), .list [], .lst (sq_of (e1 _ _ hc)) (dpInts ns), .lst (sq_of upd_same) .nil, shapedInts ns, shapedNil, _, rfl, ite2 (fun e => ?_) (fun e => ?_)⟩
            · have h0 : 0 < ns.length := by
                cases ns with
                | nil => exact absurd e (by decide)
                | cons x t => exact Nat.succ_pos _
              have hl : (0 : Int) < ((ns.map V.int).length : Int) := by
                rw [List.length_map]
                omega
              have g0 := Int.emod_nonneg (a * 7 + 1) (show ((ns.map V.int).length : Int) ≠ 0 by omega)
              have g1 := Int.emod_lt_of_pos (a * 7 + 1) hl
              have hb : ((a * 7 + 1) % ((ns.map V.int).length : Int)).toNat < ns.length := by
                rw [List.length_map] at g0 g1 ⊢
                omega
              refine ⟨_, rfl, p, _, 0, .ref c, rfl, rfl, sq_of (e1 _ _ hp), rfl, _, rfl, _, _, rfl, rfl, .inr ⟨by decide, by decide⟩, _, _, rfl, rfl, _, rfl, p, _, 0, .ref c, rfl, rfl, sq_of (e1 _ _ hp), rfl, c, _, rfl, .inl (sq_of (e1 _ _ hc)), _, _, rfl, rfl, hl, c, _, _, .int ns[((a * 7 + 1) % ((ns.map V.int).length : Int)).toNat], rfl, rfl, sq_of (e1 _ _ hc), at_of (j := ((a * 7 + 1) % ((ns.map V.int).length : Int)).toNat) (by omega) ?_, _, _, rfl, rfl, ⟨by decide, by decide, by decide⟩, _, rfl, _, _, rfl, rfl, .inl ⟨by decide, by decide⟩, _, _, rfl, rfl, _, _, rfl, rfl, ?_, _, rfl, e1⟩
              · rw [List.getElem?_map, List.getElem?_eq_getElem hb]
                rfl
              · show (0 : Int) < 10 ^ (17 : Int).toNat + 3 * a
                have : (10 : Int) ^ (17 : Int).toNat = 100000000000000000 := by decide
                omega
            · exact ⟨_, rfl, e1⟩
        · rintro σ' H' ⟨y3, rfl, e1⟩
          refine ⟨_, rfl, _, _, rfl, rfl, _, rfl, p, _, 1, 1, rfl, rfl, e1 _ _ hp, rfl, ?_⟩
          refine ⟨_, rfl, _, rfl, _, _, rfl, fun v => ⟨_, rfl, p, _, 2, 2, rfl, rfl, upd_same, rfl, ⟨_, _, rfl⟩, ?_, a + 1, v, by omega, upd_same, ?_⟩⟩
          · exact ((Keep.ofEx e1).at).at
          · rw [upd_ne hne, upd_ne hne]
            exact e1 _ _ hc
      · exact ⟨⟨_, _, rfl⟩, Keep.refl _ _, a, r, a0, hp, hc⟩
    · rintro σ' H' ⟨⟨y2, y3, rfl⟩, kp, a', r', a0', hp', hc'⟩
      have g0 := Int.emod_nonneg r' (show m ≠ 0 by omega)
      have g1 := Int.emod_lt_of_pos r' m0
      refine ⟨_, rfl, p, _, 2, .int r', rfl, rfl, sq_of hp', rfl, _, rfl, _, _, rfl, rfl, m0, ?_⟩
      refine ⟨_, rfl, p, _, 2, .int r', rfl, rfl, sq_of hp', rfl, _, rfl, _, _, rfl, rfl, ⟨m0, m1⟩, _, rfl, p, _, 2, 2, rfl, rfl, hp', rfl, ?_⟩
      refine ⟨_, rfl, ?_⟩
      have e : r' % m = ((r' % m).toNat : Int) := by omega
      show Q (.int (r' % m)) _
      rw [e]
      refine q _ _ (by omega) kp.at ⟨a', r' / m, a0', upd_same, ?_⟩
      rw [upd_ne hne]
      exact hc'
end
end Eh
set_option Elab.async false
set_option linter.all false
set_option maxRecDepth 100000
set_option maxHeartbeats 4000000
namespace Eh
open PySem PySem.Spec PyProof.Rows L2 Evl
/-- for i, x in enumerate(list) -/
theorem for_enum {K : PySem.W.Frag} {a : Addr} {xs : List V} {tb : TS} {D : Ends} {σ : L2.St} {H : Hp} {i1 i2 : Nat} (Pv : Nat → L2.St → Hp → Prop) (h0 : Pv 0 σ H) (hl : ∀ i σ H, i ≤ xs.length → Pv i σ H → SqL K H a xs)
    (hs : ∀ i x σ H T, xs[i]? = some x → Pv i σ H → H T = none → tb { D with nx := Pv (i + 1), ct := Pv (i + 1), bk := D.nx } ((σ.set i1 (some (.int (i : Nat)))).set i2 (some x)) (upd H T (.tup [.int (i : Nat), x])))
    (hd : ∀ σ H, Pv xs.length σ H → D.nx σ H) :
    ∃ W : Nat → Nat → L2.St → Hp → Prop, (∃ m, W 0 m σ H) ∧ ∀ i m σ H, W i m σ H →
      ((Ite K a).stop i H ∧ D.nx σ H) ∨ ((Ite K a).go i H ∧ ∃ N : L2.St → Hp → Prop, (∀ σ' H', N σ' H' → ∃ m', m' < m ∧ W (i + 1) m' σ' H') ∧ ∀ x H', (Ite K a).yld i H x H' → gTup K 2 (gCons (gName i1) (gCons (gName i2) gNil)) x σ H' fun σ2 H2 => tb { D with nx := N, ct := N, bk := D.nx } σ2 H2) := by
  refine ⟨fun i m σ H => m = xs.length - i ∧ i ≤ xs.length ∧ Pv i σ H, ⟨xs.length, by omega, Nat.zero_le _, h0⟩, ?_⟩
  rintro i m σ H ⟨rfl, hi, p⟩
  have q := hl i σ H hi p
  by_cases hlt : i < xs.length
  · refine .inr ⟨⟨xs, xs[i], q, List.getElem?_eq_getElem hlt⟩, Pv (i + 1), fun σ' H' p' => ⟨xs.length - (i + 1), by omega, rfl, hlt, p'⟩, fun v H' y => ?_⟩
    obtain ⟨T, x, rfl, nT, rfl, f⟩ := y
    exact ⟨T, [.int (i : Nat), x], rfl, st_of upd_same, rfl, _, _, rfl, _, _, rfl, rfl, hs i x σ H T (f xs q) p nT⟩
  · have e : i = xs.length := by omega
    subst e
    exact .inl ⟨⟨xs, q, Nat.le_refl _⟩, hd σ H p⟩
theorem cut0 (xs : List V) (n : Nat) : cutV xs none (some (n : Int)) = xs.take n := by
  unfold cutV
  rw [HT.sIx_none, HT.sIx_nat, List.drop_zero, Nat.sub_zero]
  rw [List.take_eq_take_iff]
  omega
theorem cutF (xs : List V) (n : Nat) : cutV xs (some (n : Int)) none = xs.drop n := by
  unfold cutV
  rw [HT.sIx_none, HT.sIx_nat]
  by_cases h : n ≤ xs.length
  · rw [Nat.min_eq_left h]
    exact List.take_of_length_le (by rw [List.length_drop]; exact Nat.le_refl _)
  · rw [Nat.min_eq_right (by omega), List.drop_of_length_le (Nat.le_refl _), List.drop_of_length_le (by omega)]
    exact List.take_nil
theorem cutLH (xs : List V) (n m : Nat) : cutV xs (some (n : Int)) (some (m : Int)) = (xs.take m).drop n := by
  unfold cutV
  rw [HT.sIx_nat, HT.sIx_nat, List.drop_take]
  by_cases h : n ≤ xs.length
  · rw [Nat.min_eq_left h, List.take_eq_take_iff, List.length_drop]
    omega
  · rw [Nat.min_eq_right (show xs.length ≤ n by omega), List.drop_of_length_le (Nat.le_refl _), List.drop_of_length_le (show xs.length ≤ n by omega), List.take_nil, List.take_nil]
section
variable {P : Program} {w : World} {K : PySem.W.Frag} {mg : Str → Option Value} {base : Heap}
def spPot (K : PySem.W.Frag) : Sp := fun vs H Q _ => ∃ (a : Addr) (ns : List Int), vs = [.ref a] ∧ SqL K H a (ns.map V.int) ∧ ns.length ≤ 63 ∧ ∀ (p c : Addr) (ms : List Int) H', Ex H H' → Pot p c ms H' → H p = none → H c = none → Q (.ref p) H'
theorem ok_pot {f : Addr} {fd : FuncData} {k : Nat} (F : Fun K "_law_pot" "_law_pot" sPot f fd) (ml : mg "list" = none) (me : mg "enumerate" = none) :
    FnOk P w K mg base CX0 (k + 1) f fd ["script"] (spPot K) := by
  have nd := scPot.nd
  refine F.ok scPot (fun vs H Q E h => ?_) (fun cdv A outer s H vs Q E hr h => ?_)
  · obtain ⟨a, ns, rfl, _⟩ := h
    rfl
  · obtain ⟨a, ns, rfl, hS, hl, q⟩ := h
    refine ⟨_, pss_cons (ps_set (i := 1) nd rfl (.inl rfl) (pe_callTy call_list_of (by rfl) ml (by decide +kernel) (pa_cons (pe_slice sl_list (pv 0) po_none (po_some pe_int)) pa_nil)))
      (pss_cons (ps_for PassesOwn.never rfl (pi_enum (by rfl) me (pa_cons (pe_slice sl_list (pv 0) (po_some pe_int) (po_some pe_int)) pa_nil)) (pg_tup rfl (pgs_cons (pg_name (i := 2) nd rfl (.inl rfl)) (pgs_cons (pg_name (i := 3) nd rfl (.inl rfl)) pgs_nil)))
         (pss_one (ps_asg (pe_op op_add (pe_ix ix_list (pv 1) (pe_op op_mod (pv 2) pe_int) (fun _ _ => rfl)) (pv 3)) (pg_sub (pv 1) (pe_op op_mod (pv 2) pe_int) set_list))))
      (pss_one (ps_ret (pe_lst (pa_cons (pv 1) (pa_cons pe_int (pa_cons pe_int pa_nil))))))), ?_⟩
    refine ⟨_, rfl, 12, rfl, a, _, rfl, hS, fun u hu => ⟨u, _, rfl, .inl (sq_of upd_same), fun c hc => ?_⟩⟩
    have hcu : c ≠ u := fun e => by
      rw [e, upd_same] at hc
      cases hc
    have hcH : H c = none := by rw [← hc, upd_ne hcu]
    have e1 : Ex H (upd (upd H u (.lst (cutV (ns.map V.int) none (some 12)))) c (.lst (cutV (ns.map V.int) none (some 12)))) := (Ex.new hu).trans (Ex.new hc)
    have ec : cutV (ns.map V.int) none (some 12) = (ns.take 12).map V.int := by
      rw [show (some 12 : Option Int) = some ((12 : Nat) : Int) from rfl, cut0, List.map_take]
    rw [ec] at e1
    rw [ec]
    generalize hH1 : upd (upd H u (.lst ((ns.take 12).map V.int))) c (.lst ((ns.take 12).map V.int)) = H1 at e1 ⊢
    have hc1 : H1 c = some (.lst ((ns.take 12).map V.int)) := by
      rw [← hH1]
      exact upd_same
    refine ⟨_, rfl, 12, rfl, 63, rfl, a, _, rfl, ex_l e1 hS, fun l nl => ?_⟩
    have es : cutV (ns.map V.int) (some 12) (some 63) = ((ns.take 63).drop 12).map V.int := by
      rw [show (some 12 : Option Int) = some ((12 : Nat) : Int) from rfl, show (some 63 : Option Int) = some ((63 : Nat) : Int) from rfl, cutLH, List.map_drop, List.map_take]
    rw [es]
    have nlc : l ≠ c := fun e => by
      rw [e, hc1] at nl
      cases nl
    refine ⟨l, _, rfl, sq_of upd_same, for_enum (xs := ((ns.take 63).drop 12).map V.int) (fun i σ H' => (∃ y2 y3, σ = [some (.ref a), some (.ref c), y2, y3]) ∧ Ex H H' ∧ H' l = some (.lst (((ns.take 63).drop 12).map V.int)) ∧ ∃ ms : List Int, ms.length = min 12 ns.length ∧ H' c = some (.lst (ms.map V.int))) ?_ ?_ ?_ ?_⟩
    · refine ⟨⟨_, _, rfl⟩, e1.trans (Ex.new nl), upd_same, ns.take 12, ?_, ?_⟩
      · rw [List.length_take]
      · rw [upd_ne nlc.symm]
        exact hc1
    · rintro i σ H' _ ⟨_, _, h, _⟩
      exact sq_of h
    · rintro i x σ H' T hx ⟨⟨y2, y3, rfl⟩, eH, hl', ms, hms, hc'⟩ nT
      have ex : ∃ z : Int, x = .int z := by
        rw [List.getElem?_map] at hx
        obtain ⟨z, _, e⟩ := Option.map_eq_some_iff.mp hx
        exact ⟨z, e.symm⟩
      obtain ⟨z, rfl⟩ := ex
      have hi : 12 < ns.length := by
        have := (List.getElem?_eq_some_iff.mp hx).1
        rw [List.length_map, List.length_drop, List.length_take] at this
        omega
      have g0 : ((i : Int) % 12) = ((i % 12 : Nat) : Int) := by omega
      have hj : i % 12 < ms.length := by
        rw [hms]
        have := Nat.mod_lt i (show 0 < 12 by decide)
        omega
      have eT : Ex H' (upd H' T (.tup [.int (i : Nat), .int z])) := Ex.new nT
      have ix : (ms.map V.int)[i % 12]? = some (.int ms[i % 12]) := by
        rw [List.getElem?_map, List.getElem?_eq_getElem hj]
        rfl
      refine ⟨_, rfl, _, rfl, _, _, rfl, rfl, (by show (0 : Int) < _; decide), c, _, _, _, rfl, rfl, sq_of (eT _ _ hc'), at_of (j := i % 12) g0 ix, _, rfl, _, _, rfl, rfl, _, rfl, _, rfl, _, _, rfl, rfl, (by show (0 : Int) < _; decide), c, _, _, i % 12, rfl, rfl, eT _ _ hc', ?_, ⟨_, _, rfl⟩, ?_, ?_, ms.set (i % 12) (ms[i % 12] + z), ?_, ?_⟩
      · show ixN _ ((i : Int) % 12) = _
        rw [g0]
        exact ixN_nat (by rw [List.length_map]; exact hj)
      · exact Ex.mut (eH.trans eT) hcH
      · rw [upd_ne nlc]
        exact eT _ _ hl'
      · rw [List.length_set]
        exact hms
      · rw [upd_same, List.map_set]
    · rintro σ H' ⟨⟨y2, y3, rfl⟩, eH, hl', ms, hms, hc'⟩
      refine ⟨_, rfl, (by show 3 ≤ sizeLine; decide), fun p np => q p c ms _ (eH.trans (Ex.new np)) ⟨0, 0, by decide, upd_same, ?_⟩ (fresh_back eH np) hcH⟩
      have : c ≠ p := fun e => by
        rw [← e, hc'] at np
        cases np
      rw [upd_ne this]
      exact hc'
end
end Eh
set_option Elab.async false
set_option linter.all false
set_option maxRecDepth 100000
set_option maxHeartbeats 4000000
namespace Eh
open PySem PySem.Spec PyProof.Rows L2 Evl TL
/-! texts as lists of codes -/
abbrev cs (w : Str) : List Nat := w.cps.toList
theorem cs_ext {x y : Str} (h : cs x = cs y) : x = y := by
  cases x with | mk a => cases y with | mk b =>
  have : a = b := by
    apply Array.ext'
    exact h
  rw [this]
def az (c : Nat) : Prop := 97 ≤ c ∧ c < 123
/-- what is drawn as a letter -/
def Ltr (w : Str) : Prop := (∀ c ∈ cs w, az c) ∧ 1 ≤ (cs w).length ∧ (cs w).length ≤ 8
def spotAt (spot n : Nat) : Nat := if spot = 0 then 0 else if spot = 1 then n else n / 2
def mkL (rest : List Nat) (spot turn size k : Nat) : List Nat :=
  (rest.take ((size + k * (spot % 2)) % 8)).take (spotAt spot (rest.take ((size + k * (spot % 2)) % 8)).length) ++ ([97 + (turn + 5 * k) % 26] ++ (rest.take ((size + k * (spot % 2)) % 8)).drop (spotAt spot (rest.take ((size + k * (spot % 2)) % 8)).length))
theorem mkL_inj {rest : List Nat} {spot turn size k1 k2 : Nat} (hs : spot < 3) (h1 : k1 < 26) (h2 : k2 < 26) (h : mkL rest spot turn size k1 = mkL rest spot turn size k2) : k1 = k2 := by
  have key : 97 + (turn + 5 * k1) % 26 = 97 + (turn + 5 * k2) % 26 → k1 = k2 := fun e => by omega
  apply key
  unfold mkL at h
  have cases3 : spot = 0 ∨ spot = 1 ∨ spot = 2 := by omega
  rcases cases3 with rfl | rfl | rfl
  · simp only [spotAt, if_true, List.take_zero, List.nil_append, List.cons_append] at h
    exact (List.cons.inj h).1
  · have n1 : ∀ l : List Nat, spotAt 1 l.length = l.length := fun l => rfl
    rw [n1, n1, List.take_length, List.take_length, List.drop_length, List.drop_length, List.append_nil, List.append_nil] at h
    exact (List.cons.inj (List.append_inj' h rfl).2).1
  · rw [show k1 * (2 % 2) = 0 from Nat.mul_zero _, show k2 * (2 % 2) = 0 from Nat.mul_zero _] at h
    have := List.append_cancel_left h
    exact (List.cons.inj this).1
theorem mkL_len {rest : List Nat} {spot turn size k : Nat} : (mkL rest spot turn size k).length = (rest.take ((size + k * (spot % 2)) % 8)).length + 1 := by
  unfold mkL
  generalize rest.take ((size + k * (spot % 2)) % 8) = l
  rw [List.length_append, List.length_append, List.length_take, List.length_drop, List.length_singleton]
  omega
theorem mkL_az {rest : List Nat} {spot turn size k : Nat} (h : ∀ c ∈ rest, az c) : ∀ c ∈ mkL rest spot turn size k, az c := by
  intro c hc
  unfold mkL at hc
  rcases List.mem_append.mp hc with q | q
  · exact h c (List.mem_of_mem_take (List.mem_of_mem_take q))
  · rcases List.mem_append.mp q with q | q
    · rw [List.mem_singleton.mp q]
      unfold az
      omega
    · exact h c (List.mem_of_mem_take (List.mem_of_mem_drop q))
def mkS (rest : List Nat) (spot turn size k : Nat) : Str := ⟨(mkL rest spot turn size k).toArray⟩
theorem cs_mkS {rest : List Nat} {spot turn size k : Nat} : cs (mkS rest spot turn size k) = mkL rest spot turn size k := rfl
def mkAll (rest : List Nat) (spot turn size n : Nat) : List Str := (List.range n).map (mkS rest spot turn size)
theorem mkAll_nodup {rest : List Nat} {spot turn size n : Nat} (hs : spot < 3) (hn : n ≤ 26) : (mkAll rest spot turn size n).Nodup := by
  unfold mkAll
  rw [List.Nodup, List.pairwise_map]
  refine List.Pairwise.imp_of_mem (fun {a b} ha hb hab e => hab ?_) (List.nodup_range (n := n))
  have ha' := List.mem_range.mp ha
  have hb' := List.mem_range.mp hb
  exact mkL_inj hs (by omega) (by omega) (by
    have := congrArg cs e
    exact this)
theorem mkAll_ltr {rest : List Nat} {spot turn size n : Nat} (h : ∀ c ∈ rest, az c) : ∀ w ∈ mkAll rest spot turn size n, Ltr w := by
  intro w hw
  obtain ⟨k, _, rfl⟩ := List.mem_map.mp hw
  refine ⟨fun c hc => mkL_az h c hc, ?_, ?_⟩
  · rw [cs_mkS, mkL_len]
    omega
  · rw [cs_mkS, mkL_len, List.length_take]
    omega
theorem joinL_nil : ∀ ls : List (List Nat), joinL [] ls = ls.flatten
  | [] => rfl
  | [p] => by simp [joinL]
  | p :: q :: r => by
    show p ++ ([] ++ joinL [] (q :: r)) = (p :: q :: r).flatten
    rw [joinL_nil (q :: r), List.nil_append]
    rfl
theorem flat_one : ∀ ds : List Nat, (ds.map fun c => [c]).flatten = ds
  | [] => rfl
  | d :: r => by
    show [d] ++ (r.map fun c => [c]).flatten = d :: r
    rw [flat_one r]
    rfl
theorem cs_join (ds : List Nat) : cs (Txt.join (Str.ofString "") (ds.map fun c => (⟨#[c]⟩ : Str))) = ds := by
  have h := tl_join (Str.ofString "") (ds.map fun c => (⟨#[c]⟩ : Str))
  rw [← join_eq, show tl (Str.ofString "") = [] from rfl, joinL_nil, List.map_map] at h
  exact h.trans (flat_one ds)
abbrev alpha : Str := Str.ofString "abcdefghijklmnopqrstuvwxyz"
theorem cs_alpha : cs alpha = (List.range 26).map (97 + ·) := by decide +kernel
theorem alpha_at {v : Nat} (h : v < 26) : atI (cs alpha) (v : Int) = some (97 + v) := by
  refine atI_nat ?_
  rw [cs_alpha, List.getElem?_map, List.getElem?_range h]
  rfl
theorem cs_app (x y : Str) : cs (x ++ y) = cs x ++ cs y := tl_append x y
theorem len_cs (x : Str) : x.length = (cs x).length := by simp [Str.length]
theorem cs_cut0 (x : Str) (n : Nat) : cs (cutS x none (some (n : Int))) = (cs x).take n := by
  unfold cutS
  rw [HT.sIx_none, HT.sIx_nat]
  show ((cs x).drop 0).take _ = _
  rw [List.drop_zero, Nat.sub_zero, List.take_eq_take_iff, len_cs]
  omega
theorem cs_cutF (x : Str) (n : Nat) : cs (cutS x (some (n : Int)) none) = (cs x).drop n := by
  unfold cutS
  rw [HT.sIx_none, HT.sIx_nat, len_cs]
  show ((cs x).drop _).take _ = _
  by_cases h : n ≤ (cs x).length
  · rw [Nat.min_eq_left h]
    exact List.take_of_length_le (by rw [List.length_drop]; exact Nat.le_refl _)
  · rw [Nat.min_eq_right (show (cs x).length ≤ n by omega), List.drop_of_length_le (Nat.le_refl _), List.drop_of_length_le (show (cs x).length ≤ n by omega), List.take_nil]
end Eh
set_option Elab.async false
set_option linter.all false
set_option maxRecDepth 100000
set_option maxHeartbeats 4000000
namespace Eh
open PySem PySem.Spec PyProof.Rows L2
section
variable {X : Cx}
theorem call_repr_bl : CallR X (.builtin "repr") (fun xs H Q => ∃ b, xs = [.bl b] ∧ Q (.str (if b then "True" else "False")) H) := by
  intro pins s σ H xs us Q I r h
  obtain ⟨b, rfl, q⟩ := h
  cases r with
  | cons r1 rr =>
    cases rr
    cases r1
    exact PySem.P.repr_of_bool ⟨.str _, H, I.tok _, ⟨_, rfl⟩, q⟩
/-- a text so often -/
def repS (x : Str) (n : Nat) : Str := ⟨(List.replicate n x.cps).foldl (· ++ ·) #[]⟩
theorem foldl_app (l : List (Array Nat)) (a : Array Nat) : (l.foldl (· ++ ·) a).toList = a.toList ++ (l.map (·.toList)).flatten := by
  induction l generalizing a with
  | nil => simp
  | cons x r ih =>
    rw [List.foldl_cons, ih]
    simp
theorem repS_cs (x : Str) (n : Nat) : (repS x n).cps.toList = (List.replicate n x.cps.toList).flatten := by
  unfold repS
  rw [foldl_app, List.map_replicate]
  rfl
theorem op_repS : OpR X (binaryOp .Mult) (fun x y H Q => ∃ (z : Str) (n : Nat), x = .str z ∧ y = .int (n : Int) ∧ z.length ≤ 1000 ∧ n ≤ 1000 ∧ Q (.str (repS z n)) H) := by
  intro pins s σ H x y v u Q I rx ry h
  obtain ⟨z, n, rfl, rfl, hz, hn, q⟩ := h
  obtain ⟨t, rfl⟩ := rx
  obtain ⟨t', rfl⟩ := ry
  have e0 : n < 1 → repS z n = Str.empty := fun h => by
    have : n = 0 := by omega
    subst this
    rfl
  have ext : ∀ a b : Str, a.cps.toList = b.cps.toList → a = b := fun a b h => by
    cases a
    cases b
    congr 1
    exact Array.toList_inj.mp h
  have e1 : (n = 1 ∨ z.length = 0) → ¬ n < 1 → repS z n = z := fun h h1 => by
    apply ext
    rw [repS_cs]
    rcases h with h | h
    · subst h
      simp
    · have hz0 : z.cps.toList = [] := by
        have : z.cps.size = 0 := h
        exact List.eq_nil_of_length_eq_zero (by simpa using this)
      rw [hz0]
      simp
  have hm : z.length * n ≤ 1000000 := Nat.le_trans (Nat.mul_le_mul hz hn) (by decide)
  refine PySem.P.mul_str (by rw [decide_eq_false (by omega), decide_eq_false (by omega)]; rfl) (fun h1 _ => ?_) (fun h1 _ => ?_) ?_
  · have h2 : (1 : Int) ≤ n := by omega
    have h3 : (9223372036854775807 : Int) / (n : Int) ≥ 9223372036854775807 / 1000 := by
      refine Int.le_ediv_of_mul_le (by omega) ?_
      omega
    show ¬ ((z.length : Int) > (2 ^ 63 - 1) / (n : Int))
    have e2 : ((2 : Int) ^ 63 - 1) = 9223372036854775807 := by decide
    rw [e2]
    omega
  · rw [Int.toNat_natCast]
    show decide (z.length * n > sizeLine) = false
    rw [sizeLine_eq]
    exact decide_eq_false (by omega)
  · by_cases h1 : (n : Int) < 1
    · rw [if_pos h1]
      refine ⟨by decide, .str (repS z n), H, I.tok _, ⟨s.toks, ?_⟩, q⟩
      rw [e0 (by omega)]
    · rw [if_neg h1]
      by_cases h2 : ((n : Int) == 1 || z.length == 0) = true
      · rw [if_pos h2]
        have h3 : n = 1 ∨ z.length = 0 := by
          simp at h2
          omega
        have h4 := e1 h3 (by omega)
        rw [h4] at q
        exact ⟨.str z, H, I, ⟨_, rfl⟩, q⟩
      · rw [if_neg h2]
        have hl : (repS z n).length ≤ sizeLine := by
          have : (repS z n).length = n * z.length := by
            show (repS z n).cps.size = n * z.cps.size
            rw [← Array.length_toList, repS_cs]
            simp
          rw [this, sizeLine_eq, Nat.mul_comm]
          omega
        exact ⟨hl, .str (repS z n), H, I.tok _, ⟨_, rfl⟩, q⟩
/-- xs < ys, lists of ints -/
theorem firstLt_lex : ∀ (ns ms : List Int) (k : Nat) (e r : Nat → Bool), (∀ j, j < ns.length → j < ms.length → e (k + j) = decide (ns[j]? = ms[j]?)) → (∀ j, j < ns.length → j < ms.length → r (k + j) = decide (ns.getD j 0 < ms.getD j 0)) → SeqAt.firstLt e r (decide (ns.length < ms.length)) ((List.range (min ns.length ms.length)).map (k + ·)) = HT.lexLt ns ms
  | [], [], k, e, r, _, _ => rfl
  | [], y :: ms, k, e, r, _, _ => by simp [SeqAt.firstLt, HT.lexLt]
  | x :: ns, [], k, e, r, _, _ => by simp [SeqAt.firstLt, HT.lexLt]
  | x :: ns, y :: ms, k, e, r, he, hr => by
    rw [HT.lexLt_cons, List.length_cons, List.length_cons, show min (ns.length + 1) (ms.length + 1) = min ns.length ms.length + 1 by omega, List.range_succ_eq_map, List.map_cons, List.map_map]
    have e0 := he 0 (by simp) (by simp)
    have r0 := hr 0 (by simp) (by simp)
    have ih := firstLt_lex ns ms (k + 1) e r (fun j h1 h2 => by
      have := he (j + 1) (by simpa using h1) (by simpa using h2)
      rw [show k + 1 + j = k + (j + 1) by omega, this]
      simp) (fun j h1 h2 => by
      have := hr (j + 1) (by simpa using h1) (by simpa using h2)
      rw [show k + 1 + j = k + (j + 1) by omega, this]
      simp)
    by_cases h : x = y
    · rw [if_pos h, SeqAt.firstLt_yes (by rw [e0]; simp [h])]
      rw [show (decide (ns.length + 1 < ms.length + 1)) = decide (ns.length < ms.length) by simp, show ((fun x => k + x) ∘ Nat.succ) = (fun x => k + 1 + x) by funext z; show k + (z + 1) = k + 1 + z; omega]
      exact ih
    · rw [if_neg h, SeqAt.firstLt_no (by rw [e0]; simp [h]), r0]
      rfl
def rLtL (K : PySem.W.Frag) : R2 := fun x y H Q => ∃ (a b : Addr) (ns ms : List Int), x = .ref a ∧ y = .ref b ∧ SqL K H a (ns.map V.int) ∧ SqL K H b (ms.map V.int) ∧ Q (.bl (HT.lexLt ns ms)) H
theorem op_ltL (hu : X.A.units < cLine) : OpR X (compareOp .Lt) (rLtL X.K) := by
  intro pins s σ H x y v u Q I rx ry h
  obtain ⟨a, b, ns, ms, rfl, rfl, ha, hb, q⟩ := h
  cases rx
  cases ry
  obtain ⟨its, r1, p1, _⟩ := I.list ha
  obtain ⟨its2, r2, p2, _⟩ := I.list hb
  have l1 : its.length = ns.length := by
    have := r1.length
    rw [List.length_map] at this
    exact this.symm
  have l2 : its2.length = ms.length := by
    have := r2.length
    rw [List.length_map] at this
    exact this.symm
  have g1 : ∀ j (h : j < ns.length), ∃ t, its[j]'(by omega) = .int ns[j] t := fun j h => by
    obtain ⟨u, hu, t, ru⟩ := r1.get (i := j) (show (ns.map V.int)[j]? = some (.int ns[j]) by rw [List.getElem?_map, List.getElem?_eq_getElem h]; rfl)
    obtain ⟨_, e⟩ := List.getElem?_eq_some_iff.mp hu
    exact ⟨t, e.trans ru⟩
  have g2 : ∀ j (h : j < ms.length), ∃ t, its2[j]'(by omega) = .int ms[j] t := fun j h => by
    obtain ⟨u, hu, t, ru⟩ := r2.get (i := j) (show (ms.map V.int)[j]? = some (.int ms[j]) by rw [List.getElem?_map, List.getElem?_eq_getElem h]; rfl)
    obtain ⟨_, e⟩ := List.getElem?_eq_some_iff.mp hu
    exact ⟨t, e.trans ru⟩
  have key := SeqAt.RcLt.lists (A := X.A) (s := s) (e := fun j => decide (ns[j]? = ms[j]?)) (r := fun j => decide (ns.getD j 0 < ms.getD j 0)) p1.isList p2.isList hu (fun j h1 h2 => ?_) (fun j h1 h2 hj => ?_)
  · have e : SeqAt.firstLt (fun j => decide (ns[j]? = ms[j]?)) (fun j => decide (ns.getD j 0 < ms.getD j 0)) (decide (its.toArray.size < its2.toArray.size)) (List.range (min its.toArray.size its2.toArray.size)) = HT.lexLt ns ms := by
      have := firstLt_lex ns ms 0 (fun j => decide (ns[j]? = ms[j]?)) (fun j => decide (ns.getD j 0 < ms.getD j 0)) (fun j _ _ => by rw [Nat.zero_add]) (fun j _ _ => by rw [Nat.zero_add])
      rw [← this]
      simp [l1, l2]
    rw [e] at key
    exact key _ _ _ _ ⟨.bl _, H, I, rfl, q⟩
  · have h1' : j < ns.length := by simpa [l1] using h1
    have h2' : j < ms.length := by simpa [l2] using h2
    obtain ⟨t1, e1⟩ := g1 j h1'
    obtain ⟨t2, e2⟩ := g2 j h2'
    have e3 : its.toArray[j] = .int ns[j] t1 := by simpa using e1
    have e4 : its2.toArray[j] = .int ms[j] t2 := by simpa using e2
    rw [e3, e4]
    have := SeqAt.EqAt.int_int (A := X.A.in1) (s := s) ns[j] t1 ms[j] t2
    have e5 : decide (ns[j]? = ms[j]?) = (ns[j] == ms[j]) := by
      rw [List.getElem?_eq_getElem h1', List.getElem?_eq_getElem h2']
      by_cases z : ns[j] = ms[j] <;> simp [z]
    simp only [e5]
    exact this
  · have h1' : j < ns.length := by simpa [l1] using h1
    have h2' : j < ms.length := by simpa [l2] using h2
    obtain ⟨t1, e1⟩ := g1 j h1'
    obtain ⟨t2, e2⟩ := g2 j h2'
    have e3 : its.toArray[j] = .int ns[j] t1 := by simpa using e1
    have e4 : its2.toArray[j] = .int ms[j] t2 := by simpa using e2
    rw [e3, e4]
    have e5 : decide (ns.getD j 0 < ms.getD j 0) = decide (ns[j] < ms[j]) := by
      rw [List.getD_eq_getElem?_getD, List.getD_eq_getElem?_getD, List.getElem?_eq_getElem h1', List.getElem?_eq_getElem h2']
      rfl
    simp only [e5]
    intro prog w E Q hq
    exact HT.rcLt_int _ _ _ _ _ _ prog w E Q hq
end
end Eh
set_option Elab.async false
set_option linter.all false
set_option maxRecDepth 100000
set_option maxHeartbeats 4000000
namespace Eh
open PySem PySem.Spec PyProof.Rows L2 Evl
abbrev lS (ws : List Str) : HO := .lst (ws.map V.str)
abbrev nLetters : List Str := ["pot", "many", "small", "k", "rest", "spot", "turn", "size", "found", "part", "at"]
theorem yesT {σ : L2.St} {H : Hp} {A B : Hp → Prop} (h : A H) : tYes σ H (fun b H3 => if b = true then A H3 else B H3) := by
  show if true = true then A H else B H
  exact iteT h
theorem Pot.ne_new {p c q : Addr} {ns : List Int} {H : Hp} (h : Pot p c ns H) (hq : H q = none) : p ≠ q ∧ c ≠ q := by
  obtain ⟨a, r, h0, h1, h2⟩ := h
  exact ⟨ne_of_none h1 hq, ne_of_none h2 hq⟩
/-! one sign so often -/
def mk3 (turn k : Nat) : Str := repS ⟨#[97 + (turn + 5 * (k / 6)) % 26]⟩ (1 + k % 6)
theorem cs_mk3 (turn k : Nat) : cs (mk3 turn k) = List.replicate (1 + k % 6) (97 + (turn + 5 * (k / 6)) % 26) := by
  show (mk3 turn k).cps.toList = _
  unfold mk3
  rw [repS_cs]
  show (List.replicate (1 + k % 6) [97 + (turn + 5 * (k / 6)) % 26]).flatten = _
  generalize 1 + k % 6 = n
  induction n with
  | zero => rfl
  | succ n ih =>
    rw [List.replicate_succ, List.replicate_succ, List.flatten_cons, ih]
    rfl
theorem mk3_inj {turn k1 k2 : Nat} (h1 : k1 < 26) (h2 : k2 < 26) (h : mk3 turn k1 = mk3 turn k2) : k1 = k2 := by
  have e := congrArg cs h
  rw [cs_mk3, cs_mk3] at e
  have l := congrArg List.length e
  rw [List.length_replicate, List.length_replicate] at l
  have c : (List.replicate (1 + k1 % 6) (97 + (turn + 5 * (k1 / 6)) % 26))[0]? = (List.replicate (1 + k2 % 6) (97 + (turn + 5 * (k2 / 6)) % 26))[0]? := by rw [e]
  rw [List.getElem?_replicate, List.getElem?_replicate, if_pos (by omega), if_pos (by omega)] at c
  have c' := Option.some.inj c
  omega
theorem mk3_ltr (turn k : Nat) : Ltr (mk3 turn k) := by
  refine ⟨fun c hc => ?_, ?_, ?_⟩
  · rw [cs_mk3] at hc
    rw [List.eq_of_mem_replicate hc]
    unfold az
    omega
  · rw [cs_mk3, List.length_replicate]
    omega
  · rw [cs_mk3, List.length_replicate]
    omega
def all3 (turn n : Nat) : List Str := (List.range n).map (mk3 turn)
theorem all3_nodup {turn n : Nat} (h : n ≤ 26) : (all3 turn n).Nodup := by
  unfold all3
  refine List.pairwise_map.mpr (List.Pairwise.imp_of_mem ?_ List.nodup_range)
  intro a b ha hb hne e
  exact hne (mk3_inj (by have := List.mem_range.mp ha; omega) (by have := List.mem_range.mp hb; omega) e)
theorem Keep.back {p q : Addr} {H H' : Hp} (k : Keep p H H') (hq : q ≠ p) (h : H' q = none) : H q = none := by
  cases e : H q with
  | none => rfl
  | some o =>
    rw [k q o hq e] at h
    cases h
section
variable {P : Program} {w : World} {K : PySem.W.Frag} {mg : Str → Option Value} {base : Heap}
def spLetters : Sp := fun vs H Q _ => ∃ (p c : Addr) (ns : List Int) (m : Nat), vs = [.ref p, .int (m : Int)] ∧ m ≤ 26 ∧ Pot p c ns H ∧
  ∀ (ws : List Str) l H', ws.length = m → ws.Nodup → (∀ x ∈ ws, Ltr x) → Keep p H H' → Pot p c ns H' → H l = none → H' l = some (lS ws) → Q (.ref l) H'
theorem ok_letters {f fP : Addr} {fd fdP : FuncData} {k : Nat} (F : Fun K "_law_letters" "_law_letters" sLetters f fd) (FP : Fun K "_law_pick" "_law_pick" sPick fP fdP) (GP : FnOk P w K mg base CX0 (k + 1) fP fdP ["pot", "many"] spPick) (bP : Binds K fdP ["pot", "many"] []) (gP : mg "_law_pick" = some (.ref fP)) (ml : mg "len" = none) (mr : mg "range" = none) :
    FnOk P w K mg base CX0 (k + 2) f fd ["pot", "many"] spLetters := by
  have nd := scLetters.nd
  refine F.ok scLetters (fun vs H Q E h => ?_) (fun cdv A outer s H vs Q E hr h => ?_)
  · obtain ⟨p, c, ns, m, rfl, _⟩ := h
    rfl
  · obtain ⟨p, c, ns, m, rfl, m1, hP, q⟩ := h
    refine ⟨_, pss_cons (ps_set (i := 2) nd rfl (.inr rfl) pe_str)
      (pss_cons (ps_set (i := 4) nd rfl (.inl rfl) (pe_join pe_str (pe_lc (own := [("k", 3)]) (g := gName 3) (tt := tYes) (by rfl) nd (pi_range1 (by rfl) mr (pa_cons pe_int pa_nil)) (blkOk_by (own := [("k", 3)]) (N := nLetters) (sc := defScope sLetters) (by decide +kernel)) (fun _ _ _ _ _ => pg_name (i := 3) nd rfl (Or.inl rfl)) (fun _ _ _ _ _ => pts_nil)
          (fun _ _ _ _ _ => pe_ix ix_str (pv 2) (pe_call GP hr (by rfl) gP FP.kp bP .nil pass0 (pa_cons (pv 0) (pa_cons pe_int pa_nil))) (fun _ _ => rfl)))))
      (pss_cons (ps_set (i := 5) nd rfl (.inl rfl) (pe_call GP hr (by rfl) gP FP.kp bP .nil pass0 (pa_cons (pv 0) (pa_cons pe_int pa_nil))))
      (pss_cons (ps_set (i := 6) nd rfl (.inr rfl) (pe_call GP hr (by rfl) gP FP.kp bP .nil pass0 (pa_cons (pv 0) (pa_cons pe_int pa_nil))))
      (pss_cons (ps_set (i := 7) nd rfl (.inl rfl) (pe_call GP hr (by rfl) gP FP.kp bP .nil pass0 (pa_cons (pv 0) (pa_cons pe_int pa_nil))))
      (pss_cons (ps_if (pt_cmpR op_eq (pv 5) pe_int (nomark _)) (pss_one (ps_ret (pe_lc (own := [("k", 3)]) (g := gName 3) (tt := tYes) (by rfl) nd (pi_range1 (by rfl) mr (pa_cons (pv 1) pa_nil)) (blkOk_by (own := [("k", 3)]) (N := nLetters) (sc := defScope sLetters) (by decide +kernel)) (fun _ _ _ _ _ => pg_name (i := 3) nd rfl (Or.inl rfl)) (fun _ _ _ _ _ => pts_nil)
          (fun _ _ _ _ _ => pe_op op_repS (pe_ix ix_str (pv 2) (pe_op op_mod (pe_op op_add (pv 6) (pe_op op_mul pe_int (pe_op op_fdiv (pv 3) pe_int))) pe_int) (fun _ _ => rfl)) (pe_op op_add pe_int (pe_op op_mod (pv 3) pe_int)))))) pss_nil)
      (pss_cons (ps_set (i := 8) nd rfl (.inl rfl) (pe_lst pa_nil))
      (pss_cons (ps_for PassesOwn.never rfl (pi_range1 (by rfl) mr (pa_cons (pv 1) pa_nil)) (pg_name (i := 3) nd rfl (.inl rfl))
        (pss_cons (ps_set (i := 9) nd rfl (.inl rfl) (pe_slice sl_str (pv 4) po_none (po_some (pe_op op_mod (pe_op op_add (pv 7) (pe_op op_mul (pv 3) (pe_op op_mod (pv 5) pe_int))) pe_int))))
        (pss_cons (ps_set (i := 10) nd rfl (.inl rfl) (pe_ix ix_list (pe_lst (pa_cons pe_int (pa_cons (pe_callB call_len_str (by rfl) ml PySem.boot_len (pa_cons (pv 9) pa_nil)) (pa_cons (pe_op op_fdiv (pe_callB call_len_str (by rfl) ml PySem.boot_len (pa_cons (pv 9) pa_nil)) pe_int) pa_nil)))) (pv 5) (fun _ _ => rfl)))
        (pss_one (ps_expr (pe_bm PySem.F.plainAttrs_list PySem.F.slot_list_append PySem.F.type_list_append mt_append (pv 8) (pa_cons (pe_op op_add_str (pe_op op_add_str (pe_slice sl_str (pv 9) po_none (po_some (pv 10))) (pe_ix ix_str (pv 2) (pe_op op_mod (pe_op op_add (pv 6) (pe_op op_mul pe_int (pv 3))) pe_int) (fun _ _ => rfl))) (pe_slice sl_str (pv 9) (po_some (pv 10)) po_none)) pa_nil)))))))
      (pss_one (ps_ret (pv 8)))))))))), ?_⟩
    -- rest
    refine ⟨⟨_, rfl⟩, 7, rfl, by decide, by decide, fun D nD => ?_⟩
    refine lc_range (lo := 0) (n := 7) (fun i H' => ∃ ds : List Nat, ds.length = i ∧ (∀ d ∈ ds, az d) ∧ H' D = some (.lst (ds.map fun d => .str ⟨#[d]⟩)) ∧ Keep p H H' ∧ Pot p c ns H') ?_ ?_ ?_
    · exact ⟨[], rfl, fun d hd => (List.not_mem_nil hd).elim, upd_same, (Keep.refl p H).new nD, hP.new (hP.ne_new nD).1 (hP.ne_new nD).2⟩
    · rintro i H' hi ⟨ds, hds, haz, hD, kp, hP'⟩
      refine ⟨rfl, ?_⟩
      refine yesT ?_
      refine ⟨_, rfl, _, rfl, p, c, ns, 26, rfl, by decide, by decide, hP', fun v H2 hv kp2 hP2 => ?_⟩
      have hv' : v < 26 := by omega
      have hpD := (hP.ne_new nD).1
      have hD2 : H2 D = some (.lst (ds.map fun d => .str ⟨#[d]⟩)) := kp2 _ _ hpD.symm hD
      refine ⟨_, _, 97 + v, rfl, rfl, by decide, alpha_at hv', _, hD2, ?_, ds ++ [97 + v], ?_, ?_, ?_, ?_, ?_⟩
      · rw [List.length_map]
        exact sz_lt (by omega)
      · rw [List.length_append, hds]
        rfl
      · intro d hd
        rcases List.mem_append.mp hd with z | z
        · exact haz d z
        · rw [List.mem_singleton.mp z]
          unfold az
          omega
      · rw [upd_same, List.map_append]
        rfl
      · exact (kp.trans kp2).new nD
      · exact hP2.new hpD (hP.ne_new nD).2
    · rintro H1 ⟨ds, hds, haz, hD, kp, hP1⟩
      have hlen : ((ds.map fun d => (⟨#[d]⟩ : Str)).map (·.length)).sum ≤ 100 := by
        have : ∀ l : List Nat, ((l.map fun d => (⟨#[d]⟩ : Str)).map (·.length)).sum = l.length := fun l => by
          induction l with
          | nil => rfl
          | cons x r ih =>
            rw [List.map_cons, List.map_cons, List.sum_cons, ih, List.length_cons, show (⟨#[x]⟩ : Str).length = 1 from rfl]
            omega
        rw [this]
        omega
      refine ⟨_, D, ds.map fun d => (⟨#[d]⟩ : Str), rfl, rfl, .inl (sq_of (by rw [List.map_map]; exact hD)), ?_, ?_⟩
      · rw [List.length_map, show (Str.ofString "").length = 0 from rfl]
        omega
      · generalize hR : Txt.join (Str.ofString "") (ds.map fun d => (⟨#[d]⟩ : Str)) = rest
        have cR : cs rest = ds := by
          rw [← hR]
          exact cs_join ds
        -- spot, turn, size
        refine ⟨_, rfl, p, c, ns, 4, rfl, by decide, by decide, hP1, fun spot H2 hspot4 kp2 hP2 => ?_⟩
        refine ⟨_, rfl, p, c, ns, 26, rfl, by decide, by decide, hP2, fun turn H3 hturn kp3 hP3 => ?_⟩
        refine ⟨_, rfl, p, c, ns, 8, rfl, by decide, by decide, hP3, fun size H4 hsize kp4 hP4 => ?_⟩
        have kp04 : Keep p H H4 := ((kp.trans kp2).trans kp3).trans kp4
        refine ⟨_, rfl, rfl, _, rfl, ite2 (fun h3 => ?_) (fun h3 => ?_)⟩
        · refine ⟨_, rfl, m, rfl, by omega, by omega, fun l nl => ?_⟩
          have hpl := hP4.ne_new nl
          have nlH : H l = none := Keep.back kp04 hpl.1.symm nl
          refine lc_range (lo := 0) (n := ((m : Int)).toNat) (fun i H' => H' = upd H4 l (lS (all3 turn i))) rfl ?_ ?_
          · rintro i H' hi rfl
            have hlt : (turn + 5 * (i / 6)) % 26 < 26 := Nat.mod_lt _ (by decide)
            have e0 : (0 : Int) + (i : Int) = (i : Int) := Int.zero_add _
            rw [e0]
            have e2 : ((turn : Int) + 5 * ((i : Int) / 6)) % 26 = (((turn + 5 * (i / 6)) % 26 : Nat) : Int) := by omega
            have hat : atI (cs alpha) (((turn : Int) + 5 * ((i : Int) / 6)) % 26) = some (97 + (turn + 5 * (i / 6)) % 26) := by
              rw [e2]
              exact alpha_at hlt
            refine ⟨rfl, yesT ⟨_, rfl, _, rfl, _, rfl, _, _, rfl, rfl, ⟨by decide, by decide⟩, _, _, rfl, rfl, .inl ⟨by decide, by decide⟩, _, _, rfl, rfl, _, _, rfl, rfl, (by show (0 : Int) < _; decide), _, _, _, rfl, rfl, by decide, hat, _, rfl, _, _, rfl, rfl, (by show (0 : Int) < _; decide), _, _, rfl, rfl, _, 1 + i % 6, rfl, ?_, (by show 1 ≤ 1000; decide), by omega, _, upd_same, ?_, ?_⟩⟩
            · show V.int (1 + (i : Int) % 6) = V.int ((1 + i % 6 : Nat) : Int)
              congr 1
            · rw [List.length_map]
              unfold all3
              rw [List.length_map, List.length_range]
              exact sz_lt (by omega)
            · funext b
              by_cases hb : b = l
              · rw [hb, upd_same, upd_same]
                unfold lS all3
                rw [List.range_succ, List.map_append, List.map_append]
                rfl
              · rw [upd_ne hb, upd_ne hb, upd_ne hb]
          · rintro H' rfl
            rw [Int.toNat_natCast]
            refine q (all3 turn m) l _ ?_ (all3_nodup m1) (fun x hx => ?_) (kp04.new nlH) (hP4.new hpl.1 hpl.2) nlH upd_same
            · unfold all3
              rw [List.length_map, List.length_range]
            · unfold all3 at hx
              obtain ⟨k, _, rfl⟩ := List.mem_map.mp hx
              exact mk3_ltr turn k
        have hspot : (spot : Int) < 3 := by
          have : spot ≠ 3 := fun z => h3 (by rw [z]; rfl)
          omega
        refine ⟨Nat.zero_le _, fun l nl => ?_⟩
        have hpl := hP4.ne_new nl
        have nlH : H l = none := by
          cases e : H l with
          | none => rfl
          | some o =>
            by_cases z : l = p
            · exact absurd z.symm hpl.1
            · rw [kp04 l o z e] at nl
              cases nl
        refine ⟨_, rfl, m, rfl, by omega, by omega, for_range (lo := 0) (n := ((m : Int)).toNat) (fun i σ H' => (∃ y3 y9 y10, σ = [some (.ref p), some (.int (m : Int)), some (.str alpha), y3, some (.str rest), some (.int (spot : Int)), some (.int (turn : Int)), some (.int (size : Int)), some (.ref l), y9, y10]) ∧ Keep p H H' ∧ Pot p c ns H' ∧ H' l = some (lS (mkAll (cs rest) spot turn size i))) ?_ ?_ ?_⟩
        · exact ⟨⟨_, _, _, rfl⟩, kp04.new nlH, hP4.new hpl.1 hpl.2, upd_same⟩
        · rintro i σ H' hi ⟨⟨y3, y9, y10, rfl⟩, kp', hP', hl'⟩
          have hi' : i < m := by omega
          have e0 : (0 : Int) + (i : Int) = (i : Int) := Int.zero_add _
          rw [e0]
          have e1 : ((size : Int) + (i : Int) * ((spot : Int) % 2)) % 8 = (((size + i * (spot % 2)) % 8 : Nat) : Int) := by
            rw [show ((spot : Int) % 2) = ((spot % 2 : Nat) : Int) by omega, ← Int.natCast_mul]
            generalize i * (spot % 2) = z
            omega
          have lenR : rest.length ≤ sizeLine := sz_of (by rw [len_cs, cR]; omega)
          refine ⟨_, rfl, _, rfl, _, rfl, _, rfl, _, _, rfl, rfl, (by show (0 : Int) < _; decide), _, _, rfl, rfl, .inr (by rcases (show spot % 2 = 0 ∨ spot % 2 = 1 by omega) with z | z <;> exact ⟨by show -(2 ^ 64) < (spot : Int) % 2; omega, by show (spot : Int) % 2 < 2 ^ 64; omega⟩), _, _, rfl, rfl, _, _, rfl, rfl, (by show (0 : Int) < _; decide), _, rfl, rest, rfl, lenR, ?_⟩
          show tSeq _ _ _ [some (.ref p), some (.int (m : Int)), some (.str alpha), some (.int (i : Int)), some (.str rest), some (.int (spot : Int)), some (.int (turn : Int)), some (.int (size : Int)), some (.ref l), some (.str (cutS rest none (some (((size : Int) + (i : Int) * ((spot : Int) % 2)) % 8)))), y10] H'
          rw [e1]
          have cP := cs_cut0 rest ((size + i * (spot % 2)) % 8)
          generalize cutS rest none (some (((size + i * (spot % 2)) % 8 : Nat) : Int)) = part at cP
          have lp : part.length ≤ 8 := by
            rw [len_cs, cP, List.length_take, cR]
            omega
          have lpS : part.length ≤ sizeLine := sz_of (by omega)
          -- at
          refine ⟨_, rfl, part, rfl, lpS, _, rfl, part, rfl, lpS, _, _, rfl, rfl, ⟨by decide, by decide⟩, (by show 3 ≤ sizeLine; decide), fun t nt => ?_⟩
          have eT : Ex H' (upd H' t (.lst [.int 0, .int (part.length : Int), .int ((part.length : Int) / 2)])) := Ex.new nt
          refine ⟨_, rfl, t, _, _, .int (spotAt spot part.length : Nat), rfl, rfl, sq_of upd_same, at_of (j := spot) rfl ?_, ?_⟩
          · rcases (show spot = 0 ∨ spot = 1 ∨ spot = 2 by omega) with rfl | rfl | rfl
            · rfl
            · rfl
            · show some (V.int ((part.length : Int) / 2)) = some (V.int ((part.length / 2 : Nat) : Int))
              rw [show ((part.length / 2 : Nat) : Int) = (part.length : Int) / 2 by omega]
          -- append
          · have e2 : ((turn : Int) + 5 * (i : Int)) % 26 = (((turn + 5 * i) % 26 : Nat) : Int) := by omega
            have hlt : (turn + 5 * i) % 26 < 26 := Nat.mod_lt _ (by decide)
            have hat : atI (cs alpha) (((turn : Int) + 5 * (i : Int)) % 26) = some (97 + (turn + 5 * i) % 26) := by
              rw [e2]
              exact alpha_at hlt
            have hl2 := eT _ _ hl'
            have c1 := cs_cut0 part (spotAt spot part.length)
            have c2 := cs_cutF part (spotAt spot part.length)
            have k1 : (cutS part none (some ((spotAt spot part.length : Nat) : Int))).length ≤ 8 := by
              rw [len_cs, c1, List.length_take, ← len_cs]
              omega
            have k2 : (cutS part (some ((spotAt spot part.length : Nat) : Int)) none).length ≤ 8 := by
              rw [len_cs, c2, List.length_drop, ← len_cs]
              omega
            refine ⟨_, rfl, .inl ⟨rfl, _, sq_of hl2⟩, _, rfl, _, rfl, _, rfl, part, rfl, lpS, _, rfl, _, rfl, _, rfl, _, _, rfl, rfl, .inl ⟨by decide, by decide⟩, _, _, rfl, rfl, _, _, rfl, rfl, (by show (0 : Int) < _; decide), _, _, _, rfl, rfl, by decide, hat, _, _, rfl, rfl, ?_, _, rfl, _, rfl, _, rfl, part, rfl, lpS, _, _, rfl, rfl, ?_, l, _, _, rfl, rfl, hl2, ?_, ⟨_, _, _, rfl⟩, ?_, ?_, ?_⟩
            · exact sz_of (by
                have : (⟨#[97 + (turn + 5 * i) % 26]⟩ : Str).length = 1 := rfl
                omega)
            · exact sz_of (by
                rw [len_cs, cs_app, List.length_append, ← len_cs, ← len_cs]
                have : (⟨#[97 + (turn + 5 * i) % 26]⟩ : Str).length = 1 := rfl
                omega)
            · rw [List.length_map]
              exact sz_lt (by unfold mkAll; rw [List.length_map, List.length_range]; omega)
            · exact (kp'.trans (Keep.ofEx eT)).new nlH
            · exact (hP'.ex eT).new hpl.1 hpl.2
            · rw [upd_same]
              have e3 : cutS part none (some ((spotAt spot part.length : Nat) : Int)) ++ (⟨#[97 + (turn + 5 * i) % 26]⟩ : Str) ++ cutS part (some ((spotAt spot part.length : Nat) : Int)) none = mkS (cs rest) spot turn size i := by
                apply cs_ext
                rw [cs_app, cs_app, c1, c2, cs_mkS, len_cs, cP, List.append_assoc]
                rfl
              rw [e3]
              unfold lS mkAll
              rw [List.range_succ, List.map_append, List.map_append]
              rfl
        · rintro σ H' ⟨⟨y3, y9, y10, rfl⟩, kp', hP', hl'⟩
          refine ⟨_, rfl, q (mkAll (cs rest) spot turn size m) l H' ?_ (mkAll_nodup (by omega) m1) (mkAll_ltr (by rw [cR]; exact haz)) kp' hP' nlH ?_⟩
          · unfold mkAll
            rw [List.length_map, List.length_range]
          · rw [Int.toNat_natCast] at hl'
            exact hl'
end
end Eh
set_option Elab.async false
set_option linter.all false
set_option maxRecDepth 100000
set_option maxHeartbeats 4000000
namespace Eh
open PySem PySem.Spec PyProof.Rows L2 Evl
/-- a sheet: its opens, plains, closes -/
structure Sht (os ps qs : List Str) : Prop where
  nd : (os ++ ps ++ qs).Nodup
  lt : ∀ x ∈ os ++ ps ++ qs, Ltr x
  o1 : 1 ≤ os.length
  o4 : os.length ≤ 4
  p4 : ps.length ≤ 4
  c1 : 1 ≤ qs.length
  c4 : qs.length ≤ 4
def SheetAt (H : Hp) (s : Addr) (os ps qs : List Str) : Prop := ∃ ao ap ac, H s = some (.tup [.ref ao, .ref ap, .ref ac]) ∧ H ao = some (.tup (os.map V.str)) ∧ H ap = some (.tup (ps.map V.str)) ∧ H ac = some (.tup (qs.map V.str))
theorem Pot.ne_tup {p c a : Addr} {ns : List Int} {H : Hp} {xs : List V} (h : Pot p c ns H) (ha : H a = some (.tup xs)) : a ≠ p := fun e => by
  obtain ⟨_, _, _, h1, _⟩ := h
  rw [e, h1] at ha
  cases ha
theorem SheetAt.ex {H H' : Hp} {s : Addr} {os ps qs : List Str} (h : SheetAt H s os ps qs) (e : Ex H H') : SheetAt H' s os ps qs := by
  obtain ⟨ao, ap, ac, h0, h1, h2, h3⟩ := h
  exact ⟨ao, ap, ac, e _ _ h0, e _ _ h1, e _ _ h2, e _ _ h3⟩
theorem SheetAt.keep {H H' : Hp} {s p c : Addr} {ns : List Int} {os ps qs : List Str} (h : SheetAt H s os ps qs) (hP : Pot p c ns H) (k : Keep p H H') : SheetAt H' s os ps qs := by
  obtain ⟨ao, ap, ac, h0, h1, h2, h3⟩ := h
  exact ⟨ao, ap, ac, k _ _ (hP.ne_tup h0) h0, k _ _ (hP.ne_tup h1) h1, k _ _ (hP.ne_tup h2) h2, k _ _ (hP.ne_tup h3) h3⟩
theorem rot_nodup {L : List Str} (t : Nat) (h : L.Nodup) : (L.drop t ++ L.take t).Nodup := by
  refine (List.perm_append_comm.nodup_iff).mp ?_
  rw [List.take_append_drop]
  exact h
theorem rot_mem {L : List Str} {t : Nat} {x : Str} (h : x ∈ L.drop t ++ L.take t) : x ∈ L := by
  rcases List.mem_append.mp h with q | q
  · exact List.mem_of_mem_drop q
  · exact List.mem_of_mem_take q
theorem sub12 {L : List Str} {a b d : Nat} (ha : a ≤ 4) (hb : b ≤ 4) : ((L.take a) ++ (L.take (4 + b)).drop 4 ++ (L.take (8 + d)).drop 8).Sublist L := by
  have e : L = L.take 4 ++ (L.take 8).drop 4 ++ L.drop 8 := by
    have e1 : L.take 4 ++ (L.take 8).drop 4 = L.take 8 := by
      have := List.take_append_drop 4 (L.take 8)
      rw [List.take_take] at this
      exact this
    rw [e1, List.take_append_drop]
  have s1 : (L.take a).Sublist (L.take 4) := by
    have : L.take a = (L.take 4).take a := by rw [List.take_take, Nat.min_eq_left ha]
    rw [this]
    exact List.take_sublist _ _
  have s2 : ((L.take (4 + b)).drop 4).Sublist ((L.take 8).drop 4) := by
    refine List.Sublist.drop ?_ 4
    have : L.take (4 + b) = (L.take 8).take (4 + b) := by rw [List.take_take, Nat.min_eq_left (by omega)]
    rw [this]
    exact List.take_sublist _ _
  have s3 : ((L.take (8 + d)).drop 8).Sublist (L.drop 8) := List.Sublist.drop (List.take_sublist _ _) 8
  have := (s1.append s2).append s3
  rw [← e] at this
  exact this
theorem sht_of {L : List Str} (hn : L.Nodup) (hl : ∀ x ∈ L, Ltr x) (h12 : L.length = 12) {a b d : Nat} (a1 : 1 ≤ a) (a4 : a ≤ 4) (b4 : b ≤ 4) (d1 : 1 ≤ d) (d4 : d ≤ 4) : Sht (L.take a) ((L.take (4 + b)).drop 4) ((L.take (8 + d)).drop 8) := by
  refine ⟨(sub12 a4 b4).nodup hn, fun x hx => hl x ((sub12 a4 b4).subset hx), ?_, ?_, ?_, ?_, ?_⟩ <;> simp only [List.length_take, List.length_drop, h12] <;> omega
theorem menu1 {v : Nat} (h : v < 5) : ∃ x : Nat, ([.int 1, .int 1, .int 2, .int 2, .int 4] : List V)[v]? = some (.int (x : Int)) ∧ 1 ≤ x ∧ x ≤ 4 := by
  rcases (show v = 0 ∨ v = 1 ∨ v = 2 ∨ v = 3 ∨ v = 4 by omega) with rfl | rfl | rfl | rfl | rfl
  · exact ⟨1, rfl, by omega⟩
  · exact ⟨1, rfl, by omega⟩
  · exact ⟨2, rfl, by omega⟩
  · exact ⟨2, rfl, by omega⟩
  · exact ⟨4, rfl, by omega⟩
theorem menu0 {v : Nat} (h : v < 5) : ∃ x : Nat, ([.int 0, .int 1, .int 1, .int 2, .int 4] : List V)[v]? = some (.int (x : Int)) ∧ x ≤ 4 := by
  rcases (show v = 0 ∨ v = 1 ∨ v = 2 ∨ v = 3 ∨ v = 4 by omega) with rfl | rfl | rfl | rfl | rfl
  · exact ⟨0, rfl, by omega⟩
  · exact ⟨1, rfl, by omega⟩
  · exact ⟨1, rfl, by omega⟩
  · exact ⟨2, rfl, by omega⟩
  · exact ⟨4, rfl, by omega⟩
theorem minI (m x : Nat) : (if (x : Int) < (m : Int) then (x : Int) else (m : Int)) = ((min m x : Nat) : Int) := by
  split <;> omega
theorem map_cut0 (L : List Str) (n : Nat) : cutV (L.map V.str) none (some (n : Int)) = (L.take n).map V.str := by rw [cut0, List.map_take]
theorem map_cutF (L : List Str) (n : Nat) : cutV (L.map V.str) (some (n : Int)) none = (L.drop n).map V.str := by rw [cutF, List.map_drop]
theorem map_cutLH (L : List Str) (n m : Nat) : cutV (L.map V.str) (some (n : Int)) (some (m : Int)) = ((L.take m).drop n).map V.str := by rw [cutLH, List.map_drop, List.map_take]
theorem lS_ne {p c l : Addr} {ns : List Int} {H : Hp} {ws : List Str} (h : Pot p c ns H) (hl : H l = some (lS ws)) : l ≠ p := fun e => by
  obtain ⟨_, _, _, h1, _⟩ := h
  rw [e, h1] at hl
  injection hl with hl
  injection hl with hl
  cases ws <;> cases hl
theorem menu_rd {K : PySem.W.Frag} {p c : Addr} {ns : List Int} {H : Hp} {σ : L2.St} {xs : List V} {Q : VK} {ta : TA} {n : Int} (hP : Pot p c ns H) (hσ : σ[0]? = some (some (.ref p))) (n0 : 0 < n) (n1 : n < 1073741824) (hta : ∀ Q : List V → Hp → Prop, Q xs H → ta σ H Q) (hxs : xs.length ≤ 1000)
    (k : ∀ (v : Nat) H', (v : Int) < n → Keep p H H' → Pot p c ns H' → ∃ z, xs[v]? = some z ∧ Q z H') : tOp (rIxL K) (tLst ta) (tCall spPick [] E0 (tCons (tVar 0) (tCons (tC (.int n)) tNil))) σ H Q := by
  refine hta _ ⟨sz_of (by omega), fun t nt => ⟨_, hσ, p, c, ns, n, rfl, n0, n1, hP.ex (Ex.new nt), fun v H5 hv kp5 hP5 => ?_⟩⟩
  obtain ⟨z, hz, q⟩ := k v H5 hv ((Keep.ofEx (Ex.new nt)).trans kp5) hP5
  exact ⟨t, xs, (v : Int), z, rfl, rfl, sq_of (kp5 _ _ (hP.ne_new nt).1.symm upd_same), atI_nat hz, q⟩
section
variable {P : Program} {w : World} {K : PySem.W.Frag} {mg : Str → Option Value} {base : Heap}
def spSheet : Sp := fun vs H Q _ => ∃ (p c : Addr) (ns : List Int) (m : Nat), vs = [.ref p, .int (m : Int)] ∧ 1 ≤ m ∧ m ≤ 4 ∧ Pot p c ns H ∧
  ∀ (os ps qs : List Str) s H', Sht os ps qs → SheetAt H' s os ps qs → Keep p H H' → Pot p c ns H' → Q (.ref s) H'
theorem ok_sheet {f fP fL : Addr} {fd fdP fdL : FuncData} {k : Nat} (F : Fun K "_law_sheet" "_law_sheet" sSheet f fd) (FP : Fun K "_law_pick" "_law_pick" sPick fP fdP) (GP : FnOk P w K mg base CX0 (k + 1) fP fdP ["pot", "many"] spPick) (bP : Binds K fdP ["pot", "many"] []) (gP : mg "_law_pick" = some (.ref fP))
    (FL : Fun K "_law_letters" "_law_letters" sLetters fL fdL) (GL : FnOk P w K mg base CX0 (k + 2) fL fdL ["pot", "many"] spLetters) (bL : Binds K fdL ["pot", "many"] []) (gL : mg "_law_letters" = some (.ref fL)) (mm : mg "min" = none) (mt : mg "tuple" = none) :
    FnOk P w K mg base CX0 (k + 3) f fd ["pot", "most"] spSheet := by
  have nd := scSheet.nd
  refine F.ok scSheet (fun vs H Q E h => ?_) (fun cdv A outer s H vs Q E hr h => ?_)
  · obtain ⟨p, c, ns, m, rfl, _⟩ := h
    rfl
  · obtain ⟨p, c, ns, m, rfl, m1, m4, hP, q⟩ := h
    have hr1 : Room (k + 1) _ := hr.mono (Nat.le_succ _)
    refine ⟨_, pss_cons (ps_set (i := 2) nd rfl (.inl rfl) (pe_call GL hr (by rfl) gL FL.kp bL .nil pass0 (pa_cons (pv 0) (pa_cons pe_int pa_nil))))
      (pss_cons (ps_set (i := 3) nd rfl (.inl rfl) (pe_call GP hr1 (by rfl) gP FP.kp bP .nil pass0 (pa_cons (pv 0) (pa_cons pe_int pa_nil))))
      (pss_cons (ps_set (i := 2) nd rfl (.inl rfl) (pe_op op_cat (pe_slice sl_list (pv 2) (po_some (pv 3)) po_none) (pe_slice sl_list (pv 2) po_none (po_some (pv 3)))))
      (pss_cons (ps_set (i := 4) nd rfl (.inl rfl) (pe_slice sl_list (pv 2) po_none (po_some (pe_callB (call_min2 rfl) (by rfl) mm (by decide +kernel) (pa_cons (pv 1) (pa_cons (pe_ix ix_list (pe_lst (pa_cons pe_int (pa_cons pe_int (pa_cons pe_int (pa_cons pe_int (pa_cons pe_int pa_nil)))))) (pe_call GP hr1 (by rfl) gP FP.kp bP .nil pass0 (pa_cons (pv 0) (pa_cons pe_int pa_nil))) (fun _ _ => rfl)) pa_nil))))))
      (pss_cons (ps_set (i := 5) nd rfl (.inl rfl) (pe_slice sl_list (pv 2) (po_some pe_int) (po_some (pe_op op_add pe_int (pe_callB (call_min2 rfl) (by rfl) mm (by decide +kernel) (pa_cons (pv 1) (pa_cons (pe_ix ix_list (pe_lst (pa_cons pe_int (pa_cons pe_int (pa_cons pe_int (pa_cons pe_int (pa_cons pe_int pa_nil)))))) (pe_call GP hr1 (by rfl) gP FP.kp bP .nil pass0 (pa_cons (pv 0) (pa_cons pe_int pa_nil))) (fun _ _ => rfl)) pa_nil)))))))
      (pss_cons (ps_set (i := 6) nd rfl (.inl rfl) (pe_slice sl_list (pv 2) (po_some pe_int) (po_some (pe_op op_add pe_int (pe_callB (call_min2 rfl) (by rfl) mm (by decide +kernel) (pa_cons (pv 1) (pa_cons (pe_ix ix_list (pe_lst (pa_cons pe_int (pa_cons pe_int (pa_cons pe_int (pa_cons pe_int (pa_cons pe_int pa_nil)))))) (pe_call GP hr1 (by rfl) gP FP.kp bP .nil pass0 (pa_cons (pv 0) (pa_cons pe_int pa_nil))) (fun _ _ => rfl)) pa_nil)))))))
      (pss_one (ps_ret (pe_tup (pa_cons (pe_callTy call_tuple_of (by rfl) mt (by decide +kernel) (pa_cons (pv 4) pa_nil)) (pa_cons (pe_callTy call_tuple_of (by rfl) mt (by decide +kernel) (pa_cons (pv 5) pa_nil)) (pa_cons (pe_callTy call_tuple_of (by rfl) mt (by decide +kernel) (pa_cons (pv 6) pa_nil)) pa_nil)))))))))))  , ?_⟩
    refine ⟨_, rfl, p, c, ns, 12, rfl, by decide, hP, fun ws l H1 hlen hnd hlt kp1 hP1 nl hl => ?_⟩
    refine ⟨_, rfl, p, c, ns, 12, rfl, by decide, by decide, hP1, fun turn H2 hturn kp2 hP2 => ?_⟩
    have hl2 : H2 l = some (lS ws) := kp2 _ _ (lS_ne hP1 hl) hl
    refine ⟨_, rfl, _, rfl, _, rfl, l, _, rfl, sq_of hl2, fun u nu => ?_⟩
    have e2 : Ex H2 (upd H2 u (.lst (cutV (ws.map V.str) (some (turn : Int)) none))) := Ex.new nu
    refine ⟨_, rfl, _, rfl, _, rfl, l, _, rfl, sq_of (e2 _ _ hl2), fun u' nu' => ?_⟩
    have e3 : Ex H2 (upd (upd H2 u (.lst (cutV (ws.map V.str) (some (turn : Int)) none))) u' (.lst (cutV (ws.map V.str) none (some (turn : Int))))) := e2.trans (Ex.new nu')
    have nuu : u ≠ u' := ne_of_none upd_same nu'
    have hu3 : (upd (upd H2 u (.lst (cutV (ws.map V.str) (some (turn : Int)) none))) u' (.lst (cutV (ws.map V.str) none (some (turn : Int))))) u = some (.lst ((ws.drop turn).map V.str)) := by
      rw [upd_ne nuu, upd_same, map_cutF]
    have hu3' : (upd (upd H2 u (.lst (cutV (ws.map V.str) (some (turn : Int)) none))) u' (.lst (cutV (ws.map V.str) none (some (turn : Int))))) u' = some (.lst ((ws.take turn).map V.str)) := by
      rw [upd_same, map_cut0]
    generalize (upd (upd H2 u (.lst (cutV (ws.map V.str) (some (turn : Int)) none))) u' (.lst (cutV (ws.map V.str) none (some (turn : Int))))) = H3 at e3 hu3 hu3' ⊢
    have hLn : (ws.drop turn ++ ws.take turn).length = 12 := by
      rw [List.length_append, List.length_drop, List.length_take]
      omega
    refine ⟨u, u', _, _, rfl, rfl, hu3, hu3', ?_, fun r nr => ?_⟩
    · rw [← List.length_append, ← List.map_append, List.length_map]
      exact sz_of (by omega)
    rw [← List.map_append]
    have hLd := rot_nodup turn hnd
    have hLt : ∀ x ∈ ws.drop turn ++ ws.take turn, Ltr x := fun x hx => hlt x (rot_mem hx)
    generalize ws.drop turn ++ ws.take turn = L at hLn hLd hLt ⊢
    have hP3 := hP2.ex e3
    have e4 : Ex H3 (upd H3 r (lS L)) := Ex.new nr
    have hP4 := hP3.ex e4
    have kp4 : Keep p H (upd H3 r (lS L)) := ((kp1.trans kp2).trans (Keep.ofEx e3)).trans (Keep.ofEx e4)
    have hr4 : (upd H3 r (lS L)) r = some (lS L) := upd_same
    show tSeq _ _ _ [some (.ref p), some (.int (m : Int)), some (.ref r), some (.int (turn : Int)), none, none, none] (upd H3 r (lS L))
    generalize upd H3 r (lS L) = H4 at e4 hP4 kp4 hr4 ⊢
    -- opens
    refine ⟨_, rfl, _, rfl, menu_rd (xs := [.int 1, .int 1, .int 2, .int 2, .int 4]) hP4 rfl (by decide) (by decide) (fun Q z => z) (by decide) fun v H5 hv kp5 hP5 => ?_⟩
    obtain ⟨x, hx, x1, x4⟩ := menu1 (show v < 5 by omega)
    refine ⟨_, hx, _, _, rfl, _, rfl, r, _, rfl, sq_of (kp5 _ _ (lS_ne hP4 hr4) hr4), fun o no => ?_⟩
    rw [minI, map_cut0]
    have hr5 : H5 r = some (lS L) := kp5 _ _ (lS_ne hP4 hr4) hr4
    have e6 : Ex H5 (upd H5 o (lS (L.take (min m x)))) := Ex.new no
    have hP6 := hP5.ex e6
    have hr6 := e6 _ _ hr5
    have ho6 : (upd H5 o (lS (L.take (min m x)))) o = some (lS (L.take (min m x))) := upd_same
    have kp6 : Keep p H (upd H5 o (lS (L.take (min m x)))) := (kp4.trans kp5).trans (Keep.ofEx e6)
    show tSeq _ _ _ [some (.ref p), some (.int (m : Int)), some (.ref r), some (.int (turn : Int)), some (.ref o), none, none] (upd H5 o (lS (L.take (min m x))))
    generalize upd H5 o (lS (L.take (min m x))) = H6 at hP6 hr6 ho6 kp6 ⊢
    -- plains
    refine ⟨_, rfl, _, rfl, _, rfl, menu_rd (xs := [.int 0, .int 1, .int 1, .int 2, .int 4]) hP6 rfl (by decide) (by decide) (fun Q z => z) (by decide) fun v H7 hv kp7 hP7 => ?_⟩
    obtain ⟨y, hy, y4⟩ := menu0 (show v < 5 by omega)
    have hr7 : H7 r = some (lS L) := kp7 _ _ (lS_ne hP6 hr6) hr6
    have ho7 : H7 o = some (lS (L.take (min m x))) := kp7 _ _ (lS_ne hP6 ho6) ho6
    refine ⟨_, hy, _, _, rfl, _, _, rfl, rfl, _, rfl, r, _, rfl, sq_of hr7, fun u1 nu1 => ?_⟩
    have ey : (4 : Int) + (if (y : Int) < (m : Int) then (y : Int) else (m : Int)) = ((4 + min m y : Nat) : Int) := by
      rw [minI]
      omega
    rw [ey, show (some 4 : Option Int) = some ((4 : Nat) : Int) from rfl, map_cutLH]
    have e8 : Ex H7 (upd H7 u1 (lS ((L.take (4 + min m y)).drop 4))) := Ex.new nu1
    have hP8 := hP7.ex e8
    have hr8 := e8 _ _ hr7
    have ho8 := e8 _ _ ho7
    have hu8 : (upd H7 u1 (lS ((L.take (4 + min m y)).drop 4))) u1 = some (lS ((L.take (4 + min m y)).drop 4)) := upd_same
    have kp8 : Keep p H (upd H7 u1 (lS ((L.take (4 + min m y)).drop 4))) := (kp6.trans kp7).trans (Keep.ofEx e8)
    show tSeq _ _ _ [some (.ref p), some (.int (m : Int)), some (.ref r), some (.int (turn : Int)), some (.ref o), some (.ref u1), none] (upd H7 u1 (lS ((L.take (4 + min m y)).drop 4)))
    generalize upd H7 u1 (lS ((L.take (4 + min m y)).drop 4)) = H8 at hP8 hr8 ho8 hu8 kp8 ⊢
    -- closes
    refine ⟨_, rfl, _, rfl, _, rfl, menu_rd (xs := [.int 1, .int 1, .int 2, .int 2, .int 4]) hP8 rfl (by decide) (by decide) (fun Q z => z) (by decide) fun v H9 hv kp9 hP9 => ?_⟩
    obtain ⟨z, hz, z1, z4⟩ := menu1 (show v < 5 by omega)
    have hr9 : H9 r = some (lS L) := kp9 _ _ (lS_ne hP8 hr8) hr8
    have ho9 : H9 o = some (lS (L.take (min m x))) := kp9 _ _ (lS_ne hP8 ho8) ho8
    have hu9 := kp9 _ _ (lS_ne hP8 hu8) hu8
    refine ⟨_, hz, _, _, rfl, _, _, rfl, rfl, _, rfl, r, _, rfl, sq_of hr9, fun u2 nu2 => ?_⟩
    have ez : (8 : Int) + (if (z : Int) < (m : Int) then (z : Int) else (m : Int)) = ((8 + min m z : Nat) : Int) := by
      rw [minI]
      omega
    rw [ez, show (some 8 : Option Int) = some ((8 : Nat) : Int) from rfl, map_cutLH]
    have e10 : Ex H9 (upd H9 u2 (lS ((L.take (8 + min m z)).drop 8))) := Ex.new nu2
    have hP10 := hP9.ex e10
    have ho10 := e10 _ _ ho9
    have hu10 := e10 _ _ hu9
    have hv10 : (upd H9 u2 (lS ((L.take (8 + min m z)).drop 8))) u2 = some (lS ((L.take (8 + min m z)).drop 8)) := upd_same
    have kp10 : Keep p H (upd H9 u2 (lS ((L.take (8 + min m z)).drop 8))) := (kp8.trans kp9).trans (Keep.ofEx e10)
    refine ⟨_, rfl, o, _, rfl, .inl ⟨sq_of ho10, fun ao nao => ?_⟩⟩
    have f1 : Ex _ _ := Ex.new (o := .tup ((L.take (min m x)).map V.str)) nao
    refine ⟨_, rfl, u1, _, rfl, .inl ⟨sq_of (f1 _ _ hu10), fun ap nap => ?_⟩⟩
    have f2 : Ex _ _ := Ex.new (o := .tup (((L.take (4 + min m y)).drop 4).map V.str)) nap
    refine ⟨_, rfl, u2, _, rfl, .inl ⟨sq_of (f2 _ _ (f1 _ _ hv10)), fun ac nac => ?_⟩⟩
    have f3 : Ex _ _ := Ex.new (o := .tup (((L.take (8 + min m z)).drop 8).map V.str)) nac
    refine ⟨(by show 3 ≤ sizeLine; decide), fun sh nsh => ?_⟩
    have f4 : Ex _ _ := Ex.new (o := .tup [.ref ao, .ref ap, .ref ac]) nsh
    exact q _ _ _ sh _ (sht_of hLd hLt hLn (by omega) (by omega) (by omega) (by omega) (by omega)) ⟨ao, ap, ac, upd_same, f4 _ _ (f3 _ _ (f2 _ _ upd_same)), f4 _ _ (f3 _ _ upd_same), f4 _ _ upd_same⟩ (kp10.trans (Keep.ofEx (((f1.trans f2).trans f3).trans f4))) (hP10.ex (((f1.trans f2).trans f3).trans f4))
end
end Eh
set_option Elab.async false
set_option linter.all false
set_option maxRecDepth 100000
set_option maxHeartbeats 4000000
namespace Eh
open PySem PySem.Spec PyProof.Rows L2 Evl
open Sem (wp)
open AutoSeq1 (wpAny_loadPart')
/-! enumerate of a tuple -/
theorem enumT_meets {v : Value} {ob : Obj} {G : Heap → Prop} (B : Begins v ob G) : Meets (Builtin.«enumerate.__new__» ⟨[.type "enumerate", v], []⟩) (fun _ R s1 => G s1.heap ∧ R (.ok (.ret (.ref (s1.heap.push ob).objs.size))) { s1 with heap := (s1.heap.push ob).push { cls := .type "enumerate", data := .fields #[.none, .bool false, .ref s1.heap.objs.size, rawInt 0, .none, .none] } }) :=
  .of_wp fun pr wo ar R s1 hyp => by
    obtain ⟨hp, gg, dd, tt, oo⟩ := s1; obtain ⟨hg, hyp⟩ := hyp
    have hsb := sub_enumerate
    have hit : ∀ {A' : Around} {E : Value → Shared → Prop} {Q : Value → Shared → Prop}, Q (.ref hp.objs.size) ⟨hp.push ob, gg, dd, tt, oo⟩ → wpAny (model pr wo) A' (pyIter v) Q E ⟨hp, gg, dd, tt, oo⟩ := fun q => B.iter pr wo _ _ ⟨hp, gg, dd, tt, oo⟩ _ hg q
    wp_walk using hit
    refine wpAny_stack_any fun stk => wpAny_pure ?_
    split
    · rename_i cl _ _ _ _ _; cases (cl == Value.type "enumerate") <;> (wp_walk using hit; exact ⟨_, rfl, hyp⟩)
    · wp_walk using hit; exact ⟨_, rfl, hyp⟩
theorem enumT_call {prog : Program} {w : World} {A : Around} {E : Value → Shared → Prop} {s : Shared} {v : Value} {ob : Obj} {G : Heap → Prop} {Q : Value → Shared → Prop} (B : Begins v ob G) (hg : G s.heap)
    (hyp : ∀ h', IsEnum h' (s.heap.objs.size + 1) s.heap.objs.size 0 .none → h'.get? s.heap.objs.size = some ob → h'.objs.size = s.heap.objs.size + 2 → (∀ b o, s.heap.get? b = some o → h'.get? b = some o) → Q (.ref (s.heap.objs.size + 1)) { s with heap := h' }) : wpAny (model prog w) A (call (.type "enumerate") [v]) Q E s := by
  refine callType_new F.called_enumerate (by decide) (F.typeCall_enumerate_1 _) (F.newCall_enumerate_1 _) (fun x => F.args_object_init_2 x _) F.entry_enumerate_new (enumT_meets B) ⟨hg, ?_⟩
  have sz : (s.heap.push ob).objs.size = s.heap.objs.size + 1 := Heap.size_push ..
  show _ ∧ _
  rw [sz]
  have en : IsEnum ((s.heap.push ob).push { cls := .type "enumerate", data := .fields #[.none, .bool false, .ref s.heap.objs.size, rawInt 0, .none, .none] }) (s.heap.objs.size + 1) s.heap.objs.size 0 .none := by
    have z := Heap.get?_push_size (s.heap.push ob) (o := { cls := .type "enumerate", data := .fields #[.none, .bool false, .ref s.heap.objs.size, rawInt 0, .none, .none] }) rfl
    rw [sz] at z; exact z
  exact ⟨⟨_, en, rfl⟩, hyp _ en (Heap.get?_push_of_some _ (Heap.get?_push_size _ B.free)) (by rw [Heap.size_push, sz]) fun b o x => Heap.get?_push_of_some _ (Heap.get?_push_of_some _ x)⟩
def IteT (K : PySem.W.Frag) (a : Addr) : It :=
  ⟨fun i H => ∃ (xs : List V) (x : V), SqT K H a xs ∧ xs[i]? = some x, fun i H v H' => ∃ T x, v = .ref T ∧ H T = none ∧ H' = upd H T (.tup [.int (i : Nat), x]) ∧ ∀ xs, SqT K H a xs → xs[i]? = some x, fun i H => ∃ xs : List V, SqT K H a xs ∧ xs.length = i⟩
theorem apart_cls {h : Heap} {a b : Addr} {o1 o2 : Obj} {x y : String} (h1 : h.get? a = some o1) (c1 : o1.cls = .type x) (h2 : h.get? b = some o2) (c2 : o2.cls = .type y) (n : x ≠ y) : a ≠ b := fun z => by
  subst z
  rw [h1] at h2
  have e : o1 = o2 := Option.some.inj h2
  rw [e, c2] at c1
  injection c1 with c1
  exact n c1.symm
theorem turn_enumT {P : Program} {w : World} {K : PySem.W.Frag} {elts : List Expr} {kk : Nat} {tpos : Pos} (a e it : Addr) :
    Turn P w K (.Tuple elts kk tpos) (IteT K a) [e, it] e (fun i h => (∃ old, IsEnum h e it ((i : Nat) : Int) old) ∧ h.IsTupleIter it a i ∧ e ≠ it) where
  mem := by simp
  obj := fun i h tn b hb => by
    obtain ⟨⟨old, en⟩, ⟨ob, h1, h2, h3⟩, _⟩ := tn
    rcases (show b = e ∨ b = it by simpa using hb) with z | z
    · subst z; exact ⟨_, en, fun v q => nomatch q⟩
    · subst z; exact ⟨ob, h1, fun v q => by rw [h3] at q; cases q⟩
  keep := fun i h h' tn kk => let ⟨⟨old, en⟩, ti, ne⟩ := tn; ⟨⟨old, kk e (by simp) _ en⟩, ti.at fun o q => kk it (by simp) o q, ne⟩
  item := by
    intro X eP ew eK hc i pins s σ H E I fpo tn go
    subst eP ew eK
    obtain ⟨⟨old, en⟩, ti, ne⟩ := tn
    obtain ⟨xs, x, sq, hx⟩ := go
    obtain ⟨its, rv, pt, _⟩ := I.tuple sq
    obtain ⟨u, hu, ru⟩ := rv.get hx
    have le : e < s.heap.objs.size := Heap.lt_size en
    have li : it < s.heap.objs.size := by obtain ⟨_, q, _⟩ := ti; exact Heap.lt_size q
    have nai : a ≠ it := by
      obtain ⟨o1, g1, c1, _⟩ := id ti
      obtain ⟨o2, g2, c2, _⟩ := id pt
      exact apart_cls g2 c2 g1 c1 (by decide)
    have nea : e ≠ a := by
      obtain ⟨o2, g2, c2, _⟩ := id pt
      exact apart_cls en rfl g2 c2 (by decide)
    have DD := Draws.tuple (prog := X.prog) (w := X.w) (A := X.A.in1) (I.ok.hd hc) it a nai its.toArray
    refine wpAny_pyNext_enum_itemC DD en ⟨ti, pt⟩ (by have h1 := (List.getElem?_eq_some_iff.mp hu).1; rw [List.size_toArray]; exact h1) ne (by simp [ne, nea]) fun y h' tk hy out st' hT hsz kp => ?_
    have ey : y = u := by
      have hy' : its.toArray[i]? = some y := hy
      rw [List.getElem?_toArray, hu] at hy'
      exact (Option.some.inj hy').symm
    subst ey
    refine ⟨_, rfl, wpAny_letOwnedTupleGo_enum (s := { s with heap := h', toks := tk + 1 }) out fun h'' en' sb => ?_⟩
    have hT' : h''.get? s.heap.objs.size = some { cls := .type "tuple", data := .seq #[.int i tk, y] } := (sb.2 _ (Nat.ne_of_gt le)).trans hT
    have nw : ObjOk X.prog X.w (upd H s.heap.objs.size (.tup [.int (i : Nat), x])) h'' s.heap.objs.size (.tup [.int (i : Nat), x]) := ⟨by show 2 ≤ sizeLine; decide, [.int i tk, y], .cons ⟨_, rfl⟩ (.cons ru .nil), ⟨_, hT', rfl, _, rfl⟩⟩
    have J1 : Inv X pins σ (upd H s.heap.objs.size (.tup [.int (i : Nat), x])) { s with heap := h'', toks := tk + 1 } := I.turnedNew (ch := [e, it]) (fun b o hb q => (sb.2 b (fun z => hb (by simp [z]))).trans (kp b o (fun z => hb (by simp [z])) (fun z => hb (by simp [z])) q)) fpo (Nat.le_refl _) nw
    refine ⟨.ref s.heap.objs.size, _, J1, rfl, ⟨_, x, rfl, I.hok.fresh (Nat.le_refl _), rfl, fun ys hs => by rw [I.tuple_inj hs sq]; exact hx⟩, ⟨⟨y, ?_⟩, st'.1.at fun o q => (sb.2 it (Ne.symm ne)).trans q, ne⟩, fun b hb => ?_⟩
    · rw [show ((i + 1 : Nat) : Int) = (i : Int) + 1 by omega]
      exact en'
    · have lb : b < s.heap.objs.size := by
        rcases (show b = e ∨ b = it by simpa using hb) with z | z
        · subst z; exact le
        · subst z; exact li
      rw [upd_ne (Nat.ne_of_lt lb)]
      exact (fpo b hb).1
  done := by
    intro X eP ew eK hc i pins s σ H E I fpo tn stp
    subst eP ew eK
    obtain ⟨⟨old, en⟩, ti, ne⟩ := tn
    obtain ⟨xs, sq, hx⟩ := stp
    obtain ⟨its, rv, pt, _⟩ := I.tuple sq
    obtain ⟨f0, f1, _, f3, f4, f5⟩ := fpo it (by simp)
    have nai : a ≠ it := by
      obtain ⟨o1, g1, c1, _⟩ := id ti
      obtain ⟨o2, g2, c2, _⟩ := id pt
      exact apart_cls g2 c2 g1 c1 (by decide)
    have DD := Draws.tuple (prog := X.prog) (w := X.w) (A := X.A.in1) (I.ok.hd hc) it a nai its.toArray
    have en' : its.toArray.size = i := by rw [List.size_toArray, ← rv.length, hx]
    exact wpAny_pyNext_enum_endD DD en (by rw [en']; exact ⟨ti, pt⟩) fun h' eb => ⟨rfl, I.turned (t' := s.toks) (fun b o hb q => eb b o hb q) f0 f1 f3 f4 f5⟩
  self := fun A i s Q E tn hq => let ⟨⟨_, en⟩, _⟩ := tn; wpAny_pyIter_enum en hq
def iEnumT (K : PySem.W.Frag) (ta : TA) : TI := fun σ H R => ta σ H fun vs H1 => ∃ a xs, vs = [.ref a] ∧ SqT K H1 a xs ∧ R (IteT K a) H1
theorem pi_enumT {X : Cx} {e : Expr} {ta : TA} {p pos tpos : Pos} {elts : List Expr} {kk : Nat} (hg : Gl X "enumerate") (hm : X.mg "enumerate" = none) (ha : PA X [e] ta) (hs : starEach [e] X.env = [(false, eval e X.env)] := by rfl) : PI X (.Tuple elts kk tpos) (.Call (.Name "enumerate" p) [e] [] pos) (iEnumT X.K ta) := by
  refine ⟨fun pins s σ H R I hyp => Call_ (ld_blt I hg hm boot_enumerate (PyProof.Rows.callWith_type1 (thn (ha.run pos pins s σ H _ I hyp) fun us s1 ⟨vs, H1, I1, r1, q1⟩ => ?_) hs rfl))⟩
  obtain ⟨a, xs, ev, sq, q⟩ := q1
  subst ev
  obtain ⟨u, rfl, ru⟩ := vals1 r1
  cases ru
  obtain ⟨its, rv, pt, _⟩ := I1.tuple sq
  refine enumT_call (begins_tuple a its.toArray) pt fun h' en hit hsz kp => wpAny_pyIter_enum en ?_
  have I2 : Inv X pins σ H1 { s1 with heap := h' } := I1.kept (t' := s1.toks) kp
  refine ⟨s1.heap.objs.size + 1, [s1.heap.objs.size + 1, s1.heap.objs.size], _, _, H1, rfl, I2, turn_enumT a (s1.heap.objs.size + 1) s1.heap.objs.size, ⟨⟨.none, en⟩, ⟨_, hit, rfl, rfl⟩, Nat.succ_ne_self _⟩, fun b hb => ?_, q⟩
  have lb : s1.heap.objs.size ≤ b := by
    rcases (show b = s1.heap.objs.size + 1 ∨ b = s1.heap.objs.size by simpa using hb) with z | z
    · rw [z]; exact Nat.le_add_right ..
    · rw [z]; exact Nat.le_refl ..
  exact I1.fpOk lb (I1.hok.fresh lb)
end Eh
set_option Elab.async false
set_option linter.all false
set_option maxRecDepth 100000
set_option maxHeartbeats 4000000
namespace Eh
open PySem PySem.Spec PyProof.Rows L2 NdefX
/-! an error class whose __init__ says super().__init__(text), then self.f = f -/
/-- __init__(self, f): the field is there behind it -/
def spInit (K : PySem.W.Frag) (C : Addr) (f : Str) : Sp := fun vs H Q _ => ∃ (a : Addr) (n : Int), vs = [.ref a, .int n] ∧ n.natAbs.log2 < 1900 ∧ H a = some (exo a C none) ∧
  ∀ dx, H dx = none → dx ≠ a → Q .non (upd (upd H dx (exd dx [(f, .int n)])) a (exo a C (some dx)))
theorem upd_self {H : Hp} {a : Addr} {o : HO} (h : H a = some o) : upd H a o = H := by
  funext b
  by_cases e : b = a
  · rw [e, upd_same, h]
  · rw [upd_ne e]
/-- what is written of the class and its __init__ -/
structure InitC (P : Program) (K : PySem.W.Frag) (mg : Str → Option Value) (C fI : Addr) (qual f : Str) (st : Stmt) (J : Expr) (fd : FuncData) : Prop where
  ox : OexC K C
  iC : PySem.W.findIn K (.ref C) "__init__" = some (some (.ref fI))
  tI : PySem.W.typeIn K (.ref fI) = some (.type "function")
  noF : PySem.W.findIn K (.ref C) f = some none
  sup : PySem.W.ks_superIn K C C "__init__" = some (some (.builtin "ValueError.__init__"))
  subV : PySem.W.subIn K (.ref C) (.type "ValueError") = some true
  mro : PySem.W.mroIn K C (.ref C) = some true
  opq : PySem.W.nsIn K cStatics "thirdparty.any" = some none
  msu : mg "super" = none
  top : (P.main.scope.names.lookup ("super" : Str)).isSome = false
  ex : ∃ (oc : Value) (od : Option Addr) (kV doc pm : Value) (an : Option Addr) (cda : Addr) (ct : Value) (osl : Array (Option Value)) (cc : Addr),
    fd = PySem.W.ksFn "__init__" qual (defArgs st) (defBody st) (defScope st) .none kV doc pm an (.ref cda) ct cc ∧ K.lookup fI = some ⟨oc, od, .func fd, osl⟩ ∧ PySem.W.codeIn K (.ref cda) qual = true ∧
    (∃ (cl : Value) (cld : Option Addr) (csl : Array (Option Value)), K.lookup cc = some ⟨cl, cld, .cell (some (.ref C)), csl⟩) ∧
    ∃ (ccl : Value) (cdd : Option Addr) (ccs : Array (Option Value)) (vs : Array Value) (file : Str) (tf : Tok), K.lookup cda = some ⟨ccl, cdd, .fields vs, ccs⟩ ∧ vs[2]? = some (.str file tf) ∧ ((P.main.file : Str) == file) = true
  bi : Binds K fd ["self", f] []
  sc : NScope ["self", f, "__class__"] ["self", f] ["__class__"] (defScope st)
  ksu : (defScope st).names.lookup ("super" : Str) = some .globalImplicit
  kse : (defScope st).names.lookup ("self" : Str) = some .local
  kfd : (defScope st).names.lookup f = some .local
  par : ((defArgs st).posonlyargs ++ (defArgs st).args).head?.map (·.arg) = some "self"
  fdb : (f == ("__debug__" : Str)) = false
  fcd : (f == ("__classdict__" : Str)) = false
  body : ∃ p0 p1 p2 p3 p4 q1 q2 q3 q4 : Pos, defBody st = [.Expr (.Call (.Attribute (.Call (.Name "super" p0) [] [] p1) "__init__" p2) [J] [] p3) p4, .Assign [.Attribute (.Name "self" q1) f q2] (.Name f q3) q4] ∧
    (∀ env : Env, ∃ pl : Sem Bool, eval (.Call (.Attribute (.Call (.Name "super" p0) [] [] p1) "__init__" p2) [J] [] p3) env = (do
      let ov ← attributeBase (.Call (.Name "super" p0) [] [] p1) "__init__" env (eval (.Call (.Name "super" p0) [] [] p1) env)
      standAt p2.atName
      let (f, first) ← holding [ov] (getMethod ov "__init__" pl)
      callWith p3 f first (backTo p3 (starEach [J] env)) [])) ∧ (∀ env : Env, swapsWith (.Call (.Attribute (.Call (.Name "super" p0) [] [] p1) "__init__" p2) [J] [] p3) none p4.line env = pure false) ∧
    (∀ env : Env, starEach [J] env = (false, eval J env) :: starEach [] env) ∧ (∀ env : Env, swapsWith (.Name f q3) (some (.Attribute (.Name "self" q1) f q2)) q4.line env = pure false)
  txt : ∀ X : Cx, X.N = (["self", f, "__class__"] : List Str) → X.env.scope = defScope st → ∃ tJ : TE, PE X J tJ ∧ ∀ (σ : L2.St) (H : Hp) (n : Int) (Q : VK), n.natAbs.log2 < 1900 → σ[1]? = some (some (V.int n)) → (∀ z : Str, Q (.str z) H) → tJ σ H Q
theorem isCell_of {h : Heap} {c : Addr} {cl : Value} {cld : Option Addr} {csl : Array (Option Value)} {v : Option Value} (e : h.get? c = some ⟨cl, cld, .cell v, csl⟩) : h.IsCell c v := ⟨_, e, rfl⟩
/-- the bound ValueError.__init__, called -/
theorem call_mw {X : Cx} {pins : List (Addr × Obj)} {σ : L2.St} {H : Hp} {s : Shared} {a C u : Addr} {us : List Value} {Q : Value → Shared → Prop} {A : Around} {E : Value → Shared → Prop} (T : OexC X.K C) (I : Inv X pins σ H s) (e : H a = some (exo a C none)) (hu : s.heap.get? u = some (PySem.W.kxs_mw "ValueError.__init__" a))
    (hl : us.length ≤ sizeLine) (h : ∀ s', Inv X pins σ H s' → Q .none s') : wpAny (model X.prog X.w) A (call (.ref u) us) Q E s := by
  obtain ⟨nm, q, N, bs, bm, sn, sub, ab, col, dd, k0, k1, k2, k3, k5, hC, hbm⟩ := T.cls
  obtain ⟨t1, ho⟩ := exo_at I.hok e
  obtain ⟨hp, g, d, t, os⟩ := s
  refine wpAny_call (codeAny_of_tree ?_)
  show wpAny _ A.in1 (callAny (.ref u) ⟨us, []⟩) _ _ _
  simp only [callAny]
  refine wpAny_bind (wpAny_load hu ?_)
  simp only [PySem.W.kxs_mw, show (Value.type "method-wrapper" == Value.type "method" || Value.type "method-wrapper" == Value.type "builtin_function_or_method" || Value.type "method-wrapper" == Value.type "method-wrapper") = true by decide, if_true]
  refine PySem.W.KFB.if_so (by decide) ?_
  refine wpAny_bind (PySem.W.check_bound_init F.excBase_ValueError.toExcCallFacts (I.kIn _ _ hC) ho rfl ?_)
  refine wpAny_bind (wpAny_pure (wpAny_pure ?_))
  refine ⟨plainId_quiet F.excBase_ValueError.init.plain _, codeAny_builtin F.excBase_ValueError.initEntry ?_⟩
  refine PySem.W.exc_init_tree (cls := .ref C) (t0 := t1) (dv := none) (c2 := .none) (c3 := .none) (b4 := .bool false) ho hl fun h' k hx _ => ?_
  have J := I.write (t' := t) (x := a) (e := a) (o := exo a C none) (by rw [e]; exact True.intro) (.inl rfl) k ⟨_, hx⟩ (exo_ok hx)
  rw [upd_self e] at J
  exact h _ J
theorem fn_init {P : Program} {w : World} {K : PySem.W.Frag} {mg : Str → Option Value} {base : Heap} {C fI : Addr} {qual f : Str} {st : Stmt} {J : Expr} {fd : FuncData} {k : Nat} (T : InitC P K mg C fI qual f st J fd) : FnOk P w K mg base CX0 (k + 1) fI fd ["self", f] (spInit K C f) := by
  obtain ⟨oc, od, kV, doc, pm, an, cda, ct, osl, cc, rfl, lk, hcd, ⟨ccl', cld, csl, hcell⟩, ccl, cdd, ccs, vsC, file, tf, hcode, hvs, hfile⟩ := T.ex
  obtain ⟨p0, p1, p2, p3, p4, q1, q2, q3, q4, hbody, hev, hsw, hst, hsw2⟩ := T.body
  refine ⟨fun vs H Q E h => ?_, fun A outer s H args us vs Q E hr e0 hb r hsp => ?_⟩
  · obtain ⟨a, n, rfl, _⟩ := h
    rfl
  obtain ⟨a, n, rfl, hn, ha, hq⟩ := hsp
  have KX : K.In s.heap := e0.mod.kin.keeps fun b o e => (e0.bs b o e).1
  have lim : s.heap.NoLimit := e0.mod.nolimit.keeps fun b o e => (e0.bs b o e).1
  have S := T.sc
  have CA : CellsAt [("__class__", cc)] ["__class__"] [some (V.ref C)] s.heap H := by
    have one : ∀ y c, List.lookup y [(("__class__" : Str), cc)] = some c → y = "__class__" ∧ c = cc := fun y c e => by
      have := PySem.mem_of_lookup e
      simp at this
      exact this
    refine ⟨rfl, fun y c e => ?_, fun x y c e1 e2 => (one x c e1).1.trans (one y c e2).1.symm, fun i y e => ?_⟩
    · obtain ⟨_, rfl⟩ := one y c e
      exact ⟨(e0.bs _ _ (e0.mod.kin _ _ hcell)).2, _, isCell_of (KX _ _ hcell)⟩
    · cases i with
      | zero =>
        cases e
        refine ⟨cc, by simp [List.lookup], fun v ev => ?_⟩
        cases ev
        exact ⟨.ref C, rfl, isCell_of (KX _ _ hcell)⟩
      | succ i => simp at e
  refine ks_codeAny_call_defAt (fd := PySem.W.ksFn "__init__" qual (defArgs st) (defBody st) (defScope st) .none kV doc pm an (.ref cda) ct cc) (body := defBody st) (binds := (["self", f] : List Str).zip us) hr.depth (KX _ _ lk) rfl lim (PySem.W.codeRec_of KX hcd) rfl hb S.nocell (fun ⟨n, _⟩ hy => S.par n (List.of_mem_zip hy).1) (fun h₁ hns kp => ?_) S.co S.gen S.kind
  have I : Inv (ncx CX0 P w K mg base ["self", f, "__class__"] ⟨"__init__", qual, defArgs st, defBody st, defScope st, [("__class__", cc)], cda⟩ fI A outer s H E) [] (startF ["self", f, "__class__"] [.ref a, .int n] [some (.ref C)]) H { s with heap := h₁, toks := s.toks + ((["self", f] : List Str).zip us).length } := inv_startN S hr.hd e0 rfl r CA hns kp
  cases r with
  | @cons _ u0 _ ur ra rr =>
  cases rr with
  | @cons _ u1 _ ur' rn rnil =>
  cases rnil
  obtain rfl : u0 = Value.ref a := ra
  generalize hX : ncx CX0 P w K mg base ["self", f, "__class__"] ⟨"__init__", qual, defArgs st, defBody st, defScope st, [("__class__", cc)], cda⟩ fI A outer s H E = X at I
  have eP : X.prog = P := by rw [← hX]; rfl
  have eW : X.w = w := by rw [← hX]; rfl
  have eK : X.K = K := by rw [← hX]; rfl
  have eN : X.N = (["self", f, "__class__"] : List Str) := by rw [← hX]; rfl
  have eE : X.env = PySem.W.ksEnv qual (defScope st) s.heap.objs.size fI (.ref cda) cc := by rw [← hX]; rfl
  have eA : X.A = A.deeper X.env := by rw [← hX]; rfl
  have eM : X.mg = mg := by rw [← hX]; rfl
  have hks : X.env.scope = defScope st := by rw [eE]
  have key : _root_.PySem.wpAt (model X.prog X.w) X.A (.func (defBody st) X.env) (execs (defBody st) X.env) (SP X [] { nx := fun _ H' => Q .non H', rt := Q }) X.xe { s with heap := h₁, toks := s.toks + ((["self", f] : List Str).zip [Value.ref a, u1]).length } := by
    obtain ⟨ar, har, har'⟩ : ∃ ar : Arg, ((defArgs st).posonlyargs ++ (defArgs st).args).head? = some ar ∧ ar.arg = "self" := by
      have := T.par
      cases e : ((defArgs st).posonlyargs ++ (defArgs st).args).head? with
      | none => rw [e] at this; cases this
      | some ar => rw [e] at this; exact ⟨ar, rfl, Option.some.inj this⟩
    have kS : X.env.kindOf "super" = some .globalImplicit := by rw [eE]; exact T.ksu
    have kC : X.env.kindOf "__class__" = some .free := by rw [eE]; exact S.frk _ (List.mem_singleton.mpr rfl)
    have kE : X.env.kindOf "self" = some .local := by rw [eE]; exact T.kse
    have X1 := I.kIn
    rw [eK] at X1
    have ox : OexC X.K C := by rw [eK]; exact T.ox
    obtain ⟨t1, ho⟩ := exo_at I.hok ha
    obtain ⟨nm, q, N', bs, bm, sn, sub, ab, col, dd, k0, k1, k2, k3, k5, hC, hbm⟩ := T.ox.cls
    have hC1 := X1 _ _ hC
    have IA : PySem.W.InstAt h₁ a ({ cls := .ref C, dict := none, data := .fields #[.ref t1, .none, .none, .none, .bool false, .none] } : Obj) C none := ⟨ho, rfl, rfl, trivial⟩
    rw [hbody]
    obtain ⟨pl, hev1⟩ := hev X.env
    refine ks_wpAt_execs_cons (ks_wpAt_Expr_any (ks_wpAt_MethodCall (pl := pl) (ks_wpAt_super_base (f := fI) (cc := cda) kS kC (by decide) (by rw [eE]) (X1 _ _ lk) rfl har (by rw [eE]) (X1 _ _ hcode) rfl hvs (by rw [eP]; exact hfile) (by rw [eP]; exact T.top) ?_) hev1) I.quiet (hsw X.env))
    obtain ⟨mb, hb1, hb2⟩ := I.mod.blt
    refine PySem.W.ks_loadName_global I.ok.kind kS (Calls.loadGlobal_builtin (by rw [I.ok.glob]; exact I.mod.glob.keeps I.bk) (by rw [eM]; exact T.msu) (by rw [I.ok.blt]; exact hb1.keeps I.bk) ((hb2 "super" (by decide)).trans PyProof.Rows.Boot.«super») ⟨rfl, ?_⟩)
    refine wpAny_loadName_free (c := cc) (v := .ref C) I.ok.kind kC (by rw [eE]; simp [List.lookup]) ⟨_, X1 _ _ hcell, rfl⟩ ?_
    rw [har']
    have ndP : (["self", f] : List Str).Nodup := by
      have q := S.nd.sublist (List.take_sublist 2 _)
      exact q
    refine wpAny_loadName_local (v := .ref a) I.ok.kind kE (by rw [eE]; exact hns) (zip_look (i := 0) ndP rfl rfl) ?_
    refine ks_wpAny_isType_cls hC1 rfl ⟨rfl, ?_⟩
    refine ks_wpAny_call_super hC1 rfl ho rfl (fun c e => by cases e) (PySem.W.looks_mroIn X1 T.mro) (fun h2 e2 k2 => ?_)
    have I2 : Inv X [] _ H { s with heap := h2, toks := _ } := I.kept (t' := s.toks + ((["self", f] : List Str).zip [Value.ref a, u1]).length) k2
    have X2 : K.In h2 := X1.keeps k2
    have IA2 : PySem.W.InstAt h2 a ({ cls := .ref C, dict := none, data := .fields #[.ref t1, .none, .none, .none, .bool false, .none] } : Obj) C none := ⟨k2 _ _ ho, rfl, rfl, trivial⟩
    have hcl : PySem.W.clsIn K C = some { name := nm, bases := bs, mro := .ref C :: bm, ns := N', qualname := q, hasDict := true, slotNames := sn, subclasses := sub, abstract := ab, collection := col, hasDel := false } := by unfold PySem.W.clsIn; rw [hC] <;> rfl
    have hsup := T.sup
    unfold PySem.W.ks_superIn at hsup
    rw [hcl] at hsup
    have hI : PySem.W.Looks (model X.prog X.w) h2 (isInstance (.ref a) (.type "ValueError")) true := IA2.type.andThen (PySem.W.looks_subIn X2 T.subV)
    refine PySem.W.kxs_getMethod PySem.W.kxs_ValueError e2 (PySem.W.looks_opaque X2 T.opq) (l₀ := .ref C :: bm) (fun A Q E s k q => wpAny_bind ((PySem.W.looks_clsIn X2 hcl) A _ E s k (wpAny_pure q))) rfl X2 hsup hI (PySem.W.ks_ne X2 IA2 hcl) (by decide) ?_
    have I3 : Inv X [] _ H { s with heap := h2.push (PySem.W.kxs_mw "ValueError.__init__" a), toks := _ } := I2.kept (t' := s.toks + ((["self", f] : List Str).zip [Value.ref a, u1]).length + 1) fun b o e => Heap.get?_push_of_some _ e
    have I4 : Inv X [(h2.objs.size, PySem.W.kxs_mw "ValueError.__init__" a)] _ H _ := I3.pins_of fun p hp => by
      rw [List.mem_singleton.mp hp]
      exact ⟨Heap.get?_push_at rfl rfl, I2.hok.fresh (Nat.le_refl _), Nat.ne_of_gt I2.lt, I2.nofs (Nat.le_refl _), fun v z => by cases z⟩
    obtain ⟨tJ, pJ, rJ⟩ := T.txt X eN hks
    have hu1 : ∃ t, u1 = Value.int n t := rn
    have hσ : (startF (["self", f, "__class__"] : List Str) [V.ref a, V.int n] [some (V.ref C)]) = [some (V.ref a), some (.int n), some (.ref C)] := rfl
    have aft : ∀ s6, Inv X [] [some (V.ref a), some (.int n), some (.ref C)] H s6 → wpAny (model X.prog X.w) X.A (execs [.Assign [.Attribute (.Name "self" q1) f q2] (.Name f q3) q4] X.env) (SP X [] { nx := fun _ H' => Q .non H', rt := Q }) X.xe s6 := fun s6 I6 => by
      refine (pss_one (ps_ost (pe_var (i := 0) (by rw [eN]; rfl) (.inl (by rw [hks]; exact T.kse))) (pe_var (i := 1) (by rw [eN]; rfl) (.inl (by rw [hks]; exact T.kfd)) T.fdb T.fcd) (hsw2 X.env))).run [] s6 _ H _ I6 ?_
      refine ⟨_, rfl, _, rfl, a, C, rfl, ox, by rw [eK]; exact T.noF, .inl ⟨ha, fun dx n1 n2 => hq dx n1 n2⟩⟩
    rw [hst]
    refine PySem.W.kxs_callWith (i := "ValueError.__init__") (x := a) rfl (Calls.evalArgs_plain ?_)
    refine Calls.spliced_cons (thn (pJ.run _ _ _ _ _ I4 (rJ _ H n (fun v H' => (∃ z, v = V.str z) ∧ H' = H) hn rfl fun z => ⟨⟨z, rfl⟩, rfl⟩)) fun u s5 ⟨v, H5, I5, r5, ⟨z, ez⟩, eH⟩ => ?_)
    subst eH
    refine Calls.spliced_nil ⟨(I5.pin (h2.objs.size, PySem.W.kxs_mw "ValueError.__init__" a) (List.mem_append_right _ (List.mem_singleton.mpr rfl))).1, ?_⟩
    refine call_mw ox I5 ha (I5.pin (h2.objs.size, PySem.W.kxs_mw "ValueError.__init__" a) (List.mem_append_right _ (List.mem_singleton.mpr rfl))).1 (by show 1 ≤ sizeLine; rw [sizeLine_eq]; omega) fun s6 I6 => ?_
    have I7 : Inv X [] _ H5 s6 := I6.pins_of fun p hp => (List.not_mem_nil hp).elim
    exact wpAt_of_wpAny (aft s6 I7)
  subst hX
  refine ks_wpAt_mono key (fun fl s' hs => ?_) (fun e s' hs => hs)
  have fin : ∀ {σ' : L2.St} {H' : Hp} {v : V} {u : Value}, Inv (ncx CX0 P w K mg base ["self", f, "__class__"] ⟨"__init__", qual, defArgs st, defBody st, defScope st, [("__class__", cc)], cda⟩ fI A outer s H E) [] σ' H' s' → L2.RelV v u → Q v H' → CE outer P w H s Q u s' :=
    fun {σ' H' v u} J rv q => ⟨v, H', J.os, J.bare, J.base, J.hok, rv, q⟩
  cases fl with
  | ret u =>
    obtain ⟨v, σ', H', J, rv, q⟩ := hs
    exact fin J rv q
  | next =>
    obtain ⟨σ', H', J, q⟩ := hs
    exact fin (v := V.non) (u := Value.none) J rfl q
  | brk =>
    obtain ⟨_, _, _, q⟩ := hs
    exact False.elim q
  | cont =>
    obtain ⟨_, _, _, q⟩ := hs
    exact False.elim q
/-- C(e): a new error -/
theorem pmk_err {X : Cx} {x qual f : Str} {C fI : Addr} {st : Stmt} {J e : Expr} {fd : FuncData} {ta : TA} {p pos : Pos} {k : Nat} (T : InitC X.prog X.K X.mg C fI qual f st J fd) (hr : Room (k + 2) X.A) (hg : Gl X x) (hm : X.mg x = some (.ref C)) (ha : PA X [e] ta)
    (hdb : (x == ("__debug__" : Str)) = false := by decide) (he : starEach [e] X.env = (false, eval e X.env) :: starEach [] X.env := by rfl) : PMk X (.Call (.Name x p) [e] [] pos) (tMkO C (spInit X.K C f) [] ta) := by
  have G : FnOk X.prog X.w X.K X.mg X.base CX0 (k + 1) fI fd ["self", f] (spInit X.K C f) := fn_init T
  exact pmk_oex T.ox T.iC T.tI G hr T.bi .nil pass0 hg hm ha hdb he rfl
/-- .. its own dict at d holds f -/
theorem mk_rd {K : PySem.W.Frag} {C : Addr} {f : Str} {n : Int} {H1 : Hp} {Q : XK} (hn : n.natAbs.log2 < 1900) (q : ∀ d, H1 d = none → Q (.ref C) (some d) (upd H1 d (.xd [(f, .int n)]))) : ([V.int n] : List V).length ≤ 1000 ∧ ∀ a, H1 a = none → spInit K C f (.ref a :: ([V.int n] ++ [])) (upd H1 a (exo a C none))
      (fun v H2 => v = .non ∧ ∃ (d : Addr) (fs : List (Str × V)), H2 a = some (exo a C (some d)) ∧ H2 d = some (exd d fs) ∧ H1 d = none ∧ Q (.ref C) (some d) (upd (del H2 a) d (.xd fs))) (fun _ _ _ => False) := by
  refine ⟨by show 1 ≤ 1000; decide, fun a na => ⟨a, n, rfl, hn, upd_same, fun dx n1 n2 => ⟨rfl, dx, [(f, .int n)], upd_same, ?_, ?_, ?_⟩⟩⟩
  · rw [upd_ne n2, upd_same]
  · rw [upd_ne n2] at n1
    exact n1
  · rw [upd_ne n2] at n1
    have e : upd (del (upd (upd (upd H1 a (exo a C none)) dx (exd dx [(f, .int n)])) a (exo a C (some dx))) a) dx (.xd [(f, .int n)]) = upd H1 dx (.xd [(f, .int n)]) := by
      funext b
      by_cases hb : b = dx
      · rw [hb, upd_same, upd_same]
      · rw [upd_ne hb, upd_ne hb]
        by_cases hba : b = a
        · rw [hba, del_same, na]
        · rw [del_ne hba, upd_ne hba, upd_ne hb, upd_ne hba]
    rw [e]
    exact q dx n1
end Eh
set_option Elab.async false
set_option linter.all false
set_option maxRecDepth 100000
set_option maxHeartbeats 4000000
namespace Eh
open PySem PySem.Spec PyProof.Rows L2 NdefX
/-! a caught error that is kept: except X as n: y = n; behind the suite it is an object of ours -/
/-- at a: an exception that was raised, its class cls, its dict d -/
def exv (a : Addr) (cls : Value) (d : Option Addr) : HO := .ext fun h => ∃ (oe : Obj) (vs : Array Value), h.get? a = some oe ∧ Zc cls d oe ∧ oe.data = .fields vs
theorem exv_ok {P : Program} {w : World} {H : Hp} {h : Heap} {a : Addr} {cls : Value} {d : Option Addr} {oe : Obj} {vs : Array Value} (e : h.get? a = some oe) (z : Zc cls d oe) (hd : oe.data = .fields vs) : ObjOk P w H h a (exv a cls d) :=
  ⟨⟨oe, vs, e, z, hd⟩, ⟨oe, e⟩, fun _ _ ⟨o, v, q, r⟩ k => ⟨o, v, k o q, r⟩⟩
theorem exv_at {P : Program} {w : World} {H : Hp} {h : Heap} {a : Addr} {cls : Value} {d : Option Addr} (hok : HOk P w H h) (e : H a = some (exv a cls d)) : ∃ (oe : Obj) (vs : Array Value), h.get? a = some oe ∧ Zc cls d oe ∧ oe.data = .fields vs := by
  have x : ObjOk P w H h a (.ext fun h => ∃ (oe : Obj) (vs : Array Value), h.get? a = some oe ∧ Zc cls d oe ∧ oe.data = .fields vs) := hok a _ e
  exact x.1
section
variable {X : Cx} {pins : List (Addr × Obj)} {σ : L2.St} {H : Hp} {s : Shared}
/-- an object that was not there at the entry is tracked from now on -/
theorem Inv_track {a : Addr} {o : HO} {oe : Obj} (I : Inv X ((a, oe) :: pins) σ H s) (n0 : X.s_0.heap.get? a = none) (np : ∀ p ∈ X.pn ++ pins, p.1 ≠ a) (nc : ∀ x c, X.env.cells.lookup x = some c → c ≠ a) (new : ObjOk X.prog X.w (upd H a o) s.heap a o) : Inv X pins σ (upd H a o) s := by
  obtain ⟨ha, hn, nL, nF, _⟩ := I.pin (a, oe) (List.mem_append_right _ List.mem_cons_self)
  have ne0 : ∀ b u, X.s_0.heap.get? b = some u → b ≠ a := fun b u e z => by
    rw [z, n0] at e
    cases e
  refine ⟨I.ok, I.os, I.bare, ⟨I.base.keep, I.base.slot, fun b u e n hx => ?_, I.base.there, fun b xs e => ?_, fun b u v e => ?_, fun b ps e => ?_⟩, I.loc, I.cell, ?_, fun x c e => ?_, fun p hp => ?_, fun b u e => ?_, I.len⟩
  · rw [upd_ne (ne0 b u e)]
    exact I.base.free b u e n hx
  · have q := I.base.tups b xs e
    rw [upd_ne (ne_of_none q hn)]
    exact q
  · have q := I.base.frzs b u v e
    rw [upd_ne (ne_of_none q hn)]
    exact q
  · obtain ⟨m, q⟩ := I.base.tbls b ps e
    exact ⟨m, by rw [upd_ne (ne_of_none q hn)]; exact q⟩
  · rw [upd_ne (Ne.symm nL)]
    exact I.free
  · rw [upd_ne (nc x c e)]
    exact I.freeC x c e
  · have hp' : p ∈ X.pn ++ (a, oe) :: pins := by
      rcases List.mem_append.mp hp with z | z
      · exact List.mem_append_left _ z
      · exact List.mem_append_right _ (List.mem_cons_of_mem _ z)
    obtain ⟨e, n, ne, nf, d⟩ := I.pin p hp'
    exact ⟨e, by rw [upd_ne (np p hp)]; exact n, ne, nf, d⟩
  · by_cases hb : b = a
    · subst hb
      rw [upd_same] at e
      cases e
      exact new
    · rw [upd_ne hb] at e
      exact (I.hok b u e).stay (fun c v _ q => q) (fun c q => by rw [upd_ne (ne_of_none q hn)]; exact q) fun c xs q => by rw [upd_ne (ne_of_none q hn)]; exact q
theorem Inv_unsuite {a : Addr} {q : Addr × Obj} {pn' : List (Addr × Obj)} (I : Inv (X.suite a (q :: (X.pn ++ pins))) pn' σ H s) (ok : X.Ok) : Inv X (q :: pins) σ H s :=
  ⟨ok, I.os, I.bare, I.base, I.loc, I.cell, I.free, I.freeC, fun p hp => by
    refine I.pin p (List.mem_append_left _ ?_)
    rcases List.mem_append.mp hp with z | z
    · exact List.mem_cons_of_mem _ (List.mem_append_left _ z)
    · rcases List.mem_cons.mp z with z | z
      · rw [z]; exact List.mem_cons_self
      · exact List.mem_cons_of_mem _ (List.mem_append_right _ z), I.hok, I.len⟩
end
section
variable {X : Cx} {pins : List (Addr × Obj)}
/-- an error at a that is about to be looked at by X's except clause; I0: the state without it, at i0 -/
structure Air (X : Cx) (pins : List (Addr × Obj)) (B : Heap) (a : Addr) (cls : Value) (d : Option Addr) (σ : L2.St) (H : Hp) (i0 s1 : Shared) : Prop where
  inv : Inv X pins σ H i0
  gnd : ∀ b o, i0.heap.get? b = some o → b ∉ frs X.stack → B.get? b = some o
  ups : i0.heap.UpToSlots s1.heap
  non : H a = none
  sos : s1.os = i0.os
  gen : AllBare s1.gens
/-- .. when it is down: h1 the heap -/
structure Down (X : Cx) (pins : List (Addr × Obj)) (a : Addr) (cls : Value) (d : Option Addr) (σ : L2.St) (H : Hp) (i0 : Shared) (oe : Obj) (s1 : Shared) : Prop where
  inv : Inv X pins σ H s1
  obj : s1.heap.get? a = some oe
  zc : Zc cls d oe
  rcd : ∃ vs, oe.data = .fields vs
  loc : a ≠ X.env.locals
  frm : a ∉ X.fs
  no0 : X.s_0.heap.get? a = none
  noP : ∀ p ∈ X.pn ++ pins, p.1 ≠ a
  noC : ∀ y c, X.env.cells.lookup y = some c → c ≠ a
theorem Air.down {B h1 : Heap} {a : Addr} {cls : Value} {d : Option Addr} {σ : L2.St} {H : Hp} {i0 s1 : Shared} (A : Air X pins B a cls d σ H i0 s1) (hs : X.stack = X.env :: X.outer) (hex : X.ex = []) (hf : X.env.frame = some X.env.locals)
    (fl : HandSPX.FlyingZ B (X.env :: X.outer) a (Zc cls d) h1) (up : s1.heap.UpToSlots h1) : ∃ oe, Down X pins a cls d σ H i0 oe { s1 with heap := h1 } := by
  obtain ⟨oe, vs, eo, zo, dat⟩ := fl.there
  have out : a ∉ frs (X.env :: X.outer) := fun m => by
    obtain ⟨_, o, q, ng⟩ := fl.2.2.1.mem m
    rw [eo] at q
    cases q
    exact ng _ dat
  have gone : i0.heap.get? a = none := by
    cases q : i0.heap.get? a with
    | none => rfl
    | some o =>
      have z := A.gnd a o q (by rw [hs]; exact out)
      rw [fl.2.1] at z
      cases z
  have off : ∀ {b : Addr} {o : Obj}, i0.heap.get? b = some o → b ≠ a := fun {b o} q z => by
    rw [z, gone] at q
    cases q
  refine ⟨oe, A.inv.landed A.gnd fl.1 (A.ups.trans up) A.sos A.gen, eo, zo, ⟨vs, dat⟩, fun z => ?_, fun m => ?_, ?_, fun p m => off (A.inv.pin p m).1, fun y c q => ?_⟩
  · exact out (List.mem_filterMap.mpr ⟨X.env, .head _, by rw [hf, z]⟩)
  · obtain ⟨v, m1, m2⟩ := List.mem_filterMap.mp m
    exact out (List.mem_filterMap.mpr ⟨v, .tail _ m1, m2⟩)
  · cases q : X.s_0.heap.get? a with
    | none => rfl
    | some o =>
      obtain ⟨o', z⟩ := A.inv.base.there a o q (by rw [hex]; exact fun z => nomatch z)
      exact absurd rfl (off z)
  · obtain ⟨_, o, q2, _⟩ := A.inv.cell y c q
    exact off q2
variable {x n : Str} {c : Value} {i : Nat} {body suite : List Stmt} {b₀ : Stmt} {np pos pos' : Pos} {tb : WX → TS} {ts : Addr → Value → Option Addr → TS} {σ : L2.St} {H : Hp} {i0 s1 : Shared} {a : Addr} {cls : Value} {d : Option Addr} {oe : Obj} {D : Ends}
/-- the clause's class is read, its suite run, its name goes, the error is kept -/
theorem Down.runs {B : Heap} (U : Down X pins a cls d σ H i0 oe s1) (fl : HandSPX.FlyingZ B (X.env :: X.outer) a (Zc cls d) s1.heap) (A : Air X pins B a cls d σ H i0 s1) (hs : X.stack = X.env :: X.outer) (hex : X.ex = []) (hf : X.env.frame = some X.env.locals)
    (hN : X.N.Nodup) (hi : X.N[i]? = some n) (hln : X.env.kindOf n = some .local) (hc : Names X x c) (ht : PySem.W.exmOne X.K cls c = some true)
    (hsu : ∀ (a : Addr) (oe : Obj) (cls : Value) (d : Option Addr) (pn : List (Addr × Obj)), Zc cls d oe → (∃ vs, oe.data = .fields vs) → PSs (X.suite a ((a, oe) :: pn)) (b₀ :: suite) (ts a cls d))
    (q : ts a cls d { nx := fun σ' H' => D.nx (σ'.set i none) (upd H' a (exv a cls d)), rt := fun _ _ => False, bk := fun _ _ => False, ct := fun _ _ => False } (σ.set i (some (.ref a))) H) :
    wpAny (model X.prog X.w) X.A (handleBy (.ref a) X.env [.ExceptHandler (some (.Name x np)) (some n) (b₀ :: suite) pos']) (SP X pins D) X.xe s1 := by
  obtain ⟨vs, dat⟩ := U.rcd
  have V := U.inv.suite U.obj dat A.non U.loc U.frm
  refine wpAny_handleBy_cons (codeAny_handlers_test ?_) (fun z => by cases z)
  have ty : PySem.W.Looks (model X.prog X.w) s1.heap (typeOf (.ref a)) cls := fun _ _ _ _ kk qq => wpAny_typeOf_ref (kk _ _ U.obj) (by rw [U.zc.1]; exact qq)
  have mt := PySem.W.exm_one (M := model X.prog X.w) U.inv.kIn ty ht
  have nm : ∀ {Q1 : Value → Shared → Prop} {E1 : Value → Shared → Prop}, Q1 c s1 → wpAny (model X.prog X.w) (X.A.mark (some (.ref a))) (eval (.Name x np) X.env) Q1 E1 s1 := fun {Q1 E1} qq => by
    rcases hc with ⟨g1, g2, g3 | ⟨g3, g4, g5⟩⟩
    · exact ld_glob (X := X.suite a ((a, oe) :: (X.pn ++ pins))) V g1 g3 qq g2
    · exact ld_blt (X := X.suite a ((a, oe) :: (X.pn ++ pins))) V g1 g3 g4 qq g5 g2
  refine nm (mt.here (codeAny_handlers_suite_as ?_))
  refine HandSPX.lands_againZ fl fun h2 fl2 up2 => ?_
  obtain ⟨oe2, U2⟩ := A.down hs hex hf fl2 up2
  obtain ⟨vs2, dat2⟩ := U2.rcd
  refine store_ok (X := X.suite a ((a, oe2) :: (X.pn ++ pins))) (v := .ref a) (U2.inv.suite U2.obj dat2 A.non U2.loc U2.frm) hN hi (.inl hln) rfl (fun s3 V3 => ?_) (.inr hln)
  refine wpAny_mono ((hsu a oe2 cls d (X.pn ++ pins) U2.zc ⟨vs2, dat2⟩).run [] s3 _ H _ V3 q) (fun fl s4 e => ?_) (fun _ _ z => z.elim)
  cases fl with
  | next =>
    obtain ⟨σ4, H4, V4, q4⟩ := e
    exact gone_ok (Inv_unsuite V4 U.inv.ok) hN hi hln fun s5 V5 => ⟨_, _, Inv_track V5 U.no0 U.noP U.noC (exv_ok (V5.pin (a, oe2) (List.mem_append_right _ (.head _))).1 U2.zc dat2), q4⟩
  | brk => obtain ⟨_, _, _, z⟩ := e; exact z.elim
  | cont => obtain ⟨_, _, _, z⟩ := e; exact z.elim
  | ret v => obtain ⟨_, _, _, _, _, z⟩ := e; exact z.elim
/-- try: body / except x as n: suite, every error of the body being one of x -/
def wKeep (K : PySem.W.Frag) (c : Value) (i : Nat) (ts : Addr → Value → Option Addr → TS) (D : Ends) : WX := fun cls d σ H =>
  PySem.W.exmOne K cls c = some true ∧ ∀ a, H a = none → ts a cls d { nx := fun σ' H' => D.nx (σ'.set i none) (upd H' a (exv a cls d)), rt := fun _ _ => False, bk := fun _ _ => False, ct := fun _ _ => False } (σ.set i (some (.ref a))) H
theorem ps_try_keep (hs : X.stack = X.env :: X.outer) (hex : X.ex = []) (hf : X.env.frame = some X.env.locals) (hN : X.N.Nodup) (hi : X.N[i]? = some n) (hln : X.env.kindOf n = some .local) (hc : Names X x c)
    (hb : ∀ (W : WX) (pn : List (Addr × Obj)) (xe : Value → Shared → Prop), Takes (X.tr pn xe) W → PassesOwn (model X.prog X.w) X.A X.env xe → PSs (X.tr pn xe) body (tb W))
    (hsu : ∀ (a : Addr) (oe : Obj) (cls : Value) (d : Option Addr) (pn : List (Addr × Obj)), Zc cls d oe → (∃ vs, oe.data = .fields vs) → PSs (X.suite a ((a, oe) :: pn)) (b₀ :: suite) (ts a cls d)) :
    PS X (.Try body [.ExceptHandler (some (.Name x np)) (some n) (b₀ :: suite) pos'] [] [] pos) (fun D σ H => tb (wKeep X.K c i ts D) D σ H) := by
  refine ⟨fun pins s σ H D I h => wpAny_Try_except ?_⟩
  have frm : X.A.frames = some (X.env :: X.outer) := by rw [I.ok.frames, hs]
  have up0 : ∀ (h : Heap), h.UpToSlots h := fun h => Heap.UpToSlots.of_keeps fun _ _ e => e
  have body0 := (hb (wKeep X.K c i ts D) (X.pn ++ pins) (fun e t1 => wpAny (model X.prog X.w) X.A (noteFrame e X.env) (fun _ t2 => wpAny (model X.prog X.w) X.A (setFlight e none) (fun _ t3 => wpAny (model X.prog X.w) X.A (handleBy e X.env [.ExceptHandler (some (.Name x np)) (some n) (b₀ :: suite) pos']) (SP X pins D) X.xe t3) X.xe t2) X.xe t1)
    (fun u t1 air => by
      obtain ⟨a, B, i0, _, σ0, H0, cls, d, rfl, J, gnd, ups, sky, na, so, ag, hm, hy⟩ := air
      have A : Air X pins B a cls d σ0 H0 i0 t1 := ⟨J.ofTry I.ok, gnd, ups, na, so, ag⟩
      refine Sky.land Zc.steady frm hf (show Sky B (X.env :: X.outer) a (Zc cls d) X.env.locals t1.heap from hs ▸ sky) fun h1 fl1 up1 => ?_
      obtain ⟨oe, U⟩ := A.down hs hex hf fl1 up1
      exact U.runs fl1 ⟨A.inv, gnd, ups.trans up1, na, so, ag⟩ hs hex hf hN hi hln hc hm hsu (hy a na)) PassesOwn.looking).run [] s σ H D (I.toTry _) h
  refine wpAny_mono body0 (fun fl t1 e => ?_) (fun _ _ e => e)
  cases fl with
  | next => obtain ⟨σ1, H1, J, q⟩ := e; exact wpAny_execs_nil ⟨σ1, H1, J.ofTry I.ok, q⟩
  | brk => obtain ⟨σ1, H1, J, q⟩ := e; exact ⟨σ1, H1, J.ofTry I.ok, q⟩
  | cont => obtain ⟨σ1, H1, J, q⟩ := e; exact ⟨σ1, H1, J.ofTry I.ok, q⟩
  | ret u => obtain ⟨v, σ1, H1, J, r, q⟩ := e; exact ⟨v, σ1, H1, J.ofTry I.ok, r, q⟩
end
end Eh
set_option Elab.async false
set_option linter.all false
set_option maxRecDepth 100000
set_option maxHeartbeats 4000000
namespace Eh
open PySem PySem.Spec PyProof.Rows L2 NdefX
/-! isinstance and the field of a caught error that was kept -/
/-- its own dict, if it has one, is ours -/
def DctOk (H : Hp) (d : Option Addr) : Prop := match d with
  | none => True
  | some dd => ∃ fs, H dd = some (.xd fs)
/-- what is told of an error's class -/
structure ErrC (K : PySem.W.Frag) (C : Addr) : Prop where
  ec : ExcC K C
  xf : XfC K C
theorem inst_exv {P : Program} {w : World} {H : Hp} {h : Heap} {a C : Addr} {d : Option Addr} (hok : HOk P w H h) (e : H a = some (exv a (.ref C) d)) (hd : DctOk H d) : ∃ (oe : Obj) (od : Option Obj), PySem.W.InstAt h a oe C od := by
  obtain ⟨oe, vs, e1, z, dat⟩ := exv_at hok e
  have nc : PySem.W.notCls oe = true := by
    unfold PySem.W.notCls
    rw [dat] <;> rfl
  cases d with
  | none => exact ⟨oe, none, e1, z.1, nc, by rw [z.2]; trivial⟩
  | some dd =>
    obtain ⟨fs, e2⟩ := hd
    have x : ObjOk P w H h dd (.xd fs) := hok dd _ e2
    obtain ⟨mA, hns, _⟩ := x
    obtain ⟨od, ho, _⟩ := lookIn_ns hns
    exact ⟨oe, some od, e1, z.1, nc, by rw [z.2]; exact ho⟩
/-- isinstance(x, c), x such an error -/
def rIsX (K : PySem.W.Frag) : List V → Hp → VK → Prop := fun xs H Q => ∃ (a C : Addr) (d : Option Addr) (c : V) (cv : Value) (b : Bool), xs = [.ref a, c] ∧ H a = some (exv a (.ref C) d) ∧ DctOk H d ∧ ErrC K C ∧ (∀ u, L2.RelV c u → u = cv) ∧ PySem.W.kitOne K (.ref C) cv = some b ∧ Q (.bl b) H
theorem call_isX {X : Cx} : CallR X (.builtin "isinstance") (rIsX X.K) := by
  intro pins s σ H xs us Q I r h
  obtain ⟨a, C, d, c, cv, b, rfl, ea, hd, T, hcv, e, q⟩ := h
  cases r with
  | cons rx rr =>
  cases rr with
  | cons rt rr =>
  cases rr
  cases rx
  have ec := hcv _ rt
  subst ec
  obtain ⟨oe, od, J⟩ := inst_exv I.hok ea hd
  have hcl : (PySem.W.clsIn X.K C).isSome = true := by
    obtain ⟨cd, hc, _⟩ := PySem.W.any_some T.ec.hd
    rw [hc] <;> rfl
  exact PySem.W.kia_one (PySem.W.kitx_exc hcl T.ec.hg T.ec.hk T.ec.hs T.ec.ha T.ec.hn T.ec.ht T.ec.hm) I.kIn J e (fun z => nomatch z) fun tk => ⟨.bl b, H, I.tok tk, rfl, q⟩
/-- x.n, x such an error -/
def tXg (K : PySem.W.Frag) (n : Str) (te : TE) : TE := fun σ H Q => te σ H fun x H1 => ∃ (a C dd : Addr) (fs : List (Str × V)) (v : V), x = .ref a ∧ ErrC K C ∧ PySem.W.findIn K (.ref C) n = some none ∧ H1 a = some (exv a (.ref C) (some dd)) ∧ H1 dd = some (.xd fs) ∧ fs.lookup n = some v ∧ Q v H1
theorem pe_xg {X : Cx} {e : Expr} {te : TE} {pos : Pos} {n : Str} (he : PE X e te) (hb : attributeBase e n X.env (eval e X.env) = eval e X.env := by rfl) : PE X (.Attribute e n pos) (tXg X.K n te) := by
  refine ⟨fun pins s σ H Q I h => ?_⟩
  refine attr_of hb (thn (he.run pins s σ H _ I h) fun u s1 ⟨x, H1, I1, rx, a, C, dd, fs, v, ex, T, hno, ea, ed, l, q⟩ => ?_)
  subst ex
  obtain rfl : u = Value.ref a := rx
  obtain ⟨oe, vs, e1, z, dat⟩ := exv_at I1.hok ea
  have x : ObjOk X.prog X.w H1 s1.heap dd (.xd fs) := I1.hok dd _ ed
  obtain ⟨mA, hns, hr⟩ := x
  obtain ⟨od, ho, hl⟩ := lookIn_ns hns
  obtain ⟨u, hu, ru⟩ := RelO.some_of (v := v) (o := mA n) (by rw [← l]; exact hr n)
  exact HandSPX.exc_get I1.kIn (⟨e1, z.1, by unfold PySem.W.notCls; rw [dat] <;> rfl, by rw [z.2]; exact ho⟩ : PySem.W.InstAt s1.heap a oe C (some od)) T.xf.ga T.xf.gg T.xf.exC (PySem.W.findObj_own T.xf.hdC hno rfl (by rw [hl, hu])) (handed_of ru) ⟨v, H1, I1.tok _, ru, q⟩
end Eh
set_option Elab.async false
set_option linter.all false
set_option maxRecDepth 100000
set_option maxHeartbeats 4000000
namespace Eh
open PySem PySem.Spec PyProof.Rows L2 Evl
def ordKV : List Str → Nat → List (Key × V)
  | [], _ => []
  | x :: r, n => (.inr x, .int (n : Int)) :: ordKV r (n + 1)
theorem ordKV_app : ∀ (a b : List Str) (n : Nat), ordKV (a ++ b) n = ordKV a n ++ ordKV b (n + a.length)
  | [], b, n => rfl
  | x :: r, b, n => by
    show (.inr x, .int (n : Int)) :: ordKV (r ++ b) (n + 1) = (.inr x, .int (n : Int)) :: (ordKV r (n + 1) ++ ordKV b (n + (r.length + 1)))
    rw [ordKV_app r b (n + 1), show n + 1 + r.length = n + (r.length + 1) by omega]
theorem ordKV_len : ∀ (a : List Str) (n : Nat), (ordKV a n).length = a.length
  | [], n => rfl
  | x :: r, n => by
    show (ordKV r (n + 1)).length + 1 = r.length + 1
    rw [ordKV_len r (n + 1)]
theorem ordKV_none : ∀ (a : List Str) (n : Nat) (x : Str), ¬ x ∈ a → valV (ordKV a n) (.inr x) = none
  | [], n, x, _ => rfl
  | y :: r, n, x, h => by
    have h1 : ¬ y = x := fun e => h (by rw [e]; exact List.mem_cons_self ..)
    have h2 : ¬ x ∈ r := fun e => h (List.mem_cons_of_mem _ e)
    show valV ((Sum.inr y, V.int (n : Int)) :: ordKV r (n + 1)) (.inr x) = none
    rw [valV_neg (fun e => h1 (Sum.inr.inj e))]
    exact ordKV_none r (n + 1) x h2
theorem ordKV_some : ∀ (a : List Str) (n : Nat) (x : Str), x ∈ a → valV (ordKV a n) (.inr x) = some (.int ((n + a.idxOf x : Nat) : Int))
  | [], n, x, h => (List.not_mem_nil h).elim
  | y :: r, n, x, h => by
    show valV ((Sum.inr y, V.int (n : Int)) :: ordKV r (n + 1)) (.inr x) = _
    by_cases e : y = x
    · subst e
      rw [valV_pos (by rfl), List.idxOf_cons_self]
      rfl
    · rw [valV_neg (fun z => e (Sum.inr.inj z)), ordKV_some r (n + 1) x ((List.mem_cons.mp h).resolve_left fun z => e z.symm), List.idxOf_cons, show (y == x) = false from beq_false_of_ne e]
      show some (V.int ((n + 1 + r.idxOf x : Nat) : Int)) = some (V.int ((n + (r.idxOf x + 1) : Nat) : Int))
      rw [show n + 1 + r.idxOf x = n + (r.idxOf x + 1) by omega]
/-- one tuple behind the other, the first with something in it -/
theorem cat_rd {K : PySem.W.Frag} {a b : Addr} {xs ys : List V} {H : Hp} {Q : VK} (h1 : SqT K H a xs) (h2 : SqT K H b ys) (n0 : xs ≠ []) (hz : xs.length + ys.length ≤ 1000) (q : ∀ p H', Ex H H' → SqT K H' p (xs ++ ys) → Q (.ref p) H') : rCatT K (.ref a) (.ref b) H Q :=
  ⟨a, b, xs, ys, rfl, rfl, h1, h2, n0, sz_of (by omega), fun e => q a H (Ex.refl H) (by rw [e, List.append_nil]; exact h1), fun _ p np => q p _ (Ex.new np) (st_of upd_same)⟩
/-- {.. for i, x in enumerate(tuple)} -/
theorem dc_enumT {K : PySem.W.Frag} {a : Addr} {xs : List V} {tt : TT} {tk tv : TE} {σ : L2.St} {H1 : Hp} {Dd : Addr} {Qd : Hp → Prop} {i1 i2 : Nat} {vs : List Nat} (Pv : Nat → Hp → Prop) (h0 : Pv 0 (upd H1 Dd (.dK []))) (hl : ∀ i H, i ≤ xs.length → Pv i H → SqT K H a xs)
    (hs : ∀ i x H T, xs[i]? = some x → Pv i H → H T = none → wipe (((wipe σ vs).set i1 (some (.int (i : Nat)))).set i2 (some x)) vs = wipe σ vs ∧ tt (((wipe σ vs).set i1 (some (.int (i : Nat)))).set i2 (some x)) (upd H T (.tup [.int (i : Nat), x])) fun b H3 => if b = true then tk (((wipe σ vs).set i1 (some (.int (i : Nat)))).set i2 (some x)) H3 fun y H4 => tv (((wipe σ vs).set i1 (some (.int (i : Nat)))).set i2 (some x)) H4 fun z H5 => ∃ kvs k, y = kV k ∧ H5 Dd = some (.dK kvs) ∧ kvs.length < sizeLine ∧ Pv (i + 1) (upd H5 Dd (.dK (putK kvs k z))) else Pv (i + 1) H3)
    (hd : ∀ H, Pv xs.length H → Qd H) :
    ∃ W : Nat → Nat → Hp → Prop, (∃ m, W 0 m (upd H1 Dd (.dK []))) ∧ ∀ i m H, W i m H → ((IteT K a).stop i H ∧ Qd H) ∨ ((IteT K a).go i H ∧ ∃ Nx : Hp → Prop, (∀ H', Nx H' → ∃ m', m' < m ∧ W (i + 1) m' H') ∧ ∀ x H', (IteT K a).yld i H x H' → gTup K 2 (gCons (gName i1) (gCons (gName i2) gNil)) x (wipe σ vs) H' fun σ2 H2 => wipe σ2 vs = wipe σ vs ∧ tt σ2 H2 fun b H3 => if b = true then tk σ2 H3 fun y H4 => tv σ2 H4 fun z H5 => ∃ kvs k, y = kV k ∧ H5 Dd = some (.dK kvs) ∧ kvs.length < sizeLine ∧ Nx (upd H5 Dd (.dK (putK kvs k z))) else Nx H3) := by
  refine ⟨fun i m H => m = xs.length - i ∧ i ≤ xs.length ∧ Pv i H, ⟨xs.length, by omega, Nat.zero_le _, h0⟩, ?_⟩
  rintro i m H ⟨rfl, hi, pp⟩
  have sq := hl i H hi pp
  by_cases hlt : i < xs.length
  · refine .inr ⟨⟨xs, xs[i], sq, List.getElem?_eq_getElem hlt⟩, Pv (i + 1), fun H' p' => ⟨xs.length - (i + 1), by omega, rfl, hlt, p'⟩, fun v H' y => ?_⟩
    obtain ⟨T, x, rfl, nT, rfl, f⟩ := y
    exact ⟨T, [.int (i : Nat), x], rfl, st_of upd_same, rfl, _, _, rfl, _, _, rfl, rfl, hs i x H T (f xs sq) pp nT⟩
  · have e : i = xs.length := by omega
    subst e
    exact .inl ⟨⟨xs, sq, rfl⟩, hd H pp⟩
abbrev nOrderOf : List Str := ["sheet", "opens", "plains", "closes", "number", "letter"]
theorem scOrderOf : FnScope nOrderOf ["sheet"] (defScope sOrderOf) := ⟨rfl, rfl, rfl, by decide +kernel, rfl, by decide +kernel, by decide +kernel⟩
theorem scNeedWord : FnScope ["sheet", "word", "order", "place", "letter"] ["sheet", "word"] (defScope sNeedWord) := ⟨rfl, rfl, rfl, by decide +kernel, rfl, by decide +kernel, by decide +kernel⟩
section
variable {P : Program} {w : World} {K : PySem.W.Frag} {mg : Str → Option Value} {base : Heap}
def spOrderOf : Sp := fun vs H Q _ => ∃ (s : Addr) (os ps qs : List Str), vs = [.ref s] ∧ Sht os ps qs ∧ SheetAt H s os ps qs ∧ ∀ d H', Ex H H' → H d = none → H' d = some (.dK (ordKV (os ++ ps ++ qs) 0)) → Q (.ref d) H'
theorem ok_orderOf {f : Addr} {fd : FuncData} {k : Nat} (F : Fun K "order_of" "order_of" sOrderOf f fd) (me : mg "enumerate" = none) : FnOk P w K mg base CX0 (k + 1) f fd ["sheet"] spOrderOf := by
  have nd := scOrderOf.nd
  refine F.ok scOrderOf (fun vs H Q E h => ?_) (fun cdv A outer s H vs Q E hr h => ?_)
  · obtain ⟨s, os, ps, qs, rfl, _⟩ := h
    rfl
  · obtain ⟨s, os, ps, qs, rfl, hS, ⟨ao, ap, ac, h0, h1, h2, h3⟩, q⟩ := h
    refine ⟨_, pss_cons (ps_asg (pv 0) (pg_tup rfl (pgs_cons (pg_name (i := 1) nd rfl (.inl rfl)) (pgs_cons (pg_name (i := 2) nd rfl (.inl rfl)) (pgs_cons (pg_name (i := 3) nd rfl (.inl rfl)) pgs_nil)))))
      (pss_one (ps_ret (pe_dc (own := [("number", 4), ("letter", 5)]) (g := gTup K 2 (gCons (gName 4) (gCons (gName 5) gNil))) (tt := tYes) rfl nd (pi_enumT (by rfl) me (pa_cons (pe_op op_catT (pe_op op_catT (pv 1) (pv 2)) (pv 3)) pa_nil)) (blkOk_by (own := [("number", 4), ("letter", 5)]) (N := nOrderOf) (sc := defScope sOrderOf) (by decide +kernel))
        (fun _ _ _ _ _ => pg_tup rfl (pgs_cons (pg_name (i := 4) nd rfl (.inl rfl)) (pgs_cons (pg_name (i := 5) nd rfl (.inl rfl)) pgs_nil))) (fun _ _ _ _ _ => pts_nil) (fun _ _ _ _ _ => pv 5) (fun _ _ _ _ _ => pv 4)))), ?_⟩
    refine ⟨_, rfl, s, _, rfl, st_of h0, rfl, _, _, rfl, _, _, rfl, _, _, rfl, rfl, ?_⟩
    have on : os.map V.str ≠ [] := fun e => by
      have := hS.o1
      rw [← List.length_map (f := V.str), e] at this
      exact absurd this (by decide)
    have l1 : (os.map V.str).length + (ps.map V.str).length ≤ 1000 := by
      rw [List.length_map, List.length_map]
      have := hS.o4
      have := hS.p4
      omega
    refine ⟨_, rfl, _, rfl, cat_rd (st_of h1) (st_of h2) on l1 fun p1 H1 e1 g1 => ⟨_, rfl, cat_rd g1 (st_of (e1 _ _ h3)) (fun z => on (List.append_eq_nil_iff.mp z).1) ?_ fun p2 H2 e2 g2 => ?_⟩⟩
    · rw [List.length_append, List.length_map, List.length_map, List.length_map]
      have := hS.o4
      have := hS.p4
      have := hS.c4
      omega
    rw [← List.map_append, ← List.map_append] at g2
    generalize hL : os ++ ps ++ qs = L at *
    have hLl : L.length ≤ 12 := by
      rw [← hL, List.length_append, List.length_append]
      have := hS.o4
      have := hS.p4
      have := hS.c4
      omega
    have hLd : L.Nodup := by
      have := hS.nd
      rw [hL] at this
      exact this
    refine ⟨p2, _, rfl, g2, fun Dd nD => dc_enumT (xs := L.map V.str) (fun i H' => Ex H2 H' ∧ H' Dd = some (.dK (ordKV (L.take i) 0))) ⟨Ex.new nD, upd_same⟩ (fun i H' _ hh => ex_t hh.1 g2) ?_ ?_⟩
    · rintro i x H' T hx ⟨eH, hD⟩ nT
      refine ⟨rfl, yesT ?_⟩
      rw [List.getElem?_map] at hx
      obtain ⟨y, hy, rfl⟩ := Option.map_eq_some_iff.mp hx
      have eT : Ex H' (upd H' T (.tup [.int (i : Nat), .str y])) := Ex.new nT
      refine ⟨_, rfl, _, rfl, _, .inr y, rfl, eT _ _ hD, ?_, (eH.trans eT).mut nD, ?_⟩
      · rw [ordKV_len]
        exact sz_lt (by rw [List.length_take]; omega)
      · have hi := (List.getElem?_eq_some_iff.mp hy).1
        rw [upd_same, putK_new _ (ordKV_none _ _ _ ?_), List.take_add_one, hy, ordKV_app, List.length_take, Nat.min_eq_left (by omega), Nat.zero_add]
        · rfl
        · intro hm
          obtain ⟨j, hj, e⟩ := List.mem_take_iff_getElem.mp hm
          have : j = i := (List.getElem_inj hLd).mp (e.trans (List.getElem?_eq_some_iff.mp hy).2.symm)
          omega
    · rintro H' ⟨eH, hD⟩
      rw [List.length_map, List.take_length] at hD
      exact q Dd H' ((e1.trans e2).trans eH) (fresh_back (e1.trans e2) nD) hD
abbrev LetC (P : Program) (K : PySem.W.Frag) (mg : Str → Option Value) (C0 fI : Addr) (fdI : FuncData) : Prop := mg "NoLetter" = some (.ref C0) ∧ ∃ J, InitC P K mg C0 fI "NoLetter.__init__" "place" (inClass (topS 2) 0) J fdI
theorem log2_small {n : Nat} (h : n ≤ 10000) : ((n : Int)).natAbs.log2 < 1900 := by
  have e : ((n : Int)).natAbs = n := Int.natAbs_natCast n
  rw [e]
  have h1 : n.log2 < 14 := by
    by_cases z : n = 0
    · subst z
      decide
    · exact (Nat.log2_lt z).mpr (Nat.lt_of_le_of_lt h (by decide))
  omega
def spNeedWord (K : PySem.W.Frag) (C0 : Addr) : Sp := fun vs H Q E => ∃ (s l : Addr) (os ps qs ws : List Str), vs = [.ref s, .ref l] ∧ Sht os ps qs ∧ SheetAt H s os ps qs ∧ SqL K H l (ws.map V.str) ∧ ws.length ≤ 10000 ∧ ((∀ x ∈ ws, x ∈ os ++ ps ++ qs) → ∀ H', Ex H H' → Q .non H') ∧
  ∀ (p : Nat) (x : Str), ws[p]? = some x → ¬ x ∈ os ++ ps ++ qs → (∀ j y, j < p → ws[j]? = some y → y ∈ os ++ ps ++ qs) → ∀ d H', Ex H H' → H' d = some (.xd [("place", .int (p : Int))]) → E (.ref C0) (some d) H'
theorem ok_needWord {f fO C0 fI : Addr} {fd fdO fdI : FuncData} {k : Nat} (F : Fun K "need_word" "need_word" sNeedWord f fd) (FO : Fun K "order_of" "order_of" sOrderOf fO fdO) (bO : Binds K fdO ["sheet"] []) (gO : mg "order_of" = some (.ref fO)) (me : mg "enumerate" = none) (T : LetC P K mg C0 fI fdI) : FnOk P w K mg base (L2.CX P w) (k + 3) f fd ["sheet", "word"] (spNeedWord K C0) := by
  have GO : FnOk P w K mg base CX0 (k + 2) fO fdO ["sheet"] spOrderOf := ok_orderOf FO me
  have nd := scNeedWord.nd
  obtain ⟨gC, JJ, TI⟩ := T
  refine F.okX scNeedWord (fun vs H Q E h => ?_) (fun cdv A outer s H vs Q E hr h => ?_)
  · obtain ⟨s, l, os, ps, qs, ws, rfl, _⟩ := h
    rfl
  · obtain ⟨s, l, os, ps, qs, ws, rfl, hS, hs, hl, hlen, q, qx⟩ := h
    have hu := hu_of hr
    refine ⟨_, pss_cons (ps_set (i := 2) nd rfl (.inl rfl) (pe_call GO hr (by rfl) gO FO.kp bO .nil pass0 (pa_cons (pv 0) pa_nil)))
      (pss_one (ps_for (passes_of rfl) rfl (pi_enum (by rfl) me (pa_cons (pv 1) pa_nil)) (pg_tup rfl (pgs_cons (pg_name (i := 3) nd rfl (.inl rfl)) (pgs_cons (pg_name (i := 4) nd rfl (.inl rfl)) pgs_nil)))
        (pss_one (ps_if (pt_cmp (pc_dnotin hu (pv 4) (pv 2))) (pss_one (ps_raise rfl (takes_of rfl rfl rfl rfl) (pmk_err TI hr rfl gC (pa_cons (pv 3) pa_nil)))) pss_nil)))), ?_⟩
    refine ⟨_, rfl, s, os, ps, qs, rfl, hS, hs, fun d H1 e1 nd1 hd => ?_⟩
    refine ⟨_, rfl, l, _, rfl, ex_l e1 hl, for_enum (xs := ws.map V.str) (fun i σ H' => (∃ y3 y4, σ = [some (.ref s), some (.ref l), some (.ref d), y3, y4]) ∧ Ex H1 H' ∧ ∀ j y, j < i → ws[j]? = some y → y ∈ os ++ ps ++ qs) ⟨⟨_, _, rfl⟩, Ex.refl _, fun j y hj => absurd hj (Nat.not_lt_zero j)⟩ (fun i σ H' _ hh => ex_l (e1.trans hh.2.1) hl) ?_ ?_⟩
    · rintro i x σ H' T hx ⟨⟨y3, y4, rfl⟩, eH, hpre⟩ nT
      rw [List.getElem?_map] at hx
      obtain ⟨y, hy, rfl⟩ := Option.map_eq_some_iff.mp hx
      have hi := (List.getElem?_eq_some_iff.mp hy).1
      have eT : Ex H' (upd H' T (.tup [.int (i : Nat), .str y])) := Ex.new nT
      refine ⟨_, rfl, _, rfl, d, _, rfl, DGet.k (k := Sum.inr y) (eT _ _ (eH _ _ hd)), ?_⟩
      by_cases hin : y ∈ os ++ ps ++ qs
      · rw [ordKV_some _ _ _ hin]
        refine ⟨_, rfl, iteF ⟨⟨_, _, rfl⟩, eH.trans eT, fun j z hj hz => ?_⟩⟩
        rcases Nat.lt_succ_iff_lt_or_eq.mp hj with a | a
        · exact hpre j z a hz
        · rw [a, hy] at hz
          cases hz
          exact hin
      · rw [ordKV_none _ _ _ hin]
        refine ⟨_, rfl, iteT ⟨_, rfl, ?_⟩⟩
        exact mk_rd (log2_small (by omega)) fun d' nd' => qx i y hy hin hpre d' _ (((e1.trans eH).trans eT).trans (Ex.new nd')) upd_same
    · rintro σ H' ⟨_, eH, hpre⟩
      refine q (fun x hx => ?_) H' (e1.trans eH)
      obtain ⟨j, hj⟩ := List.mem_iff_getElem?.mp hx
      exact hpre j x (by rw [List.length_map]; exact (List.getElem?_eq_some_iff.mp hj).1) hj
def spOrder : Sp := fun vs H Q _ => ∃ (s : Addr) (os ps qs : List Str), vs = [.ref s] ∧ Sht os ps qs ∧ SheetAt H s os ps qs ∧ ∀ l H', Ex H H' → H l = none → H' l = some (lS (os ++ ps ++ qs)) → Q (.ref l) H'
theorem ok_order {f : Addr} {fd : FuncData} {k : Nat} (F : Fun K "_law_order" "_law_order" sOrder f fd) (ml : mg "list" = none) : FnOk P w K mg base CX0 (k + 1) f fd ["sheet"] spOrder := by
  refine F.ok scOrder (fun vs H Q E h => ?_) (fun cdv A outer s H vs Q E hr h => ?_)
  · obtain ⟨s, os, ps, qs, rfl, _⟩ := h
    rfl
  · obtain ⟨s, os, ps, qs, rfl, hS, ⟨ao, ap, ac, h0, h1, h2, h3⟩, q⟩ := h
    refine ⟨_, pss_one (ps_ret (pe_op op_cat (pe_op op_cat (pe_callTy call_list_of (by rfl) ml (by decide +kernel) (pa_cons (pe_ix ix_tup (pv 0) pe_int (fun _ _ => rfl)) pa_nil)) (pe_callTy call_list_of (by rfl) ml (by decide +kernel) (pa_cons (pe_ix ix_tup (pv 0) pe_int (fun _ _ => rfl)) pa_nil))) (pe_callTy call_list_of (by rfl) ml (by decide +kernel) (pa_cons (pe_ix ix_tup (pv 0) pe_int (fun _ _ => rfl)) pa_nil)))), ?_⟩
    have := hS.o4
    have := hS.p4
    have := hS.c4
    refine ⟨_, rfl, s, _, 0, .ref ao, rfl, rfl, st_of h0, rfl, ao, _, rfl, .inr (st_of h1), fun l1 n1 => ?_⟩
    have e1 : Ex H _ := Ex.new (o := lS os) n1
    refine ⟨_, rfl, s, _, 1, .ref ap, rfl, rfl, st_of (e1 _ _ h0), rfl, ap, _, rfl, .inr (st_of (e1 _ _ h2)), fun l2 n2 => ?_⟩
    have e2 : Ex _ _ := Ex.new (o := lS ps) n2
    refine ⟨l1, l2, _, _, rfl, rfl, e2 _ _ upd_same, upd_same, ?_, fun l3 n3 => ?_⟩
    · rw [List.length_map, List.length_map]
      exact sz_of (by omega)
    have e3 : Ex _ _ := Ex.new (o := .lst (os.map V.str ++ ps.map V.str)) n3
    refine ⟨_, rfl, s, _, 2, .ref ac, rfl, rfl, st_of (e3 _ _ (e2 _ _ (e1 _ _ h0))), rfl, ac, _, rfl, .inr (st_of (e3 _ _ (e2 _ _ (e1 _ _ h3)))), fun l4 n4 => ?_⟩
    have e4 : Ex _ _ := Ex.new (o := lS qs) n4
    refine ⟨l3, l4, _, _, rfl, rfl, e4 _ _ upd_same, upd_same, ?_, fun l5 n5 => ?_⟩
    · rw [List.length_append, List.length_map, List.length_map, List.length_map]
      exact sz_of (by omega)
    have ee := ((e1.trans e2).trans e3).trans e4
    refine q l5 _ (ee.trans (Ex.new n5)) (fresh_back ee n5) ?_
    rw [upd_same, ← List.map_append, ← List.map_append]
end
end Eh
set_option Elab.async false
set_option linter.all false
set_option maxRecDepth 100000
set_option maxHeartbeats 4000000
namespace Eh
open PySem PySem.Spec PyProof.Rows L2 Evl
/-- the first text that is no letter -/
def BadAt (L ws : List Str) (p : Nat) : Prop := ∃ x, ws[p]? = some x ∧ ¬ x ∈ L ∧ ∀ j y, j < p → ws[j]? = some y → y ∈ L
def AllIn (L ws : List Str) : Prop := ∀ x ∈ ws, x ∈ L
def ixs (L ws : List Str) : List Int := ws.map fun x => ((L.idxOf x : Nat) : Int)
def lessOf (L A B : List Str) : Bool := if A.length = B.length then HT.lexLt (ixs L A) (ixs L B) else decide (A.length < B.length)
abbrev nIsLess : List Str := ["sheet", "one", "other", "order", "letter"]
theorem scIsLess : FnScope nIsLess ["sheet", "one", "other"] (defScope sIsLess) := ⟨rfl, rfl, rfl, by decide +kernel, rfl, by decide +kernel, by decide +kernel⟩
section
variable {P : Program} {w : World} {K : PySem.W.Frag} {mg : Str → Option Value} {base : Heap}
def spIsLess (K : PySem.W.Frag) (C0 : Addr) : Sp := fun vs H Q E => ∃ (s a b : Addr) (os ps qs A B : List Str), vs = [.ref s, .ref a, .ref b] ∧ Sht os ps qs ∧ SheetAt H s os ps qs ∧ SqL K H a (A.map V.str) ∧ SqL K H b (B.map V.str) ∧ A.length ≤ 10000 ∧ B.length ≤ 10000 ∧
  (AllIn (os ++ ps ++ qs) A → AllIn (os ++ ps ++ qs) B → ∀ H', Ex H H' → Q (.bl (lessOf (os ++ ps ++ qs) A B)) H') ∧
  (∀ p, (BadAt (os ++ ps ++ qs) A p ∨ (AllIn (os ++ ps ++ qs) A ∧ BadAt (os ++ ps ++ qs) B p)) → ∀ d H', Ex H H' → H' d = some (.xd [("place", .int (p : Int))]) → E (.ref C0) (some d) H')
theorem ixs_rd {K : PySem.W.Frag} {d l : Addr} {L ws : List Str} {H : Hp} {Q : VK} {σ : L2.St} {j : Nat} (hj : σ[j]? = some (some (.ref l))) (h3 : (wipe σ [4])[3]? = some (some (.ref d))) (hw4 : ∀ x : V, wipe ((wipe σ [4]).set 4 (some x)) [4] = wipe σ [4]) (h3' : ∀ x : V, ((wipe σ [4]).set 4 (some x))[3]? = some (some (.ref d))) (h4 : ∀ x : V, ((wipe σ [4]).set 4 (some x))[4]? = some (some x)) (hl : SqL K H l (ws.map V.str)) (hd : H d = some (.dK (ordKV L 0))) (hin : AllIn L ws) (hz : ws.length ≤ 10000)
    (q : ∀ D H', Ex H H' → H D = none → H' D = some (.lst ((ixs L ws).map V.int)) → Q (.ref D) H') : tLc (iList K (tVar j)) (gName 4) tYes (tDGet (tVar 3) (tVar 4)) [4] σ H Q := by
  refine ⟨_, hj, l, rfl, ⟨_, hl⟩, fun D nD => lc_list (xs := ws.map V.str) (fun i H' => Ex H H' ∧ H' D = some (.lst ((ixs L (ws.take i)).map V.int))) ⟨Ex.new nD, upd_same⟩ (fun i H' _ hh => ex_l hh.1 hl) ?_ ?_⟩
  · rintro i x H' hx ⟨eH, hD⟩
    rw [List.getElem?_map] at hx
    obtain ⟨y, hy, rfl⟩ := Option.map_eq_some_iff.mp hx
    have hi := (List.getElem?_eq_some_iff.mp hy).1
    have hg := DGet.k (k := Sum.inr y) (eH _ _ hd)
    rw [ordKV_some L 0 y (hin y (List.mem_of_getElem? hy)), Nat.zero_add] at hg
    refine ⟨hw4 _, yesT ⟨_, h3' _, _, h4 _, d, _, rfl, hg, _, hD, ?_, eH.mut nD, ?_⟩⟩
    · unfold ixs
      rw [List.length_map, List.length_map, List.length_take]
      exact sz_lt (by omega)
    · rw [upd_same, List.take_add_one, hy]
      unfold ixs
      rw [List.map_append, List.map_append]
      rfl
  · rintro H' ⟨eH, hD⟩
    rw [List.length_map, List.take_length] at hD
    exact q D H' eH nD hD
theorem ok_isLess {f fO fN C0 : Addr} {fd fdO fdN : FuncData} {k : Nat} (F : Fun K "is_less" "is_less" sIsLess f fd) (FO : Fun K "order_of" "order_of" sOrderOf fO fdO) (bO : Binds K fdO ["sheet"] []) (gO : mg "order_of" = some (.ref fO)) (FN : Fun K "need_word" "need_word" sNeedWord fN fdN) (GN : FnOk P w K mg base (L2.CX P w) (k + 1) fN fdN ["sheet", "word"] (spNeedWord K C0)) (bN : Binds K fdN ["sheet", "word"] []) (gN : mg "need_word" = some (.ref fN)) (me : mg "enumerate" = none) (ml : mg "len" = none) : FnOk P w K mg base (L2.CX P w) (k + 2) f fd ["sheet", "one", "other"] (spIsLess K C0) := by
  have GO : FnOk P w K mg base CX0 (k + 1) fO fdO ["sheet"] spOrderOf := ok_orderOf FO me
  have nd := scIsLess.nd
  refine F.okX scIsLess (fun vs H Q E h => ?_) (fun cdv A outer s H vs Q E hr h => ?_)
  · obtain ⟨s, a, b, os, ps, qs, A, B, rfl, _⟩ := h
    rfl
  · obtain ⟨s, a, b, os, ps, qs, A, B, rfl, hS, hs, ha, hb, hA, hB, q, qx⟩ := h
    have hu := hu_of hr
    refine ⟨_, pss_cons (ps_expr (pe_call (E := E) GN hr (by rfl) gN FN.kp bN .nil (passes_call (takes_of rfl rfl rfl rfl) fun _ _ _ _ z => z) (pa_cons (pv 0) (pa_cons (pv 1) pa_nil))))
      (pss_cons (ps_expr (pe_call (E := E) GN hr (by rfl) gN FN.kp bN .nil (passes_call (takes_of rfl rfl rfl rfl) fun _ _ _ _ z => z) (pa_cons (pv 0) (pa_cons (pv 2) pa_nil))))
      (PSs.nox (pss_cons (ps_if (pt_cmpR op_ne (pe_callB call_len_seq (by rfl) ml PySem.boot_len (pa_cons (pv 1) pa_nil)) (pe_callB call_len_seq (by rfl) ml PySem.boot_len (pa_cons (pv 2) pa_nil)) (nomark _)) (pss_one (ps_ret (pe_cmpR op_lt (pe_callB call_len_seq (by rfl) ml PySem.boot_len (pa_cons (pv 1) pa_nil)) (pe_callB call_len_seq (by rfl) ml PySem.boot_len (pa_cons (pv 2) pa_nil)) (nomark _)))) pss_nil)
      (pss_cons (ps_set (i := 3) nd rfl (.inr rfl) (pe_call GO hr (by rfl) gO FO.kp bO .nil pass0 (pa_cons (pv 0) pa_nil)))
      (pss_one (ps_ret (pe_cmpR (op_ltL hr.units0) (pe_lc (own := [("letter", 4)]) (g := gName 4) (tt := tYes) (te := tDGet (tVar 3) (tVar 4)) rfl nd (pi_list (pv 1)) (blkOk_by (own := [("letter", 4)]) (N := nIsLess) (sc := defScope sIsLess) (by decide +kernel)) (fun _ _ _ _ _ => pg_name (i := 4) nd rfl (Or.inl rfl)) (fun _ _ _ _ _ => pts_nil) (fun _ _ _ _ _ => pe_dget hu (pv 3) (pv 4) (fun _ _ => rfl)))
        (pe_lc (own := [("letter", 4)]) (g := gName 4) (tt := tYes) (te := tDGet (tVar 3) (tVar 4)) rfl nd (pi_list (pv 2)) (blkOk_by (own := [("letter", 4)]) (N := nIsLess) (sc := defScope sIsLess) (by decide +kernel)) (fun _ _ _ _ _ => pg_name (i := 4) nd rfl (Or.inl rfl)) (fun _ _ _ _ _ => pts_nil) (fun _ _ _ _ _ => pe_dget hu (pv 3) (pv 4) (fun _ _ => rfl))) (nomark _)))))))), ?_⟩
    refine ⟨_, rfl, _, rfl, s, a, os, ps, qs, A, rfl, hS, hs, ha, hA, fun gA H1 e1 => ?_, fun p x hx hn hpre d H' e hd => qx p (.inl ⟨x, hx, hn, hpre⟩) d H' e hd⟩
    refine ⟨_, rfl, _, rfl, s, b, os, ps, qs, B, rfl, hS, hs.ex e1, ex_l e1 hb, hB, fun gB H2 e2 => ?_, fun p x hx hn hpre d H' e hd => qx p (.inr ⟨gA, x, hx, hn, hpre⟩) d H' (e1.trans e) hd⟩
    have e12 := e1.trans e2
    have q' := q gA gB
    refine ⟨_, rfl, a, _, rfl, .inl (ex_l e12 ha), _, rfl, b, _, rfl, .inl (ex_l e12 hb), rfl, _, rfl, ?_⟩
    rw [List.length_map, List.length_map]
    unfold lessOf at q'
    by_cases hl : A.length = B.length
    · rw [if_pos hl] at q'
      rw [hl, decide_eq_true rfl]
      refine iteF ⟨_, rfl, s, os, ps, qs, rfl, hS, hs.ex e12, fun d H3 e3 nd3 hd => ?_⟩
      show tRet (tOp (rLtL K) (tLc (iList K (tVar 1)) (gName 4) tYes (tDGet (tVar 3) (tVar 4)) [4]) (tLc (iList K (tVar 2)) (gName 4) tYes (tDGet (tVar 3) (tVar 4)) [4])) _ [some (.ref s), some (.ref a), some (.ref b), some (.ref d), none] H3
      unfold tRet tOp
      refine ixs_rd (j := 1) (L := os ++ ps ++ qs) (σ := [some (.ref s), some (.ref a), some (.ref b), some (.ref d), none]) rfl rfl (fun _ => rfl) (fun _ => rfl) (fun _ => rfl) (ex_l (e12.trans e3) ha) hd gA hA fun D1 H4 e4 n4 h4 => ?_
      refine ixs_rd (j := 2) (L := os ++ ps ++ qs) (σ := [some (.ref s), some (.ref a), some (.ref b), some (.ref d), none]) rfl rfl (fun _ => rfl) (fun _ => rfl) (fun _ => rfl) (ex_l ((e12.trans e3).trans e4) hb) (e4 _ _ hd) gB hB fun D2 H5 e5 n5 h5 => ?_
      exact ⟨D1, D2, _, _, rfl, rfl, sq_of (e5 _ _ h4), sq_of h5, q' H5 (((e12.trans e3).trans e4).trans e5)⟩
    · rw [if_neg hl] at q'
      have hne : ¬ V.int (A.length : Int) = V.int (B.length : Int) := fun z => hl (by have := V.int.inj z; omega)
      rw [decide_eq_false hne]
      refine iteT ⟨_, rfl, a, _, rfl, .inl (ex_l e12 ha), _, rfl, b, _, rfl, .inl (ex_l e12 hb), _, _, rfl, rfl, ?_⟩
      rw [List.length_map, List.length_map]
      have z := q' H2 e12
      rw [show decide (A.length < B.length) = decide (((A.length : Nat) : Int) < ((B.length : Nat) : Int)) from decide_eq_decide.mpr (by omega)] at z
      exact z
end
end Eh
set_option Elab.async false
set_option linter.all false
set_option maxRecDepth 100000
set_option maxHeartbeats 4000000
namespace Eh
open PySem PySem.Spec PyProof.Rows L2 Evl
theorem lS_add (ws : List Str) (x : Str) : HO.lst (ws.map V.str ++ [.str x]) = lS (ws ++ [x]) := by
  unfold lS
  rw [List.map_append]
  rfl
theorem draw_ordJ {K : PySem.W.Frag} {p c r : Addr} {ns : List Int} {H : Hp} {σ : L2.St} {ys : List Str} {Q : VK} {j jp : Nat} (hP : Pot p c ns H) (h0 : σ[jp]? = some (some (.ref p))) (hj : σ[j]? = some (some (.ref r))) (hy : H r = some (lS ys)) (y0 : ys ≠ []) (y1 : ys.length ≤ 1000)
    (k : ∀ x H', x ∈ ys → Keep p H H' → Pot p c ns H' → Q (.str x) H') : tOp (rIxL K) (tVar j) (tCall spPick [] E0 (tCons (tVar jp) (tCons (tCB (rLenS K) (tCons (tVar j) tNil)) tNil))) σ H Q := by
  have hl : 0 < ys.length := by
    cases ys with
    | nil => exact absurd rfl y0
    | cons _ _ => exact Nat.succ_pos _
  refine ⟨_, hj, _, h0, _, hj, r, _, rfl, .inl (sq_of hy), p, c, ns, _, rfl, ?_, ?_, hP, fun v H' hv kp hP' => ?_⟩
  · rw [List.length_map]
    omega
  · rw [List.length_map]
    omega
  · rw [List.length_map] at hv
    have hv' : v < ys.length := by omega
    refine ⟨r, _, _, .str ys[v], rfl, rfl, sq_of (kp _ _ (lS_ne hP hy) hy), atI_nat ?_, k _ H' (List.getElem_mem hv') kp hP'⟩
    rw [List.getElem?_map, List.getElem?_eq_getElem hv']
    rfl
theorem Sht.n0 {os ps qs : List Str} (hS : Sht os ps qs) : os ++ ps ++ qs ≠ [] := fun z => by
  have h1 := hS.o1
  have := congrArg List.length z
  rw [List.length_append, List.length_append] at this
  simp only [List.length_nil] at this
  omega
theorem Sht.n12 {os ps qs : List Str} (hS : Sht os ps qs) : (os ++ ps ++ qs).length ≤ 12 := by
  rw [List.length_append, List.length_append]
  have := hS.o4
  have := hS.p4
  have := hS.c4
  omega
abbrev nWord : List Str := ["pot", "sheet", "most", "order", "k"]
theorem scWord : FnScope nWord ["pot", "sheet", "most"] (defScope sWord) := ⟨rfl, rfl, rfl, by decide +kernel, rfl, by decide +kernel, by decide +kernel⟩
section
variable {P : Program} {w : World} {K : PySem.W.Frag} {mg : Str → Option Value} {base : Heap}
def spWord : Sp := fun vs H Q _ => ∃ (p c s : Addr) (ns : List Int) (os ps qs : List Str) (m : Nat), vs = [.ref p, .ref s, .int (m : Int)] ∧ m ≤ 1000 ∧ Pot p c ns H ∧ Sht os ps qs ∧ SheetAt H s os ps qs ∧
  ∀ (ws : List Str) l H', AllIn (os ++ ps ++ qs) ws → ws.length ≤ m → Keep p H H' → Pot p c ns H' → H' l = some (lS ws) → Q (.ref l) H'
theorem ok_word {f fP fO : Addr} {fd fdP fdO : FuncData} {k : Nat} (F : Fun K "_law_word" "_law_word" sWord f fd) (FP : Fun K "_law_pick" "_law_pick" sPick fP fdP) (GP : FnOk P w K mg base CX0 (k + 1) fP fdP ["pot", "many"] spPick) (bP : Binds K fdP ["pot", "many"] []) (gP : mg "_law_pick" = some (.ref fP))
    (FO : Fun K "_law_order" "_law_order" sOrder fO fdO) (GO : FnOk P w K mg base CX0 (k + 1) fO fdO ["sheet"] spOrder) (bO : Binds K fdO ["sheet"] []) (gO : mg "_law_order" = some (.ref fO)) (ml : mg "len" = none) (mr : mg "range" = none) :
    FnOk P w K mg base CX0 (k + 2) f fd ["pot", "sheet", "most"] spWord := by
  have nd := scWord.nd
  refine F.ok scWord (fun vs H Q E h => ?_) (fun cdv A outer s H vs Q E hr h => ?_)
  · obtain ⟨p, c, s, ns, os, ps, qs, m, rfl, _⟩ := h
    rfl
  · obtain ⟨p, c, s, ns, os, ps, qs, m, rfl, hm, hP, hS, hs, q⟩ := h
    refine ⟨_, pss_cons (ps_set (i := 3) nd rfl (.inr rfl) (pe_call GO hr (by rfl) gO FO.kp bO .nil pass0 (pa_cons (pv 1) pa_nil)))
      (pss_one (ps_ret (pe_lc (own := [("k", 4)]) (g := gName 4) (tt := tYes) (te := tOp (rIxL K) (tVar 3) (tCall spPick [] E0 (tCons (tVar 0) (tCons (tCB (rLenS K) (tCons (tVar 3) tNil)) tNil)))) rfl nd (pi_range1 (by rfl) mr (pa_cons (pe_call GP hr (by rfl) gP FP.kp bP .nil pass0 (pa_cons (pv 0) (pa_cons (pe_op op_add (pv 2) pe_int) pa_nil))) pa_nil)) (blkOk_by (own := [("k", 4)]) (N := nWord) (sc := defScope sWord) (by decide +kernel)) (fun _ _ _ _ _ => pg_name (i := 4) nd rfl (Or.inl rfl)) (fun _ _ _ _ _ => pts_nil)
        (fun _ _ _ _ _ => pe_ix ix_list (pv 3) (pe_call GP hr (by rfl) gP FP.kp bP .nil pass0 (pa_cons (pv 0) (pa_cons (pe_callB call_len_seq (by rfl) ml PySem.boot_len (pa_cons (pv 3) pa_nil)) pa_nil))) (fun _ _ => rfl))))), ?_⟩
    have y1 := hS.n12
    refine ⟨_, rfl, s, os, ps, qs, rfl, hS, hs, fun r H1 e1 nr hr1 => ?_⟩
    have hP1 := hP.ex e1
    refine ⟨_, rfl, _, rfl, _, _, rfl, rfl, p, c, ns, _, rfl, by omega, by omega, hP1, fun n H2 hn kp2 hP2 => ⟨_, rfl, by omega, by omega, fun D nD => ?_⟩⟩
    have hr2 := kp2 _ _ (lS_ne hP1 hr1) hr1
    have hpD := hP2.ne_new nD
    refine lc_range (lo := 0) (n := ((n : Int)).toNat) (fun i H' => ∃ ds : List Str, ds.length = i ∧ AllIn (os ++ ps ++ qs) ds ∧ H' D = some (lS ds) ∧ Keep p H2 H' ∧ Pot p c ns H') ?_ ?_ ?_
    · exact ⟨[], rfl, fun d hd => (List.not_mem_nil hd).elim, upd_same, (Keep.refl p H2).new nD, hP2.new hpD.1 hpD.2⟩
    · rintro i H' hi ⟨ds, hds, hdm, hD, kp, hP'⟩
      refine ⟨rfl, yesT (draw_ordJ hP' rfl rfl (kp _ _ (lS_ne hP2 hr2) hr2) hS.n0 (by omega) fun x H2' hx kp2' hP2' => ?_)⟩
      refine ⟨_, kp2' _ _ hpD.1.symm hD, ?_, ds ++ [x], ?_, ?_, ?_, (kp.trans kp2').new nD, hP2'.new hpD.1 hpD.2⟩
      · rw [List.length_map]
        exact sz_lt (by omega)
      · rw [List.length_append, hds]
        rfl
      · intro d hd
        rcases List.mem_append.mp hd with a | a
        · exact hdm d a
        · rw [List.mem_singleton.mp a]
          exact hx
      · rw [upd_same, lS_add]
    · rintro H3 ⟨ds, hds, hdm, hD, kp3, hP3⟩
      rw [Int.toNat_natCast] at hds
      exact q ds D H3 hdm (by omega) (((Keep.ofEx e1).trans kp2).trans kp3) hP3 hD
end
end Eh
set_option Elab.async false
set_option linter.all false
set_option maxRecDepth 100000
set_option maxHeartbeats 4000000
namespace Eh
open PySem PySem.Spec PyProof.Rows L2 Evl
abbrev nTwo : List Str := ["pot", "sheet", "one", "order", "way", "other", "at"]
theorem scTwo : FnScope nTwo ["pot", "sheet"] (defScope sTwo) := ⟨rfl, rfl, rfl, by decide +kernel, rfl, by decide +kernel, by decide +kernel⟩
theorem ixN_nat {n j : Nat} (h : j < n) : ixN n (j : Int) = some j := by
  unfold ixN
  rw [if_pos (by omega), if_pos (by omega), Int.toNat_natCast]
theorem allin_set {L ws : List Str} {x : Str} (h : AllIn L ws) (hx : x ∈ L) (j : Nat) : AllIn L (ws.set j x) := fun y hy => by
  rcases List.mem_or_eq_of_mem_set hy with a | a
  · exact h y a
  · rw [a]
    exact hx
theorem map_set_str (ws : List Str) (j : Nat) (x : Str) : (ws.map V.str).set j (.str x) = (ws.set j x).map V.str := by rw [List.map_set]
section
variable {P : Program} {w : World} {K : PySem.W.Frag} {mg : Str → Option Value} {base : Heap}
def spTwo : Sp := fun vs H Q _ => ∃ (p c s : Addr) (ns : List Int) (os ps qs : List Str), vs = [.ref p, .ref s] ∧ Pot p c ns H ∧ Sht os ps qs ∧ SheetAt H s os ps qs ∧
  ∀ (A B : List Str) a b t H', AllIn (os ++ ps ++ qs) A → AllIn (os ++ ps ++ qs) B → A.length ≤ 41 → B.length ≤ 41 → Keep p H H' → Pot p c ns H' → H' a = some (lS A) → H' b = some (lS B) → H' t = some (.tup [.ref a, .ref b]) → Q (.ref t) H'
theorem ok_two {f fP fO fW : Addr} {fd fdP fdO fdW : FuncData} {k : Nat} (F : Fun K "_law_two" "_law_two" sTwo f fd) (FP : Fun K "_law_pick" "_law_pick" sPick fP fdP) (GP : FnOk P w K mg base CX0 (k + 1) fP fdP ["pot", "many"] spPick) (bP : Binds K fdP ["pot", "many"] []) (gP : mg "_law_pick" = some (.ref fP))
    (FO : Fun K "_law_order" "_law_order" sOrder fO fdO) (GO : FnOk P w K mg base CX0 (k + 1) fO fdO ["sheet"] spOrder) (bO : Binds K fdO ["sheet"] []) (gO : mg "_law_order" = some (.ref fO))
    (FW : Fun K "_law_word" "_law_word" sWord fW fdW) (GW : FnOk P w K mg base CX0 (k + 1) fW fdW ["pot", "sheet", "most"] spWord) (bW : Binds K fdW ["pot", "sheet", "most"] []) (gW : mg "_law_word" = some (.ref fW)) (ml : mg "len" = none) (mli : mg "list" = none) :
    FnOk P w K mg base CX0 (k + 2) f fd ["pot", "sheet"] spTwo := by
  have nd := scTwo.nd
  refine F.ok scTwo (fun vs H Q E h => ?_) (fun cdv A outer s H vs Q E hr h => ?_)
  · obtain ⟨p, c, s, ns, os, ps, qs, rfl, _⟩ := h
    rfl
  · obtain ⟨p, c, s, ns, os, ps, qs, rfl, hP, hS, hs, q⟩ := h
    refine ⟨_, pss_cons (ps_set (i := 2) nd rfl (.inl rfl) (pe_call GW hr (by rfl) gW FW.kp bW .nil pass0 (pa_cons (pv 0) (pa_cons (pv 1) (pa_cons pe_int pa_nil)))))
      (pss_cons (ps_set (i := 3) nd rfl (.inl rfl) (pe_call GO hr (by rfl) gO FO.kp bO .nil pass0 (pa_cons (pv 1) pa_nil)))
      (pss_cons (ps_set (i := 4) nd rfl (.inl rfl) (pe_call GP hr (by rfl) gP FP.kp bP .nil pass0 (pa_cons (pv 0) (pa_cons pe_int pa_nil))))
      (pss_cons (ps_if (pt_cmpR op_eq (pv 4) pe_int (nomark _)) (pss_one (ps_ret (pe_tup (pa_cons (pv 2) (pa_cons (pe_call GW hr (by rfl) gW FW.kp bW .nil pass0 (pa_cons (pv 0) (pa_cons (pv 1) (pa_cons pe_int pa_nil)))) pa_nil))))) pss_nil)
      (pss_cons (ps_set (i := 5) nd rfl (.inl rfl) (pe_callTy call_list_of (by rfl) mli (by decide +kernel) (pa_cons (pv 2) pa_nil)))
      (pss_cons (ps_set (i := 6) nd rfl (.inl rfl) (pe_call GP hr (by rfl) gP FP.kp bP .nil pass0 (pa_cons (pv 0) (pa_cons (pe_op op_add (pe_callB call_len_seq (by rfl) ml PySem.boot_len (pa_cons (pv 2) pa_nil)) pe_int) pa_nil))))
      (pss_cut (ps_if (PW.pt (pw_and (pt_cmpR op_lt (pv 4) pe_int (nomark _)) (pw_and1 (pt_cmpR op_lt (pv 6) (pe_callB call_len_seq (by rfl) ml PySem.boot_len (pa_cons (pv 2) pa_nil)) (nomark _)))))
        (pss_cons (ps_asg (pe_ix ix_list (pv 3) (pe_call GP hr (by rfl) gP FP.kp bP .nil pass0 (pa_cons (pv 0) (pa_cons (pe_callB call_len_seq (by rfl) ml PySem.boot_len (pa_cons (pv 3) pa_nil)) pa_nil))) (fun _ _ => rfl)) (pg_sub (pv 5) (pv 6) set_list))
        (pss_cons (ps_set (i := 6) nd rfl (.inl rfl) (pe_op op_add (pv 6) (pe_call GP hr (by rfl) gP FP.kp bP .nil pass0 (pa_cons (pv 0) (pa_cons (pe_op op_sub (pe_callB call_len_seq (by rfl) ml PySem.boot_len (pa_cons (pv 2) pa_nil)) (pv 6)) pa_nil)))))
        (pss_one (ps_asg (pe_ix ix_list (pv 3) (pe_call GP hr (by rfl) gP FP.kp bP .nil pass0 (pa_cons (pv 0) (pa_cons (pe_callB call_len_seq (by rfl) ml PySem.boot_len (pa_cons (pv 3) pa_nil)) pa_nil))) (fun _ _ => rfl)) (pg_sub (pv 5) (pv 6) set_list))))) pss_nil)
      (pss_cons (ps_if (pt_cmpR op_eq (pv 4) pe_int (nomark _)) (pss_one (ps_expr (pe_bm PySem.F.plainAttrs_list PySem.F.slot_list_insert PySem.F.type_list_insert mt_insert (pv 5) (pa_cons (pv 6) (pa_cons (pe_ix ix_list (pv 3) (pe_call GP hr (by rfl) gP FP.kp bP .nil pass0 (pa_cons (pv 0) (pa_cons (pe_callB call_len_seq (by rfl) ml PySem.boot_len (pa_cons (pv 3) pa_nil)) pa_nil))) (fun _ _ => rfl)) pa_nil))))) pss_nil)
      (pss_one (ps_ret (pe_tup (pa_cons (pv 2) (pa_cons (pv 5) pa_nil)))))))))))), ?_⟩
    have y1 := hS.n12
    refine ⟨_, rfl, _, rfl, p, c, s, ns, os, ps, qs, 40, rfl, by decide, hP, hS, hs, fun W a H1 hW hWl kp1 hP1 ha1 => ?_⟩
    have hs1 := hs.keep hP kp1
    refine ⟨_, rfl, s, os, ps, qs, rfl, hS, hs1, fun r H2 e2 nr hr2 => ?_⟩
    have hP2 := hP1.ex e2
    have ha2 := e2 _ _ ha1
    refine ⟨_, rfl, p, c, ns, 4, rfl, by decide, by decide, hP2, fun way H3 hway kp3 hP3 => ?_⟩
    have ha3 := kp3 _ _ (lS_ne hP2 ha2) ha2
    have hr3 := kp3 _ _ (lS_ne hP2 hr2) hr2
    have hs3 := (hs1.ex e2).keep hP2 kp3
    have kp03 : Keep p H H3 := (kp1.trans (Keep.ofEx e2)).trans kp3
    refine ⟨_, rfl, rfl, _, rfl, ite2 (fun h0 => ?_) (fun h0 => ?_)⟩
    · refine ⟨_, rfl, _, rfl, _, rfl, p, c, s, ns, os, ps, qs, 40, rfl, by decide, hP3, hS, hs3, fun B b H4 hB hBl kp4 hP4 hb4 => ?_⟩
      have ha4 := kp4 _ _ (lS_ne hP3 ha3) ha3
      refine ⟨(by show 2 ≤ sizeLine; decide), fun t nt => ?_⟩
      have x5 : Ex H4 _ := Ex.new (o := .tup [.ref a, .ref b]) nt
      exact q W B a b t _ hW hB (by omega) (by omega) ((kp03.trans kp4).trans (Keep.ofEx x5)) (hP4.ex x5) (x5 _ _ ha4) (x5 _ _ hb4) upd_same
    · refine ⟨_, rfl, a, _, rfl, .inl (sq_of ha3), fun o no => ?_⟩
      have x4 : Ex H3 _ := Ex.new (o := lS W) no
      have hP4 := hP3.ex x4
      refine ⟨_, rfl, _, rfl, a, _, rfl, .inl (sq_of (x4 _ _ ha3)), _, _, rfl, rfl, p, c, ns, _, rfl, by rw [List.length_map]; omega, by rw [List.length_map]; omega, hP4, fun at_ H5 hat kp5 hP5 => ?_⟩
      have ha5 := kp5 _ _ (lS_ne hP4 (x4 _ _ ha3)) (x4 _ _ ha3)
      have hr5 := kp5 _ _ (lS_ne hP4 (x4 _ _ hr3)) (x4 _ _ hr3)
      have ho5 := kp5 _ _ (lS_ne hP4 (show (upd H3 o (lS W)) o = some (lS W) from upd_same)) upd_same
      have nao : a ≠ o := ne_of_none ha3 no
      have nro : r ≠ o := ne_of_none hr3 no
      have kp05 : Keep p H H5 := (kp03.trans (Keep.ofEx x4)).trans kp5
      have npo : o ≠ p := (hP3.ne_new no).1.symm
      have nco : c ≠ o := (hP3.ne_new no).2
      have noH : H o = none := Keep.back kp03 npo no
      rw [List.length_map] at hat
      refine ⟨fun σ' H' => ∃ (B : List Str) (at' : Nat), σ' = [some (.ref p), some (.ref s), some (.ref a), some (.ref r), some (.int (way : Int)), some (.ref o), some (.int (at' : Int))] ∧ B.length = W.length ∧ at' ≤ W.length ∧ AllIn (os ++ ps ++ qs) B ∧ Keep p H H' ∧ Pot p c ns H' ∧ H' a = some (lS W) ∧ H' r = some (lS (os ++ ps ++ qs)) ∧ H' o = some (lS B), ?_, ?_⟩
      · have skip : ∃ (B : List Str) (at' : Nat), [some (V.ref p), some (.ref s), some (.ref a), some (.ref r), some (.int (way : Int)), some (.ref o), some (.int (at_ : Int))] = [some (.ref p), some (.ref s), some (.ref a), some (.ref r), some (.int (way : Int)), some (.ref o), some (.int (at' : Int))] ∧ B.length = W.length ∧ at' ≤ W.length ∧ AllIn (os ++ ps ++ qs) B ∧ Keep p H H5 ∧ Pot p c ns H5 ∧ H5 a = some (lS W) ∧ H5 r = some (lS (os ++ ps ++ qs)) ∧ H5 o = some (lS B) :=
          ⟨W, at_, rfl, rfl, by omega, hW, kp05, hP5, ha5, hr5, ho5⟩
        refine ⟨_, rfl, _, _, rfl, rfl, _, rfl, ite2 (fun hw3 => ?_) (fun _ => iteF skip)⟩
        refine ⟨_, rfl, _, rfl, a, _, rfl, .inl (sq_of ha5), _, _, rfl, rfl, _, rfl, ite2 (fun hlt => ?_) (fun _ => skip)⟩
        have hlt' : at_ < W.length := by
          have := of_decide_eq_true hlt
          rw [List.length_map] at this
          omega
        refine draw_ordJ hP5 rfl rfl hr5 hS.n0 (by omega) fun x H6 hx kp6 hP6 => ?_
        have ho6 := kp6 _ _ npo ho5
        refine ⟨_, rfl, _, rfl, o, _, _, at_, rfl, rfl, ho6, ixN_nat (by rw [List.length_map]; exact hlt'), ?_⟩
        rw [map_set_str]
        have up6 : ∀ b u, b ≠ o → H6 b = some u → (upd H6 o (lS (W.set at_ x))) b = some u := fun b u hb h => by rw [upd_ne hb]; exact h
        have ha6 := up6 _ _ nao (kp6 _ _ (lS_ne hP5 ha5) ha5)
        have hr6 := up6 _ _ nro (kp6 _ _ (lS_ne hP5 hr5) hr5)
        have hP7 : Pot p c ns (upd H6 o (lS (W.set at_ x))) := hP6.new npo.symm nco
        refine ⟨_, rfl, _, rfl, _, rfl, a, _, rfl, .inl (sq_of ha6), _, rfl, _, _, rfl, rfl, p, c, ns, _, rfl, by rw [List.length_map]; omega, by rw [List.length_map]; omega, hP7, fun v H8 hv kp8 hP8 => ⟨_, _, rfl, rfl, ?_⟩⟩
        rw [List.length_map] at hv
        have hr8 := kp8 _ _ (lS_ne hP7 hr6) hr6
        have ha8 := kp8 _ _ (lS_ne hP7 ha6) ha6
        have ho8 := kp8 _ _ npo (show (upd H6 o (lS (W.set at_ x))) o = some (lS (W.set at_ x)) from upd_same)
        refine draw_ordJ hP8 rfl rfl hr8 hS.n0 (by omega) fun y H9 hy kp9 hP9 => ?_
        have ho9 := kp9 _ _ npo ho8
        refine ⟨_, rfl, _, rfl, o, _, _, at_ + v, rfl, rfl, ho9, ?_, ?_⟩
        · rw [List.length_map, List.length_set, show (at_ : Int) + (v : Int) = ((at_ + v : Nat) : Int) from rfl]
          exact ixN_nat (by omega)
        · rw [map_set_str]
          refine ⟨(W.set at_ x).set (at_ + v) y, at_ + v, rfl, by rw [List.length_set, List.length_set], by omega, allin_set (allin_set hW hx _) hy _, ?_, hP9.new npo.symm nco, ?_, ?_, upd_same⟩
          · exact ((((kp05.trans kp6).new noH).trans kp8).trans kp9).new noH
          · rw [upd_ne nao]
            exact kp9 _ _ (lS_ne hP8 ha8) ha8
          · rw [upd_ne nro]
            exact kp9 _ _ (lS_ne hP8 hr8) hr8
      · rintro σ' H6 ⟨B, at', rfl, hBl, hat', hB, kp6, hP6, ha6, hr6, ho6⟩
        refine ⟨_, rfl, rfl, _, rfl, ite2 (fun h3 => ?_) (fun h3 => ?_)⟩
        · refine ⟨_, rfl, .inl ⟨rfl, _, sq_of ho6⟩, _, rfl, draw_ordJ hP6 rfl rfl hr6 hS.n0 (by omega) fun x H7 hx kp7 hP7 => ?_⟩
          have ho7 := kp7 _ _ npo ho6
          refine ⟨o, _, _, _, rfl, rfl, ho7, sz_lt (by rw [List.length_map]; omega), by omega, by omega, ?_⟩
          rw [Int.toNat_natCast, ← List.map_take, ← List.map_drop, show (B.take at').map V.str ++ [V.str x] ++ (B.drop at').map V.str = (B.take at' ++ [x] ++ B.drop at').map V.str by rw [List.map_append, List.map_append]; rfl]
          refine ⟨_, rfl, _, rfl, (by show 2 ≤ sizeLine; decide), fun t nt => ?_⟩
          have x8 : Ex _ _ := Ex.new (o := .tup [.ref a, .ref o]) nt
          refine q W (B.take at' ++ [x] ++ B.drop at') a o t _ hW (fun y hy => ?_) (by omega) ?_ ((((kp6.trans kp7).new noH)).trans (Keep.ofEx x8)) ((hP7.new npo.symm nco).ex x8) (x8 _ _ ?_) (x8 _ _ upd_same) upd_same
          · rcases List.mem_append.mp hy with z | z
            · rcases List.mem_append.mp z with z | z
              · exact hB y (List.mem_of_mem_take z)
              · rw [List.mem_singleton.mp z]
                exact hx
            · exact hB y (List.mem_of_mem_drop z)
          · rw [List.length_append, List.length_append, List.length_take, List.length_drop, List.length_singleton]
            omega
          · rw [upd_ne nao]
            exact kp7 _ _ (lS_ne hP6 ha6) ha6
        · refine ⟨_, rfl, _, rfl, (by show 2 ≤ sizeLine; decide), fun t nt => ?_⟩
          have x8 : Ex _ _ := Ex.new (o := .tup [.ref a, .ref o]) nt
          exact q W B a o t _ hW hB (by omega) (by omega) (kp6.trans (Keep.ofEx x8)) (hP6.ex x8) (x8 _ _ ha6) (x8 _ _ ho6) upd_same
end
end Eh
set_option Elab.async false
set_option linter.all false
set_option maxRecDepth 100000
set_option maxHeartbeats 4000000
namespace Eh
open PySem PySem.Spec PyProof.Rows L2 Evl
/-! xs.count(y) of flat things -/
theorem countP_eqU {y : V} : ∀ {ys : List V} {us : List Value}, Vals ys us → ys.all flatV = true → us.countP (eqU y) = ys.countP (fun z => eqV z y)
  | _, _, .nil, _ => rfl
  | _, _, .cons r rs, h => by
    rw [List.all_cons, Bool.and_eq_true] at h
    rw [List.countP_cons, List.countP_cons, countP_eqU rs h.2, eqU_of r h.1]
def rCntV (K : PySem.W.Frag) : V → List V → Hp → VK → Prop := fun x xs H Q => ∃ (a : Addr) (ys : List V) (y : V), x = .ref a ∧ xs = [y] ∧ SqL K H a ys ∧ flatV y = true ∧ ys.all flatV = true ∧ Q (.int (ys.countP (fun z => eqV z y) : Nat)) H
theorem mt_cntV {X : Cx} : MtR X "list.count" (rCntV X.K) := by
  intro pins s σ H x xs v us Q I rx rxs h
  obtain ⟨a, ys, y, rfl, rfl, hs, fy, fys, q⟩ := h
  cases rx
  obtain ⟨uy, rfl, ry⟩ := rxs.one
  obtain ⟨its, rv, ⟨⟨cls, dd, data, sl⟩, n, ho, hc, hdn, hd⟩, hlen⟩ := I.list hs
  simp only at hc hd
  subst hc hd
  refine call_meets PySem.F.slot_list_count ⟨_, ho, rfl⟩ PySem.F.entry_list_count (PySem.F.args_list_count_2 _ _) (SeqAt.list_countAt a its.toArray n dd sl uy (eqU y)) ⟨ho, fun u' hu' => mem_eqAt ry fy rv fys u' (by simpa using hu'), ?_⟩
  refine ⟨.int (ys.countP (fun z => eqV z y) : Nat), H, I.tok _, ⟨s.toks, ?_⟩, q⟩
  rw [← countP_eqU rv fys]
/-! which error it is -/
def kWords : List Str := ["letter", "shut", "long", "choice", "text", "sheet", "way", "many", "step", "name", "row"]
/-- what the written part tells of the i-th error's class; cs: all of them, CH: HallError -/
structure KindC (K : PySem.W.Frag) (CH : Addr) (cs : List Addr) (i : Nat) : Prop where
  lt : i < 11
  ec : ErrC K (cs.getD i 0)
  kit : ∀ j, j < 11 → PySem.W.kitOne K (.ref (cs.getD i 0)) (.ref (cs.getD j 0)) = some (decide (i = j))
  hall : PySem.W.kitOne K (.ref (cs.getD i 0)) (.ref CH) = some true
  val : PySem.W.kitOne K (.ref (cs.getD i 0)) (.type "ValueError") = some true
  noP : PySem.W.findIn K (.ref (cs.getD i 0)) "place" = some none
  noS : PySem.W.findIn K (.ref (cs.getD i 0)) "size" = some none
/-- the names -/
structure KindM (mg : Str → Option Value) (CH : Addr) (cs : List Addr) : Prop where
  isi : mg "isinstance" = none
  ve : mg "ValueError" = none
  gH : mg "HallError" = some (.ref CH)
  g0 : mg "NoLetter" = some (.ref (cs.getD 0 0))
  g1 : mg "NotShut" = some (.ref (cs.getD 1 0))
  g2 : mg "TooLong" = some (.ref (cs.getD 2 0))
  g3 : mg "NoChoice" = some (.ref (cs.getD 3 0))
  g4 : mg "NoText" = some (.ref (cs.getD 4 0))
  g5 : mg "NoSheet" = some (.ref (cs.getD 5 0))
  g6 : mg "NoOneWay" = some (.ref (cs.getD 6 0))
  g7 : mg "TooMany" = some (.ref (cs.getD 7 0))
  g8 : mg "NoStep" = some (.ref (cs.getD 8 0))
  g9 : mg "NoName" = some (.ref (cs.getD 9 0))
  g10 : mg "NoRow" = some (.ref (cs.getD 10 0))
abbrev nKind : List Str := ["caught", "some", "word"]
theorem scKind : FnScope nKind ["caught"] (defScope sKind) := ⟨rfl, rfl, rfl, by decide +kernel, rfl, by decide +kernel, by decide +kernel⟩
theorem isx {K : PySem.W.Frag} {a ci : Addr} {d : Option Addr} {c : V} {cv : Value} {b : Bool} {σ : L2.St} {H : Hp} {Q : VK} (h0 : σ[0]? = some (some (.ref a))) (ha : H a = some (exv a (.ref ci) d)) (hd : DctOk H d) (ec : ErrC K ci) (hc : ∀ u, L2.RelV c u → u = cv) (kit : PySem.W.kitOne K (.ref ci) cv = some b) (q : Q (.bl b) H) :
    tCB (rIsX K) (tCons (tVar 0) (tCons (tC c) tNil)) σ H Q := ⟨_, h0, a, ci, d, c, cv, b, rfl, ha, hd, ec, hc, kit, q⟩
def somes (i : Nat) : List Bool := (List.range 11).map fun j => decide (i = j)
theorem somes_cnt : ∀ i, i < 11 → ((somes i).map V.bl).countP (fun z => eqV z (.bl true)) = 1 := by decide
theorem somes_at : ∀ i, i < 11 → ((somes i).map V.bl)[i]? = some (.bl true) := fun i h => by
  unfold somes
  rw [List.getElem?_map, List.getElem?_map, List.getElem?_range h]
  simp
theorem somes_ne {i m : Nat} {z : V} (hm : m < i) (hi : i < 11) (h : ((somes i).map V.bl)[m]? = some z) : eqV z (.bl true) = false := by
  unfold somes at h
  rw [List.getElem?_map, List.getElem?_map, List.getElem?_range (by omega)] at h
  have e : V.bl (decide (i = m)) = z := Option.some.inj h
  rw [← e, decide_eq_false (by omega)]
  rfl
theorem somes_flat (i : Nat) : ((somes i).map V.bl).all flatV = true := by
  rw [List.all_eq_true]
  intro z hz
  obtain ⟨b, _, rfl⟩ := List.mem_map.mp hz
  rfl
section
variable {P : Program} {w : World} {K : PySem.W.Frag} {mg : Str → Option Value} {base : Heap}
def KFld (H : Hp) (d : Option Addr) (i : Nat) (v : V) : Prop := ((i = 0 ∨ i = 1 ∨ i = 3 ∨ i = 4) ∧ ∃ dd, d = some dd ∧ H dd = some (.xd [("place", v)])) ∨ (i = 2 ∧ ∃ dd, d = some dd ∧ H dd = some (.xd [("size", v)])) ∨ (5 ≤ i ∧ v = .int 0)
def spKind (K : PySem.W.Frag) (CH : Addr) (cs : List Addr) : Sp := fun vs H Q _ => ∃ (a : Addr) (d : Option Addr) (i : Nat) (v : V), vs = [.ref a] ∧ KindC K CH cs i ∧ H a = some (exv a (.ref (cs.getD i 0)) d) ∧ DctOk H d ∧ KFld H d i v ∧
  ∀ p H', Ex H H' → H p = none → H' p = some (.tup [.str (kWords.getD i ""), v]) → Q (.ref p) H'
theorem ok_kind {f CH : Addr} {cs : List Addr} {fd : FuncData} {k : Nat} (F : Fun K "_law_kind" "_law_kind" sKind f fd) (M : KindM mg CH cs) : FnOk P w K mg base CX0 (k + 1) f fd ["caught"] (spKind K CH cs) := by
  have nd := scKind.nd
  refine F.ok scKind (fun vs H Q E h => ?_) (fun cdv A outer s H vs Q E hr h => ?_)
  · obtain ⟨a, d, i, v, rfl, _⟩ := h
    rfl
  · obtain ⟨a, d, i, v, rfl, C, ha, hd, hf, q⟩ := h
    refine ⟨_, pss_cons (ps_set (i := 1) nd rfl (.inl rfl) (pe_lst (pa_cons (pe_callB call_isX (by rfl) M.isi (by decide +kernel) (pa_cons (pv 0) (pa_cons (pe_glob (v := .ref (cs.getD 0 0)) rfl M.g0 rfl) pa_nil))) (pa_cons (pe_callB call_isX (by rfl) M.isi (by decide +kernel) (pa_cons (pv 0) (pa_cons (pe_glob (v := .ref (cs.getD 1 0)) rfl M.g1 rfl) pa_nil))) (pa_cons (pe_callB call_isX (by rfl) M.isi (by decide +kernel) (pa_cons (pv 0) (pa_cons (pe_glob (v := .ref (cs.getD 2 0)) rfl M.g2 rfl) pa_nil))) pa_nil)))))
      (pss_cons (ps_set (i := 1) nd rfl (.inl rfl) (pe_op op_cat (pv 1) (pe_lst (pa_cons (pe_callB call_isX (by rfl) M.isi (by decide +kernel) (pa_cons (pv 0) (pa_cons (pe_glob (v := .ref (cs.getD 3 0)) rfl M.g3 rfl) pa_nil))) (pa_cons (pe_callB call_isX (by rfl) M.isi (by decide +kernel) (pa_cons (pv 0) (pa_cons (pe_glob (v := .ref (cs.getD 4 0)) rfl M.g4 rfl) pa_nil))) (pa_cons (pe_callB call_isX (by rfl) M.isi (by decide +kernel) (pa_cons (pv 0) (pa_cons (pe_glob (v := .ref (cs.getD 5 0)) rfl M.g5 rfl) pa_nil))) pa_nil))))))
      (pss_cons (ps_set (i := 1) nd rfl (.inl rfl) (pe_op op_cat (pv 1) (pe_lst (pa_cons (pe_callB call_isX (by rfl) M.isi (by decide +kernel) (pa_cons (pv 0) (pa_cons (pe_glob (v := .ref (cs.getD 6 0)) rfl M.g6 rfl) pa_nil))) (pa_cons (pe_callB call_isX (by rfl) M.isi (by decide +kernel) (pa_cons (pv 0) (pa_cons (pe_glob (v := .ref (cs.getD 7 0)) rfl M.g7 rfl) pa_nil))) (pa_cons (pe_callB call_isX (by rfl) M.isi (by decide +kernel) (pa_cons (pv 0) (pa_cons (pe_glob (v := .ref (cs.getD 8 0)) rfl M.g8 rfl) pa_nil))) pa_nil))))))
      (pss_cons (ps_set (i := 1) nd rfl (.inl rfl) (pe_op op_cat (pv 1) (pe_lst (pa_cons (pe_callB call_isX (by rfl) M.isi (by decide +kernel) (pa_cons (pv 0) (pa_cons (pe_glob (v := .ref (cs.getD 9 0)) rfl M.g9 rfl) pa_nil))) (pa_cons (pe_callB call_isX (by rfl) M.isi (by decide +kernel) (pa_cons (pv 0) (pa_cons (pe_glob (v := .ref (cs.getD 10 0)) rfl M.g10 rfl) pa_nil))) pa_nil)))))
      (pss_cons (ps_if (PW.pt (pw_or (pt_cmpR op_ne (pe_bm PySem.F.plainAttrs_list PySem.F.slot_list_count PySem.F.type_list_count mt_cntV (pv 1) (pa_cons pe_bl pa_nil)) pe_int (nomark _)) (pw_or (pt_not (pt_val (pe_callB call_isX (by rfl) M.isi (by decide +kernel) (pa_cons (pv 0) (pa_cons (pe_glob (v := .ref CH) rfl M.gH rfl) pa_nil))))) (pw_or1 (pt_not (pt_val (pe_callB call_isX (by rfl) M.isi (by decide +kernel) (pa_cons (pv 0) (pa_cons (pe_bltn (v := .ty "ValueError") (by rfl) M.ve (by decide +kernel) rfl) pa_nil))))))))) (pss_one ps_never) pss_nil)
      (pss_cons (ps_set (i := 2) nd rfl (.inl rfl) (pe_ix ix_list (pe_lst (pa_cons pe_str (pa_cons pe_str (pa_cons pe_str (pa_cons pe_str (pa_cons pe_str (pa_cons pe_str (pa_cons pe_str (pa_cons pe_str (pa_cons pe_str (pa_cons pe_str (pa_cons pe_str pa_nil)))))))))))) (pe_bm PySem.F.plainAttrs_list PySem.F.slot_list_index PySem.F.type_list_index mt_index (pv 1) (pa_cons pe_bl pa_nil)) (fun _ _ => rfl)))
      (pss_cons (ps_if (pt_cmpR op_in_seq (pv 2) (pe_tup (pa_cons pe_str (pa_cons pe_str (pa_cons pe_str (pa_cons pe_str pa_nil))))) (by rfl)) (pss_one (ps_ret (pe_tup (pa_cons (pv 2) (pa_cons (pe_xg (pv 0)) pa_nil))))) pss_nil)
      (pss_one (ps_ret (pe_tup (pa_cons (pv 2) (pa_cons (pe_ifExp (pt_cmpR op_eq (pv 2) pe_str (nomark _)) (pe_xg (pv 0)) pe_int) pa_nil))))))))))), ?_⟩
    have dx : ∀ {H' : Hp}, Ex H H' → DctOk H' d := fun {H'} e => by
      cases d with
      | none => trivial
      | some dd =>
        obtain ⟨fs, z⟩ := hd
        exact ⟨fs, e _ _ z⟩
    have sz : ∀ n : Nat, n ≤ 100 → n ≤ sizeLine := fun n h => Nat.le_trans h (by decide)
    refine isx rfl ha hd C.ec (fun u r => r) (C.kit 0 (by decide)) (isx rfl ha hd C.ec (fun u r => r) (C.kit 1 (by decide)) (isx rfl ha hd C.ec (fun u r => r) (C.kit 2 (by decide)) ⟨sz 3 (by decide), fun l1 n1 => ?_⟩))
    have e1 : Ex H _ := Ex.new (o := .lst [.bl (decide (i = 0)), .bl (decide (i = 1)), .bl (decide (i = 2))]) n1
    have ha1 := e1 _ _ ha
    refine ⟨_, rfl, isx rfl ha1 (dx e1) C.ec (fun u r => r) (C.kit 3 (by decide)) (isx rfl ha1 (dx e1) C.ec (fun u r => r) (C.kit 4 (by decide)) (isx rfl ha1 (dx e1) C.ec (fun u r => r) (C.kit 5 (by decide)) ⟨sz 3 (by decide), fun l2 n2 => ⟨l1, l2, _, _, rfl, rfl, Ex.new n2 _ _ upd_same, upd_same, sz 6 (by decide), fun l3 n3 => ?_⟩⟩))⟩
    have e3 : Ex H _ := (e1.trans (Ex.new n2)).trans (Ex.new (o := .lst ([.bl (decide (i = 0)), .bl (decide (i = 1)), .bl (decide (i = 2))] ++ [.bl (decide (i = 3)), .bl (decide (i = 4)), .bl (decide (i = 5))])) n3)
    have ha3 := e3 _ _ ha
    refine ⟨_, rfl, isx rfl ha3 (dx e3) C.ec (fun u r => r) (C.kit 6 (by decide)) (isx rfl ha3 (dx e3) C.ec (fun u r => r) (C.kit 7 (by decide)) (isx rfl ha3 (dx e3) C.ec (fun u r => r) (C.kit 8 (by decide)) ⟨sz 3 (by decide), fun l4 n4 => ⟨l3, l4, _, _, rfl, rfl, Ex.new n4 _ _ upd_same, upd_same, sz 9 (by decide), fun l5 n5 => ?_⟩⟩))⟩
    have e5 : Ex H _ := (e3.trans (Ex.new n4)).trans (Ex.new (o := .lst ([.bl (decide (i = 0)), .bl (decide (i = 1)), .bl (decide (i = 2))] ++ [.bl (decide (i = 3)), .bl (decide (i = 4)), .bl (decide (i = 5))] ++ [.bl (decide (i = 6)), .bl (decide (i = 7)), .bl (decide (i = 8))])) n5)
    have ha5 := e5 _ _ ha
    refine ⟨_, rfl, isx rfl ha5 (dx e5) C.ec (fun u r => r) (C.kit 9 (by decide)) (isx rfl ha5 (dx e5) C.ec (fun u r => r) (C.kit 10 (by decide)) ⟨sz 2 (by decide), fun l6 n6 => ⟨l5, l6, _, _, rfl, rfl, Ex.new n6 _ _ upd_same, upd_same, sz 11 (by decide), fun l7 n7 => ?_⟩⟩)⟩
    have e7 : Ex H _ := (e5.trans (Ex.new n6)).trans (Ex.new (o := .lst ((somes i).map V.bl)) n7)
    have hL : ∀ {H0 : Hp}, (upd H0 l7 (.lst ((somes i).map V.bl))) l7 = some (.lst ((somes i).map V.bl)) := upd_same
    show tSeq _ _ _ _ (upd _ l7 (.lst ((somes i).map V.bl)))
    have ha7 := e7 _ _ ha
    refine ⟨_, rfl, .inl ⟨rfl, _, sq_of hL⟩, l7, _, .bl true, rfl, rfl, sq_of hL, rfl, somes_flat i, rfl, _, rfl, ?_⟩
    rw [somes_cnt i C.lt, decide_eq_true (show V.int ((1 : Nat) : Int) = V.int 1 from rfl)]
    refine iteF (isx rfl ha7 (dx e7) C.ec (fun u r => r) C.hall ⟨_, rfl, iteF (isx rfl ha7 (dx e7) C.ec (fun u r => r) C.val ⟨_, rfl, iteF ?_⟩)⟩)
    have hw : ∀ j : Nat, kWords.getD j "" = kWords.getD j "" := fun _ => rfl
    refine ⟨sz 11 (by decide), fun l8 n8 => ?_⟩
    have e8 := e7.trans (Ex.new (o := .lst (kWords.map V.str)) n8)
    have hL8 := Ex.new (o := .lst (kWords.map V.str)) n8 _ _ hL
    refine ⟨_, rfl, .inl ⟨rfl, _, sq_of hL8⟩, l7, _, .bl true, i, _, rfl, rfl, sq_of hL8, rfl, somes_flat i, somes_at i C.lt, rfl, fun m z hm hz => somes_ne hm C.lt hz, l8, _, _, .str (kWords.getD i ""), rfl, rfl, sq_of upd_same, ?_, ?_⟩
    · refine atI_nat ?_
      show (kWords.map V.str)[i]? = _
      rw [List.getElem?_map, List.getD_eq_getElem?_getD, List.getElem?_eq_getElem (show i < kWords.length from C.lt)]
      rfl
    refine ⟨_, rfl, sz 4 (by decide), fun t1 m1 => ?_⟩
    have e9 := e8.trans (Ex.new (o := .tup [.str "letter", .str "shut", .str "choice", .str "text"]) m1)
    have ha9 := e9 _ _ ha
    have six : 5 ≤ i → i = 5 ∨ i = 6 ∨ i = 7 ∨ i = 8 ∨ i = 9 ∨ i = 10 := fun h => by
      have := C.lt
      omega
    refine ⟨t1, _, rfl, .inr (st_of upd_same), rfl, rfl, _, rfl, ?_⟩
    refine ite2 (fun hin => ?_) (fun hno => ?_)
    · rcases hf with ⟨_, dd, rfl, hdd⟩ | ⟨rfl, _⟩ | ⟨h5, _⟩
      · exact ⟨_, rfl, _, rfl, a, _, dd, _, v, rfl, C.ec, C.noP, ha9, e9 _ _ hdd, rfl, sz 2 (by decide), fun p np => q p _ (e9.trans (Ex.new np)) (fresh_back e9 np) upd_same⟩
      · exact absurd hin (by decide)
      · rcases six h5 with rfl | rfl | rfl | rfl | rfl | rfl <;> exact absurd hin (by decide)
    · rcases hf with ⟨hi, _⟩ | ⟨rfl, dd, rfl, hdd⟩ | ⟨h5, rfl⟩
      · rcases hi with rfl | rfl | rfl | rfl <;> exact absurd (by decide) hno
      · exact ⟨_, rfl, _, rfl, rfl, _, rfl, iteT ⟨_, rfl, a, _, dd, _, v, rfl, C.ec, C.noS, ha9, e9 _ _ hdd, rfl, sz 2 (by decide), fun p np => q p _ (e9.trans (Ex.new np)) (fresh_back e9 np) upd_same⟩⟩
      · refine ⟨_, rfl, _, rfl, rfl, _, rfl, ite2 (fun z => ?_) (fun _ => ⟨sz 2 (by decide), fun p np => q p _ (e9.trans (Ex.new np)) (fresh_back e9 np) upd_same⟩)⟩
        have z' := V.str.inj (of_decide_eq_true z)
        rcases six h5 with rfl | rfl | rfl | rfl | rfl | rfl <;> exact absurd z' (by decide)
end
end Eh
set_option Elab.async false
set_option linter.all false
set_option maxRecDepth 100000
set_option maxHeartbeats 4000000
namespace Eh
open PySem PySem.Spec PyProof.Rows L2 Evl
theorem idx_inj {L : List Str} {x y : Str} (hx : x ∈ L) (h : L.idxOf x = L.idxOf y) : x = y := by
  have h1 : L.idxOf x < L.length := List.idxOf_lt_length_of_mem hx
  have e1 : L[L.idxOf x]? = some x := by
    rw [List.getElem?_eq_getElem h1, List.getElem_idxOf h1]
  have h2 : L.idxOf y < L.length := by rw [← h]; exact h1
  have e2 : L[L.idxOf y]? = some y := by
    rw [List.getElem?_eq_getElem h2, List.getElem_idxOf h2]
  rw [h, e2] at e1
  exact (Option.some.inj e1).symm
theorem lex_refl : ∀ xs : List Int, HT.lexLt xs xs = false
  | [] => rfl
  | x :: r => by
    rw [HT.lexLt_cons, if_pos rfl]
    exact lex_refl r
theorem lex_at {L : List Str} : ∀ (A B : List Str) (k : Nat) (x y : Str), (∀ j, j < k → A[j]? = B[j]?) → A[k]? = some x → B[k]? = some y → x ∈ L → x ≠ y → HT.lexLt (ixs L A) (ixs L B) = decide (((L.idxOf x : Nat) : Int) < ((L.idxOf y : Nat) : Int))
  | [], _, k, x, y, _, hx, _, _, _ => by simp at hx
  | _ :: _, [], k, x, y, _, _, hy, _, _ => by simp at hy
  | a :: A, b :: B, 0, x, y, _, hx, hy, hL, hne => by
    cases hx
    cases hy
    show HT.lexLt (((L.idxOf a : Nat) : Int) :: ixs L A) (((L.idxOf b : Nat) : Int) :: ixs L B) = _
    have hz : ¬ (((L.idxOf a : Nat) : Int) = ((L.idxOf b : Nat) : Int)) := fun z => hne (idx_inj hL (by omega))
    rw [HT.lexLt_cons, if_neg hz]
  | a :: A, b :: B, k + 1, x, y, hj, hx, hy, hL, hne => by
    have e0 : a = b := Option.some.inj (hj 0 (by omega))
    subst e0
    show HT.lexLt (_ :: ixs L A) (_ :: ixs L B) = _
    rw [HT.lexLt_cons, if_pos rfl]
    exact lex_at A B k x y (fun j h => hj (j + 1) (by omega)) hx hy hL hne
theorem flat_str (ws : List Str) : (ws.map V.str).all flatV = true := by
  rw [List.all_eq_true]
  intro z hz
  obtain ⟨b, _, rfl⟩ := List.mem_map.mp hz
  rfl
theorem ix_get {L : List Str} {x : Str} (hx : x ∈ L) : (L.map V.str)[L.idxOf x]? = some (.str x) := by
  have h1 : L.idxOf x < L.length := List.idxOf_lt_length_of_mem hx
  rw [List.getElem?_map, List.getElem?_eq_getElem h1, List.getElem_idxOf h1]
  rfl
theorem ix_same (x : Str) : eqV (.str x) (.str x) = true := beq_self_eq_true x
theorem ix_first {L : List Str} {x : Str} (m : Nat) (z : V) (hm : m < L.idxOf x) (hz : (L.map V.str)[m]? = some z) : eqV z (.str x) = false := by
  rw [List.getElem?_map] at hz
  obtain ⟨y, hy, rfl⟩ := Option.map_eq_some_iff.mp hz
  show (y == x) = false
  have h := List.not_of_lt_findIdx (p := (· == x)) (xs := L) hm
  have e2 := (List.getElem?_eq_some_iff.mp hy).2
  rw [e2] at h
  exact h
abbrev nLess : List Str := ["sheet", "one", "other", "order", "k"]
theorem scLess : FnScope nLess ["sheet", "one", "other"] (defScope sLess) := ⟨rfl, rfl, rfl, by decide +kernel, rfl, by decide +kernel, by decide +kernel⟩
theorem str_at {W : List Str} {p : Nat} {x : Str} (h : W[p]? = some x) : atI (W.map V.str) (p : Int) = some (.str x) := by
  refine atI_nat ?_
  rw [List.getElem?_map, h]
  rfl
section
variable {P : Program} {w : World} {K : PySem.W.Frag} {mg : Str → Option Value} {base : Heap}
def spLess (K : PySem.W.Frag) : Sp := fun vs H Q _ => ∃ (s a b : Addr) (os ps qs A B : List Str), vs = [.ref s, .ref a, .ref b] ∧ Sht os ps qs ∧ SheetAt H s os ps qs ∧ SqL K H a (A.map V.str) ∧ SqL K H b (B.map V.str) ∧ A.length ≤ 10000 ∧ B.length ≤ 10000 ∧
  AllIn (os ++ ps ++ qs) A ∧ AllIn (os ++ ps ++ qs) B ∧ ∀ H', Ex H H' → Q (.bl (lessOf (os ++ ps ++ qs) A B)) H'
theorem ok_less {f fO : Addr} {fd fdO : FuncData} {k : Nat} (F : Fun K "_law_less" "_law_less" sLess f fd) (FO : Fun K "_law_order" "_law_order" sOrder fO fdO) (GO : FnOk P w K mg base CX0 (k + 1) fO fdO ["sheet"] spOrder) (bO : Binds K fdO ["sheet"] []) (gO : mg "_law_order" = some (.ref fO)) (ml : mg "len" = none) (mr : mg "range" = none) : FnOk P w K mg base CX0 (k + 2) f fd ["sheet", "one", "other"] (spLess K) := by
  have nd := scLess.nd
  refine F.ok scLess (fun vs H Q E h => ?_) (fun cdv A outer s H vs Q E hr h => ?_)
  · obtain ⟨s, a, b, os, ps, qs, A, B, rfl, _⟩ := h
    rfl
  · obtain ⟨s, a, b, os, ps, qs, A, B, rfl, hS, hs, ha, hb, hA, hB, iA, iB, q⟩ := h
    refine ⟨_, pss_cons (ps_if (pt_cmpR op_ne (pe_callB call_len_seq (by rfl) ml PySem.boot_len (pa_cons (pv 1) pa_nil)) (pe_callB call_len_seq (by rfl) ml PySem.boot_len (pa_cons (pv 2) pa_nil)) (nomark _)) (pss_one (ps_ret (pe_cmpR op_lt (pe_callB call_len_seq (by rfl) ml PySem.boot_len (pa_cons (pv 1) pa_nil)) (pe_callB call_len_seq (by rfl) ml PySem.boot_len (pa_cons (pv 2) pa_nil)) (nomark _)))) pss_nil)
      (pss_cons (ps_set (i := 3) nd rfl (.inl rfl) (pe_call GO hr (by rfl) gO FO.kp bO .nil pass0 (pa_cons (pv 0) pa_nil)))
      (pss_cons (ps_for PassesOwn.never rfl (pi_range1 (by rfl) mr (pa_cons (pe_callB call_len_seq (by rfl) ml PySem.boot_len (pa_cons (pv 1) pa_nil)) pa_nil)) (pg_name (i := 4) nd rfl (.inl rfl))
        (pss_one (ps_if (pt_cmpR op_ne (pe_ix ix_list (pv 1) (pv 4) (fun _ _ => rfl)) (pe_ix ix_list (pv 2) (pv 4) (fun _ _ => rfl)) (nomark _)) (pss_one (ps_ret (pe_cmpR op_lt (pe_bm PySem.F.plainAttrs_list PySem.F.slot_list_index PySem.F.type_list_index mt_index (pv 3) (pa_cons (pe_ix ix_list (pv 1) (pv 4) (fun _ _ => rfl)) pa_nil)) (pe_bm PySem.F.plainAttrs_list PySem.F.slot_list_index PySem.F.type_list_index mt_index (pv 3) (pa_cons (pe_ix ix_list (pv 2) (pv 4) (fun _ _ => rfl)) pa_nil)) (nomark _)))) pss_nil)))
      (pss_one (ps_ret pe_bl)))), ?_⟩
    refine ⟨_, rfl, a, _, rfl, .inl ha, _, rfl, b, _, rfl, .inl hb, rfl, _, rfl, ?_⟩
    rw [List.length_map, List.length_map]
    unfold lessOf at q
    by_cases hl : A.length = B.length
    · rw [if_pos hl] at q
      rw [decide_eq_true (show V.int (A.length : Int) = V.int (B.length : Int) by rw [hl])]
      refine iteF ⟨_, rfl, s, os, ps, qs, rfl, hS, hs, fun r H1 e1 nr hr1 => ?_⟩
      refine ⟨_, rfl, a, _, rfl, .inl (ex_l e1 ha), _, rfl, by omega, by rw [List.length_map]; omega, ?_⟩
      rw [List.length_map, Int.toNat_natCast]
      refine for_range (lo := 0) (n := A.length) (fun i σ H' => (∃ y4, σ = [some (.ref s), some (.ref a), some (.ref b), some (.ref r), y4]) ∧ H' = H1 ∧ ∀ j, j < i → A[j]? = B[j]?) ⟨⟨_, rfl⟩, rfl, fun j hj => absurd hj (Nat.not_lt_zero j)⟩ ?_ ?_
      · rintro i σ H' hi ⟨⟨y4, rfl⟩, rfl, hpre⟩
        have e0 : (0 : Int) + (i : Int) = (i : Int) := Int.zero_add _
        rw [e0]
        have gA : A[i]? = some A[i] := List.getElem?_eq_getElem hi
        have gB : B[i]? = some B[i] := List.getElem?_eq_getElem (by omega)
        refine ⟨_, rfl, _, rfl, a, _, _, _, rfl, rfl, ex_l e1 ha, str_at gA, _, rfl, _, rfl, b, _, _, _, rfl, rfl, ex_l e1 hb, str_at gB, rfl, _, rfl, ?_⟩
        by_cases hab : A[i] = B[i]
        · rw [decide_eq_true (by rw [hab])]
          refine iteF ⟨⟨_, rfl⟩, rfl, fun j hj => ?_⟩
          rcases Nat.lt_succ_iff_lt_or_eq.mp hj with z | z
          · exact hpre j z
          · subst z
            rw [gA, gB, hab]
        · rw [decide_eq_false (fun z => hab (V.str.inj z))]
          refine iteT ⟨_, rfl, .inl ⟨rfl, _, sq_of hr1⟩, _, rfl, _, rfl, a, _, _, _, rfl, rfl, ex_l e1 ha, str_at gA, r, _, .str A[i], (os ++ ps ++ qs).idxOf A[i], .str A[i], rfl, rfl, sq_of hr1, rfl, flat_str _, ix_get (iA _ (List.mem_of_getElem? gA)), ix_same _, fun m z hm hz => ix_first m z hm hz, ?_⟩
          refine ⟨_, rfl, .inl ⟨rfl, _, sq_of hr1⟩, _, rfl, _, rfl, b, _, _, _, rfl, rfl, ex_l e1 hb, str_at gB, r, _, .str B[i], (os ++ ps ++ qs).idxOf B[i], .str B[i], rfl, rfl, sq_of hr1, rfl, flat_str _, ix_get (iB _ (List.mem_of_getElem? gB)), ix_same _, fun m z hm hz => ix_first m z hm hz, _, _, rfl, rfl, ?_⟩
          have z := q H' e1
          rw [lex_at A B i A[i] B[i] hpre gA gB (iA _ (List.mem_of_getElem? gA)) hab] at z
          exact z
      · rintro σ H' ⟨_, rfl, hall⟩
        have hAB : A = B := by
          apply List.ext_getElem? 
          intro j
          by_cases hj : j < A.length
          · exact hall j hj
          · rw [List.getElem?_eq_none (by omega), List.getElem?_eq_none (by omega)]
        have z := q H' e1
        rw [hAB, lex_refl] at z
        exact z
    · rw [if_neg hl] at q
      have hne : ¬ V.int (A.length : Int) = V.int (B.length : Int) := fun z => hl (by have := V.int.inj z; omega)
      rw [decide_eq_false hne]
      refine iteT ⟨_, rfl, a, _, rfl, .inl ha, _, rfl, b, _, rfl, .inl hb, _, _, rfl, rfl, ?_⟩
      rw [List.length_map, List.length_map]
      have z := q H (Ex.refl _)
      rw [show decide (A.length < B.length) = decide (((A.length : Nat) : Int) < ((B.length : Nat) : Int)) from decide_eq_decide.mpr (by omega)] at z
      exact z
end
end Eh
set_option Elab.async false
set_option linter.all false
set_option maxRecDepth 100000
set_option maxHeartbeats 4000000
namespace Eh
open PySem PySem.Spec PyProof.Rows L2 Evl
abbrev nTold : List Str := ["sheet", "one", "other", "found", "caught", "e"]
theorem scTold : FnScope nTold ["sheet", "one", "other"] (defScope sTold) := ⟨rfl, rfl, rfl, by decide +kernel, rfl, by decide +kernel, by decide +kernel⟩
section
variable {P : Program} {w : World} {K : PySem.W.Frag} {mg : Str → Option Value} {base : Heap}
def spTold (K : PySem.W.Frag) : Sp := fun vs H Q _ => ∃ (s a b : Addr) (os ps qs A B : List Str), vs = [.ref s, .ref a, .ref b] ∧ Sht os ps qs ∧ SheetAt H s os ps qs ∧ SqL K H a (A.map V.str) ∧ SqL K H b (B.map V.str) ∧ A.length ≤ 10000 ∧ B.length ≤ 10000 ∧
  (AllIn (os ++ ps ++ qs) A → AllIn (os ++ ps ++ qs) B → ∀ H', Ex H H' → Q (.bl (lessOf (os ++ ps ++ qs) A B)) H') ∧
  (∀ p, (BadAt (os ++ ps ++ qs) A p ∨ (AllIn (os ++ ps ++ qs) A ∧ BadAt (os ++ ps ++ qs) B p)) → ∀ t H', Ex H H' → H' t = some (.tup [.str "letter", .int (p : Int)]) → Q (.ref t) H')
theorem ok_told {f fB fK CH : Addr} {cs : List Addr} {fd fdB fdK : FuncData} {k : Nat} (F : Fun K "_law_told" "_law_told" sTold f fd) (FB : Fun K "is_less" "is_less" sIsLess fB fdB) (GB : FnOk P w K mg base (L2.CX P w) (k + 1) fB fdB ["sheet", "one", "other"] (spIsLess K (cs.getD 0 0))) (bB : Binds K fdB ["sheet", "one", "other"] []) (gB : mg "is_less" = some (.ref fB))
    (FK : Fun K "_law_kind" "_law_kind" sKind fK fdK) (bK : Binds K fdK ["caught"] []) (gK : mg "_law_kind" = some (.ref fK)) (M : KindM mg CH cs) (C1 : KindC K CH cs 0) (hx : PySem.W.exmOne K (.ref (cs.getD 0 0)) (.ref CH) = some true) : FnOk P w K mg base CX0 (k + 2) f fd ["sheet", "one", "other"] (spTold K) := by
  have nd := scTold.nd
  have GK : FnOk P w K mg base CX0 (k + 1) fK fdK ["caught"] (spKind K CH cs) := ok_kind FK M
  refine F.ok scTold (fun vs H Q E h => ?_) (fun cdv A outer s H vs Q E hr h => ?_)
  · obtain ⟨s, a, b, os, ps, qs, A, B, rfl, _⟩ := h
    rfl
  · obtain ⟨s, a, b, os, ps, qs, A, B, rfl, hS, hs, ha, hb, hA, hB, q1, q2⟩ := h
    refine ⟨_, pss_cons (ps_set (i := 3) nd rfl (.inl rfl) pe_non) (pss_cons (ps_set (i := 4) nd rfl (.inl rfl) pe_non)
      (pss_cons (ps_try_keep (i := 5) rfl rfl rfl nd rfl rfl ⟨rfl, by decide, .inl M.gH⟩ (fun W pn xe tk _ => pss_one (ps_set (i := 3) nd rfl (.inl rfl) (pe_callS GB hr (by rfl) gB FB.kp bB (fun σ => passAt tk σ) (pa_cons (pv 0) (pa_cons (pv 1) (pa_cons (pv 2) pa_nil)))))) (fun a oe cls d pn hz hf => pss_one (ps_set (i := 4) nd rfl (.inl rfl) (pv 5))))
      (pss_cons (ps_if (pt_cmpR op_isN (pv 4) pe_non (nomark _)) (pss_one (ps_ret (pv 3))) pss_nil)
      (pss_one (ps_ret (pe_call GK hr (by rfl) gK FK.kp bK .nil pass0 (pa_cons (pv 4) pa_nil))))))), ?_⟩
    refine ⟨_, rfl, _, rfl, _, rfl, s, a, b, os, ps, qs, A, B, rfl, hS, hs, ha, hb, hA, hB, fun gA gB H' eH => ?_, fun p hp d H' eH hd => ?_⟩
    · exact ⟨_, rfl, rfl, _, rfl, iteT ⟨_, rfl, q1 gA gB H' eH⟩⟩
    · refine ⟨hx, fun x nx => ⟨_, rfl, _, rfl, rfl, _, rfl, iteF ⟨_, rfl, x, some d, 0, .int (p : Int), rfl, C1, upd_same, ?_, ?_, fun t H2 e2 nt ht => q2 p hp t H2 ((eH.trans (Ex.new nx)).trans e2) ht⟩⟩⟩
      · exact ⟨_, Ex.new nx _ _ hd⟩
      · exact .inl ⟨.inl rfl, d, rfl, Ex.new nx _ _ hd⟩
end
end Eh
set_option Elab.async false
set_option linter.all false
set_option maxRecDepth 100000
set_option maxHeartbeats 4000000
namespace Eh
open PySem PySem.Spec PyProof.Rows L2 Evl
abbrev nStrange : List Str := ["sheet", "order", "some", "k", "one"]
theorem scStrange : FnScope nStrange ["sheet"] (defScope sStrange) := ⟨rfl, rfl, rfl, by decide +kernel, rfl, by decide +kernel, by decide +kernel⟩
abbrev rRepS : R2 := fun x y H Q => ∃ (z : Str) (n : Nat), x = .str z ∧ y = .int (n : Int) ∧ z.length ≤ 1000 ∧ n ≤ 1000 ∧ Q (.str (repS z n)) H
abbrev rLenT : List V → Hp → VK → Prop := fun xs H Q => ∃ x, xs = [.str x] ∧ x.length ≤ sizeLine ∧ Q (.int (x.length : Nat)) H
abbrev rLtI : R2 := rI0 fun i j => .bl (decide (i < j))
theorem rv_repS {z : Str} {n : Nat} {H : Hp} (hz : z.length ≤ 1000) (hn : n ≤ 1000) : RV rRepS (.str z) (.int (n : Int)) H (.str (repS z n)) := fun H1 _ _ q => ⟨z, n, rfl, rfl, hz, hn, q H1 (Ex.refl H1)⟩
/-- more things than places -/
theorem pigeon : ∀ (xs L : List Str), xs.Nodup → (∀ x ∈ xs, x ∈ L) → xs.length ≤ L.length
  | [], L, _, _ => Nat.zero_le _
  | x :: r, L, hn, h => by
    obtain ⟨h1, h2⟩ := List.nodup_cons.mp hn
    have hx := h x (List.mem_cons_self ..)
    have ih := pigeon r (L.erase x) h2 fun y hy => by
      have hne : y ≠ x := fun e => h1 (e ▸ hy)
      exact (List.mem_erase_of_ne hne).mpr (h y (List.mem_cons_of_mem _ hy))
    rw [List.length_erase_of_mem hx] at ih
    have := List.length_pos_of_mem hx
    rw [List.length_cons]
    omega
def qv : List Str := (List.range 8).map (fun k => repS "q" (k + 1)) ++ (List.range 8).map (fun k => repS "v" (k + 1))
theorem qv_nodup : qv.Nodup := by decide +kernel
theorem qv_len : ∀ x ∈ qv, 0 < x.length ∧ x.length < 9 := by decide +kernel
theorem qv_out {L : List Str} (h : L.length ≤ 12) : ∃ x ∈ qv, ¬ x ∈ L := by
  apply Classical.byContradiction
  intro hn
  have := pigeon qv L qv_nodup fun x hx => Classical.byContradiction fun z => hn ⟨x, hx, z⟩
  have e : qv.length = 16 := by decide +kernel
  omega
def okOdd (L : List Str) (z : Str) : Bool := !decide (z ∈ L) && (decide (0 < z.length) && decide (z.length < 9))
theorem inV_s (x : Str) (L : List Str) : inV (.str x) (L.map V.str) = decide (x ∈ L) := by
  unfold inV
  rw [List.any_map, Bool.eq_iff_iff, List.any_eq_true, decide_eq_true_iff]
  constructor
  · rintro ⟨y, hy, h⟩
    have : (y == x) = true := h
    rw [← beq_iff_eq.mp this]
    exact hy
  · intro h
    exact ⟨x, h, beq_self_eq_true x⟩
theorem odd_rd {K : PySem.W.Frag} {L : List Str} {r : Addr} {z : Str} {H : Hp} {σ : L2.St} (hr : SqL K H r (L.map V.str)) (h1 : σ[1]? = some (some (.ref r))) (h4 : σ[4]? = some (some (.str z))) (hz : z.length ≤ 100) : EvT (tAnd (tTest (tOp (rIn K true) (tVar 4) (tVar 1))) (tTest (tChain rLtI rLtI (tC (.int 0)) (tCB rLenT (tCons (tVar 4) tNil)) (tC (.int 9))))) σ H (okOdd L z) := by
  refine et_and (et_is (et_test (ev_op (ev_var h4) (ev_var h1) (rv_niL hr rfl (flat_str L)))) (by rw [inV_s])) fun _ => ?_
  refine et_test fun H1 e1 Q q => ?_
  have hs : z.length ≤ sizeLine := Nat.le_trans hz (by decide)
  refine ⟨_, h4, z, rfl, hs, _, _, rfl, rfl, _, rfl, ?_⟩
  by_cases h0 : 0 < z.length
  · rw [decide_eq_true (show (0 : Int) < ((z.length : Nat) : Int) by omega)]
    have e9 : decide (((z.length : Nat) : Int) < 9) = decide (z.length < 9) := decide_eq_decide.mpr (by omega)
    refine ⟨_, _, rfl, rfl, ?_⟩
    have := q H1 (Ex.refl _)
    rw [decide_eq_true h0, Bool.true_and, ← e9] at this
    exact this
  · rw [decide_eq_false (show ¬ (0 : Int) < ((z.length : Nat) : Int) by omega)]
    have := q H1 (Ex.refl _)
    rw [decide_eq_false h0, Bool.false_and] at this
    exact this
section
variable {P : Program} {w : World} {K : PySem.W.Frag} {mg : Str → Option Value} {base : Heap}
theorem cut_len (z : Str) (lo hi : Option Int) : (cutS z lo hi).length ≤ z.length := by
  show ((z.cps.toList.drop (HT.sIx z.length 0 lo)).take (HT.sIx z.length z.length hi - HT.sIx z.length 0 lo)).toArray.size ≤ z.cps.size
  simp only [List.size_toArray, List.length_take, List.length_drop, Array.length_toList]
  omega
theorem given_all (n : Nat) (g : Nat → Str) : given n (fun _ => true) (fun k => .str (g k)) = ((List.range n).map g).map V.str := by
  unfold given
  rw [List.filter_eq_self.mpr (fun _ _ => rfl), List.map_map]
  rfl
theorem given_mapS (xs : List Str) (f : Str → Bool) : given xs.length (fun i => f (xs.getD i "")) (fun i => .str (xs.getD i "")) = (xs.filter f).map V.str := by
  have e : (List.range xs.length).map (fun i => xs.getD i "") = xs := by
    apply List.ext_getElem
    · rw [List.length_map, List.length_range]
    · intro i h1 h2
      rw [List.getElem_map, List.getElem_range, List.getD_eq_getElem?_getD, List.getElem?_eq_getElem h2]
      rfl
  unfold given
  conv => rhs; rw [← e]
  rw [List.filter_map, List.map_map]
  rfl
theorem Ltr.len8 {x : Str} (h : Ltr x) : x.length ≤ 8 := by
  rw [len_cs]
  exact h.2.2
def spStrange : Sp := fun vs H Q _ => ∃ (s : Addr) (os ps qs : List Str), vs = [.ref s] ∧ Sht os ps qs ∧ SheetAt H s os ps qs ∧ ∀ (z : Str) H', ¬ z ∈ os ++ ps ++ qs → Ex H H' → Q (.str z) H'
theorem ok_strange {f fO : Addr} {fd fdO : FuncData} {k : Nat} (F : Fun K "_law_strange" "_law_strange" sStrange f fd) (FO : Fun K "_law_order" "_law_order" sOrder fO fdO) (GO : FnOk P w K mg base CX0 (k + 1) fO fdO ["sheet"] spOrder) (bO : Binds K fdO ["sheet"] []) (gO : mg "_law_order" = some (.ref fO)) (ml : mg "len" = none) (mr : mg "range" = none) : FnOk P w K mg base CX0 (k + 2) f fd ["sheet"] spStrange := by
  have nd := scStrange.nd
  refine F.ok scStrange (fun vs H Q E h => ?_) (fun cdv A outer s H vs Q E hr h => ?_)
  · obtain ⟨s, os, ps, qs, rfl, _⟩ := h
    rfl
  · obtain ⟨s, os, ps, qs, rfl, hS, hs, q⟩ := h
    refine ⟨_, pss_cons (ps_set (i := 1) nd rfl (.inr rfl) (pe_call GO hr (by rfl) gO FO.kp bO .nil pass0 (pa_cons (pv 0) pa_nil)))
      (pss_cons (ps_set (i := 2) nd rfl (.inl rfl) (pe_op op_cat (pe_lst (pa_cons (pe_slice sl_str (pe_ix ix_list (pv 1) (pe_un un_neg pe_int) (fun _ _ => rfl)) (po_some pe_int) po_none) (pa_cons (pe_op op_add_str (pe_ix ix_list (pv 1) pe_int (fun _ _ => rfl)) pe_str) (pa_cons (pe_slice sl_str (pe_ix ix_list (pv 1) pe_int (fun _ _ => rfl)) po_none (po_some (pe_un un_neg pe_int))) pa_nil))))
        (pe_lc (own := [("k", 3)]) (g := gName 3) (tt := tYes) (te := tOp rRepS (tC (.str "q")) (tOp (rI0 fun i j => .int (i + j)) (tVar 3) (tC (.int 1)))) rfl nd (pi_range1 (by rfl) mr (pa_cons pe_int pa_nil)) (blkOk_by (own := [("k", 3)]) (N := nStrange) (sc := defScope sStrange) (by decide +kernel)) (fun _ _ _ _ _ => pg_name (i := 3) nd rfl (Or.inl rfl)) (fun _ _ _ _ _ => pts_nil) (fun _ _ _ _ _ => pe_op op_repS pe_str (pe_op op_add (pv 3) pe_int)))))
      (pss_cons (ps_set (i := 2) nd rfl (.inl rfl) (pe_op op_cat (pv 2)
        (pe_lc (own := [("k", 3)]) (g := gName 3) (tt := tYes) (te := tOp rRepS (tC (.str "v")) (tOp (rI0 fun i j => .int (i + j)) (tVar 3) (tC (.int 1)))) rfl nd (pi_range1 (by rfl) mr (pa_cons pe_int pa_nil)) (blkOk_by (own := [("k", 3)]) (N := nStrange) (sc := defScope sStrange) (by decide +kernel)) (fun _ _ _ _ _ => pg_name (i := 3) nd rfl (Or.inl rfl)) (fun _ _ _ _ _ => pts_nil) (fun _ _ _ _ _ => pe_op op_repS pe_str (pe_op op_add (pv 3) pe_int)))))
      (pss_one (ps_ret (pe_ix ix_list (pe_lc (own := [("one", 4)]) (g := gName 4) (tt := tAnd (tTest (tOp (rIn K true) (tVar 4) (tVar 1))) (tTest (tChain rLtI rLtI (tC (.int 0)) (tCB rLenT (tCons (tVar 4) tNil)) (tC (.int 9))))) (te := tVar 4) rfl nd (pi_list (pv 2)) (blkOk_by (own := [("one", 4)]) (N := nStrange) (sc := defScope sStrange) (by decide +kernel)) (fun _ _ _ _ _ => pg_name (i := 4) nd rfl (Or.inl rfl)) (fun _ _ _ _ _ => pts_one (PW.pt (pw_and (pt_cmpR op_notIn_seq (pv 4) (pv 1) (by rfl)) (pw_and1 (pt_chain op_lt op_lt pe_int (pe_callB call_len_str (by rfl) ml PySem.boot_len (pa_cons (pv 4) pa_nil)) pe_int))))) (fun _ _ _ _ _ => pv 4)) pe_int (fun _ _ => rfl)))))), ?_⟩
    have y1 := hS.n12
    have n0 := hS.n0
    have lt8 := hS.lt
    generalize hL : os ++ ps ++ qs = L at y1 n0 lt8 q ⊢
    refine ⟨_, rfl, s, os, ps, qs, rfl, hS, hs, fun r H1 e1 nr hr1 => ?_⟩
    rw [hL] at hr1
    obtain ⟨x0, L0, hx0⟩ : ∃ x0 L0, L = x0 :: L0 := by
      cases L with
      | nil => exact absurd rfl n0
      | cons a b => exact ⟨a, b, rfl⟩
    obtain ⟨xl, hxl⟩ : ∃ xl, L = L.dropLast ++ [xl] := ⟨L.getLast n0, (List.dropLast_concat_getLast n0).symm⟩
    have hf0 : atI (L.map V.str) 0 = some (.str x0) := by
      rw [hx0]
      exact (show atI _ ((0 : Nat) : Int) = _ from atI_nat rfl)
    have hfl : atI (L.map V.str) (-1) = some (.str xl) := by
      rw [hxl, List.map_append]
      exact atI_last _ _
    have h0 : x0.length ≤ 8 := (lt8 x0 (by rw [hx0]; exact List.mem_cons_self ..)).len8
    have hl8 : xl.length ≤ 8 := (lt8 xl (by rw [hxl]; exact List.mem_append_right _ (List.mem_singleton.mpr rfl))).len8
    have sz : ∀ n : Nat, n ≤ 1000 → n ≤ sizeLine := fun n h => Nat.le_trans h (by decide)
    have la : Str.length (Str.ofString "a") = 1 := by decide +kernel
    have lc : (x0 ++ Str.ofString "a").length = x0.length + 1 := by
      rw [len_cs, cs_app, List.length_append, ← len_cs, ← len_cs, la]
    refine ⟨_, rfl, 1, rfl, r, _, -1, .str xl, rfl, rfl, sq_of hr1, hfl, _, rfl, xl, rfl, sz _ (by omega), ?_⟩
    have k1 := cut_len xl (some 1) none
    generalize cutS xl (some 1) none = c1 at k1
    refine ⟨_, rfl, r, _, 0, .str x0, rfl, rfl, sq_of hr1, hf0, _, _, rfl, rfl, sz _ (by rw [la]; omega), ?_⟩
    generalize hc2 : x0 ++ Str.ofString "a" = c2 at lc
    refine ⟨_, rfl, r, _, 0, .str x0, rfl, rfl, sq_of hr1, hf0, 1, rfl, _, rfl, x0, rfl, sz _ (by omega), ?_⟩
    have k3 := cut_len x0 none (some (-1))
    generalize cutS x0 none (some (-1)) = c3 at k3
    refine ⟨sz 3 (by decide), fun l1 n1 => ?_⟩
    have x1 : Ex H1 _ := Ex.new (o := lS [c1, c2, c3]) n1
    refine (el_lcR1 (fun _ => true) (fun k => .str (repS "q" (k + 1))) (ea_cons ev_c ea_nil) ⟨by decide, by decide⟩ (fun x => rfl) (fun i H2 e2 hi H3 _ Q q => q H3 (Ex.refl _)) (fun i H2 e2 hi _ => ev_op ev_c (ev_op (ev_var rfl) ev_c rv_I0) (rv_repS (n := i + 1) (by decide +kernel) (by omega)))) _ (Ex.refl _) _ fun p2 H2 np2 e2 hp2 => ?_
    rw [show (8 : Int).toNat = 8 from rfl, given_all] at hp2
    refine ⟨l1, p2, _, _, rfl, rfl, e2 _ _ upd_same, hp2, sz _ (by rw [List.length_map, List.length_map]; show 3 + 8 ≤ 1000; decide), fun l3 n3 => ?_⟩
    have x3 : Ex H1 _ := (x1.trans e2).trans (Ex.new (o := lS ([c1, c2, c3] ++ (List.range 8).map fun k => repS "q" (k + 1))) n3)
    have e3 : Ex H _ := e1.trans x3
    refine ⟨_, rfl, ?_⟩
    refine (el_lcR1 (fun _ => true) (fun k => .str (repS "v" (k + 1))) (ea_cons ev_c ea_nil) ⟨by decide, by decide⟩ (fun x => rfl) (fun i H4 e4 hi H5 _ Q q => q H5 (Ex.refl _)) (fun i H4 e4 hi _ => ev_op ev_c (ev_op (ev_var rfl) ev_c rv_I0) (rv_repS (n := i + 1) (by decide +kernel) (by omega)))) _ (Ex.refl _) _ fun p4 H4 np4 e4 hp4 => ?_
    rw [show (8 : Int).toNat = 8 from rfl, given_all] at hp4
    have h34 : H4 l3 = some (lS ([c1, c2, c3] ++ (List.range 8).map fun k => repS "q" (k + 1))) := e4 _ _ (by rw [upd_same]; rfl)
    refine ⟨l3, p4, _, _, rfl, rfl, h34, hp4, sz _ (by rw [List.length_map, List.length_map, List.length_append, List.length_map]; show 3 + 8 + 8 ≤ 1000; decide), fun l5 n5 => ?_⟩
    rw [show (([c1, c2, c3] ++ (List.range 8).map fun k => repS "q" (k + 1)).map V.str ++ ((List.range 8).map fun k => repS "v" (k + 1)).map V.str) = ([c1, c2, c3] ++ qv).map V.str by rw [← List.map_append, List.append_assoc]; rfl]
    have x5 : Ex H _ := (e3.trans e4).trans (Ex.new (o := lS ([c1, c2, c3] ++ qv)) n5)
    have hr5 : SqL K _ r (L.map V.str) := sq_of ((x3.trans e4).trans (Ex.new (o := lS ([c1, c2, c3] ++ qv)) n5) _ _ hr1)
    have hcl : ∀ z ∈ [c1, c2, c3] ++ qv, z.length ≤ 100 := fun z hz => by
      rcases List.mem_append.mp hz with a | a
      · rcases List.mem_cons.mp a with a | a
        · rw [a]
          omega
        · rcases List.mem_cons.mp a with a | a
          · rw [a]
            omega
          · rw [List.mem_singleton.mp a]
            omega
      · have := (qv_len z a).2
        omega
    generalize hcand : [c1, c2, c3] ++ qv = cand at n5 x5 hr5 hcl ⊢
    have hcz : (cand.map V.str).length ≤ 40000 := by
      rw [List.length_map, ← hcand]
      show 3 + 16 ≤ 40000
      decide
    show tRet (tOp (rIxL K) (tLc (iList K (tVar 2)) (gName 4) (tAnd (tTest (tOp (rIn K true) (tVar 4) (tVar 1))) (tTest (tChain rLtI rLtI (tC (.int 0)) (tCB rLenT (tCons (tVar 4) tNil)) (tC (.int 9))))) (tVar 4) [4]) (tC (.int 0))) _ [some (.ref s), some (.ref r), some (.ref l5), none, none] (upd H4 l5 (.lst (cand.map V.str)))
    unfold tRet
    refine (el_lcL (K := K) (j := 4) (vs := [4]) (σ := [some (.ref s), some (.ref r), some (.ref l5), none, none]) (xs := cand.map V.str) (fun i => okOdd L (cand.getD i "")) (fun i => .str (cand.getD i "")) (ev_var rfl) (sq_of upd_same) hcz (fun x => rfl) (fun i x H6 e6 hx => ?_) (fun i x H6 e6 hx _ => ?_)) _ (Ex.refl _) _ fun p7 H7 np7 e7 hp7 => ?_
    · rw [List.getElem?_map] at hx
      obtain ⟨z, hz, rfl⟩ := Option.map_eq_some_iff.mp hx
      rw [show cand.getD i "" = z by rw [List.getD_eq_getElem?_getD, hz]; rfl]
      exact odd_rd (ex_l e6 hr5) rfl rfl (hcl z (List.mem_of_getElem? hz))
    · rw [List.getElem?_map] at hx
      obtain ⟨z, hz, rfl⟩ := Option.map_eq_some_iff.mp hx
      rw [show cand.getD i "" = z by rw [List.getD_eq_getElem?_getD, hz]; rfl]
      exact ev_var rfl
    rw [List.length_map, given_mapS] at hp7
    obtain ⟨x, hx, hxn⟩ := qv_out y1
    have hxl := qv_len x hx
    have hin : x ∈ cand.filter (okOdd L) := by
      refine List.mem_filter.mpr ⟨by rw [← hcand]; exact List.mem_append_right _ hx, ?_⟩
      unfold okOdd
      rw [decide_eq_false hxn, decide_eq_true hxl.1, decide_eq_true hxl.2]
      rfl
    cases hfc : cand.filter (okOdd L) with
    | nil =>
      rw [hfc] at hin
      exact (List.not_mem_nil hin).elim
    | cons z rest =>
      rw [hfc] at hp7
      have hz : z ∈ cand.filter (okOdd L) := by
        rw [hfc]
        exact List.mem_cons_self ..
      have hzn : ¬ z ∈ L := fun a => by
        have := (List.mem_filter.mp hz).2
        unfold okOdd at this
        rw [decide_eq_true a] at this
        cases this
      exact ⟨p7, _, 0, .str z, rfl, rfl, sq_of hp7, (show atI _ ((0 : Nat) : Int) = _ from atI_nat rfl), q z H7 hzn (x5.trans e7)⟩
end
end Eh
set_option Elab.async false
set_option linter.all false
set_option maxRecDepth 100000
set_option maxHeartbeats 4000000
namespace Eh
open PySem PySem.Spec PyProof.Rows L2 Evl
theorem lay_two {x : Str} (h : PyData.strOk x = true) (p : Int) : PyData.canLay0 (.tuple [.str x, .int p]) = true := by
  show (PyData.strOk x && (true && true)) = true
  rw [h]
  rfl
theorem shaped_two {x : Str} (h : PyData.strOk x = true) (p : Int) : SeqAt.shaped (.tuple [.str x, .int p]) = true := by
  unfold SeqAt.shaped
  rw [lay_two h]
  rfl
/-- a text that is no letter put in at a place, and perhaps at the end -/
def oddW (A : List Str) (p : Nat) (z : Str) (v : Nat) : List Str := A.take p ++ [z] ++ A.drop p ++ List.replicate v z
theorem oddW_bad {L A : List Str} {p v : Nat} {z : Str} (h : AllIn L A) (hp : p ≤ A.length) (hz : ¬ z ∈ L) : BadAt L (oddW A p z v) p := by
  have hl : (A.take p).length = p := by rw [List.length_take]; omega
  have e : oddW A p z v = A.take p ++ (z :: (A.drop p ++ List.replicate v z)) := by
    unfold oddW
    rw [List.append_assoc, List.append_assoc]
    rfl
  refine ⟨z, ?_, hz, fun j y hj hy => ?_⟩
  · rw [e, List.getElem?_append_right (by omega), hl, Nat.sub_self]
    rfl
  · rw [e, List.getElem?_append_left (by omega)] at hy
    exact h y (List.mem_of_mem_take (List.mem_of_getElem? hy))
theorem oddW_len (A : List Str) (p : Nat) (z : Str) (v : Nat) : (oddW A p z v).length = A.length + 1 + v := by
  unfold oddW
  rw [List.length_append, List.length_append, List.length_append, List.length_take, List.length_drop, List.length_replicate, List.length_singleton]
  omega
theorem BadAt.uniq {L A : List Str} {p q : Nat} (h1 : BadAt L A p) (h2 : BadAt L A q) : p = q := by
  obtain ⟨x, a1, a2, a3⟩ := h1
  obtain ⟨y, b1, b2, b3⟩ := h2
  rcases Nat.lt_trichotomy p q with h | h | h
  · exact absurd (b3 p x h a1) a2
  · exact h
  · exact absurd (a3 q y h b1) b2
theorem BadAt.no {L A : List Str} {p : Nat} (h1 : BadAt L A p) (h2 : AllIn L A) : False := by
  obtain ⟨x, a1, a2, a3⟩ := h1
  exact a2 (h2 x (List.mem_of_getElem? a1))
theorem rep_flat (z : Str) : ∀ v : Nat, (List.replicate v [V.str z]).flatten = (List.replicate v z).map V.str
  | 0 => rfl
  | v + 1 => by
    rw [List.replicate_succ, List.replicate_succ, List.flatten_cons, rep_flat z v]
    rfl
theorem oddW_map (A : List Str) (p : Nat) (z : Str) (v : Nat) : (A.take p).map V.str ++ [V.str z] ++ (A.drop p).map V.str ++ (List.replicate v [V.str z]).flatten = (oddW A p z v).map V.str := by
  unfold oddW
  rw [rep_flat, List.map_append, List.map_append, List.map_append]
  rfl
/-! the odd texts are no letters -/
theorem odd0 {L : List Str} (h : ∀ x ∈ L, Ltr x) : ¬ (("" : Str) ∈ L) := fun z => by
  have := (h _ z).2.1
  exact absurd this (by decide +kernel)
theorem odd1 {L : List Str} (h : ∀ x ∈ L, Ltr x) : ¬ (("A" : Str) ∈ L) := fun z => by
  have := (h _ z).1 65 (by decide +kernel)
  unfold az at this
  omega
theorem app_len (a b : Str) : (a ++ b).length = a.length + b.length := by
  rw [len_cs, cs_app, List.length_append, ← len_cs, ← len_cs]
theorem odd3 {L : List Str} (h : ∀ x ∈ L, Ltr x) (c : Str) : ¬ ((Str.ofString " " ++ c) ∈ L) := fun z => by
  have := (h _ z).1 32 (by rw [cs_app]; exact List.mem_append_left _ (by decide +kernel))
  unfold az at this
  omega
abbrev sixW (x0 y0 z1 z2 : Str) : List Str := [Str.ofString "", Str.ofString "A", x0 ++ repS (Str.ofString "x") 8, Str.ofString " " ++ y0, z1, z2]
abbrev nOdd : List Str := ["pot", "sheet", "one", "other", "odd", "here", "there", "way", "at", "to", "twice"]
theorem scOdd : FnScope nOdd ["pot", "sheet", "one", "other"] (defScope sOdd) := ⟨rfl, rfl, rfl, by decide +kernel, rfl, by decide +kernel, by decide +kernel⟩
section
variable {P : Program} {w : World} {K : PySem.W.Frag} {mg : Str → Option Value} {base : Heap}
def spOdd : Sp := fun vs H Q _ => ∃ (p c s a b : Addr) (ns : List Int) (os ps qs A B : List Str), vs = [.ref p, .ref s, .ref a, .ref b] ∧ Pot p c ns H ∧ Sht os ps qs ∧ SheetAt H s os ps qs ∧ H a = some (lS A) ∧ H b = some (lS B) ∧ AllIn (os ++ ps ++ qs) A ∧ AllIn (os ++ ps ++ qs) B ∧ A.length ≤ 41 ∧ B.length ≤ 41 ∧
  ∀ H', Keep p H H' → Pot p c ns H' → Q (.bl true) H'
/-- behind a choice: the word with what is no letter, or as it was -/
structure OddSt (H H' : Hp) (p c s a b : Addr) (ns : List Int) (os ps qs A B : List Str) : Prop where
  kp : Keep p H H'
  pot : Pot p c ns H'
  sh : SheetAt H' s os ps qs
  ha : H' a = some (lS A)
  hb : H' b = some (lS B)
theorem OddSt.keep {H H1 H2 : Hp} {p c s a b : Addr} {ns : List Int} {os ps qs A B : List Str} (h : OddSt H H1 p c s a b ns os ps qs A B) (k : Keep p H1 H2) (hP : Pot p c ns H2) : OddSt H H2 p c s a b ns os ps qs A B :=
  ⟨h.kp.trans k, hP, h.sh.keep h.pot k, k _ _ (lS_ne h.pot h.ha) h.ha, k _ _ (lS_ne h.pot h.hb) h.hb⟩
theorem OddSt.ex {H H1 H2 : Hp} {p c s a b : Addr} {ns : List Int} {os ps qs A B : List Str} (h : OddSt H H1 p c s a b ns os ps qs A B) (k : Ex H1 H2) : OddSt H H2 p c s a b ns os ps qs A B := h.keep (Keep.ofEx k) (h.pot.ex k)
theorem ok_odd {f fP fS fT : Addr} {fd fdP fdS fdT : FuncData} {k : Nat} (F : Fun K "_law_odd" "_law_odd" sOdd f fd) (FP : Fun K "_law_pick" "_law_pick" sPick fP fdP) (GP : FnOk P w K mg base CX0 (k + 1) fP fdP ["pot", "many"] spPick) (bP : Binds K fdP ["pot", "many"] []) (gP : mg "_law_pick" = some (.ref fP))
    (FS : Fun K "_law_strange" "_law_strange" sStrange fS fdS) (GS : FnOk P w K mg base CX0 (k + 1) fS fdS ["sheet"] spStrange) (bS : Binds K fdS ["sheet"] []) (gS : mg "_law_strange" = some (.ref fS))
    (FT : Fun K "_law_told" "_law_told" sTold fT fdT) (GT : FnOk P w K mg base CX0 (k + 1) fT fdT ["sheet", "one", "other"] (spTold K)) (bT : Binds K fdT ["sheet", "one", "other"] []) (gT : mg "_law_told" = some (.ref fT)) (ml : mg "len" = none) (mli : mg "list" = none) :
    FnOk P w K mg base CX0 (k + 2) f fd ["pot", "sheet", "one", "other"] spOdd := by
  have nd := scOdd.nd
  refine F.ok scOdd (fun vs H Q E h => ?_) (fun cdv A outer s H vs Q E hr h => ?_)
  · obtain ⟨p, c, s, a, b, ns, os, ps, qs, A, B, rfl, _⟩ := h
    rfl
  · obtain ⟨p, c, s, a, b, ns, os, ps, qs, A, B, rfl, hP, hS, hs, ha, hb, iA, iB, lA, lB, q⟩ := h
    refine ⟨_, (pss_cons (ps_set (i := 4) nd rfl (.inl rfl) (pe_lst (pa_cons pe_str (pa_cons pe_str (pa_cons (pe_op op_add_str (pe_ix ix_tup (pe_ix ix_tup (pv 1) pe_int (fun _ _ => rfl)) pe_int (fun _ _ => rfl)) (pe_op op_repS pe_str pe_int)) (pa_cons (pe_op op_add_str pe_str (pe_ix ix_tup (pe_ix ix_tup (pv 1) pe_int (fun _ _ => rfl)) pe_int (fun _ _ => rfl))) (pa_cons (pe_call GS hr (by rfl) gS FS.kp bS .nil pass0 (pa_cons (pv 1) pa_nil)) pa_nil)))))))
        (pss_cons (ps_set (i := 4) nd rfl (.inl rfl) (pe_ix ix_list (pe_op op_cat (pv 4) (pe_lst (pa_cons (pe_call GS hr (by rfl) gS FS.kp bS .nil pass0 (pa_cons (pv 1) pa_nil)) pa_nil))) (pe_call GP hr (by rfl) gP FP.kp bP .nil pass0 (pa_cons (pv 0) (pa_cons pe_int pa_nil))) (fun _ _ => rfl)))
        (pss_cons (ps_set (i := 5) nd rfl (.inl rfl) (pe_callTy call_list_of (by rfl) mli (by decide +kernel) (pa_cons (pv 2) pa_nil)))
        (pss_cons (ps_set (i := 6) nd rfl (.inl rfl) (pe_callTy call_list_of (by rfl) mli (by decide +kernel) (pa_cons (pv 3) pa_nil)))
        (pss_cons (ps_set (i := 7) nd rfl (.inl rfl) (pe_call GP hr (by rfl) gP FP.kp bP .nil pass0 (pa_cons (pv 0) (pa_cons pe_int pa_nil))))
        (pss_cons (ps_set (i := 8) nd rfl (.inl rfl) (pe_call GP hr (by rfl) gP FP.kp bP .nil pass0 (pa_cons (pv 0) (pa_cons (pe_op op_add (pe_callB call_len_seq (by rfl) ml PySem.boot_len (pa_cons (pv 2) pa_nil)) pe_int) pa_nil))))
        (pss_cons (ps_set (i := 9) nd rfl (.inl rfl) (pe_call GP hr (by rfl) gP FP.kp bP .nil pass0 (pa_cons (pv 0) (pa_cons (pe_op op_add (pe_callB call_len_seq (by rfl) ml PySem.boot_len (pa_cons (pv 3) pa_nil)) pe_int) pa_nil))))
        (pss_cut (ps_if (pt_cmpR op_ne (pv 7) pe_int (nomark _)) (pss_cons (ps_set (i := 10) nd rfl (.inl rfl) (pe_op op_rep (pe_lst (pa_cons (pv 4) pa_nil)) (pe_call GP hr (by rfl) gP FP.kp bP .nil pass0 (pa_cons (pv 0) (pa_cons pe_int pa_nil)))))
        (pss_one (ps_set (i := 5) nd rfl (.inl rfl) (pe_op op_cat (pe_op op_cat (pe_op op_cat (pe_slice sl_list (pv 2) po_none (po_some (pv 8))) (pe_lst (pa_cons (pv 4) pa_nil))) (pe_slice sl_list (pv 2) (po_some (pv 8)) po_none)) (pv 10))))) pss_nil)
        (pss_cut (ps_if (pt_cmpR op_ne (pv 7) pe_int (nomark _)) (pss_cons (ps_set (i := 10) nd rfl (.inl rfl) (pe_op op_rep (pe_lst (pa_cons (pv 4) pa_nil)) (pe_call GP hr (by rfl) gP FP.kp bP .nil pass0 (pa_cons (pv 0) (pa_cons pe_int pa_nil)))))
        (pss_one (ps_set (i := 6) nd rfl (.inl rfl) (pe_op op_cat (pe_op op_cat (pe_op op_cat (pe_slice sl_list (pv 3) po_none (po_some (pv 9))) (pe_lst (pa_cons (pv 4) pa_nil))) (pe_slice sl_list (pv 3) (po_some (pv 9)) po_none)) (pv 10))))) pss_nil)
        (pss_one (ps_ret (pe_cmpR (op_eqD hr.units) (pe_call GT hr (by rfl) gT FT.kp bT .nil pass0 (pa_cons (pv 1) (pa_cons (pv 5) (pa_cons (pv 6) pa_nil)))) (pe_tup (pa_cons pe_str (pa_cons (pe_ix ix_list (pe_lst (pa_cons (pv 8) (pa_cons (pv 9) (pa_cons (pv 8) pa_nil)))) (pv 7) (fun _ _ => rfl)) pa_nil))) (nomark _))))))))))))), ?_⟩
    have sz : ∀ n : Nat, n ≤ 1000 → n ≤ sizeLine := fun n h => Nat.le_trans h (by decide)
    have lt8 := hS.lt
    have hs0 := hs
    obtain ⟨ao, ap, ac, h0, h1, h2, h3⟩ := hs
    obtain ⟨x0, os', ho⟩ : ∃ x r, os = x :: r := by
      cases os with
      | nil => exact absurd hS.o1 (by decide)
      | cons x r => exact ⟨x, r, rfl⟩
    obtain ⟨y0, qs', hq⟩ : ∃ x r, qs = x :: r := by
      cases qs with
      | nil => exact absurd hS.c1 (by decide)
      | cons x r => exact ⟨x, r, rfl⟩
    have hx0 : atI (os.map V.str) 0 = some (.str x0) := by
      rw [ho]
      exact (show atI _ ((0 : Nat) : Int) = _ from atI_nat rfl)
    have hy0 : atI (qs.map V.str) 0 = some (.str y0) := by
      rw [hq]
      exact (show atI _ ((0 : Nat) : Int) = _ from atI_nat rfl)
    have mx0 : x0 ∈ os ++ ps ++ qs := List.mem_append_left _ (List.mem_append_left _ (by rw [ho]; exact List.mem_cons_self ..))
    have my0 : y0 ∈ os ++ ps ++ qs := List.mem_append_right _ (by rw [hq]; exact List.mem_cons_self ..)
    have lx0 := (lt8 _ mx0).len8
    have ly0 := (lt8 _ my0).len8
    have px0 : 0 < x0.length := by rw [len_cs]; exact (lt8 _ mx0).2.1
    have l8 : (repS (Str.ofString "x") 8).length = 8 := by decide +kernel
    have l1 : (Str.ofString " ").length = 1 := by decide +kernel
    have n2 : ¬ (x0 ++ repS (Str.ofString "x") 8) ∈ os ++ ps ++ qs := fun z => by
      have := (lt8 _ z).len8
      rw [app_len, l8] at this
      omega
    have n3 := odd3 lt8 y0
    refine ⟨_, rfl, s, _, 0, .ref ao, rfl, rfl, st_of h0, rfl, ao, _, 0, .str x0, rfl, rfl, st_of h1, hx0, _, 8, rfl, rfl, (by decide +kernel), (by decide), _, _, rfl, rfl, sz _ (by rw [l8]; omega), _, rfl, s, _, 2, .ref ac, rfl, rfl, st_of h0, rfl, ac, _, 0, .str y0, rfl, rfl, st_of h3, hy0, _, _, rfl, rfl, sz _ (by rw [l1]; omega), _, rfl, s, os, ps, qs, rfl, hS, hs0, fun z1 H1 nz1 e1 => ⟨sz 5 (by decide), fun m1 nm1 => ?_⟩⟩
    have x1 : Ex H _ := e1.trans (Ex.new (o := lS [Str.ofString "", Str.ofString "A", x0 ++ repS (Str.ofString "x") 8, Str.ofString " " ++ y0, z1]) nm1)
    refine ⟨_, rfl, _, rfl, s, os, ps, qs, rfl, hS, hs0.ex x1, fun z2 H2 nz2 e2 => ⟨sz 1 (by decide), fun m2 nm2 => ?_⟩⟩
    have x2 : Ex _ _ := e2.trans (Ex.new (o := lS [z2]) nm2)
    refine ⟨m1, m2, _, _, rfl, rfl, x2 _ _ upd_same, upd_same, sz 6 (by decide), fun m3 nm3 => ?_⟩
    have x3 : Ex H _ := (x1.trans x2).trans (Ex.new (o := lS (sixW x0 y0 z1 z2)) nm3)
    have nine : ∀ x ∈ sixW x0 y0 z1 z2, ¬ x ∈ os ++ ps ++ qs := fun x hx => by
      rcases List.mem_cons.mp hx with rfl | hx
      · exact odd0 lt8
      rcases List.mem_cons.mp hx with rfl | hx
      · exact odd1 lt8
      rcases List.mem_cons.mp hx with rfl | hx
      · exact n2
      rcases List.mem_cons.mp hx with rfl | hx
      · exact n3
      rcases List.mem_cons.mp hx with rfl | hx
      · exact nz1
      rw [List.mem_singleton.mp hx]
      exact nz2
    refine ⟨_, rfl, p, c, ns, 6, rfl, by decide, by decide, hP.ex x3, fun v H4 hv kp4 hP4 => ?_⟩
    have hm4 := kp4 m3 (lS (sixW x0 y0 z1 z2)) ((hP.ex (x1.trans x2)).ne_new nm3).1.symm upd_same
    have hv6 : v < (sixW x0 y0 z1 z2).length := by
      show v < 6
      omega
    refine ⟨m3, _, _, .str (sixW x0 y0 z1 z2)[v], rfl, rfl, sq_of hm4, atI_nat (by rw [List.getElem?_map, List.getElem?_eq_getElem hv6]; rfl), ?_⟩
    have nz := nine _ (List.getElem_mem hv6)
    generalize (sixW x0 y0 z1 z2)[v] = z at nz ⊢
    have S4 : OddSt H H4 p c s a b ns os ps qs A B := ((OddSt.mk (Keep.refl p H) hP hs0 ha hb).ex x3).keep kp4 hP4
    refine ⟨_, rfl, a, _, rfl, .inl (sq_of S4.ha), fun h nh => ?_⟩
    have S5 := S4.ex (Ex.new (o := lS A) nh)
    refine ⟨_, rfl, b, _, rfl, .inl (sq_of S5.hb), fun t nt => ?_⟩
    have S6 := S5.ex (Ex.new (o := lS B) nt)
    have hh6 := Ex.new (o := lS B) nt h (lS A) upd_same
    refine ⟨_, rfl, p, c, ns, 3, rfl, by decide, by decide, S6.pot, fun way H7 hway kp7 hP7 => ?_⟩
    have S7 := S6.keep kp7 hP7
    have hh7 := kp7 _ _ (lS_ne S6.pot hh6) hh6
    have ht7 := kp7 t (lS B) (lS_ne S6.pot upd_same) upd_same
    refine ⟨_, rfl, _, rfl, a, _, rfl, .inl (sq_of S7.ha), _, _, rfl, rfl, p, c, ns, _, rfl, by rw [List.length_map]; omega, by rw [List.length_map]; omega, S7.pot, fun at_ H8 hat kp8 hP8 => ?_⟩
    rw [List.length_map] at hat
    have S8 := S7.keep kp8 hP8
    have hh8 := kp8 _ _ (lS_ne S7.pot hh7) hh7
    have ht8 := kp8 _ _ (lS_ne S7.pot ht7) ht7
    refine ⟨_, rfl, _, rfl, b, _, rfl, .inl (sq_of S8.hb), _, _, rfl, rfl, p, c, ns, _, rfl, by rw [List.length_map]; omega, by rw [List.length_map]; omega, S8.pot, fun to H9 hto kp9 hP9 => ?_⟩
    rw [List.length_map] at hto
    have S9 := S8.keep kp9 hP9
    have hh9 := kp9 _ _ (lS_ne S8.pot hh8) hh8
    have ht9 := kp9 _ _ (lS_ne S8.pot ht8) ht8
    refine ⟨fun σ' H' => ∃ (h' : Addr) (A' : List Str) (y10 : Option V), σ' = [some (.ref p), some (.ref s), some (.ref a), some (.ref b), some (.str z), some (.ref h'), some (.ref t), some (.int (way : Int)), some (.int (at_ : Int)), some (.int (to : Int)), y10] ∧ OddSt H H' p c s a b ns os ps qs A B ∧ H' h' = some (lS A') ∧ H' t = some (lS B) ∧ A'.length ≤ 100 ∧ ((way = 1 ∧ A' = A) ∨ (way ≠ 1 ∧ BadAt (os ++ ps ++ qs) A' at_)), ?_, ?_⟩
    · refine ⟨_, rfl, rfl, _, rfl, ?_⟩
      by_cases hw : way = 1
      · rw [decide_eq_true (show V.int (way : Int) = V.int 1 by rw [hw]; rfl)]
        exact iteF ⟨h, A, _, rfl, S9, hh9, ht9, by omega, .inl ⟨hw, rfl⟩⟩
      · rw [decide_eq_false (show ¬ V.int (way : Int) = V.int 1 from fun z => hw (by have := V.int.inj z; omega))]
        refine iteT ?_
        refine ⟨_, rfl, sz 1 (by decide), fun u nu => ?_⟩
        have xu : Ex _ _ := Ex.new (o := lS [z]) nu
        refine ⟨_, rfl, p, c, ns, 2, rfl, by decide, by decide, (S9.ex xu).pot, fun v' H10 hv10 kp10 hP10 => ?_⟩
        have hu10 := kp10 u (lS [z]) (lS_ne (S9.ex xu).pot upd_same) upd_same
        have hx10 := kp10 _ _ (lS_ne (S9.ex xu).pot (xu _ _ ht9)) (xu _ _ ht9)
        have S10 := (S9.ex xu).keep kp10 hP10
        refine ⟨u, _, _, rfl, rfl, hu10, by omega, by omega, sz _ (by rw [Int.toNat_natCast]; show 1 * v' ≤ 1000; omega), fun tw ntw => ?_⟩
        rw [Int.toNat_natCast, show List.map V.str [z] = [V.str z] from rfl]
        have htw : ∀ H0 : Hp, (upd H0 tw (.lst (List.replicate v' [V.str z]).flatten)) tw = some (.lst (List.replicate v' [V.str z]).flatten) := fun _ => upd_same
        have y11 : Ex H10 _ := Ex.new (o := .lst (List.replicate v' [V.str z]).flatten) ntw
        refine ⟨_, rfl, _, rfl, _, rfl, a, _, rfl, sq_of (y11 _ _ S10.ha), fun a1 na1 => ?_⟩
        rw [map_cut0]
        have y12 := y11.trans (Ex.new (o := lS (A.take at_)) na1)
        refine ⟨_, rfl, sz 1 (by decide), fun a2 na2 => ?_⟩
        have y13 := y12.trans (Ex.new (o := lS [z]) na2)
        refine ⟨a1, a2, _, _, rfl, rfl, Ex.new na2 _ _ upd_same, upd_same, sz _ (by rw [List.length_map, List.length_take]; show _ + 1 ≤ 1000; omega), fun a3 na3 => ?_⟩
        have y14 := y13.trans (Ex.new (o := .lst ((A.take at_).map V.str ++ [V.str z])) na3)
        refine ⟨_, rfl, _, rfl, _, rfl, a, _, rfl, sq_of (y14 _ _ S10.ha), fun a4 na4 => ?_⟩
        rw [map_cutF]
        have y15 := y14.trans (Ex.new (o := lS (A.drop at_)) na4)
        refine ⟨a3, a4, _, _, rfl, rfl, Ex.new na4 _ _ upd_same, upd_same, sz _ (by rw [List.length_append, List.length_map, List.length_map, List.length_take, List.length_drop]; show _ + 1 + _ ≤ 1000; omega), fun a5 na5 => ?_⟩
        have y16 := y15.trans (Ex.new (o := .lst ((A.take at_).map V.str ++ [V.str z] ++ (A.drop at_).map V.str)) na5)
        refine ⟨_, rfl, a5, tw, _, _, rfl, rfl, upd_same, (((((Ex.new na1).trans (Ex.new na2)).trans (Ex.new na3)).trans (Ex.new na4)).trans (Ex.new na5)) _ _ (htw _), sz _ (by rw [rep_flat, List.length_append, List.length_append, List.length_map, List.length_map, List.length_map, List.length_take, List.length_drop, List.length_replicate]; show _ + 1 + _ + _ ≤ 1000; omega), fun a6 na6 => ?_⟩
        rw [oddW_map]
        have y17 := y16.trans (Ex.new (o := lS (oddW A at_ z v')) na6)
        exact ⟨a6, oddW A at_ z v', _, rfl, S10.ex y17, upd_same, y17 _ _ hx10, by rw [oddW_len]; omega, .inr ⟨hw, oddW_bad iA (by omega) nz⟩⟩
    rintro σ' H20 ⟨h', A', y10, rfl, S20, hh20, ht20, lA', cA⟩
    refine ⟨fun σ' H' => ∃ (t' : Addr) (B' : List Str) (y10 : Option V), σ' = [some (.ref p), some (.ref s), some (.ref a), some (.ref b), some (.str z), some (.ref h'), some (.ref t'), some (.int (way : Int)), some (.int (at_ : Int)), some (.int (to : Int)), y10] ∧ OddSt H H' p c s a b ns os ps qs A B ∧ H' h' = some (lS A') ∧ H' t' = some (lS B') ∧ B'.length ≤ 100 ∧ ((way = 0 ∧ B' = B) ∨ (way ≠ 0 ∧ BadAt (os ++ ps ++ qs) B' to)), ?_, ?_⟩
    · refine ⟨_, rfl, rfl, _, rfl, ?_⟩
      by_cases hw : way = 0
      · rw [decide_eq_true (show V.int (way : Int) = V.int 0 by rw [hw]; rfl)]
        exact iteF ⟨t, B, _, rfl, S20, hh20, ht20, by omega, .inl ⟨hw, rfl⟩⟩
      · rw [decide_eq_false (show ¬ V.int (way : Int) = V.int 0 from fun z => hw (by have := V.int.inj z; omega))]
        refine iteT ?_
        refine ⟨_, rfl, sz 1 (by decide), fun u nu => ?_⟩
        have xu : Ex _ _ := Ex.new (o := lS [z]) nu
        refine ⟨_, rfl, p, c, ns, 2, rfl, by decide, by decide, (S20.ex xu).pot, fun v' H10 hv10 kp10 hP10 => ?_⟩
        have hu10 := kp10 u (lS [z]) (lS_ne (S20.ex xu).pot upd_same) upd_same
        have hx10 := kp10 _ _ (lS_ne (S20.ex xu).pot (xu _ _ hh20)) (xu _ _ hh20)
        have S10 := (S20.ex xu).keep kp10 hP10
        refine ⟨u, _, _, rfl, rfl, hu10, by omega, by omega, sz _ (by rw [Int.toNat_natCast]; show 1 * v' ≤ 1000; omega), fun tw ntw => ?_⟩
        rw [Int.toNat_natCast, show List.map V.str [z] = [V.str z] from rfl]
        have htw : ∀ H0 : Hp, (upd H0 tw (.lst (List.replicate v' [V.str z]).flatten)) tw = some (.lst (List.replicate v' [V.str z]).flatten) := fun _ => upd_same
        have y11 : Ex H10 _ := Ex.new (o := .lst (List.replicate v' [V.str z]).flatten) ntw
        refine ⟨_, rfl, _, rfl, _, rfl, b, _, rfl, sq_of (y11 _ _ S10.hb), fun a1 na1 => ?_⟩
        rw [map_cut0]
        have y12 := y11.trans (Ex.new (o := lS (B.take to)) na1)
        refine ⟨_, rfl, sz 1 (by decide), fun a2 na2 => ?_⟩
        have y13 := y12.trans (Ex.new (o := lS [z]) na2)
        refine ⟨a1, a2, _, _, rfl, rfl, Ex.new na2 _ _ upd_same, upd_same, sz _ (by rw [List.length_map, List.length_take]; show _ + 1 ≤ 1000; omega), fun a3 na3 => ?_⟩
        have y14 := y13.trans (Ex.new (o := .lst ((B.take to).map V.str ++ [V.str z])) na3)
        refine ⟨_, rfl, _, rfl, _, rfl, b, _, rfl, sq_of (y14 _ _ S10.hb), fun a4 na4 => ?_⟩
        rw [map_cutF]
        have y15 := y14.trans (Ex.new (o := lS (B.drop to)) na4)
        refine ⟨a3, a4, _, _, rfl, rfl, Ex.new na4 _ _ upd_same, upd_same, sz _ (by rw [List.length_append, List.length_map, List.length_map, List.length_take, List.length_drop]; show _ + 1 + _ ≤ 1000; omega), fun a5 na5 => ?_⟩
        have y16 := y15.trans (Ex.new (o := .lst ((B.take to).map V.str ++ [V.str z] ++ (B.drop to).map V.str)) na5)
        refine ⟨_, rfl, a5, tw, _, _, rfl, rfl, upd_same, (((((Ex.new na1).trans (Ex.new na2)).trans (Ex.new na3)).trans (Ex.new na4)).trans (Ex.new na5)) _ _ (htw _), sz _ (by rw [rep_flat, List.length_append, List.length_append, List.length_map, List.length_map, List.length_map, List.length_take, List.length_drop, List.length_replicate]; show _ + 1 + _ + _ ≤ 1000; omega), fun a6 na6 => ?_⟩
        rw [oddW_map]
        have y17 := y16.trans (Ex.new (o := lS (oddW B to z v')) na6)
        exact ⟨a6, oddW B to z v', _, rfl, S10.ex y17, y17 _ _ hx10, upd_same, by rw [oddW_len]; omega, .inr ⟨hw, oddW_bad iB (by omega) nz⟩⟩
    rintro σ' H30 ⟨t', B', y10', rfl, S30, hh30, ht30, lB', cB⟩
    have due : ∀ r, (BadAt (os ++ ps ++ qs) A' r ∨ (AllIn (os ++ ps ++ qs) A' ∧ BadAt (os ++ ps ++ qs) B' r)) → r = if way = 1 then to else at_ := fun r hr => by
      rcases cA with ⟨w1, eA⟩ | ⟨w1, bA⟩
      · rw [if_pos w1]
        rcases hr with x | ⟨_, x⟩
        · exact (x.no (by rw [eA]; exact iA)).elim
        · rcases cB with ⟨w0, _⟩ | ⟨_, bB⟩
          · omega
          · exact x.uniq bB
      · rw [if_neg w1]
        rcases hr with x | ⟨x, _⟩
        · exact x.uniq bA
        · exact (bA.no x).elim
    have ix3 : atI [V.int (at_ : Int), .int (to : Int), .int (at_ : Int)] (way : Int) = some (.int ((if way = 1 then to else at_ : Nat) : Int)) := by
      rcases (show way = 0 ∨ way = 1 ∨ way = 2 by omega) with rfl | rfl | rfl <;> rfl
    refine ⟨_, rfl, _, rfl, _, rfl, s, h', t', os, ps, qs, A', B', rfl, hS, S30.sh, sq_of hh30, sq_of ht30, by omega, by omega, fun gA gB => ?_, fun r hr' u H31 e31 hu => ?_⟩
    · rcases cA with ⟨w1, _⟩ | ⟨_, bA⟩
      · rcases cB with ⟨w0, _⟩ | ⟨_, bB⟩
        · omega
        · exact (bB.no gB).elim
      · exact (bA.no gA).elim
    · have er := due r hr'
      refine ⟨_, rfl, _, rfl, _, rfl, sz 3 (by decide), fun m nm => ⟨_, rfl, m, _, _, _, rfl, rfl, sq_of upd_same, ix3, sz 2 (by decide), fun m2 nm2 => ?_⟩⟩
      rw [← er]
      have x32 : Ex H31 _ := (Ex.new (o := .lst [.int (at_ : Int), .int (to : Int), .int (at_ : Int)]) nm).trans (Ex.new (o := .tup [.str "letter", .int (r : Int)]) nm2)
      refine ⟨.tuple [.str "letter", .int (r : Int)], .tuple [.str "letter", .int (r : Int)], .tup (st_of (x32 _ _ hu)) (.cons (.str _) (.cons (.int _) .nil)), .tup (st_of upd_same) (.cons (.str _) (.cons (.int _) .nil)), shaped_two (by decide +kernel) _, shaped_two (by decide +kernel) _, ?_⟩
      rw [show PyData.eqv (.tuple [.str "letter", .int (r : Int)]) (.tuple [.str "letter", .int (r : Int)]) = true from SeqAt.eqv_refl _ (lay_two (by decide +kernel) _)]
      have S32 := S30.ex (e31.trans x32)
      exact q _ S32.kp S32.pot
end
end Eh
set_option Elab.async false
set_option linter.all false
set_option maxRecDepth 100000
set_option maxHeartbeats 4000000
namespace Eh
open PySem PySem.Spec PyProof.Rows L2 Evl
theorem strOk_ltr {x : Str} (h : ∀ c ∈ cs x, az c) : PyData.strOk x = true := by
  unfold PyData.strOk
  rw [Array.all_eq_true_iff_forall_mem]
  intro c hc
  have := (h c (by simpa using hc)).2
  simp
  omega
theorem dpStrs {K : PySem.W.Frag} {H : Hp} : ∀ ws : List Str, DpAll K H (ws.map V.str) (ws.map PyData.str)
  | [] => .nil
  | x :: r => .cons (.str x) (dpStrs r)
theorem layStrs : ∀ ws : List Str, (∀ x ∈ ws, ∀ c ∈ cs x, az c) → PyData.canLayAll0 (ws.map PyData.str) = true
  | [], _ => rfl
  | x :: r, h => by
    show (PyData.strOk x && PyData.canLayAll0 (r.map PyData.str)) = true
    rw [layStrs r fun y hy => h y (List.mem_cons_of_mem _ hy), strOk_ltr (h x (List.mem_cons_self ..))]
    rfl
theorem deepStrs : ∀ ws : List Str, PyData.depthAll (ws.map PyData.str) = 0
  | [] => rfl
  | x :: r => by
    show max 0 (PyData.depthAll (r.map PyData.str)) = 0
    rw [deepStrs r]
    rfl
theorem shapedL {ws : List Str} (h : ∀ x ∈ ws, ∀ c ∈ cs x, az c) : SeqAt.shaped (.list (ws.map PyData.str)) = true := by
  unfold SeqAt.shaped
  rw [show PyData.canLay0 (.list (ws.map PyData.str)) = true from layStrs ws h, show PyData.depth (.list (ws.map PyData.str)) = 1 by
    show PyData.depthAll (ws.map PyData.str) + 1 = 1
    rw [deepStrs]]
  rfl
theorem lay_nest {A B : List Str} (hA : ∀ x ∈ A, ∀ c ∈ cs x, az c) (hB : ∀ x ∈ B, ∀ c ∈ cs x, az c) : PyData.canLay0 (.list [.list (A.map PyData.str), .list (B.map PyData.str)]) = true := by
  show (PyData.canLayAll0 (A.map PyData.str) && (PyData.canLayAll0 (B.map PyData.str) && true)) = true
  rw [layStrs A hA, layStrs B hB]
  rfl
theorem shaped_nest {A B : List Str} (hA : ∀ x ∈ A, ∀ c ∈ cs x, az c) (hB : ∀ x ∈ B, ∀ c ∈ cs x, az c) : SeqAt.shaped (.list [.list (A.map PyData.str), .list (B.map PyData.str)]) = true := by
  unfold SeqAt.shaped
  rw [lay_nest hA hB, show PyData.depth (.list [.list (A.map PyData.str), .list (B.map PyData.str)]) = 2 by
    show max (PyData.depthAll (A.map PyData.str) + 1) (max (PyData.depthAll (B.map PyData.str) + 1) 0) + 1 = 2
    rw [deepStrs, deepStrs]
    rfl]
  rfl
abbrev nLaw : List Str := ["script", "pot", "turn", "sheet", "one", "other", "here", "there", "handed", "found", "order", "long", "at", "due", "k"]
theorem scLaw : FnScope nLaw ["script"] (defScope sLaw) := ⟨rfl, rfl, rfl, by decide +kernel, rfl, by decide +kernel, by decide +kernel⟩
section
variable {P : Program} {w : World} {K : PySem.W.Frag} {mg : Str → Option Value} {base : Heap}
def spLaw (K : PySem.W.Frag) : Sp := fun vs H Q _ => ∃ (a : Addr) (ns : List Int), vs = [.ref a] ∧ SqL K H a (ns.map V.int) ∧ ns.length ≤ 63 ∧ ∀ H', Q (.bl true) H'
theorem ok_law {f fpot fsheet ftwo ftold fless fodd forder fpick : Addr} {fd dpot dsheet dtwo dtold dless dodd dorder dpick : FuncData} {k : Nat} (F : Fun K "law" "law" sLaw f fd)
    (Fpot : Fun K "_law_pot" "_law_pot" sPot fpot dpot) (Gpot : FnOk P w K mg base CX0 (k + 1) fpot dpot ["script"] (spPot K)) (bpot : Binds K dpot ["script"] []) (gpot : mg "_law_pot" = some (.ref fpot))
    (Fsheet : Fun K "_law_sheet" "_law_sheet" sSheet fsheet dsheet) (Gsheet : FnOk P w K mg base CX0 (k + 1) fsheet dsheet ["pot", "most"] spSheet) (bsheet : Binds K dsheet ["pot", "most"] []) (gsheet : mg "_law_sheet" = some (.ref fsheet))
    (Ftwo : Fun K "_law_two" "_law_two" sTwo ftwo dtwo) (Gtwo : FnOk P w K mg base CX0 (k + 1) ftwo dtwo ["pot", "sheet"] spTwo) (btwo : Binds K dtwo ["pot", "sheet"] []) (gtwo : mg "_law_two" = some (.ref ftwo))
    (Ftold : Fun K "_law_told" "_law_told" sTold ftold dtold) (Gtold : FnOk P w K mg base CX0 (k + 1) ftold dtold ["sheet", "one", "other"] (spTold K)) (btold : Binds K dtold ["sheet", "one", "other"] []) (gtold : mg "_law_told" = some (.ref ftold))
    (Fless : Fun K "_law_less" "_law_less" sLess fless dless) (Gless : FnOk P w K mg base CX0 (k + 1) fless dless ["sheet", "one", "other"] (spLess K)) (bless : Binds K dless ["sheet", "one", "other"] []) (gless : mg "_law_less" = some (.ref fless))
    (Fodd : Fun K "_law_odd" "_law_odd" sOdd fodd dodd) (Godd : FnOk P w K mg base CX0 (k + 1) fodd dodd ["pot", "sheet", "one", "other"] spOdd) (bodd : Binds K dodd ["pot", "sheet", "one", "other"] []) (godd : mg "_law_odd" = some (.ref fodd))
    (Forder : Fun K "_law_order" "_law_order" sOrder forder dorder) (Gorder : FnOk P w K mg base CX0 (k + 1) forder dorder ["sheet"] spOrder) (border : Binds K dorder ["sheet"] []) (gorder : mg "_law_order" = some (.ref forder))
    (Fpick : Fun K "_law_pick" "_law_pick" sPick fpick dpick) (Gpick : FnOk P w K mg base CX0 (k + 1) fpick dpick ["pot", "many"] spPick) (bpick : Binds K dpick ["pot", "many"] []) (gpick : mg "_law_pick" = some (.ref fpick))
    (mbool : mg "bool" = none) (misinstance : mg "isinstance" = none) (mlen : mg "len" = none) (mlist : mg "list" = none) (mrange : mg "range" = none) (mrepr : mg "repr" = none) : FnOk P w K mg base CX0 (k + 2) f fd ["script"] (spLaw K) := by
  have nd := scLaw.nd
  refine F.ok scLaw (fun vs H Q E h => ?_) (fun cdv A outer s H vs Q E hr h => ?_)
  · obtain ⟨a, ns, rfl, _⟩ := h
    rfl
  · obtain ⟨a, ns, rfl, hA, hns, q⟩ := h
    refine ⟨_, (pss_cons (ps_set (i := 1) nd rfl (.inl rfl) (pe_call Gpot hr (by rfl) gpot Fpot.kp bpot .nil pass0 (pa_cons (pv 0) pa_nil)))
      (pss_cons (ps_for PassesOwn.never rfl (pi_range1 (by rfl) mrange (pa_cons pe_int pa_nil)) (pg_name (i := 2) nd rfl (.inl rfl)) (pss_cons (ps_set (i := 3) nd rfl (.inl rfl) (pe_call Gsheet hr (by rfl) gsheet Fsheet.kp bsheet .nil pass0 (pa_cons (pv 1) (pa_cons pe_int pa_nil))))
      (pss_cons (ps_asg (pe_call Gtwo hr (by rfl) gtwo Ftwo.kp btwo .nil pass0 (pa_cons (pv 1) (pa_cons (pv 3) pa_nil))) (pg_tup rfl (pgs_cons (pg_name (i := 4) nd rfl (.inl rfl)) (pgs_cons (pg_name (i := 5) nd rfl (.inl rfl)) pgs_nil))))
      (pss_cons (ps_for PassesOwn.never rfl (pi_list (pe_lst (pa_cons (pe_tup (pa_cons (pv 4) (pa_cons (pv 5) pa_nil))) (pa_cons (pe_tup (pa_cons (pv 5) (pa_cons (pv 4) pa_nil))) (pa_cons (pe_tup (pa_cons (pv 4) (pa_cons (pv 4) pa_nil))) pa_nil))))) (pg_tup rfl (pgs_cons (pg_name (i := 6) nd rfl (.inl rfl)) (pgs_cons (pg_name (i := 7) nd rfl (.inl rfl)) pgs_nil))) (pss_cons (ps_set (i := 8) nd rfl (.inl rfl) (pe_lst (pa_cons (pe_callTy call_list_of (by rfl) mlist (by decide +kernel) (pa_cons (pv 6) pa_nil)) (pa_cons (pe_callTy call_list_of (by rfl) mlist (by decide +kernel) (pa_cons (pv 7) pa_nil)) pa_nil))))
      (pss_cons (ps_set (i := 9) nd rfl (.inl rfl) (pe_call Gtold hr (by rfl) gtold Ftold.kp btold .nil pass0 (pa_cons (pv 3) (pa_cons (pe_ix ix_list (pv 8) pe_int (fun _ _ => rfl)) (pa_cons (pe_ix ix_list (pv 8) pe_int (fun _ _ => rfl)) pa_nil)))))
      (pss_cons (ps_if (PW.pt (pw_or (pt_not (pt_val (pe_callB call_isi (by rfl) misinstance (by decide +kernel) (pa_cons (pv 9) (pa_cons (pe_bltn (v := .ty "bool") (by rfl) mbool (by decide +kernel) rfl) pa_nil))))) (pw_or1 (pt_cmpR op_ne (pv 9) (pe_call Gless hr (by rfl) gless Fless.kp bless .nil pass0 (pa_cons (pv 3) (pa_cons (pv 6) (pa_cons (pv 7) pa_nil)))) (nomark _))))) (pss_one (ps_never)) pss_nil)
      (pss_one (ps_if (pt_cmpR (op_neD hr.units) (pv 8) (pe_lst (pa_cons (pv 6) (pa_cons (pv 7) pa_nil))) (nomark _)) (pss_one (ps_never)) pss_nil))))))
      (pss_one (ps_if (pt_not (pt_val (pe_call Godd hr (by rfl) godd Fodd.kp bodd .nil pass0 (pa_cons (pv 1) (pa_cons (pv 3) (pa_cons (pv 4) (pa_cons (pv 5) pa_nil))))))) (pss_one (ps_never)) pss_nil))))))
      (pss_cons (ps_set (i := 10) nd rfl (.inr rfl) (pe_call Gorder hr (by rfl) gorder Forder.kp border .nil pass0 (pa_cons (pv 3) pa_nil)))
      (pss_cons (ps_setLc (i := 11) (own := [("k", 14)]) (g := gName 14) (tt := tYes) (te := (tOp (rIxL K) (tVar 10) (tOp (rI (fun _ j => 0 < j) fun i j => .int (i % j)) (tOp (rI CMul fun i j => .int (i * j)) (tVar 14) (tVar 14)) (tCB (rLenS K) (tCons (tVar 10) tNil))))) rfl nd rfl rfl (sw_true rfl rfl rfl (by decide +kernel)) (pi_range1 (by rfl) mrange (pa_cons (pe_op op_sub pe_int (pe_call Gpick hr (by rfl) gpick Fpick.kp bpick .nil pass0 (pa_cons (pv 1) (pa_cons pe_int pa_nil)))) pa_nil)) (blkOk_by (own := [("k", 14)]) (N := nLaw) (sc := defScope sLaw) (by decide +kernel)) (fun _ _ _ _ _ => pg_name (i := 14) nd rfl (.inl rfl)) (fun _ _ _ _ _ => pts_nil) (fun _ _ _ _ _ => (pe_ix ix_list (pv 10) (pe_op op_mod (pe_op op_mul (pv 14) (pv 14)) (pe_callB call_len_seq (by rfl) mlen PySem.boot_len (pa_cons (pv 10) pa_nil))) (fun _ _ => rfl))))
      (pss_cons (ps_set (i := 12) nd rfl (.inl rfl) (pe_op op_sub (pe_op op_sub (pe_callB call_len_seq (by rfl) mlen PySem.boot_len (pa_cons (pv 11) pa_nil)) pe_int) (pe_call Gpick hr (by rfl) gpick Fpick.kp bpick .nil pass0 (pa_cons (pv 1) (pa_cons pe_int pa_nil)))))
      (pss_cons (ps_set (i := 5) nd rfl (.inl rfl) (pe_op op_cat (pe_op op_cat (pe_slice sl_list (pv 11) po_none (po_some (pv 12))) (pe_lst (pa_cons (pe_ix ix_list (pv 10) (pe_call Gpick hr (by rfl) gpick Fpick.kp bpick .nil pass0 (pa_cons (pv 1) (pa_cons (pe_callB call_len_seq (by rfl) mlen PySem.boot_len (pa_cons (pv 10) pa_nil)) pa_nil))) (fun _ _ => rfl)) pa_nil))) (pe_slice sl_list (pv 11) (po_some (pe_op op_add (pv 12) pe_int)) po_none)))
      (pss_cons (ps_set (i := 13) nd rfl (.inl rfl) (pe_call Gless hr (by rfl) gless Fless.kp bless .nil pass0 (pa_cons (pv 3) (pa_cons (pv 11) (pa_cons (pv 5) pa_nil)))))
      (pss_cons (ps_if (pt_cmpR op_ne (pe_callB call_repr_bl (by rfl) mrepr (by decide +kernel) (pa_cons (pe_call Gtold hr (by rfl) gtold Ftold.kp btold .nil pass0 (pa_cons (pv 3) (pa_cons (pe_callTy call_list_of (by rfl) mlist (by decide +kernel) (pa_cons (pv 11) pa_nil)) (pa_cons (pe_callTy call_list_of (by rfl) mlist (by decide +kernel) (pa_cons (pv 5) pa_nil)) pa_nil)))) pa_nil)) (pe_callB call_repr_bl (by rfl) mrepr (by decide +kernel) (pa_cons (pv 13) pa_nil)) (nomark _)) (pss_one (ps_never)) pss_nil)
      (pss_cons (ps_set (i := 13) nd rfl (.inl rfl) (pe_call Gless hr (by rfl) gless Fless.kp bless .nil pass0 (pa_cons (pv 3) (pa_cons (pv 5) (pa_cons (pv 11) pa_nil)))))
      (pss_one (ps_ret (pe_cmpR op_eq (pe_callB call_repr_bl (by rfl) mrepr (by decide +kernel) (pa_cons (pe_call Gtold hr (by rfl) gtold Ftold.kp btold .nil pass0 (pa_cons (pv 3) (pa_cons (pe_callTy call_list_of (by rfl) mlist (by decide +kernel) (pa_cons (pv 5) pa_nil)) (pa_cons (pe_callTy call_list_of (by rfl) mlist (by decide +kernel) (pa_cons (pv 11) pa_nil)) pa_nil)))) pa_nil)) (pe_callB call_repr_bl (by rfl) mrepr (by decide +kernel) (pa_cons (pv 13) pa_nil)) (nomark _))))))))))))), ?_⟩
    have sz : ∀ n : Nat, n ≤ 1000 → n ≤ sizeLine := fun n h => Nat.le_trans h (by decide)
    refine ⟨_, rfl, a, ns, rfl, hA, hns, fun p c ms H1 e1 hP1 np nc => ?_⟩
    refine ⟨6, rfl, by decide, by decide, for_range (lo := 0) (n := 6) (fun i σ H' => Pot p c ms H' ∧ ∃ y2 y3 y4 y5 y6 y7 y8 y9, σ = [some (.ref a), some (.ref p), y2, y3, y4, y5, y6, y7, y8, y9, none, none, none, none, none] ∧ (i = 0 ∨ ∃ sh os ps qs, y3 = some (.ref sh) ∧ Sht os ps qs ∧ SheetAt H' sh os ps qs)) ⟨hP1, _, _, _, _, _, _, _, _, rfl, .inl rfl⟩ ?_ ?_⟩
    · rintro i σ H2 hi ⟨hP2, y2, y3, y4, y5, y6, y7, y8, y9, rfl, _⟩
      refine ⟨_, rfl, p, c, ms, 4, rfl, by decide, by decide, hP2, fun os ps qs sh H3 hS hs3 kp3 hP3 => ?_⟩
      refine ⟨_, rfl, _, rfl, p, c, sh, ms, os, ps, qs, rfl, hP3, hS, hs3, fun A B aa bb t H4 iA iB lA lB kp4 hP4 ha4 hb4 ht4 => ?_⟩
      refine ⟨t, _, rfl, st_of ht4, rfl, _, _, rfl, _, _, rfl, rfl, ?_⟩
      have hs4 := hs3.keep hP3 kp4
      refine ⟨_, rfl, _, rfl, sz 2 (by decide), fun t1 n1 => ⟨_, rfl, _, rfl, sz 2 (by decide), fun t2 n2 => ⟨_, rfl, _, rfl, sz 2 (by decide), fun t3 n3 => ⟨sz 3 (by decide), fun M nM => ?_⟩⟩⟩⟩
      have x1 : Ex H4 _ := Ex.new (o := .tup [.ref aa, .ref bb]) n1
      have x2 := Ex.new (o := .tup [.ref bb, .ref aa]) n2
      have x3 := Ex.new (o := .tup [.ref aa, .ref aa]) n3
      have x4 := Ex.new (o := .lst [.ref t1, .ref t2, .ref t3]) nM
      refine ⟨M, rfl, ⟨_, sq_of upd_same⟩, for_list (xs := [.ref t1, .ref t2, .ref t3]) (fun j σ H' => (∃ y6 y7 y8 y9, σ = [some (.ref a), some (.ref p), some (.int (0 + (i : Int))), some (.ref sh), some (.ref aa), some (.ref bb), y6, y7, y8, y9, none, none, none, none, none]) ∧ Ex H4 H' ∧ H' M = some (.lst [.ref t1, .ref t2, .ref t3]) ∧ H' t1 = some (.tup [.ref aa, .ref bb]) ∧ H' t2 = some (.tup [.ref bb, .ref aa]) ∧ H' t3 = some (.tup [.ref aa, .ref aa])) ⟨⟨_, _, _, _, rfl⟩, ((x1.trans x2).trans x3).trans x4, upd_same, ((x2.trans x3).trans x4) _ _ upd_same, (x3.trans x4) _ _ upd_same, x4 _ _ upd_same⟩ (fun j σ H' _ hh => sq_of hh.2.2.1) ?_ ?_⟩
      · rintro j x σ H5 hx ⟨⟨y6, y7, y8, y9, rfl⟩, e5, hM5, g1, g2, g3⟩
        obtain ⟨t', u1, u2, W1, W2, rfl, ht', hu1, hu2, i1, i2, l1, l2⟩ : ∃ t' u1 u2 W1 W2, x = .ref t' ∧ H5 t' = some (.tup [.ref u1, .ref u2]) ∧ H5 u1 = some (lS W1) ∧ H5 u2 = some (lS W2) ∧ AllIn (os ++ ps ++ qs) W1 ∧ AllIn (os ++ ps ++ qs) W2 ∧ W1.length ≤ 41 ∧ W2.length ≤ 41 := by
          have hj := (List.getElem?_eq_some_iff.mp hx).1
          have hj3 : j < 3 := hj
          rcases (show j = 0 ∨ j = 1 ∨ j = 2 by omega) with rfl | rfl | rfl
          · cases hx
            exact ⟨t1, aa, bb, A, B, rfl, g1, e5 _ _ ha4, e5 _ _ hb4, iA, iB, lA, lB⟩
          · cases hx
            exact ⟨t2, bb, aa, B, A, rfl, g2, e5 _ _ hb4, e5 _ _ ha4, iB, iA, lB, lA⟩
          · cases hx
            exact ⟨t3, aa, aa, A, A, rfl, g3, e5 _ _ ha4, e5 _ _ ha4, iA, iA, lA, lA⟩
        have z1 : ∀ x ∈ W1, ∀ c ∈ cs x, az c := fun x hx => (hS.lt x (i1 x hx)).1
        have z2 : ∀ x ∈ W2, ∀ c ∈ cs x, az c := fun x hx => (hS.lt x (i2 x hx)).1
        refine ⟨t', _, rfl, st_of ht', rfl, _, _, rfl, _, _, rfl, rfl, ?_⟩
        refine ⟨_, rfl, u1, _, rfl, .inl (sq_of hu1), fun v1 nv1 => ?_⟩
        have w1 := Ex.new (o := lS W1) nv1
        refine ⟨_, rfl, u2, _, rfl, .inl (sq_of (w1 _ _ hu2)), fun v2 nv2 => ⟨sz 2 (by decide), fun hd nhd => ?_⟩⟩
        have w2 := Ex.new (o := lS W2) nv2
        have w3 := Ex.new (o := .lst [.ref v1, .ref v2]) nhd
        have w4 : Ex H5 _ := (w1.trans w2).trans w3
        have hv1 := (w2.trans w3) v1 (lS W1) upd_same
        have hv2 := w3 v2 (lS W2) upd_same
        refine ⟨_, rfl, _, rfl, hd, _, 0, .ref v1, rfl, rfl, sq_of upd_same, rfl, _, rfl, hd, _, 1, .ref v2, rfl, rfl, sq_of upd_same, rfl, sh, v1, v2, os, ps, qs, W1, W2, rfl, hS, hs4.ex (e5.trans w4), sq_of hv1, sq_of hv2, by omega, by omega, fun _ _ H7 e7 => ?_, fun r hr' => (by rcases hr' with b | ⟨_, b⟩; exact (b.no i1).elim; exact (b.no i2).elim)⟩
        have e57 := w4.trans e7
        have e47 := e5.trans e57
        refine ⟨_, rfl, _, _, _, _, true, rfl, .ty _, .base (.bl _), kit_ty (by decide +kernel), _, rfl, iteF ?_⟩
        refine ⟨_, rfl, _, rfl, _, rfl, _, rfl, sh, u1, u2, os, ps, qs, W1, W2, rfl, hS, hs4.ex e47, sq_of (e57 _ _ hu1), sq_of (e57 _ _ hu2), by omega, by omega, i1, i2, fun H8 e8 => ⟨rfl, _, rfl, ?_⟩⟩
        rw [decide_eq_true rfl]
        refine iteF ?_
        have e78 := e7.trans e8
        have e58 := e57.trans e8
        refine ⟨_, rfl, _, rfl, _, rfl, sz 2 (by decide), fun z nz => ?_⟩
        have wz : Ex H8 _ := Ex.new (o := .lst [.ref u1, .ref u2]) nz
        have hd8 := (e78.trans wz) hd (.lst [.ref v1, .ref v2]) upd_same
        refine ⟨.list [.list (W1.map PyData.str), .list (W2.map PyData.str)], .list [.list (W1.map PyData.str), .list (W2.map PyData.str)], .lst (sq_of hd8) (.cons (.lst (sq_of ((e78.trans wz) _ _ hv1)) (dpStrs W1)) (.cons (.lst (sq_of ((e78.trans wz) _ _ hv2)) (dpStrs W2)) .nil)), .lst (sq_of upd_same) (.cons (.lst (sq_of ((e58.trans wz) _ _ hu1)) (dpStrs W1)) (.cons (.lst (sq_of ((e58.trans wz) _ _ hu2)) (dpStrs W2)) .nil)), shaped_nest z1 z2, shaped_nest z1 z2, _, rfl, ?_⟩
        rw [show PyData.eqv (.list [.list (W1.map PyData.str), .list (W2.map PyData.str)]) (.list [.list (W1.map PyData.str), .list (W2.map PyData.str)]) = true from SeqAt.eqv_refl _ (lay_nest z1 z2)]
        have e5z := e58.trans wz
        exact iteF ⟨⟨_, _, _, _, rfl⟩, e5.trans e5z, e5z _ _ hM5, e5z _ _ g1, e5z _ _ g2, e5z _ _ g3⟩
      · rintro σ H6 ⟨⟨y6, y7, y8, y9, rfl⟩, e6, _⟩
        exact ⟨_, rfl, _, rfl, _, rfl, _, rfl, p, c, sh, aa, bb, ms, os, ps, qs, A, B, rfl, hP4.ex e6, hS, hs4.ex e6, e6 _ _ ha4, e6 _ _ hb4, iA, iB, lA, lB, fun H7 kp7 hP7 => ⟨_, rfl, iteF ⟨hP7, _, _, _, _, _, _, _, _, rfl, .inr ⟨sh, os, ps, qs, rfl, hS, (hs4.ex e6).keep (hP4.ex e6) kp7⟩⟩⟩⟩
    · rintro σ H2 ⟨hP2, y2, y3, y4, y5, y6, y7, y8, y9, rfl, hsh⟩
      rcases hsh with h | ⟨sh, os, ps, qs, rfl, hS, hs2⟩
      · exact absurd h (by decide)
      have y0 := hS.n0
      have y1 := hS.n12
      have L0 : 0 < (os ++ ps ++ qs).length := by
        cases hz : (os ++ ps ++ qs) with
        | nil => exact absurd hz y0
        | cons _ _ => exact Nat.succ_pos _
      refine ⟨_, rfl, sh, os, ps, qs, rfl, hS, hs2, fun r H3 e3 nr hr3 => ?_⟩
      refine ⟨_, rfl, p, c, ms, 60, rfl, by decide, by decide, hP2.ex e3, fun v H4 hv kp4 hP4 => ⟨_, _, rfl, rfl, _, rfl, by omega, by omega, fun D nD => ?_⟩⟩
      have hr4 := kp4 _ _ (lS_ne (hP2.ex e3) hr3) hr3
      have hs4 := (hs2.ex e3).keep (hP2.ex e3) kp4
      refine lc_range (lo := 0) (n := ((400 : Int) - (v : Int)).toNat) (fun i H' => ∃ ds : List Str, ds.length = i ∧ AllIn (os ++ ps ++ qs) ds ∧ H' D = some (lS ds) ∧ Ex H4 H') ⟨[], rfl, fun d hd => (List.not_mem_nil hd).elim, upd_same, Ex.new nD⟩ ?_ ?_
      · rintro i H' hi ⟨ds, hds, hdm, hD, eH⟩
        have e0 : (0 : Int) + (i : Int) = (i : Int) := Int.zero_add _
        rw [e0]
        have hj : (i * i) % (os ++ ps ++ qs).length < (os ++ ps ++ qs).length := Nat.mod_lt _ L0
        refine ⟨rfl, yesT ⟨_, rfl, _, rfl, _, rfl, _, _, rfl, rfl, .inl ⟨by omega, by omega⟩, _, rfl, r, _, rfl, .inl (sq_of (eH _ _ hr4)), _, _, rfl, rfl, ?_, r, _, _, .str (os ++ ps ++ qs)[(i * i) % (os ++ ps ++ qs).length], rfl, rfl, sq_of (eH _ _ hr4), at_of (j := (i * i) % (os ++ ps ++ qs).length) ?_ ?_, _, hD, ?_, ds ++ [(os ++ ps ++ qs)[(i * i) % (os ++ ps ++ qs).length]], ?_, ?_, ?_, eH.mut nD⟩⟩
        · rw [List.length_map]
          omega
        · rw [List.length_map, ← Int.natCast_mul, ← Int.natCast_emod]
        · rw [List.getElem?_map, List.getElem?_eq_getElem hj]
          rfl
        · rw [List.length_map]
          exact sz_lt (by omega)
        · rw [List.length_append, hds]
          rfl
        · intro d hd
          rcases List.mem_append.mp hd with z | z
          · exact hdm d z
          · rw [List.mem_singleton.mp z]
            exact List.getElem_mem hj
        · rw [upd_same, lS_add]
      · rintro H5 ⟨ds, hds, hdm, hD, eH⟩
        have hP5 := hP4.ex eH
        have hs5 := hs4.ex eH
        have hr5 := eH _ _ hr4
        refine ⟨_, rfl, D, _, rfl, .inl (sq_of hD), _, _, rfl, rfl, _, rfl, p, c, ms, 3, rfl, by decide, by decide, hP5, fun u H6 hu kp6 hP6 => ⟨_, _, rfl, rfl, ?_⟩⟩
        show tSeq _ _ _ [some (.ref a), some (.ref p), y2, some (.ref sh), y4, y5, y6, y7, y8, y9, some (.ref r), some (.ref D), some (.int ((((ds.map V.str).length : Nat) : Int) - 1 - (u : Int))), none, none] H6
        rw [show (((ds.map V.str).length : Nat) : Int) - 1 - (u : Int) = ((ds.length - 1 - u : Nat) : Int) by rw [List.length_map]; omega]
        generalize hat : ds.length - 1 - u = at_
        have hD6 := kp6 _ _ (lS_ne hP5 hD) hD
        have hr6 := kp6 _ _ (lS_ne hP5 hr5) hr5
        have hs6 := hs5.keep hP5 kp6
        refine ⟨_, rfl, _, rfl, _, rfl, D, _, rfl, sq_of hD6, fun a1 na1 => ?_⟩
        rw [map_cut0]
        have x7 : Ex H6 _ := Ex.new (o := lS (ds.take at_)) na1
        have hP7 := hP6.ex x7
        refine draw_ordJ hP7 rfl rfl (x7 _ _ hr6) y0 (by omega) fun x H8 hx kp8 hP8 => ⟨sz 1 (by decide), fun a2 na2 => ?_⟩
        have ha1 := kp8 a1 (lS (ds.take at_)) (lS_ne hP7 upd_same) upd_same
        have hD8 := kp8 _ _ (lS_ne hP7 (x7 _ _ hD6)) (x7 _ _ hD6)
        have hs8 := (hs6.ex x7).keep hP7 kp8
        have x9 : Ex H8 _ := Ex.new (o := lS [x]) na2
        refine ⟨a1, a2, _, _, rfl, rfl, x9 _ _ ha1, upd_same, sz _ (by rw [List.length_map, List.length_take]; show _ + 1 ≤ 1000; omega), fun a3 na3 => ?_⟩
        have x10 := x9.trans (Ex.new (o := .lst ((ds.take at_).map V.str ++ [V.str x])) na3)
        refine ⟨_, rfl, _, rfl, _, _, rfl, rfl, _, rfl, D, _, rfl, sq_of (x10 _ _ hD8), fun a4 na4 => ?_⟩
        rw [show ((at_ : Nat) : Int) + 1 = ((at_ + 1 : Nat) : Int) from rfl, map_cutF]
        have x11 := x10.trans (Ex.new (o := lS (ds.drop (at_ + 1))) na4)
        refine ⟨a3, a4, _, _, rfl, rfl, Ex.new na4 _ _ upd_same, upd_same, sz _ (by rw [List.length_append, List.length_map, List.length_map, List.length_take, List.length_drop]; show _ + 1 + _ ≤ 1000; omega), fun a5 na5 => ?_⟩
        rw [show (ds.take at_).map V.str ++ [V.str x] ++ (ds.drop (at_ + 1)).map V.str = (ds.take at_ ++ [x] ++ ds.drop (at_ + 1)).map V.str by rw [List.map_append, List.map_append]; rfl]
        have x12 := x11.trans (Ex.new (o := lS (ds.take at_ ++ [x] ++ ds.drop (at_ + 1))) na5)
        have iW : AllIn (os ++ ps ++ qs) (ds.take at_ ++ [x] ++ ds.drop (at_ + 1)) := fun y hy => by
          rcases List.mem_append.mp hy with z | z
          · rcases List.mem_append.mp z with z | z
            · exact hdm y (List.mem_of_mem_take z)
            · rw [List.mem_singleton.mp z]
              exact hx
          · exact hdm y (List.mem_of_mem_drop z)
        have lW : (ds.take at_ ++ [x] ++ ds.drop (at_ + 1)).length ≤ 1000 := by
          rw [List.length_append, List.length_append, List.length_take, List.length_drop]
          show _ + 1 + _ ≤ 1000
          omega
        have hD12 := x12 _ _ hD8
        have hs12 := hs8.ex x12
        refine ⟨_, rfl, _, rfl, _, rfl, sh, D, a5, os, ps, qs, ds, (ds.take at_ ++ [x] ++ ds.drop (at_ + 1)), rfl, hS, hs12, sq_of hD12, sq_of upd_same, by omega, by omega, hdm, iW, fun H13 e13 => ?_⟩
        have hD13 := e13 _ _ hD12
        have hW13 := e13 a5 (lS (ds.take at_ ++ [x] ++ ds.drop (at_ + 1))) upd_same
        have hs13 := hs12.ex e13
        refine ⟨_, rfl, _, rfl, D, _, rfl, .inl (sq_of hD13), fun c1 nc1 => ?_⟩
        have v1 : Ex H13 _ := Ex.new (o := lS ds) nc1
        refine ⟨_, rfl, a5, _, rfl, .inl (sq_of (v1 _ _ hW13)), fun c2 nc2 => ?_⟩
        have v2 := v1.trans (Ex.new (o := lS (ds.take at_ ++ [x] ++ ds.drop (at_ + 1))) nc2)
        refine ⟨sh, c1, c2, os, ps, qs, ds, (ds.take at_ ++ [x] ++ ds.drop (at_ + 1)), rfl, hS, hs13.ex v2, sq_of (Ex.new nc2 _ _ upd_same), sq_of upd_same, by omega, by omega, fun _ _ H14 e14 => ?_, fun r hr' => (by rcases hr' with b | ⟨_, b⟩; exact (b.no hdm).elim; exact (b.no iW).elim)⟩
        refine ⟨_, rfl, _, rfl, _, rfl, rfl, _, rfl, ?_⟩
        rw [decide_eq_true rfl]
        refine iteF ?_
        have e1314 := v2.trans e14
        have hD14 := e1314 _ _ hD13
        have hW14 := e1314 _ _ hW13
        have hs14 := hs13.ex e1314
        refine ⟨_, rfl, _, rfl, _, rfl, sh, a5, D, os, ps, qs, (ds.take at_ ++ [x] ++ ds.drop (at_ + 1)), ds, rfl, hS, hs14, sq_of hW14, sq_of hD14, by omega, by omega, iW, hdm, fun H15 e15 => ?_⟩
        have hD15 := e15 _ _ hD14
        have hW15 := e15 _ _ hW14
        have hs15 := hs14.ex e15
        refine ⟨_, rfl, _, rfl, a5, _, rfl, .inl (sq_of hW15), fun c3 nc3 => ?_⟩
        have v3 : Ex H15 _ := Ex.new (o := lS (ds.take at_ ++ [x] ++ ds.drop (at_ + 1))) nc3
        refine ⟨_, rfl, D, _, rfl, .inl (sq_of (v3 _ _ hD15)), fun c4 nc4 => ?_⟩
        have v4 := v3.trans (Ex.new (o := lS ds) nc4)
        refine ⟨sh, c3, c4, os, ps, qs, (ds.take at_ ++ [x] ++ ds.drop (at_ + 1)), ds, rfl, hS, hs15.ex v4, sq_of (Ex.new nc4 _ _ upd_same), sq_of upd_same, by omega, by omega, fun _ _ H16 e16 => ?_, fun r hr' => (by rcases hr' with b | ⟨_, b⟩; exact (b.no iW).elim; exact (b.no hdm).elim)⟩
        refine ⟨_, rfl, _, rfl, _, rfl, rfl, ?_⟩
        rw [decide_eq_true rfl]
        exact q _
end
end Eh
set_option Elab.async false
set_option linter.all false
set_option maxRecDepth 100000
set_option maxHeartbeats 4000000
namespace Eh
open PySem PySem.Spec PyProof.Rows L2 NdefX
section
variable {K : PySem.W.Frag} {C D : Addr}
theorem kit_yes (ty : PySem.W.typeIn K (.ref D) = some (.type "type")) (is : PySem.W.isClsIn K D = true) (sub : PySem.W.subIn K (.ref C) (.ref D) = some true) : PySem.W.kitOne K (.ref C) (.ref D) = some true := by
  unfold PySem.W.kitOne
  split
  · rfl
  · unfold PySem.W.kitCls
    have e : ((PySem.W.clsIn K D).isSome && PySem.W.typeIn K (.ref D) == some (.type "type")) = true := by
      rw [ty, show (PySem.W.clsIn K D).isSome = true from is]
      rfl
    simp only [e, if_true]
    exact sub
theorem kit_no (ty : PySem.W.typeIn K (.ref D) = some (.type "type")) (is : PySem.W.isClsIn K D = true) (sub : PySem.W.subIn K (.ref C) (.ref D) = some false) (me : PySem.W.subIn K (.ref C) (.ref C) = some true) : PySem.W.kitOne K (.ref C) (.ref D) = some false := by
  unfold PySem.W.kitOne
  split
  · rename_i h
    have z : C = D := Value.ref.inj (beq_iff_eq.mp h)
    rw [← z, me] at sub
    cases sub
  · unfold PySem.W.kitCls
    have e : ((PySem.W.clsIn K D).isSome && PySem.W.typeIn K (.ref D) == some (.type "type")) = true := by
      rw [ty, show (PySem.W.clsIn K D).isSome = true from is]
      rfl
    simp only [e, if_true]
    exact sub
theorem kit_val (sub : PySem.W.subIn K (.ref C) (.type "ValueError") = some true) : PySem.W.kitOne K (.ref C) (.type "ValueError") = some true := by
  unfold PySem.W.kitOne
  rw [if_neg (by simp)]
  unfold PySem.W.kitCls
  have e : PySem.W.kitMeta "ValueError" = true := by decide +kernel
  simp only [e, if_true]
  exact sub
end
/-- f'..{f}' of two parts -/
theorem txt_two {st : Stmt} {f t : Str} {p1 p2 p3 p4 : Pos} (kf : (defScope st).names.lookup f = some .local) (f1 : (f == ("__debug__" : Str)) = false) (f2 : (f == ("__classdict__" : Str)) = false) (ht : t.length ≤ 1000) : ∀ X : Cx, X.N = (["self", f, "__class__"] : List Str) → X.env.scope = defScope st → ∃ tJ : TE, PE X (.JoinedStr [.Constant (.str t) 0 p1, .FormattedValue (.Name f p2) (-1) none p3] p4) tJ ∧ ∀ (σ : L2.St) (H : Hp) (n : Int) (Q : VK), n.natAbs.log2 < 1900 → σ[1]? = some (some (V.int n)) → (∀ z : Str, Q (.str z) H) → tJ σ H Q := by
  intro X eN eS
  refine ⟨_, pe_joined (.cons pe_str (.cons (pe_fmt (pe_var (i := 1) (by rw [eN]; rfl) (.inl (by rw [eS]; exact kf)) f1 f2)) .nil)), fun σ H n Q hn h1 q => ?_⟩
  have l1 : (Str.ofString (toString n)).length ≤ 2000 := by
    have e := int_text_length_le (k := 1920) (by decide) (show n.natAbs.log2 < 1920 by omega)
    rw [PySem.ofString_length]
    omega
  have la : ∀ a b : Str, (a ++ b).length = a.length + b.length := fun a b => by
    show (a.cps ++ b.cps).size = _
    rw [Array.size_append]
    rfl
  have l0 : Str.empty.length = 0 := rfl
  refine ⟨t, rfl, ?_, _, h1, .inr ⟨n, rfl, by omega, _, rfl, ?_, q _⟩⟩
  · rw [la, sizeLine_eq]
    omega
  · rw [la, la, sizeLine_eq]
    omega
end Eh
set_option Elab.async false
set_option linter.all false
set_option maxRecDepth 100000
set_option maxHeartbeats 4000000
namespace Eh
open PySem PySem.Spec PyProof.Rows L2 Evl NdefX
theorem all_mk {l : PySem.W.OpenLaw} {w : World} {K : PySem.W.Frag} {h : Heap} {mg : Str → Option Value} {fa f0 f1 f2 f3 f4 f5 f6 f7 f8 f9 f10 f11 f12 f13 f14 f15 f16 : Addr} (X : K.In h) (G : h.Ns mainGlobals mg) (hfa : mg "law" = some (.ref fa))
    {od0 an0 : Option Addr} {sl0 : Array (Option Value)} {oc0 kV0 dc0 pm0 cd0 ct0 : Value}
    {od1 an1 : Option Addr} {sl1 : Array (Option Value)} {oc1 kV1 dc1 pm1 cd1 ct1 : Value}
    {od2 an2 : Option Addr} {sl2 : Array (Option Value)} {oc2 kV2 dc2 pm2 cd2 ct2 : Value}
    {od3 an3 : Option Addr} {sl3 : Array (Option Value)} {oc3 kV3 dc3 pm3 cd3 ct3 : Value}
    {od4 an4 : Option Addr} {sl4 : Array (Option Value)} {oc4 kV4 dc4 pm4 cd4 ct4 : Value}
    {od5 an5 : Option Addr} {sl5 : Array (Option Value)} {oc5 kV5 dc5 pm5 cd5 ct5 : Value}
    {od6 an6 : Option Addr} {sl6 : Array (Option Value)} {oc6 kV6 dc6 pm6 cd6 ct6 : Value}
    {od7 an7 : Option Addr} {sl7 : Array (Option Value)} {oc7 kV7 dc7 pm7 cd7 ct7 : Value}
    {od8 an8 : Option Addr} {sl8 : Array (Option Value)} {oc8 kV8 dc8 pm8 cd8 ct8 : Value}
    {od9 an9 : Option Addr} {sl9 : Array (Option Value)} {oc9 kV9 dc9 pm9 cd9 ct9 : Value}
    {od10 an10 : Option Addr} {sl10 : Array (Option Value)} {oc10 kV10 dc10 pm10 cd10 ct10 : Value}
    {od11 an11 : Option Addr} {sl11 : Array (Option Value)} {oc11 kV11 dc11 pm11 cd11 ct11 : Value}
    {od12 an12 : Option Addr} {sl12 : Array (Option Value)} {oc12 kV12 dc12 pm12 cd12 ct12 : Value}
    {od13 an13 : Option Addr} {sl13 : Array (Option Value)} {oc13 kV13 dc13 pm13 cd13 ct13 : Value}
    {od14 an14 : Option Addr} {sl14 : Array (Option Value)} {oc14 kV14 dc14 pm14 cd14 ct14 : Value}
    {od15 an15 : Option Addr} {sl15 : Array (Option Value)} {oc15 kV15 dc15 pm15 cd15 ct15 : Value}
    {od16 an16 : Option Addr} {sl16 : Array (Option Value)} {oc16 kV16 dc16 pm16 cd16 ct16 : Value}
    {CH C0 C1 C2 C3 C4 C5 C6 C7 C8 C9 C10 : Addr}
    {nm0 qn0 : Str} {N0 : Addr} {bs0 : List Value} {sn0 : List Str} {su0 : List Value} {ab0 : Bool} {co0 : Option Bool} {dd0 : Option Addr} {m00 m10 m20 m30 m50 : Option Value}
    {fI0 cda0 cel0 : Addr} {ocI0 kVI0 dcI0 pmI0 ctI0 cl0 ccl0 : Value} {odI0 anI0 cld0 cdd0 : Option Addr} {slI0 csl0 ccs0 : Array (Option Value)} {vsC0 : Array Value} {fil0 : Str} {tf0 : Tok}
    (a0 : PySem.W.nsIn K mainGlobals "order_of" = some (some (.ref f0)))
    (l0 : K.lookup f0 = some ⟨oc0, od0, .func (PySem.W.fnOf "order_of" "order_of" (defArgs sOrderOf) (defBody sOrderOf) (defScope sOrderOf) .none kV0 dc0 pm0 an0 cd0 ct0), sl0⟩)
    (c0 : PySem.W.codeIn K cd0 "order_of" = true)
    (k0 : PySem.W.keepIn K (.ref f0) = true)
    (a1 : PySem.W.nsIn K mainGlobals "need_word" = some (some (.ref f1)))
    (l1 : K.lookup f1 = some ⟨oc1, od1, .func (PySem.W.fnOf "need_word" "need_word" (defArgs sNeedWord) (defBody sNeedWord) (defScope sNeedWord) .none kV1 dc1 pm1 an1 cd1 ct1), sl1⟩)
    (c1 : PySem.W.codeIn K cd1 "need_word" = true)
    (k1 : PySem.W.keepIn K (.ref f1) = true)
    (a2 : PySem.W.nsIn K mainGlobals "is_less" = some (some (.ref f2)))
    (l2 : K.lookup f2 = some ⟨oc2, od2, .func (PySem.W.fnOf "is_less" "is_less" (defArgs sIsLess) (defBody sIsLess) (defScope sIsLess) .none kV2 dc2 pm2 an2 cd2 ct2), sl2⟩)
    (c2 : PySem.W.codeIn K cd2 "is_less" = true)
    (k2 : PySem.W.keepIn K (.ref f2) = true)
    (a3 : PySem.W.nsIn K mainGlobals "_law_blend" = some (some (.ref f3)))
    (l3 : K.lookup f3 = some ⟨oc3, od3, .func (PySem.W.fnOf "_law_blend" "_law_blend" (defArgs sBlend) (defBody sBlend) (defScope sBlend) .none kV3 dc3 pm3 an3 cd3 ct3), sl3⟩)
    (c3 : PySem.W.codeIn K cd3 "_law_blend" = true)
    (k3 : PySem.W.keepIn K (.ref f3) = true)
    (a4 : PySem.W.nsIn K mainGlobals "_law_pot" = some (some (.ref f4)))
    (l4 : K.lookup f4 = some ⟨oc4, od4, .func (PySem.W.fnOf "_law_pot" "_law_pot" (defArgs sPot) (defBody sPot) (defScope sPot) .none kV4 dc4 pm4 an4 cd4 ct4), sl4⟩)
    (c4 : PySem.W.codeIn K cd4 "_law_pot" = true)
    (k4 : PySem.W.keepIn K (.ref f4) = true)
    (a5 : PySem.W.nsIn K mainGlobals "_law_pick" = some (some (.ref f5)))
    (l5 : K.lookup f5 = some ⟨oc5, od5, .func (PySem.W.fnOf "_law_pick" "_law_pick" (defArgs sPick) (defBody sPick) (defScope sPick) .none kV5 dc5 pm5 an5 cd5 ct5), sl5⟩)
    (c5 : PySem.W.codeIn K cd5 "_law_pick" = true)
    (k5 : PySem.W.keepIn K (.ref f5) = true)
    (a6 : PySem.W.nsIn K mainGlobals "_law_letters" = some (some (.ref f6)))
    (l6 : K.lookup f6 = some ⟨oc6, od6, .func (PySem.W.fnOf "_law_letters" "_law_letters" (defArgs sLetters) (defBody sLetters) (defScope sLetters) .none kV6 dc6 pm6 an6 cd6 ct6), sl6⟩)
    (c6 : PySem.W.codeIn K cd6 "_law_letters" = true)
    (k6 : PySem.W.keepIn K (.ref f6) = true)
    (a7 : PySem.W.nsIn K mainGlobals "_law_sheet" = some (some (.ref f7)))
    (l7 : K.lookup f7 = some ⟨oc7, od7, .func (PySem.W.fnOf "_law_sheet" "_law_sheet" (defArgs sSheet) (defBody sSheet) (defScope sSheet) .none kV7 dc7 pm7 an7 cd7 ct7), sl7⟩)
    (c7 : PySem.W.codeIn K cd7 "_law_sheet" = true)
    (k7 : PySem.W.keepIn K (.ref f7) = true)
    (a8 : PySem.W.nsIn K mainGlobals "_law_order" = some (some (.ref f8)))
    (l8 : K.lookup f8 = some ⟨oc8, od8, .func (PySem.W.fnOf "_law_order" "_law_order" (defArgs sOrder) (defBody sOrder) (defScope sOrder) .none kV8 dc8 pm8 an8 cd8 ct8), sl8⟩)
    (c8 : PySem.W.codeIn K cd8 "_law_order" = true)
    (k8 : PySem.W.keepIn K (.ref f8) = true)
    (a9 : PySem.W.nsIn K mainGlobals "_law_kind" = some (some (.ref f9)))
    (l9 : K.lookup f9 = some ⟨oc9, od9, .func (PySem.W.fnOf "_law_kind" "_law_kind" (defArgs sKind) (defBody sKind) (defScope sKind) .none kV9 dc9 pm9 an9 cd9 ct9), sl9⟩)
    (c9 : PySem.W.codeIn K cd9 "_law_kind" = true)
    (k9 : PySem.W.keepIn K (.ref f9) = true)
    (a10 : PySem.W.nsIn K mainGlobals "_law_word" = some (some (.ref f10)))
    (l10 : K.lookup f10 = some ⟨oc10, od10, .func (PySem.W.fnOf "_law_word" "_law_word" (defArgs sWord) (defBody sWord) (defScope sWord) .none kV10 dc10 pm10 an10 cd10 ct10), sl10⟩)
    (c10 : PySem.W.codeIn K cd10 "_law_word" = true)
    (k10 : PySem.W.keepIn K (.ref f10) = true)
    (a11 : PySem.W.nsIn K mainGlobals "_law_two" = some (some (.ref f11)))
    (l11 : K.lookup f11 = some ⟨oc11, od11, .func (PySem.W.fnOf "_law_two" "_law_two" (defArgs sTwo) (defBody sTwo) (defScope sTwo) .none kV11 dc11 pm11 an11 cd11 ct11), sl11⟩)
    (c11 : PySem.W.codeIn K cd11 "_law_two" = true)
    (k11 : PySem.W.keepIn K (.ref f11) = true)
    (a12 : PySem.W.nsIn K mainGlobals "_law_less" = some (some (.ref f12)))
    (l12 : K.lookup f12 = some ⟨oc12, od12, .func (PySem.W.fnOf "_law_less" "_law_less" (defArgs sLess) (defBody sLess) (defScope sLess) .none kV12 dc12 pm12 an12 cd12 ct12), sl12⟩)
    (c12 : PySem.W.codeIn K cd12 "_law_less" = true)
    (k12 : PySem.W.keepIn K (.ref f12) = true)
    (a13 : PySem.W.nsIn K mainGlobals "_law_told" = some (some (.ref f13)))
    (l13 : K.lookup f13 = some ⟨oc13, od13, .func (PySem.W.fnOf "_law_told" "_law_told" (defArgs sTold) (defBody sTold) (defScope sTold) .none kV13 dc13 pm13 an13 cd13 ct13), sl13⟩)
    (c13 : PySem.W.codeIn K cd13 "_law_told" = true)
    (k13 : PySem.W.keepIn K (.ref f13) = true)
    (a14 : PySem.W.nsIn K mainGlobals "_law_strange" = some (some (.ref f14)))
    (l14 : K.lookup f14 = some ⟨oc14, od14, .func (PySem.W.fnOf "_law_strange" "_law_strange" (defArgs sStrange) (defBody sStrange) (defScope sStrange) .none kV14 dc14 pm14 an14 cd14 ct14), sl14⟩)
    (c14 : PySem.W.codeIn K cd14 "_law_strange" = true)
    (k14 : PySem.W.keepIn K (.ref f14) = true)
    (a15 : PySem.W.nsIn K mainGlobals "_law_odd" = some (some (.ref f15)))
    (l15 : K.lookup f15 = some ⟨oc15, od15, .func (PySem.W.fnOf "_law_odd" "_law_odd" (defArgs sOdd) (defBody sOdd) (defScope sOdd) .none kV15 dc15 pm15 an15 cd15 ct15), sl15⟩)
    (c15 : PySem.W.codeIn K cd15 "_law_odd" = true)
    (k15 : PySem.W.keepIn K (.ref f15) = true)
    (a16 : PySem.W.nsIn K mainGlobals "law" = some (some (.ref f16)))
    (l16 : K.lookup f16 = some ⟨oc16, od16, .func (PySem.W.fnOf "law" "law" (defArgs sLaw) (defBody sLaw) (defScope sLaw) .none kV16 dc16 pm16 an16 cd16 ct16), sl16⟩)
    (c16 : PySem.W.codeIn K cd16 "law" = true)
    (k16 : PySem.W.keepIn K (.ref f16) = true)
    (z0 : PySem.W.nsIn K mainGlobals "len" = some none)
    (z1 : PySem.W.nsIn K mainGlobals "list" = some none)
    (z2 : PySem.W.nsIn K mainGlobals "enumerate" = some none)
    (z3 : PySem.W.nsIn K mainGlobals "range" = some none)
    (z4 : PySem.W.nsIn K mainGlobals "min" = some none)
    (z5 : PySem.W.nsIn K mainGlobals "tuple" = some none)
    (z6 : PySem.W.nsIn K mainGlobals "isinstance" = some none)
    (z7 : PySem.W.nsIn K mainGlobals "bool" = some none)
    (z8 : PySem.W.nsIn K mainGlobals "repr" = some none)
    (z9 : PySem.W.nsIn K mainGlobals "ValueError" = some none)
    (aH : PySem.W.nsIn K mainGlobals "HallError" = some (some (.ref CH)))
    (aC0 : PySem.W.nsIn K mainGlobals "NoLetter" = some (some (.ref C0)))
    (aC1 : PySem.W.nsIn K mainGlobals "NotShut" = some (some (.ref C1)))
    (aC2 : PySem.W.nsIn K mainGlobals "TooLong" = some (some (.ref C2)))
    (aC3 : PySem.W.nsIn K mainGlobals "NoChoice" = some (some (.ref C3)))
    (aC4 : PySem.W.nsIn K mainGlobals "NoText" = some (some (.ref C4)))
    (aC5 : PySem.W.nsIn K mainGlobals "NoSheet" = some (some (.ref C5)))
    (aC6 : PySem.W.nsIn K mainGlobals "NoOneWay" = some (some (.ref C6)))
    (aC7 : PySem.W.nsIn K mainGlobals "TooMany" = some (some (.ref C7)))
    (aC8 : PySem.W.nsIn K mainGlobals "NoStep" = some (some (.ref C8)))
    (aC9 : PySem.W.nsIn K mainGlobals "NoName" = some (some (.ref C9)))
    (aC10 : PySem.W.nsIn K mainGlobals "NoRow" = some (some (.ref C10)))
    (ty0 : PySem.W.typeIn K (.ref C0) = some (.type "type"))
    (is0 : PySem.W.isClsIn K C0 = true)
    (ty1 : PySem.W.typeIn K (.ref C1) = some (.type "type"))
    (is1 : PySem.W.isClsIn K C1 = true)
    (ty2 : PySem.W.typeIn K (.ref C2) = some (.type "type"))
    (is2 : PySem.W.isClsIn K C2 = true)
    (ty3 : PySem.W.typeIn K (.ref C3) = some (.type "type"))
    (is3 : PySem.W.isClsIn K C3 = true)
    (ty4 : PySem.W.typeIn K (.ref C4) = some (.type "type"))
    (is4 : PySem.W.isClsIn K C4 = true)
    (ty5 : PySem.W.typeIn K (.ref C5) = some (.type "type"))
    (is5 : PySem.W.isClsIn K C5 = true)
    (ty6 : PySem.W.typeIn K (.ref C6) = some (.type "type"))
    (is6 : PySem.W.isClsIn K C6 = true)
    (ty7 : PySem.W.typeIn K (.ref C7) = some (.type "type"))
    (is7 : PySem.W.isClsIn K C7 = true)
    (ty8 : PySem.W.typeIn K (.ref C8) = some (.type "type"))
    (is8 : PySem.W.isClsIn K C8 = true)
    (ty9 : PySem.W.typeIn K (.ref C9) = some (.type "type"))
    (is9 : PySem.W.isClsIn K C9 = true)
    (ty10 : PySem.W.typeIn K (.ref C10) = some (.type "type"))
    (is10 : PySem.W.isClsIn K C10 = true)
    (tyH : PySem.W.typeIn K (.ref CH) = some (.type "type"))
    (isH : PySem.W.isClsIn K CH = true)
    (exH : PySem.W.subIn K (.ref CH) (.type "BaseException") = some true)
    (hdH : PySem.W.hasDictIn K CH = true)
    (spc : PySem.W.specialIn K (.builtin "object.__class__") "__get__" = some (some (.builtin "getset_descriptor.__get__")))
    (tkc : PySem.W.takesIn K (.builtin "object.__class__") = some true)
    (sb0_0 : PySem.W.subIn K (.ref C0) (.ref C0) = some true)
    (sb0_1 : PySem.W.subIn K (.ref C0) (.ref C1) = some false)
    (sb0_2 : PySem.W.subIn K (.ref C0) (.ref C2) = some false)
    (sb0_3 : PySem.W.subIn K (.ref C0) (.ref C3) = some false)
    (sb0_4 : PySem.W.subIn K (.ref C0) (.ref C4) = some false)
    (sb0_5 : PySem.W.subIn K (.ref C0) (.ref C5) = some false)
    (sb0_6 : PySem.W.subIn K (.ref C0) (.ref C6) = some false)
    (sb0_7 : PySem.W.subIn K (.ref C0) (.ref C7) = some false)
    (sb0_8 : PySem.W.subIn K (.ref C0) (.ref C8) = some false)
    (sb0_9 : PySem.W.subIn K (.ref C0) (.ref C9) = some false)
    (sb0_10 : PySem.W.subIn K (.ref C0) (.ref C10) = some false)
    (sb0_H : PySem.W.subIn K (.ref C0) (.ref CH) = some true)
    (sv0 : PySem.W.subIn K (.ref C0) (.type "ValueError") = some true)
    (ex0 : PySem.W.subIn K (.ref C0) (.type "BaseException") = some true)
    (hd0 : PySem.W.hasDictIn K C0 = true)
    (ga0 : PySem.W.findIn K (.ref C0) "__getattribute__" = some (some (.builtin "BaseException.__getattribute__")))
    (gg0 : PySem.W.findIn K (.ref C0) "__getattr__" = some none)
    (cc0 : PySem.W.findIn K (.ref C0) "__class__" = some (some (.builtin "object.__class__")))
    (mo0 : PySem.W.mroIn K C0 (.type "object") = some true)
    (nP0 : PySem.W.findIn K (.ref C0) "place" = some none)
    (nS0 : PySem.W.findIn K (.ref C0) "size" = some none)
    (zsu : PySem.W.nsIn K mainGlobals "super" = some none)
    (opq : PySem.W.nsIn K cStatics "thirdparty.any" = some none)
    (htop : (l.prog.main.scope.names.lookup ("super" : Str)).isSome = false)
    (xL0 : K.lookup C0 = some (excClassObj nm0 qn0 C0 N0 bs0 [.ref CH, .type "ValueError", .type "Exception", .type "BaseException", .type "object"] true sn0 su0 ab0 co0 dd0 m00 m10 m20 m30 m50 "ValueError.__new__"))
    (sa0 : PySem.W.findIn K (.ref C0) "__setattr__" = some (some (.builtin "object.__setattr__")))
    (kC0 : PySem.W.keepIn K (.ref C0) = true)
    (iC0 : PySem.W.findIn K (.ref C0) "__init__" = some (some (.ref fI0)))
    (tI0 : PySem.W.typeIn K (.ref fI0) = some (.type "function"))
    (mm0 : PySem.W.mroIn K C0 (.ref C0) = some true)
    (lI0 : K.lookup fI0 = some ⟨ocI0, odI0, .func (PySem.W.ksFn "__init__" "NoLetter.__init__" (defArgs (inClass (topS 2) 0)) (defBody (inClass (topS 2) 0)) (defScope (inClass (topS 2) 0)) .none kVI0 dcI0 pmI0 anI0 (.ref cda0) ctI0 cel0), slI0⟩)
    (cI0 : PySem.W.codeIn K (.ref cda0) "NoLetter.__init__" = true)
    (ce0 : K.lookup cel0 = some ⟨cl0, cld0, .cell (some (.ref C0)), csl0⟩)
    (co_0 : K.lookup cda0 = some ⟨ccl0, cdd0, .fields vsC0, ccs0⟩)
    (hv0 : vsC0[2]? = some (.str fil0 tf0))
    (hf0 : ((l.prog.main.file : Str) == fil0) = true)
    (su_0 : PySem.W.ks_superIn K C0 C0 "__init__" = some (some (.builtin "ValueError.__init__")))
    : ∃ fd : FuncData, (∀ (s : Shared) (v : Value), BindsTo s fd ⟨[v], []⟩ [("script", v)]) ∧ ∀ base : Heap, K.In base → base.Ns mainGlobals mg → FnOk l.prog w K mg base CX0 12 fa fd ["script"] (spLaw K) := by
  have e := hfa.symm.trans (PySem.W.mg_of X G a16)
  cases e
  have F0 := fun_mk (st := sOrderOf) l0 c0 k0
  have g0 := PySem.W.mg_of X G a0
  have b0 := F0.binds (ps := ["sheet"]) fun _ _ _ _ _ _ us hl => match us, hl with | [_], _ => rfl
  have F1 := fun_mk (st := sNeedWord) l1 c1 k1
  have g1 := PySem.W.mg_of X G a1
  have b1 := F1.binds (ps := ["sheet", "word"]) fun _ _ _ _ _ _ us hl => match us, hl with | [_, _], _ => rfl
  have F2 := fun_mk (st := sIsLess) l2 c2 k2
  have g2 := PySem.W.mg_of X G a2
  have b2 := F2.binds (ps := ["sheet", "one", "other"]) fun _ _ _ _ _ _ us hl => match us, hl with | [_, _, _], _ => rfl
  have F3 := fun_mk (st := sBlend) l3 c3 k3
  have g3 := PySem.W.mg_of X G a3
  have b3 := F3.binds (ps := ["cell", "at"]) fun _ _ _ _ _ _ us hl => match us, hl with | [_, _], _ => rfl
  have F4 := fun_mk (st := sPot) l4 c4 k4
  have g4 := PySem.W.mg_of X G a4
  have b4 := F4.binds (ps := ["script"]) fun _ _ _ _ _ _ us hl => match us, hl with | [_], _ => rfl
  have F5 := fun_mk (st := sPick) l5 c5 k5
  have g5 := PySem.W.mg_of X G a5
  have b5 := F5.binds (ps := ["pot", "many"]) fun _ _ _ _ _ _ us hl => match us, hl with | [_, _], _ => rfl
  have F6 := fun_mk (st := sLetters) l6 c6 k6
  have g6 := PySem.W.mg_of X G a6
  have b6 := F6.binds (ps := ["pot", "many"]) fun _ _ _ _ _ _ us hl => match us, hl with | [_, _], _ => rfl
  have F7 := fun_mk (st := sSheet) l7 c7 k7
  have g7 := PySem.W.mg_of X G a7
  have b7 := F7.binds (ps := ["pot", "most"]) fun _ _ _ _ _ _ us hl => match us, hl with | [_, _], _ => rfl
  have F8 := fun_mk (st := sOrder) l8 c8 k8
  have g8 := PySem.W.mg_of X G a8
  have b8 := F8.binds (ps := ["sheet"]) fun _ _ _ _ _ _ us hl => match us, hl with | [_], _ => rfl
  have F9 := fun_mk (st := sKind) l9 c9 k9
  have g9 := PySem.W.mg_of X G a9
  have b9 := F9.binds (ps := ["caught"]) fun _ _ _ _ _ _ us hl => match us, hl with | [_], _ => rfl
  have F10 := fun_mk (st := sWord) l10 c10 k10
  have g10 := PySem.W.mg_of X G a10
  have b10 := F10.binds (ps := ["pot", "sheet", "most"]) fun _ _ _ _ _ _ us hl => match us, hl with | [_, _, _], _ => rfl
  have F11 := fun_mk (st := sTwo) l11 c11 k11
  have g11 := PySem.W.mg_of X G a11
  have b11 := F11.binds (ps := ["pot", "sheet"]) fun _ _ _ _ _ _ us hl => match us, hl with | [_, _], _ => rfl
  have F12 := fun_mk (st := sLess) l12 c12 k12
  have g12 := PySem.W.mg_of X G a12
  have b12 := F12.binds (ps := ["sheet", "one", "other"]) fun _ _ _ _ _ _ us hl => match us, hl with | [_, _, _], _ => rfl
  have F13 := fun_mk (st := sTold) l13 c13 k13
  have g13 := PySem.W.mg_of X G a13
  have b13 := F13.binds (ps := ["sheet", "one", "other"]) fun _ _ _ _ _ _ us hl => match us, hl with | [_, _, _], _ => rfl
  have F14 := fun_mk (st := sStrange) l14 c14 k14
  have g14 := PySem.W.mg_of X G a14
  have b14 := F14.binds (ps := ["sheet"]) fun _ _ _ _ _ _ us hl => match us, hl with | [_], _ => rfl
  have F15 := fun_mk (st := sOdd) l15 c15 k15
  have g15 := PySem.W.mg_of X G a15
  have b15 := F15.binds (ps := ["pot", "sheet", "one", "other"]) fun _ _ _ _ _ _ us hl => match us, hl with | [_, _, _, _], _ => rfl
  have F16 := fun_mk (st := sLaw) l16 c16 k16
  have g16 := PySem.W.mg_of X G a16
  have b16 := F16.binds (ps := ["script"]) fun _ _ _ _ _ _ us hl => match us, hl with | [_], _ => rfl
  have mlen := PySem.W.mg_none_of X G z0
  have mlist := PySem.W.mg_none_of X G z1
  have menumerate := PySem.W.mg_none_of X G z2
  have mrange := PySem.W.mg_none_of X G z3
  have mmin := PySem.W.mg_none_of X G z4
  have mtuple := PySem.W.mg_none_of X G z5
  have misinstance := PySem.W.mg_none_of X G z6
  have mbool := PySem.W.mg_none_of X G z7
  have mrepr := PySem.W.mg_none_of X G z8
  have mValueError := PySem.W.mg_none_of X G z9
  have KM : KindM mg CH [C0, C1, C2, C3, C4, C5, C6, C7, C8, C9, C10] := ⟨misinstance, mValueError, PySem.W.mg_of X G aH, PySem.W.mg_of X G aC0, PySem.W.mg_of X G aC1, PySem.W.mg_of X G aC2, PySem.W.mg_of X G aC3, PySem.W.mg_of X G aC4, PySem.W.mg_of X G aC5, PySem.W.mg_of X G aC6, PySem.W.mg_of X G aC7, PySem.W.mg_of X G aC8, PySem.W.mg_of X G aC9, PySem.W.mg_of X G aC10⟩
  have EC0 : ErrC K C0 := ⟨⟨ga0, gg0, ex0, hd0, cc0, spc, tkc, mo0⟩, ⟨ga0, gg0, ex0, hd0⟩⟩
  have KC0 : KindC K CH [C0, C1, C2, C3, C4, C5, C6, C7, C8, C9, C10] 0 := by
    refine ⟨by decide, EC0, fun j hj => ?_, kit_yes tyH isH sb0_H, kit_val sv0, nP0, nS0⟩
    rcases (show j = 0 ∨ j = 1 ∨ j = 2 ∨ j = 3 ∨ j = 4 ∨ j = 5 ∨ j = 6 ∨ j = 7 ∨ j = 8 ∨ j = 9 ∨ j = 10 by omega) with rfl | rfl | rfl | rfl | rfl | rfl | rfl | rfl | rfl | rfl | rfl
    · exact kit_yes ty0 is0 sb0_0
    · exact kit_no ty1 is1 sb0_1 sb0_0
    · exact kit_no ty2 is2 sb0_2 sb0_0
    · exact kit_no ty3 is3 sb0_3 sb0_0
    · exact kit_no ty4 is4 sb0_4 sb0_0
    · exact kit_no ty5 is5 sb0_5 sb0_0
    · exact kit_no ty6 is6 sb0_6 sb0_0
    · exact kit_no ty7 is7 sb0_7 sb0_0
    · exact kit_no ty8 is8 sb0_8 sb0_0
    · exact kit_no ty9 is9 sb0_9 sb0_0
    · exact kit_no ty10 is10 sb0_10 sb0_0
  have XM0 : PySem.W.exmOne K (.ref C0) (.ref CH) = some true := PySem.W.exm_ref exH hdH tyH sb0_H
  have OX0 : OexC K C0 := ⟨⟨nm0, qn0, N0, bs0, _, sn0, su0, ab0, co0, dd0, m00, m10, m20, m30, m50, xL0, (show PySem.HandSPX.refsVE [.type "ValueError", .type "Exception", .type "BaseException", .type "object"] = true by decide +kernel)⟩, sa0, ex0, ty0, kC0⟩
  have IC0 : ∃ J, InitC l.prog K mg C0 fI0 "NoLetter.__init__" "place" ((inClass (topS 2) 0)) J (PySem.W.ksFn "__init__" "NoLetter.__init__" (defArgs (inClass (topS 2) 0)) (defBody (inClass (topS 2) 0)) (defScope (inClass (topS 2) 0)) .none kVI0 dcI0 pmI0 anI0 (.ref cda0) ctI0 cel0) := by
    refine ⟨_, ⟨OX0, iC0, tI0, nP0, su_0, sv0, mm0, opq, PySem.W.mg_none_of X G zsu, htop, ⟨_, _, _, _, _, _, _, _, _, _, rfl, lI0, cI0, ⟨_, _, _, ce0⟩, _, _, _, _, _, _, co_0, hv0, hf0⟩, .all fun us hl => match us, hl with | [_, _], _ => rfl, nscope_by (by decide +kernel), rfl, rfl, rfl, rfl, by decide, by decide, ⟨_, _, _, _, _, _, _, _, _, rfl, fun env => ⟨_, rfl⟩, fun env => rfl, fun env => rfl, fun env => rfl⟩, ?_⟩⟩
    exact txt_two rfl (by decide) (by decide) (by decide +kernel)
  refine ⟨PySem.W.fnOf "law" "law" (defArgs sLaw) (defBody sLaw) (defScope sLaw) .none kV16 dc16 pm16 an16 cd16 ct16, fun s v => .of_eq rfl, fun base _ _ => ?_⟩
  have PK : ∀ k, FnOk l.prog w K mg base CX0 (k + 2) _ _ _ spPick := fun k => ok_pick (k := k) F5 F3 b3 g3 mlen
  have OD : ∀ k, FnOk l.prog w K mg base CX0 (k + 1) _ _ _ spOrder := fun k => ok_order (k := k) F8 mlist
  have TS : LetC l.prog K mg C0 fI0 _ := ⟨PySem.W.mg_of X G aC0, IC0⟩
  have NW : FnOk l.prog w K mg base (L2.CX l.prog w) 8 _ _ _ (spNeedWord K C0) := ok_needWord (k := 5) F1 F0 b0 g0 menumerate TS
  have IL : FnOk l.prog w K mg base (L2.CX l.prog w) 9 _ _ _ (spIsLess K C0) := ok_isLess (k := 7) F2 F0 b0 g0 F1 NW b1 g1 menumerate mlen
  have TL : FnOk l.prog w K mg base CX0 10 _ _ _ (spTold K) := ok_told (k := 8) (cs := [C0, C1, C2, C3, C4, C5, C6, C7, C8, C9, C10]) F13 F2 IL b2 g2 F9 b9 g9 KM KC0 XM0
  have IL' : FnOk l.prog w K mg base (L2.CX l.prog w) 10 _ _ _ (spIsLess K C0) := ok_isLess (k := 8) F2 F0 b0 g0 F1 (ok_needWord (k := 6) F1 F0 b0 g0 menumerate TS) b1 g1 menumerate mlen
  have TL' : FnOk l.prog w K mg base CX0 11 _ _ _ (spTold K) := ok_told (k := 9) (cs := [C0, C1, C2, C3, C4, C5, C6, C7, C8, C9, C10]) F13 F2 IL' b2 g2 F9 b9 g9 KM KC0 XM0
  have ST : FnOk l.prog w K mg base CX0 10 _ _ _ spStrange := ok_strange (k := 8) F14 F8 (OD 8) b8 g8 mlen mrange
  have G1 : FnOk l.prog w K mg base CX0 11 _ _ _ (spPot K) := ok_pot (k := 10) F4 mlist menumerate
  have GL : FnOk l.prog w K mg base CX0 10 _ _ _ spLetters := ok_letters (k := 8) F6 F5 (PK 7) b5 g5 mlen mrange
  have G2 : FnOk l.prog w K mg base CX0 11 _ _ _ spSheet := ok_sheet (k := 8) F7 F5 (PK 7) b5 g5 F6 GL b6 g6 mmin mtuple
  have WD : FnOk l.prog w K mg base CX0 10 _ _ _ spWord := ok_word (k := 8) F10 F5 (PK 7) b5 g5 F8 (OD 8) b8 g8 mlen mrange
  have TW : FnOk l.prog w K mg base CX0 11 _ _ _ spTwo := ok_two (k := 9) F11 F5 (PK 8) b5 g5 F8 (OD 9) b8 g8 F10 WD b10 g10 mlen mlist
  have LS : FnOk l.prog w K mg base CX0 11 _ _ _ (spLess K) := ok_less (k := 9) F12 F8 (OD 9) b8 g8 mlen mrange
  have OO : FnOk l.prog w K mg base CX0 11 _ _ _ spOdd := ok_odd (k := 9) F15 F5 (PK 8) b5 g5 F14 ST b14 g14 F13 TL b13 g13 mlen mlist
  exact ok_law (k := 10) F16 F4 G1 b4 g4 F7 G2 b7 g7 F11 TW b11 g11 F13 TL' b13 g13 F12 LS b12 g12 F15 OO b15 g15 F8 (OD 10) b8 g8 F5 (PK 9) b5 g5 mbool misinstance mlen mlist mrange mrepr
end Eh
open PySem PySem.W PyProof.Rows
set_option maxHeartbeats 0 in
theorem PySem.Challenge.cw_echohall_k02_order_of_words_holds : PySem.Challenge.rw_echohall_k02_order_of_words.Holds := by
  w_on; o_law; k_head; (case hw => w_witness2)
  k_fill
  refine L2.walk_of (l := PySem.Challenge.rw_echohall_k02_order_of_words) (n := 63) (k := 12) (x := "script") (CX := fun _ => L2.CX0) (sp := fun w => Eh.spLaw _) rfl (by decide) rfl ⟨rfl, by decide, by decide⟩ (fun w h Y => PySem.W.kIn_of Y) ?F (fun _ _ a ns hl _ hS => ⟨a, ns, rfl, hS, hl, fun _ => rfl⟩) (fun _ _ _ _ _ h => h)
  case F =>
    intro w mg fa h KX G hmg
    refine' Eh.all_mk KX G hmg ?a0 ?l0 ?c0 ?k0 ?a1 ?l1 ?c1 ?k1 ?a2 ?l2 ?c2 ?k2 ?a3 ?l3 ?c3 ?k3 ?a4 ?l4 ?c4 ?k4 ?a5 ?l5 ?c5 ?k5 ?a6 ?l6 ?c6 ?k6 ?a7 ?l7 ?c7 ?k7 ?a8 ?l8 ?c8 ?k8 ?a9 ?l9 ?c9 ?k9 ?a10 ?l10 ?c10 ?k10 ?a11 ?l11 ?c11 ?k11 ?a12 ?l12 ?c12 ?k12 ?a13 ?l13 ?c13 ?k13 ?a14 ?l14 ?c14 ?k14 ?a15 ?l15 ?c15 ?k15 ?a16 ?l16 ?c16 ?k16 ?z0 ?z1 ?z2 ?z3 ?z4 ?z5 ?z6 ?z7 ?z8 ?z9 ?aH ?aC0 ?aC1 ?aC2 ?aC3 ?aC4 ?aC5 ?aC6 ?aC7 ?aC8 ?aC9 ?aC10 ?ty0 ?is0 ?ty1 ?is1 ?ty2 ?is2 ?ty3 ?is3 ?ty4 ?is4 ?ty5 ?is5 ?ty6 ?is6 ?ty7 ?is7 ?ty8 ?is8 ?ty9 ?is9 ?ty10 ?is10 ?tyH ?isH ?exH ?hdH ?spc ?tkc ?sb0_0 ?sb0_1 ?sb0_2 ?sb0_3 ?sb0_4 ?sb0_5 ?sb0_6 ?sb0_7 ?sb0_8 ?sb0_9 ?sb0_10 ?sb0_H ?sv0 ?ex0 ?hd0 ?ga0 ?gg0 ?cc0 ?mo0 ?nP0 ?nS0 ?zsu ?opq ?htop ?xL0 ?sa0 ?kC0 ?iC0 ?tI0 ?mm0 ?lI0 ?cI0 ?ce0 ?co_0 ?hv0 ?hf0 ?su_0
    (case a0 => k_is)
    (case l0 => k_is)
    (case c0 => k_is)
    (case k0 => k_is)
    (case a1 => k_is)
    (case l1 => k_is)
    (case c1 => k_is)
    (case k1 => k_is)
    (case a2 => k_is)
    (case l2 => k_is)
    (case c2 => k_is)
    (case k2 => k_is)
    (case a3 => k_is)
    (case l3 => k_is)
    (case c3 => k_is)
    (case k3 => k_is)
    (case a4 => k_is)
    (case l4 => k_is)
    (case c4 => k_is)
    (case k4 => k_is)
    (case a5 => k_is)
    (case l5 => k_is)
    (case c5 => k_is)
    (case k5 => k_is)
    (case a6 => k_is)
    (case l6 => k_is)
    (case c6 => k_is)
    (case k6 => k_is)
    (case a7 => k_is)
    (case l7 => k_is)
    (case c7 => k_is)
    (case k7 => k_is)
    (case a8 => k_is)
    (case l8 => k_is)
    (case c8 => k_is)
    (case k8 => k_is)
    (case a9 => k_is)
    (case l9 => k_is)
    (case c9 => k_is)
    (case k9 => k_is)
    (case a10 => k_is)
    (case l10 => k_is)
    (case c10 => k_is)
    (case k10 => k_is)
    (case a11 => k_is)
    (case l11 => k_is)
    (case c11 => k_is)
    (case k11 => k_is)
    (case a12 => k_is)
    (case l12 => k_is)
    (case c12 => k_is)
    (case k12 => k_is)
    (case a13 => k_is)
    (case l13 => k_is)
    (case c13 => k_is)
    (case k13 => k_is)
    (case a14 => k_is)
    (case l14 => k_is)
    (case c14 => k_is)
    (case k14 => k_is)
    (case a15 => k_is)
    (case l15 => k_is)
    (case c15 => k_is)
    (case k15 => k_is)
    (case a16 => k_is)
    (case l16 => k_is)
    (case c16 => k_is)
    (case k16 => k_is)
    (case z0 => k_is)
    (case z1 => k_is)
    (case z2 => k_is)
    (case z3 => k_is)
    (case z4 => k_is)
    (case z5 => k_is)
    (case z6 => k_is)
    (case z7 => k_is)
    (case z8 => k_is)
    (case z9 => k_is)
    (case aH => k_is)
    (case aC0 => k_is)
    (case aC1 => k_is)
    (case aC2 => k_is)
    (case aC3 => k_is)
    (case aC4 => k_is)
    (case aC5 => k_is)
    (case aC6 => k_is)
    (case aC7 => k_is)
    (case aC8 => k_is)
    (case aC9 => k_is)
    (case aC10 => k_is)
    (case ty0 => k_is)
    (case is0 => k_is)
    (case ty1 => k_is)
    (case is1 => k_is)
    (case ty2 => k_is)
    (case is2 => k_is)
    (case ty3 => k_is)
    (case is3 => k_is)
    (case ty4 => k_is)
    (case is4 => k_is)
    (case ty5 => k_is)
    (case is5 => k_is)
    (case ty6 => k_is)
    (case is6 => k_is)
    (case ty7 => k_is)
    (case is7 => k_is)
    (case ty8 => k_is)
    (case is8 => k_is)
    (case ty9 => k_is)
    (case is9 => k_is)
    (case ty10 => k_is)
    (case is10 => k_is)
    (case tyH => k_is)
    (case isH => k_is)
    (case exH => k_is)
    (case hdH => k_is)
    (case spc => k_is)
    (case tkc => k_is)
    (case sb0_0 => first | rfl | k_is)
    (case sb0_1 => k_is)
    (case sb0_2 => k_is)
    (case sb0_3 => k_is)
    (case sb0_4 => k_is)
    (case sb0_5 => k_is)
    (case sb0_6 => k_is)
    (case sb0_7 => k_is)
    (case sb0_8 => k_is)
    (case sb0_9 => k_is)
    (case sb0_10 => k_is)
    (case sb0_H => k_is)
    (case sv0 => k_is)
    (case ex0 => k_is)
    (case hd0 => k_is)
    (case ga0 => k_is)
    (case gg0 => k_is)
    (case cc0 => k_is)
    (case mo0 => k_is)
    (case nP0 => k_is)
    (case nS0 => k_is)
    (case zsu => k_is)
    (case opq => k_is)
    (case htop => decide +kernel)
    (case xL0 => k_is)
    (case sa0 => k_is)
    (case kC0 => k_is)
    (case iC0 => k_is)
    (case tI0 => k_is)
    (case mm0 => first | rfl | k_is)
    (case lI0 => k_is)
    (case cI0 => k_is)
    (case ce0 => k_is)
    (case co_0 => k_is)
    (case hv0 => rfl)
    (case hf0 => decide +kernel)
    (case su_0 => ks_is)
