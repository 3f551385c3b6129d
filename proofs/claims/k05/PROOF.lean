import PyProof.Rows.All
import Wide.All
import OpenK.AllK
import Wide.FinOn
import HandS.ForMost
import HandS.Evl
import HandS.Wide
import KE.LtSeq
import HandS.RaiseMore
import KE.GoesEnum
import HandS.DictComp
import KE.KExcSuper
import HandS.Exc
import HandS.ExcInit
import HandS.FStr
import HandS.Nested
import KE.KIsAll
import KE.KTryMore
import KE.KExcIs
import HandS.ExcIs
import HandS.ExcField
import HandS.ExcValue
import HandS.WordsExc
import HandS.Flow
import PySem.Challenge.RW_echohall_k05_words_refused
set_option Elab.async false
set_option linter.all false
set_option maxRecDepth 100000
set_option maxHeartbeats 4000000
namespace Eh
open PySem PySem.Spec PyProof.Rows L2 Evl
def topS (i : Nat) : Stmt := PySem.Challenge.pw_echohall_k05_words_refused.main.body.getD i (.Pass ⟨0, 0, 0, 0⟩)
abbrev sOrderOf : Stmt := topS 14
abbrev sNeedWord : Stmt := topS 15
abbrev sAnswers : Stmt := topS 17
abbrev sAlone : Stmt := topS 18
abbrev sNeedShut : Stmt := topS 19
abbrev sIsShut : Stmt := topS 20
abbrev sDepthOf : Stmt := topS 21
abbrev sBoughs : Stmt := topS 22
abbrev sBlend : Stmt := topS 24
abbrev sPot : Stmt := topS 25
abbrev sPick : Stmt := topS 26
abbrev sLetters : Stmt := topS 27
abbrev sSheet : Stmt := topS 28
abbrev sOrder : Stmt := topS 29
abbrev sKind : Stmt := topS 30
abbrev sStrange : Stmt := topS 31
abbrev sTold : Stmt := topS 32
abbrev sLawErrorsRight : Stmt := topS 33
abbrev sLaw : Stmt := topS 34
theorem scBlend : FnScope ["cell", "at", "one", "two", "three"] ["cell", "at"] (defScope sBlend) := ⟨rfl, rfl, rfl, by decide +kernel, rfl, by decide +kernel, by decide +kernel⟩
theorem scPot : FnScope ["script", "cells", "k", "cell"] ["script"] (defScope sPot) := ⟨rfl, rfl, rfl, by decide +kernel, rfl, by decide +kernel, by decide +kernel⟩
theorem scPick : FnScope ["pot", "many", "at", "cell", "found"] ["pot", "many"] (defScope sPick) := ⟨rfl, rfl, rfl, by decide +kernel, rfl, by decide +kernel, by decide +kernel⟩
theorem scLetters : FnScope ["pot", "many", "small", "k", "rest", "spot", "turn", "size", "found", "part", "at"] ["pot", "many"] (defScope sLetters) := ⟨rfl, rfl, rfl, by decide +kernel, rfl, by decide +kernel, by decide +kernel⟩
theorem scSheet : FnScope ["pot", "most", "letters", "turn", "opens", "plains", "closes"] ["pot", "most"] (defScope sSheet) := ⟨rfl, rfl, rfl, by decide +kernel, rfl, by decide +kernel, by decide +kernel⟩
theorem scOrder : FnScope ["sheet"] ["sheet"] (defScope sOrder) := ⟨rfl, rfl, rfl, by decide +kernel, rfl, by decide +kernel, by decide +kernel⟩
end Eh
set_option Elab.async false
set_option linter.all false
set_option maxRecDepth 100000
set_option maxHeartbeats 4000000
namespace Eh
open PySem PySem.Spec PyProof.Rows L2 Evl
/-! heaps -/
def Keep (p : Addr) (H H' : Hp) : Prop := ∀ b o, b ≠ p → H b = some o → H' b = some o
theorem Keep.refl (p : Addr) (H : Hp) : Keep p H H := fun _ _ _ h => h
theorem Keep.trans {p : Addr} {H H1 H2 : Hp} (a : Keep p H H1) (b : Keep p H1 H2) : Keep p H H2 := fun x o n h => b x o n (a x o n h)
theorem Keep.ofEx {p : Addr} {H H' : Hp} (e : Ex H H') : Keep p H H' := fun b o _ h => e b o h
theorem Keep.new {p q : Addr} {H H' : Hp} {o : HO} (k : Keep p H H') (h : H q = none) : Keep p H (upd H' q o) := fun b u n e => by
  rw [upd_ne (ne_of_none e h)]
  exact k b u n e
theorem Keep.at {p : Addr} {H H' : Hp} {o : HO} (k : Keep p H H') : Keep p H (upd H' p o) := fun b u n e => by
  rw [upd_ne n]
  exact k b u n e
/-- the drawing pot: its cells stand still, how many were drawn and the rest change -/
def Pot (p c : Addr) (ns : List Int) (H : Hp) : Prop := ∃ a r : Int, 0 ≤ a ∧ H p = some (.lst [.ref c, .int a, .int r]) ∧ H c = some (.lst (ns.map V.int))
theorem Pot.ne {p c : Addr} {ns : List Int} {H : Hp} (h : Pot p c ns H) : c ≠ p := by
  obtain ⟨a, r, _, h1, h2⟩ := h
  intro e
  subst e
  have q : [V.ref c, .int a, .int r] = ns.map V.int := by
    have := h1.symm.trans h2
    injection this with this
    injection this
  cases ns with
  | nil => cases q
  | cons x t => cases q
theorem Pot.ex {p c : Addr} {ns : List Int} {H H' : Hp} (h : Pot p c ns H) (e : Ex H H') : Pot p c ns H' := by
  obtain ⟨a, r, h0, h1, h2⟩ := h
  exact ⟨a, r, h0, e _ _ h1, e _ _ h2⟩
theorem Pot.new {p c q : Addr} {ns : List Int} {H : Hp} {o : HO} (h : Pot p c ns H) (hp : p ≠ q) (hc : c ≠ q) : Pot p c ns (upd H q o) := by
  obtain ⟨a, r, h0, h1, h2⟩ := h
  exact ⟨a, r, h0, by rw [upd_ne hp]; exact h1, by rw [upd_ne hc]; exact h2⟩
section
variable {P : Program} {w : World} {K : PySem.W.Frag} {mg : Str → Option Value} {base : Heap}
def spBlend : Sp := fun vs H Q _ => ∃ x a : Int, vs = [.int x, .int a] ∧ ∀ v : Int, Q (.int v) H
theorem ok_blend {f : Addr} {fd : FuncData} {k : Nat} (F : Fun K "_law_blend" "_law_blend" sBlend f fd) : FnOk P w K mg base CX0 (k + 1) f fd ["cell", "at"] spBlend := by
  refine F.ok scBlend (fun vs H Q E h => ?_) (fun cdv A outer s H vs Q E hr h => ?_)
  · obtain ⟨x, a, rfl, _⟩ := h
    rfl
  · obtain ⟨x, a, rfl, q⟩ := h
    refine ⟨_, pss_cons (ps_if (pt_cmpR op_ge (pv 0) (pe_op op_pow pe_int pe_int) (nomark _)) (pss_one (ps_ret (pv 0))) pss_nil)
      (pss_cons (ps_set (i := 2) scBlend.nd rfl (.inl rfl) (pe_op op_mod (pe_op op_add (pe_op op_add (pe_op op_mul (pe_op op_mod (pv 0) pe_int) pe_int) (pe_op op_mul (pv 1) pe_int)) pe_int) pe_int))
      (pss_cons (ps_set (i := 3) scBlend.nd rfl (.inl rfl) (pe_op op_mod (pe_op op_add (pe_op op_add (pe_op op_mul (pv 2) (pv 2)) (pe_op op_mul (pv 1) pe_int)) (pe_op op_mod (pv 0) pe_int)) pe_int))
      (pss_cons (ps_set (i := 4) scBlend.nd rfl (.inl rfl) (pe_op op_mod (pe_op op_add (pe_op op_add (pe_op op_mul (pv 3) (pv 3)) (pe_op op_mul (pv 2) pe_int)) pe_int) pe_int))
      (pss_one (ps_ret (pe_op op_add (pe_op op_mul (pe_op op_add (pe_op op_mul (pv 2) pe_int) (pv 3)) pe_int) (pv 4))))))), ?_⟩
    refine ⟨_, rfl, 10, 18, rfl, rfl, ⟨by decide, by decide, by decide⟩, _, _, rfl, rfl, _, rfl, ite2 (fun e => ?_) (fun e => ?_)⟩
    · exact ⟨_, rfl, q _⟩
    · have big : ∀ j : Int, 0 < j → j < 4294967296 → ∀ y : Int, CMul (y % j) (y % j) := fun j h0 h1 y => .inl ⟨by have := Int.emod_nonneg y (show j ≠ 0 by omega); omega, by have := Int.emod_lt_of_pos y h0; omega⟩
      refine ⟨_, rfl, _, _, rfl, rfl, (by show (0 : Int) < _; decide), _, _, rfl, rfl, .inr ⟨by decide, by decide⟩, _, rfl, _, _, rfl, rfl, .inr ⟨by decide, by decide⟩, _, _, rfl, rfl, _, _, rfl, rfl, _, _, rfl, rfl, (by show (0 : Int) < _; decide), ?_⟩
      refine ⟨_, rfl, _, rfl, _, _, rfl, rfl, big _ (by decide) (by decide) _, _, rfl, _, _, rfl, rfl, .inr ⟨by decide, by decide⟩, _, _, rfl, rfl, _, rfl, _, _, rfl, rfl, (by show (0 : Int) < _; decide), _, _, rfl, rfl, _, _, rfl, rfl, (by show (0 : Int) < _; decide), ?_⟩
      refine ⟨_, rfl, _, rfl, _, _, rfl, rfl, big _ (by decide) (by decide) _, _, rfl, _, _, rfl, rfl, .inr ⟨by decide, by decide⟩, _, _, rfl, rfl, _, _, rfl, rfl, _, _, rfl, rfl, (by show (0 : Int) < _; decide), ?_⟩
      exact ⟨_, rfl, _, _, rfl, rfl, .inr ⟨by decide, by decide⟩, _, rfl, _, _, rfl, rfl, _, _, rfl, rfl, .inr ⟨by decide, by decide⟩, _, rfl, _, _, rfl, rfl, q _⟩
end
end Eh
set_option Elab.async false
set_option linter.all false
set_option maxRecDepth 100000
set_option maxHeartbeats 4000000
namespace Eh
open PySem PySem.Spec PyProof.Rows L2 Evl
theorem dpInts {K : PySem.W.Frag} {H : Hp} : ∀ ns : List Int, DpAll K H (ns.map V.int) (ns.map PyData.int)
  | [] => .nil
  | n :: r => .cons (.int n) (dpInts r)
theorem layInts : ∀ ns : List Int, PyData.canLayAll0 (ns.map PyData.int) = true
  | [] => rfl
  | n :: r => by
    show (true && PyData.canLayAll0 (r.map PyData.int)) = true
    rw [layInts r]
    rfl
theorem deepInts : ∀ ns : List Int, PyData.depthAll (ns.map PyData.int) = 0
  | [] => rfl
  | n :: r => by
    show max 0 (PyData.depthAll (r.map PyData.int)) = 0
    rw [deepInts r]
    rfl
theorem shapedInts (ns : List Int) : SeqAt.shaped (.list (ns.map PyData.int)) = true := by
  unfold SeqAt.shaped
  have h1 : PyData.canLay0 (.list (ns.map PyData.int)) = true := layInts ns
  have h2 : PyData.depth (.list (ns.map PyData.int)) = 1 := by
    show PyData.depthAll (ns.map PyData.int) + 1 = 1
    rw [deepInts]
  rw [h1, h2]
  rfl
theorem shapedNil : SeqAt.shaped (.list []) = true := by decide +kernel
section
variable {P : Program} {w : World} {K : PySem.W.Frag} {mg : Str → Option Value} {base : Heap}
def spPick : Sp := fun vs H Q _ => ∃ (p c : Addr) (ns : List Int) (m : Int), vs = [.ref p, .int m] ∧ 0 < m ∧ m < 1073741824 ∧ Pot p c ns H ∧ ∀ (v : Nat) H', (v : Int) < m → Keep p H H' → Pot p c ns H' → Q (.int v) H'
theorem ok_pick {f fB : Addr} {fd fdB : FuncData} {k : Nat} (F : Fun K "_law_pick" "_law_pick" sPick f fd) (FB : Fun K "_law_blend" "_law_blend" sBlend fB fdB) (bB : Binds K fdB ["cell", "at"] []) (gB : mg "_law_blend" = some (.ref fB)) (ml : mg "len" = none) :
    FnOk P w K mg base CX0 (k + 2) f fd ["pot", "many"] spPick := by
  have GB : FnOk P w K mg base CX0 (k + 1) fB fdB ["cell", "at"] spBlend := ok_blend FB
  have nd := scPick.nd
  refine F.ok scPick (fun vs H Q E h => ?_) (fun cdv A outer s H vs Q E hr h => ?_)
  · obtain ⟨p, c, ns, m, rfl, _⟩ := h
    rfl
  · obtain ⟨p, c, ns, m, rfl, m0, m1, hP, q⟩ := h
    refine ⟨_, pss_cut (ps_if (pt_cmpR op_lt (pe_ix ix_list (pv 0) pe_int (fun _ _ => rfl)) (pv 1) (nomark _))
       (pss_cons (ps_set (i := 2) nd rfl (.inl rfl) (pe_ix ix_list (pv 0) pe_int (fun _ _ => rfl)))
       (pss_cons (ps_set (i := 3) nd rfl (.inl rfl) (pe_op op_mul pe_int (pv 2)))
       (pss_cut (ps_if (pt_cmpR op_lt (pv 2) (pe_callB call_len_seq (by rfl) ml PySem.boot_len (pa_cons (pe_ix ix_list (pv 0) pe_int (fun _ _ => rfl)) pa_nil)) (nomark _))
            (pss_one (ps_set (i := 3) nd rfl (.inl rfl) (pe_ix ix_list (pe_ix ix_list (pv 0) pe_int (fun _ _ => rfl)) (pv 2) (fun _ _ => rfl))))
            (pss_one (ps_if (pt_cmpR (op_neD hr.units) (pe_ix ix_list (pv 0) pe_int (fun _ _ => rfl)) (pe_lst pa_nil) (nomark _))
              (pss_one (ps_set (i := 3) nd rfl (.inl rfl) (pe_op op_mod (pe_ix ix_list (pe_ix ix_list (pv 0) pe_int (fun _ _ => rfl)) (pe_op op_mod (pe_op op_add (pe_op op_mul (pv 2) pe_int) pe_int) (pe_callB call_len_seq (by rfl) ml PySem.boot_len (pa_cons (pe_ix ix_list (pv 0) pe_int (fun _ _ => rfl)) pa_nil))) (fun _ _ => rfl)) (pe_op op_add (pe_op op_pow pe_int pe_int) (pe_op op_mul pe_int (pv 2)))))) pss_nil)))
       (pss_cons (ps_asg (pe_op op_add (pv 2) pe_int) (pg_sub (pv 0) pe_int set_list))
       (pss_one (ps_asg (pe_call GB hr (by rfl) gB FB.kp bB .nil pass0 (pa_cons (pv 3) (pa_cons (pv 2) pa_nil))) (pg_sub (pv 0) pe_int set_list)))))))
       pss_nil)
      (pss_cons (ps_set (i := 4) nd rfl (.inl rfl) (pe_op op_mod (pe_ix ix_list (pv 0) pe_int (fun _ _ => rfl)) (pv 1)))
      (pss_cons (ps_asg (pe_op op_fdiv (pe_ix ix_list (pv 0) pe_int (fun _ _ => rfl)) (pv 1)) (pg_sub (pv 0) pe_int set_list))
      (pss_one (ps_ret (pv 4))))), ?_⟩
    have hne := hP.ne
    obtain ⟨a, r, a0, hp, hc⟩ := hP
    refine ⟨fun σ' H' => (∃ y2 y3, σ' = [some (.ref p), some (.int m), y2, y3, none]) ∧ Keep p H H' ∧ Pot p c ns H', ?_, ?_⟩
    · refine ⟨_, rfl, p, _, 2, .int r, rfl, rfl, sq_of hp, rfl, _, rfl, _, _, rfl, rfl, _, rfl, ite2 (fun e => ?_) (fun e => ?_)⟩
      · refine ⟨_, rfl, p, _, 1, .int a, rfl, rfl, sq_of hp, rfl, ?_⟩
        refine ⟨_, rfl, _, _, rfl, rfl, .inl ⟨by decide, by decide⟩, ?_⟩
        refine ⟨fun σ' H' => ∃ y3 : Int, σ' = [some (.ref p), some (.int m), some (.int a), some (.int y3), none] ∧ Ex H H', ?_, ?_⟩
        · refine ⟨_, rfl, _, rfl, p, _, 0, .ref c, rfl, rfl, sq_of hp, rfl, c, _, rfl, .inl (sq_of hc), _, _, rfl, rfl, _, rfl, ite2 (fun e => ?_) (fun e => ?_)⟩
          · have ha : a < (ns.map V.int).length := of_decide_eq_true e
            have hb : a.toNat < ns.length := by
              rw [List.length_map] at ha
              omega
            refine ⟨_, rfl, p, _, 0, .ref c, rfl, rfl, sq_of hp, rfl, _, rfl, c, _, a, .int ns[a.toNat], rfl, rfl, sq_of hc, at_of (j := a.toNat) (by omega) ?_, _, rfl, Ex.refl _⟩
            rw [List.getElem?_map, List.getElem?_eq_getElem hb]
            rfl
          · refine ⟨_, rfl, p, _, 0, .ref c, rfl, rfl, sq_of hp, rfl, Nat.zero_le _, fun u hu => ?_⟩
            have e1 : Ex H (upd H u (.lst [])) := Ex.new hu
            refine ⟨.list (ns.map PyData.int), .list [], .lst (sq_of (e1 _ _ hc)) (dpInts ns), .lst (sq_of upd_same) .nil, shapedInts ns, shapedNil, _, rfl, ite2 (fun e => ?_) (fun e => ?_)⟩
            · have h0 : 0 < ns.length := by
                cases ns with
                | nil => exact absurd e (by decide)
                | cons x t => exact Nat.succ_pos _
              have hl : (0 : Int) < ((ns.map V.int).length : Int) := by
                rw [List.length_map]
                omega
              have g0 := Int.emod_nonneg (a * 7 + 1) (show ((ns.map V.int).length : Int) ≠ 0 by omega)
              have g1 := Int.emod_lt_of_pos (a * 7 + 1) hl
              have hb : ((a * 7 + 1) % ((ns.map V.int).length : Int)).toNat < ns.length := by
                rw [List.length_map] at g0 g1 ⊢
                omega
              refine ⟨_, rfl, p, _, 0, .ref c, rfl, rfl, sq_of (e1 _ _ hp), rfl, _, rfl, _, _, rfl, rfl, .inr ⟨by decide, by decide⟩, _, _, rfl, rfl, _, rfl, p, _, 0, .ref c, rfl, rfl, sq_of (e1 _ _ hp), rfl, c, _, rfl, .inl (sq_of (e1 _ _ hc)), _, _, rfl, rfl, hl, c, _, _, .int ns[((a * 7 + 1) % ((ns.map V.int).length : Int)).toNat], rfl, rfl, sq_of (e1 _ _ hc), at_of (j := ((a * 7 + 1) % ((ns.map V.int).length : Int)).toNat) (by omega) ?_, _, _, rfl, rfl, ⟨by decide, by decide, by decide⟩, _, rfl, _, _, rfl, rfl, .inl ⟨by decide, by decide⟩, _, _, rfl, rfl, _, _, rfl, rfl, ?_, _, rfl, e1⟩
              · rw [List.getElem?_map, List.getElem?_eq_getElem hb]
                rfl
              · show (0 : Int) < 10 ^ (17 : Int).toNat + 3 * a
                have : (10 : Int) ^ (17 : Int).toNat = 100000000000000000 := by decide
                omega
            · exact ⟨_, rfl, e1⟩
        · rintro σ' H' ⟨y3, rfl, e1⟩
          refine ⟨_, rfl, _, _, rfl, rfl, _, rfl, p, _, 1, 1, rfl, rfl, e1 _ _ hp, rfl, ?_⟩
          refine ⟨_, rfl, _, rfl, _, _, rfl, fun v => ⟨_, rfl, p, _, 2, 2, rfl, rfl, upd_same, rfl, ⟨_, _, rfl⟩, ?_, a + 1, v, by omega, upd_same, ?_⟩⟩
          · exact ((Keep.ofEx e1).at).at
          · rw [upd_ne hne, upd_ne hne]
            exact e1 _ _ hc
      · exact ⟨⟨_, _, rfl⟩, Keep.refl _ _, a, r, a0, hp, hc⟩
    · rintro σ' H' ⟨⟨y2, y3, rfl⟩, kp, a', r', a0', hp', hc'⟩
      have g0 := Int.emod_nonneg r' (show m ≠ 0 by omega)
      have g1 := Int.emod_lt_of_pos r' m0
      refine ⟨_, rfl, p, _, 2, .int r', rfl, rfl, sq_of hp', rfl, _, rfl, _, _, rfl, rfl, m0, ?_⟩
      refine ⟨_, rfl, p, _, 2, .int r', rfl, rfl, sq_of hp', rfl, _, rfl, _, _, rfl, rfl, ⟨m0, m1⟩, _, rfl, p, _, 2, 2, rfl, rfl, hp', rfl, ?_⟩
      refine ⟨_, rfl, ?_⟩
      have e : r' % m = ((r' % m).toNat : Int) := by omega
      show Q (.int (r' % m)) _
      rw [e]
      refine q _ _ (by omega) kp.at ⟨a', r' / m, a0', upd_same, ?_⟩
      rw [upd_ne hne]
      exact hc'
end
end Eh
set_option Elab.async false
set_option linter.all false
set_option maxRecDepth 100000
set_option maxHeartbeats 4000000
namespace Eh
open PySem PySem.Spec PyProof.Rows L2 Evl
section
variable {P : Program} {w : World} {K : PySem.W.Frag} {mg : Str → Option Value} {base : Heap}
def spPickW : Sp := fun vs H Q _ => ∃ (p c : Addr) (ns : List Int) (m : Int), vs = [.ref p, .int m] ∧ 0 < m ∧ m.natAbs.log2 < 9000 ∧ Pot p c ns H ∧ ∀ (v : Nat) H', (v : Int) < m → Keep p H H' → Pot p c ns H' → Q (.int v) H'
theorem ok_pickW {f fB : Addr} {fd fdB : FuncData} {k : Nat} (F : Fun K "_law_pick" "_law_pick" sPick f fd) (FB : Fun K "_law_blend" "_law_blend" sBlend fB fdB) (bB : Binds K fdB ["cell", "at"] []) (gB : mg "_law_blend" = some (.ref fB)) (ml : mg "len" = none) :
    FnOk P w K mg base CX0 (k + 2) f fd ["pot", "many"] spPickW := by
  have GB : FnOk P w K mg base CX0 (k + 1) fB fdB ["cell", "at"] spBlend := ok_blend FB
  have nd := scPick.nd
  refine F.ok scPick (fun vs H Q E h => ?_) (fun cdv A outer s H vs Q E hr h => ?_)
  · obtain ⟨p, c, ns, m, rfl, _⟩ := h
    rfl
  · obtain ⟨p, c, ns, m, rfl, m0, m1, hP, q⟩ := h
    refine ⟨_, pss_cut (ps_if (pt_cmpR op_lt (pe_ix ix_list (pv 0) pe_int (fun _ _ => rfl)) (pv 1) (nomark _))
       (pss_cons (ps_set (i := 2) nd rfl (.inl rfl) (pe_ix ix_list (pv 0) pe_int (fun _ _ => rfl)))
       (pss_cons (ps_set (i := 3) nd rfl (.inl rfl) (pe_op op_mul pe_int (pv 2)))
       (pss_cut (ps_if (pt_cmpR op_lt (pv 2) (pe_callB call_len_seq (by rfl) ml PySem.boot_len (pa_cons (pe_ix ix_list (pv 0) pe_int (fun _ _ => rfl)) pa_nil)) (nomark _))
            (pss_one (ps_set (i := 3) nd rfl (.inl rfl) (pe_ix ix_list (pe_ix ix_list (pv 0) pe_int (fun _ _ => rfl)) (pv 2) (fun _ _ => rfl))))
            (pss_one (ps_if (pt_cmpR (op_neD hr.units) (pe_ix ix_list (pv 0) pe_int (fun _ _ => rfl)) (pe_lst pa_nil) (nomark _))
              (pss_one (ps_set (i := 3) nd rfl (.inl rfl) (pe_op op_mod (pe_ix ix_list (pe_ix ix_list (pv 0) pe_int (fun _ _ => rfl)) (pe_op op_mod (pe_op op_add (pe_op op_mul (pv 2) pe_int) pe_int) (pe_callB call_len_seq (by rfl) ml PySem.boot_len (pa_cons (pe_ix ix_list (pv 0) pe_int (fun _ _ => rfl)) pa_nil))) (fun _ _ => rfl)) (pe_op op_add (pe_op op_pow pe_int pe_int) (pe_op op_mul pe_int (pv 2)))))) pss_nil)))
       (pss_cons (ps_asg (pe_op op_add (pv 2) pe_int) (pg_sub (pv 0) pe_int set_list))
       (pss_one (ps_asg (pe_call GB hr (by rfl) gB FB.kp bB .nil pass0 (pa_cons (pv 3) (pa_cons (pv 2) pa_nil))) (pg_sub (pv 0) pe_int set_list)))))))
       pss_nil)
      (pss_cons (ps_set (i := 4) nd rfl (.inl rfl) (pe_op op_mod (pe_ix ix_list (pv 0) pe_int (fun _ _ => rfl)) (pv 1)))
      (pss_cons (ps_asg (pe_op op_fdivW (pe_ix ix_list (pv 0) pe_int (fun _ _ => rfl)) (pv 1)) (pg_sub (pv 0) pe_int set_list))
      (pss_one (ps_ret (pv 4))))), ?_⟩
    have hne := hP.ne
    obtain ⟨a, r, a0, hp, hc⟩ := hP
    refine ⟨fun σ' H' => (∃ y2 y3, σ' = [some (.ref p), some (.int m), y2, y3, none]) ∧ Keep p H H' ∧ Pot p c ns H', ?_, ?_⟩
    · refine ⟨_, rfl, p, _, 2, .int r, rfl, rfl, sq_of hp, rfl, _, rfl, _, _, rfl, rfl, _, rfl, ite2 (fun e => ?_) (fun e => ?_)⟩
      · refine ⟨_, rfl, p, _, 1, .int a, rfl, rfl, sq_of hp, rfl, ?_⟩
        refine ⟨_, rfl, _, _, rfl, rfl, .inl ⟨by decide, by decide⟩, ?_⟩
        refine ⟨fun σ' H' => ∃ y3 : Int, σ' = [some (.ref p), some (.int m), some (.int a), some (.int y3), none] ∧ Ex H H', ?_, ?_⟩
        · refine ⟨_, rfl, _, rfl, p, _, 0, .ref c, rfl, rfl, sq_of hp, rfl, c, _, rfl, .inl (sq_of hc), _, _, rfl, rfl, _, rfl, ite2 (fun e => ?_) (fun e => ?_)⟩
          · have ha : a < (ns.map V.int).length := of_decide_eq_true e
            have hb : a.toNat < ns.length := by
              rw [List.length_map] at ha
              omega
            refine ⟨_, rfl, p, _, 0, .ref c, rfl, rfl, sq_of hp, rfl, _, rfl, c, _, a, .int ns[a.toNat], rfl, rfl, sq_of hc, at_of (j := a.toNat) (by omega) ?_, _, rfl, Ex.refl _⟩
            rw [List.getElem?_map, List.getElem?_eq_getElem hb]
            rfl
          · refine ⟨_, rfl, p, _, 0, .ref c, rfl, rfl, sq_of hp, rfl, Nat.zero_le _, fun u hu => ?_⟩
            have e1 : Ex H (upd H u (.lst [])) := Ex.new hu
            refine ⟨.list (ns.map PyData.int), .list [], .lst (sq_of (e1 _ _ hc)) (dpInts ns), .lst (sq_of upd_same) .nil, shapedInts ns, shapedNil, _, rfl, ite2 (fun e => ?_) (fun e => ?_)⟩
            · have h0 : 0 < ns.length := by
                cases ns with
                | nil => exact absurd e (by decide)
                | cons x t => exact Nat.succ_pos _
              have hl : (0 : Int) < ((ns.map V.int).length : Int) := by
                rw [List.length_map]
                omega
              have g0 := Int.emod_nonneg (a * 7 + 1) (show ((ns.map V.int).length : Int) ≠ 0 by omega)
              have g1 := Int.emod_lt_of_pos (a * 7 + 1) hl
              have hb : ((a * 7 + 1) % ((ns.map V.int).length : Int)).toNat < ns.length := by
                rw [List.length_map] at g0 g1 ⊢
                omega
              refine ⟨_, rfl, p, _, 0, .ref c, rfl, rfl, sq_of (e1 _ _ hp), rfl, _, rfl, _, _, rfl, rfl, .inr ⟨by decide, by decide⟩, _, _, rfl, rfl, _, rfl, p, _, 0, .ref c, rfl, rfl, sq_of (e1 _ _ hp), rfl, c, _, rfl, .inl (sq_of (e1 _ _ hc)), _, _, rfl, rfl, hl, c, _, _, .int ns[((a * 7 + 1) % ((ns.map V.int).length : Int)).toNat], rfl, rfl, sq_of (e1 _ _ hc), at_of (j := ((a * 7 + 1) % ((ns.map V.int).length : Int)).toNat) (by omega) ?_, _, _, rfl, rfl, ⟨by decide, by decide, by decide⟩, _, rfl, _, _, rfl, rfl, .inl ⟨by decide, by decide⟩, _, _, rfl, rfl, _, _, rfl, rfl, ?_, _, rfl, e1⟩
              · rw [List.getElem?_map, List.getElem?_eq_getElem hb]
                rfl
              · show (0 : Int) < 10 ^ (17 : Int).toNat + 3 * a
                have : (10 : Int) ^ (17 : Int).toNat = 100000000000000000 := by decide
                omega
            · exact ⟨_, rfl, e1⟩
        · rintro σ' H' ⟨y3, rfl, e1⟩
          refine ⟨_, rfl, _, _, rfl, rfl, _, rfl, p, _, 1, 1, rfl, rfl, e1 _ _ hp, rfl, ?_⟩
          refine ⟨_, rfl, _, rfl, _, _, rfl, fun v => ⟨_, rfl, p, _, 2, 2, rfl, rfl, upd_same, rfl, ⟨_, _, rfl⟩, ?_, a + 1, v, by omega, upd_same, ?_⟩⟩
          · exact ((Keep.ofEx e1).at).at
          · rw [upd_ne hne, upd_ne hne]
            exact e1 _ _ hc
      · exact ⟨⟨_, _, rfl⟩, Keep.refl _ _, a, r, a0, hp, hc⟩
    · rintro σ' H' ⟨⟨y2, y3, rfl⟩, kp, a', r', a0', hp', hc'⟩
      have g0 := Int.emod_nonneg r' (show m ≠ 0 by omega)
      have g1 := Int.emod_lt_of_pos r' m0
      refine ⟨_, rfl, p, _, 2, .int r', rfl, rfl, sq_of hp', rfl, _, rfl, _, _, rfl, rfl, m0, ?_⟩
      refine ⟨_, rfl, p, _, 2, .int r', rfl, rfl, sq_of hp', rfl, _, rfl, _, _, rfl, rfl, ⟨m0, m1⟩, _, rfl, p, _, 2, 2, rfl, rfl, hp', rfl, ?_⟩
      refine ⟨_, rfl, ?_⟩
      have e : r' % m = ((r' % m).toNat : Int) := by omega
      show Q (.int (r' % m)) _
      rw [e]
      refine q _ _ (by omega) kp.at ⟨a', r' / m, a0', upd_same, ?_⟩
      rw [upd_ne hne]
      exact hc'
end
end Eh
set_option Elab.async false
set_option linter.all false
set_option maxRecDepth 100000
set_option maxHeartbeats 4000000
namespace Eh
open PySem PySem.Spec PyProof.Rows L2 Evl
/-- for i, x in enumerate(list) -/
theorem for_enum {K : PySem.W.Frag} {a : Addr} {xs : List V} {tb : TS} {D : Ends} {σ : L2.St} {H : Hp} {i1 i2 : Nat} (Pv : Nat → L2.St → Hp → Prop) (h0 : Pv 0 σ H) (hl : ∀ i σ H, i ≤ xs.length → Pv i σ H → SqL K H a xs)
    (hs : ∀ i x σ H T, xs[i]? = some x → Pv i σ H → H T = none → tb { D with nx := Pv (i + 1), ct := Pv (i + 1), bk := D.nx } ((σ.set i1 (some (.int (i : Nat)))).set i2 (some x)) (upd H T (.tup [.int (i : Nat), x])))
    (hd : ∀ σ H, Pv xs.length σ H → D.nx σ H) :
    ∃ W : Nat → Nat → L2.St → Hp → Prop, (∃ m, W 0 m σ H) ∧ ∀ i m σ H, W i m σ H →
      ((Ite K a).stop i H ∧ D.nx σ H) ∨ ((Ite K a).go i H ∧ ∃ N : L2.St → Hp → Prop, (∀ σ' H', N σ' H' → ∃ m', m' < m ∧ W (i + 1) m' σ' H') ∧ ∀ x H', (Ite K a).yld i H x H' → gTup K 2 (gCons (gName i1) (gCons (gName i2) gNil)) x σ H' fun σ2 H2 => tb { D with nx := N, ct := N, bk := D.nx } σ2 H2) := by
  refine ⟨fun i m σ H => m = xs.length - i ∧ i ≤ xs.length ∧ Pv i σ H, ⟨xs.length, by omega, Nat.zero_le _, h0⟩, ?_⟩
  rintro i m σ H ⟨rfl, hi, p⟩
  have q := hl i σ H hi p
  by_cases hlt : i < xs.length
  · refine .inr ⟨⟨xs, xs[i], q, List.getElem?_eq_getElem hlt⟩, Pv (i + 1), fun σ' H' p' => ⟨xs.length - (i + 1), by omega, rfl, hlt, p'⟩, fun v H' y => ?_⟩
    obtain ⟨T, x, rfl, nT, rfl, f⟩ := y
    exact ⟨T, [.int (i : Nat), x], rfl, st_of upd_same, rfl, _, _, rfl, _, _, rfl, rfl, hs i x σ H T (f xs q) p nT⟩
  · have e : i = xs.length := by omega
    subst e
    exact .inl ⟨⟨xs, q, Nat.le_refl _⟩, hd σ H p⟩
theorem cut0 (xs : List V) (n : Nat) : cutV xs none (some (n : Int)) = xs.take n := by
  unfold cutV
  rw [HT.sIx_none, HT.sIx_nat, List.drop_zero, Nat.sub_zero]
  rw [List.take_eq_take_iff]
  omega
theorem cutF (xs : List V) (n : Nat) : cutV xs (some (n : Int)) none = xs.drop n := by
  unfold cutV
  rw [HT.sIx_none, HT.sIx_nat]
  by_cases h : n ≤ xs.length
  · rw [Nat.min_eq_left h]
    exact List.take_of_length_le (by rw [List.length_drop]; exact Nat.le_refl _)
  · rw [Nat.min_eq_right (by omega), List.drop_of_length_le (Nat.le_refl _), List.drop_of_length_le (by omega)]
    exact List.take_nil
theorem cutLH (xs : List V) (n m : Nat) : cutV xs (some (n : Int)) (some (m : Int)) = (xs.take m).drop n := by
  unfold cutV
  rw [HT.sIx_nat, HT.sIx_nat, List.drop_take]
  by_cases h : n ≤ xs.length
  · rw [Nat.min_eq_left h, List.take_eq_take_iff, List.length_drop]
    omega
  · rw [Nat.min_eq_right (show xs.length ≤ n by omega), List.drop_of_length_le (Nat.le_refl _), List.drop_of_length_le (show xs.length ≤ n by omega), List.take_nil, List.take_nil]
section
variable {P : Program} {w : World} {K : PySem.W.Frag} {mg : Str → Option Value} {base : Heap}
def spPot (K : PySem.W.Frag) : Sp := fun vs H Q _ => ∃ (a : Addr) (ns : List Int), vs = [.ref a] ∧ SqL K H a (ns.map V.int) ∧ ns.length ≤ 63 ∧ ∀ (p c : Addr) (ms : List Int) H', Ex H H' → Pot p c ms H' → H p = none → H c = none → Q (.ref p) H'
theorem ok_pot {f : Addr} {fd : FuncData} {k : Nat} (F : Fun K "_law_pot" "_law_pot" sPot f fd) (ml : mg "list" = none) (me : mg "enumerate" = none) :
    FnOk P w K mg base CX0 (k + 1) f fd ["script"] (spPot K) := by
  have nd := scPot.nd
  refine F.ok scPot (fun vs H Q E h => ?_) (fun cdv A outer s H vs Q E hr h => ?_)
  · obtain ⟨a, ns, rfl, _⟩ := h
    rfl
  · obtain ⟨a, ns, rfl, hS, hl, q⟩ := h
    refine ⟨_, pss_cons (ps_set (i := 1) nd rfl (.inl rfl) (pe_callTy call_list_of (by rfl) ml (by decide +kernel) (pa_cons (pe_slice sl_list (pv 0) po_none (po_some pe_int)) pa_nil)))
      (pss_cons (ps_for PassesOwn.never rfl (pi_enum (by rfl) me (pa_cons (pe_slice sl_list (pv 0) (po_some pe_int) (po_some pe_int)) pa_nil)) (pg_tup rfl (pgs_cons (pg_name (i := 2) nd rfl (.inl rfl)) (pgs_cons (pg_name (i := 3) nd rfl (.inl rfl)) pgs_nil)))
         (pss_one (ps_asg (pe_op op_add (pe_ix ix_list (pv 1) (pe_op op_mod (pv 2) pe_int) (fun _ _ => rfl)) (pv 3)) (pg_sub (pv 1) (pe_op op_mod (pv 2) pe_int) set_list))))
      (pss_one (ps_ret (pe_lst (pa_cons (pv 1) (pa_cons pe_int (pa_cons pe_int pa_nil))))))), ?_⟩
    refine ⟨_, rfl, 12, rfl, a, _, rfl, hS, fun u hu => ⟨u, _, rfl, .inl (sq_of upd_same), fun c hc => ?_⟩⟩
    have hcu : c ≠ u := fun e => by
      rw [e, upd_same] at hc
      cases hc
    have hcH : H c = none := by rw [← hc, upd_ne hcu]
    have e1 : Ex H (upd (upd H u (.lst (cutV (ns.map V.int) none (some 12)))) c (.lst (cutV (ns.map V.int) none (some 12)))) := (Ex.new hu).trans (Ex.new hc)
    have ec : cutV (ns.map V.int) none (some 12) = (ns.take 12).map V.int := by
      rw [show (some 12 : Option Int) = some ((12 : Nat) : Int) from rfl, cut0, List.map_take]
    rw [ec] at e1
    rw [ec]
    generalize hH1 : upd (upd H u (.lst ((ns.take 12).map V.int))) c (.lst ((ns.take 12).map V.int)) = H1 at e1 ⊢
    have hc1 : H1 c = some (.lst ((ns.take 12).map V.int)) := by
      rw [← hH1]
      exact upd_same
    refine ⟨_, rfl, 12, rfl, 63, rfl, a, _, rfl, ex_l e1 hS, fun l nl => ?_⟩
    have es : cutV (ns.map V.int) (some 12) (some 63) = ((ns.take 63).drop 12).map V.int := by
      rw [show (some 12 : Option Int) = some ((12 : Nat) : Int) from rfl, show (some 63 : Option Int) = some ((63 : Nat) : Int) from rfl, cutLH, List.map_drop, List.map_take]
    rw [es]
    have nlc : l ≠ c := fun e => by
      rw [e, hc1] at nl
      cases nl
    refine ⟨l, _, rfl, sq_of upd_same, for_enum (xs := ((ns.take 63).drop 12).map V.int) (fun i σ H' => (∃ y2 y3, σ = [some (.ref a), some (.ref c), y2, y3]) ∧ Ex H H' ∧ H' l = some (.lst (((ns.take 63).drop 12).map V.int)) ∧ ∃ ms : List Int, ms.length = min 12 ns.length ∧ H' c = some (.lst (ms.map V.int))) ?_ ?_ ?_ ?_⟩
    · refine ⟨⟨_, _, rfl⟩, e1.trans (Ex.new nl), upd_same, ns.take 12, ?_, ?_⟩
      · rw [List.length_take]
      · rw [upd_ne nlc.symm]
        exact hc1
    · rintro i σ H' _ ⟨_, _, h, _⟩
      exact sq_of h
    · rintro i x σ H' T hx ⟨⟨y2, y3, rfl⟩, eH, hl', ms, hms, hc'⟩ nT
      have ex : ∃ z : Int, x = .int z := by
        rw [List.getElem?_map] at hx
        obtain ⟨z, _, e⟩ := Option.map_eq_some_iff.mp hx
        exact ⟨z, e.symm⟩
      obtain ⟨z, rfl⟩ := ex
      have hi : 12 < ns.length := by
        have := (List.getElem?_eq_some_iff.mp hx).1
        rw [List.length_map, List.length_drop, List.length_take] at this
        omega
      have g0 : ((i : Int) % 12) = ((i % 12 : Nat) : Int) := by omega
      have hj : i % 12 < ms.length := by
        rw [hms]
        have := Nat.mod_lt i (show 0 < 12 by decide)
        omega
      have eT : Ex H' (upd H' T (.tup [.int (i : Nat), .int z])) := Ex.new nT
      have ix : (ms.map V.int)[i % 12]? = some (.int ms[i % 12]) := by
        rw [List.getElem?_map, List.getElem?_eq_getElem hj]
        rfl
      refine ⟨_, rfl, _, rfl, _, _, rfl, rfl, (by show (0 : Int) < _; decide), c, _, _, _, rfl, rfl, sq_of (eT _ _ hc'), at_of (j := i % 12) g0 ix, _, rfl, _, _, rfl, rfl, _, rfl, _, rfl, _, _, rfl, rfl, (by show (0 : Int) < _; decide), c, _, _, i % 12, rfl, rfl, eT _ _ hc', ?_, ⟨_, _, rfl⟩, ?_, ?_, ms.set (i % 12) (ms[i % 12] + z), ?_, ?_⟩
      · show ixN _ ((i : Int) % 12) = _
        rw [g0]
        exact ixN_nat (by rw [List.length_map]; exact hj)
      · exact Ex.mut (eH.trans eT) hcH
      · rw [upd_ne nlc]
        exact eT _ _ hl'
      · rw [List.length_set]
        exact hms
      · rw [upd_same, List.map_set]
    · rintro σ H' ⟨⟨y2, y3, rfl⟩, eH, hl', ms, hms, hc'⟩
      refine ⟨_, rfl, (by show 3 ≤ sizeLine; decide), fun p np => q p c ms _ (eH.trans (Ex.new np)) ⟨0, 0, by decide, upd_same, ?_⟩ (fresh_back eH np) hcH⟩
      have : c ≠ p := fun e => by
        rw [← e, hc'] at np
        cases np
      rw [upd_ne this]
      exact hc'
end
end Eh
set_option Elab.async false
set_option linter.all false
set_option maxRecDepth 100000
set_option maxHeartbeats 4000000
namespace Eh
open PySem PySem.Spec PyProof.Rows L2 Evl TL
/-! texts as lists of codes -/
abbrev cs (w : Str) : List Nat := w.cps.toList
theorem cs_ext {x y : Str} (h : cs x = cs y) : x = y := by
  cases x with | mk a => cases y with | mk b =>
  have : a = b := by
    apply Array.ext'
    exact h
  rw [this]
def az (c : Nat) : Prop := 97 ≤ c ∧ c < 123
/-- what is drawn as a letter -/
def Ltr (w : Str) : Prop := (∀ c ∈ cs w, az c) ∧ 1 ≤ (cs w).length ∧ (cs w).length ≤ 8
def spotAt (spot n : Nat) : Nat := if spot = 0 then 0 else if spot = 1 then n else n / 2
def mkL (rest : List Nat) (spot turn size k : Nat) : List Nat :=
  (rest.take ((size + k * (spot % 2)) % 8)).take (spotAt spot (rest.take ((size + k * (spot % 2)) % 8)).length) ++ ([97 + (turn + 5 * k) % 26] ++ (rest.take ((size + k * (spot % 2)) % 8)).drop (spotAt spot (rest.take ((size + k * (spot % 2)) % 8)).length))
theorem mkL_inj {rest : List Nat} {spot turn size k1 k2 : Nat} (hs : spot < 3) (h1 : k1 < 26) (h2 : k2 < 26) (h : mkL rest spot turn size k1 = mkL rest spot turn size k2) : k1 = k2 := by
  have key : 97 + (turn + 5 * k1) % 26 = 97 + (turn + 5 * k2) % 26 → k1 = k2 := fun e => by omega
  apply key
  unfold mkL at h
  have cases3 : spot = 0 ∨ spot = 1 ∨ spot = 2 := by omega
  rcases cases3 with rfl | rfl | rfl
  · simp only [spotAt, if_true, List.take_zero, List.nil_append, List.cons_append] at h
    exact (List.cons.inj h).1
  · have n1 : ∀ l : List Nat, spotAt 1 l.length = l.length := fun l => rfl
    rw [n1, n1, List.take_length, List.take_length, List.drop_length, List.drop_length, List.append_nil, List.append_nil] at h
    exact (List.cons.inj (List.append_inj' h rfl).2).1
  · rw [show k1 * (2 % 2) = 0 from Nat.mul_zero _, show k2 * (2 % 2) = 0 from Nat.mul_zero _] at h
    have := List.append_cancel_left h
    exact (List.cons.inj this).1
theorem mkL_len {rest : List Nat} {spot turn size k : Nat} : (mkL rest spot turn size k).length = (rest.take ((size + k * (spot % 2)) % 8)).length + 1 := by
  unfold mkL
  generalize rest.take ((size + k * (spot % 2)) % 8) = l
  rw [List.length_append, List.length_append, List.length_take, List.length_drop, List.length_singleton]
  omega
theorem mkL_az {rest : List Nat} {spot turn size k : Nat} (h : ∀ c ∈ rest, az c) : ∀ c ∈ mkL rest spot turn size k, az c := by
  intro c hc
  unfold mkL at hc
  rcases List.mem_append.mp hc with q | q
  · exact h c (List.mem_of_mem_take (List.mem_of_mem_take q))
  · rcases List.mem_append.mp q with q | q
    · rw [List.mem_singleton.mp q]
      unfold az
      omega
    · exact h c (List.mem_of_mem_take (List.mem_of_mem_drop q))
def mkS (rest : List Nat) (spot turn size k : Nat) : Str := ⟨(mkL rest spot turn size k).toArray⟩
theorem cs_mkS {rest : List Nat} {spot turn size k : Nat} : cs (mkS rest spot turn size k) = mkL rest spot turn size k := rfl
def mkAll (rest : List Nat) (spot turn size n : Nat) : List Str := (List.range n).map (mkS rest spot turn size)
theorem mkAll_nodup {rest : List Nat} {spot turn size n : Nat} (hs : spot < 3) (hn : n ≤ 26) : (mkAll rest spot turn size n).Nodup := by
  unfold mkAll
  rw [List.Nodup, List.pairwise_map]
  refine List.Pairwise.imp_of_mem (fun {a b} ha hb hab e => hab ?_) (List.nodup_range (n := n))
  have ha' := List.mem_range.mp ha
  have hb' := List.mem_range.mp hb
  exact mkL_inj hs (by omega) (by omega) (by
    have := congrArg cs e
    exact this)
theorem mkAll_ltr {rest : List Nat} {spot turn size n : Nat} (h : ∀ c ∈ rest, az c) : ∀ w ∈ mkAll rest spot turn size n, Ltr w := by
  intro w hw
  obtain ⟨k, _, rfl⟩ := List.mem_map.mp hw
  refine ⟨fun c hc => mkL_az h c hc, ?_, ?_⟩
  · rw [cs_mkS, mkL_len]
    omega
  · rw [cs_mkS, mkL_len, List.length_take]
    omega
theorem joinL_nil : ∀ ls : List (List Nat), joinL [] ls = ls.flatten
  | [] => rfl
  | [p] => by simp [joinL]
  | p :: q :: r => by
    show p ++ ([] ++ joinL [] (q :: r)) = (p :: q :: r).flatten
    rw [joinL_nil (q :: r), List.nil_append]
    rfl
theorem flat_one : ∀ ds : List Nat, (ds.map fun c => [c]).flatten = ds
  | [] => rfl
  | d :: r => by
    show [d] ++ (r.map fun c => [c]).flatten = d :: r
    rw [flat_one r]
    rfl
theorem cs_join (ds : List Nat) : cs (Txt.join (Str.ofString "") (ds.map fun c => (⟨#[c]⟩ : Str))) = ds := by
  have h := tl_join (Str.ofString "") (ds.map fun c => (⟨#[c]⟩ : Str))
  rw [← join_eq, show tl (Str.ofString "") = [] from rfl, joinL_nil, List.map_map] at h
  exact h.trans (flat_one ds)
abbrev alpha : Str := Str.ofString "abcdefghijklmnopqrstuvwxyz"
theorem cs_alpha : cs alpha = (List.range 26).map (97 + ·) := by decide +kernel
theorem alpha_at {v : Nat} (h : v < 26) : atI (cs alpha) (v : Int) = some (97 + v) := by
  refine atI_nat ?_
  rw [cs_alpha, List.getElem?_map, List.getElem?_range h]
  rfl
theorem cs_app (x y : Str) : cs (x ++ y) = cs x ++ cs y := tl_append x y
theorem len_cs (x : Str) : x.length = (cs x).length := by simp [Str.length]
theorem cs_cut0 (x : Str) (n : Nat) : cs (cutS x none (some (n : Int))) = (cs x).take n := by
  unfold cutS
  rw [HT.sIx_none, HT.sIx_nat]
  show ((cs x).drop 0).take _ = _
  rw [List.drop_zero, Nat.sub_zero, List.take_eq_take_iff, len_cs]
  omega
theorem cs_cutF (x : Str) (n : Nat) : cs (cutS x (some (n : Int)) none) = (cs x).drop n := by
  unfold cutS
  rw [HT.sIx_none, HT.sIx_nat, len_cs]
  show ((cs x).drop _).take _ = _
  by_cases h : n ≤ (cs x).length
  · rw [Nat.min_eq_left h]
    exact List.take_of_length_le (by rw [List.length_drop]; exact Nat.le_refl _)
  · rw [Nat.min_eq_right (show (cs x).length ≤ n by omega), List.drop_of_length_le (Nat.le_refl _), List.drop_of_length_le (show (cs x).length ≤ n by omega), List.take_nil]
end Eh
set_option Elab.async false
set_option linter.all false
set_option maxRecDepth 100000
set_option maxHeartbeats 4000000
namespace Eh
open PySem PySem.Spec PyProof.Rows L2
section
variable {X : Cx}
theorem call_repr_bl : CallR X (.builtin "repr") (fun xs H Q => ∃ b, xs = [.bl b] ∧ Q (.str (if b then "True" else "False")) H) := by
  intro pins s σ H xs us Q I r h
  obtain ⟨b, rfl, q⟩ := h
  cases r with
  | cons r1 rr =>
    cases rr
    cases r1
    exact PySem.P.repr_of_bool ⟨.str _, H, I.tok _, ⟨_, rfl⟩, q⟩
/-- a text so often -/
def repS (x : Str) (n : Nat) : Str := ⟨(List.replicate n x.cps).foldl (· ++ ·) #[]⟩
theorem foldl_app (l : List (Array Nat)) (a : Array Nat) : (l.foldl (· ++ ·) a).toList = a.toList ++ (l.map (·.toList)).flatten := by
  induction l generalizing a with
  | nil => simp
  | cons x r ih =>
    rw [List.foldl_cons, ih]
    simp
theorem repS_cs (x : Str) (n : Nat) : (repS x n).cps.toList = (List.replicate n x.cps.toList).flatten := by
  unfold repS
  rw [foldl_app, List.map_replicate]
  rfl
theorem op_repS : OpR X (binaryOp .Mult) (fun x y H Q => ∃ (z : Str) (n : Nat), x = .str z ∧ y = .int (n : Int) ∧ z.length ≤ 1000 ∧ n ≤ 1000 ∧ Q (.str (repS z n)) H) := by
  intro pins s σ H x y v u Q I rx ry h
  obtain ⟨z, n, rfl, rfl, hz, hn, q⟩ := h
  obtain ⟨t, rfl⟩ := rx
  obtain ⟨t', rfl⟩ := ry
  have e0 : n < 1 → repS z n = Str.empty := fun h => by
    have : n = 0 := by omega
    subst this
    rfl
  have ext : ∀ a b : Str, a.cps.toList = b.cps.toList → a = b := fun a b h => by
    cases a
    cases b
    congr 1
    exact Array.toList_inj.mp h
  have e1 : (n = 1 ∨ z.length = 0) → ¬ n < 1 → repS z n = z := fun h h1 => by
    apply ext
    rw [repS_cs]
    rcases h with h | h
    · subst h
      simp
    · have hz0 : z.cps.toList = [] := by
        have : z.cps.size = 0 := h
        exact List.eq_nil_of_length_eq_zero (by simpa using this)
      rw [hz0]
      simp
  have hm : z.length * n ≤ 1000000 := Nat.le_trans (Nat.mul_le_mul hz hn) (by decide)
  refine PySem.P.mul_str (by rw [decide_eq_false (by omega), decide_eq_false (by omega)]; rfl) (fun h1 _ => ?_) (fun h1 _ => ?_) ?_
  · have h2 : (1 : Int) ≤ n := by omega
    have h3 : (9223372036854775807 : Int) / (n : Int) ≥ 9223372036854775807 / 1000 := by
      refine Int.le_ediv_of_mul_le (by omega) ?_
      omega
    show ¬ ((z.length : Int) > (2 ^ 63 - 1) / (n : Int))
    have e2 : ((2 : Int) ^ 63 - 1) = 9223372036854775807 := by decide
    rw [e2]
    omega
  · rw [Int.toNat_natCast]
    show decide (z.length * n > sizeLine) = false
    rw [sizeLine_eq]
    exact decide_eq_false (by omega)
  · by_cases h1 : (n : Int) < 1
    · rw [if_pos h1]
      refine ⟨by decide, .str (repS z n), H, I.tok _, ⟨s.toks, ?_⟩, q⟩
      rw [e0 (by omega)]
    · rw [if_neg h1]
      by_cases h2 : ((n : Int) == 1 || z.length == 0) = true
      · rw [if_pos h2]
        have h3 : n = 1 ∨ z.length = 0 := by
          simp at h2
          omega
        have h4 := e1 h3 (by omega)
        rw [h4] at q
        exact ⟨.str z, H, I, ⟨_, rfl⟩, q⟩
      · rw [if_neg h2]
        have hl : (repS z n).length ≤ sizeLine := by
          have : (repS z n).length = n * z.length := by
            show (repS z n).cps.size = n * z.cps.size
            rw [← Array.length_toList, repS_cs]
            simp
          rw [this, sizeLine_eq, Nat.mul_comm]
          omega
        exact ⟨hl, .str (repS z n), H, I.tok _, ⟨_, rfl⟩, q⟩
/-- xs < ys, lists of ints -/
theorem firstLt_lex : ∀ (ns ms : List Int) (k : Nat) (e r : Nat → Bool), (∀ j, j < ns.length → j < ms.length → e (k + j) = decide (ns[j]? = ms[j]?)) → (∀ j, j < ns.length → j < ms.length → r (k + j) = decide (ns.getD j 0 < ms.getD j 0)) → SeqAt.firstLt e r (decide (ns.length < ms.length)) ((List.range (min ns.length ms.length)).map (k + ·)) = HT.lexLt ns ms
  | [], [], k, e, r, _, _ => rfl
  | [], y :: ms, k, e, r, _, _ => by simp [SeqAt.firstLt, HT.lexLt]
  | x :: ns, [], k, e, r, _, _ => by simp [SeqAt.firstLt, HT.lexLt]
  | x :: ns, y :: ms, k, e, r, he, hr => by
    rw [HT.lexLt_cons, List.length_cons, List.length_cons, show min (ns.length + 1) (ms.length + 1) = min ns.length ms.length + 1 by omega, List.range_succ_eq_map, List.map_cons, List.map_map]
    have e0 := he 0 (by simp) (by simp)
    have r0 := hr 0 (by simp) (by simp)
    have ih := firstLt_lex ns ms (k + 1) e r (fun j h1 h2 => by
      have := he (j + 1) (by simpa using h1) (by simpa using h2)
      rw [show k + 1 + j = k + (j + 1) by omega, this]
      simp) (fun j h1 h2 => by
      have := hr (j + 1) (by simpa using h1) (by simpa using h2)
      rw [show k + 1 + j = k + (j + 1) by omega, this]
      simp)
    by_cases h : x = y
    · rw [if_pos h, SeqAt.firstLt_yes (by rw [e0]; simp [h])]
      rw [show (decide (ns.length + 1 < ms.length + 1)) = decide (ns.length < ms.length) by simp, show ((fun x => k + x) ∘ Nat.succ) = (fun x => k + 1 + x) by funext z; show k + (z + 1) = k + 1 + z; omega]
      exact ih
    · rw [if_neg h, SeqAt.firstLt_no (by rw [e0]; simp [h]), r0]
      rfl
def rLtL (K : PySem.W.Frag) : R2 := fun x y H Q => ∃ (a b : Addr) (ns ms : List Int), x = .ref a ∧ y = .ref b ∧ SqL K H a (ns.map V.int) ∧ SqL K H b (ms.map V.int) ∧ Q (.bl (HT.lexLt ns ms)) H
theorem op_ltL (hu : X.A.units < cLine) : OpR X (compareOp .Lt) (rLtL X.K) := by
  intro pins s σ H x y v u Q I rx ry h
  obtain ⟨a, b, ns, ms, rfl, rfl, ha, hb, q⟩ := h
  cases rx
  cases ry
  obtain ⟨its, r1, p1, _⟩ := I.list ha
  obtain ⟨its2, r2, p2, _⟩ := I.list hb
  have l1 : its.length = ns.length := by
    have := r1.length
    rw [List.length_map] at this
    exact this.symm
  have l2 : its2.length = ms.length := by
    have := r2.length
    rw [List.length_map] at this
    exact this.symm
  have g1 : ∀ j (h : j < ns.length), ∃ t, its[j]'(by omega) = .int ns[j] t := fun j h => by
    obtain ⟨u, hu, t, ru⟩ := r1.get (i := j) (show (ns.map V.int)[j]? = some (.int ns[j]) by rw [List.getElem?_map, List.getElem?_eq_getElem h]; rfl)
    obtain ⟨_, e⟩ := List.getElem?_eq_some_iff.mp hu
    exact ⟨t, e.trans ru⟩
  have g2 : ∀ j (h : j < ms.length), ∃ t, its2[j]'(by omega) = .int ms[j] t := fun j h => by
    obtain ⟨u, hu, t, ru⟩ := r2.get (i := j) (show (ms.map V.int)[j]? = some (.int ms[j]) by rw [List.getElem?_map, List.getElem?_eq_getElem h]; rfl)
    obtain ⟨_, e⟩ := List.getElem?_eq_some_iff.mp hu
    exact ⟨t, e.trans ru⟩
  have key := SeqAt.RcLt.lists (A := X.A) (s := s) (e := fun j => decide (ns[j]? = ms[j]?)) (r := fun j => decide (ns.getD j 0 < ms.getD j 0)) p1.isList p2.isList hu (fun j h1 h2 => ?_) (fun j h1 h2 hj => ?_)
  · have e : SeqAt.firstLt (fun j => decide (ns[j]? = ms[j]?)) (fun j => decide (ns.getD j 0 < ms.getD j 0)) (decide (its.toArray.size < its2.toArray.size)) (List.range (min its.toArray.size its2.toArray.size)) = HT.lexLt ns ms := by
      have := firstLt_lex ns ms 0 (fun j => decide (ns[j]? = ms[j]?)) (fun j => decide (ns.getD j 0 < ms.getD j 0)) (fun j _ _ => by rw [Nat.zero_add]) (fun j _ _ => by rw [Nat.zero_add])
      rw [← this]
      simp [l1, l2]
    rw [e] at key
    exact key _ _ _ _ ⟨.bl _, H, I, rfl, q⟩
  · have h1' : j < ns.length := by simpa [l1] using h1
    have h2' : j < ms.length := by simpa [l2] using h2
    obtain ⟨t1, e1⟩ := g1 j h1'
    obtain ⟨t2, e2⟩ := g2 j h2'
    have e3 : its.toArray[j] = .int ns[j] t1 := by simpa using e1
    have e4 : its2.toArray[j] = .int ms[j] t2 := by simpa using e2
    rw [e3, e4]
    have := SeqAt.EqAt.int_int (A := X.A.in1) (s := s) ns[j] t1 ms[j] t2
    have e5 : decide (ns[j]? = ms[j]?) = (ns[j] == ms[j]) := by
      rw [List.getElem?_eq_getElem h1', List.getElem?_eq_getElem h2']
      by_cases z : ns[j] = ms[j] <;> simp [z]
    simp only [e5]
    exact this
  · have h1' : j < ns.length := by simpa [l1] using h1
    have h2' : j < ms.length := by simpa [l2] using h2
    obtain ⟨t1, e1⟩ := g1 j h1'
    obtain ⟨t2, e2⟩ := g2 j h2'
    have e3 : its.toArray[j] = .int ns[j] t1 := by simpa using e1
    have e4 : its2.toArray[j] = .int ms[j] t2 := by simpa using e2
    rw [e3, e4]
    have e5 : decide (ns.getD j 0 < ms.getD j 0) = decide (ns[j] < ms[j]) := by
      rw [List.getD_eq_getElem?_getD, List.getD_eq_getElem?_getD, List.getElem?_eq_getElem h1', List.getElem?_eq_getElem h2']
      rfl
    simp only [e5]
    intro prog w E Q hq
    exact HT.rcLt_int _ _ _ _ _ _ prog w E Q hq
end
end Eh
set_option Elab.async false
set_option linter.all false
set_option maxRecDepth 100000
set_option maxHeartbeats 4000000
namespace Eh
open PySem PySem.Spec PyProof.Rows L2 Evl
abbrev lS (ws : List Str) : HO := .lst (ws.map V.str)
abbrev nLetters : List Str := ["pot", "many", "small", "k", "rest", "spot", "turn", "size", "found", "part", "at"]
theorem yesT {σ : L2.St} {H : Hp} {A B : Hp → Prop} (h : A H) : tYes σ H (fun b H3 => if b = true then A H3 else B H3) := by
  show if true = true then A H else B H
  exact iteT h
theorem Pot.ne_new {p c q : Addr} {ns : List Int} {H : Hp} (h : Pot p c ns H) (hq : H q = none) : p ≠ q ∧ c ≠ q := by
  obtain ⟨a, r, h0, h1, h2⟩ := h
  exact ⟨ne_of_none h1 hq, ne_of_none h2 hq⟩
section
variable {P : Program} {w : World} {K : PySem.W.Frag} {mg : Str → Option Value} {base : Heap}
def spLetters : Sp := fun vs H Q _ => ∃ (p c : Addr) (ns : List Int) (m : Nat), vs = [.ref p, .int (m : Int)] ∧ m ≤ 26 ∧ Pot p c ns H ∧
  ∀ (ws : List Str) l H', ws.length = m → ws.Nodup → (∀ x ∈ ws, Ltr x) → Keep p H H' → Pot p c ns H' → H l = none → H' l = some (lS ws) → Q (.ref l) H'
theorem ok_letters {f fP : Addr} {fd fdP : FuncData} {k : Nat} (F : Fun K "_law_letters" "_law_letters" sLetters f fd) (FP : Fun K "_law_pick" "_law_pick" sPick fP fdP) (GP : FnOk P w K mg base CX0 (k + 1) fP fdP ["pot", "many"] spPick) (bP : Binds K fdP ["pot", "many"] []) (gP : mg "_law_pick" = some (.ref fP)) (ml : mg "len" = none) (mr : mg "range" = none) :
    FnOk P w K mg base CX0 (k + 2) f fd ["pot", "many"] spLetters := by
  have nd := scLetters.nd
  refine F.ok scLetters (fun vs H Q E h => ?_) (fun cdv A outer s H vs Q E hr h => ?_)
  · obtain ⟨p, c, ns, m, rfl, _⟩ := h
    rfl
  · obtain ⟨p, c, ns, m, rfl, m1, hP, q⟩ := h
    refine ⟨_, pss_cons (ps_set (i := 2) nd rfl (.inr rfl) pe_str)
      (pss_cons (ps_set (i := 4) nd rfl (.inl rfl) (pe_join pe_str (pe_lc (own := [("k", 3)]) (g := gName 3) (tt := tYes) (by rfl) nd (pi_range1 (by rfl) mr (pa_cons pe_int pa_nil)) (blkOk_by (own := [("k", 3)]) (N := nLetters) (sc := defScope sLetters) (by decide +kernel)) (fun _ _ _ _ _ => pg_name (i := 3) nd rfl (Or.inl rfl)) (fun _ _ _ _ _ => pts_nil)
          (fun _ _ _ _ _ => pe_ix ix_str (pv 2) (pe_call GP hr (by rfl) gP FP.kp bP .nil pass0 (pa_cons (pv 0) (pa_cons pe_int pa_nil))) (fun _ _ => rfl)))))
      (pss_cons (ps_set (i := 5) nd rfl (.inl rfl) (pe_call GP hr (by rfl) gP FP.kp bP .nil pass0 (pa_cons (pv 0) (pa_cons pe_int pa_nil))))
      (pss_cons (ps_set (i := 6) nd rfl (.inl rfl) (pe_call GP hr (by rfl) gP FP.kp bP .nil pass0 (pa_cons (pv 0) (pa_cons pe_int pa_nil))))
      (pss_cons (ps_set (i := 7) nd rfl (.inl rfl) (pe_call GP hr (by rfl) gP FP.kp bP .nil pass0 (pa_cons (pv 0) (pa_cons pe_int pa_nil))))
      (pss_cons (ps_set (i := 8) nd rfl (.inl rfl) (pe_lst pa_nil))
      (pss_cons (ps_for PassesOwn.never rfl (pi_range1 (by rfl) mr (pa_cons (pv 1) pa_nil)) (pg_name (i := 3) nd rfl (.inl rfl))
        (pss_cons (ps_set (i := 9) nd rfl (.inl rfl) (pe_slice sl_str (pv 4) po_none (po_some (pe_op op_mod (pe_op op_add (pv 7) (pe_op op_mul (pv 3) (pe_op op_mod (pv 5) pe_int))) pe_int))))
        (pss_cons (ps_set (i := 10) nd rfl (.inl rfl) (pe_ix ix_list (pe_lst (pa_cons pe_int (pa_cons (pe_callB call_len_str (by rfl) ml PySem.boot_len (pa_cons (pv 9) pa_nil)) (pa_cons (pe_op op_fdiv (pe_callB call_len_str (by rfl) ml PySem.boot_len (pa_cons (pv 9) pa_nil)) pe_int) pa_nil)))) (pv 5) (fun _ _ => rfl)))
        (pss_one (ps_expr (pe_bm PySem.F.plainAttrs_list PySem.F.slot_list_append PySem.F.type_list_append mt_append (pv 8) (pa_cons (pe_op op_add_str (pe_op op_add_str (pe_slice sl_str (pv 9) po_none (po_some (pv 10))) (pe_ix ix_str (pv 2) (pe_op op_mod (pe_op op_add (pv 6) (pe_op op_mul pe_int (pv 3))) pe_int) (fun _ _ => rfl))) (pe_slice sl_str (pv 9) (po_some (pv 10)) po_none)) pa_nil)))))))
      (pss_one (ps_ret (pv 8))))))))), ?_⟩
    -- rest
    refine ⟨⟨_, rfl⟩, 7, rfl, by decide, by decide, fun D nD => ?_⟩
    refine lc_range (lo := 0) (n := 7) (fun i H' => ∃ ds : List Nat, ds.length = i ∧ (∀ d ∈ ds, az d) ∧ H' D = some (.lst (ds.map fun d => .str ⟨#[d]⟩)) ∧ Keep p H H' ∧ Pot p c ns H') ?_ ?_ ?_
    · exact ⟨[], rfl, fun d hd => (List.not_mem_nil hd).elim, upd_same, (Keep.refl p H).new nD, hP.new (hP.ne_new nD).1 (hP.ne_new nD).2⟩
    · rintro i H' hi ⟨ds, hds, haz, hD, kp, hP'⟩
      refine ⟨rfl, ?_⟩
      refine yesT ?_
      refine ⟨_, rfl, _, rfl, p, c, ns, 26, rfl, by decide, by decide, hP', fun v H2 hv kp2 hP2 => ?_⟩
      have hv' : v < 26 := by omega
      have hpD := (hP.ne_new nD).1
      have hD2 : H2 D = some (.lst (ds.map fun d => .str ⟨#[d]⟩)) := kp2 _ _ hpD.symm hD
      refine ⟨_, _, 97 + v, rfl, rfl, by decide, alpha_at hv', _, hD2, ?_, ds ++ [97 + v], ?_, ?_, ?_, ?_, ?_⟩
      · rw [List.length_map]
        exact sz_lt (by omega)
      · rw [List.length_append, hds]
        rfl
      · intro d hd
        rcases List.mem_append.mp hd with z | z
        · exact haz d z
        · rw [List.mem_singleton.mp z]
          unfold az
          omega
      · rw [upd_same, List.map_append]
        rfl
      · exact (kp.trans kp2).new nD
      · exact hP2.new hpD (hP.ne_new nD).2
    · rintro H1 ⟨ds, hds, haz, hD, kp, hP1⟩
      have hlen : ((ds.map fun d => (⟨#[d]⟩ : Str)).map (·.length)).sum ≤ 100 := by
        have : ∀ l : List Nat, ((l.map fun d => (⟨#[d]⟩ : Str)).map (·.length)).sum = l.length := fun l => by
          induction l with
          | nil => rfl
          | cons x r ih =>
            rw [List.map_cons, List.map_cons, List.sum_cons, ih, List.length_cons, show (⟨#[x]⟩ : Str).length = 1 from rfl]
            omega
        rw [this]
        omega
      refine ⟨_, D, ds.map fun d => (⟨#[d]⟩ : Str), rfl, rfl, .inl (sq_of (by rw [List.map_map]; exact hD)), ?_, ?_⟩
      · rw [List.length_map, show (Str.ofString "").length = 0 from rfl]
        omega
      · generalize hR : Txt.join (Str.ofString "") (ds.map fun d => (⟨#[d]⟩ : Str)) = rest
        have cR : cs rest = ds := by
          rw [← hR]
          exact cs_join ds
        -- spot, turn, size
        refine ⟨_, rfl, p, c, ns, 3, rfl, by decide, by decide, hP1, fun spot H2 hspot kp2 hP2 => ?_⟩
        refine ⟨_, rfl, p, c, ns, 26, rfl, by decide, by decide, hP2, fun turn H3 hturn kp3 hP3 => ?_⟩
        refine ⟨_, rfl, p, c, ns, 8, rfl, by decide, by decide, hP3, fun size H4 hsize kp4 hP4 => ?_⟩
        have kp04 : Keep p H H4 := ((kp.trans kp2).trans kp3).trans kp4
        refine ⟨Nat.zero_le _, fun l nl => ?_⟩
        have hpl := hP4.ne_new nl
        have nlH : H l = none := by
          cases e : H l with
          | none => rfl
          | some o =>
            by_cases z : l = p
            · exact absurd z.symm hpl.1
            · rw [kp04 l o z e] at nl
              cases nl
        refine ⟨_, rfl, m, rfl, by omega, by omega, for_range (lo := 0) (n := ((m : Int)).toNat) (fun i σ H' => (∃ y3 y9 y10, σ = [some (.ref p), some (.int (m : Int)), some (.str alpha), y3, some (.str rest), some (.int (spot : Int)), some (.int (turn : Int)), some (.int (size : Int)), some (.ref l), y9, y10]) ∧ Keep p H H' ∧ Pot p c ns H' ∧ H' l = some (lS (mkAll (cs rest) spot turn size i))) ?_ ?_ ?_⟩
        · exact ⟨⟨_, _, _, rfl⟩, kp04.new nlH, hP4.new hpl.1 hpl.2, upd_same⟩
        · rintro i σ H' hi ⟨⟨y3, y9, y10, rfl⟩, kp', hP', hl'⟩
          have hi' : i < m := by omega
          have e0 : (0 : Int) + (i : Int) = (i : Int) := Int.zero_add _
          rw [e0]
          have e1 : ((size : Int) + (i : Int) * ((spot : Int) % 2)) % 8 = (((size + i * (spot % 2)) % 8 : Nat) : Int) := by
            rw [show ((spot : Int) % 2) = ((spot % 2 : Nat) : Int) by omega, ← Int.natCast_mul]
            generalize i * (spot % 2) = z
            omega
          have lenR : rest.length ≤ sizeLine := sz_of (by rw [len_cs, cR]; omega)
          refine ⟨_, rfl, _, rfl, _, rfl, _, rfl, _, _, rfl, rfl, (by show (0 : Int) < _; decide), _, _, rfl, rfl, .inr (by rcases (show spot % 2 = 0 ∨ spot % 2 = 1 by omega) with z | z <;> exact ⟨by show -(2 ^ 64) < (spot : Int) % 2; omega, by show (spot : Int) % 2 < 2 ^ 64; omega⟩), _, _, rfl, rfl, _, _, rfl, rfl, (by show (0 : Int) < _; decide), _, rfl, rest, rfl, lenR, ?_⟩
          show tSeq _ _ _ [some (.ref p), some (.int (m : Int)), some (.str alpha), some (.int (i : Int)), some (.str rest), some (.int (spot : Int)), some (.int (turn : Int)), some (.int (size : Int)), some (.ref l), some (.str (cutS rest none (some (((size : Int) + (i : Int) * ((spot : Int) % 2)) % 8)))), y10] H'
          rw [e1]
          have cP := cs_cut0 rest ((size + i * (spot % 2)) % 8)
          generalize cutS rest none (some (((size + i * (spot % 2)) % 8 : Nat) : Int)) = part at cP
          have lp : part.length ≤ 8 := by
            rw [len_cs, cP, List.length_take, cR]
            omega
          have lpS : part.length ≤ sizeLine := sz_of (by omega)
          -- at
          refine ⟨_, rfl, part, rfl, lpS, _, rfl, part, rfl, lpS, _, _, rfl, rfl, ⟨by decide, by decide⟩, (by show 3 ≤ sizeLine; decide), fun t nt => ?_⟩
          have eT : Ex H' (upd H' t (.lst [.int 0, .int (part.length : Int), .int ((part.length : Int) / 2)])) := Ex.new nt
          refine ⟨_, rfl, t, _, _, .int (spotAt spot part.length : Nat), rfl, rfl, sq_of upd_same, at_of (j := spot) rfl ?_, ?_⟩
          · rcases (show spot = 0 ∨ spot = 1 ∨ spot = 2 by omega) with rfl | rfl | rfl
            · rfl
            · rfl
            · show some (V.int ((part.length : Int) / 2)) = some (V.int ((part.length / 2 : Nat) : Int))
              rw [show ((part.length / 2 : Nat) : Int) = (part.length : Int) / 2 by omega]
          -- append
          · have e2 : ((turn : Int) + 5 * (i : Int)) % 26 = (((turn + 5 * i) % 26 : Nat) : Int) := by omega
            have hlt : (turn + 5 * i) % 26 < 26 := Nat.mod_lt _ (by decide)
            have hat : atI (cs alpha) (((turn : Int) + 5 * (i : Int)) % 26) = some (97 + (turn + 5 * i) % 26) := by
              rw [e2]
              exact alpha_at hlt
            have hl2 := eT _ _ hl'
            have c1 := cs_cut0 part (spotAt spot part.length)
            have c2 := cs_cutF part (spotAt spot part.length)
            have k1 : (cutS part none (some ((spotAt spot part.length : Nat) : Int))).length ≤ 8 := by
              rw [len_cs, c1, List.length_take, ← len_cs]
              omega
            have k2 : (cutS part (some ((spotAt spot part.length : Nat) : Int)) none).length ≤ 8 := by
              rw [len_cs, c2, List.length_drop, ← len_cs]
              omega
            refine ⟨_, rfl, .inl ⟨rfl, _, sq_of hl2⟩, _, rfl, _, rfl, _, rfl, part, rfl, lpS, _, rfl, _, rfl, _, rfl, _, _, rfl, rfl, .inl ⟨by decide, by decide⟩, _, _, rfl, rfl, _, _, rfl, rfl, (by show (0 : Int) < _; decide), _, _, _, rfl, rfl, by decide, hat, _, _, rfl, rfl, ?_, _, rfl, _, rfl, _, rfl, part, rfl, lpS, _, _, rfl, rfl, ?_, l, _, _, rfl, rfl, hl2, ?_, ⟨_, _, _, rfl⟩, ?_, ?_, ?_⟩
            · exact sz_of (by
                have : (⟨#[97 + (turn + 5 * i) % 26]⟩ : Str).length = 1 := rfl
                omega)
            · exact sz_of (by
                rw [len_cs, cs_app, List.length_append, ← len_cs, ← len_cs]
                have : (⟨#[97 + (turn + 5 * i) % 26]⟩ : Str).length = 1 := rfl
                omega)
            · rw [List.length_map]
              exact sz_lt (by unfold mkAll; rw [List.length_map, List.length_range]; omega)
            · exact (kp'.trans (Keep.ofEx eT)).new nlH
            · exact (hP'.ex eT).new hpl.1 hpl.2
            · rw [upd_same]
              have e3 : cutS part none (some ((spotAt spot part.length : Nat) : Int)) ++ (⟨#[97 + (turn + 5 * i) % 26]⟩ : Str) ++ cutS part (some ((spotAt spot part.length : Nat) : Int)) none = mkS (cs rest) spot turn size i := by
                apply cs_ext
                rw [cs_app, cs_app, c1, c2, cs_mkS, len_cs, cP, List.append_assoc]
                rfl
              rw [e3]
              unfold lS mkAll
              rw [List.range_succ, List.map_append, List.map_append]
              rfl
        · rintro σ H' ⟨⟨y3, y9, y10, rfl⟩, kp', hP', hl'⟩
          refine ⟨_, rfl, q (mkAll (cs rest) spot turn size m) l H' ?_ (mkAll_nodup (by omega) m1) (mkAll_ltr (by rw [cR]; exact haz)) kp' hP' nlH ?_⟩
          · unfold mkAll
            rw [List.length_map, List.length_range]
          · rw [Int.toNat_natCast] at hl'
            exact hl'
end
end Eh
set_option Elab.async false
set_option linter.all false
set_option maxRecDepth 100000
set_option maxHeartbeats 4000000
namespace Eh
open PySem PySem.Spec PyProof.Rows L2 Evl
/-- a sheet: its opens, plains, closes -/
structure Sht (os ps qs : List Str) : Prop where
  nd : (os ++ ps ++ qs).Nodup
  lt : ∀ x ∈ os ++ ps ++ qs, Ltr x
  o1 : 1 ≤ os.length
  o4 : os.length ≤ 4
  p4 : ps.length ≤ 4
  c1 : 1 ≤ qs.length
  c4 : qs.length ≤ 4
def SheetAt (H : Hp) (s : Addr) (os ps qs : List Str) : Prop := ∃ ao ap ac, H s = some (.tup [.ref ao, .ref ap, .ref ac]) ∧ H ao = some (.tup (os.map V.str)) ∧ H ap = some (.tup (ps.map V.str)) ∧ H ac = some (.tup (qs.map V.str))
theorem Pot.ne_tup {p c a : Addr} {ns : List Int} {H : Hp} {xs : List V} (h : Pot p c ns H) (ha : H a = some (.tup xs)) : a ≠ p := fun e => by
  obtain ⟨_, _, _, h1, _⟩ := h
  rw [e, h1] at ha
  cases ha
theorem SheetAt.ex {H H' : Hp} {s : Addr} {os ps qs : List Str} (h : SheetAt H s os ps qs) (e : Ex H H') : SheetAt H' s os ps qs := by
  obtain ⟨ao, ap, ac, h0, h1, h2, h3⟩ := h
  exact ⟨ao, ap, ac, e _ _ h0, e _ _ h1, e _ _ h2, e _ _ h3⟩
theorem SheetAt.keep {H H' : Hp} {s p c : Addr} {ns : List Int} {os ps qs : List Str} (h : SheetAt H s os ps qs) (hP : Pot p c ns H) (k : Keep p H H') : SheetAt H' s os ps qs := by
  obtain ⟨ao, ap, ac, h0, h1, h2, h3⟩ := h
  exact ⟨ao, ap, ac, k _ _ (hP.ne_tup h0) h0, k _ _ (hP.ne_tup h1) h1, k _ _ (hP.ne_tup h2) h2, k _ _ (hP.ne_tup h3) h3⟩
theorem rot_nodup {L : List Str} (t : Nat) (h : L.Nodup) : (L.drop t ++ L.take t).Nodup := by
  refine (List.perm_append_comm.nodup_iff).mp ?_
  rw [List.take_append_drop]
  exact h
theorem rot_mem {L : List Str} {t : Nat} {x : Str} (h : x ∈ L.drop t ++ L.take t) : x ∈ L := by
  rcases List.mem_append.mp h with q | q
  · exact List.mem_of_mem_drop q
  · exact List.mem_of_mem_take q
theorem sub12 {L : List Str} {a b d : Nat} (ha : a ≤ 4) (hb : b ≤ 4) : ((L.take a) ++ (L.take (4 + b)).drop 4 ++ (L.take (8 + d)).drop 8).Sublist L := by
  have e : L = L.take 4 ++ (L.take 8).drop 4 ++ L.drop 8 := by
    have e1 : L.take 4 ++ (L.take 8).drop 4 = L.take 8 := by
      have := List.take_append_drop 4 (L.take 8)
      rw [List.take_take] at this
      exact this
    rw [e1, List.take_append_drop]
  have s1 : (L.take a).Sublist (L.take 4) := by
    have : L.take a = (L.take 4).take a := by rw [List.take_take, Nat.min_eq_left ha]
    rw [this]
    exact List.take_sublist _ _
  have s2 : ((L.take (4 + b)).drop 4).Sublist ((L.take 8).drop 4) := by
    refine List.Sublist.drop ?_ 4
    have : L.take (4 + b) = (L.take 8).take (4 + b) := by rw [List.take_take, Nat.min_eq_left (by omega)]
    rw [this]
    exact List.take_sublist _ _
  have s3 : ((L.take (8 + d)).drop 8).Sublist (L.drop 8) := List.Sublist.drop (List.take_sublist _ _) 8
  have := (s1.append s2).append s3
  rw [← e] at this
  exact this
theorem sht_of {L : List Str} (hn : L.Nodup) (hl : ∀ x ∈ L, Ltr x) (h12 : L.length = 12) {a b d : Nat} (a1 : 1 ≤ a) (a4 : a ≤ 4) (b4 : b ≤ 4) (d1 : 1 ≤ d) (d4 : d ≤ 4) : Sht (L.take a) ((L.take (4 + b)).drop 4) ((L.take (8 + d)).drop 8) := by
  refine ⟨(sub12 a4 b4).nodup hn, fun x hx => hl x ((sub12 a4 b4).subset hx), ?_, ?_, ?_, ?_, ?_⟩ <;> simp only [List.length_take, List.length_drop, h12] <;> omega
theorem menu1 {v : Nat} (h : v < 5) : ∃ x : Nat, ([.int 1, .int 1, .int 2, .int 2, .int 4] : List V)[v]? = some (.int (x : Int)) ∧ 1 ≤ x ∧ x ≤ 4 := by
  rcases (show v = 0 ∨ v = 1 ∨ v = 2 ∨ v = 3 ∨ v = 4 by omega) with rfl | rfl | rfl | rfl | rfl
  · exact ⟨1, rfl, by omega⟩
  · exact ⟨1, rfl, by omega⟩
  · exact ⟨2, rfl, by omega⟩
  · exact ⟨2, rfl, by omega⟩
  · exact ⟨4, rfl, by omega⟩
theorem menu0 {v : Nat} (h : v < 5) : ∃ x : Nat, ([.int 0, .int 1, .int 1, .int 2, .int 4] : List V)[v]? = some (.int (x : Int)) ∧ x ≤ 4 := by
  rcases (show v = 0 ∨ v = 1 ∨ v = 2 ∨ v = 3 ∨ v = 4 by omega) with rfl | rfl | rfl | rfl | rfl
  · exact ⟨0, rfl, by omega⟩
  · exact ⟨1, rfl, by omega⟩
  · exact ⟨1, rfl, by omega⟩
  · exact ⟨2, rfl, by omega⟩
  · exact ⟨4, rfl, by omega⟩
theorem minI (m x : Nat) : (if (x : Int) < (m : Int) then (x : Int) else (m : Int)) = ((min m x : Nat) : Int) := by
  split <;> omega
theorem map_cut0 (L : List Str) (n : Nat) : cutV (L.map V.str) none (some (n : Int)) = (L.take n).map V.str := by rw [cut0, List.map_take]
theorem map_cutF (L : List Str) (n : Nat) : cutV (L.map V.str) (some (n : Int)) none = (L.drop n).map V.str := by rw [cutF, List.map_drop]
theorem map_cutLH (L : List Str) (n m : Nat) : cutV (L.map V.str) (some (n : Int)) (some (m : Int)) = ((L.take m).drop n).map V.str := by rw [cutLH, List.map_drop, List.map_take]
theorem lS_ne {p c l : Addr} {ns : List Int} {H : Hp} {ws : List Str} (h : Pot p c ns H) (hl : H l = some (lS ws)) : l ≠ p := fun e => by
  obtain ⟨_, _, _, h1, _⟩ := h
  rw [e, h1] at hl
  injection hl with hl
  injection hl with hl
  cases ws <;> cases hl
theorem menu_rd {K : PySem.W.Frag} {p c : Addr} {ns : List Int} {H : Hp} {σ : L2.St} {xs : List V} {Q : VK} {ta : TA} {n : Int} (hP : Pot p c ns H) (hσ : σ[0]? = some (some (.ref p))) (n0 : 0 < n) (n1 : n < 1073741824) (hta : ∀ Q : List V → Hp → Prop, Q xs H → ta σ H Q) (hxs : xs.length ≤ 1000)
    (k : ∀ (v : Nat) H', (v : Int) < n → Keep p H H' → Pot p c ns H' → ∃ z, xs[v]? = some z ∧ Q z H') : tOp (rIxL K) (tLst ta) (tCall spPick [] E0 (tCons (tVar 0) (tCons (tC (.int n)) tNil))) σ H Q := by
  refine hta _ ⟨sz_of (by omega), fun t nt => ⟨_, hσ, p, c, ns, n, rfl, n0, n1, hP.ex (Ex.new nt), fun v H5 hv kp5 hP5 => ?_⟩⟩
  obtain ⟨z, hz, q⟩ := k v H5 hv ((Keep.ofEx (Ex.new nt)).trans kp5) hP5
  exact ⟨t, xs, (v : Int), z, rfl, rfl, sq_of (kp5 _ _ (hP.ne_new nt).1.symm upd_same), atI_nat hz, q⟩
section
variable {P : Program} {w : World} {K : PySem.W.Frag} {mg : Str → Option Value} {base : Heap}
def spSheet : Sp := fun vs H Q _ => ∃ (p c : Addr) (ns : List Int) (m : Nat), vs = [.ref p, .int (m : Int)] ∧ 1 ≤ m ∧ m ≤ 4 ∧ Pot p c ns H ∧
  ∀ (os ps qs : List Str) s H', Sht os ps qs → SheetAt H' s os ps qs → Keep p H H' → Pot p c ns H' → Q (.ref s) H'
theorem ok_sheet {f fP fL : Addr} {fd fdP fdL : FuncData} {k : Nat} (F : Fun K "_law_sheet" "_law_sheet" sSheet f fd) (FP : Fun K "_law_pick" "_law_pick" sPick fP fdP) (GP : FnOk P w K mg base CX0 (k + 1) fP fdP ["pot", "many"] spPick) (bP : Binds K fdP ["pot", "many"] []) (gP : mg "_law_pick" = some (.ref fP))
    (FL : Fun K "_law_letters" "_law_letters" sLetters fL fdL) (GL : FnOk P w K mg base CX0 (k + 2) fL fdL ["pot", "many"] spLetters) (bL : Binds K fdL ["pot", "many"] []) (gL : mg "_law_letters" = some (.ref fL)) (mm : mg "min" = none) (mt : mg "tuple" = none) :
    FnOk P w K mg base CX0 (k + 3) f fd ["pot", "most"] spSheet := by
  have nd := scSheet.nd
  refine F.ok scSheet (fun vs H Q E h => ?_) (fun cdv A outer s H vs Q E hr h => ?_)
  · obtain ⟨p, c, ns, m, rfl, _⟩ := h
    rfl
  · obtain ⟨p, c, ns, m, rfl, m1, m4, hP, q⟩ := h
    have hr1 : Room (k + 1) _ := hr.mono (Nat.le_succ _)
    refine ⟨_, pss_cons (ps_set (i := 2) nd rfl (.inl rfl) (pe_call GL hr (by rfl) gL FL.kp bL .nil pass0 (pa_cons (pv 0) (pa_cons pe_int pa_nil))))
      (pss_cons (ps_set (i := 3) nd rfl (.inl rfl) (pe_call GP hr1 (by rfl) gP FP.kp bP .nil pass0 (pa_cons (pv 0) (pa_cons pe_int pa_nil))))
      (pss_cons (ps_set (i := 2) nd rfl (.inl rfl) (pe_op op_cat (pe_slice sl_list (pv 2) (po_some (pv 3)) po_none) (pe_slice sl_list (pv 2) po_none (po_some (pv 3)))))
      (pss_cons (ps_set (i := 4) nd rfl (.inl rfl) (pe_slice sl_list (pv 2) po_none (po_some (pe_callB (call_min2 rfl) (by rfl) mm (by decide +kernel) (pa_cons (pv 1) (pa_cons (pe_ix ix_list (pe_lst (pa_cons pe_int (pa_cons pe_int (pa_cons pe_int (pa_cons pe_int (pa_cons pe_int pa_nil)))))) (pe_call GP hr1 (by rfl) gP FP.kp bP .nil pass0 (pa_cons (pv 0) (pa_cons pe_int pa_nil))) (fun _ _ => rfl)) pa_nil))))))
      (pss_cons (ps_set (i := 5) nd rfl (.inl rfl) (pe_slice sl_list (pv 2) (po_some pe_int) (po_some (pe_op op_add pe_int (pe_callB (call_min2 rfl) (by rfl) mm (by decide +kernel) (pa_cons (pv 1) (pa_cons (pe_ix ix_list (pe_lst (pa_cons pe_int (pa_cons pe_int (pa_cons pe_int (pa_cons pe_int (pa_cons pe_int pa_nil)))))) (pe_call GP hr1 (by rfl) gP FP.kp bP .nil pass0 (pa_cons (pv 0) (pa_cons pe_int pa_nil))) (fun _ _ => rfl)) pa_nil)))))))
      (pss_cons (ps_set (i := 6) nd rfl (.inl rfl) (pe_slice sl_list (pv 2) (po_some pe_int) (po_some (pe_op op_add pe_int (pe_callB (call_min2 rfl) (by rfl) mm (by decide +kernel) (pa_cons (pv 1) (pa_cons (pe_ix ix_list (pe_lst (pa_cons pe_int (pa_cons pe_int (pa_cons pe_int (pa_cons pe_int (pa_cons pe_int pa_nil)))))) (pe_call GP hr1 (by rfl) gP FP.kp bP .nil pass0 (pa_cons (pv 0) (pa_cons pe_int pa_nil))) (fun _ _ => rfl)) pa_nil)))))))
      (pss_one (ps_ret (pe_tup (pa_cons (pe_callTy call_tuple_of (by rfl) mt (by decide +kernel) (pa_cons (pv 4) pa_nil)) (pa_cons (pe_callTy call_tuple_of (by rfl) mt (by decide +kernel) (pa_cons (pv 5) pa_nil)) (pa_cons (pe_callTy call_tuple_of (by rfl) mt (by decide +kernel) (pa_cons (pv 6) pa_nil)) pa_nil)))))))))))  , ?_⟩
    refine ⟨_, rfl, p, c, ns, 12, rfl, by decide, hP, fun ws l H1 hlen hnd hlt kp1 hP1 nl hl => ?_⟩
    refine ⟨_, rfl, p, c, ns, 12, rfl, by decide, by decide, hP1, fun turn H2 hturn kp2 hP2 => ?_⟩
    have hl2 : H2 l = some (lS ws) := kp2 _ _ (lS_ne hP1 hl) hl
    refine ⟨_, rfl, _, rfl, _, rfl, l, _, rfl, sq_of hl2, fun u nu => ?_⟩
    have e2 : Ex H2 (upd H2 u (.lst (cutV (ws.map V.str) (some (turn : Int)) none))) := Ex.new nu
    refine ⟨_, rfl, _, rfl, _, rfl, l, _, rfl, sq_of (e2 _ _ hl2), fun u' nu' => ?_⟩
    have e3 : Ex H2 (upd (upd H2 u (.lst (cutV (ws.map V.str) (some (turn : Int)) none))) u' (.lst (cutV (ws.map V.str) none (some (turn : Int))))) := e2.trans (Ex.new nu')
    have nuu : u ≠ u' := ne_of_none upd_same nu'
    have hu3 : (upd (upd H2 u (.lst (cutV (ws.map V.str) (some (turn : Int)) none))) u' (.lst (cutV (ws.map V.str) none (some (turn : Int))))) u = some (.lst ((ws.drop turn).map V.str)) := by
      rw [upd_ne nuu, upd_same, map_cutF]
    have hu3' : (upd (upd H2 u (.lst (cutV (ws.map V.str) (some (turn : Int)) none))) u' (.lst (cutV (ws.map V.str) none (some (turn : Int))))) u' = some (.lst ((ws.take turn).map V.str)) := by
      rw [upd_same, map_cut0]
    generalize (upd (upd H2 u (.lst (cutV (ws.map V.str) (some (turn : Int)) none))) u' (.lst (cutV (ws.map V.str) none (some (turn : Int))))) = H3 at e3 hu3 hu3' ⊢
    have hLn : (ws.drop turn ++ ws.take turn).length = 12 := by
      rw [List.length_append, List.length_drop, List.length_take]
      omega
    refine ⟨u, u', _, _, rfl, rfl, hu3, hu3', ?_, fun r nr => ?_⟩
    · rw [← List.length_append, ← List.map_append, List.length_map]
      exact sz_of (by omega)
    rw [← List.map_append]
    have hLd := rot_nodup turn hnd
    have hLt : ∀ x ∈ ws.drop turn ++ ws.take turn, Ltr x := fun x hx => hlt x (rot_mem hx)
    generalize ws.drop turn ++ ws.take turn = L at hLn hLd hLt ⊢
    have hP3 := hP2.ex e3
    have e4 : Ex H3 (upd H3 r (lS L)) := Ex.new nr
    have hP4 := hP3.ex e4
    have kp4 : Keep p H (upd H3 r (lS L)) := ((kp1.trans kp2).trans (Keep.ofEx e3)).trans (Keep.ofEx e4)
    have hr4 : (upd H3 r (lS L)) r = some (lS L) := upd_same
    show tSeq _ _ _ [some (.ref p), some (.int (m : Int)), some (.ref r), some (.int (turn : Int)), none, none, none] (upd H3 r (lS L))
    generalize upd H3 r (lS L) = H4 at e4 hP4 kp4 hr4 ⊢
    -- opens
    refine ⟨_, rfl, _, rfl, menu_rd (xs := [.int 1, .int 1, .int 2, .int 2, .int 4]) hP4 rfl (by decide) (by decide) (fun Q z => z) (by decide) fun v H5 hv kp5 hP5 => ?_⟩
    obtain ⟨x, hx, x1, x4⟩ := menu1 (show v < 5 by omega)
    refine ⟨_, hx, _, _, rfl, _, rfl, r, _, rfl, sq_of (kp5 _ _ (lS_ne hP4 hr4) hr4), fun o no => ?_⟩
    rw [minI, map_cut0]
    have hr5 : H5 r = some (lS L) := kp5 _ _ (lS_ne hP4 hr4) hr4
    have e6 : Ex H5 (upd H5 o (lS (L.take (min m x)))) := Ex.new no
    have hP6 := hP5.ex e6
    have hr6 := e6 _ _ hr5
    have ho6 : (upd H5 o (lS (L.take (min m x)))) o = some (lS (L.take (min m x))) := upd_same
    have kp6 : Keep p H (upd H5 o (lS (L.take (min m x)))) := (kp4.trans kp5).trans (Keep.ofEx e6)
    show tSeq _ _ _ [some (.ref p), some (.int (m : Int)), some (.ref r), some (.int (turn : Int)), some (.ref o), none, none] (upd H5 o (lS (L.take (min m x))))
    generalize upd H5 o (lS (L.take (min m x))) = H6 at hP6 hr6 ho6 kp6 ⊢
    -- plains
    refine ⟨_, rfl, _, rfl, _, rfl, menu_rd (xs := [.int 0, .int 1, .int 1, .int 2, .int 4]) hP6 rfl (by decide) (by decide) (fun Q z => z) (by decide) fun v H7 hv kp7 hP7 => ?_⟩
    obtain ⟨y, hy, y4⟩ := menu0 (show v < 5 by omega)
    have hr7 : H7 r = some (lS L) := kp7 _ _ (lS_ne hP6 hr6) hr6
    have ho7 : H7 o = some (lS (L.take (min m x))) := kp7 _ _ (lS_ne hP6 ho6) ho6
    refine ⟨_, hy, _, _, rfl, _, _, rfl, rfl, _, rfl, r, _, rfl, sq_of hr7, fun u1 nu1 => ?_⟩
    have ey : (4 : Int) + (if (y : Int) < (m : Int) then (y : Int) else (m : Int)) = ((4 + min m y : Nat) : Int) := by
      rw [minI]
      omega
    rw [ey, show (some 4 : Option Int) = some ((4 : Nat) : Int) from rfl, map_cutLH]
    have e8 : Ex H7 (upd H7 u1 (lS ((L.take (4 + min m y)).drop 4))) := Ex.new nu1
    have hP8 := hP7.ex e8
    have hr8 := e8 _ _ hr7
    have ho8 := e8 _ _ ho7
    have hu8 : (upd H7 u1 (lS ((L.take (4 + min m y)).drop 4))) u1 = some (lS ((L.take (4 + min m y)).drop 4)) := upd_same
    have kp8 : Keep p H (upd H7 u1 (lS ((L.take (4 + min m y)).drop 4))) := (kp6.trans kp7).trans (Keep.ofEx e8)
    show tSeq _ _ _ [some (.ref p), some (.int (m : Int)), some (.ref r), some (.int (turn : Int)), some (.ref o), some (.ref u1), none] (upd H7 u1 (lS ((L.take (4 + min m y)).drop 4)))
    generalize upd H7 u1 (lS ((L.take (4 + min m y)).drop 4)) = H8 at hP8 hr8 ho8 hu8 kp8 ⊢
    -- closes
    refine ⟨_, rfl, _, rfl, _, rfl, menu_rd (xs := [.int 1, .int 1, .int 2, .int 2, .int 4]) hP8 rfl (by decide) (by decide) (fun Q z => z) (by decide) fun v H9 hv kp9 hP9 => ?_⟩
    obtain ⟨z, hz, z1, z4⟩ := menu1 (show v < 5 by omega)
    have hr9 : H9 r = some (lS L) := kp9 _ _ (lS_ne hP8 hr8) hr8
    have ho9 : H9 o = some (lS (L.take (min m x))) := kp9 _ _ (lS_ne hP8 ho8) ho8
    have hu9 := kp9 _ _ (lS_ne hP8 hu8) hu8
    refine ⟨_, hz, _, _, rfl, _, _, rfl, rfl, _, rfl, r, _, rfl, sq_of hr9, fun u2 nu2 => ?_⟩
    have ez : (8 : Int) + (if (z : Int) < (m : Int) then (z : Int) else (m : Int)) = ((8 + min m z : Nat) : Int) := by
      rw [minI]
      omega
    rw [ez, show (some 8 : Option Int) = some ((8 : Nat) : Int) from rfl, map_cutLH]
    have e10 : Ex H9 (upd H9 u2 (lS ((L.take (8 + min m z)).drop 8))) := Ex.new nu2
    have hP10 := hP9.ex e10
    have ho10 := e10 _ _ ho9
    have hu10 := e10 _ _ hu9
    have hv10 : (upd H9 u2 (lS ((L.take (8 + min m z)).drop 8))) u2 = some (lS ((L.take (8 + min m z)).drop 8)) := upd_same
    have kp10 : Keep p H (upd H9 u2 (lS ((L.take (8 + min m z)).drop 8))) := (kp8.trans kp9).trans (Keep.ofEx e10)
    refine ⟨_, rfl, o, _, rfl, .inl ⟨sq_of ho10, fun ao nao => ?_⟩⟩
    have f1 : Ex _ _ := Ex.new (o := .tup ((L.take (min m x)).map V.str)) nao
    refine ⟨_, rfl, u1, _, rfl, .inl ⟨sq_of (f1 _ _ hu10), fun ap nap => ?_⟩⟩
    have f2 : Ex _ _ := Ex.new (o := .tup (((L.take (4 + min m y)).drop 4).map V.str)) nap
    refine ⟨_, rfl, u2, _, rfl, .inl ⟨sq_of (f2 _ _ (f1 _ _ hv10)), fun ac nac => ?_⟩⟩
    have f3 : Ex _ _ := Ex.new (o := .tup (((L.take (8 + min m z)).drop 8).map V.str)) nac
    refine ⟨(by show 3 ≤ sizeLine; decide), fun sh nsh => ?_⟩
    have f4 : Ex _ _ := Ex.new (o := .tup [.ref ao, .ref ap, .ref ac]) nsh
    exact q _ _ _ sh _ (sht_of hLd hLt hLn (by omega) (by omega) (by omega) (by omega) (by omega)) ⟨ao, ap, ac, upd_same, f4 _ _ (f3 _ _ (f2 _ _ upd_same)), f4 _ _ (f3 _ _ upd_same), f4 _ _ upd_same⟩ (kp10.trans (Keep.ofEx (((f1.trans f2).trans f3).trans f4))) (hP10.ex (((f1.trans f2).trans f3).trans f4))
end
end Eh
set_option Elab.async false
set_option linter.all false
set_option maxRecDepth 100000
set_option maxHeartbeats 4000000
namespace Eh
open PySem PySem.Spec PyProof.Rows L2 Evl
open Sem (wp)
open AutoSeq1 (wpAny_loadPart')
/-! enumerate of a tuple -/
theorem enumT_meets {v : Value} {ob : Obj} {G : Heap → Prop} (B : Begins v ob G) : Meets (Builtin.«enumerate.__new__» ⟨[.type "enumerate", v], []⟩) (fun _ R s1 => G s1.heap ∧ R (.ok (.ret (.ref (s1.heap.push ob).objs.size))) { s1 with heap := (s1.heap.push ob).push { cls := .type "enumerate", data := .fields #[.none, .bool false, .ref s1.heap.objs.size, rawInt 0, .none, .none] } }) :=
  .of_wp fun pr wo ar R s1 hyp => by
    obtain ⟨hp, gg, dd, tt, oo⟩ := s1; obtain ⟨hg, hyp⟩ := hyp
    have hsb := sub_enumerate
    have hit : ∀ {A' : Around} {E : Value → Shared → Prop} {Q : Value → Shared → Prop}, Q (.ref hp.objs.size) ⟨hp.push ob, gg, dd, tt, oo⟩ → wpAny (model pr wo) A' (pyIter v) Q E ⟨hp, gg, dd, tt, oo⟩ := fun q => B.iter pr wo _ _ ⟨hp, gg, dd, tt, oo⟩ _ hg q
    wp_walk using hit
    refine wpAny_stack_any fun stk => wpAny_pure ?_
    split
    · rename_i cl _ _ _ _ _; cases (cl == Value.type "enumerate") <;> (wp_walk using hit; exact ⟨_, rfl, hyp⟩)
    · wp_walk using hit; exact ⟨_, rfl, hyp⟩
theorem enumT_call {prog : Program} {w : World} {A : Around} {E : Value → Shared → Prop} {s : Shared} {v : Value} {ob : Obj} {G : Heap → Prop} {Q : Value → Shared → Prop} (B : Begins v ob G) (hg : G s.heap)
    (hyp : ∀ h', IsEnum h' (s.heap.objs.size + 1) s.heap.objs.size 0 .none → h'.get? s.heap.objs.size = some ob → h'.objs.size = s.heap.objs.size + 2 → (∀ b o, s.heap.get? b = some o → h'.get? b = some o) → Q (.ref (s.heap.objs.size + 1)) { s with heap := h' }) : wpAny (model prog w) A (call (.type "enumerate") [v]) Q E s := by
  refine callType_new F.called_enumerate (by decide) (F.typeCall_enumerate_1 _) (F.newCall_enumerate_1 _) (fun x => F.args_object_init_2 x _) F.entry_enumerate_new (enumT_meets B) ⟨hg, ?_⟩
  have sz : (s.heap.push ob).objs.size = s.heap.objs.size + 1 := Heap.size_push ..
  show _ ∧ _
  rw [sz]
  have en : IsEnum ((s.heap.push ob).push { cls := .type "enumerate", data := .fields #[.none, .bool false, .ref s.heap.objs.size, rawInt 0, .none, .none] }) (s.heap.objs.size + 1) s.heap.objs.size 0 .none := by
    have z := Heap.get?_push_size (s.heap.push ob) (o := { cls := .type "enumerate", data := .fields #[.none, .bool false, .ref s.heap.objs.size, rawInt 0, .none, .none] }) rfl
    rw [sz] at z; exact z
  exact ⟨⟨_, en, rfl⟩, hyp _ en (Heap.get?_push_of_some _ (Heap.get?_push_size _ B.free)) (by rw [Heap.size_push, sz]) fun b o x => Heap.get?_push_of_some _ (Heap.get?_push_of_some _ x)⟩
def IteT (K : PySem.W.Frag) (a : Addr) : It :=
  ⟨fun i H => ∃ (xs : List V) (x : V), SqT K H a xs ∧ xs[i]? = some x, fun i H v H' => ∃ T x, v = .ref T ∧ H T = none ∧ H' = upd H T (.tup [.int (i : Nat), x]) ∧ ∀ xs, SqT K H a xs → xs[i]? = some x, fun i H => ∃ xs : List V, SqT K H a xs ∧ xs.length = i⟩
theorem apart_cls {h : Heap} {a b : Addr} {o1 o2 : Obj} {x y : String} (h1 : h.get? a = some o1) (c1 : o1.cls = .type x) (h2 : h.get? b = some o2) (c2 : o2.cls = .type y) (n : x ≠ y) : a ≠ b := fun z => by
  subst z
  rw [h1] at h2
  have e : o1 = o2 := Option.some.inj h2
  rw [e, c2] at c1
  injection c1 with c1
  exact n c1.symm
theorem turn_enumT {P : Program} {w : World} {K : PySem.W.Frag} {elts : List Expr} {kk : Nat} {tpos : Pos} (a e it : Addr) :
    Turn P w K (.Tuple elts kk tpos) (IteT K a) [e, it] e (fun i h => (∃ old, IsEnum h e it ((i : Nat) : Int) old) ∧ h.IsTupleIter it a i ∧ e ≠ it) where
  mem := by simp
  obj := fun i h tn b hb => by
    obtain ⟨⟨old, en⟩, ⟨ob, h1, h2, h3⟩, _⟩ := tn
    rcases (show b = e ∨ b = it by simpa using hb) with z | z
    · subst z; exact ⟨_, en, fun v q => nomatch q⟩
    · subst z; exact ⟨ob, h1, fun v q => by rw [h3] at q; cases q⟩
  keep := fun i h h' tn kk => let ⟨⟨old, en⟩, ti, ne⟩ := tn; ⟨⟨old, kk e (by simp) _ en⟩, ti.at fun o q => kk it (by simp) o q, ne⟩
  item := by
    intro X eP ew eK hc i pins s σ H E I fpo tn go
    subst eP ew eK
    obtain ⟨⟨old, en⟩, ti, ne⟩ := tn
    obtain ⟨xs, x, sq, hx⟩ := go
    obtain ⟨its, rv, pt, _⟩ := I.tuple sq
    obtain ⟨u, hu, ru⟩ := rv.get hx
    have le : e < s.heap.objs.size := Heap.lt_size en
    have li : it < s.heap.objs.size := by obtain ⟨_, q, _⟩ := ti; exact Heap.lt_size q
    have nai : a ≠ it := by
      obtain ⟨o1, g1, c1, _⟩ := id ti
      obtain ⟨o2, g2, c2, _⟩ := id pt
      exact apart_cls g2 c2 g1 c1 (by decide)
    have nea : e ≠ a := by
      obtain ⟨o2, g2, c2, _⟩ := id pt
      exact apart_cls en rfl g2 c2 (by decide)
    have DD := Draws.tuple (prog := X.prog) (w := X.w) (A := X.A.in1) (I.ok.hd hc) it a nai its.toArray
    refine wpAny_pyNext_enum_itemC DD en ⟨ti, pt⟩ (by have h1 := (List.getElem?_eq_some_iff.mp hu).1; rw [List.size_toArray]; exact h1) ne (by simp [ne, nea]) fun y h' tk hy out st' hT hsz kp => ?_
    have ey : y = u := by
      have hy' : its.toArray[i]? = some y := hy
      rw [List.getElem?_toArray, hu] at hy'
      exact (Option.some.inj hy').symm
    subst ey
    refine ⟨_, rfl, wpAny_letOwnedTupleGo_enum (s := { s with heap := h', toks := tk + 1 }) out fun h'' en' sb => ?_⟩
    have hT' : h''.get? s.heap.objs.size = some { cls := .type "tuple", data := .seq #[.int i tk, y] } := (sb.2 _ (Nat.ne_of_gt le)).trans hT
    have nw : ObjOk X.prog X.w (upd H s.heap.objs.size (.tup [.int (i : Nat), x])) h'' s.heap.objs.size (.tup [.int (i : Nat), x]) := ⟨by show 2 ≤ sizeLine; decide, [.int i tk, y], .cons ⟨_, rfl⟩ (.cons ru .nil), ⟨_, hT', rfl, _, rfl⟩⟩
    have J1 : Inv X pins σ (upd H s.heap.objs.size (.tup [.int (i : Nat), x])) { s with heap := h'', toks := tk + 1 } := I.turnedNew (ch := [e, it]) (fun b o hb q => (sb.2 b (fun z => hb (by simp [z]))).trans (kp b o (fun z => hb (by simp [z])) (fun z => hb (by simp [z])) q)) fpo (Nat.le_refl _) nw
    refine ⟨.ref s.heap.objs.size, _, J1, rfl, ⟨_, x, rfl, I.hok.fresh (Nat.le_refl _), rfl, fun ys hs => by rw [I.tuple_inj hs sq]; exact hx⟩, ⟨⟨y, ?_⟩, st'.1.at fun o q => (sb.2 it (Ne.symm ne)).trans q, ne⟩, fun b hb => ?_⟩
    · rw [show ((i + 1 : Nat) : Int) = (i : Int) + 1 by omega]
      exact en'
    · have lb : b < s.heap.objs.size := by
        rcases (show b = e ∨ b = it by simpa using hb) with z | z
        · subst z; exact le
        · subst z; exact li
      rw [upd_ne (Nat.ne_of_lt lb)]
      exact (fpo b hb).1
  done := by
    intro X eP ew eK hc i pins s σ H E I fpo tn stp
    subst eP ew eK
    obtain ⟨⟨old, en⟩, ti, ne⟩ := tn
    obtain ⟨xs, sq, hx⟩ := stp
    obtain ⟨its, rv, pt, _⟩ := I.tuple sq
    obtain ⟨f0, f1, _, f3, f4, f5⟩ := fpo it (by simp)
    have nai : a ≠ it := by
      obtain ⟨o1, g1, c1, _⟩ := id ti
      obtain ⟨o2, g2, c2, _⟩ := id pt
      exact apart_cls g2 c2 g1 c1 (by decide)
    have DD := Draws.tuple (prog := X.prog) (w := X.w) (A := X.A.in1) (I.ok.hd hc) it a nai its.toArray
    have en' : its.toArray.size = i := by rw [List.size_toArray, ← rv.length, hx]
    exact wpAny_pyNext_enum_endD DD en (by rw [en']; exact ⟨ti, pt⟩) fun h' eb => ⟨rfl, I.turned (t' := s.toks) (fun b o hb q => eb b o hb q) f0 f1 f3 f4 f5⟩
  self := fun A i s Q E tn hq => let ⟨⟨_, en⟩, _⟩ := tn; wpAny_pyIter_enum en hq
def iEnumT (K : PySem.W.Frag) (ta : TA) : TI := fun σ H R => ta σ H fun vs H1 => ∃ a xs, vs = [.ref a] ∧ SqT K H1 a xs ∧ R (IteT K a) H1
theorem pi_enumT {X : Cx} {e : Expr} {ta : TA} {p pos tpos : Pos} {elts : List Expr} {kk : Nat} (hg : Gl X "enumerate") (hm : X.mg "enumerate" = none) (ha : PA X [e] ta) (hs : starEach [e] X.env = [(false, eval e X.env)] := by rfl) : PI X (.Tuple elts kk tpos) (.Call (.Name "enumerate" p) [e] [] pos) (iEnumT X.K ta) := by
  refine ⟨fun pins s σ H R I hyp => Call_ (ld_blt I hg hm boot_enumerate (PyProof.Rows.callWith_type1 (thn (ha.run pos pins s σ H _ I hyp) fun us s1 ⟨vs, H1, I1, r1, q1⟩ => ?_) hs rfl))⟩
  obtain ⟨a, xs, ev, sq, q⟩ := q1
  subst ev
  obtain ⟨u, rfl, ru⟩ := vals1 r1
  cases ru
  obtain ⟨its, rv, pt, _⟩ := I1.tuple sq
  refine enumT_call (begins_tuple a its.toArray) pt fun h' en hit hsz kp => wpAny_pyIter_enum en ?_
  have I2 : Inv X pins σ H1 { s1 with heap := h' } := I1.kept (t' := s1.toks) kp
  refine ⟨s1.heap.objs.size + 1, [s1.heap.objs.size + 1, s1.heap.objs.size], _, _, H1, rfl, I2, turn_enumT a (s1.heap.objs.size + 1) s1.heap.objs.size, ⟨⟨.none, en⟩, ⟨_, hit, rfl, rfl⟩, Nat.succ_ne_self _⟩, fun b hb => ?_, q⟩
  have lb : s1.heap.objs.size ≤ b := by
    rcases (show b = s1.heap.objs.size + 1 ∨ b = s1.heap.objs.size by simpa using hb) with z | z
    · rw [z]; exact Nat.le_add_right ..
    · rw [z]; exact Nat.le_refl ..
  exact I1.fpOk lb (I1.hok.fresh lb)
end Eh
set_option Elab.async false
set_option linter.all false
set_option maxRecDepth 100000
set_option maxHeartbeats 4000000
namespace Eh
open PySem PySem.Spec PyProof.Rows L2 NdefX
/-! an error class whose __init__ says super().__init__(text), then self.f = f -/
/-- __init__(self, f): the field is there behind it -/
def spInit (K : PySem.W.Frag) (C : Addr) (f : Str) : Sp := fun vs H Q _ => ∃ (a : Addr) (n : Int), vs = [.ref a, .int n] ∧ n.natAbs.log2 < 1900 ∧ H a = some (exo a C none) ∧
  ∀ dx, H dx = none → dx ≠ a → Q .non (upd (upd H dx (exd dx [(f, .int n)])) a (exo a C (some dx)))
theorem upd_self {H : Hp} {a : Addr} {o : HO} (h : H a = some o) : upd H a o = H := by
  funext b
  by_cases e : b = a
  · rw [e, upd_same, h]
  · rw [upd_ne e]
/-- what is written of the class and its __init__ -/
structure InitC (P : Program) (K : PySem.W.Frag) (mg : Str → Option Value) (C fI : Addr) (qual f : Str) (st : Stmt) (J : Expr) (fd : FuncData) : Prop where
  ox : OexC K C
  iC : PySem.W.findIn K (.ref C) "__init__" = some (some (.ref fI))
  tI : PySem.W.typeIn K (.ref fI) = some (.type "function")
  noF : PySem.W.findIn K (.ref C) f = some none
  sup : PySem.W.ks_superIn K C C "__init__" = some (some (.builtin "ValueError.__init__"))
  subV : PySem.W.subIn K (.ref C) (.type "ValueError") = some true
  mro : PySem.W.mroIn K C (.ref C) = some true
  opq : PySem.W.nsIn K cStatics "thirdparty.any" = some none
  msu : mg "super" = none
  top : (P.main.scope.names.lookup ("super" : Str)).isSome = false
  ex : ∃ (oc : Value) (od : Option Addr) (kV doc pm : Value) (an : Option Addr) (cda : Addr) (ct : Value) (osl : Array (Option Value)) (cc : Addr),
    fd = PySem.W.ksFn "__init__" qual (defArgs st) (defBody st) (defScope st) .none kV doc pm an (.ref cda) ct cc ∧ K.lookup fI = some ⟨oc, od, .func fd, osl⟩ ∧ PySem.W.codeIn K (.ref cda) qual = true ∧
    (∃ (cl : Value) (cld : Option Addr) (csl : Array (Option Value)), K.lookup cc = some ⟨cl, cld, .cell (some (.ref C)), csl⟩) ∧
    ∃ (ccl : Value) (cdd : Option Addr) (ccs : Array (Option Value)) (vs : Array Value) (file : Str) (tf : Tok), K.lookup cda = some ⟨ccl, cdd, .fields vs, ccs⟩ ∧ vs[2]? = some (.str file tf) ∧ ((P.main.file : Str) == file) = true
  bi : Binds K fd ["self", f] []
  sc : NScope ["self", f, "__class__"] ["self", f] ["__class__"] (defScope st)
  ksu : (defScope st).names.lookup ("super" : Str) = some .globalImplicit
  kse : (defScope st).names.lookup ("self" : Str) = some .local
  kfd : (defScope st).names.lookup f = some .local
  par : ((defArgs st).posonlyargs ++ (defArgs st).args).head?.map (·.arg) = some "self"
  fdb : (f == ("__debug__" : Str)) = false
  fcd : (f == ("__classdict__" : Str)) = false
  body : ∃ p0 p1 p2 p3 p4 q1 q2 q3 q4 : Pos, defBody st = [.Expr (.Call (.Attribute (.Call (.Name "super" p0) [] [] p1) "__init__" p2) [J] [] p3) p4, .Assign [.Attribute (.Name "self" q1) f q2] (.Name f q3) q4] ∧
    (∀ env : Env, ∃ pl : Sem Bool, eval (.Call (.Attribute (.Call (.Name "super" p0) [] [] p1) "__init__" p2) [J] [] p3) env = (do
      let ov ← attributeBase (.Call (.Name "super" p0) [] [] p1) "__init__" env (eval (.Call (.Name "super" p0) [] [] p1) env)
      standAt p2.atName
      let (f, first) ← holding [ov] (getMethod ov "__init__" pl)
      callWith p3 f first (backTo p3 (starEach [J] env)) [])) ∧ (∀ env : Env, swapsWith (.Call (.Attribute (.Call (.Name "super" p0) [] [] p1) "__init__" p2) [J] [] p3) none p4.line env = pure false) ∧
    (∀ env : Env, starEach [J] env = (false, eval J env) :: starEach [] env) ∧ (∀ env : Env, swapsWith (.Name f q3) (some (.Attribute (.Name "self" q1) f q2)) q4.line env = pure false)
  txt : ∀ X : Cx, X.N = (["self", f, "__class__"] : List Str) → X.env.scope = defScope st → ∃ tJ : TE, PE X J tJ ∧ ∀ (σ : L2.St) (H : Hp) (n : Int) (Q : VK), n.natAbs.log2 < 1900 → σ[1]? = some (some (V.int n)) → (∀ z : Str, Q (.str z) H) → tJ σ H Q
theorem isCell_of {h : Heap} {c : Addr} {cl : Value} {cld : Option Addr} {csl : Array (Option Value)} {v : Option Value} (e : h.get? c = some ⟨cl, cld, .cell v, csl⟩) : h.IsCell c v := ⟨_, e, rfl⟩
/-- the bound ValueError.__init__, called -/
theorem call_mw {X : Cx} {pins : List (Addr × Obj)} {σ : L2.St} {H : Hp} {s : Shared} {a C u : Addr} {us : List Value} {Q : Value → Shared → Prop} {A : Around} {E : Value → Shared → Prop} (T : OexC X.K C) (I : Inv X pins σ H s) (e : H a = some (exo a C none)) (hu : s.heap.get? u = some (PySem.W.kxs_mw "ValueError.__init__" a))
    (hl : us.length ≤ sizeLine) (h : ∀ s', Inv X pins σ H s' → Q .none s') : wpAny (model X.prog X.w) A (call (.ref u) us) Q E s := by
  obtain ⟨nm, q, N, bs, bm, sn, sub, ab, col, dd, k0, k1, k2, k3, k5, hC, hbm⟩ := T.cls
  obtain ⟨t1, ho⟩ := exo_at I.hok e
  obtain ⟨hp, g, d, t, os⟩ := s
  refine wpAny_call (codeAny_of_tree ?_)
  show wpAny _ A.in1 (callAny (.ref u) ⟨us, []⟩) _ _ _
  simp only [callAny]
  refine wpAny_bind (wpAny_load hu ?_)
  simp only [PySem.W.kxs_mw, show (Value.type "method-wrapper" == Value.type "method" || Value.type "method-wrapper" == Value.type "builtin_function_or_method" || Value.type "method-wrapper" == Value.type "method-wrapper") = true by decide, if_true]
  refine PySem.W.KFB.if_so (by decide) ?_
  refine wpAny_bind (PySem.W.check_bound_init F.excBase_ValueError.toExcCallFacts (I.kIn _ _ hC) ho rfl ?_)
  refine wpAny_bind (wpAny_pure (wpAny_pure ?_))
  refine ⟨plainId_quiet F.excBase_ValueError.init.plain _, codeAny_builtin F.excBase_ValueError.initEntry ?_⟩
  refine PySem.W.exc_init_tree (cls := .ref C) (t0 := t1) (dv := none) (c2 := .none) (c3 := .none) (b4 := .bool false) ho hl fun h' k hx _ => ?_
  have J := I.write (t' := t) (x := a) (e := a) (o := exo a C none) (by rw [e]; exact True.intro) (.inl rfl) k ⟨_, hx⟩ (exo_ok hx)
  rw [upd_self e] at J
  exact h _ J
theorem fn_init {P : Program} {w : World} {K : PySem.W.Frag} {mg : Str → Option Value} {base : Heap} {C fI : Addr} {qual f : Str} {st : Stmt} {J : Expr} {fd : FuncData} {k : Nat} (T : InitC P K mg C fI qual f st J fd) : FnOk P w K mg base CX0 (k + 1) fI fd ["self", f] (spInit K C f) := by
  obtain ⟨oc, od, kV, doc, pm, an, cda, ct, osl, cc, rfl, lk, hcd, ⟨ccl', cld, csl, hcell⟩, ccl, cdd, ccs, vsC, file, tf, hcode, hvs, hfile⟩ := T.ex
  obtain ⟨p0, p1, p2, p3, p4, q1, q2, q3, q4, hbody, hev, hsw, hst, hsw2⟩ := T.body
  refine ⟨fun vs H Q E h => ?_, fun A outer s H args us vs Q E hr e0 hb r hsp => ?_⟩
  · obtain ⟨a, n, rfl, _⟩ := h
    rfl
  obtain ⟨a, n, rfl, hn, ha, hq⟩ := hsp
  have KX : K.In s.heap := e0.mod.kin.keeps fun b o e => (e0.bs b o e).1
  have lim : s.heap.NoLimit := e0.mod.nolimit.keeps fun b o e => (e0.bs b o e).1
  have S := T.sc
  have CA : CellsAt [("__class__", cc)] ["__class__"] [some (V.ref C)] s.heap H := by
    have one : ∀ y c, List.lookup y [(("__class__" : Str), cc)] = some c → y = "__class__" ∧ c = cc := fun y c e => by
      have := PySem.mem_of_lookup e
      simp at this
      exact this
    refine ⟨rfl, fun y c e => ?_, fun x y c e1 e2 => (one x c e1).1.trans (one y c e2).1.symm, fun i y e => ?_⟩
    · obtain ⟨_, rfl⟩ := one y c e
      exact ⟨(e0.bs _ _ (e0.mod.kin _ _ hcell)).2, _, isCell_of (KX _ _ hcell)⟩
    · cases i with
      | zero =>
        cases e
        refine ⟨cc, by simp [List.lookup], fun v ev => ?_⟩
        cases ev
        exact ⟨.ref C, rfl, isCell_of (KX _ _ hcell)⟩
      | succ i => simp at e
  refine ks_codeAny_call_defAt (fd := PySem.W.ksFn "__init__" qual (defArgs st) (defBody st) (defScope st) .none kV doc pm an (.ref cda) ct cc) (body := defBody st) (binds := (["self", f] : List Str).zip us) hr.depth (KX _ _ lk) rfl lim (PySem.W.codeRec_of KX hcd) rfl hb S.nocell (fun ⟨n, _⟩ hy => S.par n (List.of_mem_zip hy).1) (fun h₁ hns kp => ?_) S.co S.gen S.kind
  have I : Inv (ncx CX0 P w K mg base ["self", f, "__class__"] ⟨"__init__", qual, defArgs st, defBody st, defScope st, [("__class__", cc)], cda⟩ fI A outer s H E) [] (startF ["self", f, "__class__"] [.ref a, .int n] [some (.ref C)]) H { s with heap := h₁, toks := s.toks + ((["self", f] : List Str).zip us).length } := inv_startN S hr.hd e0 rfl r CA hns kp
  cases r with
  | @cons _ u0 _ ur ra rr =>
  cases rr with
  | @cons _ u1 _ ur' rn rnil =>
  cases rnil
  obtain rfl : u0 = Value.ref a := ra
  generalize hX : ncx CX0 P w K mg base ["self", f, "__class__"] ⟨"__init__", qual, defArgs st, defBody st, defScope st, [("__class__", cc)], cda⟩ fI A outer s H E = X at I
  have eP : X.prog = P := by rw [← hX]; rfl
  have eW : X.w = w := by rw [← hX]; rfl
  have eK : X.K = K := by rw [← hX]; rfl
  have eN : X.N = (["self", f, "__class__"] : List Str) := by rw [← hX]; rfl
  have eE : X.env = PySem.W.ksEnv qual (defScope st) s.heap.objs.size fI (.ref cda) cc := by rw [← hX]; rfl
  have eA : X.A = A.deeper X.env := by rw [← hX]; rfl
  have eM : X.mg = mg := by rw [← hX]; rfl
  have hks : X.env.scope = defScope st := by rw [eE]
  have key : _root_.PySem.wpAt (model X.prog X.w) X.A (.func (defBody st) X.env) (execs (defBody st) X.env) (SP X [] { nx := fun _ H' => Q .non H', rt := Q }) X.xe { s with heap := h₁, toks := s.toks + ((["self", f] : List Str).zip [Value.ref a, u1]).length } := by
    obtain ⟨ar, har, har'⟩ : ∃ ar : Arg, ((defArgs st).posonlyargs ++ (defArgs st).args).head? = some ar ∧ ar.arg = "self" := by
      have := T.par
      cases e : ((defArgs st).posonlyargs ++ (defArgs st).args).head? with
      | none => rw [e] at this; cases this
      | some ar => rw [e] at this; exact ⟨ar, rfl, Option.some.inj this⟩
    have kS : X.env.kindOf "super" = some .globalImplicit := by rw [eE]; exact T.ksu
    have kC : X.env.kindOf "__class__" = some .free := by rw [eE]; exact S.frk _ (List.mem_singleton.mpr rfl)
    have kE : X.env.kindOf "self" = some .local := by rw [eE]; exact T.kse
    have X1 := I.kIn
    rw [eK] at X1
    have ox : OexC X.K C := by rw [eK]; exact T.ox
    obtain ⟨t1, ho⟩ := exo_at I.hok ha
    obtain ⟨nm, q, N', bs, bm, sn, sub, ab, col, dd, k0, k1, k2, k3, k5, hC, hbm⟩ := T.ox.cls
    have hC1 := X1 _ _ hC
    have IA : PySem.W.InstAt h₁ a ({ cls := .ref C, dict := none, data := .fields #[.ref t1, .none, .none, .none, .bool false, .none] } : Obj) C none := ⟨ho, rfl, rfl, trivial⟩
    rw [hbody]
    obtain ⟨pl, hev1⟩ := hev X.env
    refine ks_wpAt_execs_cons (ks_wpAt_Expr_any (ks_wpAt_MethodCall (pl := pl) (ks_wpAt_super_base (f := fI) (cc := cda) kS kC (by decide) (by rw [eE]) (X1 _ _ lk) rfl har (by rw [eE]) (X1 _ _ hcode) rfl hvs (by rw [eP]; exact hfile) (by rw [eP]; exact T.top) ?_) hev1) I.quiet (hsw X.env))
    obtain ⟨mb, hb1, hb2⟩ := I.mod.blt
    refine PySem.W.ks_loadName_global I.ok.kind kS (Calls.loadGlobal_builtin (by rw [I.ok.glob]; exact I.mod.glob.keeps I.bk) (by rw [eM]; exact T.msu) (by rw [I.ok.blt]; exact hb1.keeps I.bk) ((hb2 "super" (by decide)).trans PyProof.Rows.Boot.«super») ⟨rfl, ?_⟩)
    refine wpAny_loadName_free (c := cc) (v := .ref C) I.ok.kind kC (by rw [eE]; simp [List.lookup]) ⟨_, X1 _ _ hcell, rfl⟩ ?_
    rw [har']
    have ndP : (["self", f] : List Str).Nodup := by
      have q := S.nd.sublist (List.take_sublist 2 _)
      exact q
    refine wpAny_loadName_local (v := .ref a) I.ok.kind kE (by rw [eE]; exact hns) (zip_look (i := 0) ndP rfl rfl) ?_
    refine ks_wpAny_isType_cls hC1 rfl ⟨rfl, ?_⟩
    refine ks_wpAny_call_super hC1 rfl ho rfl (fun c e => by cases e) (PySem.W.looks_mroIn X1 T.mro) (fun h2 e2 k2 => ?_)
    have I2 : Inv X [] _ H { s with heap := h2, toks := _ } := I.kept (t' := s.toks + ((["self", f] : List Str).zip [Value.ref a, u1]).length) k2
    have X2 : K.In h2 := X1.keeps k2
    have IA2 : PySem.W.InstAt h2 a ({ cls := .ref C, dict := none, data := .fields #[.ref t1, .none, .none, .none, .bool false, .none] } : Obj) C none := ⟨k2 _ _ ho, rfl, rfl, trivial⟩
    have hcl : PySem.W.clsIn K C = some { name := nm, bases := bs, mro := .ref C :: bm, ns := N', qualname := q, hasDict := true, slotNames := sn, subclasses := sub, abstract := ab, collection := col, hasDel := false } := by unfold PySem.W.clsIn; rw [hC] <;> rfl
    have hsup := T.sup
    unfold PySem.W.ks_superIn at hsup
    rw [hcl] at hsup
    have hI : PySem.W.Looks (model X.prog X.w) h2 (isInstance (.ref a) (.type "ValueError")) true := IA2.type.andThen (PySem.W.looks_subIn X2 T.subV)
    refine PySem.W.kxs_getMethod PySem.W.kxs_ValueError e2 (PySem.W.looks_opaque X2 T.opq) (l₀ := .ref C :: bm) (fun A Q E s k q => wpAny_bind ((PySem.W.looks_clsIn X2 hcl) A _ E s k (wpAny_pure q))) rfl X2 hsup hI (PySem.W.ks_ne X2 IA2 hcl) (by decide) ?_
    have I3 : Inv X [] _ H { s with heap := h2.push (PySem.W.kxs_mw "ValueError.__init__" a), toks := _ } := I2.kept (t' := s.toks + ((["self", f] : List Str).zip [Value.ref a, u1]).length + 1) fun b o e => Heap.get?_push_of_some _ e
    have I4 : Inv X [(h2.objs.size, PySem.W.kxs_mw "ValueError.__init__" a)] _ H _ := I3.pins_of fun p hp => by
      rw [List.mem_singleton.mp hp]
      exact ⟨Heap.get?_push_at rfl rfl, I2.hok.fresh (Nat.le_refl _), Nat.ne_of_gt I2.lt, I2.nofs (Nat.le_refl _), fun v z => by cases z⟩
    obtain ⟨tJ, pJ, rJ⟩ := T.txt X eN hks
    have hu1 : ∃ t, u1 = Value.int n t := rn
    have hσ : (startF (["self", f, "__class__"] : List Str) [V.ref a, V.int n] [some (V.ref C)]) = [some (V.ref a), some (.int n), some (.ref C)] := rfl
    have aft : ∀ s6, Inv X [] [some (V.ref a), some (.int n), some (.ref C)] H s6 → wpAny (model X.prog X.w) X.A (execs [.Assign [.Attribute (.Name "self" q1) f q2] (.Name f q3) q4] X.env) (SP X [] { nx := fun _ H' => Q .non H', rt := Q }) X.xe s6 := fun s6 I6 => by
      refine (pss_one (ps_ost (pe_var (i := 0) (by rw [eN]; rfl) (.inl (by rw [hks]; exact T.kse))) (pe_var (i := 1) (by rw [eN]; rfl) (.inl (by rw [hks]; exact T.kfd)) T.fdb T.fcd) (hsw2 X.env))).run [] s6 _ H _ I6 ?_
      refine ⟨_, rfl, _, rfl, a, C, rfl, ox, by rw [eK]; exact T.noF, .inl ⟨ha, fun dx n1 n2 => hq dx n1 n2⟩⟩
    rw [hst]
    refine PySem.W.kxs_callWith (i := "ValueError.__init__") (x := a) rfl (Calls.evalArgs_plain ?_)
    refine Calls.spliced_cons (thn (pJ.run _ _ _ _ _ I4 (rJ _ H n (fun v H' => (∃ z, v = V.str z) ∧ H' = H) hn rfl fun z => ⟨⟨z, rfl⟩, rfl⟩)) fun u s5 ⟨v, H5, I5, r5, ⟨z, ez⟩, eH⟩ => ?_)
    subst eH
    refine Calls.spliced_nil ⟨(I5.pin (h2.objs.size, PySem.W.kxs_mw "ValueError.__init__" a) (List.mem_append_right _ (List.mem_singleton.mpr rfl))).1, ?_⟩
    refine call_mw ox I5 ha (I5.pin (h2.objs.size, PySem.W.kxs_mw "ValueError.__init__" a) (List.mem_append_right _ (List.mem_singleton.mpr rfl))).1 (by show 1 ≤ sizeLine; rw [sizeLine_eq]; omega) fun s6 I6 => ?_
    have I7 : Inv X [] _ H5 s6 := I6.pins_of fun p hp => (List.not_mem_nil hp).elim
    exact wpAt_of_wpAny (aft s6 I7)
  subst hX
  refine ks_wpAt_mono key (fun fl s' hs => ?_) (fun e s' hs => hs)
  have fin : ∀ {σ' : L2.St} {H' : Hp} {v : V} {u : Value}, Inv (ncx CX0 P w K mg base ["self", f, "__class__"] ⟨"__init__", qual, defArgs st, defBody st, defScope st, [("__class__", cc)], cda⟩ fI A outer s H E) [] σ' H' s' → L2.RelV v u → Q v H' → CE outer P w H s Q u s' :=
    fun {σ' H' v u} J rv q => ⟨v, H', J.os, J.bare, J.base, J.hok, rv, q⟩
  cases fl with
  | ret u =>
    obtain ⟨v, σ', H', J, rv, q⟩ := hs
    exact fin J rv q
  | next =>
    obtain ⟨σ', H', J, q⟩ := hs
    exact fin (v := V.non) (u := Value.none) J rfl q
  | brk =>
    obtain ⟨_, _, _, q⟩ := hs
    exact False.elim q
  | cont =>
    obtain ⟨_, _, _, q⟩ := hs
    exact False.elim q
/-- C(e): a new error -/
theorem pmk_err {X : Cx} {x qual f : Str} {C fI : Addr} {st : Stmt} {J e : Expr} {fd : FuncData} {ta : TA} {p pos : Pos} {k : Nat} (T : InitC X.prog X.K X.mg C fI qual f st J fd) (hr : Room (k + 2) X.A) (hg : Gl X x) (hm : X.mg x = some (.ref C)) (ha : PA X [e] ta)
    (hdb : (x == ("__debug__" : Str)) = false := by decide) (he : starEach [e] X.env = (false, eval e X.env) :: starEach [] X.env := by rfl) : PMk X (.Call (.Name x p) [e] [] pos) (tMkO C (spInit X.K C f) [] ta) := by
  have G : FnOk X.prog X.w X.K X.mg X.base CX0 (k + 1) fI fd ["self", f] (spInit X.K C f) := fn_init T
  exact pmk_oex T.ox T.iC T.tI G hr T.bi .nil pass0 hg hm ha hdb he rfl
/-- .. its own dict at d holds f -/
theorem mk_rd {K : PySem.W.Frag} {C : Addr} {f : Str} {n : Int} {H1 : Hp} {Q : XK} (hn : n.natAbs.log2 < 1900) (q : ∀ d, H1 d = none → Q (.ref C) (some d) (upd H1 d (.xd [(f, .int n)]))) : ([V.int n] : List V).length ≤ 1000 ∧ ∀ a, H1 a = none → spInit K C f (.ref a :: ([V.int n] ++ [])) (upd H1 a (exo a C none))
      (fun v H2 => v = .non ∧ ∃ (d : Addr) (fs : List (Str × V)), H2 a = some (exo a C (some d)) ∧ H2 d = some (exd d fs) ∧ H1 d = none ∧ Q (.ref C) (some d) (upd (del H2 a) d (.xd fs))) (fun _ _ _ => False) := by
  refine ⟨by show 1 ≤ 1000; decide, fun a na => ⟨a, n, rfl, hn, upd_same, fun dx n1 n2 => ⟨rfl, dx, [(f, .int n)], upd_same, ?_, ?_, ?_⟩⟩⟩
  · rw [upd_ne n2, upd_same]
  · rw [upd_ne n2] at n1
    exact n1
  · rw [upd_ne n2] at n1
    have e : upd (del (upd (upd (upd H1 a (exo a C none)) dx (exd dx [(f, .int n)])) a (exo a C (some dx))) a) dx (.xd [(f, .int n)]) = upd H1 dx (.xd [(f, .int n)]) := by
      funext b
      by_cases hb : b = dx
      · rw [hb, upd_same, upd_same]
      · rw [upd_ne hb, upd_ne hb]
        by_cases hba : b = a
        · rw [hba, del_same, na]
        · rw [del_ne hba, upd_ne hba, upd_ne hb, upd_ne hba]
    rw [e]
    exact q dx n1
end Eh
set_option Elab.async false
set_option linter.all false
set_option maxRecDepth 100000
set_option maxHeartbeats 4000000
namespace Eh
open PySem PySem.Spec PyProof.Rows L2 NdefX
/-! a caught error that is kept: except X as n: y = n; behind the suite it is an object of ours -/
/-- at a: an exception that was raised, its class cls, its dict d -/
def exv (a : Addr) (cls : Value) (d : Option Addr) : HO := .ext fun h => ∃ (oe : Obj) (vs : Array Value), h.get? a = some oe ∧ Zc cls d oe ∧ oe.data = .fields vs
theorem exv_ok {P : Program} {w : World} {H : Hp} {h : Heap} {a : Addr} {cls : Value} {d : Option Addr} {oe : Obj} {vs : Array Value} (e : h.get? a = some oe) (z : Zc cls d oe) (hd : oe.data = .fields vs) : ObjOk P w H h a (exv a cls d) :=
  ⟨⟨oe, vs, e, z, hd⟩, ⟨oe, e⟩, fun _ _ ⟨o, v, q, r⟩ k => ⟨o, v, k o q, r⟩⟩
theorem exv_at {P : Program} {w : World} {H : Hp} {h : Heap} {a : Addr} {cls : Value} {d : Option Addr} (hok : HOk P w H h) (e : H a = some (exv a cls d)) : ∃ (oe : Obj) (vs : Array Value), h.get? a = some oe ∧ Zc cls d oe ∧ oe.data = .fields vs := by
  have x : ObjOk P w H h a (.ext fun h => ∃ (oe : Obj) (vs : Array Value), h.get? a = some oe ∧ Zc cls d oe ∧ oe.data = .fields vs) := hok a _ e
  exact x.1
section
variable {X : Cx} {pins : List (Addr × Obj)} {σ : L2.St} {H : Hp} {s : Shared}
/-- an object that was not there at the entry is tracked from now on -/
theorem Inv_track {a : Addr} {o : HO} {oe : Obj} (I : Inv X ((a, oe) :: pins) σ H s) (n0 : X.s_0.heap.get? a = none) (np : ∀ p ∈ X.pn ++ pins, p.1 ≠ a) (nc : ∀ x c, X.env.cells.lookup x = some c → c ≠ a) (new : ObjOk X.prog X.w (upd H a o) s.heap a o) : Inv X pins σ (upd H a o) s := by
  obtain ⟨ha, hn, nL, nF, _⟩ := I.pin (a, oe) (List.mem_append_right _ List.mem_cons_self)
  have ne0 : ∀ b u, X.s_0.heap.get? b = some u → b ≠ a := fun b u e z => by
    rw [z, n0] at e
    cases e
  refine ⟨I.ok, I.os, I.bare, ⟨I.base.keep, I.base.slot, fun b u e n hx => ?_, I.base.there, fun b xs e => ?_, fun b u v e => ?_, fun b ps e => ?_⟩, I.loc, I.cell, ?_, fun x c e => ?_, fun p hp => ?_, fun b u e => ?_, I.len⟩
  · rw [upd_ne (ne0 b u e)]
    exact I.base.free b u e n hx
  · have q := I.base.tups b xs e
    rw [upd_ne (ne_of_none q hn)]
    exact q
  · have q := I.base.frzs b u v e
    rw [upd_ne (ne_of_none q hn)]
    exact q
  · obtain ⟨m, q⟩ := I.base.tbls b ps e
    exact ⟨m, by rw [upd_ne (ne_of_none q hn)]; exact q⟩
  · rw [upd_ne (Ne.symm nL)]
    exact I.free
  · rw [upd_ne (nc x c e)]
    exact I.freeC x c e
  · have hp' : p ∈ X.pn ++ (a, oe) :: pins := by
      rcases List.mem_append.mp hp with z | z
      · exact List.mem_append_left _ z
      · exact List.mem_append_right _ (List.mem_cons_of_mem _ z)
    obtain ⟨e, n, ne, nf, d⟩ := I.pin p hp'
    exact ⟨e, by rw [upd_ne (np p hp)]; exact n, ne, nf, d⟩
  · by_cases hb : b = a
    · subst hb
      rw [upd_same] at e
      cases e
      exact new
    · rw [upd_ne hb] at e
      exact (I.hok b u e).stay (fun c v _ q => q) (fun c q => by rw [upd_ne (ne_of_none q hn)]; exact q) fun c xs q => by rw [upd_ne (ne_of_none q hn)]; exact q
theorem Inv_unsuite {a : Addr} {q : Addr × Obj} {pn' : List (Addr × Obj)} (I : Inv (X.suite a (q :: (X.pn ++ pins))) pn' σ H s) (ok : X.Ok) : Inv X (q :: pins) σ H s :=
  ⟨ok, I.os, I.bare, I.base, I.loc, I.cell, I.free, I.freeC, fun p hp => by
    refine I.pin p (List.mem_append_left _ ?_)
    rcases List.mem_append.mp hp with z | z
    · exact List.mem_cons_of_mem _ (List.mem_append_left _ z)
    · rcases List.mem_cons.mp z with z | z
      · rw [z]; exact List.mem_cons_self
      · exact List.mem_cons_of_mem _ (List.mem_append_right _ z), I.hok, I.len⟩
end
section
variable {X : Cx} {pins : List (Addr × Obj)}
/-- an error at a that is about to be looked at by X's except clause; I0: the state without it, at i0 -/
structure Air (X : Cx) (pins : List (Addr × Obj)) (B : Heap) (a : Addr) (cls : Value) (d : Option Addr) (σ : L2.St) (H : Hp) (i0 s1 : Shared) : Prop where
  inv : Inv X pins σ H i0
  gnd : ∀ b o, i0.heap.get? b = some o → b ∉ frs X.stack → B.get? b = some o
  ups : i0.heap.UpToSlots s1.heap
  non : H a = none
  sos : s1.os = i0.os
  gen : AllBare s1.gens
/-- .. when it is down: h1 the heap -/
structure Down (X : Cx) (pins : List (Addr × Obj)) (a : Addr) (cls : Value) (d : Option Addr) (σ : L2.St) (H : Hp) (i0 : Shared) (oe : Obj) (s1 : Shared) : Prop where
  inv : Inv X pins σ H s1
  obj : s1.heap.get? a = some oe
  zc : Zc cls d oe
  rcd : ∃ vs, oe.data = .fields vs
  loc : a ≠ X.env.locals
  frm : a ∉ X.fs
  no0 : X.s_0.heap.get? a = none
  noP : ∀ p ∈ X.pn ++ pins, p.1 ≠ a
  noC : ∀ y c, X.env.cells.lookup y = some c → c ≠ a
theorem Air.down {B h1 : Heap} {a : Addr} {cls : Value} {d : Option Addr} {σ : L2.St} {H : Hp} {i0 s1 : Shared} (A : Air X pins B a cls d σ H i0 s1) (hs : X.stack = X.env :: X.outer) (hex : X.ex = []) (hf : X.env.frame = some X.env.locals)
    (fl : HandSPX.FlyingZ B (X.env :: X.outer) a (Zc cls d) h1) (up : s1.heap.UpToSlots h1) : ∃ oe, Down X pins a cls d σ H i0 oe { s1 with heap := h1 } := by
  obtain ⟨oe, vs, eo, zo, dat⟩ := fl.there
  have out : a ∉ frs (X.env :: X.outer) := fun m => by
    obtain ⟨_, o, q, ng⟩ := fl.2.2.1.mem m
    rw [eo] at q
    cases q
    exact ng _ dat
  have gone : i0.heap.get? a = none := by
    cases q : i0.heap.get? a with
    | none => rfl
    | some o =>
      have z := A.gnd a o q (by rw [hs]; exact out)
      rw [fl.2.1] at z
      cases z
  have off : ∀ {b : Addr} {o : Obj}, i0.heap.get? b = some o → b ≠ a := fun {b o} q z => by
    rw [z, gone] at q
    cases q
  refine ⟨oe, A.inv.landed A.gnd fl.1 (A.ups.trans up) A.sos A.gen, eo, zo, ⟨vs, dat⟩, fun z => ?_, fun m => ?_, ?_, fun p m => off (A.inv.pin p m).1, fun y c q => ?_⟩
  · exact out (List.mem_filterMap.mpr ⟨X.env, .head _, by rw [hf, z]⟩)
  · obtain ⟨v, m1, m2⟩ := List.mem_filterMap.mp m
    exact out (List.mem_filterMap.mpr ⟨v, .tail _ m1, m2⟩)
  · cases q : X.s_0.heap.get? a with
    | none => rfl
    | some o =>
      obtain ⟨o', z⟩ := A.inv.base.there a o q (by rw [hex]; exact fun z => nomatch z)
      exact absurd rfl (off z)
  · obtain ⟨_, o, q2, _⟩ := A.inv.cell y c q
    exact off q2
variable {x n : Str} {c : Value} {i : Nat} {body suite : List Stmt} {b₀ : Stmt} {np pos pos' : Pos} {tb : WX → TS} {ts : Addr → Value → Option Addr → TS} {σ : L2.St} {H : Hp} {i0 s1 : Shared} {a : Addr} {cls : Value} {d : Option Addr} {oe : Obj} {D : Ends}
/-- the clause's class is read, its suite run, its name goes, the error is kept -/
theorem Down.runs {B : Heap} (U : Down X pins a cls d σ H i0 oe s1) (fl : HandSPX.FlyingZ B (X.env :: X.outer) a (Zc cls d) s1.heap) (A : Air X pins B a cls d σ H i0 s1) (hs : X.stack = X.env :: X.outer) (hex : X.ex = []) (hf : X.env.frame = some X.env.locals)
    (hN : X.N.Nodup) (hi : X.N[i]? = some n) (hln : X.env.kindOf n = some .local) (hc : Names X x c) (ht : PySem.W.exmOne X.K cls c = some true)
    (hsu : ∀ (a : Addr) (oe : Obj) (cls : Value) (d : Option Addr) (pn : List (Addr × Obj)), Zc cls d oe → (∃ vs, oe.data = .fields vs) → PSs (X.suite a ((a, oe) :: pn)) (b₀ :: suite) (ts a cls d))
    (q : ts a cls d { nx := fun σ' H' => D.nx (σ'.set i none) (upd H' a (exv a cls d)), rt := fun _ _ => False, bk := fun _ _ => False, ct := fun _ _ => False } (σ.set i (some (.ref a))) H) :
    wpAny (model X.prog X.w) X.A (handleBy (.ref a) X.env [.ExceptHandler (some (.Name x np)) (some n) (b₀ :: suite) pos']) (SP X pins D) X.xe s1 := by
  obtain ⟨vs, dat⟩ := U.rcd
  have V := U.inv.suite U.obj dat A.non U.loc U.frm
  refine wpAny_handleBy_cons (codeAny_handlers_test ?_) (fun z => by cases z)
  have ty : PySem.W.Looks (model X.prog X.w) s1.heap (typeOf (.ref a)) cls := fun _ _ _ _ kk qq => wpAny_typeOf_ref (kk _ _ U.obj) (by rw [U.zc.1]; exact qq)
  have mt := PySem.W.exm_one (M := model X.prog X.w) U.inv.kIn ty ht
  have nm : ∀ {Q1 : Value → Shared → Prop} {E1 : Value → Shared → Prop}, Q1 c s1 → wpAny (model X.prog X.w) (X.A.mark (some (.ref a))) (eval (.Name x np) X.env) Q1 E1 s1 := fun {Q1 E1} qq => by
    rcases hc with ⟨g1, g2, g3 | ⟨g3, g4, g5⟩⟩
    · exact ld_glob (X := X.suite a ((a, oe) :: (X.pn ++ pins))) V g1 g3 qq g2
    · exact ld_blt (X := X.suite a ((a, oe) :: (X.pn ++ pins))) V g1 g3 g4 qq g5 g2
  refine nm (mt.here (codeAny_handlers_suite_as ?_))
  refine HandSPX.lands_againZ fl fun h2 fl2 up2 => ?_
  obtain ⟨oe2, U2⟩ := A.down hs hex hf fl2 up2
  obtain ⟨vs2, dat2⟩ := U2.rcd
  refine store_ok (X := X.suite a ((a, oe2) :: (X.pn ++ pins))) (v := .ref a) (U2.inv.suite U2.obj dat2 A.non U2.loc U2.frm) hN hi (.inl hln) rfl (fun s3 V3 => ?_) (.inr hln)
  refine wpAny_mono ((hsu a oe2 cls d (X.pn ++ pins) U2.zc ⟨vs2, dat2⟩).run [] s3 _ H _ V3 q) (fun fl s4 e => ?_) (fun _ _ z => z.elim)
  cases fl with
  | next =>
    obtain ⟨σ4, H4, V4, q4⟩ := e
    exact gone_ok (Inv_unsuite V4 U.inv.ok) hN hi hln fun s5 V5 => ⟨_, _, Inv_track V5 U.no0 U.noP U.noC (exv_ok (V5.pin (a, oe2) (List.mem_append_right _ (.head _))).1 U2.zc dat2), q4⟩
  | brk => obtain ⟨_, _, _, z⟩ := e; exact z.elim
  | cont => obtain ⟨_, _, _, z⟩ := e; exact z.elim
  | ret v => obtain ⟨_, _, _, _, _, z⟩ := e; exact z.elim
/-- try: body / except x as n: suite, every error of the body being one of x -/
def wKeep (K : PySem.W.Frag) (c : Value) (i : Nat) (ts : Addr → Value → Option Addr → TS) (D : Ends) : WX := fun cls d σ H =>
  PySem.W.exmOne K cls c = some true ∧ ∀ a, H a = none → ts a cls d { nx := fun σ' H' => D.nx (σ'.set i none) (upd H' a (exv a cls d)), rt := fun _ _ => False, bk := fun _ _ => False, ct := fun _ _ => False } (σ.set i (some (.ref a))) H
theorem ps_try_keep (hs : X.stack = X.env :: X.outer) (hex : X.ex = []) (hf : X.env.frame = some X.env.locals) (hN : X.N.Nodup) (hi : X.N[i]? = some n) (hln : X.env.kindOf n = some .local) (hc : Names X x c)
    (hb : ∀ (W : WX) (pn : List (Addr × Obj)) (xe : Value → Shared → Prop), Takes (X.tr pn xe) W → PassesOwn (model X.prog X.w) X.A X.env xe → PSs (X.tr pn xe) body (tb W))
    (hsu : ∀ (a : Addr) (oe : Obj) (cls : Value) (d : Option Addr) (pn : List (Addr × Obj)), Zc cls d oe → (∃ vs, oe.data = .fields vs) → PSs (X.suite a ((a, oe) :: pn)) (b₀ :: suite) (ts a cls d)) :
    PS X (.Try body [.ExceptHandler (some (.Name x np)) (some n) (b₀ :: suite) pos'] [] [] pos) (fun D σ H => tb (wKeep X.K c i ts D) D σ H) := by
  refine ⟨fun pins s σ H D I h => wpAny_Try_except ?_⟩
  have frm : X.A.frames = some (X.env :: X.outer) := by rw [I.ok.frames, hs]
  have up0 : ∀ (h : Heap), h.UpToSlots h := fun h => Heap.UpToSlots.of_keeps fun _ _ e => e
  have body0 := (hb (wKeep X.K c i ts D) (X.pn ++ pins) (fun e t1 => wpAny (model X.prog X.w) X.A (noteFrame e X.env) (fun _ t2 => wpAny (model X.prog X.w) X.A (setFlight e none) (fun _ t3 => wpAny (model X.prog X.w) X.A (handleBy e X.env [.ExceptHandler (some (.Name x np)) (some n) (b₀ :: suite) pos']) (SP X pins D) X.xe t3) X.xe t2) X.xe t1)
    (fun u t1 air => by
      obtain ⟨a, B, i0, _, σ0, H0, cls, d, rfl, J, gnd, ups, sky, na, so, ag, hm, hy⟩ := air
      have A : Air X pins B a cls d σ0 H0 i0 t1 := ⟨J.ofTry I.ok, gnd, ups, na, so, ag⟩
      refine Sky.land Zc.steady frm hf (show Sky B (X.env :: X.outer) a (Zc cls d) X.env.locals t1.heap from hs ▸ sky) fun h1 fl1 up1 => ?_
      obtain ⟨oe, U⟩ := A.down hs hex hf fl1 up1
      exact U.runs fl1 ⟨A.inv, gnd, ups.trans up1, na, so, ag⟩ hs hex hf hN hi hln hc hm hsu (hy a na)) PassesOwn.looking).run [] s σ H D (I.toTry _) h
  refine wpAny_mono body0 (fun fl t1 e => ?_) (fun _ _ e => e)
  cases fl with
  | next => obtain ⟨σ1, H1, J, q⟩ := e; exact wpAny_execs_nil ⟨σ1, H1, J.ofTry I.ok, q⟩
  | brk => obtain ⟨σ1, H1, J, q⟩ := e; exact ⟨σ1, H1, J.ofTry I.ok, q⟩
  | cont => obtain ⟨σ1, H1, J, q⟩ := e; exact ⟨σ1, H1, J.ofTry I.ok, q⟩
  | ret u => obtain ⟨v, σ1, H1, J, r, q⟩ := e; exact ⟨v, σ1, H1, J.ofTry I.ok, r, q⟩
end
end Eh
set_option Elab.async false
set_option linter.all false
set_option maxRecDepth 100000
set_option maxHeartbeats 4000000
namespace Eh
open PySem PySem.Spec PyProof.Rows L2 NdefX
/-! isinstance and the field of a caught error that was kept -/
/-- its own dict, if it has one, is ours -/
def DctOk (H : Hp) (d : Option Addr) : Prop := match d with
  | none => True
  | some dd => ∃ fs, H dd = some (.xd fs)
/-- what is told of an error's class -/
structure ErrC (K : PySem.W.Frag) (C : Addr) : Prop where
  ec : ExcC K C
  xf : XfC K C
theorem inst_exv {P : Program} {w : World} {H : Hp} {h : Heap} {a C : Addr} {d : Option Addr} (hok : HOk P w H h) (e : H a = some (exv a (.ref C) d)) (hd : DctOk H d) : ∃ (oe : Obj) (od : Option Obj), PySem.W.InstAt h a oe C od := by
  obtain ⟨oe, vs, e1, z, dat⟩ := exv_at hok e
  have nc : PySem.W.notCls oe = true := by
    unfold PySem.W.notCls
    rw [dat] <;> rfl
  cases d with
  | none => exact ⟨oe, none, e1, z.1, nc, by rw [z.2]; trivial⟩
  | some dd =>
    obtain ⟨fs, e2⟩ := hd
    have x : ObjOk P w H h dd (.xd fs) := hok dd _ e2
    obtain ⟨mA, hns, _⟩ := x
    obtain ⟨od, ho, _⟩ := lookIn_ns hns
    exact ⟨oe, some od, e1, z.1, nc, by rw [z.2]; exact ho⟩
/-- isinstance(x, c), x such an error -/
def rIsX (K : PySem.W.Frag) : List V → Hp → VK → Prop := fun xs H Q => ∃ (a C : Addr) (d : Option Addr) (c : V) (cv : Value) (b : Bool), xs = [.ref a, c] ∧ H a = some (exv a (.ref C) d) ∧ DctOk H d ∧ ErrC K C ∧ (∀ u, L2.RelV c u → u = cv) ∧ PySem.W.kitOne K (.ref C) cv = some b ∧ Q (.bl b) H
theorem call_isX {X : Cx} : CallR X (.builtin "isinstance") (rIsX X.K) := by
  intro pins s σ H xs us Q I r h
  obtain ⟨a, C, d, c, cv, b, rfl, ea, hd, T, hcv, e, q⟩ := h
  cases r with
  | cons rx rr =>
  cases rr with
  | cons rt rr =>
  cases rr
  cases rx
  have ec := hcv _ rt
  subst ec
  obtain ⟨oe, od, J⟩ := inst_exv I.hok ea hd
  have hcl : (PySem.W.clsIn X.K C).isSome = true := by
    obtain ⟨cd, hc, _⟩ := PySem.W.any_some T.ec.hd
    rw [hc] <;> rfl
  exact PySem.W.kia_one (PySem.W.kitx_exc hcl T.ec.hg T.ec.hk T.ec.hs T.ec.ha T.ec.hn T.ec.ht T.ec.hm) I.kIn J e (fun z => nomatch z) fun tk => ⟨.bl b, H, I.tok tk, rfl, q⟩
/-- x.n, x such an error -/
def tXg (K : PySem.W.Frag) (n : Str) (te : TE) : TE := fun σ H Q => te σ H fun x H1 => ∃ (a C dd : Addr) (fs : List (Str × V)) (v : V), x = .ref a ∧ ErrC K C ∧ PySem.W.findIn K (.ref C) n = some none ∧ H1 a = some (exv a (.ref C) (some dd)) ∧ H1 dd = some (.xd fs) ∧ fs.lookup n = some v ∧ Q v H1
theorem pe_xg {X : Cx} {e : Expr} {te : TE} {pos : Pos} {n : Str} (he : PE X e te) (hb : attributeBase e n X.env (eval e X.env) = eval e X.env := by rfl) : PE X (.Attribute e n pos) (tXg X.K n te) := by
  refine ⟨fun pins s σ H Q I h => ?_⟩
  refine attr_of hb (thn (he.run pins s σ H _ I h) fun u s1 ⟨x, H1, I1, rx, a, C, dd, fs, v, ex, T, hno, ea, ed, l, q⟩ => ?_)
  subst ex
  obtain rfl : u = Value.ref a := rx
  obtain ⟨oe, vs, e1, z, dat⟩ := exv_at I1.hok ea
  have x : ObjOk X.prog X.w H1 s1.heap dd (.xd fs) := I1.hok dd _ ed
  obtain ⟨mA, hns, hr⟩ := x
  obtain ⟨od, ho, hl⟩ := lookIn_ns hns
  obtain ⟨u, hu, ru⟩ := RelO.some_of (v := v) (o := mA n) (by rw [← l]; exact hr n)
  exact HandSPX.exc_get I1.kIn (⟨e1, z.1, by unfold PySem.W.notCls; rw [dat] <;> rfl, by rw [z.2]; exact ho⟩ : PySem.W.InstAt s1.heap a oe C (some od)) T.xf.ga T.xf.gg T.xf.exC (PySem.W.findObj_own T.xf.hdC hno rfl (by rw [hl, hu])) (handed_of ru) ⟨v, H1, I1.tok _, ru, q⟩
end Eh
set_option Elab.async false
set_option linter.all false
set_option maxRecDepth 100000
set_option maxHeartbeats 4000000
namespace Eh
open PySem PySem.Spec PyProof.Rows L2 NdefX
/-! errors made as values; a def called that is an item of a list -/
section
variable {X : Cx}
/-- C(e), an error class without own __init__ -/
theorem pe_exV {C : Addr} {bmB : List Value} {B newId initId : String} {x : Str} {e : Expr} {ta : TE} {p pos : Pos} (F : ExcBaseFacts B newId initId bmB) (q : PySem.W.excIn X.K C bmB newId = true) (gC : X.mg x = some (.ref C)) (kC : PySem.W.keepIn X.K (.ref C) = true) (hg : Gl X x)
    (he : PE X e ta) (hs : starEach [e] X.env = (false, eval e X.env) :: starEach [] X.env := by rfl) (hdb : (x == ("__debug__" : Str)) = false := by decide) :
    PE X (.Call (.Name x p) [e] [] pos) (fun σ H Q => ta σ H fun _ H1 => ∀ a, H1 a = none → Q (.ref a) (upd H1 a (exv a (.ref C) none))) := by
  refine ⟨fun pins s σ H Q I h => ?_⟩
  refine wpAny_Call_Name_kw (ld_glob I hg gC ?_ hdb)
  refine PySem.W.callWith_K (h₀ := X.base) I.ok.mod.kin kC ?_ hs (by rfl)
  rw [hs]
  show wpAny _ _ (spliced ((false, eval e X.env) :: backTo pos (starEach [] X.env))) _ _ s
  refine Calls.spliced_cons (thn (he.run pins s σ H _ I h) fun u s1 ⟨v, H1, I1, r1, q1⟩ => ?_)
  refine Calls.spliced_nil ⟨I1.kIn, ?_⟩
  show wpAny _ _ (call (.ref C) [u]) _ _ _
  obtain ⟨bm, N, nm, qn, bs, hdct, sn, sub, ab, col, dd, k0, k1, k2, k3, k5, mN, hC, hN, hni, T⟩ := exc_obj I1.kIn q
  refine wpAny_call_exc_subT F T hC hN hni (fun h' a hm => ?_) (by show 1 ≤ sizeLine; rw [sizeLine_eq]; omega)
  have hn : H1 a = none := I1.hok.gone hm.new
  obtain ⟨t, ht, _, _⟩ := hm.there
  exact ⟨.ref a, upd H1 a (exv a (.ref C) none), I1.laidN hm.keeps hm.new hn (exv_ok ht ⟨rfl, rfl⟩ rfl), rfl, q1 a hn⟩
/-- C(e), an error class whose __init__ says super().__init__(text), then self.f = f -/
def tErrV (C : Addr) (f : Str) (ta : TA) : TE := fun σ H Q => ta σ H fun vs H1 => ∃ n : Int, vs = [.int n] ∧ n.natAbs.log2 < 1900 ∧ ∀ a d, H1 a = none → H1 d = none → d ≠ a → Q (.ref a) (upd (upd H1 d (.xd [(f, .int n)])) a (exv a (.ref C) (some d)))
theorem pe_errV {x qual f : Str} {C fI : Addr} {st : Stmt} {J e : Expr} {fd : FuncData} {ta : TA} {p pos : Pos} {k : Nat} (T : InitC X.prog X.K X.mg C fI qual f st J fd) (hr : Room (k + 2) X.A) (hg : Gl X x) (hm : X.mg x = some (.ref C)) (ha : PA X [e] ta)
    (hdb : (x == ("__debug__" : Str)) = false := by decide) (he : starEach [e] X.env = (false, eval e X.env) :: starEach [] X.env := by rfl) : PE X (.Call (.Name x p) [e] [] pos) (tErrV C f ta) := by
  have F1 : FnOk X.prog X.w X.K X.mg X.base CX0 (k + 1) fI fd ["self", f] (spInit X.K C f) := fn_init T
  refine ⟨fun pins s σ H Q I h => ?_⟩
  obtain ⟨nm, q, N, bs, bm, sn, sub, ab, col, dd, k0, k1, k2, k3, k5, hC, hbm⟩ := T.ox.cls
  refine wpAny_Call_Name_kw (ld_glob I hg hm ?_ hdb)
  refine PySem.W.callWith_K (h₀ := X.base) I.ok.mod.kin T.ox.kC (thn (ha.run pos pins s σ H _ I h) fun us s1 ⟨vs, H1, I1, r1, n, ev, hn0, q1⟩ => ⟨I1.kIn, ?_⟩) he rfl
  subst ev
  show wpAny _ _ (call (.ref C) us) _ _ _
  obtain ⟨hp, g, dr, tk, os⟩ := s1
  have hsz : hp.objs.size ≤ hp.objs.size + 1 := Nat.le_succ _
  generalize hA : hp.objs.size + 1 = a at hsz
  have hn : H1 a = none := I1.hok.fresh hsz
  have hq : spInit X.K C f [V.ref a, V.int n] (upd H1 a (exo a C none)) (fun v H2 => v = .non ∧ ∃ d, H1 d = none ∧ d ≠ a ∧ H2 = upd (upd (upd H1 a (exo a C none)) d (exd d [(f, .int n)])) a (exo a C (some d))) (fun _ _ _ => False) :=
    ⟨a, n, rfl, hn0, upd_same, fun dx n1 n2 => ⟨rfl, dx, by rw [upd_ne n2] at n1; exact n1, n2, rfl⟩⟩
  have kk : ∀ b o, hp.get? b = some o → ((hp.push (PySem.W.kdv_tup us)).push (PySem.HandSPX.excO C hp.objs.size)).get? b = some o := fun b o e => Heap.get?_push_of_some _ (Heap.get?_push_of_some _ e)
  have hget : ((hp.push (PySem.W.kdv_tup us)).push (PySem.HandSPX.excO C hp.objs.size)).get? a = some (PySem.HandSPX.excO C hp.objs.size) := by rw [← hA]; heap_get
  have I2 : Inv X pins σ (upd H1 a (exo a C none)) ⟨(hp.push (PySem.W.kdv_tup us)).push (PySem.HandSPX.excO C hp.objs.size), g, dr, tk, os⟩ :=
    I1.laid (t' := tk) (a := a) (o := exo a C none) (h' := (hp.push (PySem.W.kdv_tup us)).push (PySem.HandSPX.excO C hp.objs.size)) kk hsz (exo_ok hget)
  have r2 : Vals [V.ref a, V.int n] (Value.ref a :: us) := .cons rfl r1
  have hl : (Value.ref a :: us ++ []).length = (["self", f] : List Str).length := by
    rw [List.append_nil]
    exact r2.length.symm
  have hbb := T.bi _ (Value.ref a :: us) I2.kIn hl
  rw [List.append_nil] at hbb
  have hus : us.length ≤ sizeLine := by
    rw [← Paired.length r1, sizeLine_eq]
    show 1 ≤ _
    omega
  refine wpAny_call (PySem.HandSPX.call_own F.excBase_ValueError (fun Y => PySem.HandSPX.refsVE_contains Y bm hbm) (I1.kIn _ _ hC) (PySem.W.looks_findIn I1.kIn T.iC) (fun self => PySem.W.bind_fn I1.kIn self T.tI) hus ?_)
  rw [hA]
  refine codeAny_mono (F1.run _ X.stack _ _ ⟨Value.ref a :: us, []⟩ (Value.ref a :: us) _ _ (fun _ _ _ => False) (hr.make C us []) (I2.env0.make C us []) hbb r2 hq) fun r s' hq' => ?_
  cases r with
  | error er => exact hq'.elim
  | ok fl =>
    cases fl with
    | ret u =>
      obtain ⟨v, H2, os2, bare2, un2, hok2, rv, ev, d, nd1, nda, eH⟩ := hq'
      subst ev
      obtain ⟨h2, g2, d2, t2, os'⟩ := s'
      have J2 : Inv X pins σ H2 ⟨h2, g2, d2, t2, os'⟩ := I2.call' (ch := []) os2 un2 hok2 bare2 (fun b z => absurd z (by simp))
      have ea : H2 a = some (exo a C (some d)) := by rw [eH, upd_same]
      have ed : H2 d = some (exd d [(f, .int n)]) := by rw [eH, upd_ne nda, upd_same]
      obtain ⟨mA, hns, rel⟩ := exd_at J2.hok ed
      have J3 : Inv X pins σ (upd H2 d (.xd [(f, .int n)])) ⟨h2, g2, d2, t2, os'⟩ := J2.write (t' := t2) (x := d) (e := d) (o := .xd [(f, .int n)]) (by rw [ed]; exact True.intro) (.inl rfl) (fun b u _ z => z) (by obtain ⟨o, _, _, e1, _⟩ := hns; exact ⟨o, e1⟩) ⟨mA, hns, rel⟩
      have ea3 : upd H2 d (.xd [(f, .int n)]) a = some (exo a C (some d)) := by rw [upd_ne nda.symm]; exact ea
      obtain ⟨t1, ho⟩ := exo_at J3.hok ea3
      have J4 := J3.write (t' := t2) (x := a) (e := a) (o := exv a (.ref C) (some d)) (h' := h2) (by rw [ea3]; exact True.intro) (.inl rfl) (fun b u _ z => z) ⟨_, ho⟩ (exv_ok ho ⟨rfl, rfl⟩ rfl)
      have eq : upd (upd H2 d (.xd [(f, .int n)])) a (exv a (.ref C) (some d)) = upd (upd H1 d (.xd [(f, .int n)])) a (exv a (.ref C) (some d)) := by
        funext b
        by_cases hb : b = a
        · rw [hb, upd_same, upd_same]
        · rw [upd_ne hb, upd_ne hb]
          by_cases hd : b = d
          · rw [hd, upd_same, upd_same]
          · rw [upd_ne hd, upd_ne hd, eH, upd_ne hb, upd_ne hd, upd_ne hb]
      rw [eq] at J4
      exact ⟨rv, .ref a, _, J4, rfl, q1 a d hn nd1 nda⟩
    | next => exact False.elim hq'
    | brk => exact False.elim hq'
    | cont => exact False.elim hq'
/-- e(a, ..) in a try, e one of several defs: S tells the promise of each -/
def tCallE (S : Addr → Option Sp) (E : L2.St → XK) (te : TE) (t : TA) : TE := fun σ H Q => te σ H fun x H1 => ∃ f sp, x = .ref f ∧ S f = some sp ∧ t σ H1 fun vs H2 => sp vs H2 Q (E σ)
theorem pe_callE {CX : CXT} {k : Nat} {S : Addr → Option Sp} {E : L2.St → XK} {g e : Expr} {es : List Expr} {te : TE} {t : TA} {pos : Pos} (A : ∀ f sp, S f = some sp → ∃ (fd : FuncData) (ps : List Str), FnOk X.prog X.w X.K X.mg X.base CX k f fd ps sp ∧ PySem.W.keepIn X.K (.ref f) = true ∧ Binds X.K fd ps []) (hr : Room k X.A) (hx : ∀ σ, PassesAt CX X σ (E σ))
    (hg : PE X g te) (ha : PA X (e :: es) t)
    (hc : eval (.Call g (e :: es) [] pos) X.env = (do callWith pos (← eval g X.env) [] (backTo pos (starEach (e :: es) X.env)) (backToKw pos (keywordEach [] X.env))) := by rfl)
    (he : starEach (e :: es) X.env = (false, eval e X.env) :: starEach es X.env := by rfl) (hpl : (backTo pos (starEach es X.env)).any (·.1) = false := by rfl) : PE X (.Call g (e :: es) [] pos) (tCallE S E te t) := by
  refine ⟨fun pins s σ H Q I h => ?_⟩
  refine Call_ (thn (hg.run pins s σ H _ I h) fun u s1 ⟨x, H1, I1, rx, f, sp, ex, hS, q⟩ => ?_) hc
  subst ex
  obtain rfl : u = Value.ref f := rx
  obtain ⟨fd, ps, F, hk, hb⟩ := A f sp hS
  refine PySem.W.callWith_K (h₀ := X.base) I1.ok.mod.kin hk (thn (ha.run pos pins s1 σ H1 _ I1 q) fun us s2 ⟨vs, H2, I2, r, q2⟩ => ⟨I2.kIn, ?_⟩) he hpl
  exact run_fnS F hr hb (hx σ) I2 r q2
end
end Eh
set_option Elab.async false
set_option linter.all false
set_option maxRecDepth 100000
set_option maxHeartbeats 4000000
namespace Eh
open PySem PySem.Spec PyProof.Rows L2 Evl
def ordKV : List Str → Nat → List (Key × V)
  | [], _ => []
  | x :: r, n => (.inr x, .int (n : Int)) :: ordKV r (n + 1)
theorem ordKV_app : ∀ (a b : List Str) (n : Nat), ordKV (a ++ b) n = ordKV a n ++ ordKV b (n + a.length)
  | [], b, n => rfl
  | x :: r, b, n => by
    show (.inr x, .int (n : Int)) :: ordKV (r ++ b) (n + 1) = (.inr x, .int (n : Int)) :: (ordKV r (n + 1) ++ ordKV b (n + (r.length + 1)))
    rw [ordKV_app r b (n + 1), show n + 1 + r.length = n + (r.length + 1) by omega]
theorem ordKV_len : ∀ (a : List Str) (n : Nat), (ordKV a n).length = a.length
  | [], n => rfl
  | x :: r, n => by
    show (ordKV r (n + 1)).length + 1 = r.length + 1
    rw [ordKV_len r (n + 1)]
theorem ordKV_none : ∀ (a : List Str) (n : Nat) (x : Str), ¬ x ∈ a → valV (ordKV a n) (.inr x) = none
  | [], n, x, _ => rfl
  | y :: r, n, x, h => by
    have h1 : ¬ y = x := fun e => h (by rw [e]; exact List.mem_cons_self ..)
    have h2 : ¬ x ∈ r := fun e => h (List.mem_cons_of_mem _ e)
    show valV ((Sum.inr y, V.int (n : Int)) :: ordKV r (n + 1)) (.inr x) = none
    rw [valV_neg (fun e => h1 (Sum.inr.inj e))]
    exact ordKV_none r (n + 1) x h2
theorem ordKV_some : ∀ (a : List Str) (n : Nat) (x : Str), x ∈ a → valV (ordKV a n) (.inr x) = some (.int ((n + a.idxOf x : Nat) : Int))
  | [], n, x, h => (List.not_mem_nil h).elim
  | y :: r, n, x, h => by
    show valV ((Sum.inr y, V.int (n : Int)) :: ordKV r (n + 1)) (.inr x) = _
    by_cases e : y = x
    · subst e
      rw [valV_pos (by rfl), List.idxOf_cons_self]
      rfl
    · rw [valV_neg (fun z => e (Sum.inr.inj z)), ordKV_some r (n + 1) x ((List.mem_cons.mp h).resolve_left fun z => e z.symm), List.idxOf_cons, show (y == x) = false from beq_false_of_ne e]
      show some (V.int ((n + 1 + r.idxOf x : Nat) : Int)) = some (V.int ((n + (r.idxOf x + 1) : Nat) : Int))
      rw [show n + 1 + r.idxOf x = n + (r.idxOf x + 1) by omega]
/-- one tuple behind the other, the first with something in it -/
theorem cat_rd {K : PySem.W.Frag} {a b : Addr} {xs ys : List V} {H : Hp} {Q : VK} (h1 : SqT K H a xs) (h2 : SqT K H b ys) (n0 : xs ≠ []) (hz : xs.length + ys.length ≤ 1000) (q : ∀ p H', Ex H H' → SqT K H' p (xs ++ ys) → Q (.ref p) H') : rCatT K (.ref a) (.ref b) H Q :=
  ⟨a, b, xs, ys, rfl, rfl, h1, h2, n0, sz_of (by omega), fun e => q a H (Ex.refl H) (by rw [e, List.append_nil]; exact h1), fun _ p np => q p _ (Ex.new np) (st_of upd_same)⟩
/-- {.. for i, x in enumerate(tuple)} -/
theorem dc_enumT {K : PySem.W.Frag} {a : Addr} {xs : List V} {tt : TT} {tk tv : TE} {σ : L2.St} {H1 : Hp} {Dd : Addr} {Qd : Hp → Prop} {i1 i2 : Nat} {vs : List Nat} (Pv : Nat → Hp → Prop) (h0 : Pv 0 (upd H1 Dd (.dK []))) (hl : ∀ i H, i ≤ xs.length → Pv i H → SqT K H a xs)
    (hs : ∀ i x H T, xs[i]? = some x → Pv i H → H T = none → wipe (((wipe σ vs).set i1 (some (.int (i : Nat)))).set i2 (some x)) vs = wipe σ vs ∧ tt (((wipe σ vs).set i1 (some (.int (i : Nat)))).set i2 (some x)) (upd H T (.tup [.int (i : Nat), x])) fun b H3 => if b = true then tk (((wipe σ vs).set i1 (some (.int (i : Nat)))).set i2 (some x)) H3 fun y H4 => tv (((wipe σ vs).set i1 (some (.int (i : Nat)))).set i2 (some x)) H4 fun z H5 => ∃ kvs k, y = kV k ∧ H5 Dd = some (.dK kvs) ∧ kvs.length < sizeLine ∧ Pv (i + 1) (upd H5 Dd (.dK (putK kvs k z))) else Pv (i + 1) H3)
    (hd : ∀ H, Pv xs.length H → Qd H) :
    ∃ W : Nat → Nat → Hp → Prop, (∃ m, W 0 m (upd H1 Dd (.dK []))) ∧ ∀ i m H, W i m H → ((IteT K a).stop i H ∧ Qd H) ∨ ((IteT K a).go i H ∧ ∃ Nx : Hp → Prop, (∀ H', Nx H' → ∃ m', m' < m ∧ W (i + 1) m' H') ∧ ∀ x H', (IteT K a).yld i H x H' → gTup K 2 (gCons (gName i1) (gCons (gName i2) gNil)) x (wipe σ vs) H' fun σ2 H2 => wipe σ2 vs = wipe σ vs ∧ tt σ2 H2 fun b H3 => if b = true then tk σ2 H3 fun y H4 => tv σ2 H4 fun z H5 => ∃ kvs k, y = kV k ∧ H5 Dd = some (.dK kvs) ∧ kvs.length < sizeLine ∧ Nx (upd H5 Dd (.dK (putK kvs k z))) else Nx H3) := by
  refine ⟨fun i m H => m = xs.length - i ∧ i ≤ xs.length ∧ Pv i H, ⟨xs.length, by omega, Nat.zero_le _, h0⟩, ?_⟩
  rintro i m H ⟨rfl, hi, pp⟩
  have sq := hl i H hi pp
  by_cases hlt : i < xs.length
  · refine .inr ⟨⟨xs, xs[i], sq, List.getElem?_eq_getElem hlt⟩, Pv (i + 1), fun H' p' => ⟨xs.length - (i + 1), by omega, rfl, hlt, p'⟩, fun v H' y => ?_⟩
    obtain ⟨T, x, rfl, nT, rfl, f⟩ := y
    exact ⟨T, [.int (i : Nat), x], rfl, st_of upd_same, rfl, _, _, rfl, _, _, rfl, rfl, hs i x H T (f xs sq) pp nT⟩
  · have e : i = xs.length := by omega
    subst e
    exact .inl ⟨⟨xs, sq, rfl⟩, hd H pp⟩
abbrev nOrderOf : List Str := ["sheet", "opens", "plains", "closes", "number", "letter"]
theorem scOrderOf : FnScope nOrderOf ["sheet"] (defScope sOrderOf) := ⟨rfl, rfl, rfl, by decide +kernel, rfl, by decide +kernel, by decide +kernel⟩
theorem scNeedWord : FnScope ["sheet", "word", "order", "place", "letter"] ["sheet", "word"] (defScope sNeedWord) := ⟨rfl, rfl, rfl, by decide +kernel, rfl, by decide +kernel, by decide +kernel⟩
section
variable {P : Program} {w : World} {K : PySem.W.Frag} {mg : Str → Option Value} {base : Heap}
def spOrderOf : Sp := fun vs H Q _ => ∃ (s : Addr) (os ps qs : List Str), vs = [.ref s] ∧ Sht os ps qs ∧ SheetAt H s os ps qs ∧ ∀ d H', Ex H H' → H d = none → H' d = some (.dK (ordKV (os ++ ps ++ qs) 0)) → Q (.ref d) H'
theorem ok_orderOf {f : Addr} {fd : FuncData} {k : Nat} (F : Fun K "order_of" "order_of" sOrderOf f fd) (me : mg "enumerate" = none) : FnOk P w K mg base CX0 (k + 1) f fd ["sheet"] spOrderOf := by
  have nd := scOrderOf.nd
  refine F.ok scOrderOf (fun vs H Q E h => ?_) (fun cdv A outer s H vs Q E hr h => ?_)
  · obtain ⟨s, os, ps, qs, rfl, _⟩ := h
    rfl
  · obtain ⟨s, os, ps, qs, rfl, hS, ⟨ao, ap, ac, h0, h1, h2, h3⟩, q⟩ := h
    refine ⟨_, pss_cons (ps_asg (pv 0) (pg_tup rfl (pgs_cons (pg_name (i := 1) nd rfl (.inl rfl)) (pgs_cons (pg_name (i := 2) nd rfl (.inl rfl)) (pgs_cons (pg_name (i := 3) nd rfl (.inl rfl)) pgs_nil)))))
      (pss_one (ps_ret (pe_dc (own := [("number", 4), ("letter", 5)]) (g := gTup K 2 (gCons (gName 4) (gCons (gName 5) gNil))) (tt := tYes) rfl nd (pi_enumT (by rfl) me (pa_cons (pe_op op_catT (pe_op op_catT (pv 1) (pv 2)) (pv 3)) pa_nil)) (blkOk_by (own := [("number", 4), ("letter", 5)]) (N := nOrderOf) (sc := defScope sOrderOf) (by decide +kernel))
        (fun _ _ _ _ _ => pg_tup rfl (pgs_cons (pg_name (i := 4) nd rfl (.inl rfl)) (pgs_cons (pg_name (i := 5) nd rfl (.inl rfl)) pgs_nil))) (fun _ _ _ _ _ => pts_nil) (fun _ _ _ _ _ => pv 5) (fun _ _ _ _ _ => pv 4)))), ?_⟩
    refine ⟨_, rfl, s, _, rfl, st_of h0, rfl, _, _, rfl, _, _, rfl, _, _, rfl, rfl, ?_⟩
    have on : os.map V.str ≠ [] := fun e => by
      have := hS.o1
      rw [← List.length_map (f := V.str), e] at this
      exact absurd this (by decide)
    have l1 : (os.map V.str).length + (ps.map V.str).length ≤ 1000 := by
      rw [List.length_map, List.length_map]
      have := hS.o4
      have := hS.p4
      omega
    refine ⟨_, rfl, _, rfl, cat_rd (st_of h1) (st_of h2) on l1 fun p1 H1 e1 g1 => ⟨_, rfl, cat_rd g1 (st_of (e1 _ _ h3)) (fun z => on (List.append_eq_nil_iff.mp z).1) ?_ fun p2 H2 e2 g2 => ?_⟩⟩
    · rw [List.length_append, List.length_map, List.length_map, List.length_map]
      have := hS.o4
      have := hS.p4
      have := hS.c4
      omega
    rw [← List.map_append, ← List.map_append] at g2
    generalize hL : os ++ ps ++ qs = L at *
    have hLl : L.length ≤ 12 := by
      rw [← hL, List.length_append, List.length_append]
      have := hS.o4
      have := hS.p4
      have := hS.c4
      omega
    have hLd : L.Nodup := by
      have := hS.nd
      rw [hL] at this
      exact this
    refine ⟨p2, _, rfl, g2, fun Dd nD => dc_enumT (xs := L.map V.str) (fun i H' => Ex H2 H' ∧ H' Dd = some (.dK (ordKV (L.take i) 0))) ⟨Ex.new nD, upd_same⟩ (fun i H' _ hh => ex_t hh.1 g2) ?_ ?_⟩
    · rintro i x H' T hx ⟨eH, hD⟩ nT
      refine ⟨rfl, yesT ?_⟩
      rw [List.getElem?_map] at hx
      obtain ⟨y, hy, rfl⟩ := Option.map_eq_some_iff.mp hx
      have eT : Ex H' (upd H' T (.tup [.int (i : Nat), .str y])) := Ex.new nT
      refine ⟨_, rfl, _, rfl, _, .inr y, rfl, eT _ _ hD, ?_, (eH.trans eT).mut nD, ?_⟩
      · rw [ordKV_len]
        exact sz_lt (by rw [List.length_take]; omega)
      · have hi := (List.getElem?_eq_some_iff.mp hy).1
        rw [upd_same, putK_new _ (ordKV_none _ _ _ ?_), List.take_add_one, hy, ordKV_app, List.length_take, Nat.min_eq_left (by omega), Nat.zero_add]
        · rfl
        · intro hm
          obtain ⟨j, hj, e⟩ := List.mem_take_iff_getElem.mp hm
          have : j = i := (List.getElem_inj hLd).mp (e.trans (List.getElem?_eq_some_iff.mp hy).2.symm)
          omega
    · rintro H' ⟨eH, hD⟩
      rw [List.length_map, List.take_length] at hD
      exact q Dd H' ((e1.trans e2).trans eH) (fresh_back (e1.trans e2) nD) hD
abbrev LetC (P : Program) (K : PySem.W.Frag) (mg : Str → Option Value) (C0 fI : Addr) (fdI : FuncData) : Prop := mg "NoLetter" = some (.ref C0) ∧ ∃ J, InitC P K mg C0 fI "NoLetter.__init__" "place" (inClass (topS 2) 0) J fdI
theorem log2_small {n : Nat} (h : n ≤ 10000) : ((n : Int)).natAbs.log2 < 1900 := by
  have e : ((n : Int)).natAbs = n := Int.natAbs_natCast n
  rw [e]
  have h1 : n.log2 < 14 := by
    by_cases z : n = 0
    · subst z
      decide
    · exact (Nat.log2_lt z).mpr (Nat.lt_of_le_of_lt h (by decide))
  omega
def spNeedWord (K : PySem.W.Frag) (C0 : Addr) : Sp := fun vs H Q E => ∃ (s l : Addr) (os ps qs ws : List Str), vs = [.ref s, .ref l] ∧ Sht os ps qs ∧ SheetAt H s os ps qs ∧ SqL K H l (ws.map V.str) ∧ ws.length ≤ 10000 ∧ ((∀ x ∈ ws, x ∈ os ++ ps ++ qs) → ∀ H', Ex H H' → Q .non H') ∧
  ∀ (p : Nat) (x : Str), ws[p]? = some x → ¬ x ∈ os ++ ps ++ qs → (∀ j y, j < p → ws[j]? = some y → y ∈ os ++ ps ++ qs) → ∀ d H', Ex H H' → H' d = some (.xd [("place", .int (p : Int))]) → E (.ref C0) (some d) H'
theorem ok_needWord {f fO C0 fI : Addr} {fd fdO fdI : FuncData} {k : Nat} (F : Fun K "need_word" "need_word" sNeedWord f fd) (FO : Fun K "order_of" "order_of" sOrderOf fO fdO) (bO : Binds K fdO ["sheet"] []) (gO : mg "order_of" = some (.ref fO)) (me : mg "enumerate" = none) (T : LetC P K mg C0 fI fdI) : FnOk P w K mg base (L2.CX P w) (k + 3) f fd ["sheet", "word"] (spNeedWord K C0) := by
  have GO : FnOk P w K mg base CX0 (k + 2) fO fdO ["sheet"] spOrderOf := ok_orderOf FO me
  have nd := scNeedWord.nd
  obtain ⟨gC, JJ, TI⟩ := T
  refine F.okX scNeedWord (fun vs H Q E h => ?_) (fun cdv A outer s H vs Q E hr h => ?_)
  · obtain ⟨s, l, os, ps, qs, ws, rfl, _⟩ := h
    rfl
  · obtain ⟨s, l, os, ps, qs, ws, rfl, hS, hs, hl, hlen, q, qx⟩ := h
    have hu := hu_of hr
    refine ⟨_, pss_cons (ps_set (i := 2) nd rfl (.inl rfl) (pe_call GO hr (by rfl) gO FO.kp bO .nil pass0 (pa_cons (pv 0) pa_nil)))
      (pss_one (ps_for (passes_of rfl) rfl (pi_enum (by rfl) me (pa_cons (pv 1) pa_nil)) (pg_tup rfl (pgs_cons (pg_name (i := 3) nd rfl (.inl rfl)) (pgs_cons (pg_name (i := 4) nd rfl (.inl rfl)) pgs_nil)))
        (pss_one (ps_if (pt_cmp (pc_dnotin hu (pv 4) (pv 2))) (pss_one (ps_raise rfl (takes_of rfl rfl rfl rfl) (pmk_err TI hr rfl gC (pa_cons (pv 3) pa_nil)))) pss_nil)))), ?_⟩
    refine ⟨_, rfl, s, os, ps, qs, rfl, hS, hs, fun d H1 e1 nd1 hd => ?_⟩
    refine ⟨_, rfl, l, _, rfl, ex_l e1 hl, for_enum (xs := ws.map V.str) (fun i σ H' => (∃ y3 y4, σ = [some (.ref s), some (.ref l), some (.ref d), y3, y4]) ∧ Ex H1 H' ∧ ∀ j y, j < i → ws[j]? = some y → y ∈ os ++ ps ++ qs) ⟨⟨_, _, rfl⟩, Ex.refl _, fun j y hj => absurd hj (Nat.not_lt_zero j)⟩ (fun i σ H' _ hh => ex_l (e1.trans hh.2.1) hl) ?_ ?_⟩
    · rintro i x σ H' T hx ⟨⟨y3, y4, rfl⟩, eH, hpre⟩ nT
      rw [List.getElem?_map] at hx
      obtain ⟨y, hy, rfl⟩ := Option.map_eq_some_iff.mp hx
      have hi := (List.getElem?_eq_some_iff.mp hy).1
      have eT : Ex H' (upd H' T (.tup [.int (i : Nat), .str y])) := Ex.new nT
      refine ⟨_, rfl, _, rfl, d, _, rfl, DGet.k (k := Sum.inr y) (eT _ _ (eH _ _ hd)), ?_⟩
      by_cases hin : y ∈ os ++ ps ++ qs
      · rw [ordKV_some _ _ _ hin]
        refine ⟨_, rfl, iteF ⟨⟨_, _, rfl⟩, eH.trans eT, fun j z hj hz => ?_⟩⟩
        rcases Nat.lt_succ_iff_lt_or_eq.mp hj with a | a
        · exact hpre j z a hz
        · rw [a, hy] at hz
          cases hz
          exact hin
      · rw [ordKV_none _ _ _ hin]
        refine ⟨_, rfl, iteT ⟨_, rfl, ?_⟩⟩
        exact mk_rd (log2_small (by omega)) fun d' nd' => qx i y hy hin hpre d' _ (((e1.trans eH).trans eT).trans (Ex.new nd')) upd_same
    · rintro σ H' ⟨_, eH, hpre⟩
      refine q (fun x hx => ?_) H' (e1.trans eH)
      obtain ⟨j, hj⟩ := List.mem_iff_getElem?.mp hx
      exact hpre j x (by rw [List.length_map]; exact (List.getElem?_eq_some_iff.mp hj).1) hj
def spOrder : Sp := fun vs H Q _ => ∃ (s : Addr) (os ps qs : List Str), vs = [.ref s] ∧ Sht os ps qs ∧ SheetAt H s os ps qs ∧ ∀ l H', Ex H H' → H l = none → H' l = some (lS (os ++ ps ++ qs)) → Q (.ref l) H'
theorem ok_order {f : Addr} {fd : FuncData} {k : Nat} (F : Fun K "_law_order" "_law_order" sOrder f fd) (ml : mg "list" = none) : FnOk P w K mg base CX0 (k + 1) f fd ["sheet"] spOrder := by
  refine F.ok scOrder (fun vs H Q E h => ?_) (fun cdv A outer s H vs Q E hr h => ?_)
  · obtain ⟨s, os, ps, qs, rfl, _⟩ := h
    rfl
  · obtain ⟨s, os, ps, qs, rfl, hS, ⟨ao, ap, ac, h0, h1, h2, h3⟩, q⟩ := h
    refine ⟨_, pss_one (ps_ret (pe_op op_cat (pe_op op_cat (pe_callTy call_list_of (by rfl) ml (by decide +kernel) (pa_cons (pe_ix ix_tup (pv 0) pe_int (fun _ _ => rfl)) pa_nil)) (pe_callTy call_list_of (by rfl) ml (by decide +kernel) (pa_cons (pe_ix ix_tup (pv 0) pe_int (fun _ _ => rfl)) pa_nil))) (pe_callTy call_list_of (by rfl) ml (by decide +kernel) (pa_cons (pe_ix ix_tup (pv 0) pe_int (fun _ _ => rfl)) pa_nil)))), ?_⟩
    have := hS.o4
    have := hS.p4
    have := hS.c4
    refine ⟨_, rfl, s, _, 0, .ref ao, rfl, rfl, st_of h0, rfl, ao, _, rfl, .inr (st_of h1), fun l1 n1 => ?_⟩
    have e1 : Ex H _ := Ex.new (o := lS os) n1
    refine ⟨_, rfl, s, _, 1, .ref ap, rfl, rfl, st_of (e1 _ _ h0), rfl, ap, _, rfl, .inr (st_of (e1 _ _ h2)), fun l2 n2 => ?_⟩
    have e2 : Ex _ _ := Ex.new (o := lS ps) n2
    refine ⟨l1, l2, _, _, rfl, rfl, e2 _ _ upd_same, upd_same, ?_, fun l3 n3 => ?_⟩
    · rw [List.length_map, List.length_map]
      exact sz_of (by omega)
    have e3 : Ex _ _ := Ex.new (o := .lst (os.map V.str ++ ps.map V.str)) n3
    refine ⟨_, rfl, s, _, 2, .ref ac, rfl, rfl, st_of (e3 _ _ (e2 _ _ (e1 _ _ h0))), rfl, ac, _, rfl, .inr (st_of (e3 _ _ (e2 _ _ (e1 _ _ h3)))), fun l4 n4 => ?_⟩
    have e4 : Ex _ _ := Ex.new (o := lS qs) n4
    refine ⟨l3, l4, _, _, rfl, rfl, e4 _ _ upd_same, upd_same, ?_, fun l5 n5 => ?_⟩
    · rw [List.length_append, List.length_map, List.length_map, List.length_map]
      exact sz_of (by omega)
    have ee := ((e1.trans e2).trans e3).trans e4
    refine q l5 _ (ee.trans (Ex.new n5)) (fresh_back ee n5) ?_
    rw [upd_same, ← List.map_append, ← List.map_append]
end
end Eh
set_option Elab.async false
set_option linter.all false
set_option maxRecDepth 100000
set_option maxHeartbeats 4000000
namespace Eh
open PySem PySem.Spec PyProof.Rows L2 Evl
/-! xs.count(y) of flat things -/
theorem countP_eqU {y : V} : ∀ {ys : List V} {us : List Value}, Vals ys us → ys.all flatV = true → us.countP (eqU y) = ys.countP (fun z => eqV z y)
  | _, _, .nil, _ => rfl
  | _, _, .cons r rs, h => by
    rw [List.all_cons, Bool.and_eq_true] at h
    rw [List.countP_cons, List.countP_cons, countP_eqU rs h.2, eqU_of r h.1]
def rCntV (K : PySem.W.Frag) : V → List V → Hp → VK → Prop := fun x xs H Q => ∃ (a : Addr) (ys : List V) (y : V), x = .ref a ∧ xs = [y] ∧ SqL K H a ys ∧ flatV y = true ∧ ys.all flatV = true ∧ Q (.int (ys.countP (fun z => eqV z y) : Nat)) H
theorem mt_cntV {X : Cx} : MtR X "list.count" (rCntV X.K) := by
  intro pins s σ H x xs v us Q I rx rxs h
  obtain ⟨a, ys, y, rfl, rfl, hs, fy, fys, q⟩ := h
  cases rx
  obtain ⟨uy, rfl, ry⟩ := rxs.one
  obtain ⟨its, rv, ⟨⟨cls, dd, data, sl⟩, n, ho, hc, hdn, hd⟩, hlen⟩ := I.list hs
  simp only at hc hd
  subst hc hd
  refine call_meets PySem.F.slot_list_count ⟨_, ho, rfl⟩ PySem.F.entry_list_count (PySem.F.args_list_count_2 _ _) (SeqAt.list_countAt a its.toArray n dd sl uy (eqU y)) ⟨ho, fun u' hu' => mem_eqAt ry fy rv fys u' (by simpa using hu'), ?_⟩
  refine ⟨.int (ys.countP (fun z => eqV z y) : Nat), H, I.tok _, ⟨s.toks, ?_⟩, q⟩
  rw [← countP_eqU rv fys]
/-! which error it is -/
def kWords : List Str := ["letter", "shut", "long", "choice", "text", "sheet", "way", "many", "step", "name", "row"]
/-- what the written part tells of the i-th error's class; cs: all of them, CH: HallError -/
structure KindC (K : PySem.W.Frag) (CH : Addr) (cs : List Addr) (i : Nat) : Prop where
  lt : i < 11
  ec : ErrC K (cs.getD i 0)
  kit : ∀ j, j < 11 → PySem.W.kitOne K (.ref (cs.getD i 0)) (.ref (cs.getD j 0)) = some (decide (i = j))
  hall : PySem.W.kitOne K (.ref (cs.getD i 0)) (.ref CH) = some true
  val : PySem.W.kitOne K (.ref (cs.getD i 0)) (.type "ValueError") = some true
  noP : PySem.W.findIn K (.ref (cs.getD i 0)) "place" = some none
  noS : PySem.W.findIn K (.ref (cs.getD i 0)) "size" = some none
/-- the names -/
structure KindM (mg : Str → Option Value) (CH : Addr) (cs : List Addr) : Prop where
  isi : mg "isinstance" = none
  ve : mg "ValueError" = none
  gH : mg "HallError" = some (.ref CH)
  g0 : mg "NoLetter" = some (.ref (cs.getD 0 0))
  g1 : mg "NotShut" = some (.ref (cs.getD 1 0))
  g2 : mg "TooLong" = some (.ref (cs.getD 2 0))
  g3 : mg "NoChoice" = some (.ref (cs.getD 3 0))
  g4 : mg "NoText" = some (.ref (cs.getD 4 0))
  g5 : mg "NoSheet" = some (.ref (cs.getD 5 0))
  g6 : mg "NoOneWay" = some (.ref (cs.getD 6 0))
  g7 : mg "TooMany" = some (.ref (cs.getD 7 0))
  g8 : mg "NoStep" = some (.ref (cs.getD 8 0))
  g9 : mg "NoName" = some (.ref (cs.getD 9 0))
  g10 : mg "NoRow" = some (.ref (cs.getD 10 0))
abbrev nKind : List Str := ["caught", "some", "word"]
theorem scKind : FnScope nKind ["caught"] (defScope sKind) := ⟨rfl, rfl, rfl, by decide +kernel, rfl, by decide +kernel, by decide +kernel⟩
theorem isx {K : PySem.W.Frag} {a ci : Addr} {d : Option Addr} {c : V} {cv : Value} {b : Bool} {σ : L2.St} {H : Hp} {Q : VK} (h0 : σ[0]? = some (some (.ref a))) (ha : H a = some (exv a (.ref ci) d)) (hd : DctOk H d) (ec : ErrC K ci) (hc : ∀ u, L2.RelV c u → u = cv) (kit : PySem.W.kitOne K (.ref ci) cv = some b) (q : Q (.bl b) H) :
    tCB (rIsX K) (tCons (tVar 0) (tCons (tC c) tNil)) σ H Q := ⟨_, h0, a, ci, d, c, cv, b, rfl, ha, hd, ec, hc, kit, q⟩
def somes (i : Nat) : List Bool := (List.range 11).map fun j => decide (i = j)
theorem somes_cnt : ∀ i, i < 11 → ((somes i).map V.bl).countP (fun z => eqV z (.bl true)) = 1 := by decide
theorem somes_at : ∀ i, i < 11 → ((somes i).map V.bl)[i]? = some (.bl true) := fun i h => by
  unfold somes
  rw [List.getElem?_map, List.getElem?_map, List.getElem?_range h]
  simp
theorem somes_ne {i m : Nat} {z : V} (hm : m < i) (hi : i < 11) (h : ((somes i).map V.bl)[m]? = some z) : eqV z (.bl true) = false := by
  unfold somes at h
  rw [List.getElem?_map, List.getElem?_map, List.getElem?_range (by omega)] at h
  have e : V.bl (decide (i = m)) = z := Option.some.inj h
  rw [← e, decide_eq_false (by omega)]
  rfl
theorem somes_flat (i : Nat) : ((somes i).map V.bl).all flatV = true := by
  rw [List.all_eq_true]
  intro z hz
  obtain ⟨b, _, rfl⟩ := List.mem_map.mp hz
  rfl
section
variable {P : Program} {w : World} {K : PySem.W.Frag} {mg : Str → Option Value} {base : Heap}
def KFld (H : Hp) (d : Option Addr) (i : Nat) (v : V) : Prop := ((i = 0 ∨ i = 1 ∨ i = 3 ∨ i = 4) ∧ ∃ dd, d = some dd ∧ H dd = some (.xd [("place", v)])) ∨ (i = 2 ∧ ∃ dd, d = some dd ∧ H dd = some (.xd [("size", v)])) ∨ (5 ≤ i ∧ v = .int 0)
def spKind (K : PySem.W.Frag) (CH : Addr) (cs : List Addr) : Sp := fun vs H Q _ => ∃ (a : Addr) (d : Option Addr) (i : Nat) (v : V), vs = [.ref a] ∧ KindC K CH cs i ∧ H a = some (exv a (.ref (cs.getD i 0)) d) ∧ DctOk H d ∧ KFld H d i v ∧
  ∀ p H', Ex H H' → H p = none → H' p = some (.tup [.str (kWords.getD i ""), v]) → Q (.ref p) H'
theorem ok_kind {f CH : Addr} {cs : List Addr} {fd : FuncData} {k : Nat} (F : Fun K "_law_kind" "_law_kind" sKind f fd) (M : KindM mg CH cs) : FnOk P w K mg base CX0 (k + 1) f fd ["caught"] (spKind K CH cs) := by
  have nd := scKind.nd
  refine F.ok scKind (fun vs H Q E h => ?_) (fun cdv A outer s H vs Q E hr h => ?_)
  · obtain ⟨a, d, i, v, rfl, _⟩ := h
    rfl
  · obtain ⟨a, d, i, v, rfl, C, ha, hd, hf, q⟩ := h
    refine ⟨_, pss_cons (ps_set (i := 1) nd rfl (.inl rfl) (pe_lst (pa_cons (pe_callB call_isX (by rfl) M.isi (by decide +kernel) (pa_cons (pv 0) (pa_cons (pe_glob (v := .ref (cs.getD 0 0)) rfl M.g0 rfl) pa_nil))) (pa_cons (pe_callB call_isX (by rfl) M.isi (by decide +kernel) (pa_cons (pv 0) (pa_cons (pe_glob (v := .ref (cs.getD 1 0)) rfl M.g1 rfl) pa_nil))) (pa_cons (pe_callB call_isX (by rfl) M.isi (by decide +kernel) (pa_cons (pv 0) (pa_cons (pe_glob (v := .ref (cs.getD 2 0)) rfl M.g2 rfl) pa_nil))) pa_nil)))))
      (pss_cons (ps_set (i := 1) nd rfl (.inl rfl) (pe_op op_cat (pv 1) (pe_lst (pa_cons (pe_callB call_isX (by rfl) M.isi (by decide +kernel) (pa_cons (pv 0) (pa_cons (pe_glob (v := .ref (cs.getD 3 0)) rfl M.g3 rfl) pa_nil))) (pa_cons (pe_callB call_isX (by rfl) M.isi (by decide +kernel) (pa_cons (pv 0) (pa_cons (pe_glob (v := .ref (cs.getD 4 0)) rfl M.g4 rfl) pa_nil))) (pa_cons (pe_callB call_isX (by rfl) M.isi (by decide +kernel) (pa_cons (pv 0) (pa_cons (pe_glob (v := .ref (cs.getD 5 0)) rfl M.g5 rfl) pa_nil))) pa_nil))))))
      (pss_cons (ps_set (i := 1) nd rfl (.inl rfl) (pe_op op_cat (pv 1) (pe_lst (pa_cons (pe_callB call_isX (by rfl) M.isi (by decide +kernel) (pa_cons (pv 0) (pa_cons (pe_glob (v := .ref (cs.getD 6 0)) rfl M.g6 rfl) pa_nil))) (pa_cons (pe_callB call_isX (by rfl) M.isi (by decide +kernel) (pa_cons (pv 0) (pa_cons (pe_glob (v := .ref (cs.getD 7 0)) rfl M.g7 rfl) pa_nil))) (pa_cons (pe_callB call_isX (by rfl) M.isi (by decide +kernel) (pa_cons (pv 0) (pa_cons (pe_glob (v := .ref (cs.getD 8 0)) rfl M.g8 rfl) pa_nil))) pa_nil))))))
      (pss_cons (ps_set (i := 1) nd rfl (.inl rfl) (pe_op op_cat (pv 1) (pe_lst (pa_cons (pe_callB call_isX (by rfl) M.isi (by decide +kernel) (pa_cons (pv 0) (pa_cons (pe_glob (v := .ref (cs.getD 9 0)) rfl M.g9 rfl) pa_nil))) (pa_cons (pe_callB call_isX (by rfl) M.isi (by decide +kernel) (pa_cons (pv 0) (pa_cons (pe_glob (v := .ref (cs.getD 10 0)) rfl M.g10 rfl) pa_nil))) pa_nil)))))
      (pss_cons (ps_if (PW.pt (pw_or (pt_cmpR op_ne (pe_bm PySem.F.plainAttrs_list PySem.F.slot_list_count PySem.F.type_list_count mt_cntV (pv 1) (pa_cons pe_bl pa_nil)) pe_int (nomark _)) (pw_or (pt_not (pt_val (pe_callB call_isX (by rfl) M.isi (by decide +kernel) (pa_cons (pv 0) (pa_cons (pe_glob (v := .ref CH) rfl M.gH rfl) pa_nil))))) (pw_or1 (pt_not (pt_val (pe_callB call_isX (by rfl) M.isi (by decide +kernel) (pa_cons (pv 0) (pa_cons (pe_bltn (v := .ty "ValueError") (by rfl) M.ve (by decide +kernel) rfl) pa_nil))))))))) (pss_one ps_never) pss_nil)
      (pss_cons (ps_set (i := 2) nd rfl (.inl rfl) (pe_ix ix_list (pe_lst (pa_cons pe_str (pa_cons pe_str (pa_cons pe_str (pa_cons pe_str (pa_cons pe_str (pa_cons pe_str (pa_cons pe_str (pa_cons pe_str (pa_cons pe_str (pa_cons pe_str (pa_cons pe_str pa_nil)))))))))))) (pe_bm PySem.F.plainAttrs_list PySem.F.slot_list_index PySem.F.type_list_index mt_index (pv 1) (pa_cons pe_bl pa_nil)) (fun _ _ => rfl)))
      (pss_cons (ps_if (pt_cmpR op_in_seq (pv 2) (pe_tup (pa_cons pe_str (pa_cons pe_str (pa_cons pe_str (pa_cons pe_str pa_nil))))) (by rfl)) (pss_one (ps_ret (pe_tup (pa_cons (pv 2) (pa_cons (pe_xg (pv 0)) pa_nil))))) pss_nil)
      (pss_one (ps_ret (pe_tup (pa_cons (pv 2) (pa_cons (pe_ifExp (pt_cmpR op_eq (pv 2) pe_str (nomark _)) (pe_xg (pv 0)) pe_int) pa_nil))))))))))), ?_⟩
    have dx : ∀ {H' : Hp}, Ex H H' → DctOk H' d := fun {H'} e => by
      cases d with
      | none => trivial
      | some dd =>
        obtain ⟨fs, z⟩ := hd
        exact ⟨fs, e _ _ z⟩
    have sz : ∀ n : Nat, n ≤ 100 → n ≤ sizeLine := fun n h => Nat.le_trans h (by decide)
    refine isx rfl ha hd C.ec (fun u r => r) (C.kit 0 (by decide)) (isx rfl ha hd C.ec (fun u r => r) (C.kit 1 (by decide)) (isx rfl ha hd C.ec (fun u r => r) (C.kit 2 (by decide)) ⟨sz 3 (by decide), fun l1 n1 => ?_⟩))
    have e1 : Ex H _ := Ex.new (o := .lst [.bl (decide (i = 0)), .bl (decide (i = 1)), .bl (decide (i = 2))]) n1
    have ha1 := e1 _ _ ha
    refine ⟨_, rfl, isx rfl ha1 (dx e1) C.ec (fun u r => r) (C.kit 3 (by decide)) (isx rfl ha1 (dx e1) C.ec (fun u r => r) (C.kit 4 (by decide)) (isx rfl ha1 (dx e1) C.ec (fun u r => r) (C.kit 5 (by decide)) ⟨sz 3 (by decide), fun l2 n2 => ⟨l1, l2, _, _, rfl, rfl, Ex.new n2 _ _ upd_same, upd_same, sz 6 (by decide), fun l3 n3 => ?_⟩⟩))⟩
    have e3 : Ex H _ := (e1.trans (Ex.new n2)).trans (Ex.new (o := .lst ([.bl (decide (i = 0)), .bl (decide (i = 1)), .bl (decide (i = 2))] ++ [.bl (decide (i = 3)), .bl (decide (i = 4)), .bl (decide (i = 5))])) n3)
    have ha3 := e3 _ _ ha
    refine ⟨_, rfl, isx rfl ha3 (dx e3) C.ec (fun u r => r) (C.kit 6 (by decide)) (isx rfl ha3 (dx e3) C.ec (fun u r => r) (C.kit 7 (by decide)) (isx rfl ha3 (dx e3) C.ec (fun u r => r) (C.kit 8 (by decide)) ⟨sz 3 (by decide), fun l4 n4 => ⟨l3, l4, _, _, rfl, rfl, Ex.new n4 _ _ upd_same, upd_same, sz 9 (by decide), fun l5 n5 => ?_⟩⟩))⟩
    have e5 : Ex H _ := (e3.trans (Ex.new n4)).trans (Ex.new (o := .lst ([.bl (decide (i = 0)), .bl (decide (i = 1)), .bl (decide (i = 2))] ++ [.bl (decide (i = 3)), .bl (decide (i = 4)), .bl (decide (i = 5))] ++ [.bl (decide (i = 6)), .bl (decide (i = 7)), .bl (decide (i = 8))])) n5)
    have ha5 := e5 _ _ ha
    refine ⟨_, rfl, isx rfl ha5 (dx e5) C.ec (fun u r => r) (C.kit 9 (by decide)) (isx rfl ha5 (dx e5) C.ec (fun u r => r) (C.kit 10 (by decide)) ⟨sz 2 (by decide), fun l6 n6 => ⟨l5, l6, _, _, rfl, rfl, Ex.new n6 _ _ upd_same, upd_same, sz 11 (by decide), fun l7 n7 => ?_⟩⟩)⟩
    have e7 : Ex H _ := (e5.trans (Ex.new n6)).trans (Ex.new (o := .lst ((somes i).map V.bl)) n7)
    have hL : ∀ {H0 : Hp}, (upd H0 l7 (.lst ((somes i).map V.bl))) l7 = some (.lst ((somes i).map V.bl)) := upd_same
    show tSeq _ _ _ _ (upd _ l7 (.lst ((somes i).map V.bl)))
    have ha7 := e7 _ _ ha
    refine ⟨_, rfl, .inl ⟨rfl, _, sq_of hL⟩, l7, _, .bl true, rfl, rfl, sq_of hL, rfl, somes_flat i, rfl, _, rfl, ?_⟩
    rw [somes_cnt i C.lt, decide_eq_true (show V.int ((1 : Nat) : Int) = V.int 1 from rfl)]
    refine iteF (isx rfl ha7 (dx e7) C.ec (fun u r => r) C.hall ⟨_, rfl, iteF (isx rfl ha7 (dx e7) C.ec (fun u r => r) C.val ⟨_, rfl, iteF ?_⟩)⟩)
    have hw : ∀ j : Nat, kWords.getD j "" = kWords.getD j "" := fun _ => rfl
    refine ⟨sz 11 (by decide), fun l8 n8 => ?_⟩
    have e8 := e7.trans (Ex.new (o := .lst (kWords.map V.str)) n8)
    have hL8 := Ex.new (o := .lst (kWords.map V.str)) n8 _ _ hL
    refine ⟨_, rfl, .inl ⟨rfl, _, sq_of hL8⟩, l7, _, .bl true, i, _, rfl, rfl, sq_of hL8, rfl, somes_flat i, somes_at i C.lt, rfl, fun m z hm hz => somes_ne hm C.lt hz, l8, _, _, .str (kWords.getD i ""), rfl, rfl, sq_of upd_same, ?_, ?_⟩
    · refine atI_nat ?_
      show (kWords.map V.str)[i]? = _
      rw [List.getElem?_map, List.getD_eq_getElem?_getD, List.getElem?_eq_getElem (show i < kWords.length from C.lt)]
      rfl
    refine ⟨_, rfl, sz 4 (by decide), fun t1 m1 => ?_⟩
    have e9 := e8.trans (Ex.new (o := .tup [.str "letter", .str "shut", .str "choice", .str "text"]) m1)
    have ha9 := e9 _ _ ha
    have six : 5 ≤ i → i = 5 ∨ i = 6 ∨ i = 7 ∨ i = 8 ∨ i = 9 ∨ i = 10 := fun h => by
      have := C.lt
      omega
    refine ⟨t1, _, rfl, .inr (st_of upd_same), rfl, rfl, _, rfl, ?_⟩
    refine ite2 (fun hin => ?_) (fun hno => ?_)
    · rcases hf with ⟨_, dd, rfl, hdd⟩ | ⟨rfl, _⟩ | ⟨h5, _⟩
      · exact ⟨_, rfl, _, rfl, a, _, dd, _, v, rfl, C.ec, C.noP, ha9, e9 _ _ hdd, rfl, sz 2 (by decide), fun p np => q p _ (e9.trans (Ex.new np)) (fresh_back e9 np) upd_same⟩
      · exact absurd hin (by decide)
      · rcases six h5 with rfl | rfl | rfl | rfl | rfl | rfl <;> exact absurd hin (by decide)
    · rcases hf with ⟨hi, _⟩ | ⟨rfl, dd, rfl, hdd⟩ | ⟨h5, rfl⟩
      · rcases hi with rfl | rfl | rfl | rfl <;> exact absurd (by decide) hno
      · exact ⟨_, rfl, _, rfl, rfl, _, rfl, iteT ⟨_, rfl, a, _, dd, _, v, rfl, C.ec, C.noS, ha9, e9 _ _ hdd, rfl, sz 2 (by decide), fun p np => q p _ (e9.trans (Ex.new np)) (fresh_back e9 np) upd_same⟩⟩
      · refine ⟨_, rfl, _, rfl, rfl, _, rfl, ite2 (fun z => ?_) (fun _ => ⟨sz 2 (by decide), fun p np => q p _ (e9.trans (Ex.new np)) (fresh_back e9 np) upd_same⟩)⟩
        have z' := V.str.inj (of_decide_eq_true z)
        rcases six h5 with rfl | rfl | rfl | rfl | rfl | rfl <;> exact absurd z' (by decide)
end
end Eh
set_option Elab.async false
set_option linter.all false
set_option maxRecDepth 100000
set_option maxHeartbeats 4000000
namespace Eh
open PySem PySem.Spec PyProof.Rows L2 Evl
/-- the first text that is no letter -/
def BadAt (L ws : List Str) (p : Nat) : Prop := ∃ x, ws[p]? = some x ∧ ¬ x ∈ L ∧ ∀ j y, j < p → ws[j]? = some y → y ∈ L
def AllIn (L ws : List Str) : Prop := ∀ x ∈ ws, x ∈ L
theorem lay_two {x : Str} (h : PyData.strOk x = true) (p : Int) : PyData.canLay0 (.tuple [.str x, .int p]) = true := by
  show (PyData.strOk x && (true && true)) = true
  rw [h]
  rfl
theorem shaped_two {x : Str} (h : PyData.strOk x = true) (p : Int) : SeqAt.shaped (.tuple [.str x, .int p]) = true := by
  unfold SeqAt.shaped
  rw [lay_two h]
  rfl
theorem BadAt.uniq {L A : List Str} {p q : Nat} (h1 : BadAt L A p) (h2 : BadAt L A q) : p = q := by
  obtain ⟨x, a1, a2, a3⟩ := h1
  obtain ⟨y, b1, b2, b3⟩ := h2
  rcases Nat.lt_trichotomy p q with h | h | h
  · exact absurd (b3 p x h a1) a2
  · exact h
  · exact absurd (a3 q y h b1) b2
theorem BadAt.no {L A : List Str} {p : Nat} (h1 : BadAt L A p) (h2 : AllIn L A) : False := by
  obtain ⟨x, a1, a2, a3⟩ := h1
  exact a2 (h2 x (List.mem_of_getElem? a1))
section
variable {P : Program} {w : World} {K : PySem.W.Frag} {mg : Str → Option Value} {base : Heap}
/-- a def that nobody may call -/
theorem fn_none {CX : CXT} {k : Nat} {f : Addr} {fd : FuncData} {ps : List Str} : FnOk P w K mg base CX k f fd ps (fun _ _ _ _ => False) := ⟨fun _ _ _ _ h => h.elim, fun _ _ _ _ _ _ _ _ _ _ _ _ _ h => h.elim⟩
/-- a word with what is no letter is refused -/
def spBad (K : PySem.W.Frag) (C0 : Addr) : Sp := fun vs H Q E => ∃ (s l : Addr) (os ps qs ws : List Str) (p : Nat), vs = [.ref s, .ref l] ∧ Sht os ps qs ∧ SheetAt H s os ps qs ∧ SqL K H l (ws.map V.str) ∧ ws.length ≤ 10000 ∧ BadAt (os ++ ps ++ qs) ws p ∧
  ∀ d H', Ex H H' → H' d = some (.xd [("place", .int (p : Int))]) → E (.ref C0) (some d) H'
abbrev nAnswers : List Str := ["sheet", "word", "told", "waiting", "place", "letter", "begun"]
theorem scAnswers : FnScope nAnswers ["sheet", "word"] (defScope sAnswers) := ⟨rfl, rfl, rfl, by decide +kernel, rfl, by decide +kernel, by decide +kernel⟩
theorem ok_AnswersB {f fN fA C0 : Addr} {fd fdN fdA : FuncData} {k : Nat} (F : Fun K "answers" "answers" sAnswers f fd) (FN : Fun K "need_word" "need_word" sNeedWord fN fdN) (GN : FnOk P w K mg base (L2.CX P w) (k + 1) fN fdN ["sheet", "word"] (spNeedWord K C0)) (bN : Binds K fdN ["sheet", "word"] []) (gN : mg "need_word" = some (.ref fN)) : FnOk P w K mg base (L2.CX P w) (k + 2) f fd ["sheet", "word"] (spBad K C0) := by
  have nd := scAnswers.nd
  refine F.okX scAnswers (fun vs H Q E h => ?_) (fun cdv A outer s H vs Q E hr h => ?_)
  · obtain ⟨s, l, os, ps, qs, ws, p, rfl, _⟩ := h
    rfl
  · obtain ⟨s, l, os, ps, qs, ws, p, rfl, hS, hs, hl, hlen, hb, q⟩ := h
    refine ⟨_, pss_cons (ps_expr (pe_call (E := E) GN hr (by rfl) gN FN.kp bN .nil (passes_call (takes_of rfl rfl rfl rfl) fun _ _ _ _ z => z) (pa_cons (pv 0) (pa_cons (pv 1) pa_nil)))) pss_never, ?_⟩
    exact ⟨_, rfl, _, rfl, s, l, os, ps, qs, ws, rfl, hS, hs, hl, hlen, fun g => (hb.no g).elim, fun p' x h1 h2 h3 d H' e hd => q d H' e (by rw [hb.uniq ⟨x, h1, h2, h3⟩]; exact hd)⟩
abbrev nDepthOf : List Str := ["sheet", "word", "depth", "waiting", "letter"]
theorem scDepthOf : FnScope nDepthOf ["sheet", "word"] (defScope sDepthOf) := ⟨rfl, rfl, rfl, by decide +kernel, rfl, by decide +kernel, by decide +kernel⟩
theorem ok_DepthOfB {f fN fA C0 : Addr} {fd fdN fdA : FuncData} {k : Nat} (F : Fun K "depth_of" "depth_of" sDepthOf f fd) (FN : Fun K "need_word" "need_word" sNeedWord fN fdN) (GN : FnOk P w K mg base (L2.CX P w) (k + 1) fN fdN ["sheet", "word"] (spNeedWord K C0)) (bN : Binds K fdN ["sheet", "word"] []) (gN : mg "need_word" = some (.ref fN)) : FnOk P w K mg base (L2.CX P w) (k + 2) f fd ["sheet", "word"] (spBad K C0) := by
  have nd := scDepthOf.nd
  refine F.okX scDepthOf (fun vs H Q E h => ?_) (fun cdv A outer s H vs Q E hr h => ?_)
  · obtain ⟨s, l, os, ps, qs, ws, p, rfl, _⟩ := h
    rfl
  · obtain ⟨s, l, os, ps, qs, ws, p, rfl, hS, hs, hl, hlen, hb, q⟩ := h
    refine ⟨_, pss_cons (ps_expr (pe_call (E := E) GN hr (by rfl) gN FN.kp bN .nil (passes_call (takes_of rfl rfl rfl rfl) fun _ _ _ _ z => z) (pa_cons (pv 0) (pa_cons (pv 1) pa_nil)))) pss_never, ?_⟩
    exact ⟨_, rfl, _, rfl, s, l, os, ps, qs, ws, rfl, hS, hs, hl, hlen, fun g => (hb.no g).elim, fun p' x h1 h2 h3 d H' e hd => q d H' e (by rw [hb.uniq ⟨x, h1, h2, h3⟩]; exact hd)⟩
abbrev nNeedShut : List Str := ["sheet", "word", "told", "wrong"]
theorem scNeedShut : FnScope nNeedShut ["sheet", "word"] (defScope sNeedShut) := ⟨rfl, rfl, rfl, by decide +kernel, rfl, by decide +kernel, by decide +kernel⟩
theorem ok_NeedShutB {f fN fA C0 : Addr} {fd fdN fdA : FuncData} {k : Nat} (F : Fun K "need_shut" "need_shut" sNeedShut f fd) (FN : Fun K "answers" "answers" sAnswers fN fdN) (GN : FnOk P w K mg base (L2.CX P w) (k + 1) fN fdN ["sheet", "word"] (spBad K C0)) (bN : Binds K fdN ["sheet", "word"] []) (gN : mg "answers" = some (.ref fN)) : FnOk P w K mg base (L2.CX P w) (k + 2) f fd ["sheet", "word"] (spBad K C0) := by
  have nd := scNeedShut.nd
  refine F.okX scNeedShut (fun vs H Q E h => ?_) (fun cdv A outer s H vs Q E hr h => ?_)
  · obtain ⟨s, l, os, ps, qs, ws, p, rfl, _⟩ := h
    rfl
  · obtain ⟨s, l, os, ps, qs, ws, p, rfl, hS, hs, hl, hlen, hb, q⟩ := h
    refine ⟨_, pss_cons (ps_set (i := 2) nd rfl (.inl rfl) (pe_call (E := E) GN hr (by rfl) gN FN.kp bN .nil (passes_call (takes_of rfl rfl rfl rfl) fun _ _ _ _ z => z) (pa_cons (pv 0) (pa_cons (pv 1) pa_nil)))) pss_never, ?_⟩
    exact ⟨_, rfl, _, rfl, s, l, os, ps, qs, ws, p, rfl, hS, hs, hl, hlen, hb, q⟩
abbrev nBoughs : List Str := ["sheet", "word", "levels", "begun", "letter", "within"]
theorem scBoughs : FnScope nBoughs ["sheet", "word"] (defScope sBoughs) := ⟨rfl, rfl, rfl, by decide +kernel, rfl, by decide +kernel, by decide +kernel⟩
theorem ok_BoughsB {f fN fA C0 : Addr} {fd fdN fdA : FuncData} {k : Nat} (F : Fun K "boughs" "boughs" sBoughs f fd) (FN : Fun K "need_shut" "need_shut" sNeedShut fN fdN) (GN : FnOk P w K mg base (L2.CX P w) (k + 1) fN fdN ["sheet", "word"] (spBad K C0)) (bN : Binds K fdN ["sheet", "word"] []) (gN : mg "need_shut" = some (.ref fN)) : FnOk P w K mg base (L2.CX P w) (k + 2) f fd ["sheet", "word"] (spBad K C0) := by
  have nd := scBoughs.nd
  refine F.okX scBoughs (fun vs H Q E h => ?_) (fun cdv A outer s H vs Q E hr h => ?_)
  · obtain ⟨s, l, os, ps, qs, ws, p, rfl, _⟩ := h
    rfl
  · obtain ⟨s, l, os, ps, qs, ws, p, rfl, hS, hs, hl, hlen, hb, q⟩ := h
    refine ⟨_, pss_cons (ps_expr (pe_call (E := E) GN hr (by rfl) gN FN.kp bN .nil (passes_call (takes_of rfl rfl rfl rfl) fun _ _ _ _ z => z) (pa_cons (pv 0) (pa_cons (pv 1) pa_nil)))) pss_never, ?_⟩
    exact ⟨_, rfl, _, rfl, s, l, os, ps, qs, ws, p, rfl, hS, hs, hl, hlen, hb, q⟩
abbrev nIsShut : List Str := ["sheet", "word"]
theorem scIsShut : FnScope nIsShut ["sheet", "word"] (defScope sIsShut) := ⟨rfl, rfl, rfl, by decide +kernel, rfl, by decide +kernel, by decide +kernel⟩
theorem ok_IsShutB {f fN fA C0 : Addr} {fd fdN fdA : FuncData} {k : Nat} (F : Fun K "is_shut" "is_shut" sIsShut f fd) (FN : Fun K "answers" "answers" sAnswers fN fdN) (GN : FnOk P w K mg base (L2.CX P w) (k + 1) fN fdN ["sheet", "word"] (spBad K C0)) (bN : Binds K fdN ["sheet", "word"] []) (gN : mg "answers" = some (.ref fN)) (FA : Fun K "alone" "alone" sAlone fA fdA) (bA : Binds K fdA ["sheet", "word", "told"] []) (gA : mg "alone" = some (.ref fA)) : FnOk P w K mg base (L2.CX P w) (k + 2) f fd ["sheet", "word"] (spBad K C0) := by
  have nd := scIsShut.nd
  refine F.okX scIsShut (fun vs H Q E h => ?_) (fun cdv A outer s H vs Q E hr h => ?_)
  · obtain ⟨s, l, os, ps, qs, ws, p, rfl, _⟩ := h
    rfl
  · obtain ⟨s, l, os, ps, qs, ws, p, rfl, hS, hs, hl, hlen, hb, q⟩ := h
    refine ⟨_, pss_one (ps_ret (pe_notT (pe_call (E := E0) (fn_none (CX := CX0) (k := k + 1) (f := fA) (fd := fdA) (ps := ["sheet", "word", "told"])) hr (by rfl) gA FA.kp bA .nil pass0 (pa_cons (pv 0) (pa_cons (pv 1) (pa_cons (pe_call (E := E) GN hr (by rfl) gN FN.kp bN .nil (passes_call (takes_of rfl rfl rfl rfl) fun _ _ _ _ z => z) (pa_cons (pv 0) (pa_cons (pv 1) pa_nil))) pa_nil)))))), ?_⟩
    exact ⟨_, rfl, _, rfl, _, rfl, _, rfl, s, l, os, ps, qs, ws, p, rfl, hS, hs, hl, hlen, hb, q⟩
abbrev nTold : List Str := ["way", "sheet", "word", "caught", "e"]
theorem scTold : FnScope nTold ["way", "sheet", "word"] (defScope sTold) := ⟨rfl, rfl, rfl, by decide +kernel, rfl, by decide +kernel, by decide +kernel⟩
def spTold (K : PySem.W.Frag) : Sp := fun vs H Q _ => ∃ (s l : Addr) (os ps qs ws : List Str) (p way : Nat), vs = [.int (way : Int), .ref s, .ref l] ∧ way < 4 ∧ Sht os ps qs ∧ SheetAt H s os ps qs ∧ SqL K H l (ws.map V.str) ∧ ws.length ≤ 10000 ∧ BadAt (os ++ ps ++ qs) ws p ∧
  ∀ t H', Ex H H' → H' t = some (.tup [.str "letter", .int (p : Int)]) → Q (.ref t) H'
/-- one of the four -/
def OneOf (P : Program) (w : World) (K : PySem.W.Frag) (mg : Str → Option Value) (base : Heap) (k : Nat) (C0 : Addr) (name : Str) (f : Addr) : Prop := mg name = some (.ref f) ∧ ∃ (fd : FuncData) (ps : List Str), FnOk P w K mg base (L2.CX P w) k f fd ps (spBad K C0) ∧ PySem.W.keepIn K (.ref f) = true ∧ Binds K fd ps []
theorem ok_told {f f1 f2 f3 f4 fK CH : Addr} {cs : List Addr} {fd fdK : FuncData} {k : Nat} (F : Fun K "_law_told" "_law_told" sTold f fd) (A1 : OneOf P w K mg base (k + 1) (cs.getD 0 0) "answers" f1) (A2 : OneOf P w K mg base (k + 1) (cs.getD 0 0) "is_shut" f2) (A3 : OneOf P w K mg base (k + 1) (cs.getD 0 0) "depth_of" f3) (A4 : OneOf P w K mg base (k + 1) (cs.getD 0 0) "boughs" f4)
    (FK : Fun K "_law_kind" "_law_kind" sKind fK fdK) (bK : Binds K fdK ["caught"] []) (gK : mg "_law_kind" = some (.ref fK)) (M : KindM mg CH cs) (C1 : KindC K CH cs 0) (hx : PySem.W.exmOne K (.ref (cs.getD 0 0)) (.ref CH) = some true) : FnOk P w K mg base CX0 (k + 2) f fd ["way", "sheet", "word"] (spTold K) := by
  have nd := scTold.nd
  have GK : FnOk P w K mg base CX0 (k + 1) fK fdK ["caught"] (spKind K CH cs) := ok_kind FK M
  obtain ⟨g1, a1⟩ := A1
  obtain ⟨g2, a2⟩ := A2
  obtain ⟨g3, a3⟩ := A3
  obtain ⟨g4, a4⟩ := A4
  refine F.ok scTold (fun vs H Q E h => ?_) (fun cdv A outer s H vs Q E hr h => ?_)
  · obtain ⟨s, l, os, ps, qs, ws, p, way, rfl, _⟩ := h
    rfl
  · obtain ⟨s, l, os, ps, qs, ws, p, way, rfl, hway, hS, hs, hl, hlen, hb, q⟩ := h
    have AA : ∀ g sp, (if g = f1 ∨ g = f2 ∨ g = f3 ∨ g = f4 then some (spBad K (cs.getD 0 0)) else none) = some sp → ∃ (fd : FuncData) (ps : List Str), FnOk P w K mg base (L2.CX P w) (k + 1) g fd ps sp ∧ PySem.W.keepIn K (.ref g) = true ∧ Binds K fd ps [] := fun g sp e => by
      split at e
      · rename_i hg
        cases e
        rcases hg with rfl | rfl | rfl | rfl
        · exact a1
        · exact a2
        · exact a3
        · exact a4
      · cases e
    refine ⟨_, pss_cons (ps_set (i := 3) nd rfl (.inl rfl) pe_non)
      (pss_cons (ps_try_keep (i := 4) rfl rfl rfl nd rfl rfl ⟨rfl, by decide, .inl M.gH⟩ (fun W pn xe tk _ => pss_one (ps_expr (pe_callE (te := tOp (rIxL K) (tLst (tCons (tC (.ref f1)) (tCons (tC (.ref f2)) (tCons (tC (.ref f3)) (tCons (tC (.ref f4)) tNil))))) (tVar 0)) AA hr (fun σ => passAt tk σ) (pe_ix ix_list (pe_lst (pa_cons (pe_glob (v := .ref f1) rfl g1 rfl) (pa_cons (pe_glob (v := .ref f2) rfl g2 rfl) (pa_cons (pe_glob (v := .ref f3) rfl g3 rfl) (pa_cons (pe_glob (v := .ref f4) rfl g4 rfl) pa_nil))))) (pv 0) (fun _ _ => rfl)) (pa_cons (pv 1) (pa_cons (pv 2) pa_nil))))) (fun a oe cls d pn hz hf => pss_one (ps_set (i := 3) nd rfl (.inl rfl) (pv 4))))
      (pss_cons (ps_if (pt_cmpR op_isN (pv 3) pe_non (nomark _)) (pss_one (ps_ret pe_non)) pss_nil)
      (pss_one (ps_ret (pe_call GK hr (by rfl) gK FK.kp bK .nil pass0 (pa_cons (pv 3) pa_nil)))))), ?_⟩
    refine ⟨(by show 4 ≤ sizeLine; decide), fun m nm => ?_⟩
    obtain ⟨g, hg, hat⟩ : ∃ g, (g = f1 ∨ g = f2 ∨ g = f3 ∨ g = f4) ∧ atI [V.ref f1, .ref f2, .ref f3, .ref f4] (way : Int) = some (.ref g) := by
      rcases (show way = 0 ∨ way = 1 ∨ way = 2 ∨ way = 3 by omega) with rfl | rfl | rfl | rfl
      · exact ⟨f1, .inl rfl, rfl⟩
      · exact ⟨f2, .inr (.inl rfl), rfl⟩
      · exact ⟨f3, .inr (.inr (.inl rfl)), rfl⟩
      · exact ⟨f4, .inr (.inr (.inr rfl)), rfl⟩
    have e1 : Ex H _ := Ex.new (o := .lst [.ref f1, .ref f2, .ref f3, .ref f4]) nm
    refine ⟨_, rfl, m, _, _, _, rfl, rfl, sq_of upd_same, hat, g, _, rfl, if_pos hg, _, rfl, _, rfl, s, l, os, ps, qs, ws, p, rfl, hS, hs.ex e1, ex_l e1 hl, hlen, hb, fun d H' eH hd => ?_⟩
    refine ⟨hx, fun x nx => ⟨_, rfl, _, rfl, rfl, _, rfl, iteF ⟨_, rfl, x, some d, 0, .int (p : Int), rfl, C1, upd_same, ?_, ?_, fun t H2 e2 nt ht => q t H2 (((e1.trans eH).trans (Ex.new nx)).trans e2) ht⟩⟩⟩
    · exact ⟨_, Ex.new nx _ _ hd⟩
    · exact .inl ⟨.inl rfl, d, rfl, Ex.new nx _ _ hd⟩
end
end Eh
set_option Elab.async false
set_option linter.all false
set_option maxRecDepth 100000
set_option maxHeartbeats 4000000
namespace Eh
open PySem PySem.Spec PyProof.Rows L2 Evl
theorem lS_add (ws : List Str) (x : Str) : HO.lst (ws.map V.str ++ [.str x]) = lS (ws ++ [x]) := by
  unfold lS
  rw [List.map_append]
  rfl
theorem draw_ordJ {K : PySem.W.Frag} {p c r : Addr} {ns : List Int} {H : Hp} {σ : L2.St} {ys : List Str} {Q : VK} {j jp : Nat} (hP : Pot p c ns H) (h0 : σ[jp]? = some (some (.ref p))) (hj : σ[j]? = some (some (.ref r))) (hy : H r = some (lS ys)) (y0 : ys ≠ []) (y1 : ys.length ≤ 1000)
    (k : ∀ x H', x ∈ ys → Keep p H H' → Pot p c ns H' → Q (.str x) H') : tOp (rIxL K) (tVar j) (tCall spPick [] E0 (tCons (tVar jp) (tCons (tCB (rLenS K) (tCons (tVar j) tNil)) tNil))) σ H Q := by
  have hl : 0 < ys.length := by
    cases ys with
    | nil => exact absurd rfl y0
    | cons _ _ => exact Nat.succ_pos _
  refine ⟨_, hj, _, h0, _, hj, r, _, rfl, .inl (sq_of hy), p, c, ns, _, rfl, ?_, ?_, hP, fun v H' hv kp hP' => ?_⟩
  · rw [List.length_map]
    omega
  · rw [List.length_map]
    omega
  · rw [List.length_map] at hv
    have hv' : v < ys.length := by omega
    refine ⟨r, _, _, .str ys[v], rfl, rfl, sq_of (kp _ _ (lS_ne hP hy) hy), atI_nat ?_, k _ H' (List.getElem_mem hv') kp hP'⟩
    rw [List.getElem?_map, List.getElem?_eq_getElem hv']
    rfl
theorem Sht.n0 {os ps qs : List Str} (hS : Sht os ps qs) : os ++ ps ++ qs ≠ [] := fun z => by
  have h1 := hS.o1
  have := congrArg List.length z
  rw [List.length_append, List.length_append] at this
  simp only [List.length_nil] at this
  omega
theorem Sht.n12 {os ps qs : List Str} (hS : Sht os ps qs) : (os ++ ps ++ qs).length ≤ 12 := by
  rw [List.length_append, List.length_append]
  have := hS.o4
  have := hS.p4
  have := hS.c4
  omega
theorem flat_str (ws : List Str) : (ws.map V.str).all flatV = true := by
  rw [List.all_eq_true]
  intro z hz
  obtain ⟨b, _, rfl⟩ := List.mem_map.mp hz
  rfl
theorem str_at {W : List Str} {p : Nat} {x : Str} (h : W[p]? = some x) : atI (W.map V.str) (p : Int) = some (.str x) := by
  refine atI_nat ?_
  rw [List.getElem?_map, h]
  rfl
end Eh
set_option Elab.async false
set_option linter.all false
set_option maxRecDepth 100000
set_option maxHeartbeats 4000000
namespace Eh
open PySem PySem.Spec PyProof.Rows L2 Evl
abbrev nStrange : List Str := ["sheet", "order", "some", "k", "one"]
theorem scStrange : FnScope nStrange ["sheet"] (defScope sStrange) := ⟨rfl, rfl, rfl, by decide +kernel, rfl, by decide +kernel, by decide +kernel⟩
abbrev rRepS : R2 := fun x y H Q => ∃ (z : Str) (n : Nat), x = .str z ∧ y = .int (n : Int) ∧ z.length ≤ 1000 ∧ n ≤ 1000 ∧ Q (.str (repS z n)) H
abbrev rLenT : List V → Hp → VK → Prop := fun xs H Q => ∃ x, xs = [.str x] ∧ x.length ≤ sizeLine ∧ Q (.int (x.length : Nat)) H
abbrev rLtI : R2 := rI0 fun i j => .bl (decide (i < j))
theorem rv_repS {z : Str} {n : Nat} {H : Hp} (hz : z.length ≤ 1000) (hn : n ≤ 1000) : RV rRepS (.str z) (.int (n : Int)) H (.str (repS z n)) := fun H1 _ _ q => ⟨z, n, rfl, rfl, hz, hn, q H1 (Ex.refl H1)⟩
/-- more things than places -/
theorem pigeon : ∀ (xs L : List Str), xs.Nodup → (∀ x ∈ xs, x ∈ L) → xs.length ≤ L.length
  | [], L, _, _ => Nat.zero_le _
  | x :: r, L, hn, h => by
    obtain ⟨h1, h2⟩ := List.nodup_cons.mp hn
    have hx := h x (List.mem_cons_self ..)
    have ih := pigeon r (L.erase x) h2 fun y hy => by
      have hne : y ≠ x := fun e => h1 (e ▸ hy)
      exact (List.mem_erase_of_ne hne).mpr (h y (List.mem_cons_of_mem _ hy))
    rw [List.length_erase_of_mem hx] at ih
    have := List.length_pos_of_mem hx
    rw [List.length_cons]
    omega
def qv : List Str := (List.range 8).map (fun k => repS "q" (k + 1)) ++ (List.range 8).map (fun k => repS "v" (k + 1))
theorem qv_nodup : qv.Nodup := by decide +kernel
theorem qv_len : ∀ x ∈ qv, 0 < x.length ∧ x.length < 9 := by decide +kernel
theorem qv_out {L : List Str} (h : L.length ≤ 12) : ∃ x ∈ qv, ¬ x ∈ L := by
  apply Classical.byContradiction
  intro hn
  have := pigeon qv L qv_nodup fun x hx => Classical.byContradiction fun z => hn ⟨x, hx, z⟩
  have e : qv.length = 16 := by decide +kernel
  omega
def okOdd (L : List Str) (z : Str) : Bool := !decide (z ∈ L) && (decide (0 < z.length) && decide (z.length < 9))
theorem inV_s (x : Str) (L : List Str) : inV (.str x) (L.map V.str) = decide (x ∈ L) := by
  unfold inV
  rw [List.any_map, Bool.eq_iff_iff, List.any_eq_true, decide_eq_true_iff]
  constructor
  · rintro ⟨y, hy, h⟩
    have : (y == x) = true := h
    rw [← beq_iff_eq.mp this]
    exact hy
  · intro h
    exact ⟨x, h, beq_self_eq_true x⟩
theorem odd_rd {K : PySem.W.Frag} {L : List Str} {r : Addr} {z : Str} {H : Hp} {σ : L2.St} (hr : SqL K H r (L.map V.str)) (h1 : σ[1]? = some (some (.ref r))) (h4 : σ[4]? = some (some (.str z))) (hz : z.length ≤ 100) : EvT (tAnd (tTest (tOp (rIn K true) (tVar 4) (tVar 1))) (tTest (tChain rLtI rLtI (tC (.int 0)) (tCB rLenT (tCons (tVar 4) tNil)) (tC (.int 9))))) σ H (okOdd L z) := by
  refine et_and (et_is (et_test (ev_op (ev_var h4) (ev_var h1) (rv_niL hr rfl (flat_str L)))) (by rw [inV_s])) fun _ => ?_
  refine et_test fun H1 e1 Q q => ?_
  have hs : z.length ≤ sizeLine := Nat.le_trans hz (by decide)
  refine ⟨_, h4, z, rfl, hs, _, _, rfl, rfl, _, rfl, ?_⟩
  by_cases h0 : 0 < z.length
  · rw [decide_eq_true (show (0 : Int) < ((z.length : Nat) : Int) by omega)]
    have e9 : decide (((z.length : Nat) : Int) < 9) = decide (z.length < 9) := decide_eq_decide.mpr (by omega)
    refine ⟨_, _, rfl, rfl, ?_⟩
    have := q H1 (Ex.refl _)
    rw [decide_eq_true h0, Bool.true_and, ← e9] at this
    exact this
  · rw [decide_eq_false (show ¬ (0 : Int) < ((z.length : Nat) : Int) by omega)]
    have := q H1 (Ex.refl _)
    rw [decide_eq_false h0, Bool.false_and] at this
    exact this
section
variable {P : Program} {w : World} {K : PySem.W.Frag} {mg : Str → Option Value} {base : Heap}
theorem cut_len (z : Str) (lo hi : Option Int) : (cutS z lo hi).length ≤ z.length := by
  show ((z.cps.toList.drop (HT.sIx z.length 0 lo)).take (HT.sIx z.length z.length hi - HT.sIx z.length 0 lo)).toArray.size ≤ z.cps.size
  simp only [List.size_toArray, List.length_take, List.length_drop, Array.length_toList]
  omega
theorem given_all (n : Nat) (g : Nat → Str) : given n (fun _ => true) (fun k => .str (g k)) = ((List.range n).map g).map V.str := by
  unfold given
  rw [List.filter_eq_self.mpr (fun _ _ => rfl), List.map_map]
  rfl
theorem given_mapS (xs : List Str) (f : Str → Bool) : given xs.length (fun i => f (xs.getD i "")) (fun i => .str (xs.getD i "")) = (xs.filter f).map V.str := by
  have e : (List.range xs.length).map (fun i => xs.getD i "") = xs := by
    apply List.ext_getElem
    · rw [List.length_map, List.length_range]
    · intro i h1 h2
      rw [List.getElem_map, List.getElem_range, List.getD_eq_getElem?_getD, List.getElem?_eq_getElem h2]
      rfl
  unfold given
  conv => rhs; rw [← e]
  rw [List.filter_map, List.map_map]
  rfl
theorem Ltr.len8 {x : Str} (h : Ltr x) : x.length ≤ 8 := by
  rw [len_cs]
  exact h.2.2
def spStrange : Sp := fun vs H Q _ => ∃ (s : Addr) (os ps qs : List Str), vs = [.ref s] ∧ Sht os ps qs ∧ SheetAt H s os ps qs ∧ ∀ (z : Str) H', ¬ z ∈ os ++ ps ++ qs → Ex H H' → Q (.str z) H'
theorem ok_strange {f fO : Addr} {fd fdO : FuncData} {k : Nat} (F : Fun K "_law_strange" "_law_strange" sStrange f fd) (FO : Fun K "_law_order" "_law_order" sOrder fO fdO) (GO : FnOk P w K mg base CX0 (k + 1) fO fdO ["sheet"] spOrder) (bO : Binds K fdO ["sheet"] []) (gO : mg "_law_order" = some (.ref fO)) (ml : mg "len" = none) (mr : mg "range" = none) : FnOk P w K mg base CX0 (k + 2) f fd ["sheet"] spStrange := by
  have nd := scStrange.nd
  refine F.ok scStrange (fun vs H Q E h => ?_) (fun cdv A outer s H vs Q E hr h => ?_)
  · obtain ⟨s, os, ps, qs, rfl, _⟩ := h
    rfl
  · obtain ⟨s, os, ps, qs, rfl, hS, hs, q⟩ := h
    refine ⟨_, pss_cons (ps_set (i := 1) nd rfl (.inr rfl) (pe_call GO hr (by rfl) gO FO.kp bO .nil pass0 (pa_cons (pv 0) pa_nil)))
      (pss_cons (ps_set (i := 2) nd rfl (.inl rfl) (pe_op op_cat (pe_lst (pa_cons (pe_slice sl_str (pe_ix ix_list (pv 1) (pe_un un_neg pe_int) (fun _ _ => rfl)) (po_some pe_int) po_none) (pa_cons (pe_op op_add_str (pe_ix ix_list (pv 1) pe_int (fun _ _ => rfl)) pe_str) (pa_cons (pe_slice sl_str (pe_ix ix_list (pv 1) pe_int (fun _ _ => rfl)) po_none (po_some (pe_un un_neg pe_int))) pa_nil))))
        (pe_lc (own := [("k", 3)]) (g := gName 3) (tt := tYes) (te := tOp rRepS (tC (.str "q")) (tOp (rI0 fun i j => .int (i + j)) (tVar 3) (tC (.int 1)))) rfl nd (pi_range1 (by rfl) mr (pa_cons pe_int pa_nil)) (blkOk_by (own := [("k", 3)]) (N := nStrange) (sc := defScope sStrange) (by decide +kernel)) (fun _ _ _ _ _ => pg_name (i := 3) nd rfl (Or.inl rfl)) (fun _ _ _ _ _ => pts_nil) (fun _ _ _ _ _ => pe_op op_repS pe_str (pe_op op_add (pv 3) pe_int)))))
      (pss_cons (ps_set (i := 2) nd rfl (.inl rfl) (pe_op op_cat (pv 2)
        (pe_lc (own := [("k", 3)]) (g := gName 3) (tt := tYes) (te := tOp rRepS (tC (.str "v")) (tOp (rI0 fun i j => .int (i + j)) (tVar 3) (tC (.int 1)))) rfl nd (pi_range1 (by rfl) mr (pa_cons pe_int pa_nil)) (blkOk_by (own := [("k", 3)]) (N := nStrange) (sc := defScope sStrange) (by decide +kernel)) (fun _ _ _ _ _ => pg_name (i := 3) nd rfl (Or.inl rfl)) (fun _ _ _ _ _ => pts_nil) (fun _ _ _ _ _ => pe_op op_repS pe_str (pe_op op_add (pv 3) pe_int)))))
      (pss_one (ps_ret (pe_ix ix_list (pe_lc (own := [("one", 4)]) (g := gName 4) (tt := tAnd (tTest (tOp (rIn K true) (tVar 4) (tVar 1))) (tTest (tChain rLtI rLtI (tC (.int 0)) (tCB rLenT (tCons (tVar 4) tNil)) (tC (.int 9))))) (te := tVar 4) rfl nd (pi_list (pv 2)) (blkOk_by (own := [("one", 4)]) (N := nStrange) (sc := defScope sStrange) (by decide +kernel)) (fun _ _ _ _ _ => pg_name (i := 4) nd rfl (Or.inl rfl)) (fun _ _ _ _ _ => pts_one (PW.pt (pw_and (pt_cmpR op_notIn_seq (pv 4) (pv 1) (by rfl)) (pw_and1 (pt_chain op_lt op_lt pe_int (pe_callB call_len_str (by rfl) ml PySem.boot_len (pa_cons (pv 4) pa_nil)) pe_int))))) (fun _ _ _ _ _ => pv 4)) pe_int (fun _ _ => rfl)))))), ?_⟩
    have y1 := hS.n12
    have n0 := hS.n0
    have lt8 := hS.lt
    generalize hL : os ++ ps ++ qs = L at y1 n0 lt8 q ⊢
    refine ⟨_, rfl, s, os, ps, qs, rfl, hS, hs, fun r H1 e1 nr hr1 => ?_⟩
    rw [hL] at hr1
    obtain ⟨x0, L0, hx0⟩ : ∃ x0 L0, L = x0 :: L0 := by
      cases L with
      | nil => exact absurd rfl n0
      | cons a b => exact ⟨a, b, rfl⟩
    obtain ⟨xl, hxl⟩ : ∃ xl, L = L.dropLast ++ [xl] := ⟨L.getLast n0, (List.dropLast_concat_getLast n0).symm⟩
    have hf0 : atI (L.map V.str) 0 = some (.str x0) := by
      rw [hx0]
      exact (show atI _ ((0 : Nat) : Int) = _ from atI_nat rfl)
    have hfl : atI (L.map V.str) (-1) = some (.str xl) := by
      rw [hxl, List.map_append]
      exact atI_last _ _
    have h0 : x0.length ≤ 8 := (lt8 x0 (by rw [hx0]; exact List.mem_cons_self ..)).len8
    have hl8 : xl.length ≤ 8 := (lt8 xl (by rw [hxl]; exact List.mem_append_right _ (List.mem_singleton.mpr rfl))).len8
    have sz : ∀ n : Nat, n ≤ 1000 → n ≤ sizeLine := fun n h => Nat.le_trans h (by decide)
    have la : Str.length (Str.ofString "a") = 1 := by decide +kernel
    have lc : (x0 ++ Str.ofString "a").length = x0.length + 1 := by
      rw [len_cs, cs_app, List.length_append, ← len_cs, ← len_cs, la]
    refine ⟨_, rfl, 1, rfl, r, _, -1, .str xl, rfl, rfl, sq_of hr1, hfl, _, rfl, xl, rfl, sz _ (by omega), ?_⟩
    have k1 := cut_len xl (some 1) none
    generalize cutS xl (some 1) none = c1 at k1
    refine ⟨_, rfl, r, _, 0, .str x0, rfl, rfl, sq_of hr1, hf0, _, _, rfl, rfl, sz _ (by rw [la]; omega), ?_⟩
    generalize hc2 : x0 ++ Str.ofString "a" = c2 at lc
    refine ⟨_, rfl, r, _, 0, .str x0, rfl, rfl, sq_of hr1, hf0, 1, rfl, _, rfl, x0, rfl, sz _ (by omega), ?_⟩
    have k3 := cut_len x0 none (some (-1))
    generalize cutS x0 none (some (-1)) = c3 at k3
    refine ⟨sz 3 (by decide), fun l1 n1 => ?_⟩
    have x1 : Ex H1 _ := Ex.new (o := lS [c1, c2, c3]) n1
    refine (el_lcR1 (fun _ => true) (fun k => .str (repS "q" (k + 1))) (ea_cons ev_c ea_nil) ⟨by decide, by decide⟩ (fun x => rfl) (fun i H2 e2 hi H3 _ Q q => q H3 (Ex.refl _)) (fun i H2 e2 hi _ => ev_op ev_c (ev_op (ev_var rfl) ev_c rv_I0) (rv_repS (n := i + 1) (by decide +kernel) (by omega)))) _ (Ex.refl _) _ fun p2 H2 np2 e2 hp2 => ?_
    rw [show (8 : Int).toNat = 8 from rfl, given_all] at hp2
    refine ⟨l1, p2, _, _, rfl, rfl, e2 _ _ upd_same, hp2, sz _ (by rw [List.length_map, List.length_map]; show 3 + 8 ≤ 1000; decide), fun l3 n3 => ?_⟩
    have x3 : Ex H1 _ := (x1.trans e2).trans (Ex.new (o := lS ([c1, c2, c3] ++ (List.range 8).map fun k => repS "q" (k + 1))) n3)
    have e3 : Ex H _ := e1.trans x3
    refine ⟨_, rfl, ?_⟩
    refine (el_lcR1 (fun _ => true) (fun k => .str (repS "v" (k + 1))) (ea_cons ev_c ea_nil) ⟨by decide, by decide⟩ (fun x => rfl) (fun i H4 e4 hi H5 _ Q q => q H5 (Ex.refl _)) (fun i H4 e4 hi _ => ev_op ev_c (ev_op (ev_var rfl) ev_c rv_I0) (rv_repS (n := i + 1) (by decide +kernel) (by omega)))) _ (Ex.refl _) _ fun p4 H4 np4 e4 hp4 => ?_
    rw [show (8 : Int).toNat = 8 from rfl, given_all] at hp4
    have h34 : H4 l3 = some (lS ([c1, c2, c3] ++ (List.range 8).map fun k => repS "q" (k + 1))) := e4 _ _ (by rw [upd_same]; rfl)
    refine ⟨l3, p4, _, _, rfl, rfl, h34, hp4, sz _ (by rw [List.length_map, List.length_map, List.length_append, List.length_map]; show 3 + 8 + 8 ≤ 1000; decide), fun l5 n5 => ?_⟩
    rw [show (([c1, c2, c3] ++ (List.range 8).map fun k => repS "q" (k + 1)).map V.str ++ ((List.range 8).map fun k => repS "v" (k + 1)).map V.str) = ([c1, c2, c3] ++ qv).map V.str by rw [← List.map_append, List.append_assoc]; rfl]
    have x5 : Ex H _ := (e3.trans e4).trans (Ex.new (o := lS ([c1, c2, c3] ++ qv)) n5)
    have hr5 : SqL K _ r (L.map V.str) := sq_of ((x3.trans e4).trans (Ex.new (o := lS ([c1, c2, c3] ++ qv)) n5) _ _ hr1)
    have hcl : ∀ z ∈ [c1, c2, c3] ++ qv, z.length ≤ 100 := fun z hz => by
      rcases List.mem_append.mp hz with a | a
      · rcases List.mem_cons.mp a with a | a
        · rw [a]
          omega
        · rcases List.mem_cons.mp a with a | a
          · rw [a]
            omega
          · rw [List.mem_singleton.mp a]
            omega
      · have := (qv_len z a).2
        omega
    generalize hcand : [c1, c2, c3] ++ qv = cand at n5 x5 hr5 hcl ⊢
    have hcz : (cand.map V.str).length ≤ 40000 := by
      rw [List.length_map, ← hcand]
      show 3 + 16 ≤ 40000
      decide
    show tRet (tOp (rIxL K) (tLc (iList K (tVar 2)) (gName 4) (tAnd (tTest (tOp (rIn K true) (tVar 4) (tVar 1))) (tTest (tChain rLtI rLtI (tC (.int 0)) (tCB rLenT (tCons (tVar 4) tNil)) (tC (.int 9))))) (tVar 4) [4]) (tC (.int 0))) _ [some (.ref s), some (.ref r), some (.ref l5), none, none] (upd H4 l5 (.lst (cand.map V.str)))
    unfold tRet
    refine (el_lcL (K := K) (j := 4) (vs := [4]) (σ := [some (.ref s), some (.ref r), some (.ref l5), none, none]) (xs := cand.map V.str) (fun i => okOdd L (cand.getD i "")) (fun i => .str (cand.getD i "")) (ev_var rfl) (sq_of upd_same) hcz (fun x => rfl) (fun i x H6 e6 hx => ?_) (fun i x H6 e6 hx _ => ?_)) _ (Ex.refl _) _ fun p7 H7 np7 e7 hp7 => ?_
    · rw [List.getElem?_map] at hx
      obtain ⟨z, hz, rfl⟩ := Option.map_eq_some_iff.mp hx
      rw [show cand.getD i "" = z by rw [List.getD_eq_getElem?_getD, hz]; rfl]
      exact odd_rd (ex_l e6 hr5) rfl rfl (hcl z (List.mem_of_getElem? hz))
    · rw [List.getElem?_map] at hx
      obtain ⟨z, hz, rfl⟩ := Option.map_eq_some_iff.mp hx
      rw [show cand.getD i "" = z by rw [List.getD_eq_getElem?_getD, hz]; rfl]
      exact ev_var rfl
    rw [List.length_map, given_mapS] at hp7
    obtain ⟨x, hx, hxn⟩ := qv_out y1
    have hxl := qv_len x hx
    have hin : x ∈ cand.filter (okOdd L) := by
      refine List.mem_filter.mpr ⟨by rw [← hcand]; exact List.mem_append_right _ hx, ?_⟩
      unfold okOdd
      rw [decide_eq_false hxn, decide_eq_true hxl.1, decide_eq_true hxl.2]
      rfl
    cases hfc : cand.filter (okOdd L) with
    | nil =>
      rw [hfc] at hin
      exact (List.not_mem_nil hin).elim
    | cons z rest =>
      rw [hfc] at hp7
      have hz : z ∈ cand.filter (okOdd L) := by
        rw [hfc]
        exact List.mem_cons_self ..
      have hzn : ¬ z ∈ L := fun a => by
        have := (List.mem_filter.mp hz).2
        unfold okOdd at this
        rw [decide_eq_true a] at this
        cases this
      exact ⟨p7, _, 0, .str z, rfl, rfl, sq_of hp7, (show atI _ ((0 : Nat) : Int) = _ from atI_nat rfl), q z H7 hzn (x5.trans e7)⟩
end
end Eh
set_option Elab.async false
set_option linter.all false
set_option maxRecDepth 100000
set_option maxHeartbeats 4000000
namespace Eh
open PySem PySem.Spec PyProof.Rows L2 Evl
theorem ex_err {H : Hp} {a d : Addr} {o1 o2 : HO} (na : H a = none) (nd : H d = none) (ne : d ≠ a) : Ex H (upd (upd H d o1) a o2) := (Ex.new nd).trans (Ex.new (by rw [upd_ne ne.symm]; exact na))
/-- an error of the i-th class stands at a, its field is v -/
def EAt (cs : List Addr) (H : Hp) (i : Nat) (a : Addr) (v : V) : Prop := ∃ d, H a = some (exv a (.ref (cs.getD i 0)) d) ∧ DctOk H d ∧ KFld H d i v
theorem DctOk.ex {H H' : Hp} {d : Option Addr} (h : DctOk H d) (e : Ex H H') : DctOk H' d := by
  cases d with
  | none => trivial
  | some dd =>
    obtain ⟨fs, z⟩ := h
    exact ⟨fs, e _ _ z⟩
theorem KFld.ex {H H' : Hp} {d : Option Addr} {i : Nat} {v : V} (h : KFld H d i v) (e : Ex H H') : KFld H' d i v := by
  rcases h with ⟨a, dd, rfl, b⟩ | ⟨a, dd, rfl, b⟩ | h
  · exact .inl ⟨a, dd, rfl, e _ _ b⟩
  · exact .inr (.inl ⟨a, dd, rfl, e _ _ b⟩)
  · exact .inr (.inr h)
theorem EAt.ex {cs : List Addr} {H H' : Hp} {i : Nat} {a : Addr} {v : V} (h : EAt cs H i a v) (e : Ex H H') : EAt cs H' i a v := by
  obtain ⟨d, h1, h2, h3⟩ := h
  exact ⟨d, e _ _ h1, h2.ex e, h3.ex e⟩
theorem eat_place {cs : List Addr} {H : Hp} {a d : Addr} {i : Nat} {n : Int} (ne : d ≠ a) (hi : i = 0 ∨ i = 1 ∨ i = 3 ∨ i = 4) : EAt cs (upd (upd H d (.xd [("place", .int n)])) a (exv a (.ref (cs.getD i 0)) (some d))) i a (.int n) := by
  have h : (upd (upd H d (.xd [("place", .int n)])) a (exv a (.ref (cs.getD i 0)) (some d))) d = some (.xd [("place", .int n)]) := by rw [upd_ne ne, upd_same]
  exact ⟨some d, upd_same, ⟨_, h⟩, .inl ⟨hi, d, rfl, h⟩⟩
theorem eat_size {cs : List Addr} {H : Hp} {a d : Addr} {n : Int} (ne : d ≠ a) : EAt cs (upd (upd H d (.xd [("size", .int n)])) a (exv a (.ref (cs.getD 2 0)) (some d))) 2 a (.int n) := by
  have h : (upd (upd H d (.xd [("size", .int n)])) a (exv a (.ref (cs.getD 2 0)) (some d))) d = some (.xd [("size", .int n)]) := by rw [upd_ne ne, upd_same]
  exact ⟨some d, upd_same, ⟨_, h⟩, .inr (.inl ⟨rfl, d, rfl, h⟩)⟩
theorem eat_none {cs : List Addr} {H : Hp} {a : Addr} {i : Nat} (hi : 5 ≤ i) : EAt cs (upd H a (exv a (.ref (cs.getD i 0)) none)) i a (.int 0) := ⟨none, upd_same, trivial, .inr (.inr ⟨hi, rfl⟩)⟩
theorem mk_place {cs : List Addr} {H : Hp} {a d : Addr} {i : Nat} {n : Int} (na : H a = none) (nd : H d = none) (ne : d ≠ a) (hi : i = 0 ∨ i = 1 ∨ i = 3 ∨ i = 4) : Ex H (upd (upd H d (.xd [("place", .int n)])) a (exv a (.ref (cs.getD i 0)) (some d))) ∧ EAt cs (upd (upd H d (.xd [("place", .int n)])) a (exv a (.ref (cs.getD i 0)) (some d))) i a (.int n) := ⟨ex_err na nd ne, eat_place ne hi⟩
theorem mk_size {cs : List Addr} {H : Hp} {a d : Addr} {n : Int} (na : H a = none) (nd : H d = none) (ne : d ≠ a) : Ex H (upd (upd H d (.xd [("size", .int n)])) a (exv a (.ref (cs.getD 2 0)) (some d))) ∧ EAt cs (upd (upd H d (.xd [("size", .int n)])) a (exv a (.ref (cs.getD 2 0)) (some d))) 2 a (.int n) := ⟨ex_err na nd ne, eat_size ne⟩
theorem mk_none {cs : List Addr} {H : Hp} {a : Addr} {i : Nat} (na : H a = none) (hi : 5 ≤ i) : Ex H (upd H a (exv a (.ref (cs.getD i 0)) none)) ∧ EAt cs (upd H a (exv a (.ref (cs.getD i 0)) none)) i a (.int 0) := ⟨Ex.new na, eat_none hi⟩
/-- a comprehension over enumerate of a list -/
theorem lc_enum {K : PySem.W.Frag} {a : Addr} {xs : List V} {tt : TT} {te : TE} {σ : L2.St} {H1 : Hp} {Dd : Addr} {Qd : Hp → Prop} {i1 i2 : Nat} {vs : List Nat} (Pv : Nat → Hp → Prop) (h0 : Pv 0 (upd H1 Dd (.lst []))) (hq : ∀ i H, i ≤ xs.length → Pv i H → SqL K H a xs)
    (hs : ∀ i x H T, xs[i]? = some x → Pv i H → H T = none → wipe (((wipe σ vs).set i1 (some (.int (i : Nat)))).set i2 (some x)) vs = wipe σ vs ∧ tt (((wipe σ vs).set i1 (some (.int (i : Nat)))).set i2 (some x)) (upd H T (.tup [.int (i : Nat), x])) fun b H3 => if b = true then te (((wipe σ vs).set i1 (some (.int (i : Nat)))).set i2 (some x)) H3 fun z H4 => ∃ acc, H4 Dd = some (.lst acc) ∧ acc.length < sizeLine ∧ Pv (i + 1) (upd H4 Dd (.lst (acc ++ [z]))) else Pv (i + 1) H3)
    (hd : ∀ H, Pv xs.length H → Qd H) :
    ∃ W : Nat → Nat → Hp → Prop, (∃ m, W 0 m (upd H1 Dd (.lst []))) ∧ ∀ i m H, W i m H → ((Ite K a).stop i H ∧ Qd H) ∨ ((Ite K a).go i H ∧ ∃ Nx : Hp → Prop, (∀ H', Nx H' → ∃ m', m' < m ∧ W (i + 1) m' H') ∧ ∀ x H', (Ite K a).yld i H x H' → gTup K 2 (gCons (gName i1) (gCons (gName i2) gNil)) x (wipe σ vs) H' fun σ2 H2 => wipe σ2 vs = wipe σ vs ∧ tt σ2 H2 fun b H3 => if b = true then te σ2 H3 fun z H4 => ∃ acc, H4 Dd = some (.lst acc) ∧ acc.length < sizeLine ∧ Nx (upd H4 Dd (.lst (acc ++ [z]))) else Nx H3) := by
  refine ⟨fun i m H => m = xs.length - i ∧ i ≤ xs.length ∧ Pv i H, ⟨xs.length, by omega, Nat.zero_le _, h0⟩, ?_⟩
  rintro i m H ⟨rfl, hi, pp⟩
  have q1 := hq i H hi pp
  by_cases hlt : i < xs.length
  · refine .inr ⟨⟨xs, xs[i], q1, List.getElem?_eq_getElem hlt⟩, Pv (i + 1), fun H' p' => ⟨xs.length - (i + 1), by omega, rfl, hlt, p'⟩, fun v H' y => ?_⟩
    obtain ⟨T, x, rfl, nT, rfl, f⟩ := y
    exact ⟨T, [.int (i : Nat), x], rfl, st_of upd_same, rfl, _, _, rfl, _, _, rfl, rfl, hs i x H T (f xs q1) pp nT⟩
  · have e : i = xs.length := by omega
    subst e
    exact .inl ⟨⟨xs, q1, Nat.le_refl _⟩, hd H pp⟩
/-- tuples of a text and a number, one behind the other -/
def PrsAt (H : Hp) (f : Nat → Str) (g : Nat → Int) (ts : List Addr) : Prop := ∀ j t, ts[j]? = some t → H t = some (.tup [.str (f j), .int (g j)])
theorem PrsAt.ex {H H' : Hp} {f : Nat → Str} {g : Nat → Int} {ts : List Addr} (h : PrsAt H f g ts) (e : Ex H H') : PrsAt H' f g ts := fun j t z => e _ _ (h j t z)
theorem PrsAt.snoc {H : Hp} {f : Nat → Str} {g : Nat → Int} {ts : List Addr} {t : Addr} (h : PrsAt H f g ts) (ht : H t = some (.tup [.str (f ts.length), .int (g ts.length)])) : PrsAt H f g (ts ++ [t]) := fun j u z => by
  by_cases hj : j < ts.length
  · rw [List.getElem?_append_left hj] at z
    exact h j u z
  · have hl := (List.getElem?_eq_some_iff.mp z).1
    rw [List.length_append, List.length_singleton] at hl
    have e : j = ts.length := by omega
    subst e
    rw [List.getElem?_append_right (Nat.le_refl _), Nat.sub_self] at z
    cases z
    exact ht
def prs (f : Nat → Str) (g : Nat → Int) (n : Nat) : List PyData := (List.range n).map fun j => .tuple [.str (f j), .int (g j)]
theorem dp_prs {K : PySem.W.Frag} {H : Hp} : ∀ (ts : List Addr) (f : Nat → Str) (g : Nat → Int), PrsAt H f g ts → DpAll K H (ts.map V.ref) (prs f g ts.length)
  | [], f, g, _ => .nil
  | t :: r, f, g, h => by
    unfold prs
    rw [List.length_cons, List.range_succ_eq_map, List.map_cons, List.map_cons, List.map_map]
    exact .cons (.tup (st_of (h 0 t rfl)) (.cons (.str _) (.cons (.int _) .nil))) (dp_prs r (fun j => f (j + 1)) (fun j => g (j + 1)) fun j u z => h (j + 1) u z)
theorem lay_prs : ∀ (n : Nat) (f : Nat → Str) (g : Nat → Int), (∀ j, PyData.strOk (f j) = true) → PyData.canLayAll0 (prs f g n) = true ∧ PyData.depthAll (prs f g n) ≤ 1
  | 0, f, g, _ => ⟨rfl, Nat.zero_le _⟩
  | n + 1, f, g, h => by
    obtain ⟨h1, h2⟩ := lay_prs n (fun j => f (j + 1)) (fun j => g (j + 1)) fun j => h (j + 1)
    unfold prs at h1 h2 ⊢
    rw [List.range_succ_eq_map, List.map_cons, List.map_map]
    constructor
    · show ((PyData.strOk (f 0) && (true && true)) && PyData.canLayAll0 (List.map _ _)) = true
      rw [h 0]
      exact h1
    · show max (max 0 (max 0 0) + 1) (PyData.depthAll (List.map _ _)) ≤ 1
      have : max 0 (max 0 0) + 1 = 1 := rfl
      rw [this]
      exact Nat.max_le.mpr ⟨Nat.le_refl _, h2⟩
theorem shaped_prs {n : Nat} {f : Nat → Str} {g : Nat → Int} (h : ∀ j, PyData.strOk (f j) = true) : SeqAt.shaped (.list (prs f g n)) = true := by
  obtain ⟨h1, h2⟩ := lay_prs n f g h
  unfold SeqAt.shaped
  have e : PyData.depth (.list (prs f g n)) = PyData.depthAll (prs f g n) + 1 := rfl
  rw [show PyData.canLay0 (.list (prs f g n)) = true from h1, e, Bool.true_and]
  rcases (show PyData.depthAll (prs f g n) = 0 ∨ PyData.depthAll (prs f g n) = 1 by omega) with z | z <;> rw [z] <;> rfl
def kW (j : Nat) : Str := kWords.getD j ""
def kN (n : Int) (j : Nat) : Int := if j < 5 then n else 0
theorem kW_ok (j : Nat) : PyData.strOk (kW j) = true := by
  by_cases h : j < 11
  · rcases (show j = 0 ∨ j = 1 ∨ j = 2 ∨ j = 3 ∨ j = 4 ∨ j = 5 ∨ j = 6 ∨ j = 7 ∨ j = 8 ∨ j = 9 ∨ j = 10 by omega) with rfl | rfl | rfl | rfl | rfl | rfl | rfl | rfl | rfl | rfl | rfl <;> decide +kernel
  · unfold kW
    rw [List.getD_eq_getElem?_getD, List.getElem?_eq_none (by show 11 ≤ j; omega)]
    decide +kernel
abbrev nEr : List Str := ["number", "some", "words", "due", "k", "word", "one"]
theorem scEr : FnScope nEr ["number"] (defScope sLawErrorsRight) := ⟨rfl, rfl, rfl, by decide +kernel, rfl, by decide +kernel, by decide +kernel⟩
abbrev rInt1 : List V → Hp → VK → Prop := fun xs H Q => (∃ n, xs = [.int n] ∧ Q (.int n) H) ∨ ∃ b, xs = [.bl b] ∧ Q (.int (if b then 1 else 0)) H
abbrev veM : List Value := [.type "ValueError", .type "Exception", .type "BaseException", .type "object"]
section
variable {P : Program} {w : World} {K : PySem.W.Frag} {mg : Str → Option Value} {base : Heap}
def spEr : Sp := fun vs H Q _ => ∃ n : Int, vs = [.int n] ∧ n.natAbs.log2 < 1900 ∧ ∀ H', Q (.bl true) H'
theorem ok_er {f fK CH : Addr} {cs : List Addr} {fI0 fI1 fI2 fI3 fI4 : Addr} {fd fdK dI0 dI1 dI2 dI3 dI4 : FuncData} {k : Nat} (F : Fun K "_law_errors_right" "_law_errors_right" sLawErrorsRight f fd) (FK : Fun K "_law_kind" "_law_kind" sKind fK fdK) (bK : Binds K fdK ["caught"] []) (gK : mg "_law_kind" = some (.ref fK)) (M : KindM mg CH cs) (KC : ∀ i, i < 11 → KindC K CH cs i)
    (T0 : ∃ J, InitC P K mg (cs.getD 0 0) fI0 "NoLetter.__init__" "place" (inClass (topS 2) 0) J dI0)
    (T1 : ∃ J, InitC P K mg (cs.getD 1 0) fI1 "NotShut.__init__" "place" (inClass (topS 3) 0) J dI1)
    (T2 : ∃ J, InitC P K mg (cs.getD 2 0) fI2 "TooLong.__init__" "size" (inClass (topS 6) 0) J dI2)
    (T3 : ∃ J, InitC P K mg (cs.getD 3 0) fI3 "NoChoice.__init__" "place" (inClass (topS 4) 0) J dI3)
    (T4 : ∃ J, InitC P K mg (cs.getD 4 0) fI4 "NoText.__init__" "place" (inClass (topS 5) 0) J dI4)
    (x5 : PySem.W.excIn K (cs.getD 5 0) veM "ValueError.__new__" = true) (k5 : PySem.W.keepIn K (.ref (cs.getD 5 0)) = true)
    (x6 : PySem.W.excIn K (cs.getD 6 0) veM "ValueError.__new__" = true) (k6 : PySem.W.keepIn K (.ref (cs.getD 6 0)) = true)
    (x7 : PySem.W.excIn K (cs.getD 7 0) veM "ValueError.__new__" = true) (k7 : PySem.W.keepIn K (.ref (cs.getD 7 0)) = true)
    (x8 : PySem.W.excIn K (cs.getD 8 0) veM "ValueError.__new__" = true) (k8 : PySem.W.keepIn K (.ref (cs.getD 8 0)) = true)
    (x9 : PySem.W.excIn K (cs.getD 9 0) veM "ValueError.__new__" = true) (k9 : PySem.W.keepIn K (.ref (cs.getD 9 0)) = true)
    (x10 : PySem.W.excIn K (cs.getD 10 0) veM "ValueError.__new__" = true) (k10 : PySem.W.keepIn K (.ref (cs.getD 10 0)) = true)
    (me : mg "enumerate" = none) (mint : mg "int" = none) : FnOk P w K mg base CX0 (k + 3) f fd ["number"] spEr := by
  obtain ⟨J0, T0⟩ := T0
  obtain ⟨J1, T1⟩ := T1
  obtain ⟨J2, T2⟩ := T2
  obtain ⟨J3, T3⟩ := T3
  obtain ⟨J4, T4⟩ := T4
  have nd := scEr.nd
  have GK : FnOk P w K mg base CX0 (k + 2) fK fdK ["caught"] (spKind K CH cs) := ok_kind FK M
  refine F.ok scEr (fun vs H Q E h => ?_) (fun cdv A outer s H vs Q E hr h => ?_)
  · obtain ⟨n, rfl, _⟩ := h
    rfl
  · obtain ⟨n, rfl, hn, q⟩ := h
    refine ⟨_, pss_cons (ps_set (i := 1) nd rfl (.inl rfl) (pe_lst (pa_cons (pe_errV T0 hr rfl M.g0 (pa_cons (pv 0) pa_nil)) (pa_cons (pe_errV T1 hr rfl M.g1 (pa_cons (pv 0) pa_nil)) (pa_cons (pe_errV T2 hr rfl M.g2 (pa_cons (pv 0) pa_nil)) (pa_cons (pe_errV T3 hr rfl M.g3 (pa_cons (pv 0) pa_nil)) (pa_cons (pe_errV T4 hr rfl M.g4 (pa_cons (pv 0) pa_nil)) pa_nil)))))))
      (pss_cons (ps_set (i := 1) nd rfl (.inl rfl) (pe_op op_cat (pv 1) (pe_lst (pa_cons (pe_exV PySem.F.excBase_ValueError x5 M.g5 k5 rfl pe_str) (pa_cons (pe_exV PySem.F.excBase_ValueError x6 M.g6 k6 rfl pe_str) (pa_cons (pe_exV PySem.F.excBase_ValueError x7 M.g7 k7 rfl pe_str) (pa_cons (pe_exV PySem.F.excBase_ValueError x8 M.g8 k8 rfl pe_str) (pa_cons (pe_exV PySem.F.excBase_ValueError x9 M.g9 k9 rfl pe_str) (pa_cons (pe_exV PySem.F.excBase_ValueError x10 M.g10 k10 rfl pe_str) pa_nil)))))))))
      (pss_cons (ps_set (i := 2) nd rfl (.inl rfl) (pe_lst (pa_cons pe_str (pa_cons pe_str (pa_cons pe_str (pa_cons pe_str (pa_cons pe_str (pa_cons pe_str (pa_cons pe_str (pa_cons pe_str (pa_cons pe_str (pa_cons pe_str (pa_cons pe_str pa_nil)))))))))))))
      (pss_cons (ps_setLc (i := 3) (own := [("k", 4), ("word", 5)]) (g := gTup K 2 (gCons (gName 4) (gCons (gName 5) gNil))) (tt := tYes) (te := tTup (tCons (tVar 5) (tCons (tOp (rI CMul fun i j => .int (i * j)) (tVar 0) (tCB rInt1 (tCons (tOp (rI0 fun i j => .bl (decide (i < j))) (tVar 4) (tC (.int 5))) tNil))) tNil))) rfl nd rfl rfl (sw_true rfl rfl rfl (by decide +kernel)) (pi_enum (by rfl) me (pa_cons (pv 2) pa_nil)) (blkOk_by (own := [("k", 4), ("word", 5)]) (N := nEr) (sc := defScope sLawErrorsRight) (by decide +kernel)) (fun _ _ _ _ _ => pg_tup rfl (pgs_cons (pg_name (i := 4) nd rfl (.inl rfl)) (pgs_cons (pg_name (i := 5) nd rfl (.inl rfl)) pgs_nil))) (fun _ _ _ _ _ => pts_nil) (fun _ _ _ _ _ => pe_tup (pa_cons (pv 5) (pa_cons (pe_op op_mul (pv 0) (pe_callTy call_int1 (by rfl) mint PyProof.Rows.boot_int (pa_cons (pe_cmpR op_lt (pv 4) pe_int (nomark _)) pa_nil))) pa_nil))))
      (pss_one (ps_ret (pe_cmpR (op_eqD hr.units) (pe_lc (own := [("one", 6)]) (g := gName 6) (tt := tYes) (te := tCall (spKind K CH cs) [] E0 (tCons (tVar 6) tNil)) rfl nd (pi_list (pv 1)) (blkOk_by (own := [("one", 6)]) (N := nEr) (sc := defScope sLawErrorsRight) (by decide +kernel)) (fun _ _ _ _ _ => pg_name (i := 6) nd rfl (.inl rfl)) (fun _ _ _ _ _ => pts_nil) (fun _ _ _ _ _ => pe_call GK hr (by rfl) gK FK.kp bK .nil pass0 (pa_cons (pv 6) pa_nil))) (pv 3) (nomark _))))))), ?_⟩
    have sz : ∀ n : Nat, n ≤ 1000 → n ≤ sizeLine := fun n h => Nat.le_trans h (by decide)
    refine ⟨_, rfl, n, rfl, hn, fun a0 d0 na0 nd0 ne0 => ?_⟩
    obtain ⟨e0, t0⟩ := mk_place (i := 0) (cs := cs) (n := n) na0 nd0 ne0 (by decide)
    refine ⟨_, rfl, n, rfl, hn, fun a1 d1 na1 nd1 ne1 => ?_⟩
    obtain ⟨e1, t1⟩ := mk_place (i := 1) (cs := cs) (n := n) na1 nd1 ne1 (by decide)
    refine ⟨_, rfl, n, rfl, hn, fun a2 d2 na2 nd2 ne2 => ?_⟩
    obtain ⟨e2, t2⟩ := mk_size (cs := cs) (n := n) na2 nd2 ne2
    refine ⟨_, rfl, n, rfl, hn, fun a3 d3 na3 nd3 ne3 => ?_⟩
    obtain ⟨e3, t3⟩ := mk_place (i := 3) (cs := cs) (n := n) na3 nd3 ne3 (by decide)
    refine ⟨_, rfl, n, rfl, hn, fun a4 d4 na4 nd4 ne4 => ?_⟩
    obtain ⟨e4, t4⟩ := mk_place (i := 4) (cs := cs) (n := n) na4 nd4 ne4 (by decide)
    refine ⟨sz 5 (by decide), fun l1 nl1 => ?_⟩
    have e5 := Ex.new (o := .lst [.ref a0, .ref a1, .ref a2, .ref a3, .ref a4]) nl1
    refine ⟨_, rfl, fun a5 na5 => ?_⟩
    obtain ⟨e6, t5⟩ := mk_none (cs := cs) (i := 5) na5 (by decide)
    refine fun a6 na6 => ?_
    obtain ⟨e7, t6⟩ := mk_none (cs := cs) (i := 6) na6 (by decide)
    refine fun a7 na7 => ?_
    obtain ⟨e8, t7⟩ := mk_none (cs := cs) (i := 7) na7 (by decide)
    refine fun a8 na8 => ?_
    obtain ⟨e9, t8⟩ := mk_none (cs := cs) (i := 8) na8 (by decide)
    refine fun a9 na9 => ?_
    obtain ⟨e10, t9⟩ := mk_none (cs := cs) (i := 9) na9 (by decide)
    refine fun a10 na10 => ?_
    obtain ⟨e11, t10⟩ := mk_none (cs := cs) (i := 10) na10 (by decide)
    refine ⟨sz 6 (by decide), fun l2 nl2 => ?_⟩
    have e12 := Ex.new (o := .lst [.ref a5, .ref a6, .ref a7, .ref a8, .ref a9, .ref a10]) nl2
    have f6 := e6.trans (e7.trans (e8.trans (e9.trans (e10.trans (e11.trans e12)))))
    refine ⟨l1, l2, _, _, rfl, rfl, f6 _ _ upd_same, upd_same, sz 11 (by decide), fun l3 nl3 => ?_⟩
    have e13 := Ex.new (o := .lst ([a0, a1, a2, a3, a4, a5, a6, a7, a8, a9, a10].map V.ref)) nl3
    refine ⟨sz 11 (by decide), fun W nW => ?_⟩
    have e14 := Ex.new (o := .lst (kWords.map V.str)) nW
    have g12 := e12.trans (e13.trans e14)
    have g11 := e11.trans g12
    have g10 := e10.trans g11
    have g9 := e9.trans g10
    have g8 := e8.trans g9
    have g7 := e7.trans g8
    have g6 := e6.trans g7
    have g5 := e5.trans g6
    have g4 := e4.trans g5
    have g3 := e3.trans g4
    have g2 := e2.trans g3
    have g1 := e1.trans g2
    have g0 := e0.trans g1
    have all : ∀ i a, [a0, a1, a2, a3, a4, a5, a6, a7, a8, a9, a10][i]? = some a → EAt cs _ i a (.int (kN n i)) := fun i a h => by
      have hi : i < 11 := (List.getElem?_eq_some_iff.mp h).1
      rcases (show i = 0 ∨ i = 1 ∨ i = 2 ∨ i = 3 ∨ i = 4 ∨ i = 5 ∨ i = 6 ∨ i = 7 ∨ i = 8 ∨ i = 9 ∨ i = 10 by omega) with rfl | rfl | rfl | rfl | rfl | rfl | rfl | rfl | rfl | rfl | rfl
      · cases h
        exact t0.ex g1
      · cases h
        exact t1.ex g2
      · cases h
        exact t2.ex g3
      · cases h
        exact t3.ex g4
      · cases h
        exact t4.ex g5
      · cases h
        exact t5.ex g7
      · cases h
        exact t6.ex g8
      · cases h
        exact t7.ex g9
      · cases h
        exact t8.ex g10
      · cases h
        exact t9.ex g11
      · cases h
        exact t10.ex g12
    have hl3 := e14 l3 (.lst ([a0, a1, a2, a3, a4, a5, a6, a7, a8, a9, a10].map V.ref)) upd_same
    have hla : [a0, a1, a2, a3, a4, a5, a6, a7, a8, a9, a10].length = 11 := rfl
    clear g0 g1 g2 g3 g4 g5 g6 g7 g8 g9 g10 g11 g12 e0 e1 e2 e3 e4 e5 e6 e7 e8 e9 e10 e11 e12 e13 t0 t1 t2 t3 t4 t5 t6 t7 t8 t9 t10
    generalize has : [a0, a1, a2, a3, a4, a5, a6, a7, a8, a9, a10] = as at all hl3 hla
    refine ⟨_, rfl, W, _, rfl, sq_of upd_same, fun D nD => lc_enum (xs := kWords.map V.str) (fun i H' => Ex _ H' ∧ ∃ ts : List Addr, ts.length = i ∧ H' D = some (.lst (ts.map V.ref)) ∧ PrsAt H' kW (kN n) ts) ⟨Ex.new nD, [], rfl, upd_same, fun j t h => by cases h⟩ (fun i H' _ hh => sq_of (hh.1 _ _ upd_same)) ?_ ?_⟩
    · rintro i x H' T hx ⟨eH, ts, hts, hD, hP⟩ nT
      rw [List.getElem?_map] at hx
      obtain ⟨y, hy, rfl⟩ := Option.map_eq_some_iff.mp hx
      have hi := (List.getElem?_eq_some_iff.mp hy).1
      have hi' : i < 11 := hi
      have ey : kW i = y := by
        unfold kW
        rw [List.getD_eq_getElem?_getD, hy]
        rfl
      have eT : Ex H' _ := Ex.new (o := .tup [.int (i : Nat), .str y]) nT
      refine ⟨rfl, yesT ⟨_, rfl, _, rfl, _, rfl, _, _, rfl, rfl, .inr ⟨_, rfl, _, _, rfl, rfl, .inr ?_, sz 2 (by decide), fun t nt => ?_⟩⟩⟩
      · by_cases h5 : (i : Int) < 5
        · rw [decide_eq_true h5]
          exact ⟨by decide, by decide⟩
        · rw [decide_eq_false h5]
          exact ⟨by decide, by decide⟩
      have et : Ex _ _ := Ex.new (o := .tup [.str y, .int (n * (if decide ((i : Int) < 5) = true then 1 else 0))]) nt
      have nDt : H' D ≠ none := fun z => by rw [hD] at z; cases z
      refine ⟨_, (eT.trans et) _ _ hD, sz_lt (by rw [List.length_map]; omega), ?_, ts ++ [t], by rw [List.length_append, hts]; rfl, ?_, ?_⟩
      · exact ((eH.trans eT).trans et).mut nD
      · rw [upd_same, List.map_append]
        rfl
      · have htD : ∀ b o, b ≠ D → (upd (upd H' T (.tup [.int (i : Nat), .str y])) t (.tup [.str y, .int (n * (if decide ((i : Int) < 5) = true then 1 else 0))])) b = some o → (upd (upd (upd H' T (.tup [.int (i : Nat), .str y])) t (.tup [.str y, .int (n * (if decide ((i : Int) < 5) = true then 1 else 0))])) D (.lst (ts.map V.ref ++ [.ref t]))) b = some o := fun b o hb h => by rw [upd_ne hb]; exact h
        have tD : t ≠ D := fun z => by
          rw [z] at nt
          have := eT _ _ hD
          rw [nt] at this
          cases this
        refine PrsAt.snoc (fun j u hu => ?_) ?_
        · have hu' := hP j u hu
          refine htD u _ (fun z => ?_) ((eT.trans et) _ _ hu')
          rw [z, hD] at hu'
          cases hu'
        · refine htD t _ tD ?_
          rw [upd_same, hts, ey]
          unfold kN
          by_cases h5 : i < 5
          · rw [if_pos h5, decide_eq_true (show (i : Int) < 5 by omega), if_pos rfl, Int.mul_one]
          · rw [if_neg h5, decide_eq_false (show ¬ (i : Int) < 5 by omega), if_neg Bool.false_ne_true, Int.mul_zero]
    · rintro H5 ⟨eH, ts, hts, hD, hP⟩
      have hl5 := eH _ _ hl3
      refine ⟨_, rfl, l3, rfl, ⟨_, sq_of hl5⟩, fun D2 nD2 => lc_list (xs := as.map V.ref) (fun i H' => Ex H5 H' ∧ ∃ us : List Addr, us.length = i ∧ H' D2 = some (.lst (us.map V.ref)) ∧ PrsAt H' kW (kN n) us) ⟨Ex.new nD2, [], rfl, upd_same, fun j t h => by cases h⟩ (fun i H' _ hh => sq_of (hh.1 _ _ hl5)) ?_ ?_⟩
      · rintro i x H' hx ⟨e6, us, hus, hD2, hP2⟩
        rw [List.getElem?_map] at hx
        obtain ⟨a, ha, rfl⟩ := Option.map_eq_some_iff.mp hx
        have hi := (List.getElem?_eq_some_iff.mp ha).1
        rw [hla] at hi
        obtain ⟨d, h1, h2, h3⟩ := (all i a ha).ex (eH.trans e6)
        refine ⟨rfl, yesT ⟨_, rfl, a, d, i, .int (kN n i), rfl, KC i hi, h1, h2, h3, fun t H7 e7 nt ht => ?_⟩⟩
        have hD7 := e7 _ _ hD2
        refine ⟨_, hD7, sz_lt (by rw [List.length_map]; omega), (e6.trans e7).mut nD2, us ++ [t], by rw [List.length_append, hus]; rfl, ?_, ?_⟩
        · rw [upd_same, List.map_append]
          rfl
        · refine PrsAt.snoc (fun j u hu => ?_) ?_
          · have hu' := (hP2.ex e7) j u hu
            rw [upd_ne (fun z => by rw [z, hD7] at hu'; cases hu')]
            exact hu'
          · rw [upd_ne (fun z => by rw [z, hD7] at ht; cases ht), hus]
            exact ht
      · rintro H6 ⟨e6, us, hus, hD2, hP2⟩
        rw [List.length_map, hla] at hus
        rw [List.length_map] at hts
        have hts' : ts.length = 11 := hts
        have q1 := dp_prs (K := K) us kW (kN n) hP2
        have q2 := dp_prs (K := K) ts kW (kN n) (hP.ex e6)
        rw [hus] at q1
        rw [hts'] at q2
        refine ⟨_, rfl, .list (prs kW (kN n) 11), .list (prs kW (kN n) 11), .lst (sq_of hD2) q1, .lst (sq_of (e6 _ _ hD)) q2, shaped_prs kW_ok, shaped_prs kW_ok, ?_⟩
        rw [show PyData.eqv (.list (prs kW (kN n) 11)) (.list (prs kW (kN n) 11)) = true from SeqAt.eqv_refl _ (lay_prs 11 kW (kN n) kW_ok).1]
        exact q _
end
end Eh
set_option Elab.async false
set_option linter.all false
set_option maxRecDepth 100000
set_option maxHeartbeats 4000000
namespace Eh
open PySem PySem.Spec PyProof.Rows L2 Evl
/-! the odd texts are no letters -/
theorem odd0 {L : List Str} (h : ∀ x ∈ L, Ltr x) : ¬ (("" : Str) ∈ L) := fun z => by
  have := (h _ z).2.1
  exact absurd this (by decide +kernel)
theorem odd1 {L : List Str} (h : ∀ x ∈ L, Ltr x) : ¬ (("A" : Str) ∈ L) := fun z => by
  have := (h _ z).1 65 (by decide +kernel)
  unfold az at this
  omega
theorem oddN {L : List Str} (h : ∀ x ∈ L, Ltr x) : ¬ (("\n" : Str) ∈ L) := fun z => by
  have := (h _ z).1 10 (by decide +kernel)
  unfold az at this
  omega
theorem app_len (a b : Str) : (a ++ b).length = a.length + b.length := by
  rw [len_cs, cs_app, List.length_append, ← len_cs, ← len_cs]
theorem odd3 {L : List Str} (h : ∀ x ∈ L, Ltr x) (c : Str) : ¬ ((Str.ofString " " ++ c) ∈ L) := fun z => by
  have := (h _ z).1 32 (by rw [cs_app]; exact List.mem_append_left _ (by decide +kernel))
  unfold az at this
  omega
theorem odd4 {L : List Str} (h : ∀ x ∈ L, Ltr x) (c : Str) : ¬ ((c ++ Str.ofString " ") ∈ L) := fun z => by
  have := (h _ z).1 32 (by rw [cs_app]; exact List.mem_append_right _ (by decide +kernel))
  unfold az at this
  omega
theorem up_all : ∀ c, c < 26 → Unicode.upperOf (97 + c) = [65 + c] := by decide +kernel
theorem up_not {x : Str} (h : ∀ c ∈ cs x, az c) : ∀ c ∈ cs (Txt.upper x), ¬ az c := fun c hc => by
  have h1 : c ∈ (x.cps.mapIdx fun _ c => (Unicode.upperOf c).toArray).flatten := Array.mem_def.mpr hc
  obtain ⟨l, h2, h3⟩ := Array.mem_flatten.mp h1
  obtain ⟨i, hi, h4⟩ := Array.mem_mapIdx.mp h2
  have hz := h x.cps[i] (by show x.cps[i] ∈ x.cps.toList; exact Array.mem_def.mp (Array.getElem_mem hi))
  obtain ⟨h5, h6⟩ := hz
  have h7 := up_all (x.cps[i] - 97) (by omega)
  rw [show 97 + (x.cps[i] - 97) = x.cps[i] by omega] at h7
  rw [← h4, h7] at h3
  have h8 : c = 65 + (x.cps[i] - 97) := by simpa using h3
  unfold az
  omega
theorem odd5 {L : List Str} (h : ∀ x ∈ L, Ltr x) {x : Str} (hx : x ∈ L) : ¬ (Txt.upper x ∈ L) := fun z => by
  have h1 := h _ z
  cases e : cs (Txt.upper x) with
  | nil =>
    have := h1.2.1
    rw [e] at this
    exact absurd this (by decide)
  | cons c r =>
    have hm : c ∈ cs (Txt.upper x) := by rw [e]; exact List.mem_cons_self ..
    exact up_not (h x hx).1 c hm (h1.1 c hm)
abbrev tenW (x0 y0 z : Str) : List Str := [Str.ofString "", Str.ofString "A", x0 ++ repS (Str.ofString "x") 8, Str.ofString " " ++ y0, x0 ++ Str.ofString " ", Txt.upper x0, Str.ofString "\n", z, z, z]
theorem bad_first {L : List Str} : ∀ W : List Str, (∃ x ∈ W, ¬ x ∈ L) → ∃ p, BadAt L W p
  | [], h => by
    obtain ⟨x, hx, _⟩ := h
    exact (List.not_mem_nil hx).elim
  | y :: r, h => by
    by_cases hy : y ∈ L
    · obtain ⟨p, x, h1, h2, h3⟩ := bad_first (L := L) r (by
        obtain ⟨x, hx, hn⟩ := h
        rcases List.mem_cons.mp hx with e | e
        · exact absurd (e ▸ hy) hn
        · exact ⟨x, e, hn⟩)
      refine ⟨p + 1, x, h1, h2, fun j z hj hz => ?_⟩
      cases j with
      | zero =>
        cases hz
        exact hy
      | succ j => exact h3 j z (by omega) hz
    · exact ⟨0, y, rfl, hy, fun j z hj => absurd hj (Nat.not_lt_zero j)⟩
def insW (W : List Str) (p : Nat) (x : Str) : List Str := W.take p ++ [x] ++ W.drop p
theorem insW_map (W : List Str) (p : Nat) (x : Str) : (W.map V.str).take p ++ [V.str x] ++ (W.map V.str).drop p = (insW W p x).map V.str := by
  unfold insW
  rw [List.map_append, List.map_append, List.map_take, List.map_drop]
  rfl
theorem insW_len (W : List Str) (p : Nat) (x : Str) : (insW W p x).length = W.length + 1 := by
  unfold insW
  rw [List.length_append, List.length_append, List.length_take, List.length_drop, List.length_singleton]
  omega
theorem insW_mem (W : List Str) (p : Nat) (x : Str) : x ∈ insW W p x := List.mem_append_left _ (List.mem_append_right _ (List.mem_singleton.mpr rfl))
theorem insW_old {W : List Str} {p : Nat} {x y : Str} (h : y ∈ W) : y ∈ insW W p x := by
  have : y ∈ W.take p ++ W.drop p := by rw [List.take_append_drop]; exact h
  unfold insW
  rcases List.mem_append.mp this with z | z
  · exact List.mem_append_left _ (List.mem_append_left _ z)
  · exact List.mem_append_right _ z
/-- what stands in a turn -/
structure T5 (p c : Addr) (ms : List Int) (sh r D m : Addr) (os ps qs T W : List Str) (H : Hp) : Prop where
  pot : Pot p c ms H
  sh : SheetAt H sh os ps qs
  hr : H r = some (lS (os ++ ps ++ qs))
  hm : H m = some (lS T)
  hD : H D = some (lS W)
theorem T5.keep {p c : Addr} {ms : List Int} {sh r D m : Addr} {os ps qs T W : List Str} {H H' : Hp} (h : T5 p c ms sh r D m os ps qs T W H) (k : Keep p H H') (hP : Pot p c ms H') : T5 p c ms sh r D m os ps qs T W H' :=
  ⟨hP, h.sh.keep h.pot k, k _ _ (lS_ne h.pot h.hr) h.hr, k _ _ (lS_ne h.pot h.hm) h.hm, k _ _ (lS_ne h.pot h.hD) h.hD⟩
theorem T5.ex {p c : Addr} {ms : List Int} {sh r D m : Addr} {os ps qs T W : List Str} {H H' : Hp} (h : T5 p c ms sh r D m os ps qs T W H) (e : Ex H H') : T5 p c ms sh r D m os ps qs T W H' := h.keep (Keep.ofEx e) (h.pot.ex e)
theorem SheetAt.updL {H : Hp} {s D : Addr} {os ps qs W : List Str} {o : HO} (h : SheetAt H s os ps qs) (hD : H D = some (lS W)) : SheetAt (upd H D o) s os ps qs := by
  obtain ⟨ao, ap, ac, h0, h1, h2, h3⟩ := h
  have ne : ∀ {a : Addr} {xs : List V}, H a = some (.tup xs) → a ≠ D := fun {a xs} ha z => by
    rw [z, hD] at ha
    cases ha
  exact ⟨ao, ap, ac, by rw [upd_ne (ne h0)]; exact h0, by rw [upd_ne (ne h1)]; exact h1, by rw [upd_ne (ne h2)]; exact h2, by rw [upd_ne (ne h3)]; exact h3⟩
theorem T5.set {p c : Addr} {ms : List Int} {sh r D m : Addr} {os ps qs T W W' : List Str} {H : Hp} (h : T5 p c ms sh r D m os ps qs T W H) (n1 : p ≠ D) (n2 : c ≠ D) (n3 : r ≠ D) (n4 : m ≠ D) : T5 p c ms sh r D m os ps qs T W' (upd H D (lS W')) :=
  ⟨h.pot.new n1 n2, h.sh.updL h.hD, by rw [upd_ne n3]; exact h.hr, by rw [upd_ne n4]; exact h.hm, upd_same⟩
theorem log2_30 {v : Nat} (h : (v : Int) < 10 ^ 30) : ((v : Int)).natAbs.log2 < 1900 := by
  have e : ((v : Int)).natAbs = v := Int.natAbs_natCast v
  have e30 : ((10 : Int) ^ 30) = 1000000000000000000000000000000 := by decide
  rw [e30] at h
  rw [e]
  by_cases z : v = 0
  · subst z
    decide
  · have h1 : v.log2 < 100 := (Nat.log2_lt z).mpr (Nat.lt_of_lt_of_le (show v < 1000000000000000000000000000000 by omega) (by decide))
    omega
abbrev nLaw : List Str := ["script", "pot", "turn", "sheet", "order", "word", "odd", "at", "to", "first", "way", "k"]
theorem scLaw : FnScope nLaw ["script"] (defScope sLaw) := ⟨rfl, rfl, rfl, by decide +kernel, rfl, by decide +kernel, by decide +kernel⟩
section
variable {P : Program} {w : World} {K : PySem.W.Frag} {mg : Str → Option Value} {base : Heap}
def spLaw (K : PySem.W.Frag) : Sp := fun vs H Q _ => ∃ (a : Addr) (ns : List Int), vs = [.ref a] ∧ SqL K H a (ns.map V.int) ∧ ns.length ≤ 63 ∧ ∀ H', Q (.bl true) H'
theorem ok_law {f fpot fsheet forder fpick fstrange ftold ferrors_right : Addr} {fd dpot dsheet dorder dpick dstrange dtold derrors_right : FuncData} {k : Nat} (F : Fun K "law" "law" sLaw f fd)
    (Fpot : Fun K "_law_pot" "_law_pot" sPot fpot dpot) (Gpot : FnOk P w K mg base CX0 (k + 1) fpot dpot ["script"] (spPot K)) (bpot : Binds K dpot ["script"] []) (gpot : mg "_law_pot" = some (.ref fpot))
    (Fsheet : Fun K "_law_sheet" "_law_sheet" sSheet fsheet dsheet) (Gsheet : FnOk P w K mg base CX0 (k + 1) fsheet dsheet ["pot", "most"] spSheet) (bsheet : Binds K dsheet ["pot", "most"] []) (gsheet : mg "_law_sheet" = some (.ref fsheet))
    (Forder : Fun K "_law_order" "_law_order" sOrder forder dorder) (Gorder : FnOk P w K mg base CX0 (k + 1) forder dorder ["sheet"] spOrder) (border : Binds K dorder ["sheet"] []) (gorder : mg "_law_order" = some (.ref forder))
    (Fpick : Fun K "_law_pick" "_law_pick" sPick fpick dpick) (Gpick : FnOk P w K mg base CX0 (k + 1) fpick dpick ["pot", "many"] spPick) (bpick : Binds K dpick ["pot", "many"] []) (gpick : mg "_law_pick" = some (.ref fpick))
    (Fstrange : Fun K "_law_strange" "_law_strange" sStrange fstrange dstrange) (Gstrange : FnOk P w K mg base CX0 (k + 1) fstrange dstrange ["sheet"] spStrange) (bstrange : Binds K dstrange ["sheet"] []) (gstrange : mg "_law_strange" = some (.ref fstrange))
    (Ftold : Fun K "_law_told" "_law_told" sTold ftold dtold) (Gtold : FnOk P w K mg base CX0 (k + 1) ftold dtold ["way", "sheet", "word"] (spTold K)) (btold : Binds K dtold ["way", "sheet", "word"] []) (gtold : mg "_law_told" = some (.ref ftold))
    (Ferrors_right : Fun K "_law_errors_right" "_law_errors_right" sLawErrorsRight ferrors_right derrors_right) (Gerrors_right : FnOk P w K mg base CX0 (k + 1) ferrors_right derrors_right ["number"] spEr) (berrors_right : Binds K derrors_right ["number"] []) (gerrors_right : mg "_law_errors_right" = some (.ref ferrors_right))
    (GpickW : FnOk P w K mg base CX0 (k + 1) fpick dpick ["pot", "many"] spPickW) (mlen : mg "len" = none) (mlist : mg "list" = none) (mmin : mg "min" = none) (mrange : mg "range" = none) : FnOk P w K mg base CX0 (k + 2) f fd ["script"] (spLaw K) := by
  have nd := scLaw.nd
  refine F.ok scLaw (fun vs H Q E h => ?_) (fun cdv A outer s H vs Q E hr h => ?_)
  · obtain ⟨a, ns, rfl, _⟩ := h
    rfl
  · obtain ⟨a, ns, rfl, hA, hns, q⟩ := h
    refine ⟨_, (pss_cons (ps_set (i := 1) nd rfl (.inr rfl) (pe_call Gpot hr (by rfl) gpot Fpot.kp bpot .nil pass0 (pa_cons (pv 0) pa_nil)))
      (pss_cons (ps_for PassesOwn.never rfl (pi_range1 (by rfl) mrange (pa_cons pe_int pa_nil)) (pg_name (i := 2) nd rfl (.inl rfl)) (pss_cons (ps_set (i := 3) nd rfl (.inl rfl) (pe_call Gsheet hr (by rfl) gsheet Fsheet.kp bsheet .nil pass0 (pa_cons (pv 1) (pa_cons pe_int pa_nil))))
      (pss_cons (ps_set (i := 4) nd rfl (.inr rfl) (pe_call Gorder hr (by rfl) gorder Forder.kp border .nil pass0 (pa_cons (pv 3) pa_nil)))
      (pss_cons (ps_set (i := 5) nd rfl (.inr rfl) (pe_lc (own := [("k", 11)]) (g := gName 11) (tt := tYes) (te := (tOp (rIxL K) (tVar 4) (tCall spPick [] E0 (tCons (tVar 1) (tCons (tCB (rLenS K) (tCons (tVar 4) tNil)) tNil))))) rfl nd (pi_range1 (by rfl) mrange (pa_cons (pe_call Gpick hr (by rfl) gpick Fpick.kp bpick .nil pass0 (pa_cons (pv 1) (pa_cons pe_int pa_nil))) pa_nil)) (blkOk_by (own := [("k", 11)]) (N := nLaw) (sc := defScope sLaw) (by decide +kernel)) (fun _ _ _ _ _ => pg_name (i := 11) nd rfl (.inl rfl)) (fun _ _ _ _ _ => pts_nil) (fun _ _ _ _ _ => (pe_ix ix_list (pv 4) (pe_call Gpick hr (by rfl) gpick Fpick.kp bpick .nil pass0 (pa_cons (pv 1) (pa_cons (pe_callB call_len_seq (by rfl) mlen PySem.boot_len (pa_cons (pv 4) pa_nil)) pa_nil))) (fun _ _ => rfl)))))
      (pss_cons (ps_set (i := 6) nd rfl (.inl rfl) (pe_lst (pa_cons pe_str (pa_cons pe_str (pa_cons (pe_op op_add_str (pe_ix ix_tup (pe_ix ix_tup (pv 3) pe_int (fun _ _ => rfl)) pe_int (fun _ _ => rfl)) (pe_op op_repS pe_str pe_int)) (pa_cons (pe_op op_add_str pe_str (pe_ix ix_tup (pe_ix ix_tup (pv 3) pe_int (fun _ _ => rfl)) pe_int (fun _ _ => rfl))) (pa_cons (pe_op op_add_str (pe_ix ix_tup (pe_ix ix_tup (pv 3) pe_int (fun _ _ => rfl)) pe_int (fun _ _ => rfl)) pe_str) (pa_cons (pe_upper (pe_ix ix_tup (pe_ix ix_tup (pv 3) pe_int (fun _ _ => rfl)) pe_int (fun _ _ => rfl))) (pa_cons pe_str pa_nil)))))))))
      (pss_cons (ps_set (i := 6) nd rfl (.inl rfl) (pe_op op_cat (pv 6) (pe_op op_rep (pe_lst (pa_cons (pe_call Gstrange hr (by rfl) gstrange Fstrange.kp bstrange .nil pass0 (pa_cons (pv 3) pa_nil)) pa_nil)) pe_int)))
      (pss_cons (ps_set (i := 7) nd rfl (.inl rfl) (pe_call Gpick hr (by rfl) gpick Fpick.kp bpick .nil pass0 (pa_cons (pv 1) (pa_cons (pe_op op_add (pe_callB call_len_seq (by rfl) mlen PySem.boot_len (pa_cons (pv 5) pa_nil)) pe_int) pa_nil))))
      (pss_cons (ps_set (i := 8) nd rfl (.inl rfl) (pe_call Gpick hr (by rfl) gpick Fpick.kp bpick .nil pass0 (pa_cons (pv 1) (pa_cons (pe_op op_add (pe_callB call_len_seq (by rfl) mlen PySem.boot_len (pa_cons (pv 5) pa_nil)) pe_int) pa_nil))))
      (pss_cons (ps_expr (pe_bm PySem.F.plainAttrs_list PySem.F.slot_list_insert PySem.F.type_list_insert mt_insert (pv 5) (pa_cons (pv 7) (pa_cons (pe_ix ix_list (pv 6) (pe_call Gpick hr (by rfl) gpick Fpick.kp bpick .nil pass0 (pa_cons (pv 1) (pa_cons pe_int pa_nil))) (fun _ _ => rfl)) pa_nil))))
      (pss_cut (ps_if (pt_cmpR op_eq (pe_call Gpick hr (by rfl) gpick Fpick.kp bpick .nil pass0 (pa_cons (pv 1) (pa_cons pe_int pa_nil))) pe_int (nomark _)) (pss_one (ps_expr (pe_bm PySem.F.plainAttrs_list PySem.F.slot_list_insert PySem.F.type_list_insert mt_insert (pv 5) (pa_cons (pv 8) (pa_cons (pe_ix ix_list (pv 6) (pe_call Gpick hr (by rfl) gpick Fpick.kp bpick .nil pass0 (pa_cons (pv 1) (pa_cons pe_int pa_nil))) (fun _ _ => rfl)) pa_nil))))) pss_nil)
      (pss_cons (ps_set (i := 9) nd rfl (.inl rfl) (pe_callB (cr_min rfl) (by rfl) mmin (by decide +kernel) (pa_cons (pe_lc (own := [("k", 11)]) (g := gName 11) (tt := (tTest (tOp (rIn K true) (tOp (rIxL K) (tVar 5) (tVar 11)) (tVar 4)))) (te := (tVar 11)) rfl nd (pi_range1 (by rfl) mrange (pa_cons (pe_callB call_len_seq (by rfl) mlen PySem.boot_len (pa_cons (pv 5) pa_nil)) pa_nil)) (blkOk_by (own := [("k", 11)]) (N := nLaw) (sc := defScope sLaw) (by decide +kernel)) (fun _ _ _ _ _ => pg_name (i := 11) nd rfl (.inl rfl)) (fun _ _ _ _ _ => pts_one (pt_cmpR op_notIn_seq (pe_ix ix_list (pv 5) (pv 11) (fun _ _ => rfl)) (pv 4) (by rfl))) (fun _ _ _ _ _ => (pv 11))) pa_nil)))
      (pss_one (ps_for PassesOwn.never rfl (pi_range1 (by rfl) mrange (pa_cons pe_int pa_nil)) (pg_name (i := 10) nd rfl (.inl rfl)) (pss_one (ps_if (pt_cmpR (op_neD hr.units) (pe_call Gtold hr (by rfl) gtold Ftold.kp btold .nil pass0 (pa_cons (pv 10) (pa_cons (pv 3) (pa_cons (pe_callTy call_list_of (by rfl) mlist (by decide +kernel) (pa_cons (pv 5) pa_nil)) pa_nil)))) (pe_tup (pa_cons pe_str (pa_cons (pv 9) pa_nil))) (nomark _)) (pss_one (ps_never)) pss_nil)))))))))))))))
      (pss_one (ps_ret (pe_call Gerrors_right hr (by rfl) gerrors_right Ferrors_right.kp berrors_right .nil pass0 (pa_cons (pe_call GpickW hr (by rfl) gpick Fpick.kp bpick .nil pass0 (pa_cons (pv 1) (pa_cons (pe_op op_pow pe_int pe_int) pa_nil))) pa_nil)))))), ?_⟩
    have sz : ∀ n : Nat, n ≤ 1000 → n ≤ sizeLine := fun n h => Nat.le_trans h (by decide)
    refine ⟨_, rfl, a, ns, rfl, hA, hns, fun p c ms H1 e1 hP1 np nc => ?_⟩
    refine ⟨4, rfl, by decide, by decide, for_range (lo := 0) (n := 4) (fun i σ H' => Pot p c ms H' ∧ ∃ y2 y3 y4 y5 y6 y7 y8 y9 y10, σ = [some (.ref a), some (.ref p), y2, y3, y4, y5, y6, y7, y8, y9, y10, none]) ⟨hP1, _, _, _, _, _, _, _, _, _, rfl⟩ ?_ ?_⟩
    · rintro i σ H2 hi ⟨hP2, y2, y3, y4, y5, y6, y7, y8, y9, y10, rfl⟩
      refine ⟨_, rfl, p, c, ms, 4, rfl, by decide, by decide, hP2, fun os ps qs sh H3 hS hs3 kp3 hP3 => ?_⟩
      refine ⟨_, rfl, sh, os, ps, qs, rfl, hS, hs3, fun r H4 e4 nr hr4 => ?_⟩
      have hP4 := hP3.ex e4
      have yn := hS.n0
      have y12 := hS.n12
      have lt8 := hS.lt
      refine ⟨_, rfl, p, c, ms, 21, rfl, by decide, by decide, hP4, fun n H5 hn kp5 hP5 => ⟨_, rfl, by omega, by omega, fun D nD => ?_⟩⟩
      have hs5 := (hs3.ex e4).keep hP4 kp5
      have hr5 := kp5 _ _ (lS_ne hP4 hr4) hr4
      have hpD := hP5.ne_new nD
      have rD : r ≠ D := ne_of_none hr5 nD
      refine lc_range (lo := 0) (n := ((n : Int)).toNat) (fun i H' => ∃ ds : List Str, ds.length = i ∧ AllIn (os ++ ps ++ qs) ds ∧ H' D = some (lS ds) ∧ Keep p H5 H' ∧ Pot p c ms H') ?_ ?_ ?_
      · exact ⟨[], rfl, fun d hd => (List.not_mem_nil hd).elim, upd_same, (Keep.refl p H5).new nD, hP5.new hpD.1 hpD.2⟩
      · rintro i H' hi ⟨ds, hds, hdm, hD, kp, hP'⟩
        refine ⟨rfl, yesT (draw_ordJ hP' rfl rfl (kp _ _ (lS_ne hP5 hr5) hr5) yn (by omega) fun x H2' hx kp2' hP2' => ?_)⟩
        refine ⟨_, kp2' _ _ hpD.1.symm hD, ?_, ds ++ [x], ?_, ?_, ?_, (kp.trans kp2').new nD, hP2'.new hpD.1 hpD.2⟩
        · rw [List.length_map]
          exact sz_lt (by omega)
        · rw [List.length_append, hds]
          rfl
        · intro d hd
          rcases List.mem_append.mp hd with a | a
          · exact hdm d a
          · rw [List.mem_singleton.mp a]
            exact hx
        · rw [upd_same, lS_add]
      rintro H6 ⟨ws, hws, hwm, hD6, kp6, hP6⟩
      rw [Int.toNat_natCast] at hws
      have hs6 := hs5.keep hP5 kp6
      have hr6 := kp6 _ _ (lS_ne hP5 hr5) hr5
      have hs60 := hs6
      obtain ⟨ao, ap, ac, h0, h1, h2, h3⟩ := hs6
      obtain ⟨x0, os', ho⟩ : ∃ x r, os = x :: r := by
        cases os with
        | nil => exact absurd hS.o1 (by decide)
        | cons x r => exact ⟨x, r, rfl⟩
      obtain ⟨y0, qs', hq⟩ : ∃ x r, qs = x :: r := by
        cases qs with
        | nil => exact absurd hS.c1 (by decide)
        | cons x r => exact ⟨x, r, rfl⟩
      have hx0 : atI (os.map V.str) 0 = some (.str x0) := by
        rw [ho]
        exact (show atI _ ((0 : Nat) : Int) = _ from atI_nat rfl)
      have hy0 : atI (qs.map V.str) 0 = some (.str y0) := by
        rw [hq]
        exact (show atI _ ((0 : Nat) : Int) = _ from atI_nat rfl)
      have mx0 : x0 ∈ os ++ ps ++ qs := List.mem_append_left _ (List.mem_append_left _ (by rw [ho]; exact List.mem_cons_self ..))
      have my0 : y0 ∈ os ++ ps ++ qs := List.mem_append_right _ (by rw [hq]; exact List.mem_cons_self ..)
      have lx0 := (lt8 _ mx0).len8
      have ly0 := (lt8 _ my0).len8
      have px0 : 0 < x0.length := by rw [len_cs]; exact (lt8 _ mx0).2.1
      have l8 : (repS (Str.ofString "x") 8).length = 8 := by decide +kernel
      have l1 : (Str.ofString " ").length = 1 := by decide +kernel
      have n2 : ¬ (x0 ++ repS (Str.ofString "x") 8) ∈ os ++ ps ++ qs := fun z => by
        have := (lt8 _ z).len8
        rw [app_len, l8] at this
        omega
      refine ⟨_, rfl, sh, _, 0, .ref ao, rfl, rfl, st_of h0, rfl, ao, _, 0, .str x0, rfl, rfl, st_of h1, hx0, _, 8, rfl, rfl, (by decide +kernel), (by decide), _, _, rfl, rfl, sz _ (by rw [l8]; omega), _, rfl, sh, _, 2, .ref ac, rfl, rfl, st_of h0, rfl, ac, _, 0, .str y0, rfl, rfl, st_of h3, hy0, _, _, rfl, rfl, sz _ (by rw [l1]; omega), _, rfl, sh, _, 0, .ref ao, rfl, rfl, st_of h0, rfl, ao, _, 0, .str x0, rfl, rfl, st_of h1, hx0, _, _, rfl, rfl, sz _ (by rw [l1]; omega), _, rfl, sh, _, 0, .ref ao, rfl, rfl, st_of h0, rfl, ao, _, 0, .str x0, rfl, rfl, st_of h1, hx0, ⟨_, rfl⟩, x0, rfl, rfl, by omega, sz 7 (by decide), fun m1 nm1 => ?_⟩
      have x7 : Ex H6 _ := Ex.new (o := lS [Str.ofString "", Str.ofString "A", x0 ++ repS (Str.ofString "x") 8, Str.ofString " " ++ y0, x0 ++ Str.ofString " ", Txt.upper x0, Str.ofString "\n"]) nm1
      refine ⟨_, rfl, _, rfl, sh, os, ps, qs, rfl, hS, hs60.ex x7, fun z H8 nz e8 => ⟨sz 1 (by decide), fun m2 nm2 => ⟨m2, 3, _, rfl, rfl, upd_same, by decide, by decide, sz 3 (by decide), fun m3 nm3 => ?_⟩⟩⟩
      have x9 := (e8.trans (Ex.new (o := lS [z]) nm2)).trans (Ex.new (o := lS [z, z, z]) nm3)
      refine ⟨m1, m3, _, _, rfl, rfl, x9 _ _ upd_same, upd_same, sz 10 (by decide), fun m nm => ?_⟩
      have x10 := (x7.trans x9).trans (Ex.new (o := lS (tenW x0 y0 z)) nm)
      have mD : m ≠ D := fun e => by
        rw [e] at nm
        have := (x7.trans x9) _ _ hD6
        have z2 : (none : Option HO) = some (lS ws) := nm.symm.trans this
        cases z2
      have ten : ∀ x ∈ tenW x0 y0 z, ¬ x ∈ os ++ ps ++ qs := fun x hx => by
        rcases List.mem_cons.mp hx with rfl | hx
        · exact odd0 lt8
        rcases List.mem_cons.mp hx with rfl | hx
        · exact odd1 lt8
        rcases List.mem_cons.mp hx with rfl | hx
        · exact n2
        rcases List.mem_cons.mp hx with rfl | hx
        · exact odd3 lt8 y0
        rcases List.mem_cons.mp hx with rfl | hx
        · exact odd4 lt8 x0
        rcases List.mem_cons.mp hx with rfl | hx
        · exact odd5 lt8 mx0
        rcases List.mem_cons.mp hx with rfl | hx
        · exact oddN lt8
        rcases List.mem_cons.mp hx with rfl | hx
        · exact nz
        rcases List.mem_cons.mp hx with rfl | hx
        · exact nz
        rw [List.mem_singleton.mp hx]
        exact nz
      have S10 : T5 p c ms sh r D m os ps qs (tenW x0 y0 z) ws _ := ⟨hP6.ex x10, hs60.ex x10, x10 _ _ hr6, upd_same, x10 _ _ hD6⟩
      refine ⟨_, rfl, _, rfl, D, _, rfl, .inl (sq_of S10.hD), _, _, rfl, rfl, p, c, ms, _, rfl, by rw [List.length_map]; omega, by rw [List.length_map]; omega, S10.pot, fun at_ H11 hat kp11 hP11 => ?_⟩
      rw [List.length_map] at hat
      have S11 := S10.keep kp11 hP11
      refine ⟨_, rfl, _, rfl, D, _, rfl, .inl (sq_of S11.hD), _, _, rfl, rfl, p, c, ms, _, rfl, by rw [List.length_map]; omega, by rw [List.length_map]; omega, S11.pot, fun to H12 hto kp12 hP12 => ?_⟩
      rw [List.length_map] at hto
      have S12 := S11.keep kp12 hP12
      have t10 : (tenW x0 y0 z).length = 10 := rfl
      generalize tenW x0 y0 z = TT at ten S12 t10
      clear S10 S11
      -- the first one put in
      refine ⟨_, rfl, .inl ⟨rfl, _, sq_of S12.hD⟩, _, rfl, _, rfl, _, rfl, p, c, ms, 10, rfl, by decide, by decide, S12.pot, fun v H13 hv kp13 hP13 => ?_⟩
      have S13 := S12.keep kp13 hP13
      have hv' : v < TT.length := by omega
      refine ⟨m, _, _, .str TT[v], rfl, rfl, sq_of S13.hm, atI_nat (by rw [List.getElem?_map, List.getElem?_eq_getElem hv']; rfl), D, _, _, _, rfl, rfl, S13.hD, sz_lt (by rw [List.length_map]; omega), by omega, by omega, ?_⟩
      rw [Int.toNat_natCast, insW_map]
      have S14 := S13.set (W' := insW ws at_ TT[v]) hpD.1 hpD.2 rD mD
      have b14 : ∃ x ∈ insW ws at_ TT[v], ¬ x ∈ os ++ ps ++ qs := ⟨_, insW_mem _ _ _, ten _ (List.getElem_mem hv')⟩
      have l14 : (insW ws at_ TT[v]).length = ws.length + 1 := insW_len _ _ _
      refine ⟨fun σ' H' => ∃ W2 : List Str, σ' = [some (.ref a), some (.ref p), some (.int (0 + (i : Int))), some (.ref sh), some (.ref r), some (.ref D), some (.ref m), some (.int (at_ : Int)), some (.int (to : Int)), y9, y10, none] ∧ T5 p c ms sh r D m os ps qs TT W2 H' ∧ (∃ x ∈ W2, ¬ x ∈ os ++ ps ++ qs) ∧ W2.length ≤ 30, ?_, ?_⟩
      · refine ⟨_, rfl, p, c, ms, 2, rfl, by decide, by decide, S14.pot, fun b H15 hb kp15 hP15 => ?_⟩
        have S15 := S14.keep kp15 hP15
        refine ⟨rfl, _, rfl, ite2 (fun _ => ?_) (fun _ => ⟨_, rfl, S15, b14, by omega⟩)⟩
        refine ⟨_, rfl, .inl ⟨rfl, _, sq_of S15.hD⟩, _, rfl, _, rfl, _, rfl, p, c, ms, 10, rfl, by decide, by decide, S15.pot, fun v2 H16 hv2 kp16 hP16 => ?_⟩
        have S16 := S15.keep kp16 hP16
        have hv2' : v2 < TT.length := by omega
        refine ⟨m, _, _, .str TT[v2], rfl, rfl, sq_of S16.hm, atI_nat (by rw [List.getElem?_map, List.getElem?_eq_getElem hv2']; rfl), D, _, _, _, rfl, rfl, S16.hD, sz_lt (by rw [List.length_map]; omega), by omega, by omega, ?_⟩
        rw [Int.toNat_natCast, insW_map]
        refine ⟨_, rfl, S16.set (W' := insW (insW ws at_ TT[v]) to TT[v2]) hpD.1 hpD.2 rD mD, ?_, by rw [insW_len]; omega⟩
        obtain ⟨x, hx, hxn⟩ := b14
        exact ⟨x, insW_old hx, hxn⟩
      rintro σ' H17 ⟨W, rfl, S17, hbad, hWl⟩
      obtain ⟨b, hb⟩ := bad_first W hbad
      have hbl : b < W.length := by
        obtain ⟨x, hx, _⟩ := hb
        exact (List.getElem?_eq_some_iff.mp hx).1
      -- first
      have fst := el_lcR1 (σ := [some (V.ref a), some (.ref p), some (.int (0 + (i : Int))), some (.ref sh), some (.ref r), some (.ref D), some (.ref m), some (.int (at_ : Int)), some (.int (to : Int)), y9, y10, none]) (H := H17) (t := tTest (tOp (rIn K true) (tOp (rIxL K) (tVar 5) (tVar 11)) (tVar 4))) (te := tVar 11) (ta := tCons (tCB (rLenS K) (tCons (tVar 5) tNil)) tNil) (j := 11) (vs := [11]) (fun k => !decide (W.getD k "" ∈ os ++ ps ++ qs)) (fun k => V.int (k : Int)) (ea_cons (ev_len (ev_var rfl) (sq_of S17.hD)) ea_nil) (by rw [List.length_map]; omega) (fun x => rfl) (fun k H18 e18 hk => ?_) (fun k H18 e18 hk _ => ev_var rfl)
      · show tSeq (tAsg (tCB (rMin K) (tCons (tLc (iRng1 (tCons (tCB (rLenS K) (tCons (tVar 5) tNil)) tNil)) (gName 11) (tTest (tOp (rIn K true) (tOp (rIxL K) (tVar 5) (tVar 11)) (tVar 4))) (tVar 11) [11]) tNil)) (gName 9)) _ _ [some (V.ref a), some (.ref p), some (.int (0 + (i : Int))), some (.ref sh), some (.ref r), some (.ref D), some (.ref m), some (.int (at_ : Int)), some (.int (to : Int)), y9, y10, none] H17
        unfold tSeq tAsg tCB tCons
        refine fst _ (Ex.refl _) _ fun u H19 nu e19 hu => ?_
        rw [List.length_map, Int.toNat_natCast] at hu
        have hns' : given W.length (fun k => !decide (W.getD k "" ∈ os ++ ps ++ qs)) (fun k => V.int (k : Int)) = (((List.range W.length).filter fun k => !decide (W.getD k "" ∈ os ++ ps ++ qs)).map fun k : Nat => (k : Int)).map V.int := by
          unfold given
          rw [List.map_map]
          rfl
        rw [hns'] at hu
        have inb : (b : Int) ∈ (((List.range W.length).filter fun k => !decide (W.getD k "" ∈ os ++ ps ++ qs)).map fun k : Nat => (k : Int)) := by
          refine List.mem_map.mpr ⟨b, List.mem_filter.mpr ⟨List.mem_range.mpr hbl, ?_⟩, rfl⟩
          obtain ⟨x, hx, hxn, _⟩ := hb
          rw [List.getD_eq_getElem?_getD, hx]
          show (!decide (x ∈ os ++ ps ++ qs)) = true
          rw [decide_eq_false hxn]
          rfl
        refine ⟨u, _, rfl, sq_of hu, List.length_pos_of_mem inb, fun mm hm hle => ?_⟩
        have emm : mm = (b : Int) := by
          obtain ⟨k, hk, rfl⟩ := List.mem_map.mp hm
          obtain ⟨hk1, hk2⟩ := List.mem_filter.mp hk
          have hk1' := List.mem_range.mp hk1
          have h1 := hle _ inb
          have h2 : ¬ k < b := fun hlt => by
            obtain ⟨x, _, _, hpre⟩ := hb
            have := hpre k W[k] hlt (List.getElem?_eq_getElem hk1')
            rw [List.getD_eq_getElem?_getD, List.getElem?_eq_getElem hk1', Option.getD_some, decide_eq_true this] at hk2
            cases hk2
          omega
        subst emm
        have S19 := S17.ex e19
        refine ⟨4, rfl, by decide, by decide, for_range (lo := 0) (n := 4) (fun j σ H' => (∃ y10, σ = [some (.ref a), some (.ref p), some (.int (0 + (i : Int))), some (.ref sh), some (.ref r), some (.ref D), some (.ref m), some (.int (at_ : Int)), some (.int (to : Int)), some (.int (b : Int)), y10, none]) ∧ Ex H19 H') ⟨⟨_, rfl⟩, Ex.refl _⟩ ?_ ?_⟩
        · rintro j σ H20 hj ⟨⟨y10', rfl⟩, e20⟩
          have S20 := S19.ex e20
          rw [Int.zero_add (j : Int)]
          refine ⟨_, rfl, _, rfl, _, rfl, D, _, rfl, .inl (sq_of S20.hD), fun c1 nc1 => ?_⟩
          have w1 : Ex H20 _ := Ex.new (o := lS W) nc1
          refine ⟨sh, c1, os, ps, qs, W, b, j, rfl, hj, hS, S20.sh.ex w1, sq_of upd_same, by omega, hb, fun tt H21 e21 ht => ?_⟩
          refine ⟨_, rfl, sz 2 (by decide), fun u2 nu2 => ?_⟩
          have w2 : Ex H21 _ := Ex.new (o := .tup [.str "letter", .int (b : Int)]) nu2
          refine ⟨.tuple [.str "letter", .int (b : Int)], .tuple [.str "letter", .int (b : Int)], .tup (st_of (w2 _ _ ht)) (.cons (.str _) (.cons (.int _) .nil)), .tup (st_of upd_same) (.cons (.str _) (.cons (.int _) .nil)), shaped_two (by decide +kernel) _, shaped_two (by decide +kernel) _, _, rfl, ?_⟩
          rw [show PyData.eqv (.tuple [.str "letter", .int (b : Int)]) (.tuple [.str "letter", .int (b : Int)]) = true from SeqAt.eqv_refl _ (lay_two (by decide +kernel) _)]
          exact iteF ⟨⟨_, rfl⟩, ((e20.trans w1).trans e21).trans w2⟩
        · rintro σ H20 ⟨⟨y10', rfl⟩, e20⟩
          exact ⟨S19.pot.ex e20, _, _, _, _, _, _, _, _, _, rfl⟩
      · have hk' : k < W.length := by rw [List.length_map] at hk; omega
        refine et_is (et_test (ev_op (ev_op (ev_var rfl) (ev_var rfl) (rv_ixL (sq_of (e18 _ _ S17.hD)) (str_at (List.getElem?_eq_getElem hk')))) (ev_var rfl) (rv_niL (sq_of (e18 _ _ S17.hr)) rfl (flat_str _)))) ?_
        rw [inV_s, List.getD_eq_getElem?_getD, List.getElem?_eq_getElem hk']
        rfl
    · rintro σ H2 ⟨hP2, y2, y3, y4, y5, y6, y7, y8, y9, y10, rfl⟩
      refine ⟨_, rfl, 10, 30, rfl, rfl, ⟨by decide, by decide, by decide⟩, p, c, ms, _, rfl, by decide, by decide, hP2, fun v H3 hv kp3 hP3 => ⟨_, rfl, log2_30 hv, fun H' => q H'⟩⟩
end
end Eh
set_option Elab.async false
set_option linter.all false
set_option maxRecDepth 100000
set_option maxHeartbeats 4000000
namespace Eh
open PySem PySem.Spec PyProof.Rows L2 NdefX
section
variable {K : PySem.W.Frag} {C D : Addr}
theorem kit_yes (ty : PySem.W.typeIn K (.ref D) = some (.type "type")) (is : PySem.W.isClsIn K D = true) (sub : PySem.W.subIn K (.ref C) (.ref D) = some true) : PySem.W.kitOne K (.ref C) (.ref D) = some true := by
  unfold PySem.W.kitOne
  split
  · rfl
  · unfold PySem.W.kitCls
    have e : ((PySem.W.clsIn K D).isSome && PySem.W.typeIn K (.ref D) == some (.type "type")) = true := by
      rw [ty, show (PySem.W.clsIn K D).isSome = true from is]
      rfl
    simp only [e, if_true]
    exact sub
theorem kit_no (ty : PySem.W.typeIn K (.ref D) = some (.type "type")) (is : PySem.W.isClsIn K D = true) (sub : PySem.W.subIn K (.ref C) (.ref D) = some false) (me : PySem.W.subIn K (.ref C) (.ref C) = some true) : PySem.W.kitOne K (.ref C) (.ref D) = some false := by
  unfold PySem.W.kitOne
  split
  · rename_i h
    have z : C = D := Value.ref.inj (beq_iff_eq.mp h)
    rw [← z, me] at sub
    cases sub
  · unfold PySem.W.kitCls
    have e : ((PySem.W.clsIn K D).isSome && PySem.W.typeIn K (.ref D) == some (.type "type")) = true := by
      rw [ty, show (PySem.W.clsIn K D).isSome = true from is]
      rfl
    simp only [e, if_true]
    exact sub
theorem kit_val (sub : PySem.W.subIn K (.ref C) (.type "ValueError") = some true) : PySem.W.kitOne K (.ref C) (.type "ValueError") = some true := by
  unfold PySem.W.kitOne
  rw [if_neg (by simp)]
  unfold PySem.W.kitCls
  have e : PySem.W.kitMeta "ValueError" = true := by decide +kernel
  simp only [e, if_true]
  exact sub
end
/-- f'..{f}' of two parts -/
theorem txt_two {st : Stmt} {f t : Str} {p1 p2 p3 p4 : Pos} (kf : (defScope st).names.lookup f = some .local) (f1 : (f == ("__debug__" : Str)) = false) (f2 : (f == ("__classdict__" : Str)) = false) (ht : t.length ≤ 1000) : ∀ X : Cx, X.N = (["self", f, "__class__"] : List Str) → X.env.scope = defScope st → ∃ tJ : TE, PE X (.JoinedStr [.Constant (.str t) 0 p1, .FormattedValue (.Name f p2) (-1) none p3] p4) tJ ∧ ∀ (σ : L2.St) (H : Hp) (n : Int) (Q : VK), n.natAbs.log2 < 1900 → σ[1]? = some (some (V.int n)) → (∀ z : Str, Q (.str z) H) → tJ σ H Q := by
  intro X eN eS
  refine ⟨_, pe_joined (.cons pe_str (.cons (pe_fmt (pe_var (i := 1) (by rw [eN]; rfl) (.inl (by rw [eS]; exact kf)) f1 f2)) .nil)), fun σ H n Q hn h1 q => ?_⟩
  have l1 : (Str.ofString (toString n)).length ≤ 2000 := by
    have e := int_text_length_le (k := 1920) (by decide) (show n.natAbs.log2 < 1920 by omega)
    rw [PySem.ofString_length]
    omega
  have la : ∀ a b : Str, (a ++ b).length = a.length + b.length := fun a b => by
    show (a.cps ++ b.cps).size = _
    rw [Array.size_append]
    rfl
  have l0 : Str.empty.length = 0 := rfl
  refine ⟨t, rfl, ?_, _, h1, .inr ⟨n, rfl, by omega, _, rfl, ?_, q _⟩⟩
  · rw [la, sizeLine_eq]
    omega
  · rw [la, la, sizeLine_eq]
    omega
/-- f'..{f}..' of three parts -/
theorem txt_three {st : Stmt} {f t t2 : Str} {p1 p2 p3 p4 p5 : Pos} (kf : (defScope st).names.lookup f = some .local) (f1 : (f == ("__debug__" : Str)) = false) (f2 : (f == ("__classdict__" : Str)) = false) (ht : t.length ≤ 1000 ∧ t2.length ≤ 1000) : ∀ X : Cx, X.N = (["self", f, "__class__"] : List Str) → X.env.scope = defScope st → ∃ tJ : TE, PE X (.JoinedStr [.Constant (.str t) 0 p1, .FormattedValue (.Name f p2) (-1) none p3, .Constant (.str t2) 0 p5] p4) tJ ∧ ∀ (σ : L2.St) (H : Hp) (n : Int) (Q : VK), n.natAbs.log2 < 1900 → σ[1]? = some (some (V.int n)) → (∀ z : Str, Q (.str z) H) → tJ σ H Q := by
  intro X eN eS
  refine ⟨_, pe_joined (.cons pe_str (.cons (pe_fmt (pe_var (i := 1) (by rw [eN]; rfl) (.inl (by rw [eS]; exact kf)) f1 f2)) (.cons pe_str .nil))), fun σ H n Q hn h1 q => ?_⟩
  have l1 : (Str.ofString (toString n)).length ≤ 2000 := by
    have e := int_text_length_le (k := 1920) (by decide) (show n.natAbs.log2 < 1920 by omega)
    rw [PySem.ofString_length]
    omega
  have la : ∀ a b : Str, (a ++ b).length = a.length + b.length := fun a b => by
    show (a.cps ++ b.cps).size = _
    rw [Array.size_append]
    rfl
  have l0 : Str.empty.length = 0 := rfl
  obtain ⟨ht, ht2⟩ := ht
  refine ⟨t, rfl, ?_, _, h1, .inr ⟨n, rfl, by omega, _, rfl, ?_, t2, rfl, ?_, q _⟩⟩
  · rw [la, sizeLine_eq]
    omega
  · rw [la, la, sizeLine_eq]
    omega
  · rw [la, la, la, sizeLine_eq]
    omega
end Eh
set_option Elab.async false
set_option linter.all false
set_option maxRecDepth 100000
set_option maxHeartbeats 4000000
namespace Eh
open PySem PySem.Spec PyProof.Rows L2 Evl NdefX
theorem all_mk {l : PySem.W.OpenLaw} {w : World} {K : PySem.W.Frag} {h : Heap} {mg : Str → Option Value} {fa f0 f1 f2 f3 f4 f5 f6 f7 f8 f9 f10 f11 f12 f13 f14 f15 f16 f17 f18 : Addr} (X : K.In h) (G : h.Ns mainGlobals mg) (hfa : mg "law" = some (.ref fa))
    {od0 an0 : Option Addr} {sl0 : Array (Option Value)} {oc0 kV0 dc0 pm0 cd0 ct0 : Value}
    {od1 an1 : Option Addr} {sl1 : Array (Option Value)} {oc1 kV1 dc1 pm1 cd1 ct1 : Value}
    {od2 an2 : Option Addr} {sl2 : Array (Option Value)} {oc2 kV2 dc2 pm2 cd2 ct2 : Value}
    {od3 an3 : Option Addr} {sl3 : Array (Option Value)} {oc3 kV3 dc3 pm3 cd3 ct3 : Value}
    {od4 an4 : Option Addr} {sl4 : Array (Option Value)} {oc4 kV4 dc4 pm4 cd4 ct4 : Value}
    {od5 an5 : Option Addr} {sl5 : Array (Option Value)} {oc5 kV5 dc5 pm5 cd5 ct5 : Value}
    {od6 an6 : Option Addr} {sl6 : Array (Option Value)} {oc6 kV6 dc6 pm6 cd6 ct6 : Value}
    {od7 an7 : Option Addr} {sl7 : Array (Option Value)} {oc7 kV7 dc7 pm7 cd7 ct7 : Value}
    {od8 an8 : Option Addr} {sl8 : Array (Option Value)} {oc8 kV8 dc8 pm8 cd8 ct8 : Value}
    {od9 an9 : Option Addr} {sl9 : Array (Option Value)} {oc9 kV9 dc9 pm9 cd9 ct9 : Value}
    {od10 an10 : Option Addr} {sl10 : Array (Option Value)} {oc10 kV10 dc10 pm10 cd10 ct10 : Value}
    {od11 an11 : Option Addr} {sl11 : Array (Option Value)} {oc11 kV11 dc11 pm11 cd11 ct11 : Value}
    {od12 an12 : Option Addr} {sl12 : Array (Option Value)} {oc12 kV12 dc12 pm12 cd12 ct12 : Value}
    {od13 an13 : Option Addr} {sl13 : Array (Option Value)} {oc13 kV13 dc13 pm13 cd13 ct13 : Value}
    {od14 an14 : Option Addr} {sl14 : Array (Option Value)} {oc14 kV14 dc14 pm14 cd14 ct14 : Value}
    {od15 an15 : Option Addr} {sl15 : Array (Option Value)} {oc15 kV15 dc15 pm15 cd15 ct15 : Value}
    {od16 an16 : Option Addr} {sl16 : Array (Option Value)} {oc16 kV16 dc16 pm16 cd16 ct16 : Value}
    {od17 an17 : Option Addr} {sl17 : Array (Option Value)} {oc17 kV17 dc17 pm17 cd17 ct17 : Value}
    {od18 an18 : Option Addr} {sl18 : Array (Option Value)} {oc18 kV18 dc18 pm18 cd18 ct18 : Value}
    {CH C0 C1 C2 C3 C4 C5 C6 C7 C8 C9 C10 : Addr}
    {nm0 qn0 : Str} {N0 : Addr} {bs0 : List Value} {sn0 : List Str} {su0 : List Value} {ab0 : Bool} {co0 : Option Bool} {dd0 : Option Addr} {m00 m10 m20 m30 m50 : Option Value}
    {fI0 cda0 cel0 : Addr} {ocI0 kVI0 dcI0 pmI0 ctI0 cl0 ccl0 : Value} {odI0 anI0 cld0 cdd0 : Option Addr} {slI0 csl0 ccs0 : Array (Option Value)} {vsC0 : Array Value} {fil0 : Str} {tf0 : Tok}
    {nm1 qn1 : Str} {N1 : Addr} {bs1 : List Value} {sn1 : List Str} {su1 : List Value} {ab1 : Bool} {co1 : Option Bool} {dd1 : Option Addr} {m01 m11 m21 m31 m51 : Option Value}
    {fI1 cda1 cel1 : Addr} {ocI1 kVI1 dcI1 pmI1 ctI1 cl1 ccl1 : Value} {odI1 anI1 cld1 cdd1 : Option Addr} {slI1 csl1 ccs1 : Array (Option Value)} {vsC1 : Array Value} {fil1 : Str} {tf1 : Tok}
    {nm2 qn2 : Str} {N2 : Addr} {bs2 : List Value} {sn2 : List Str} {su2 : List Value} {ab2 : Bool} {co2 : Option Bool} {dd2 : Option Addr} {m02 m12 m22 m32 m52 : Option Value}
    {fI2 cda2 cel2 : Addr} {ocI2 kVI2 dcI2 pmI2 ctI2 cl2 ccl2 : Value} {odI2 anI2 cld2 cdd2 : Option Addr} {slI2 csl2 ccs2 : Array (Option Value)} {vsC2 : Array Value} {fil2 : Str} {tf2 : Tok}
    {nm3 qn3 : Str} {N3 : Addr} {bs3 : List Value} {sn3 : List Str} {su3 : List Value} {ab3 : Bool} {co3 : Option Bool} {dd3 : Option Addr} {m03 m13 m23 m33 m53 : Option Value}
    {fI3 cda3 cel3 : Addr} {ocI3 kVI3 dcI3 pmI3 ctI3 cl3 ccl3 : Value} {odI3 anI3 cld3 cdd3 : Option Addr} {slI3 csl3 ccs3 : Array (Option Value)} {vsC3 : Array Value} {fil3 : Str} {tf3 : Tok}
    {nm4 qn4 : Str} {N4 : Addr} {bs4 : List Value} {sn4 : List Str} {su4 : List Value} {ab4 : Bool} {co4 : Option Bool} {dd4 : Option Addr} {m04 m14 m24 m34 m54 : Option Value}
    {fI4 cda4 cel4 : Addr} {ocI4 kVI4 dcI4 pmI4 ctI4 cl4 ccl4 : Value} {odI4 anI4 cld4 cdd4 : Option Addr} {slI4 csl4 ccs4 : Array (Option Value)} {vsC4 : Array Value} {fil4 : Str} {tf4 : Tok}
    (a0 : PySem.W.nsIn K mainGlobals "order_of" = some (some (.ref f0)))
    (l0 : K.lookup f0 = some ⟨oc0, od0, .func (PySem.W.fnOf "order_of" "order_of" (defArgs sOrderOf) (defBody sOrderOf) (defScope sOrderOf) .none kV0 dc0 pm0 an0 cd0 ct0), sl0⟩)
    (c0 : PySem.W.codeIn K cd0 "order_of" = true)
    (k0 : PySem.W.keepIn K (.ref f0) = true)
    (a1 : PySem.W.nsIn K mainGlobals "need_word" = some (some (.ref f1)))
    (l1 : K.lookup f1 = some ⟨oc1, od1, .func (PySem.W.fnOf "need_word" "need_word" (defArgs sNeedWord) (defBody sNeedWord) (defScope sNeedWord) .none kV1 dc1 pm1 an1 cd1 ct1), sl1⟩)
    (c1 : PySem.W.codeIn K cd1 "need_word" = true)
    (k1 : PySem.W.keepIn K (.ref f1) = true)
    (a2 : PySem.W.nsIn K mainGlobals "answers" = some (some (.ref f2)))
    (l2 : K.lookup f2 = some ⟨oc2, od2, .func (PySem.W.fnOf "answers" "answers" (defArgs sAnswers) (defBody sAnswers) (defScope sAnswers) .none kV2 dc2 pm2 an2 cd2 ct2), sl2⟩)
    (c2 : PySem.W.codeIn K cd2 "answers" = true)
    (k2 : PySem.W.keepIn K (.ref f2) = true)
    (a3 : PySem.W.nsIn K mainGlobals "alone" = some (some (.ref f3)))
    (l3 : K.lookup f3 = some ⟨oc3, od3, .func (PySem.W.fnOf "alone" "alone" (defArgs sAlone) (defBody sAlone) (defScope sAlone) .none kV3 dc3 pm3 an3 cd3 ct3), sl3⟩)
    (c3 : PySem.W.codeIn K cd3 "alone" = true)
    (k3 : PySem.W.keepIn K (.ref f3) = true)
    (a4 : PySem.W.nsIn K mainGlobals "need_shut" = some (some (.ref f4)))
    (l4 : K.lookup f4 = some ⟨oc4, od4, .func (PySem.W.fnOf "need_shut" "need_shut" (defArgs sNeedShut) (defBody sNeedShut) (defScope sNeedShut) .none kV4 dc4 pm4 an4 cd4 ct4), sl4⟩)
    (c4 : PySem.W.codeIn K cd4 "need_shut" = true)
    (k4 : PySem.W.keepIn K (.ref f4) = true)
    (a5 : PySem.W.nsIn K mainGlobals "is_shut" = some (some (.ref f5)))
    (l5 : K.lookup f5 = some ⟨oc5, od5, .func (PySem.W.fnOf "is_shut" "is_shut" (defArgs sIsShut) (defBody sIsShut) (defScope sIsShut) .none kV5 dc5 pm5 an5 cd5 ct5), sl5⟩)
    (c5 : PySem.W.codeIn K cd5 "is_shut" = true)
    (k5 : PySem.W.keepIn K (.ref f5) = true)
    (a6 : PySem.W.nsIn K mainGlobals "depth_of" = some (some (.ref f6)))
    (l6 : K.lookup f6 = some ⟨oc6, od6, .func (PySem.W.fnOf "depth_of" "depth_of" (defArgs sDepthOf) (defBody sDepthOf) (defScope sDepthOf) .none kV6 dc6 pm6 an6 cd6 ct6), sl6⟩)
    (c6 : PySem.W.codeIn K cd6 "depth_of" = true)
    (k6 : PySem.W.keepIn K (.ref f6) = true)
    (a7 : PySem.W.nsIn K mainGlobals "boughs" = some (some (.ref f7)))
    (l7 : K.lookup f7 = some ⟨oc7, od7, .func (PySem.W.fnOf "boughs" "boughs" (defArgs sBoughs) (defBody sBoughs) (defScope sBoughs) .none kV7 dc7 pm7 an7 cd7 ct7), sl7⟩)
    (c7 : PySem.W.codeIn K cd7 "boughs" = true)
    (k7 : PySem.W.keepIn K (.ref f7) = true)
    (a8 : PySem.W.nsIn K mainGlobals "_law_blend" = some (some (.ref f8)))
    (l8 : K.lookup f8 = some ⟨oc8, od8, .func (PySem.W.fnOf "_law_blend" "_law_blend" (defArgs sBlend) (defBody sBlend) (defScope sBlend) .none kV8 dc8 pm8 an8 cd8 ct8), sl8⟩)
    (c8 : PySem.W.codeIn K cd8 "_law_blend" = true)
    (k8 : PySem.W.keepIn K (.ref f8) = true)
    (a9 : PySem.W.nsIn K mainGlobals "_law_pot" = some (some (.ref f9)))
    (l9 : K.lookup f9 = some ⟨oc9, od9, .func (PySem.W.fnOf "_law_pot" "_law_pot" (defArgs sPot) (defBody sPot) (defScope sPot) .none kV9 dc9 pm9 an9 cd9 ct9), sl9⟩)
    (c9 : PySem.W.codeIn K cd9 "_law_pot" = true)
    (k9 : PySem.W.keepIn K (.ref f9) = true)
    (a10 : PySem.W.nsIn K mainGlobals "_law_pick" = some (some (.ref f10)))
    (l10 : K.lookup f10 = some ⟨oc10, od10, .func (PySem.W.fnOf "_law_pick" "_law_pick" (defArgs sPick) (defBody sPick) (defScope sPick) .none kV10 dc10 pm10 an10 cd10 ct10), sl10⟩)
    (c10 : PySem.W.codeIn K cd10 "_law_pick" = true)
    (k10 : PySem.W.keepIn K (.ref f10) = true)
    (a11 : PySem.W.nsIn K mainGlobals "_law_letters" = some (some (.ref f11)))
    (l11 : K.lookup f11 = some ⟨oc11, od11, .func (PySem.W.fnOf "_law_letters" "_law_letters" (defArgs sLetters) (defBody sLetters) (defScope sLetters) .none kV11 dc11 pm11 an11 cd11 ct11), sl11⟩)
    (c11 : PySem.W.codeIn K cd11 "_law_letters" = true)
    (k11 : PySem.W.keepIn K (.ref f11) = true)
    (a12 : PySem.W.nsIn K mainGlobals "_law_sheet" = some (some (.ref f12)))
    (l12 : K.lookup f12 = some ⟨oc12, od12, .func (PySem.W.fnOf "_law_sheet" "_law_sheet" (defArgs sSheet) (defBody sSheet) (defScope sSheet) .none kV12 dc12 pm12 an12 cd12 ct12), sl12⟩)
    (c12 : PySem.W.codeIn K cd12 "_law_sheet" = true)
    (k12 : PySem.W.keepIn K (.ref f12) = true)
    (a13 : PySem.W.nsIn K mainGlobals "_law_order" = some (some (.ref f13)))
    (l13 : K.lookup f13 = some ⟨oc13, od13, .func (PySem.W.fnOf "_law_order" "_law_order" (defArgs sOrder) (defBody sOrder) (defScope sOrder) .none kV13 dc13 pm13 an13 cd13 ct13), sl13⟩)
    (c13 : PySem.W.codeIn K cd13 "_law_order" = true)
    (k13 : PySem.W.keepIn K (.ref f13) = true)
    (a14 : PySem.W.nsIn K mainGlobals "_law_kind" = some (some (.ref f14)))
    (l14 : K.lookup f14 = some ⟨oc14, od14, .func (PySem.W.fnOf "_law_kind" "_law_kind" (defArgs sKind) (defBody sKind) (defScope sKind) .none kV14 dc14 pm14 an14 cd14 ct14), sl14⟩)
    (c14 : PySem.W.codeIn K cd14 "_law_kind" = true)
    (k14 : PySem.W.keepIn K (.ref f14) = true)
    (a15 : PySem.W.nsIn K mainGlobals "_law_strange" = some (some (.ref f15)))
    (l15 : K.lookup f15 = some ⟨oc15, od15, .func (PySem.W.fnOf "_law_strange" "_law_strange" (defArgs sStrange) (defBody sStrange) (defScope sStrange) .none kV15 dc15 pm15 an15 cd15 ct15), sl15⟩)
    (c15 : PySem.W.codeIn K cd15 "_law_strange" = true)
    (k15 : PySem.W.keepIn K (.ref f15) = true)
    (a16 : PySem.W.nsIn K mainGlobals "_law_told" = some (some (.ref f16)))
    (l16 : K.lookup f16 = some ⟨oc16, od16, .func (PySem.W.fnOf "_law_told" "_law_told" (defArgs sTold) (defBody sTold) (defScope sTold) .none kV16 dc16 pm16 an16 cd16 ct16), sl16⟩)
    (c16 : PySem.W.codeIn K cd16 "_law_told" = true)
    (k16 : PySem.W.keepIn K (.ref f16) = true)
    (a17 : PySem.W.nsIn K mainGlobals "_law_errors_right" = some (some (.ref f17)))
    (l17 : K.lookup f17 = some ⟨oc17, od17, .func (PySem.W.fnOf "_law_errors_right" "_law_errors_right" (defArgs sLawErrorsRight) (defBody sLawErrorsRight) (defScope sLawErrorsRight) .none kV17 dc17 pm17 an17 cd17 ct17), sl17⟩)
    (c17 : PySem.W.codeIn K cd17 "_law_errors_right" = true)
    (k17 : PySem.W.keepIn K (.ref f17) = true)
    (a18 : PySem.W.nsIn K mainGlobals "law" = some (some (.ref f18)))
    (l18 : K.lookup f18 = some ⟨oc18, od18, .func (PySem.W.fnOf "law" "law" (defArgs sLaw) (defBody sLaw) (defScope sLaw) .none kV18 dc18 pm18 an18 cd18 ct18), sl18⟩)
    (c18 : PySem.W.codeIn K cd18 "law" = true)
    (k18 : PySem.W.keepIn K (.ref f18) = true)
    (z0 : PySem.W.nsIn K mainGlobals "len" = some none)
    (z1 : PySem.W.nsIn K mainGlobals "list" = some none)
    (z2 : PySem.W.nsIn K mainGlobals "enumerate" = some none)
    (z3 : PySem.W.nsIn K mainGlobals "range" = some none)
    (z4 : PySem.W.nsIn K mainGlobals "min" = some none)
    (z5 : PySem.W.nsIn K mainGlobals "tuple" = some none)
    (z6 : PySem.W.nsIn K mainGlobals "isinstance" = some none)
    (z7 : PySem.W.nsIn K mainGlobals "int" = some none)
    (z8 : PySem.W.nsIn K mainGlobals "ValueError" = some none)
    (aH : PySem.W.nsIn K mainGlobals "HallError" = some (some (.ref CH)))
    (aC0 : PySem.W.nsIn K mainGlobals "NoLetter" = some (some (.ref C0)))
    (aC1 : PySem.W.nsIn K mainGlobals "NotShut" = some (some (.ref C1)))
    (aC2 : PySem.W.nsIn K mainGlobals "TooLong" = some (some (.ref C2)))
    (aC3 : PySem.W.nsIn K mainGlobals "NoChoice" = some (some (.ref C3)))
    (aC4 : PySem.W.nsIn K mainGlobals "NoText" = some (some (.ref C4)))
    (aC5 : PySem.W.nsIn K mainGlobals "NoSheet" = some (some (.ref C5)))
    (aC6 : PySem.W.nsIn K mainGlobals "NoOneWay" = some (some (.ref C6)))
    (aC7 : PySem.W.nsIn K mainGlobals "TooMany" = some (some (.ref C7)))
    (aC8 : PySem.W.nsIn K mainGlobals "NoStep" = some (some (.ref C8)))
    (aC9 : PySem.W.nsIn K mainGlobals "NoName" = some (some (.ref C9)))
    (aC10 : PySem.W.nsIn K mainGlobals "NoRow" = some (some (.ref C10)))
    (ty0 : PySem.W.typeIn K (.ref C0) = some (.type "type"))
    (is0 : PySem.W.isClsIn K C0 = true)
    (ty1 : PySem.W.typeIn K (.ref C1) = some (.type "type"))
    (is1 : PySem.W.isClsIn K C1 = true)
    (ty2 : PySem.W.typeIn K (.ref C2) = some (.type "type"))
    (is2 : PySem.W.isClsIn K C2 = true)
    (ty3 : PySem.W.typeIn K (.ref C3) = some (.type "type"))
    (is3 : PySem.W.isClsIn K C3 = true)
    (ty4 : PySem.W.typeIn K (.ref C4) = some (.type "type"))
    (is4 : PySem.W.isClsIn K C4 = true)
    (ty5 : PySem.W.typeIn K (.ref C5) = some (.type "type"))
    (is5 : PySem.W.isClsIn K C5 = true)
    (ty6 : PySem.W.typeIn K (.ref C6) = some (.type "type"))
    (is6 : PySem.W.isClsIn K C6 = true)
    (ty7 : PySem.W.typeIn K (.ref C7) = some (.type "type"))
    (is7 : PySem.W.isClsIn K C7 = true)
    (ty8 : PySem.W.typeIn K (.ref C8) = some (.type "type"))
    (is8 : PySem.W.isClsIn K C8 = true)
    (ty9 : PySem.W.typeIn K (.ref C9) = some (.type "type"))
    (is9 : PySem.W.isClsIn K C9 = true)
    (ty10 : PySem.W.typeIn K (.ref C10) = some (.type "type"))
    (is10 : PySem.W.isClsIn K C10 = true)
    (tyH : PySem.W.typeIn K (.ref CH) = some (.type "type"))
    (isH : PySem.W.isClsIn K CH = true)
    (exH : PySem.W.subIn K (.ref CH) (.type "BaseException") = some true)
    (hdH : PySem.W.hasDictIn K CH = true)
    (spc : PySem.W.specialIn K (.builtin "object.__class__") "__get__" = some (some (.builtin "getset_descriptor.__get__")))
    (tkc : PySem.W.takesIn K (.builtin "object.__class__") = some true)
    (sb0_0 : PySem.W.subIn K (.ref C0) (.ref C0) = some true)
    (sb0_1 : PySem.W.subIn K (.ref C0) (.ref C1) = some false)
    (sb0_2 : PySem.W.subIn K (.ref C0) (.ref C2) = some false)
    (sb0_3 : PySem.W.subIn K (.ref C0) (.ref C3) = some false)
    (sb0_4 : PySem.W.subIn K (.ref C0) (.ref C4) = some false)
    (sb0_5 : PySem.W.subIn K (.ref C0) (.ref C5) = some false)
    (sb0_6 : PySem.W.subIn K (.ref C0) (.ref C6) = some false)
    (sb0_7 : PySem.W.subIn K (.ref C0) (.ref C7) = some false)
    (sb0_8 : PySem.W.subIn K (.ref C0) (.ref C8) = some false)
    (sb0_9 : PySem.W.subIn K (.ref C0) (.ref C9) = some false)
    (sb0_10 : PySem.W.subIn K (.ref C0) (.ref C10) = some false)
    (sb0_H : PySem.W.subIn K (.ref C0) (.ref CH) = some true)
    (sv0 : PySem.W.subIn K (.ref C0) (.type "ValueError") = some true)
    (ex0 : PySem.W.subIn K (.ref C0) (.type "BaseException") = some true)
    (hd0 : PySem.W.hasDictIn K C0 = true)
    (ga0 : PySem.W.findIn K (.ref C0) "__getattribute__" = some (some (.builtin "BaseException.__getattribute__")))
    (gg0 : PySem.W.findIn K (.ref C0) "__getattr__" = some none)
    (cc0 : PySem.W.findIn K (.ref C0) "__class__" = some (some (.builtin "object.__class__")))
    (mo0 : PySem.W.mroIn K C0 (.type "object") = some true)
    (nP0 : PySem.W.findIn K (.ref C0) "place" = some none)
    (nS0 : PySem.W.findIn K (.ref C0) "size" = some none)
    (sb1_0 : PySem.W.subIn K (.ref C1) (.ref C0) = some false)
    (sb1_1 : PySem.W.subIn K (.ref C1) (.ref C1) = some true)
    (sb1_2 : PySem.W.subIn K (.ref C1) (.ref C2) = some false)
    (sb1_3 : PySem.W.subIn K (.ref C1) (.ref C3) = some false)
    (sb1_4 : PySem.W.subIn K (.ref C1) (.ref C4) = some false)
    (sb1_5 : PySem.W.subIn K (.ref C1) (.ref C5) = some false)
    (sb1_6 : PySem.W.subIn K (.ref C1) (.ref C6) = some false)
    (sb1_7 : PySem.W.subIn K (.ref C1) (.ref C7) = some false)
    (sb1_8 : PySem.W.subIn K (.ref C1) (.ref C8) = some false)
    (sb1_9 : PySem.W.subIn K (.ref C1) (.ref C9) = some false)
    (sb1_10 : PySem.W.subIn K (.ref C1) (.ref C10) = some false)
    (sb1_H : PySem.W.subIn K (.ref C1) (.ref CH) = some true)
    (sv1 : PySem.W.subIn K (.ref C1) (.type "ValueError") = some true)
    (ex1 : PySem.W.subIn K (.ref C1) (.type "BaseException") = some true)
    (hd1 : PySem.W.hasDictIn K C1 = true)
    (ga1 : PySem.W.findIn K (.ref C1) "__getattribute__" = some (some (.builtin "BaseException.__getattribute__")))
    (gg1 : PySem.W.findIn K (.ref C1) "__getattr__" = some none)
    (cc1 : PySem.W.findIn K (.ref C1) "__class__" = some (some (.builtin "object.__class__")))
    (mo1 : PySem.W.mroIn K C1 (.type "object") = some true)
    (nP1 : PySem.W.findIn K (.ref C1) "place" = some none)
    (nS1 : PySem.W.findIn K (.ref C1) "size" = some none)
    (sb2_0 : PySem.W.subIn K (.ref C2) (.ref C0) = some false)
    (sb2_1 : PySem.W.subIn K (.ref C2) (.ref C1) = some false)
    (sb2_2 : PySem.W.subIn K (.ref C2) (.ref C2) = some true)
    (sb2_3 : PySem.W.subIn K (.ref C2) (.ref C3) = some false)
    (sb2_4 : PySem.W.subIn K (.ref C2) (.ref C4) = some false)
    (sb2_5 : PySem.W.subIn K (.ref C2) (.ref C5) = some false)
    (sb2_6 : PySem.W.subIn K (.ref C2) (.ref C6) = some false)
    (sb2_7 : PySem.W.subIn K (.ref C2) (.ref C7) = some false)
    (sb2_8 : PySem.W.subIn K (.ref C2) (.ref C8) = some false)
    (sb2_9 : PySem.W.subIn K (.ref C2) (.ref C9) = some false)
    (sb2_10 : PySem.W.subIn K (.ref C2) (.ref C10) = some false)
    (sb2_H : PySem.W.subIn K (.ref C2) (.ref CH) = some true)
    (sv2 : PySem.W.subIn K (.ref C2) (.type "ValueError") = some true)
    (ex2 : PySem.W.subIn K (.ref C2) (.type "BaseException") = some true)
    (hd2 : PySem.W.hasDictIn K C2 = true)
    (ga2 : PySem.W.findIn K (.ref C2) "__getattribute__" = some (some (.builtin "BaseException.__getattribute__")))
    (gg2 : PySem.W.findIn K (.ref C2) "__getattr__" = some none)
    (cc2 : PySem.W.findIn K (.ref C2) "__class__" = some (some (.builtin "object.__class__")))
    (mo2 : PySem.W.mroIn K C2 (.type "object") = some true)
    (nP2 : PySem.W.findIn K (.ref C2) "place" = some none)
    (nS2 : PySem.W.findIn K (.ref C2) "size" = some none)
    (sb3_0 : PySem.W.subIn K (.ref C3) (.ref C0) = some false)
    (sb3_1 : PySem.W.subIn K (.ref C3) (.ref C1) = some false)
    (sb3_2 : PySem.W.subIn K (.ref C3) (.ref C2) = some false)
    (sb3_3 : PySem.W.subIn K (.ref C3) (.ref C3) = some true)
    (sb3_4 : PySem.W.subIn K (.ref C3) (.ref C4) = some false)
    (sb3_5 : PySem.W.subIn K (.ref C3) (.ref C5) = some false)
    (sb3_6 : PySem.W.subIn K (.ref C3) (.ref C6) = some false)
    (sb3_7 : PySem.W.subIn K (.ref C3) (.ref C7) = some false)
    (sb3_8 : PySem.W.subIn K (.ref C3) (.ref C8) = some false)
    (sb3_9 : PySem.W.subIn K (.ref C3) (.ref C9) = some false)
    (sb3_10 : PySem.W.subIn K (.ref C3) (.ref C10) = some false)
    (sb3_H : PySem.W.subIn K (.ref C3) (.ref CH) = some true)
    (sv3 : PySem.W.subIn K (.ref C3) (.type "ValueError") = some true)
    (ex3 : PySem.W.subIn K (.ref C3) (.type "BaseException") = some true)
    (hd3 : PySem.W.hasDictIn K C3 = true)
    (ga3 : PySem.W.findIn K (.ref C3) "__getattribute__" = some (some (.builtin "BaseException.__getattribute__")))
    (gg3 : PySem.W.findIn K (.ref C3) "__getattr__" = some none)
    (cc3 : PySem.W.findIn K (.ref C3) "__class__" = some (some (.builtin "object.__class__")))
    (mo3 : PySem.W.mroIn K C3 (.type "object") = some true)
    (nP3 : PySem.W.findIn K (.ref C3) "place" = some none)
    (nS3 : PySem.W.findIn K (.ref C3) "size" = some none)
    (sb4_0 : PySem.W.subIn K (.ref C4) (.ref C0) = some false)
    (sb4_1 : PySem.W.subIn K (.ref C4) (.ref C1) = some false)
    (sb4_2 : PySem.W.subIn K (.ref C4) (.ref C2) = some false)
    (sb4_3 : PySem.W.subIn K (.ref C4) (.ref C3) = some false)
    (sb4_4 : PySem.W.subIn K (.ref C4) (.ref C4) = some true)
    (sb4_5 : PySem.W.subIn K (.ref C4) (.ref C5) = some false)
    (sb4_6 : PySem.W.subIn K (.ref C4) (.ref C6) = some false)
    (sb4_7 : PySem.W.subIn K (.ref C4) (.ref C7) = some false)
    (sb4_8 : PySem.W.subIn K (.ref C4) (.ref C8) = some false)
    (sb4_9 : PySem.W.subIn K (.ref C4) (.ref C9) = some false)
    (sb4_10 : PySem.W.subIn K (.ref C4) (.ref C10) = some false)
    (sb4_H : PySem.W.subIn K (.ref C4) (.ref CH) = some true)
    (sv4 : PySem.W.subIn K (.ref C4) (.type "ValueError") = some true)
    (ex4 : PySem.W.subIn K (.ref C4) (.type "BaseException") = some true)
    (hd4 : PySem.W.hasDictIn K C4 = true)
    (ga4 : PySem.W.findIn K (.ref C4) "__getattribute__" = some (some (.builtin "BaseException.__getattribute__")))
    (gg4 : PySem.W.findIn K (.ref C4) "__getattr__" = some none)
    (cc4 : PySem.W.findIn K (.ref C4) "__class__" = some (some (.builtin "object.__class__")))
    (mo4 : PySem.W.mroIn K C4 (.type "object") = some true)
    (nP4 : PySem.W.findIn K (.ref C4) "place" = some none)
    (nS4 : PySem.W.findIn K (.ref C4) "size" = some none)
    (sb5_0 : PySem.W.subIn K (.ref C5) (.ref C0) = some false)
    (sb5_1 : PySem.W.subIn K (.ref C5) (.ref C1) = some false)
    (sb5_2 : PySem.W.subIn K (.ref C5) (.ref C2) = some false)
    (sb5_3 : PySem.W.subIn K (.ref C5) (.ref C3) = some false)
    (sb5_4 : PySem.W.subIn K (.ref C5) (.ref C4) = some false)
    (sb5_5 : PySem.W.subIn K (.ref C5) (.ref C5) = some true)
    (sb5_6 : PySem.W.subIn K (.ref C5) (.ref C6) = some false)
    (sb5_7 : PySem.W.subIn K (.ref C5) (.ref C7) = some false)
    (sb5_8 : PySem.W.subIn K (.ref C5) (.ref C8) = some false)
    (sb5_9 : PySem.W.subIn K (.ref C5) (.ref C9) = some false)
    (sb5_10 : PySem.W.subIn K (.ref C5) (.ref C10) = some false)
    (sb5_H : PySem.W.subIn K (.ref C5) (.ref CH) = some true)
    (sv5 : PySem.W.subIn K (.ref C5) (.type "ValueError") = some true)
    (ex5 : PySem.W.subIn K (.ref C5) (.type "BaseException") = some true)
    (hd5 : PySem.W.hasDictIn K C5 = true)
    (ga5 : PySem.W.findIn K (.ref C5) "__getattribute__" = some (some (.builtin "BaseException.__getattribute__")))
    (gg5 : PySem.W.findIn K (.ref C5) "__getattr__" = some none)
    (cc5 : PySem.W.findIn K (.ref C5) "__class__" = some (some (.builtin "object.__class__")))
    (mo5 : PySem.W.mroIn K C5 (.type "object") = some true)
    (nP5 : PySem.W.findIn K (.ref C5) "place" = some none)
    (nS5 : PySem.W.findIn K (.ref C5) "size" = some none)
    (sb6_0 : PySem.W.subIn K (.ref C6) (.ref C0) = some false)
    (sb6_1 : PySem.W.subIn K (.ref C6) (.ref C1) = some false)
    (sb6_2 : PySem.W.subIn K (.ref C6) (.ref C2) = some false)
    (sb6_3 : PySem.W.subIn K (.ref C6) (.ref C3) = some false)
    (sb6_4 : PySem.W.subIn K (.ref C6) (.ref C4) = some false)
    (sb6_5 : PySem.W.subIn K (.ref C6) (.ref C5) = some false)
    (sb6_6 : PySem.W.subIn K (.ref C6) (.ref C6) = some true)
    (sb6_7 : PySem.W.subIn K (.ref C6) (.ref C7) = some false)
    (sb6_8 : PySem.W.subIn K (.ref C6) (.ref C8) = some false)
    (sb6_9 : PySem.W.subIn K (.ref C6) (.ref C9) = some false)
    (sb6_10 : PySem.W.subIn K (.ref C6) (.ref C10) = some false)
    (sb6_H : PySem.W.subIn K (.ref C6) (.ref CH) = some true)
    (sv6 : PySem.W.subIn K (.ref C6) (.type "ValueError") = some true)
    (ex6 : PySem.W.subIn K (.ref C6) (.type "BaseException") = some true)
    (hd6 : PySem.W.hasDictIn K C6 = true)
    (ga6 : PySem.W.findIn K (.ref C6) "__getattribute__" = some (some (.builtin "BaseException.__getattribute__")))
    (gg6 : PySem.W.findIn K (.ref C6) "__getattr__" = some none)
    (cc6 : PySem.W.findIn K (.ref C6) "__class__" = some (some (.builtin "object.__class__")))
    (mo6 : PySem.W.mroIn K C6 (.type "object") = some true)
    (nP6 : PySem.W.findIn K (.ref C6) "place" = some none)
    (nS6 : PySem.W.findIn K (.ref C6) "size" = some none)
    (sb7_0 : PySem.W.subIn K (.ref C7) (.ref C0) = some false)
    (sb7_1 : PySem.W.subIn K (.ref C7) (.ref C1) = some false)
    (sb7_2 : PySem.W.subIn K (.ref C7) (.ref C2) = some false)
    (sb7_3 : PySem.W.subIn K (.ref C7) (.ref C3) = some false)
    (sb7_4 : PySem.W.subIn K (.ref C7) (.ref C4) = some false)
    (sb7_5 : PySem.W.subIn K (.ref C7) (.ref C5) = some false)
    (sb7_6 : PySem.W.subIn K (.ref C7) (.ref C6) = some false)
    (sb7_7 : PySem.W.subIn K (.ref C7) (.ref C7) = some true)
    (sb7_8 : PySem.W.subIn K (.ref C7) (.ref C8) = some false)
    (sb7_9 : PySem.W.subIn K (.ref C7) (.ref C9) = some false)
    (sb7_10 : PySem.W.subIn K (.ref C7) (.ref C10) = some false)
    (sb7_H : PySem.W.subIn K (.ref C7) (.ref CH) = some true)
    (sv7 : PySem.W.subIn K (.ref C7) (.type "ValueError") = some true)
    (ex7 : PySem.W.subIn K (.ref C7) (.type "BaseException") = some true)
    (hd7 : PySem.W.hasDictIn K C7 = true)
    (ga7 : PySem.W.findIn K (.ref C7) "__getattribute__" = some (some (.builtin "BaseException.__getattribute__")))
    (gg7 : PySem.W.findIn K (.ref C7) "__getattr__" = some none)
    (cc7 : PySem.W.findIn K (.ref C7) "__class__" = some (some (.builtin "object.__class__")))
    (mo7 : PySem.W.mroIn K C7 (.type "object") = some true)
    (nP7 : PySem.W.findIn K (.ref C7) "place" = some none)
    (nS7 : PySem.W.findIn K (.ref C7) "size" = some none)
    (sb8_0 : PySem.W.subIn K (.ref C8) (.ref C0) = some false)
    (sb8_1 : PySem.W.subIn K (.ref C8) (.ref C1) = some false)
    (sb8_2 : PySem.W.subIn K (.ref C8) (.ref C2) = some false)
    (sb8_3 : PySem.W.subIn K (.ref C8) (.ref C3) = some false)
    (sb8_4 : PySem.W.subIn K (.ref C8) (.ref C4) = some false)
    (sb8_5 : PySem.W.subIn K (.ref C8) (.ref C5) = some false)
    (sb8_6 : PySem.W.subIn K (.ref C8) (.ref C6) = some false)
    (sb8_7 : PySem.W.subIn K (.ref C8) (.ref C7) = some false)
    (sb8_8 : PySem.W.subIn K (.ref C8) (.ref C8) = some true)
    (sb8_9 : PySem.W.subIn K (.ref C8) (.ref C9) = some false)
    (sb8_10 : PySem.W.subIn K (.ref C8) (.ref C10) = some false)
    (sb8_H : PySem.W.subIn K (.ref C8) (.ref CH) = some true)
    (sv8 : PySem.W.subIn K (.ref C8) (.type "ValueError") = some true)
    (ex8 : PySem.W.subIn K (.ref C8) (.type "BaseException") = some true)
    (hd8 : PySem.W.hasDictIn K C8 = true)
    (ga8 : PySem.W.findIn K (.ref C8) "__getattribute__" = some (some (.builtin "BaseException.__getattribute__")))
    (gg8 : PySem.W.findIn K (.ref C8) "__getattr__" = some none)
    (cc8 : PySem.W.findIn K (.ref C8) "__class__" = some (some (.builtin "object.__class__")))
    (mo8 : PySem.W.mroIn K C8 (.type "object") = some true)
    (nP8 : PySem.W.findIn K (.ref C8) "place" = some none)
    (nS8 : PySem.W.findIn K (.ref C8) "size" = some none)
    (sb9_0 : PySem.W.subIn K (.ref C9) (.ref C0) = some false)
    (sb9_1 : PySem.W.subIn K (.ref C9) (.ref C1) = some false)
    (sb9_2 : PySem.W.subIn K (.ref C9) (.ref C2) = some false)
    (sb9_3 : PySem.W.subIn K (.ref C9) (.ref C3) = some false)
    (sb9_4 : PySem.W.subIn K (.ref C9) (.ref C4) = some false)
    (sb9_5 : PySem.W.subIn K (.ref C9) (.ref C5) = some false)
    (sb9_6 : PySem.W.subIn K (.ref C9) (.ref C6) = some false)
    (sb9_7 : PySem.W.subIn K (.ref C9) (.ref C7) = some false)
    (sb9_8 : PySem.W.subIn K (.ref C9) (.ref C8) = some false)
    (sb9_9 : PySem.W.subIn K (.ref C9) (.ref C9) = some true)
    (sb9_10 : PySem.W.subIn K (.ref C9) (.ref C10) = some false)
    (sb9_H : PySem.W.subIn K (.ref C9) (.ref CH) = some true)
    (sv9 : PySem.W.subIn K (.ref C9) (.type "ValueError") = some true)
    (ex9 : PySem.W.subIn K (.ref C9) (.type "BaseException") = some true)
    (hd9 : PySem.W.hasDictIn K C9 = true)
    (ga9 : PySem.W.findIn K (.ref C9) "__getattribute__" = some (some (.builtin "BaseException.__getattribute__")))
    (gg9 : PySem.W.findIn K (.ref C9) "__getattr__" = some none)
    (cc9 : PySem.W.findIn K (.ref C9) "__class__" = some (some (.builtin "object.__class__")))
    (mo9 : PySem.W.mroIn K C9 (.type "object") = some true)
    (nP9 : PySem.W.findIn K (.ref C9) "place" = some none)
    (nS9 : PySem.W.findIn K (.ref C9) "size" = some none)
    (sb10_0 : PySem.W.subIn K (.ref C10) (.ref C0) = some false)
    (sb10_1 : PySem.W.subIn K (.ref C10) (.ref C1) = some false)
    (sb10_2 : PySem.W.subIn K (.ref C10) (.ref C2) = some false)
    (sb10_3 : PySem.W.subIn K (.ref C10) (.ref C3) = some false)
    (sb10_4 : PySem.W.subIn K (.ref C10) (.ref C4) = some false)
    (sb10_5 : PySem.W.subIn K (.ref C10) (.ref C5) = some false)
    (sb10_6 : PySem.W.subIn K (.ref C10) (.ref C6) = some false)
    (sb10_7 : PySem.W.subIn K (.ref C10) (.ref C7) = some false)
    (sb10_8 : PySem.W.subIn K (.ref C10) (.ref C8) = some false)
    (sb10_9 : PySem.W.subIn K (.ref C10) (.ref C9) = some false)
    (sb10_10 : PySem.W.subIn K (.ref C10) (.ref C10) = some true)
    (sb10_H : PySem.W.subIn K (.ref C10) (.ref CH) = some true)
    (sv10 : PySem.W.subIn K (.ref C10) (.type "ValueError") = some true)
    (ex10 : PySem.W.subIn K (.ref C10) (.type "BaseException") = some true)
    (hd10 : PySem.W.hasDictIn K C10 = true)
    (ga10 : PySem.W.findIn K (.ref C10) "__getattribute__" = some (some (.builtin "BaseException.__getattribute__")))
    (gg10 : PySem.W.findIn K (.ref C10) "__getattr__" = some none)
    (cc10 : PySem.W.findIn K (.ref C10) "__class__" = some (some (.builtin "object.__class__")))
    (mo10 : PySem.W.mroIn K C10 (.type "object") = some true)
    (nP10 : PySem.W.findIn K (.ref C10) "place" = some none)
    (nS10 : PySem.W.findIn K (.ref C10) "size" = some none)
    (xV5 : PySem.W.excIn K C5 [.type "ValueError", .type "Exception", .type "BaseException", .type "object"] "ValueError.__new__" = true)
    (kC5 : PySem.W.keepIn K (.ref C5) = true)
    (xV6 : PySem.W.excIn K C6 [.type "ValueError", .type "Exception", .type "BaseException", .type "object"] "ValueError.__new__" = true)
    (kC6 : PySem.W.keepIn K (.ref C6) = true)
    (xV7 : PySem.W.excIn K C7 [.type "ValueError", .type "Exception", .type "BaseException", .type "object"] "ValueError.__new__" = true)
    (kC7 : PySem.W.keepIn K (.ref C7) = true)
    (xV8 : PySem.W.excIn K C8 [.type "ValueError", .type "Exception", .type "BaseException", .type "object"] "ValueError.__new__" = true)
    (kC8 : PySem.W.keepIn K (.ref C8) = true)
    (xV9 : PySem.W.excIn K C9 [.type "ValueError", .type "Exception", .type "BaseException", .type "object"] "ValueError.__new__" = true)
    (kC9 : PySem.W.keepIn K (.ref C9) = true)
    (xV10 : PySem.W.excIn K C10 [.type "ValueError", .type "Exception", .type "BaseException", .type "object"] "ValueError.__new__" = true)
    (kC10 : PySem.W.keepIn K (.ref C10) = true)
    (zsu : PySem.W.nsIn K mainGlobals "super" = some none)
    (opq : PySem.W.nsIn K cStatics "thirdparty.any" = some none)
    (htop : (l.prog.main.scope.names.lookup ("super" : Str)).isSome = false)
    (xL0 : K.lookup C0 = some (excClassObj nm0 qn0 C0 N0 bs0 [.ref CH, .type "ValueError", .type "Exception", .type "BaseException", .type "object"] true sn0 su0 ab0 co0 dd0 m00 m10 m20 m30 m50 "ValueError.__new__"))
    (sa0 : PySem.W.findIn K (.ref C0) "__setattr__" = some (some (.builtin "object.__setattr__")))
    (kC0 : PySem.W.keepIn K (.ref C0) = true)
    (iC0 : PySem.W.findIn K (.ref C0) "__init__" = some (some (.ref fI0)))
    (tI0 : PySem.W.typeIn K (.ref fI0) = some (.type "function"))
    (mm0 : PySem.W.mroIn K C0 (.ref C0) = some true)
    (lI0 : K.lookup fI0 = some ⟨ocI0, odI0, .func (PySem.W.ksFn "__init__" "NoLetter.__init__" (defArgs (inClass (topS 2) 0)) (defBody (inClass (topS 2) 0)) (defScope (inClass (topS 2) 0)) .none kVI0 dcI0 pmI0 anI0 (.ref cda0) ctI0 cel0), slI0⟩)
    (cI0 : PySem.W.codeIn K (.ref cda0) "NoLetter.__init__" = true)
    (ce0 : K.lookup cel0 = some ⟨cl0, cld0, .cell (some (.ref C0)), csl0⟩)
    (co_0 : K.lookup cda0 = some ⟨ccl0, cdd0, .fields vsC0, ccs0⟩)
    (hv0 : vsC0[2]? = some (.str fil0 tf0))
    (hf0 : ((l.prog.main.file : Str) == fil0) = true)
    (su_0 : PySem.W.ks_superIn K C0 C0 "__init__" = some (some (.builtin "ValueError.__init__")))
    (xL1 : K.lookup C1 = some (excClassObj nm1 qn1 C1 N1 bs1 [.ref CH, .type "ValueError", .type "Exception", .type "BaseException", .type "object"] true sn1 su1 ab1 co1 dd1 m01 m11 m21 m31 m51 "ValueError.__new__"))
    (sa1 : PySem.W.findIn K (.ref C1) "__setattr__" = some (some (.builtin "object.__setattr__")))
    (kC1 : PySem.W.keepIn K (.ref C1) = true)
    (iC1 : PySem.W.findIn K (.ref C1) "__init__" = some (some (.ref fI1)))
    (tI1 : PySem.W.typeIn K (.ref fI1) = some (.type "function"))
    (mm1 : PySem.W.mroIn K C1 (.ref C1) = some true)
    (lI1 : K.lookup fI1 = some ⟨ocI1, odI1, .func (PySem.W.ksFn "__init__" "NotShut.__init__" (defArgs (inClass (topS 3) 0)) (defBody (inClass (topS 3) 0)) (defScope (inClass (topS 3) 0)) .none kVI1 dcI1 pmI1 anI1 (.ref cda1) ctI1 cel1), slI1⟩)
    (cI1 : PySem.W.codeIn K (.ref cda1) "NotShut.__init__" = true)
    (ce1 : K.lookup cel1 = some ⟨cl1, cld1, .cell (some (.ref C1)), csl1⟩)
    (co_1 : K.lookup cda1 = some ⟨ccl1, cdd1, .fields vsC1, ccs1⟩)
    (hv1 : vsC1[2]? = some (.str fil1 tf1))
    (hf1 : ((l.prog.main.file : Str) == fil1) = true)
    (su_1 : PySem.W.ks_superIn K C1 C1 "__init__" = some (some (.builtin "ValueError.__init__")))
    (xL2 : K.lookup C2 = some (excClassObj nm2 qn2 C2 N2 bs2 [.ref CH, .type "ValueError", .type "Exception", .type "BaseException", .type "object"] true sn2 su2 ab2 co2 dd2 m02 m12 m22 m32 m52 "ValueError.__new__"))
    (sa2 : PySem.W.findIn K (.ref C2) "__setattr__" = some (some (.builtin "object.__setattr__")))
    (kC2 : PySem.W.keepIn K (.ref C2) = true)
    (iC2 : PySem.W.findIn K (.ref C2) "__init__" = some (some (.ref fI2)))
    (tI2 : PySem.W.typeIn K (.ref fI2) = some (.type "function"))
    (mm2 : PySem.W.mroIn K C2 (.ref C2) = some true)
    (lI2 : K.lookup fI2 = some ⟨ocI2, odI2, .func (PySem.W.ksFn "__init__" "TooLong.__init__" (defArgs (inClass (topS 6) 0)) (defBody (inClass (topS 6) 0)) (defScope (inClass (topS 6) 0)) .none kVI2 dcI2 pmI2 anI2 (.ref cda2) ctI2 cel2), slI2⟩)
    (cI2 : PySem.W.codeIn K (.ref cda2) "TooLong.__init__" = true)
    (ce2 : K.lookup cel2 = some ⟨cl2, cld2, .cell (some (.ref C2)), csl2⟩)
    (co_2 : K.lookup cda2 = some ⟨ccl2, cdd2, .fields vsC2, ccs2⟩)
    (hv2 : vsC2[2]? = some (.str fil2 tf2))
    (hf2 : ((l.prog.main.file : Str) == fil2) = true)
    (su_2 : PySem.W.ks_superIn K C2 C2 "__init__" = some (some (.builtin "ValueError.__init__")))
    (xL3 : K.lookup C3 = some (excClassObj nm3 qn3 C3 N3 bs3 [.ref CH, .type "ValueError", .type "Exception", .type "BaseException", .type "object"] true sn3 su3 ab3 co3 dd3 m03 m13 m23 m33 m53 "ValueError.__new__"))
    (sa3 : PySem.W.findIn K (.ref C3) "__setattr__" = some (some (.builtin "object.__setattr__")))
    (kC3 : PySem.W.keepIn K (.ref C3) = true)
    (iC3 : PySem.W.findIn K (.ref C3) "__init__" = some (some (.ref fI3)))
    (tI3 : PySem.W.typeIn K (.ref fI3) = some (.type "function"))
    (mm3 : PySem.W.mroIn K C3 (.ref C3) = some true)
    (lI3 : K.lookup fI3 = some ⟨ocI3, odI3, .func (PySem.W.ksFn "__init__" "NoChoice.__init__" (defArgs (inClass (topS 4) 0)) (defBody (inClass (topS 4) 0)) (defScope (inClass (topS 4) 0)) .none kVI3 dcI3 pmI3 anI3 (.ref cda3) ctI3 cel3), slI3⟩)
    (cI3 : PySem.W.codeIn K (.ref cda3) "NoChoice.__init__" = true)
    (ce3 : K.lookup cel3 = some ⟨cl3, cld3, .cell (some (.ref C3)), csl3⟩)
    (co_3 : K.lookup cda3 = some ⟨ccl3, cdd3, .fields vsC3, ccs3⟩)
    (hv3 : vsC3[2]? = some (.str fil3 tf3))
    (hf3 : ((l.prog.main.file : Str) == fil3) = true)
    (su_3 : PySem.W.ks_superIn K C3 C3 "__init__" = some (some (.builtin "ValueError.__init__")))
    (xL4 : K.lookup C4 = some (excClassObj nm4 qn4 C4 N4 bs4 [.ref CH, .type "ValueError", .type "Exception", .type "BaseException", .type "object"] true sn4 su4 ab4 co4 dd4 m04 m14 m24 m34 m54 "ValueError.__new__"))
    (sa4 : PySem.W.findIn K (.ref C4) "__setattr__" = some (some (.builtin "object.__setattr__")))
    (kC4 : PySem.W.keepIn K (.ref C4) = true)
    (iC4 : PySem.W.findIn K (.ref C4) "__init__" = some (some (.ref fI4)))
    (tI4 : PySem.W.typeIn K (.ref fI4) = some (.type "function"))
    (mm4 : PySem.W.mroIn K C4 (.ref C4) = some true)
    (lI4 : K.lookup fI4 = some ⟨ocI4, odI4, .func (PySem.W.ksFn "__init__" "NoText.__init__" (defArgs (inClass (topS 5) 0)) (defBody (inClass (topS 5) 0)) (defScope (inClass (topS 5) 0)) .none kVI4 dcI4 pmI4 anI4 (.ref cda4) ctI4 cel4), slI4⟩)
    (cI4 : PySem.W.codeIn K (.ref cda4) "NoText.__init__" = true)
    (ce4 : K.lookup cel4 = some ⟨cl4, cld4, .cell (some (.ref C4)), csl4⟩)
    (co_4 : K.lookup cda4 = some ⟨ccl4, cdd4, .fields vsC4, ccs4⟩)
    (hv4 : vsC4[2]? = some (.str fil4 tf4))
    (hf4 : ((l.prog.main.file : Str) == fil4) = true)
    (su_4 : PySem.W.ks_superIn K C4 C4 "__init__" = some (some (.builtin "ValueError.__init__")))
    : ∃ fd : FuncData, (∀ (s : Shared) (v : Value), BindsTo s fd ⟨[v], []⟩ [("script", v)]) ∧ ∀ base : Heap, K.In base → base.Ns mainGlobals mg → FnOk l.prog w K mg base CX0 12 fa fd ["script"] (spLaw K) := by
  have e := hfa.symm.trans (PySem.W.mg_of X G a18)
  cases e
  have F0 := fun_mk (st := sOrderOf) l0 c0 k0
  have g0 := PySem.W.mg_of X G a0
  have b0 := F0.binds (ps := ["sheet"]) fun _ _ _ _ _ _ us hl => match us, hl with | [_], _ => rfl
  have F1 := fun_mk (st := sNeedWord) l1 c1 k1
  have g1 := PySem.W.mg_of X G a1
  have b1 := F1.binds (ps := ["sheet", "word"]) fun _ _ _ _ _ _ us hl => match us, hl with | [_, _], _ => rfl
  have F2 := fun_mk (st := sAnswers) l2 c2 k2
  have g2 := PySem.W.mg_of X G a2
  have b2 := F2.binds (ps := ["sheet", "word"]) fun _ _ _ _ _ _ us hl => match us, hl with | [_, _], _ => rfl
  have F3 := fun_mk (st := sAlone) l3 c3 k3
  have g3 := PySem.W.mg_of X G a3
  have b3 := F3.binds (ps := ["sheet", "word", "told"]) fun _ _ _ _ _ _ us hl => match us, hl with | [_, _, _], _ => rfl
  have F4 := fun_mk (st := sNeedShut) l4 c4 k4
  have g4 := PySem.W.mg_of X G a4
  have b4 := F4.binds (ps := ["sheet", "word"]) fun _ _ _ _ _ _ us hl => match us, hl with | [_, _], _ => rfl
  have F5 := fun_mk (st := sIsShut) l5 c5 k5
  have g5 := PySem.W.mg_of X G a5
  have b5 := F5.binds (ps := ["sheet", "word"]) fun _ _ _ _ _ _ us hl => match us, hl with | [_, _], _ => rfl
  have F6 := fun_mk (st := sDepthOf) l6 c6 k6
  have g6 := PySem.W.mg_of X G a6
  have b6 := F6.binds (ps := ["sheet", "word"]) fun _ _ _ _ _ _ us hl => match us, hl with | [_, _], _ => rfl
  have F7 := fun_mk (st := sBoughs) l7 c7 k7
  have g7 := PySem.W.mg_of X G a7
  have b7 := F7.binds (ps := ["sheet", "word"]) fun _ _ _ _ _ _ us hl => match us, hl with | [_, _], _ => rfl
  have F8 := fun_mk (st := sBlend) l8 c8 k8
  have g8 := PySem.W.mg_of X G a8
  have b8 := F8.binds (ps := ["cell", "at"]) fun _ _ _ _ _ _ us hl => match us, hl with | [_, _], _ => rfl
  have F9 := fun_mk (st := sPot) l9 c9 k9
  have g9 := PySem.W.mg_of X G a9
  have b9 := F9.binds (ps := ["script"]) fun _ _ _ _ _ _ us hl => match us, hl with | [_], _ => rfl
  have F10 := fun_mk (st := sPick) l10 c10 k10
  have g10 := PySem.W.mg_of X G a10
  have b10 := F10.binds (ps := ["pot", "many"]) fun _ _ _ _ _ _ us hl => match us, hl with | [_, _], _ => rfl
  have F11 := fun_mk (st := sLetters) l11 c11 k11
  have g11 := PySem.W.mg_of X G a11
  have b11 := F11.binds (ps := ["pot", "many"]) fun _ _ _ _ _ _ us hl => match us, hl with | [_, _], _ => rfl
  have F12 := fun_mk (st := sSheet) l12 c12 k12
  have g12 := PySem.W.mg_of X G a12
  have b12 := F12.binds (ps := ["pot", "most"]) fun _ _ _ _ _ _ us hl => match us, hl with | [_, _], _ => rfl
  have F13 := fun_mk (st := sOrder) l13 c13 k13
  have g13 := PySem.W.mg_of X G a13
  have b13 := F13.binds (ps := ["sheet"]) fun _ _ _ _ _ _ us hl => match us, hl with | [_], _ => rfl
  have F14 := fun_mk (st := sKind) l14 c14 k14
  have g14 := PySem.W.mg_of X G a14
  have b14 := F14.binds (ps := ["caught"]) fun _ _ _ _ _ _ us hl => match us, hl with | [_], _ => rfl
  have F15 := fun_mk (st := sStrange) l15 c15 k15
  have g15 := PySem.W.mg_of X G a15
  have b15 := F15.binds (ps := ["sheet"]) fun _ _ _ _ _ _ us hl => match us, hl with | [_], _ => rfl
  have F16 := fun_mk (st := sTold) l16 c16 k16
  have g16 := PySem.W.mg_of X G a16
  have b16 := F16.binds (ps := ["way", "sheet", "word"]) fun _ _ _ _ _ _ us hl => match us, hl with | [_, _, _], _ => rfl
  have F17 := fun_mk (st := sLawErrorsRight) l17 c17 k17
  have g17 := PySem.W.mg_of X G a17
  have b17 := F17.binds (ps := ["number"]) fun _ _ _ _ _ _ us hl => match us, hl with | [_], _ => rfl
  have F18 := fun_mk (st := sLaw) l18 c18 k18
  have g18 := PySem.W.mg_of X G a18
  have b18 := F18.binds (ps := ["script"]) fun _ _ _ _ _ _ us hl => match us, hl with | [_], _ => rfl
  have mlen := PySem.W.mg_none_of X G z0
  have mlist := PySem.W.mg_none_of X G z1
  have menumerate := PySem.W.mg_none_of X G z2
  have mrange := PySem.W.mg_none_of X G z3
  have mmin := PySem.W.mg_none_of X G z4
  have mtuple := PySem.W.mg_none_of X G z5
  have misinstance := PySem.W.mg_none_of X G z6
  have mint := PySem.W.mg_none_of X G z7
  have mValueError := PySem.W.mg_none_of X G z8
  have KM : KindM mg CH [C0, C1, C2, C3, C4, C5, C6, C7, C8, C9, C10] := ⟨misinstance, mValueError, PySem.W.mg_of X G aH, PySem.W.mg_of X G aC0, PySem.W.mg_of X G aC1, PySem.W.mg_of X G aC2, PySem.W.mg_of X G aC3, PySem.W.mg_of X G aC4, PySem.W.mg_of X G aC5, PySem.W.mg_of X G aC6, PySem.W.mg_of X G aC7, PySem.W.mg_of X G aC8, PySem.W.mg_of X G aC9, PySem.W.mg_of X G aC10⟩
  have EC0 : ErrC K C0 := ⟨⟨ga0, gg0, ex0, hd0, cc0, spc, tkc, mo0⟩, ⟨ga0, gg0, ex0, hd0⟩⟩
  have KC0 : KindC K CH [C0, C1, C2, C3, C4, C5, C6, C7, C8, C9, C10] 0 := by
    refine ⟨by decide, EC0, fun j hj => ?_, kit_yes tyH isH sb0_H, kit_val sv0, nP0, nS0⟩
    rcases (show j = 0 ∨ j = 1 ∨ j = 2 ∨ j = 3 ∨ j = 4 ∨ j = 5 ∨ j = 6 ∨ j = 7 ∨ j = 8 ∨ j = 9 ∨ j = 10 by omega) with rfl | rfl | rfl | rfl | rfl | rfl | rfl | rfl | rfl | rfl | rfl
    · exact kit_yes ty0 is0 sb0_0
    · exact kit_no ty1 is1 sb0_1 sb0_0
    · exact kit_no ty2 is2 sb0_2 sb0_0
    · exact kit_no ty3 is3 sb0_3 sb0_0
    · exact kit_no ty4 is4 sb0_4 sb0_0
    · exact kit_no ty5 is5 sb0_5 sb0_0
    · exact kit_no ty6 is6 sb0_6 sb0_0
    · exact kit_no ty7 is7 sb0_7 sb0_0
    · exact kit_no ty8 is8 sb0_8 sb0_0
    · exact kit_no ty9 is9 sb0_9 sb0_0
    · exact kit_no ty10 is10 sb0_10 sb0_0
  have XM0 : PySem.W.exmOne K (.ref C0) (.ref CH) = some true := PySem.W.exm_ref exH hdH tyH sb0_H
  have EC1 : ErrC K C1 := ⟨⟨ga1, gg1, ex1, hd1, cc1, spc, tkc, mo1⟩, ⟨ga1, gg1, ex1, hd1⟩⟩
  have KC1 : KindC K CH [C0, C1, C2, C3, C4, C5, C6, C7, C8, C9, C10] 1 := by
    refine ⟨by decide, EC1, fun j hj => ?_, kit_yes tyH isH sb1_H, kit_val sv1, nP1, nS1⟩
    rcases (show j = 0 ∨ j = 1 ∨ j = 2 ∨ j = 3 ∨ j = 4 ∨ j = 5 ∨ j = 6 ∨ j = 7 ∨ j = 8 ∨ j = 9 ∨ j = 10 by omega) with rfl | rfl | rfl | rfl | rfl | rfl | rfl | rfl | rfl | rfl | rfl
    · exact kit_no ty0 is0 sb1_0 sb1_1
    · exact kit_yes ty1 is1 sb1_1
    · exact kit_no ty2 is2 sb1_2 sb1_1
    · exact kit_no ty3 is3 sb1_3 sb1_1
    · exact kit_no ty4 is4 sb1_4 sb1_1
    · exact kit_no ty5 is5 sb1_5 sb1_1
    · exact kit_no ty6 is6 sb1_6 sb1_1
    · exact kit_no ty7 is7 sb1_7 sb1_1
    · exact kit_no ty8 is8 sb1_8 sb1_1
    · exact kit_no ty9 is9 sb1_9 sb1_1
    · exact kit_no ty10 is10 sb1_10 sb1_1
  have XM1 : PySem.W.exmOne K (.ref C1) (.ref CH) = some true := PySem.W.exm_ref exH hdH tyH sb1_H
  have EC2 : ErrC K C2 := ⟨⟨ga2, gg2, ex2, hd2, cc2, spc, tkc, mo2⟩, ⟨ga2, gg2, ex2, hd2⟩⟩
  have KC2 : KindC K CH [C0, C1, C2, C3, C4, C5, C6, C7, C8, C9, C10] 2 := by
    refine ⟨by decide, EC2, fun j hj => ?_, kit_yes tyH isH sb2_H, kit_val sv2, nP2, nS2⟩
    rcases (show j = 0 ∨ j = 1 ∨ j = 2 ∨ j = 3 ∨ j = 4 ∨ j = 5 ∨ j = 6 ∨ j = 7 ∨ j = 8 ∨ j = 9 ∨ j = 10 by omega) with rfl | rfl | rfl | rfl | rfl | rfl | rfl | rfl | rfl | rfl | rfl
    · exact kit_no ty0 is0 sb2_0 sb2_2
    · exact kit_no ty1 is1 sb2_1 sb2_2
    · exact kit_yes ty2 is2 sb2_2
    · exact kit_no ty3 is3 sb2_3 sb2_2
    · exact kit_no ty4 is4 sb2_4 sb2_2
    · exact kit_no ty5 is5 sb2_5 sb2_2
    · exact kit_no ty6 is6 sb2_6 sb2_2
    · exact kit_no ty7 is7 sb2_7 sb2_2
    · exact kit_no ty8 is8 sb2_8 sb2_2
    · exact kit_no ty9 is9 sb2_9 sb2_2
    · exact kit_no ty10 is10 sb2_10 sb2_2
  have XM2 : PySem.W.exmOne K (.ref C2) (.ref CH) = some true := PySem.W.exm_ref exH hdH tyH sb2_H
  have EC3 : ErrC K C3 := ⟨⟨ga3, gg3, ex3, hd3, cc3, spc, tkc, mo3⟩, ⟨ga3, gg3, ex3, hd3⟩⟩
  have KC3 : KindC K CH [C0, C1, C2, C3, C4, C5, C6, C7, C8, C9, C10] 3 := by
    refine ⟨by decide, EC3, fun j hj => ?_, kit_yes tyH isH sb3_H, kit_val sv3, nP3, nS3⟩
    rcases (show j = 0 ∨ j = 1 ∨ j = 2 ∨ j = 3 ∨ j = 4 ∨ j = 5 ∨ j = 6 ∨ j = 7 ∨ j = 8 ∨ j = 9 ∨ j = 10 by omega) with rfl | rfl | rfl | rfl | rfl | rfl | rfl | rfl | rfl | rfl | rfl
    · exact kit_no ty0 is0 sb3_0 sb3_3
    · exact kit_no ty1 is1 sb3_1 sb3_3
    · exact kit_no ty2 is2 sb3_2 sb3_3
    · exact kit_yes ty3 is3 sb3_3
    · exact kit_no ty4 is4 sb3_4 sb3_3
    · exact kit_no ty5 is5 sb3_5 sb3_3
    · exact kit_no ty6 is6 sb3_6 sb3_3
    · exact kit_no ty7 is7 sb3_7 sb3_3
    · exact kit_no ty8 is8 sb3_8 sb3_3
    · exact kit_no ty9 is9 sb3_9 sb3_3
    · exact kit_no ty10 is10 sb3_10 sb3_3
  have XM3 : PySem.W.exmOne K (.ref C3) (.ref CH) = some true := PySem.W.exm_ref exH hdH tyH sb3_H
  have EC4 : ErrC K C4 := ⟨⟨ga4, gg4, ex4, hd4, cc4, spc, tkc, mo4⟩, ⟨ga4, gg4, ex4, hd4⟩⟩
  have KC4 : KindC K CH [C0, C1, C2, C3, C4, C5, C6, C7, C8, C9, C10] 4 := by
    refine ⟨by decide, EC4, fun j hj => ?_, kit_yes tyH isH sb4_H, kit_val sv4, nP4, nS4⟩
    rcases (show j = 0 ∨ j = 1 ∨ j = 2 ∨ j = 3 ∨ j = 4 ∨ j = 5 ∨ j = 6 ∨ j = 7 ∨ j = 8 ∨ j = 9 ∨ j = 10 by omega) with rfl | rfl | rfl | rfl | rfl | rfl | rfl | rfl | rfl | rfl | rfl
    · exact kit_no ty0 is0 sb4_0 sb4_4
    · exact kit_no ty1 is1 sb4_1 sb4_4
    · exact kit_no ty2 is2 sb4_2 sb4_4
    · exact kit_no ty3 is3 sb4_3 sb4_4
    · exact kit_yes ty4 is4 sb4_4
    · exact kit_no ty5 is5 sb4_5 sb4_4
    · exact kit_no ty6 is6 sb4_6 sb4_4
    · exact kit_no ty7 is7 sb4_7 sb4_4
    · exact kit_no ty8 is8 sb4_8 sb4_4
    · exact kit_no ty9 is9 sb4_9 sb4_4
    · exact kit_no ty10 is10 sb4_10 sb4_4
  have XM4 : PySem.W.exmOne K (.ref C4) (.ref CH) = some true := PySem.W.exm_ref exH hdH tyH sb4_H
  have EC5 : ErrC K C5 := ⟨⟨ga5, gg5, ex5, hd5, cc5, spc, tkc, mo5⟩, ⟨ga5, gg5, ex5, hd5⟩⟩
  have KC5 : KindC K CH [C0, C1, C2, C3, C4, C5, C6, C7, C8, C9, C10] 5 := by
    refine ⟨by decide, EC5, fun j hj => ?_, kit_yes tyH isH sb5_H, kit_val sv5, nP5, nS5⟩
    rcases (show j = 0 ∨ j = 1 ∨ j = 2 ∨ j = 3 ∨ j = 4 ∨ j = 5 ∨ j = 6 ∨ j = 7 ∨ j = 8 ∨ j = 9 ∨ j = 10 by omega) with rfl | rfl | rfl | rfl | rfl | rfl | rfl | rfl | rfl | rfl | rfl
    · exact kit_no ty0 is0 sb5_0 sb5_5
    · exact kit_no ty1 is1 sb5_1 sb5_5
    · exact kit_no ty2 is2 sb5_2 sb5_5
    · exact kit_no ty3 is3 sb5_3 sb5_5
    · exact kit_no ty4 is4 sb5_4 sb5_5
    · exact kit_yes ty5 is5 sb5_5
    · exact kit_no ty6 is6 sb5_6 sb5_5
    · exact kit_no ty7 is7 sb5_7 sb5_5
    · exact kit_no ty8 is8 sb5_8 sb5_5
    · exact kit_no ty9 is9 sb5_9 sb5_5
    · exact kit_no ty10 is10 sb5_10 sb5_5
  have XM5 : PySem.W.exmOne K (.ref C5) (.ref CH) = some true := PySem.W.exm_ref exH hdH tyH sb5_H
  have EC6 : ErrC K C6 := ⟨⟨ga6, gg6, ex6, hd6, cc6, spc, tkc, mo6⟩, ⟨ga6, gg6, ex6, hd6⟩⟩
  have KC6 : KindC K CH [C0, C1, C2, C3, C4, C5, C6, C7, C8, C9, C10] 6 := by
    refine ⟨by decide, EC6, fun j hj => ?_, kit_yes tyH isH sb6_H, kit_val sv6, nP6, nS6⟩
    rcases (show j = 0 ∨ j = 1 ∨ j = 2 ∨ j = 3 ∨ j = 4 ∨ j = 5 ∨ j = 6 ∨ j = 7 ∨ j = 8 ∨ j = 9 ∨ j = 10 by omega) with rfl | rfl | rfl | rfl | rfl | rfl | rfl | rfl | rfl | rfl | rfl
    · exact kit_no ty0 is0 sb6_0 sb6_6
    · exact kit_no ty1 is1 sb6_1 sb6_6
    · exact kit_no ty2 is2 sb6_2 sb6_6
    · exact kit_no ty3 is3 sb6_3 sb6_6
    · exact kit_no ty4 is4 sb6_4 sb6_6
    · exact kit_no ty5 is5 sb6_5 sb6_6
    · exact kit_yes ty6 is6 sb6_6
    · exact kit_no ty7 is7 sb6_7 sb6_6
    · exact kit_no ty8 is8 sb6_8 sb6_6
    · exact kit_no ty9 is9 sb6_9 sb6_6
    · exact kit_no ty10 is10 sb6_10 sb6_6
  have XM6 : PySem.W.exmOne K (.ref C6) (.ref CH) = some true := PySem.W.exm_ref exH hdH tyH sb6_H
  have EC7 : ErrC K C7 := ⟨⟨ga7, gg7, ex7, hd7, cc7, spc, tkc, mo7⟩, ⟨ga7, gg7, ex7, hd7⟩⟩
  have KC7 : KindC K CH [C0, C1, C2, C3, C4, C5, C6, C7, C8, C9, C10] 7 := by
    refine ⟨by decide, EC7, fun j hj => ?_, kit_yes tyH isH sb7_H, kit_val sv7, nP7, nS7⟩
    rcases (show j = 0 ∨ j = 1 ∨ j = 2 ∨ j = 3 ∨ j = 4 ∨ j = 5 ∨ j = 6 ∨ j = 7 ∨ j = 8 ∨ j = 9 ∨ j = 10 by omega) with rfl | rfl | rfl | rfl | rfl | rfl | rfl | rfl | rfl | rfl | rfl
    · exact kit_no ty0 is0 sb7_0 sb7_7
    · exact kit_no ty1 is1 sb7_1 sb7_7
    · exact kit_no ty2 is2 sb7_2 sb7_7
    · exact kit_no ty3 is3 sb7_3 sb7_7
    · exact kit_no ty4 is4 sb7_4 sb7_7
    · exact kit_no ty5 is5 sb7_5 sb7_7
    · exact kit_no ty6 is6 sb7_6 sb7_7
    · exact kit_yes ty7 is7 sb7_7
    · exact kit_no ty8 is8 sb7_8 sb7_7
    · exact kit_no ty9 is9 sb7_9 sb7_7
    · exact kit_no ty10 is10 sb7_10 sb7_7
  have XM7 : PySem.W.exmOne K (.ref C7) (.ref CH) = some true := PySem.W.exm_ref exH hdH tyH sb7_H
  have EC8 : ErrC K C8 := ⟨⟨ga8, gg8, ex8, hd8, cc8, spc, tkc, mo8⟩, ⟨ga8, gg8, ex8, hd8⟩⟩
  have KC8 : KindC K CH [C0, C1, C2, C3, C4, C5, C6, C7, C8, C9, C10] 8 := by
    refine ⟨by decide, EC8, fun j hj => ?_, kit_yes tyH isH sb8_H, kit_val sv8, nP8, nS8⟩
    rcases (show j = 0 ∨ j = 1 ∨ j = 2 ∨ j = 3 ∨ j = 4 ∨ j = 5 ∨ j = 6 ∨ j = 7 ∨ j = 8 ∨ j = 9 ∨ j = 10 by omega) with rfl | rfl | rfl | rfl | rfl | rfl | rfl | rfl | rfl | rfl | rfl
    · exact kit_no ty0 is0 sb8_0 sb8_8
    · exact kit_no ty1 is1 sb8_1 sb8_8
    · exact kit_no ty2 is2 sb8_2 sb8_8
    · exact kit_no ty3 is3 sb8_3 sb8_8
    · exact kit_no ty4 is4 sb8_4 sb8_8
    · exact kit_no ty5 is5 sb8_5 sb8_8
    · exact kit_no ty6 is6 sb8_6 sb8_8
    · exact kit_no ty7 is7 sb8_7 sb8_8
    · exact kit_yes ty8 is8 sb8_8
    · exact kit_no ty9 is9 sb8_9 sb8_8
    · exact kit_no ty10 is10 sb8_10 sb8_8
  have XM8 : PySem.W.exmOne K (.ref C8) (.ref CH) = some true := PySem.W.exm_ref exH hdH tyH sb8_H
  have EC9 : ErrC K C9 := ⟨⟨ga9, gg9, ex9, hd9, cc9, spc, tkc, mo9⟩, ⟨ga9, gg9, ex9, hd9⟩⟩
  have KC9 : KindC K CH [C0, C1, C2, C3, C4, C5, C6, C7, C8, C9, C10] 9 := by
    refine ⟨by decide, EC9, fun j hj => ?_, kit_yes tyH isH sb9_H, kit_val sv9, nP9, nS9⟩
    rcases (show j = 0 ∨ j = 1 ∨ j = 2 ∨ j = 3 ∨ j = 4 ∨ j = 5 ∨ j = 6 ∨ j = 7 ∨ j = 8 ∨ j = 9 ∨ j = 10 by omega) with rfl | rfl | rfl | rfl | rfl | rfl | rfl | rfl | rfl | rfl | rfl
    · exact kit_no ty0 is0 sb9_0 sb9_9
    · exact kit_no ty1 is1 sb9_1 sb9_9
    · exact kit_no ty2 is2 sb9_2 sb9_9
    · exact kit_no ty3 is3 sb9_3 sb9_9
    · exact kit_no ty4 is4 sb9_4 sb9_9
    · exact kit_no ty5 is5 sb9_5 sb9_9
    · exact kit_no ty6 is6 sb9_6 sb9_9
    · exact kit_no ty7 is7 sb9_7 sb9_9
    · exact kit_no ty8 is8 sb9_8 sb9_9
    · exact kit_yes ty9 is9 sb9_9
    · exact kit_no ty10 is10 sb9_10 sb9_9
  have XM9 : PySem.W.exmOne K (.ref C9) (.ref CH) = some true := PySem.W.exm_ref exH hdH tyH sb9_H
  have EC10 : ErrC K C10 := ⟨⟨ga10, gg10, ex10, hd10, cc10, spc, tkc, mo10⟩, ⟨ga10, gg10, ex10, hd10⟩⟩
  have KC10 : KindC K CH [C0, C1, C2, C3, C4, C5, C6, C7, C8, C9, C10] 10 := by
    refine ⟨by decide, EC10, fun j hj => ?_, kit_yes tyH isH sb10_H, kit_val sv10, nP10, nS10⟩
    rcases (show j = 0 ∨ j = 1 ∨ j = 2 ∨ j = 3 ∨ j = 4 ∨ j = 5 ∨ j = 6 ∨ j = 7 ∨ j = 8 ∨ j = 9 ∨ j = 10 by omega) with rfl | rfl | rfl | rfl | rfl | rfl | rfl | rfl | rfl | rfl | rfl
    · exact kit_no ty0 is0 sb10_0 sb10_10
    · exact kit_no ty1 is1 sb10_1 sb10_10
    · exact kit_no ty2 is2 sb10_2 sb10_10
    · exact kit_no ty3 is3 sb10_3 sb10_10
    · exact kit_no ty4 is4 sb10_4 sb10_10
    · exact kit_no ty5 is5 sb10_5 sb10_10
    · exact kit_no ty6 is6 sb10_6 sb10_10
    · exact kit_no ty7 is7 sb10_7 sb10_10
    · exact kit_no ty8 is8 sb10_8 sb10_10
    · exact kit_no ty9 is9 sb10_9 sb10_10
    · exact kit_yes ty10 is10 sb10_10
  have XM10 : PySem.W.exmOne K (.ref C10) (.ref CH) = some true := PySem.W.exm_ref exH hdH tyH sb10_H
  have OX0 : OexC K C0 := ⟨⟨nm0, qn0, N0, bs0, _, sn0, su0, ab0, co0, dd0, m00, m10, m20, m30, m50, xL0, (show PySem.HandSPX.refsVE [.type "ValueError", .type "Exception", .type "BaseException", .type "object"] = true by decide +kernel)⟩, sa0, ex0, ty0, kC0⟩
  have IC0 : ∃ J, InitC l.prog K mg C0 fI0 "NoLetter.__init__" "place" ((inClass (topS 2) 0)) J (PySem.W.ksFn "__init__" "NoLetter.__init__" (defArgs (inClass (topS 2) 0)) (defBody (inClass (topS 2) 0)) (defScope (inClass (topS 2) 0)) .none kVI0 dcI0 pmI0 anI0 (.ref cda0) ctI0 cel0) := by
    refine ⟨_, ⟨OX0, iC0, tI0, nP0, su_0, sv0, mm0, opq, PySem.W.mg_none_of X G zsu, htop, ⟨_, _, _, _, _, _, _, _, _, _, rfl, lI0, cI0, ⟨_, _, _, ce0⟩, _, _, _, _, _, _, co_0, hv0, hf0⟩, .all fun us hl => match us, hl with | [_, _], _ => rfl, nscope_by (by decide +kernel), rfl, rfl, rfl, rfl, by decide, by decide, ⟨_, _, _, _, _, _, _, _, _, rfl, fun env => ⟨_, rfl⟩, fun env => rfl, fun env => rfl, fun env => rfl⟩, ?_⟩⟩
    exact txt_two rfl (by decide) (by decide) (by decide +kernel)
  have OX1 : OexC K C1 := ⟨⟨nm1, qn1, N1, bs1, _, sn1, su1, ab1, co1, dd1, m01, m11, m21, m31, m51, xL1, (show PySem.HandSPX.refsVE [.type "ValueError", .type "Exception", .type "BaseException", .type "object"] = true by decide +kernel)⟩, sa1, ex1, ty1, kC1⟩
  have IC1 : ∃ J, InitC l.prog K mg C1 fI1 "NotShut.__init__" "place" ((inClass (topS 3) 0)) J (PySem.W.ksFn "__init__" "NotShut.__init__" (defArgs (inClass (topS 3) 0)) (defBody (inClass (topS 3) 0)) (defScope (inClass (topS 3) 0)) .none kVI1 dcI1 pmI1 anI1 (.ref cda1) ctI1 cel1) := by
    refine ⟨_, ⟨OX1, iC1, tI1, nP1, su_1, sv1, mm1, opq, PySem.W.mg_none_of X G zsu, htop, ⟨_, _, _, _, _, _, _, _, _, _, rfl, lI1, cI1, ⟨_, _, _, ce1⟩, _, _, _, _, _, _, co_1, hv1, hf1⟩, .all fun us hl => match us, hl with | [_, _], _ => rfl, nscope_by (by decide +kernel), rfl, rfl, rfl, rfl, by decide, by decide, ⟨_, _, _, _, _, _, _, _, _, rfl, fun env => ⟨_, rfl⟩, fun env => rfl, fun env => rfl, fun env => rfl⟩, ?_⟩⟩
    exact txt_two rfl (by decide) (by decide) (by decide +kernel)
  have OX2 : OexC K C2 := ⟨⟨nm2, qn2, N2, bs2, _, sn2, su2, ab2, co2, dd2, m02, m12, m22, m32, m52, xL2, (show PySem.HandSPX.refsVE [.type "ValueError", .type "Exception", .type "BaseException", .type "object"] = true by decide +kernel)⟩, sa2, ex2, ty2, kC2⟩
  have IC2 : ∃ J, InitC l.prog K mg C2 fI2 "TooLong.__init__" "size" ((inClass (topS 6) 0)) J (PySem.W.ksFn "__init__" "TooLong.__init__" (defArgs (inClass (topS 6) 0)) (defBody (inClass (topS 6) 0)) (defScope (inClass (topS 6) 0)) .none kVI2 dcI2 pmI2 anI2 (.ref cda2) ctI2 cel2) := by
    refine ⟨_, ⟨OX2, iC2, tI2, nS2, su_2, sv2, mm2, opq, PySem.W.mg_none_of X G zsu, htop, ⟨_, _, _, _, _, _, _, _, _, _, rfl, lI2, cI2, ⟨_, _, _, ce2⟩, _, _, _, _, _, _, co_2, hv2, hf2⟩, .all fun us hl => match us, hl with | [_, _], _ => rfl, nscope_by (by decide +kernel), rfl, rfl, rfl, rfl, by decide, by decide, ⟨_, _, _, _, _, _, _, _, _, rfl, fun env => ⟨_, rfl⟩, fun env => rfl, fun env => rfl, fun env => rfl⟩, ?_⟩⟩
    exact txt_three rfl (by decide) (by decide) (by decide +kernel)
  have OX3 : OexC K C3 := ⟨⟨nm3, qn3, N3, bs3, _, sn3, su3, ab3, co3, dd3, m03, m13, m23, m33, m53, xL3, (show PySem.HandSPX.refsVE [.type "ValueError", .type "Exception", .type "BaseException", .type "object"] = true by decide +kernel)⟩, sa3, ex3, ty3, kC3⟩
  have IC3 : ∃ J, InitC l.prog K mg C3 fI3 "NoChoice.__init__" "place" ((inClass (topS 4) 0)) J (PySem.W.ksFn "__init__" "NoChoice.__init__" (defArgs (inClass (topS 4) 0)) (defBody (inClass (topS 4) 0)) (defScope (inClass (topS 4) 0)) .none kVI3 dcI3 pmI3 anI3 (.ref cda3) ctI3 cel3) := by
    refine ⟨_, ⟨OX3, iC3, tI3, nP3, su_3, sv3, mm3, opq, PySem.W.mg_none_of X G zsu, htop, ⟨_, _, _, _, _, _, _, _, _, _, rfl, lI3, cI3, ⟨_, _, _, ce3⟩, _, _, _, _, _, _, co_3, hv3, hf3⟩, .all fun us hl => match us, hl with | [_, _], _ => rfl, nscope_by (by decide +kernel), rfl, rfl, rfl, rfl, by decide, by decide, ⟨_, _, _, _, _, _, _, _, _, rfl, fun env => ⟨_, rfl⟩, fun env => rfl, fun env => rfl, fun env => rfl⟩, ?_⟩⟩
    exact txt_two rfl (by decide) (by decide) (by decide +kernel)
  have OX4 : OexC K C4 := ⟨⟨nm4, qn4, N4, bs4, _, sn4, su4, ab4, co4, dd4, m04, m14, m24, m34, m54, xL4, (show PySem.HandSPX.refsVE [.type "ValueError", .type "Exception", .type "BaseException", .type "object"] = true by decide +kernel)⟩, sa4, ex4, ty4, kC4⟩
  have IC4 : ∃ J, InitC l.prog K mg C4 fI4 "NoText.__init__" "place" ((inClass (topS 5) 0)) J (PySem.W.ksFn "__init__" "NoText.__init__" (defArgs (inClass (topS 5) 0)) (defBody (inClass (topS 5) 0)) (defScope (inClass (topS 5) 0)) .none kVI4 dcI4 pmI4 anI4 (.ref cda4) ctI4 cel4) := by
    refine ⟨_, ⟨OX4, iC4, tI4, nP4, su_4, sv4, mm4, opq, PySem.W.mg_none_of X G zsu, htop, ⟨_, _, _, _, _, _, _, _, _, _, rfl, lI4, cI4, ⟨_, _, _, ce4⟩, _, _, _, _, _, _, co_4, hv4, hf4⟩, .all fun us hl => match us, hl with | [_, _], _ => rfl, nscope_by (by decide +kernel), rfl, rfl, rfl, rfl, by decide, by decide, ⟨_, _, _, _, _, _, _, _, _, rfl, fun env => ⟨_, rfl⟩, fun env => rfl, fun env => rfl, fun env => rfl⟩, ?_⟩⟩
    exact txt_two rfl (by decide) (by decide) (by decide +kernel)
  refine ⟨PySem.W.fnOf "law" "law" (defArgs sLaw) (defBody sLaw) (defScope sLaw) .none kV18 dc18 pm18 an18 cd18 ct18, fun s v => .of_eq rfl, fun base _ _ => ?_⟩
  have PK : ∀ k, FnOk l.prog w K mg base CX0 (k + 2) _ _ _ spPick := fun k => ok_pick (k := k) F10 F8 b8 g8 mlen
  have PW : FnOk l.prog w K mg base CX0 11 _ _ _ spPickW := ok_pickW (k := 9) F10 F8 b8 g8 mlen
  have OD : ∀ k, FnOk l.prog w K mg base CX0 (k + 1) _ _ _ spOrder := fun k => ok_order (k := k) F13 mlist
  have TS : LetC l.prog K mg C0 fI0 _ := ⟨PySem.W.mg_of X G aC0, IC0⟩
  have NW : ∀ k, FnOk l.prog w K mg base (L2.CX l.prog w) (k + 3) _ _ _ (spNeedWord K C0) := fun k => ok_needWord (k := k) F1 F0 b0 g0 menumerate TS
  have AN : ∀ k, FnOk l.prog w K mg base (L2.CX l.prog w) (k + 4) _ _ _ (spBad K C0) := fun k => ok_AnswersB (k := k + 2) (fA := 0) (fdA := default) F2 F1 (NW k) b1 g1
  have DO : FnOk l.prog w K mg base (L2.CX l.prog w) 10 _ _ _ (spBad K C0) := ok_DepthOfB (k := 8) (fA := 0) (fdA := default) F6 F1 (NW 6) b1 g1
  have NS : FnOk l.prog w K mg base (L2.CX l.prog w) 9 _ _ _ (spBad K C0) := ok_NeedShutB (k := 7) (fA := 0) (fdA := default) F4 F2 (AN 4) b2 g2
  have BO : FnOk l.prog w K mg base (L2.CX l.prog w) 10 _ _ _ (spBad K C0) := ok_BoughsB (k := 8) (fA := 0) (fdA := default) F7 F4 NS b4 g4
  have IS : FnOk l.prog w K mg base (L2.CX l.prog w) 10 _ _ _ (spBad K C0) := ok_IsShutB (k := 8) F5 F2 (AN 5) b2 g2 F3 b3 g3
  have KCC : ∀ i, i < 11 → KindC K CH [C0, C1, C2, C3, C4, C5, C6, C7, C8, C9, C10] i := fun i hi => by
    rcases (show i = 0 ∨ i = 1 ∨ i = 2 ∨ i = 3 ∨ i = 4 ∨ i = 5 ∨ i = 6 ∨ i = 7 ∨ i = 8 ∨ i = 9 ∨ i = 10 by omega) with rfl | rfl | rfl | rfl | rfl | rfl | rfl | rfl | rfl | rfl | rfl
    · exact KC0
    · exact KC1
    · exact KC2
    · exact KC3
    · exact KC4
    · exact KC5
    · exact KC6
    · exact KC7
    · exact KC8
    · exact KC9
    · exact KC10
  have TL : FnOk l.prog w K mg base CX0 11 _ _ _ (spTold K) := ok_told (k := 9) (cs := [C0, C1, C2, C3, C4, C5, C6, C7, C8, C9, C10]) F16 ⟨g2, _, _, AN 6, F2.kp, b2⟩ ⟨g5, _, _, IS, F5.kp, b5⟩ ⟨g6, _, _, DO, F6.kp, b6⟩ ⟨g7, _, _, BO, F7.kp, b7⟩ F14 b14 g14 KM KC0 XM0
  have ST : FnOk l.prog w K mg base CX0 11 _ _ _ spStrange := ok_strange (k := 9) F15 F13 (OD 9) b13 g13 mlen mrange
  have ER : FnOk l.prog w K mg base CX0 11 _ _ _ spEr := ok_er (k := 8) (cs := [C0, C1, C2, C3, C4, C5, C6, C7, C8, C9, C10]) F17 F14 b14 g14 KM KCC IC0 IC1 IC2 IC3 IC4 xV5 kC5 xV6 kC6 xV7 kC7 xV8 kC8 xV9 kC9 xV10 kC10 menumerate mint
  have G1 : FnOk l.prog w K mg base CX0 11 _ _ _ (spPot K) := ok_pot (k := 10) F9 mlist menumerate
  have GL : FnOk l.prog w K mg base CX0 10 _ _ _ spLetters := ok_letters (k := 8) F11 F10 (PK 7) b10 g10 mlen mrange
  have G2 : FnOk l.prog w K mg base CX0 11 _ _ _ spSheet := ok_sheet (k := 8) F12 F10 (PK 7) b10 g10 F11 GL b11 g11 mmin mtuple
  exact ok_law (k := 10) F18 F9 G1 b9 g9 F12 G2 b12 g12 F13 (OD 10) b13 g13 F10 (PK 9) b10 g10 F15 ST b15 g15 F16 TL b16 g16 F17 ER b17 g17 PW mlen mlist mmin mrange
end Eh
open PySem PySem.W PyProof.Rows
set_option maxHeartbeats 0 in
theorem PySem.Challenge.cw_echohall_k05_words_refused_holds : PySem.Challenge.rw_echohall_k05_words_refused.Holds := by
  w_on; o_law; k_head; (case hw => w_witness2)
  k_fill
  refine L2.walk_of (l := PySem.Challenge.rw_echohall_k05_words_refused) (n := 63) (k := 12) (x := "script") (CX := fun _ => L2.CX0) (sp := fun w => Eh.spLaw _) rfl (by decide) rfl ⟨rfl, by decide, by decide⟩ (fun w h Y => PySem.W.kIn_of Y) ?F (fun _ _ a ns hl _ hS => ⟨a, ns, rfl, hS, hl, fun _ => rfl⟩) (fun _ _ _ _ _ h => h)
  case F =>
    intro w mg fa h KX G hmg
    refine' Eh.all_mk KX G hmg ?a0 ?l0 ?c0 ?k0 ?a1 ?l1 ?c1 ?k1 ?a2 ?l2 ?c2 ?k2 ?a3 ?l3 ?c3 ?k3 ?a4 ?l4 ?c4 ?k4 ?a5 ?l5 ?c5 ?k5 ?a6 ?l6 ?c6 ?k6 ?a7 ?l7 ?c7 ?k7 ?a8 ?l8 ?c8 ?k8 ?a9 ?l9 ?c9 ?k9 ?a10 ?l10 ?c10 ?k10 ?a11 ?l11 ?c11 ?k11 ?a12 ?l12 ?c12 ?k12 ?a13 ?l13 ?c13 ?k13 ?a14 ?l14 ?c14 ?k14 ?a15 ?l15 ?c15 ?k15 ?a16 ?l16 ?c16 ?k16 ?a17 ?l17 ?c17 ?k17 ?a18 ?l18 ?c18 ?k18 ?z0 ?z1 ?z2 ?z3 ?z4 ?z5 ?z6 ?z7 ?z8 ?aH ?aC0 ?aC1 ?aC2 ?aC3 ?aC4 ?aC5 ?aC6 ?aC7 ?aC8 ?aC9 ?aC10 ?ty0 ?is0 ?ty1 ?is1 ?ty2 ?is2 ?ty3 ?is3 ?ty4 ?is4 ?ty5 ?is5 ?ty6 ?is6 ?ty7 ?is7 ?ty8 ?is8 ?ty9 ?is9 ?ty10 ?is10 ?tyH ?isH ?exH ?hdH ?spc ?tkc ?sb0_0 ?sb0_1 ?sb0_2 ?sb0_3 ?sb0_4 ?sb0_5 ?sb0_6 ?sb0_7 ?sb0_8 ?sb0_9 ?sb0_10 ?sb0_H ?sv0 ?ex0 ?hd0 ?ga0 ?gg0 ?cc0 ?mo0 ?nP0 ?nS0 ?sb1_0 ?sb1_1 ?sb1_2 ?sb1_3 ?sb1_4 ?sb1_5 ?sb1_6 ?sb1_7 ?sb1_8 ?sb1_9 ?sb1_10 ?sb1_H ?sv1 ?ex1 ?hd1 ?ga1 ?gg1 ?cc1 ?mo1 ?nP1 ?nS1 ?sb2_0 ?sb2_1 ?sb2_2 ?sb2_3 ?sb2_4 ?sb2_5 ?sb2_6 ?sb2_7 ?sb2_8 ?sb2_9 ?sb2_10 ?sb2_H ?sv2 ?ex2 ?hd2 ?ga2 ?gg2 ?cc2 ?mo2 ?nP2 ?nS2 ?sb3_0 ?sb3_1 ?sb3_2 ?sb3_3 ?sb3_4 ?sb3_5 ?sb3_6 ?sb3_7 ?sb3_8 ?sb3_9 ?sb3_10 ?sb3_H ?sv3 ?ex3 ?hd3 ?ga3 ?gg3 ?cc3 ?mo3 ?nP3 ?nS3 ?sb4_0 ?sb4_1 ?sb4_2 ?sb4_3 ?sb4_4 ?sb4_5 ?sb4_6 ?sb4_7 ?sb4_8 ?sb4_9 ?sb4_10 ?sb4_H ?sv4 ?ex4 ?hd4 ?ga4 ?gg4 ?cc4 ?mo4 ?nP4 ?nS4 ?sb5_0 ?sb5_1 ?sb5_2 ?sb5_3 ?sb5_4 ?sb5_5 ?sb5_6 ?sb5_7 ?sb5_8 ?sb5_9 ?sb5_10 ?sb5_H ?sv5 ?ex5 ?hd5 ?ga5 ?gg5 ?cc5 ?mo5 ?nP5 ?nS5 ?sb6_0 ?sb6_1 ?sb6_2 ?sb6_3 ?sb6_4 ?sb6_5 ?sb6_6 ?sb6_7 ?sb6_8 ?sb6_9 ?sb6_10 ?sb6_H ?sv6 ?ex6 ?hd6 ?ga6 ?gg6 ?cc6 ?mo6 ?nP6 ?nS6 ?sb7_0 ?sb7_1 ?sb7_2 ?sb7_3 ?sb7_4 ?sb7_5 ?sb7_6 ?sb7_7 ?sb7_8 ?sb7_9 ?sb7_10 ?sb7_H ?sv7 ?ex7 ?hd7 ?ga7 ?gg7 ?cc7 ?mo7 ?nP7 ?nS7 ?sb8_0 ?sb8_1 ?sb8_2 ?sb8_3 ?sb8_4 ?sb8_5 ?sb8_6 ?sb8_7 ?sb8_8 ?sb8_9 ?sb8_10 ?sb8_H ?sv8 ?ex8 ?hd8 ?ga8 ?gg8 ?cc8 ?mo8 ?nP8 ?nS8 ?sb9_0 ?sb9_1 ?sb9_2 ?sb9_3 ?sb9_4 ?sb9_5 ?sb9_6 ?sb9_7 ?sb9_8 ?sb9_9 ?sb9_10 ?sb9_H ?sv9 ?ex9 ?hd9 ?ga9 ?gg9 ?cc9 ?mo9 ?nP9 ?nS9 ?sb10_0 ?sb10_1 ?sb10_2 ?sb10_3 ?sb10_4 ?sb10_5 ?sb10_6 ?sb10_7 ?sb10_8 ?sb10_9 ?sb10_10 ?sb10_H ?sv10 ?ex10 ?hd10 ?ga10 ?gg10 ?cc10 ?mo10 ?nP10 ?nS10 ?xV5 ?kC5 ?xV6 ?kC6 ?xV7 ?kC7 ?xV8 ?kC8 ?xV9 ?kC9 ?xV10 ?kC10 ?zsu ?opq ?htop ?xL0 ?sa0 ?kC0 ?iC0 ?tI0 ?mm0 ?lI0 ?cI0 ?ce0 ?co_0 ?hv0 ?hf0 ?su_0 ?xL1 ?sa1 ?kC1 ?iC1 ?tI1 ?mm1 ?lI1 ?cI1 ?ce1 ?co_1 ?hv1 ?hf1 ?su_1 ?xL2 ?sa2 ?kC2 ?iC2 ?tI2 ?mm2 ?lI2 ?cI2 ?ce2 ?co_2 ?hv2 ?hf2 ?su_2 ?xL3 ?sa3 ?kC3 ?iC3 ?tI3 ?mm3 ?lI3 ?cI3 ?ce3 ?co_3 ?hv3 ?hf3 ?su_3 ?xL4 ?sa4 ?kC4 ?iC4 ?tI4 ?mm4 ?lI4 ?cI4 ?ce4 ?co_4 ?hv4 ?hf4 ?su_4
    (case a0 => k_is)
    (case l0 => k_is)
    (case c0 => k_is)
    (case k0 => k_is)
    (case a1 => k_is)
    (case l1 => k_is)
    (case c1 => k_is)
    (case k1 => k_is)
    (case a2 => k_is)
    (case l2 => k_is)
    (case c2 => k_is)
    (case k2 => k_is)
    (case a3 => k_is)
    (case l3 => k_is)
    (case c3 => k_is)
    (case k3 => k_is)
    (case a4 => k_is)
    (case l4 => k_is)
    (case c4 => k_is)
    (case k4 => k_is)
    (case a5 => k_is)
    (case l5 => k_is)
    (case c5 => k_is)
    (case k5 => k_is)
    (case a6 => k_is)
    (case l6 => k_is)
    (case c6 => k_is)
    (case k6 => k_is)
    (case a7 => k_is)
    (case l7 => k_is)
    (case c7 => k_is)
    (case k7 => k_is)
    (case a8 => k_is)
    (case l8 => k_is)
    (case c8 => k_is)
    (case k8 => k_is)
    (case a9 => k_is)
    (case l9 => k_is)
    (case c9 => k_is)
    (case k9 => k_is)
    (case a10 => k_is)
    (case l10 => k_is)
    (case c10 => k_is)
    (case k10 => k_is)
    (case a11 => k_is)
    (case l11 => k_is)
    (case c11 => k_is)
    (case k11 => k_is)
    (case a12 => k_is)
    (case l12 => k_is)
    (case c12 => k_is)
    (case k12 => k_is)
    (case a13 => k_is)
    (case l13 => k_is)
    (case c13 => k_is)
    (case k13 => k_is)
    (case a14 => k_is)
    (case l14 => k_is)
    (case c14 => k_is)
    (case k14 => k_is)
    (case a15 => k_is)
    (case l15 => k_is)
    (case c15 => k_is)
    (case k15 => k_is)
    (case a16 => k_is)
    (case l16 => k_is)
    (case c16 => k_is)
    (case k16 => k_is)
    (case a17 => k_is)
    (case l17 => k_is)
    (case c17 => k_is)
    (case k17 => k_is)
    (case a18 => k_is)
    (case l18 => k_is)
    (case c18 => k_is)
    (case k18 => k_is)
    (case z0 => k_is)
    (case z1 => k_is)
    (case z2 => k_is)
    (case z3 => k_is)
    (case z4 => k_is)
    (case z5 => k_is)
    (case z6 => k_is)
    (case z7 => k_is)
    (case z8 => k_is)
    (case aH => k_is)
    (case aC0 => k_is)
    (case aC1 => k_is)
    (case aC2 => k_is)
    (case aC3 => k_is)
    (case aC4 => k_is)
    (case aC5 => k_is)
    (case aC6 => k_is)
    (case aC7 => k_is)
    (case aC8 => k_is)
    (case aC9 => k_is)
    (case aC10 => k_is)
    (case ty0 => k_is)
    (case is0 => k_is)
    (case ty1 => k_is)
    (case is1 => k_is)
    (case ty2 => k_is)
    (case is2 => k_is)
    (case ty3 => k_is)
    (case is3 => k_is)
    (case ty4 => k_is)
    (case is4 => k_is)
    (case ty5 => k_is)
    (case is5 => k_is)
    (case ty6 => k_is)
    (case is6 => k_is)
    (case ty7 => k_is)
    (case is7 => k_is)
    (case ty8 => k_is)
    (case is8 => k_is)
    (case ty9 => k_is)
    (case is9 => k_is)
    (case ty10 => k_is)
    (case is10 => k_is)
    (case tyH => k_is)
    (case isH => k_is)
    (case exH => k_is)
    (case hdH => k_is)
    (case spc => k_is)
    (case tkc => k_is)
    (case sb0_0 => first | rfl | k_is)
    (case sb0_1 => k_is)
    (case sb0_2 => k_is)
    (case sb0_3 => k_is)
    (case sb0_4 => k_is)
    (case sb0_5 => k_is)
    (case sb0_6 => k_is)
    (case sb0_7 => k_is)
    (case sb0_8 => k_is)
    (case sb0_9 => k_is)
    (case sb0_10 => k_is)
    (case sb0_H => k_is)
    (case sv0 => k_is)
    (case ex0 => k_is)
    (case hd0 => k_is)
    (case ga0 => k_is)
    (case gg0 => k_is)
    (case cc0 => k_is)
    (case mo0 => k_is)
    (case nP0 => k_is)
    (case nS0 => k_is)
    (case sb1_0 => k_is)
    (case sb1_1 => first | rfl | k_is)
    (case sb1_2 => k_is)
    (case sb1_3 => k_is)
    (case sb1_4 => k_is)
    (case sb1_5 => k_is)
    (case sb1_6 => k_is)
    (case sb1_7 => k_is)
    (case sb1_8 => k_is)
    (case sb1_9 => k_is)
    (case sb1_10 => k_is)
    (case sb1_H => k_is)
    (case sv1 => k_is)
    (case ex1 => k_is)
    (case hd1 => k_is)
    (case ga1 => k_is)
    (case gg1 => k_is)
    (case cc1 => k_is)
    (case mo1 => k_is)
    (case nP1 => k_is)
    (case nS1 => k_is)
    (case sb2_0 => k_is)
    (case sb2_1 => k_is)
    (case sb2_2 => first | rfl | k_is)
    (case sb2_3 => k_is)
    (case sb2_4 => k_is)
    (case sb2_5 => k_is)
    (case sb2_6 => k_is)
    (case sb2_7 => k_is)
    (case sb2_8 => k_is)
    (case sb2_9 => k_is)
    (case sb2_10 => k_is)
    (case sb2_H => k_is)
    (case sv2 => k_is)
    (case ex2 => k_is)
    (case hd2 => k_is)
    (case ga2 => k_is)
    (case gg2 => k_is)
    (case cc2 => k_is)
    (case mo2 => k_is)
    (case nP2 => k_is)
    (case nS2 => k_is)
    (case sb3_0 => k_is)
    (case sb3_1 => k_is)
    (case sb3_2 => k_is)
    (case sb3_3 => first | rfl | k_is)
    (case sb3_4 => k_is)
    (case sb3_5 => k_is)
    (case sb3_6 => k_is)
    (case sb3_7 => k_is)
    (case sb3_8 => k_is)
    (case sb3_9 => k_is)
    (case sb3_10 => k_is)
    (case sb3_H => k_is)
    (case sv3 => k_is)
    (case ex3 => k_is)
    (case hd3 => k_is)
    (case ga3 => k_is)
    (case gg3 => k_is)
    (case cc3 => k_is)
    (case mo3 => k_is)
    (case nP3 => k_is)
    (case nS3 => k_is)
    (case sb4_0 => k_is)
    (case sb4_1 => k_is)
    (case sb4_2 => k_is)
    (case sb4_3 => k_is)
    (case sb4_4 => first | rfl | k_is)
    (case sb4_5 => k_is)
    (case sb4_6 => k_is)
    (case sb4_7 => k_is)
    (case sb4_8 => k_is)
    (case sb4_9 => k_is)
    (case sb4_10 => k_is)
    (case sb4_H => k_is)
    (case sv4 => k_is)
    (case ex4 => k_is)
    (case hd4 => k_is)
    (case ga4 => k_is)
    (case gg4 => k_is)
    (case cc4 => k_is)
    (case mo4 => k_is)
    (case nP4 => k_is)
    (case nS4 => k_is)
    (case sb5_0 => k_is)
    (case sb5_1 => k_is)
    (case sb5_2 => k_is)
    (case sb5_3 => k_is)
    (case sb5_4 => k_is)
    (case sb5_5 => first | rfl | k_is)
    (case sb5_6 => k_is)
    (case sb5_7 => k_is)
    (case sb5_8 => k_is)
    (case sb5_9 => k_is)
    (case sb5_10 => k_is)
    (case sb5_H => k_is)
    (case sv5 => k_is)
    (case ex5 => k_is)
    (case hd5 => k_is)
    (case ga5 => k_is)
    (case gg5 => k_is)
    (case cc5 => k_is)
    (case mo5 => k_is)
    (case nP5 => k_is)
    (case nS5 => k_is)
    (case sb6_0 => k_is)
    (case sb6_1 => k_is)
    (case sb6_2 => k_is)
    (case sb6_3 => k_is)
    (case sb6_4 => k_is)
    (case sb6_5 => k_is)
    (case sb6_6 => first | rfl | k_is)
    (case sb6_7 => k_is)
    (case sb6_8 => k_is)
    (case sb6_9 => k_is)
    (case sb6_10 => k_is)
    (case sb6_H => k_is)
    (case sv6 => k_is)
    (case ex6 => k_is)
    (case hd6 => k_is)
    (case ga6 => k_is)
    (case gg6 => k_is)
    (case cc6 => k_is)
    (case mo6 => k_is)
    (case nP6 => k_is)
    (case nS6 => k_is)
    (case sb7_0 => k_is)
    (case sb7_1 => k_is)
    (case sb7_2 => k_is)
    (case sb7_3 => k_is)
    (case sb7_4 => k_is)
    (case sb7_5 => k_is)
    (case sb7_6 => k_is)
    (case sb7_7 => first | rfl | k_is)
    (case sb7_8 => k_is)
    (case sb7_9 => k_is)
    (case sb7_10 => k_is)
    (case sb7_H => k_is)
    (case sv7 => k_is)
    (case ex7 => k_is)
    (case hd7 => k_is)
    (case ga7 => k_is)
    (case gg7 => k_is)
    (case cc7 => k_is)
    (case mo7 => k_is)
    (case nP7 => k_is)
    (case nS7 => k_is)
    (case sb8_0 => k_is)
    (case sb8_1 => k_is)
    (case sb8_2 => k_is)
    (case sb8_3 => k_is)
    (case sb8_4 => k_is)
    (case sb8_5 => k_is)
    (case sb8_6 => k_is)
    (case sb8_7 => k_is)
    (case sb8_8 => first | rfl | k_is)
    (case sb8_9 => k_is)
    (case sb8_10 => k_is)
    (case sb8_H => k_is)
    (case sv8 => k_is)
    (case ex8 => k_is)
    (case hd8 => k_is)
    (case ga8 => k_is)
    (case gg8 => k_is)
    (case cc8 => k_is)
    (case mo8 => k_is)
    (case nP8 => k_is)
    (case nS8 => k_is)
    (case sb9_0 => k_is)
    (case sb9_1 => k_is)
    (case sb9_2 => k_is)
    (case sb9_3 => k_is)
    (case sb9_4 => k_is)
    (case sb9_5 => k_is)
    (case sb9_6 => k_is)
    (case sb9_7 => k_is)
    (case sb9_8 => k_is)
    (case sb9_9 => first | rfl | k_is)
    (case sb9_10 => k_is)
    (case sb9_H => k_is)
    (case sv9 => k_is)
    (case ex9 => k_is)
    (case hd9 => k_is)
    (case ga9 => k_is)
    (case gg9 => k_is)
    (case cc9 => k_is)
    (case mo9 => k_is)
    (case nP9 => k_is)
    (case nS9 => k_is)
    (case sb10_0 => k_is)
    (case sb10_1 => k_is)
    (case sb10_2 => k_is)
    (case sb10_3 => k_is)
    (case sb10_4 => k_is)
    (case sb10_5 => k_is)
    (case sb10_6 => k_is)
    (case sb10_7 => k_is)
    (case sb10_8 => k_is)
    (case sb10_9 => k_is)
    (case sb10_10 => first | rfl | k_is)
    (case sb10_H => k_is)
    (case sv10 => k_is)
    (case ex10 => k_is)
    (case hd10 => k_is)
    (case ga10 => k_is)
    (case gg10 => k_is)
    (case cc10 => k_is)
    (case mo10 => k_is)
    (case nP10 => k_is)
    (case nS10 => k_is)
    (case xV5 => k_exc)
    (case kC5 => k_is)
    (case xV6 => k_exc)
    (case kC6 => k_is)
    (case xV7 => k_exc)
    (case kC7 => k_is)
    (case xV8 => k_exc)
    (case kC8 => k_is)
    (case xV9 => k_exc)
    (case kC9 => k_is)
    (case xV10 => k_exc)
    (case kC10 => k_is)
    (case zsu => k_is)
    (case opq => k_is)
    (case htop => decide +kernel)
    (case xL0 => k_is)
    (case sa0 => k_is)
    (case kC0 => k_is)
    (case iC0 => k_is)
    (case tI0 => k_is)
    (case mm0 => first | rfl | k_is)
    (case lI0 => k_is)
    (case cI0 => k_is)
    (case ce0 => k_is)
    (case co_0 => k_is)
    (case hv0 => rfl)
    (case hf0 => decide +kernel)
    (case su_0 => ks_is)
    (case xL1 => k_is)
    (case sa1 => k_is)
    (case kC1 => k_is)
    (case iC1 => k_is)
    (case tI1 => k_is)
    (case mm1 => first | rfl | k_is)
    (case lI1 => k_is)
    (case cI1 => k_is)
    (case ce1 => k_is)
    (case co_1 => k_is)
    (case hv1 => rfl)
    (case hf1 => decide +kernel)
    (case su_1 => ks_is)
    (case xL2 => k_is)
    (case sa2 => k_is)
    (case kC2 => k_is)
    (case iC2 => k_is)
    (case tI2 => k_is)
    (case mm2 => first | rfl | k_is)
    (case lI2 => k_is)
    (case cI2 => k_is)
    (case ce2 => k_is)
    (case co_2 => k_is)
    (case hv2 => rfl)
    (case hf2 => decide +kernel)
    (case su_2 => ks_is)
    (case xL3 => k_is)
    (case sa3 => k_is)
    (case kC3 => k_is)
    (case iC3 => k_is)
    (case tI3 => k_is)
    (case mm3 => first | rfl | k_is)
    (case lI3 => k_is)
    (case cI3 => k_is)
    (case ce3 => k_is)
    (case co_3 => k_is)
    (case hv3 => rfl)
    (case hf3 => decide +kernel)
    (case su_3 => ks_is)
    (case xL4 => k_is)
    (case sa4 => k_is)
    (case kC4 => k_is)
    (case iC4 => k_is)
    (case tI4 => k_is)
    (case mm4 => first | rfl | k_is)
    (case lI4 => k_is)
    (case cI4 => k_is)
    (case ce4 => k_is)
    (case co_4 => k_is)
    (case hv4 => rfl)
    (case hf4 => decide +kernel)
    (case su_4 => ks_is)
